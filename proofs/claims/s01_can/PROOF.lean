import PyProof.Rows.All
import Wide.All
import OpenK.AllK
import Wide.FinOn
import PyProof.EqAt
import PyProof.EqKinds
import PyProof.TupleCall
import KE.BitLaws
import Open.SpecLaws
import KE.OsHead
import KE.OsGo
import PySem.Challenge.RW_straightseamsdesk_s01_can
section
-- CHANGE: your row's module here, as the last of these rows
set_option Elab.async false
set_option linter.all false
set_option maxRecDepth 100000
/-! THE HAND LAYER, for ints, bools, texts, own classes, lists, tuples, dicts, comprehensions, walks over dicts, enumerate, zip, reversed, texts, calls, loops. Paste it whole ahead of your own text; what your proof does not reach may be deleted. -/
namespace L2
open PySem PySem.Spec PyProof.Rows
/-- a key: an int or a str -/
abbrev Key := Sum Int Str
def keyIs : Key → Value → Bool
  | .inl k, v => Value.isInt k v
  | .inr x, v => Value.isStrOf x v
def keyH (w : World) : Key → Int
  | .inl k => hashInt k
  | .inr x => hashStr w x
theorem keyIs_shape : ∀ {k : Key} {v : Value}, keyIs k v = true → (∃ i t, k = Sum.inl i ∧ v = Value.int i t) ∨ (∃ x t, k = Sum.inr x ∧ v = Value.str x t)
  | .inl i, v, h => by
    obtain ⟨t, e⟩ := Value.isInt_shape (k := i) (v := v) h
    exact .inl ⟨i, t, rfl, e⟩
  | .inr x, v, h => by
    obtain ⟨t, e⟩ := Value.isStrOf_shape (x := x) (v := v) h
    exact .inr ⟨x, t, rfl, e⟩
theorem keyIs_int (i : Int) (t : Tok) : keyIs (.inl i) (.int i t) = true := by simp [keyIs, Value.isInt]
theorem keyIs_str (x : Str) (t : Tok) : keyIs (.inr x) (.str x t) = true := by simp [keyIs, Value.isStrOf]
theorem key_ll (a b : Int) : decide ((Sum.inl a : Key) = Sum.inl b) = (a == b) := by
  by_cases e : a = b
  · subst e; simp
  · have h : ¬ (Sum.inl a : Key) = Sum.inl b := fun q => e (Sum.inl.inj q)
    rw [decide_eq_false h]
    exact (beq_eq_false_iff_ne.mpr e).symm
theorem key_rr (a b : Str) : decide ((Sum.inr a : Key) = Sum.inr b) = decide (a = b) := by
  by_cases e : a = b
  · subst e; simp
  · have h : ¬ (Sum.inr a : Key) = Sum.inr b := fun q => e (Sum.inr.inj q)
    rw [decide_eq_false h, decide_eq_false e]
theorem key_lr (a : Int) (b : Str) : decide ((Sum.inl a : Key) = Sum.inr b) = false := decide_eq_false (fun q => nomatch q)
theorem key_rl (a : Str) (b : Int) : decide ((Sum.inr a : Key) = Sum.inl b) = false := decide_eq_false (fun q => nomatch q)
def mixKind (prog : Program) (w : World) : PySem.KeyKind prog w Key where
  is := keyIs
  hash := keyH w
  inj := fun v a b ha hb => by
    rcases keyIs_shape ha with ⟨i, t, rfl, rfl⟩ | ⟨x, t, rfl, rfl⟩
    · rcases keyIs_shape hb with ⟨j, u, rfl, e⟩ | ⟨y, u, rfl, e⟩
      · injection e with e1 _; rw [e1]
      · exact nomatch e
    · rcases keyIs_shape hb with ⟨j, u, rfl, e⟩ | ⟨y, u, rfl, e⟩
      · exact nomatch e
      · injection e with e1 _; rw [e1]
  byValue := fun k v h => by
    rcases keyIs_shape h with ⟨i, t, rfl, rfl⟩ | ⟨x, t, rfl, rfl⟩ <;> rfl
  pyHash := fun hv h => by
    rcases keyIs_shape hv with ⟨i, t, rfl, rfl⟩ | ⟨x, t, rfl, rfl⟩
    · exact wpAny_pyHash_int h
    · exact wpAny_pyHash_str h
  eqBool := fun hu hv h => by
    rcases keyIs_shape hu with ⟨i, t, rfl, rfl⟩ | ⟨x, t, rfl, rfl⟩
    · rcases keyIs_shape hv with ⟨j, u, rfl, rfl⟩ | ⟨y, u, rfl, rfl⟩
      · rw [key_ll] at h; exact wpAny_eqBool_int h
      · rw [key_lr] at h; exact SeqAt.EqAt.int_str i t y u _ _ _ _ h
    · rcases keyIs_shape hv with ⟨j, u, rfl, rfl⟩ | ⟨y, u, rfl, rfl⟩
      · rw [key_rl] at h; exact SeqAt.EqAt.str_int x t j u _ _ _ _ h
      · rw [key_rr] at h; exact wpAny_eqBool_str h
  «strs» := fun k x t v h => by
    rcases keyIs_shape h with ⟨i, u, rfl, e⟩ | ⟨y, u, rfl, e⟩
    · exact nomatch e
    · injection e with e1 _
      subst e1
      cases v <;> rfl
theorem mixKind_int (prog : Program) (w : World) (i : Int) (t : Tok) : (mixKind prog w).is (.inl i) (.int i t) = true := keyIs_int i t
theorem mixKind_str (prog : Program) (w : World) (x : Str) (t : Tok) : (mixKind prog w).is (.inr x) (.str x t) = true := keyIs_str x t
end L2
namespace L2
open PySem PySem.Spec PyProof.Rows
/-- a value, without the heap -/
inductive V where
  | non | bl (b : Bool) | int (i : Int) | str (x : Str) | byt (b : Array UInt8) | flt (b : UInt64) | ref (a : Addr) | ty (n : String)
  deriving DecidableEq
def RelV : V → Value → Prop
  | .non, u => u = Value.none
  | .bl b, u => u = Value.bool b
  | .int i, u => ∃ t, u = Value.int i t
  | .str x, u => ∃ t, u = Value.str x t
  | .byt b, u => ∃ t, u = Value.bytes b t
  | .flt b, u => ∃ t, u = Value.float b t
  | .ref a, u => u = Value.ref a
  | .ty n, u => u = Value.type n
abbrev Vals : List V → List Value → Prop := Paired RelV
theorem Vals.length {xs : List V} {us : List Value} (r : Vals xs us) : xs.length = us.length := Paired.length r
theorem Vals.get : ∀ {xs : List V} {us : List Value} {i : Nat} {x : V}, Vals xs us → xs[i]? = some x → ∃ u, us[i]? = some u ∧ RelV x u
  | _, _, _, _, .nil, e => by simp at e
  | _, _, 0, _, .cons r _, e => by simp at e; subst e; exact ⟨_, rfl, r⟩
  | _, _, i + 1, x, .cons _ t, e => by
    obtain ⟨u, h1, h2⟩ := Vals.get (i := i) (x := x) t (by simpa using e)
    exact ⟨u, by simpa using h1, h2⟩
theorem Vals.append : ∀ {xs ys : List V} {us ws : List Value}, Vals xs us → Vals ys ws → Vals (xs ++ ys) (us ++ ws)
  | _, _, _, _, .nil, s => s
  | _, _, _, _, .cons r t, s => .cons r (Vals.append t s)
def RelO : Option V → Option Value → Prop
  | some v, some u => RelV v u
  | none, none => True
  | _, _ => False
def KV {κ : Type} : List (κ × V) → List (κ × Value) → Prop := Paired fun (p : κ × V) (q : κ × Value) => p.1 = q.1 ∧ RelV p.2 q.2
/-- a key of a dict (00_mix): an int or a text -/
def kV : Key → V
  | .inl i => .int i
  | .inr x => .str x
/-- what stands at a tracked address -/
inductive HO where
  /-- a list -/
  | lst (xs : List V)
  /-- a tuple (never changes) -/
  | tup (xs : List V)
  /-- a dict whose keys are ints and texts; one whose keys are tuples of ints and texts (the empty one is both) -/
  | dK (kvs : List (Key × V)) | dT (kvs : List (List Key × V))
  /-- a set of ints: its members, its size -/
  | set (S : Int → Bool) (n : Nat)
  /-- an instance of the class at C, its dict at dx, its attributes -/
  | ins (C dx : Addr) (fs : List (Str × V))
  /-- the dict of the instance at x -/
  | own (x : Addr)
  /-- the dict of an exception -/
  | xd (fs : List (Str × V))
  /-- a bound method, f of x -/
  | met (f x : Addr)
  /-- a range object lo, lo + 1, .. below hi -/
  | rng (lo hi : Int)
  /-- a thing that is known to the object (the script; a dict while a loop walks it): read, never written while it is so -/
  | frz (o : Obj) (u : HO)
  /-- a code object's table -/
  | tbl (ps : Array Value)
  /-- any other thing, by what is true of its one object (a def of one's own: SetO a S n := HO.ext fun h => ..) -/
  | ext (φ : Heap → Prop)
abbrev Hp := Addr → Option HO
def upd (H : Hp) (a : Addr) (o : HO) : Hp := fun b => if b = a then some o else H b
theorem upd_same {H : Hp} {a : Addr} {o : HO} : upd H a o a = some o := by unfold upd; rw [if_pos rfl]
theorem upd_ne {H : Hp} {a b : Addr} {o : HO} (h : b ≠ a) : upd H a o b = H b := by unfold upd; rw [if_neg h]
theorem upd_upd {H : Hp} {a : Addr} {o u : HO} : upd (upd H a o) a u = upd H a u := by
  funext b; unfold upd; split <;> rfl
/-- two objects of different content stand apart -/
theorem ne_of {H : Hp} {a b : Addr} {o u : HO} (h : H a = some o) (h' : H b = some u) (d : o ≠ u) : a ≠ b := by
  intro e; subst e; rw [h] at h'; exact d (Option.some.inj h')
theorem ne_of_none {H : Hp} {a b : Addr} {o : HO} (h : H a = some o) (h' : H b = none) : a ≠ b := by
  intro e; subst e; rw [h] at h'; cases h'
section
variable (P : Program) (w : World)
def ObjOk (H : Hp) (h : Heap) (a : Addr) : HO → Prop
  | .lst xs => xs.length ≤ sizeLine ∧ ∃ (its : List Value) (n : Nat), Vals xs its ∧ h.get? a = some { cls := .type "list", data := .seq its.toArray n }
  | .tup xs => xs.length ≤ sizeLine ∧ ∃ its : List Value, Vals xs its ∧ IsTup h a its.toArray
  | .dK kvs => kvs.length ≤ sizeLine ∧ (a == sysModules) = false ∧ ∃ vs, KV kvs vs ∧ h.DictOf (mixKind P w) a vs
  | .dT kvs => kvs.length ≤ sizeLine ∧ (a == sysModules) = false ∧ ∃ xs : List (List Key × Addr × Value),
      Paired (fun (p : List Key × V) (q : List Key × Addr × Value) => p.1 = q.1 ∧ H q.2.1 = some (.tup (p.1.map kV)) ∧ RelV p.2 q.2.2) kvs xs ∧
      ∃ o es ep, h.get? a = some o ∧ o.ExactDict ∧ o.data = .dict es ep ∧ es.toList = xs.map (entryOfKey (tupleKind (mixKind P w))) ∧ (xs.map (·.1)).Nodup
  | .set S n => h.SetOf (intKind P w) a S n
  | .ins C dx fs => H dx = some (.own a) ∧ fs.length ≤ 1000 ∧ dx ≠ a ∧ h.get? a = some (PySem.W.instObj C dx) ∧
      ∃ mA, h.Ns1 dx mA ∧ (∀ f, RelO (fs.lookup f) (mA f)) ∧ PySem.Within mA (fs.map (·.1))
  | .own _ => ∃ o, h.get? a = some o
  | .xd fs => ∃ mA, h.Ns1 a mA ∧ ∀ f, RelO (fs.lookup f) (mA f)
  | .rng lo hi => ∃ t u v, h.get? a = some { cls := .type "range", data := .fields #[.int lo t, .int hi u, .int 1 v] }
  | .frz o u => h.get? a = some o ∧ ObjOk H h a u
  | .tbl ps => h.get? a = some { cls := .none, data := .fields ps }
  | .met f x => h.get? a = some (PySem.W.methodObj (.ref f) (.ref x))
  | .ext φ => φ h ∧ (∃ o, h.get? a = some o) ∧ ∀ h1 h2 : Heap, φ h1 → (∀ o, h1.get? a = some o → h2.get? a = some o) → φ h2
/-- the abstract heap is held -/
def HOk (H : Hp) (h : Heap) : Prop := ∀ a o, H a = some o → ObjOk P w H h a o
end
section
variable {P : Program} {w : World} {H H' : Hp} {h h' : Heap} {a : Addr} {o : HO}
theorem ObjOk.lt (x : ObjOk P w H h a o) : a < h.objs.size := by
  cases o with
  | lst xs => obtain ⟨_, _, _, _, e⟩ := x; exact Heap.lt_size e
  | tup xs => obtain ⟨_, _, _, p⟩ := x; exact p.lt
  | dK kvs => obtain ⟨_, _, _, _, o, _, _, e, _⟩ := x; exact Heap.lt_size e
  | dT kvs => obtain ⟨_, _, _, _, o, _, _, e, _⟩ := x; exact Heap.lt_size e
  | set S n => obtain ⟨o, _, _, _, e, _⟩ := x; exact Heap.lt_size e
  | ins C dx fs => obtain ⟨_, _, _, e, _⟩ := x; exact Heap.lt_size e
  | own y => obtain ⟨_, e⟩ := x; exact Heap.lt_size e
  | xd fs => obtain ⟨_, ⟨_, _, _, e, _⟩, _⟩ := x; exact Heap.lt_size e
  | rng lo hi => obtain ⟨_, _, _, e⟩ := x; exact Heap.lt_size e
  | frz ob u => obtain ⟨e, _⟩ := x; exact Heap.lt_size e
  | tbl ps => exact Heap.lt_size (show h.get? a = some _ from x)
  | met f y => exact Heap.lt_size (show h.get? a = some _ from x)
  | ext φ => obtain ⟨_, ⟨_, e⟩, _⟩ := x; exact Heap.lt_size e
theorem Paired.mapP {α β : Type} {F G : α → β → Prop} : ∀ {l₁ : List α} {l₂ : List β}, Paired F l₁ l₂ → (∀ a b, F a b → G a b) → Paired G l₁ l₂
  | _, _, .nil, _ => .nil
  | _, _, .cons r t, f => .cons (f _ _ r) (Paired.mapP t f)
/-- what an object's description leans on: its own object, its own dict, the tuples -/
theorem ObjOk.stay (x : ObjOk P w H h a o) (k : ∀ b u, (b = a ∨ H b = some (.own a)) → h.get? b = some u → h'.get? b = some u)
    (ho : ∀ b, H b = some (.own a) → H' b = some (.own a)) (ht : ∀ b xs, H b = some (.tup xs) → H' b = some (.tup xs)) : ObjOk P w H' h' a o := by
  induction o with
  | lst xs => obtain ⟨z, its, n, r, e⟩ := x; exact ⟨z, its, n, r, k _ _ (.inl rfl) e⟩
  | tup xs => obtain ⟨z, its, r, ob, e, c⟩ := x; exact ⟨z, its, r, ob, k _ _ (.inl rfl) e, c⟩
  | dK kvs => obtain ⟨z, y, vs, r, ob, es, ep, e, c⟩ := x; exact ⟨z, y, vs, r, ob, es, ep, k _ _ (.inl rfl) e, c⟩
  | dT kvs =>
    obtain ⟨z, y, xs, r, ob, es, ep, e, c⟩ := x
    exact ⟨z, y, xs, Paired.mapP r fun p q z => ⟨z.1, ht _ _ z.2.1, z.2.2⟩, ob, es, ep, k _ _ (.inl rfl) e, c⟩
  | set S n => obtain ⟨ob, es, ep, t, e, c⟩ := x; exact ⟨ob, es, ep, t, k _ _ (.inl rfl) e, c⟩
  | ins C dx fs =>
    obtain ⟨d, z, ne, e, mA, ⟨od, es, ep, e2, c⟩, r⟩ := x
    exact ⟨ho _ d, z, ne, k _ _ (.inl rfl) e, mA, ⟨od, es, ep, k _ _ (.inr d) e2, c⟩, r⟩
  | own y => obtain ⟨ob, e⟩ := x; exact ⟨ob, k _ _ (.inl rfl) e⟩
  | xd fs => obtain ⟨mA, ⟨od, es, ep, e, c⟩, r⟩ := x; exact ⟨mA, ⟨od, es, ep, k _ _ (.inl rfl) e, c⟩, r⟩
  | rng lo hi => obtain ⟨t, u, v, e⟩ := x; exact ⟨t, u, v, k _ _ (.inl rfl) e⟩
  | frz ob u ih => obtain ⟨e, q⟩ := x; exact ⟨k _ _ (.inl rfl) e, ih q⟩
  | tbl ps =>
    have e : h.get? a = some { cls := .none, data := .fields ps } := x
    show h'.get? a = some { cls := .none, data := .fields ps }
    exact k a _ (.inl rfl) e
  | met f y =>
    have e : h.get? a = some (PySem.W.methodObj (.ref f) (.ref y)) := x
    show h'.get? a = some (PySem.W.methodObj (.ref f) (.ref y))
    exact k a _ (.inl rfl) e
  | ext φ => obtain ⟨p, ⟨o, e⟩, st⟩ := x; exact ⟨st _ _ p fun o q => k _ _ (.inl rfl) q, ⟨o, k _ _ (.inl rfl) e⟩, st⟩
theorem HOk.lt (x : HOk P w H h) (e : H a = some o) : a < h.objs.size := (x a o e).lt
theorem HOk.fresh (x : HOk P w H h) (e : h.objs.size ≤ a) : H a = none := by
  cases q : H a with
  | none => rfl
  | some u => exact absurd (Nat.lt_of_lt_of_le (x.lt q) e) (Nat.lt_irrefl _)
/-- every object of the heap is kept -/
theorem HOk.kept (x : HOk P w H h) (k : ∀ b u, h.get? b = some u → h'.get? b = some u) : HOk P w H h' := fun a o e =>
  (x a o e).stay (fun b u _ q => k b u q) (fun _ q => q) fun _ _ q => q
/-- a new object is laid and tracked -/
theorem HOk.laid (x : HOk P w H h) (k : ∀ b u, h.get? b = some u → h'.get? b = some u) (hp : h.objs.size ≤ a) (new : ObjOk P w (upd H a o) h' a o) : HOk P w (upd H a o) h' := fun b u e => by
  have hn := x.fresh hp
  by_cases hb : b = a
  · subst hb; rw [upd_same] at e; cases e; exact new
  · rw [upd_ne hb] at e
    exact (x b u e).stay (fun c v _ q => k c v q) (fun c q => by rw [upd_ne (ne_of_none q hn)]; exact q) fun c xs q => by rw [upd_ne (ne_of_none q hn)]; exact q
end
/-- what may be read as u: it is u, or a known u -/
def Rd (H : Hp) (a : Addr) (u : HO) : Prop := H a = some u ∨ ∃ o, H a = some (.frz o u)
theorem Rd.ok {P : Program} {w : World} {H : Hp} {h : Heap} {a : Addr} {u : HO} (r : Rd H a u) (x : HOk P w H h) : ObjOk P w H h a u := by
  rcases r with r | ⟨o, r⟩
  · exact x a u r
  · obtain ⟨_, q⟩ := x a _ r
    exact q
/-- what may be written -/
def Mut : Option HO → Prop
  | some (.lst _) => True
  | some (.dK _) => True
  | some (.dT _) => True
  | some (.set _ _) => True
  | some (.ins _ _ _) => True
  | some (.ext _) => True
  | _ => False
section
variable {P : Program} {w : World} {H : Hp} {h h' : Heap} {x e : Addr} {o' : HO}
/-- the object at e is changed: x itself, or the dict of the instance x -/
theorem HOk.write (ok : HOk P w H h) (mu : Mut (H x)) (he : e = x ∨ H e = some (.own x)) (k : ∀ b u, b ≠ e → h.get? b = some u → h'.get? b = some u) (heo : ∃ u, h'.get? e = some u)
    (new : ObjOk P w (upd H x o') h' x o') : HOk P w (upd H x o') h' := fun b u q => by
  have nown : ∀ c y, H c = some (.own y) → c ≠ x := fun c y r z => by subst z; rw [r] at mu; exact mu
  have ntup : ∀ c xs, H c = some (.tup xs) → c ≠ x := fun c xs r z => by subst z; rw [r] at mu; exact mu
  by_cases hb : b = x
  · subst hb; rw [upd_same] at q; cases q; exact new
  · rw [upd_ne hb] at q
    by_cases hbe : b = e
    · have q' : H b = some (.own x) := by
        rcases he with z | z
        · exact absurd (hbe.trans z) hb
        · rw [hbe]; exact z
      rw [q] at q'; cases q'
      obtain ⟨v, hv⟩ := heo
      exact ⟨v, by rw [hbe]; exact hv⟩
    · refine (ok b u q).stay (fun c v hc r => k c v ?_ r) (fun c r => by rw [upd_ne (nown c b r)]; exact r) fun c xs r => by rw [upd_ne (ntup c xs r)]; exact r
      rcases hc with rfl | hc
      · exact hbe
      · rintro rfl
        rcases he with z | z
        · exact nown c b hc z
        · rw [hc] at z; cases z; exact hb rfl
end
/-! ### kept unless tracked; of the frames at fs (the callers') the slots may change (an exception that passes writes there); of the records at ex (iterators) nothing is said -/
structure Un (fs ex : List Addr) (H H' : Hp) (h h' : Heap) : Prop where
  keep : ∀ b o, h.get? b = some o → H b = none → b ∉ fs → b ∉ ex → h'.get? b = some o
  slot : ∀ b o, h.get? b = some o → H b = none → b ∈ fs → b ∉ ex → ∃ sl, h'.get? b = some { o with slots := sl }
  free : ∀ b o, h.get? b = some o → H b = none → b ∉ ex → H' b = none
  there : ∀ b o, h.get? b = some o → b ∉ ex → ∃ o', h'.get? b = some o'
  tups : ∀ b xs, H b = some (.tup xs) → H' b = some (.tup xs)
  frzs : ∀ b o u, H b = some (.frz o u) → H' b = some (.frz o u)
  tbls : ∀ b ps, H b = some (.tbl ps) → ∃ more, H' b = some (.tbl (ps ++ more))
section
variable {fs fs' ex ex' : List Addr} {H H1 H2 : Hp} {h h1 h2 h' : Heap} {a x e : Addr} {o : HO}
theorem Un.any (u : Un fs ex H H1 h h1) {b : Addr} {ob : Obj} (q : h.get? b = some ob) (n : H b = none) (hx : b ∉ ex) : ∃ sl, h1.get? b = some { ob with slots := sl } := by
  by_cases hb : b ∈ fs
  · exact u.slot b ob q n hb hx
  · exact ⟨ob.slots, u.keep b ob q n hb hx⟩
theorem Un.kept (k : ∀ b u, h.get? b = some u → h'.get? b = some u) : Un fs ex H H h h' :=
  ⟨fun b ob q _ _ _ => k b ob q, fun b ob q _ _ _ => ⟨ob.slots, k b ob q⟩, fun _ _ _ n _ => n, fun b ob q _ => ⟨ob, k b ob q⟩, fun _ _ q => q, fun _ _ _ q => q, fun _ ps q => ⟨#[], by rw [q]; simp⟩⟩
theorem Un.refl : Un fs ex H H h h := Un.kept fun _ _ q => q
theorem Un.laid (k : ∀ b u, h.get? b = some u → h'.get? b = some u) (hp : h.objs.size ≤ a) (hn : H a = none) : Un fs ex H (upd H a o) h h' where
  keep := fun b u q _ _ _ => k b u q
  slot := fun b u q _ _ _ => ⟨u.slots, k b u q⟩
  free := fun b u q n _ => by rw [upd_ne (Nat.ne_of_lt (Nat.lt_of_lt_of_le (Heap.lt_size q) hp))]; exact n
  there := fun b u q _ => ⟨u, k b u q⟩
  tups := fun b xs q => by rw [upd_ne (ne_of_none q hn)]; exact q
  frzs := fun b u xs q => by rw [upd_ne (ne_of_none q hn)]; exact q
  tbls := fun b ps q => ⟨#[], by rw [upd_ne (ne_of_none q hn), q]; simp⟩
theorem Un.write (mu : Mut (H x)) (he : e = x ∨ H e = some (.own x)) (k : ∀ b u, b ≠ e → h.get? b = some u → h'.get? b = some u) (heo : ∃ u, h'.get? e = some u) : Un fs ex H (upd H x o) h h' := by
  have hx : ∀ b, H b = none → b ≠ x := fun b n z => by subst z; rw [n] at mu; exact mu
  have hb : ∀ b, H b = none → b ≠ e := fun b n z => by
    subst z
    rcases he with r | r
    · exact hx b n r
    · rw [n] at r; cases r
  have hm : ∀ b u, H b = some u → ¬ Mut (some u) → b ≠ x := fun b u q nm z => by subst z; rw [q] at mu; exact nm mu
  refine ⟨fun b u q n _ _ => k b u (hb b n) q, fun b u q n _ _ => ⟨u.slots, k b u (hb b n) q⟩, fun b u q n _ => by rw [upd_ne (hx b n)]; exact n, fun b u q _ => ?_,
    fun b xs q => by rw [upd_ne (hm b _ q fun z => z)]; exact q, fun b u xs q => by rw [upd_ne (hm b _ q fun z => z)]; exact q, fun b ps q => ⟨#[], by rw [upd_ne (hm b _ q fun z => z), q]; simp⟩⟩
  by_cases hbe : b = e
  · subst hbe; exact heo
  · exact ⟨u, k b u hbe q⟩
end
/-! ### the heap without what is tracked -/
def trk (h : Heap) (H : Hp) : List Addr := (List.range h.objs.size).filter fun a => (H a).isSome
def hidT (h : Heap) (H : Hp) : Heap := PySem.W.hideAll h (trk h H)
theorem hidT_size (h : Heap) (H : Hp) : (hidT h H).objs.size = h.objs.size := PySem.W.hideAll_size _ _
theorem hidT_get {h : Heap} {H : Hp} {b : Addr} {o : Obj} (e : h.get? b = some o) (n : H b = none) : (hidT h H).get? b = some o :=
  PySem.W.hideAll_get _ e fun hm => by
    have q : (H b).isSome = true := (List.mem_filter.mp hm).2
    rw [n] at q; simp at q
theorem of_hidT {h : Heap} {H : Hp} {b : Addr} {o : Obj} (e : (hidT h H).get? b = some o) : h.get? b = some o ∧ H b = none := by
  have e' : h.get? b = some o := PySem.W.of_hideAll (trk h H) e
  refine ⟨e', ?_⟩
  cases q : H b with
  | none => rfl
  | some x =>
    have hm : b ∈ trk h H := List.mem_filter.mpr ⟨List.mem_range.mpr (Heap.lt_size e'), by simp [q]⟩
    have z : (hidT h H).get? b = none := PySem.W.hideAll_none (trk h H) hm
    rw [z] at e; cases e
/-! ### OpenK's ledger, filled with every new object but one -/
end L2
namespace L2
open PySem PySem.Spec PyProof.Rows
/-- the module's facts, over the base: the heap at the law's entry without what is tracked there -/
structure Mod (K : PySem.W.Frag) (mg : Str → Option Value) (base : Heap) : Prop where
  kin : K.In base
  glob : base.Ns mainGlobals mg
  blt : ∃ mb, base.Ns builtinsNs mb ∧ ∀ x : Str, x ≠ "__name__" → mb x = bootBuiltins x
  nolimit : base.NoLimit
/-- the context: a def's body (or a comprehension's block) running. base: fixed through the whole law; s₀, H₀: the entry; outer: the frames whose slots others may change (a def's callers); stack: all frames that run;
   ex: iterators that were made ahead of the entry and are walked here (a comprehension's); fn: the names whose cells were made at the entry (a def: all; a comprehension's block: its own); calm: not within an except suite; pn: pins that every state bears; xe: what is wanted of an exception that leaves the code -/
structure Cx where
  prog : Program
  w : World
  K : PySem.W.Frag
  mg : Str → Option Value
  base : Heap
  A : Around
  N : List Str
  s_0 : Shared
  H_0 : Hp
  env : Env
  outer : List Env
  stack : List Env
  ex : List Addr
  fn : Str → Bool
  calm : Bool
  pn : List (Addr × Obj)
  xe : Value → Shared → Prop
/-- the callers' frames -/
def frs (l : List Env) : List Addr := l.filterMap (·.frame)
abbrev Cx.fs (X : Cx) : List Addr := frs X.outer
def Vis (sc : Scope) (x : Str) : Prop := sc.names.lookup x = some .local ∨ sc.names.lookup x = some .cell ∨ sc.names.lookup x = some .free
def Loc (sc : Scope) (x : Str) : Prop := sc.names.lookup x = some .local ∨ sc.names.lookup x = some .cell
def Look (env : Env) (h : Heap) (m : Str → Option Value) (x : Str) (u : Value) : Prop :=
  (env.kindOf x = some .local ∧ m x = some u) ∨ ((env.kindOf x = some .cell ∨ env.kindOf x = some .free) ∧ ∃ c, env.cells.lookup x = some c ∧ h.IsCell c (some u))
structure Cx.Ok (X : Cx) : Prop where
  mod : Mod X.K X.mg X.base
  kind : X.env.scope.kind = .function
  glob : X.env.globals = mainGlobals
  blt : X.env.builtins = builtinsNs
  above : X.s_0.heap.objs.size ≤ X.env.locals
  inj : ∀ x y c, X.env.cells.lookup x = some c → X.env.cells.lookup y = some c → x = y
  has : ∀ x, (X.env.kindOf x = some .cell ∨ X.env.kindOf x = some .free) → ∃ c, X.env.cells.lookup x = some c
  cab : ∀ x c, X.fn x = true → X.env.cells.lookup x = some c → X.s_0.heap.objs.size ≤ c
  hd : X.calm = true → X.A.handled = none
  frames : X.A.frames = some X.stack
  stk : X.stack = X.outer ∨ (X.stack = X.env :: X.outer ∧ X.env.frame = some X.env.locals)
  exf : ∀ b ∈ X.ex, b ≠ X.env.locals ∧ ∀ x c, X.env.cells.lookup x = some c → c ≠ b
  bs : ∀ b o, X.base.get? b = some o → X.s_0.heap.get? b = some o ∧ X.H_0 b = none
  bsz : X.base.objs.size ≤ X.s_0.heap.objs.size
  noex : ∀ b o, X.base.get? b = some o → b ∉ X.ex
  exfs : ∀ b ∈ X.ex, b ∉ X.fs
  funs : X.s_0.heap.FunFrames X.base X.outer
  frf : ∀ b ∈ X.fs, X.H_0 b = none
structure Inv (X : Cx) (pins : List (Addr × Obj)) (σ : List (Option V)) (H : Hp) (s : Shared) : Prop where
  ok : X.Ok
  os : s.os = X.s_0.os
  bare : AllBare s.gens
  base : Un X.fs X.ex X.H_0 H X.s_0.heap s.heap
  loc : ∃ m, s.heap.Ns X.env.locals m ∧ ∀ (i : Nat) (x : Str) (v : V), X.N[i]? = some x → σ[i]? = some (some v) → Vis X.env.scope x → ∃ u, RelV v u ∧ Look X.env s.heap m x u
  cell : ∀ x c, X.env.cells.lookup x = some c → ∃ v, s.heap.IsCell c v
  free : H X.env.locals = none
  freeC : ∀ x c, X.env.cells.lookup x = some c → H c = none
  pin : ∀ p ∈ X.pn ++ pins, s.heap.get? p.1 = some p.2 ∧ H p.1 = none ∧ p.1 ≠ X.env.locals ∧ p.1 ∉ X.fs ∧ ∀ v, p.2.data ≠ .cell v
  hok : HOk X.prog X.w H s.heap
  len : σ.length = X.N.length
section
variable {X : Cx} {pins : List (Addr × Obj)} {σ : List (Option V)} {H H' : Hp} {s : Shared} {h' : Heap}
theorem Cx.Ok.nofr (ok : X.Ok) {b : Addr} {o : Obj} (e : X.base.get? b = some o) : b ∉ X.fs := fun hb => by
  have := (ok.funs.mem hb).1
  rw [e] at this; cases this
theorem Inv.bs (I : Inv X pins σ H s) : ∀ b o, X.base.get? b = some o → s.heap.get? b = some o ∧ H b = none := fun b o e =>
  ⟨I.base.keep b o (I.ok.bs b o e).1 (I.ok.bs b o e).2 (I.ok.nofr e) (I.ok.noex b o e), I.base.free b o (I.ok.bs b o e).1 (I.ok.bs b o e).2 (I.ok.noex b o e)⟩
theorem Inv.bk (I : Inv X pins σ H s) : ∀ b o, X.base.get? b = some o → s.heap.get? b = some o := fun b o e => (I.bs b o e).1
theorem Inv.mod (I : Inv X pins σ H s) : Mod X.K X.mg X.base := I.ok.mod
theorem Inv.kIn (I : Inv X pins σ H s) : X.K.In s.heap := I.ok.mod.kin.keeps I.bk
theorem Inv.lt (I : Inv X pins σ H s) : X.env.locals < s.heap.objs.size := let ⟨_, hn, _⟩ := I.loc; hn.lt
theorem Inv.sz (I : Inv X pins σ H s) : X.s_0.heap.objs.size ≤ s.heap.objs.size := Nat.le_trans I.ok.above (Nat.le_of_lt I.lt)
theorem Inv.nofs (I : Inv X pins σ H s) {a : Addr} (h : s.heap.objs.size ≤ a) : a ∉ X.fs := fun hb => by
  obtain ⟨_, o, ho, _⟩ := I.ok.funs.mem hb
  exact absurd (Nat.lt_of_lt_of_le (Heap.lt_size ho) (Nat.le_trans I.sz h)) (Nat.lt_irrefl _)
theorem Inv.cne (I : Inv X pins σ H s) : ∀ x c, X.env.cells.lookup x = some c → c ≠ X.env.locals := fun x c e z => by
  obtain ⟨v, o, ho, hd⟩ := I.cell x c e
  obtain ⟨m, ⟨o', es, ep, ho', hd', _⟩, _⟩ := I.loc
  rw [z, ho'] at ho; cases ho; rw [hd'] at hd; cases hd
theorem Inv.funs (I : Inv X pins σ H s) : s.heap.FunFrames X.base X.outer := by
  have all : ∀ (l : List Env), (∀ b ∈ frs l, b ∈ X.fs) → X.s_0.heap.FunFrames X.base l → s.heap.FunFrames X.base l := by
    intro l
    induction l with
    | nil => intro _ _; trivial
    | cons env r ih =>
      intro hs hl
      obtain ⟨hk, ⟨L, o, hf, hn, ho, hd⟩, hr⟩ := hl
      have hL : L ∈ X.fs := hs L (by unfold frs; rw [List.filterMap_cons, hf]; exact List.mem_cons_self)
      obtain ⟨sl, e⟩ := I.base.slot L o ho (I.ok.frf L hL) hL fun z => I.ok.exfs L z hL
      exact ⟨hk, ⟨L, _, hf, hn, e, hd⟩, ih (fun b hb => hs b (by unfold frs; rw [List.filterMap_cons, hf]; exact List.mem_cons_of_mem _ hb)) hr⟩
  exact all X.outer (fun _ hb => hb) I.ok.funs
/-- the frames that run, for a call -/
theorem Inv.stack (I : Inv X pins σ H s) : s.heap.FunFrames X.base X.stack := by
  rcases I.ok.stk with e | ⟨e, hf⟩
  · rw [e]; exact I.funs
  · rw [e]
    obtain ⟨m, hn, _⟩ := I.loc
    refine .cons (by rw [I.ok.kind]; decide) hf hn ?_ I.funs
    exact Heap.get?_none_of_le (Nat.le_trans I.ok.bsz I.ok.above)
theorem Inv.stkSub (I : Inv X pins σ H s) : ∀ b ∈ frs X.stack, b ∈ X.env.locals :: X.fs := fun b hb => by
  rcases I.ok.stk with e | ⟨e, hf⟩
  · rw [e] at hb; exact List.mem_cons_of_mem _ hb
  · rw [e] at hb
    unfold frs at hb
    rw [List.filterMap_cons, hf] at hb
    exact hb
theorem Inv.stkFree (I : Inv X pins σ H s) : ∀ b ∈ frs X.stack, H b = none := fun b hb => by
  rcases List.mem_cons.mp (I.stkSub b hb) with e | hb
  · rw [e]; exact I.free
  · obtain ⟨_, o, ho, _⟩ := I.ok.funs.mem hb
    exact I.base.free b o ho (I.ok.frf b hb) fun z => I.ok.exfs b z hb
/-- THE STEP: the untracked objects but the frame and the records at ch are kept (the callers' frames up to slots), the frame's map is kept, the new abstract heap is held -/
theorem Inv.step {g' : Array GenState} {t' : Nat} {d' : Drawn} {ch : List Addr} (I : Inv X pins σ H s)
    (hch : ∀ b ∈ ch, (b ∈ X.ex ∨ X.s_0.heap.objs.size ≤ b) ∧ b ≠ X.env.locals ∧ (∀ x c, X.env.cells.lookup x = some c → c ≠ b) ∧ ∀ p ∈ X.pn ++ pins, p.1 ≠ b)
    (keep : ∀ b o, b ≠ X.env.locals → b ∉ X.fs → b ∉ ch → s.heap.get? b = some o → H b = none → h'.get? b = some o)
    (slot : ∀ b o, b ≠ X.env.locals → b ∈ X.fs → b ∉ ch → s.heap.get? b = some o → H b = none → ∃ sl, h'.get? b = some { o with slots := sl }) (free : ∀ b o, b ∉ ch → s.heap.get? b = some o → H b = none → H' b = none)
    (there : ∀ b o, b ∉ ch → s.heap.get? b = some o → ∃ o', h'.get? b = some o')
    (tups : ∀ b xs, H b = some (.tup xs) → H' b = some (.tup xs)) (frzs : ∀ b o u, H b = some (.frz o u) → H' b = some (.frz o u)) (tbls : ∀ b ps, H b = some (.tbl ps) → ∃ more, H' b = some (.tbl (ps ++ more)))
    (ns : ∀ m, s.heap.Ns X.env.locals m → h'.Ns X.env.locals m) (hok : HOk X.prog X.w H' h') (hg : AllBare g') :
    Inv X pins σ H' { s with heap := h', gens := g', drawn := d', toks := t' } := by
  have neL : ∀ b o, X.s_0.heap.get? b = some o → b ≠ X.env.locals := fun b o e => Nat.ne_of_lt (Nat.lt_of_lt_of_le (Heap.lt_size e) I.ok.above)
  have neC : ∀ b o, X.s_0.heap.get? b = some o → b ∉ X.ex → b ∉ ch := fun b o e hx hb => by
    rcases (hch b hb).1 with z | z
    · exact hx z
    · exact absurd (Nat.lt_of_lt_of_le (Heap.lt_size e) z) (Nat.lt_irrefl _)
  have cellK : ∀ x c, X.env.cells.lookup x = some c → ∀ v, s.heap.IsCell c v → h'.IsCell c v := fun x c e v ⟨o, ho, hd⟩ => by
    have nch : c ∉ ch := fun z => (hch c z).2.2.1 x c e rfl
    by_cases hc : c ∈ X.fs
    · obtain ⟨sl, q⟩ := slot c o (I.cne x c e) hc nch ho (I.freeC x c e)
      exact ⟨_, q, hd⟩
    · exact ⟨o, keep c o (I.cne x c e) hc nch ho (I.freeC x c e), hd⟩
  refine ⟨I.ok, I.os, hg, ⟨fun b o e n hb hx => ?_, fun b o e n hb hx => ?_, fun b o e n hx => ?_, fun b o e hx => ?_, fun b xs e => tups b xs (I.base.tups b xs e), fun b o xs e => frzs b o xs (I.base.frzs b o xs e), fun b ps e => ?_⟩, ?_, fun x c e => ?_, ?_, fun x c e => ?_, fun p hp => ?_, hok, I.len⟩
  · exact keep b o (neL b o e) hb (neC b o e hx) (I.base.keep b o e n hb hx) (I.base.free b o e n hx)
  · obtain ⟨sl, e1⟩ := I.base.slot b o e n hb hx
    obtain ⟨sl', e2⟩ := slot b _ (neL b o e) hb (neC b o e hx) e1 (I.base.free b o e n hx)
    exact ⟨sl', e2⟩
  · obtain ⟨o', e1⟩ := I.base.there b o e hx
    exact free b o' (neC b o e hx) e1 (I.base.free b o e n hx)
  · obtain ⟨o', e1⟩ := I.base.there b o e hx
    exact there b o' (neC b o e hx) e1
  · obtain ⟨m1, e1⟩ := I.base.tbls b ps e
    obtain ⟨m2, e2⟩ := tbls b _ e1
    exact ⟨m1 ++ m2, by rw [e2, Array.append_assoc]⟩
  · obtain ⟨m, hn, hl⟩ := I.loc
    refine ⟨m, ns m hn, fun i x v e1 e2 e3 => ?_⟩
    obtain ⟨u, r, l⟩ := hl i x v e1 e2 e3
    refine ⟨u, r, ?_⟩
    rcases l with l | ⟨k, c, e, z⟩
    · exact .inl l
    · exact .inr ⟨k, c, e, cellK x c e _ z⟩
  · obtain ⟨v, z⟩ := I.cell x c e
    exact ⟨v, cellK x c e v z⟩
  · obtain ⟨m, ⟨o, _, _, ho, _⟩, _⟩ := I.loc
    exact free _ o (fun z => (hch _ z).2.1 rfl) ho I.free
  · obtain ⟨v, o, ho, hd⟩ := I.cell x c e
    exact free c o (fun z => (hch c z).2.2.1 x c e rfl) ho (I.freeC x c e)
  · obtain ⟨e, n, ne, nf, d⟩ := I.pin p hp
    have nch : p.1 ∉ ch := fun z => (hch p.1 z).2.2.2 p hp rfl
    exact ⟨keep p.1 p.2 ne nf nch e n, free p.1 p.2 nch e n, ne, nf, d⟩
/-- .. where the frame's own object is kept too -/
theorem Inv.un {t' : Nat} (I : Inv X pins σ H s) (u : Un X.fs [] H H' s.heap h') (hok : HOk X.prog X.w H' h') : Inv X pins σ H' { s with heap := h', toks := t' } := by
  obtain ⟨m, ⟨o, es, ep, ho, r⟩, _⟩ := id I.loc
  obtain ⟨sl, hL⟩ := u.any ho I.free (by simp)
  exact I.step (g' := s.gens) (d' := s.drawn) (ch := []) (fun _ z => nomatch z) (fun b o _ hb _ e n => u.keep b o e n hb (by simp)) (fun b o _ hb _ e n => u.slot b o e n hb (by simp)) (fun b o _ e n => u.free b o e n (by simp)) (fun b o _ e => u.there b o e (by simp)) u.tups u.frzs u.tbls (fun m' hm => by
    obtain ⟨o', es', ep', ho', r'⟩ := hm
    rw [ho] at ho'; cases ho'
    exact ⟨_, es', ep', hL, r'⟩) hok I.bare
/-- behind a call (or a comprehension's block): the slots of this frame may have changed too, the records at ch may have turned -/
theorem Inv.call {g' : Array GenState} {t' : Nat} {d' : Drawn} {ch : List Addr} (I : Inv X pins σ H s) (u : Un (frs X.stack) ch H H' s.heap h') (hok : HOk X.prog X.w H' h') (hg : AllBare g')
    (hch : ∀ b ∈ ch, (b ∈ X.ex ∨ X.s_0.heap.objs.size ≤ b) ∧ b ≠ X.env.locals ∧ (∀ x c, X.env.cells.lookup x = some c → c ≠ b) ∧ ∀ p ∈ X.pn ++ pins, p.1 ≠ b) :
    Inv X pins σ H' { s with heap := h', gens := g', drawn := d', toks := t' } := by
  obtain ⟨m, ⟨o, es, ep, ho, r⟩, _⟩ := id I.loc
  obtain ⟨sl, hL⟩ := u.any ho I.free fun z => (hch _ z).2.1 rfl
  exact I.step (ch := ch) hch (fun b o hL hb hc e n => u.keep b o e n (fun z => (List.mem_cons.mp (I.stkSub b z)).elim hL hb) hc) (fun b o _ _ hc e n => u.any e n hc) (fun b o hc e n => u.free b o e n hc) (fun b o hc e => u.there b o e hc) u.tups u.frzs u.tbls (fun m' hm => by
    obtain ⟨o', es', ep', ho', r'⟩ := hm
    rw [ho] at ho'; cases ho'
    exact ⟨_, es', ep', hL, r'⟩) hok hg
/-- an untracked record of ours (an iterator) has turned -/
theorem Inv.turned {t' : Nat} {it : Addr} (I : Inv X pins σ H s) (k : ∀ b o, b ≠ it → s.heap.get? b = some o → h'.get? b = some o) (hn : H it = none) (hL : it ≠ X.env.locals)
    (h1 : it ∈ X.ex ∨ X.s_0.heap.objs.size ≤ it) (h2 : ∀ x c, X.env.cells.lookup x = some c → c ≠ it) (h3 : ∀ p ∈ X.pn ++ pins, p.1 ≠ it) : Inv X pins σ H { s with heap := h', toks := t' } := by
  have nit : ∀ b u, H b = some u → b ≠ it := fun b u e z => by rw [z, hn] at e; cases e
  refine I.step (g' := s.gens) (d' := s.drawn) (ch := [it]) (fun b hb => ?_) (fun b o _ _ hc e _ => k b o (fun z => hc (by simp [z])) e) (fun b o _ _ hc e _ => ⟨o.slots, k b o (fun z => hc (by simp [z])) e⟩) (fun _ _ _ _ n => n)
    (fun b o hc e => ⟨o, k b o (fun z => hc (by simp [z])) e⟩) (fun _ _ e => e) (fun _ _ _ e => e) (fun b ps e => ⟨#[], by rw [e]; simp⟩) (fun m hm => ?_) (fun b u e => ?_) I.bare
  · have e : b = it := by simpa using hb
    subst e
    exact ⟨h1, hL, h2, h3⟩
  · obtain ⟨o, es, ep, ho, r⟩ := hm
    exact ⟨o, es, ep, k _ o (Ne.symm hL) ho, r⟩
  · refine (I.hok b u e).stay (fun c v hc q => k c v ?_ q) (fun _ q => q) fun _ _ q => q
    rcases hc with z | z
    · rw [z]; exact nit b u e
    · exact nit c _ z
theorem Inv.tok (I : Inv X pins σ H s) (t : Nat) : Inv X pins σ H { s with toks := t } := I.un (h' := s.heap) (t' := t) Un.refl I.hok
/-- all objects kept -/
theorem Inv.kept {t' : Nat} (I : Inv X pins σ H s) (k : ∀ b u, s.heap.get? b = some u → h'.get? b = some u) : Inv X pins σ H { s with heap := h', toks := t' } := I.un (Un.kept k) (I.hok.kept k)
/-- a new object laid and tracked -/
theorem Inv.laid {a : Addr} {o : HO} {t' : Nat} (I : Inv X pins σ H s) (k : ∀ b u, s.heap.get? b = some u → h'.get? b = some u) (hp : s.heap.objs.size ≤ a) (new : ObjOk X.prog X.w (upd H a o) h' a o) :
    Inv X pins σ (upd H a o) { s with heap := h', toks := t' } := I.un (Un.laid k hp (I.hok.fresh hp)) (I.hok.laid k hp new)
/-- an object written -/
theorem Inv.write {x e : Addr} {o : HO} {t' : Nat} (I : Inv X pins σ H s) (mu : Mut (H x)) (he : e = x ∨ H e = some (.own x)) (k : ∀ b u, b ≠ e → s.heap.get? b = some u → h'.get? b = some u) (heo : ∃ u, h'.get? e = some u)
    (new : ObjOk X.prog X.w (upd H x o) h' x o) : Inv X pins σ (upd H x o) { s with heap := h', toks := t' } := I.un (Un.write mu he k heo) (I.hok.write mu he k heo new)
/-- forgetting slots, pins -/
theorem Inv.weak {σ' : List (Option V)} (I : Inv X pins σ H s) (hl : σ'.length = σ.length) (w : ∀ (i : Nat) v, σ'[i]? = some (some v) → σ[i]? = some (some v)) : Inv X pins σ' H s :=
  ⟨I.ok, I.os, I.bare, I.base, let ⟨m, hn, hl'⟩ := I.loc; ⟨m, hn, fun i x v e1 e2 e3 => hl' i x v e1 (w i v e2) e3⟩, I.cell, I.free, I.freeC, I.pin, I.hok, hl.trans I.len⟩
theorem Inv.pins_of {pins' : List (Addr × Obj)} (I : Inv X pins σ H s) (h : ∀ p ∈ pins', s.heap.get? p.1 = some p.2 ∧ H p.1 = none ∧ p.1 ≠ X.env.locals ∧ p.1 ∉ X.fs ∧ ∀ v, p.2.data ≠ .cell v) : Inv X pins' σ H s :=
  ⟨I.ok, I.os, I.bare, I.base, I.loc, I.cell, I.free, I.freeC, fun p hp => (List.mem_append.mp hp).elim (fun z => I.pin p (List.mem_append_left _ z)) (h p), I.hok, I.len⟩
theorem nodup_ix {N : List Str} (hN : N.Nodup) {i j : Nat} {x : Str} (a : N[i]? = some x) (b : N[j]? = some x) : i = j := by
  obtain ⟨h1, e1⟩ := List.getElem?_eq_some_iff.mp a
  obtain ⟨h2, e2⟩ := List.getElem?_eq_some_iff.mp b
  exact (List.getElem_inj hN).mp (e1.trans e2.symm)
/-- a name is stored; what changed -/
theorem store_ok2 {M : Model} {A : Around} {E : Value → Shared → Prop} {i : Nat} {x : Str} {v : V} {u : Value} {Q : Unit → Shared → Prop} (I : Inv X pins σ H s) (hN : X.N.Nodup) (hi : X.N[i]? = some x) (hx : Loc X.env.scope x) (r : RelV v u)
    (h : ∀ s', Inv X pins (σ.set i (some v)) H s' → (∃ a, Heap.SameBut a s.heap s'.heap ∧ (a = X.env.locals ∨ X.env.cells.lookup x = some a)) → Q () s') (hf : X.fn x = true ∨ X.env.scope.names.lookup x = some .local := by first | exact .inl rfl | exact .inr rfl | assumption) : wpAny M A (storeName X.env x u) Q E s := by
  obtain ⟨m, hn, hl⟩ := id I.loc
  have hcls : (X.env.scope.kind == .class || (X.env.scope.kind == .module && X.env.locals != X.env.globals)) = false := by rw [I.ok.kind]; rfl
  have hiσ : i < σ.length := by rw [I.len]; exact (List.getElem?_eq_some_iff.mp hi).1
  have cne := I.cne
  have tracked : ∀ {a : Addr} {h' : Heap}, (∃ o, s.heap.get? a = some o ∧ H a = none) → Heap.SameBut a s.heap h' → HOk X.prog X.w H h' := fun {a h'} ha hs b ob e => by
    obtain ⟨_, _, hfree⟩ := ha
    refine (I.hok b ob e).stay (fun c w' hc q => (hs.2 c ?_).trans q) (fun _ q => q) fun _ _ q => q
    rintro rfl
    rcases hc with rfl | hc
    · rw [hfree] at e; cases e
    · rw [hfree] at hc; cases hc
  rcases hx with hk | hk
  · refine wpAny_storeName_local hk hn (fun h' hn' hs => ?_) hcls
    obtain ⟨oL, _, _, hoL, _⟩ := id hn
    refine h _ ⟨I.ok, I.os, I.bare, ⟨fun b o e n hb hx => ?_, fun b o e n hb hx => ?_, I.base.free, fun b o e hx => ?_, I.base.tups, I.base.frzs, I.base.tbls⟩, ⟨_, hn', fun j y v' e1 e2 e3 => ?_⟩, fun y c e => ?_, I.free, I.freeC, fun p hp => ?_, tracked ⟨oL, hoL, I.free⟩ hs, by simpa using I.len⟩ ⟨_, hs, .inl rfl⟩
    · exact (hs.2 b (Nat.ne_of_lt (Nat.lt_of_lt_of_le (Heap.lt_size e) I.ok.above))).trans (I.base.keep b o e n hb hx)
    · obtain ⟨sl, e1⟩ := I.base.slot b o e n hb hx
      exact ⟨sl, (hs.2 b (Nat.ne_of_lt (Nat.lt_of_lt_of_le (Heap.lt_size e) I.ok.above))).trans e1⟩
    · obtain ⟨o', e1⟩ := I.base.there b o e hx
      exact ⟨o', (hs.2 b (Nat.ne_of_lt (Nat.lt_of_lt_of_le (Heap.lt_size e) I.ok.above))).trans e1⟩
    · by_cases hj : j = i
      · subst hj
        rw [hi] at e1; cases e1
        rw [List.getElem?_set_self hiσ] at e2
        cases e2
        exact ⟨u, r, .inl ⟨hk, by simp⟩⟩
      · rw [List.getElem?_set_ne (Ne.symm hj)] at e2
        obtain ⟨u', r', q⟩ := hl j y v' e1 e2 e3
        refine ⟨u', r', ?_⟩
        rcases q with ⟨k, e⟩ | ⟨k, c, e, z⟩
        · refine .inl ⟨k, ?_⟩
          have : y ≠ x := fun e => hj (nodup_ix hN e1 (e ▸ hi))
          simp [this, e]
        · exact .inr ⟨k, c, e, z.sameBut hs (cne y c e)⟩
    · obtain ⟨w', z⟩ := I.cell y c e
      exact ⟨w', z.sameBut hs (cne y c e)⟩
    · obtain ⟨e, n, ne, nf, d⟩ := I.pin p hp
      exact ⟨(hs.2 p.1 ne).trans e, n, ne, nf, d⟩
  · have hfn : X.fn x = true := by
      rcases hf with z | z
      · exact z
      · rw [z] at hk; cases hk
    obtain ⟨c, hc⟩ := I.ok.has x (.inl hk)
    obtain ⟨w', z⟩ := I.cell x c hc
    refine wpAny_storeName_cell I.ok.kind hk hc z (fun h' hc' hs => ?_)
    obtain ⟨oc, hoc, hocd⟩ := id z
    refine h { s with heap := h' } ⟨I.ok, I.os, I.bare, ⟨fun b o e n hb hx => ?_, fun b o e n hb hx => ?_, I.base.free, fun b o e hx => ?_, I.base.tups, I.base.frzs, I.base.tbls⟩, ⟨m, hn.sameBut hs (Ne.symm (cne x c hc)), fun j y v' e1 e2 e3 => ?_⟩, fun y c' e => ?_, I.free, I.freeC, fun p hp => ?_, tracked ⟨oc, hoc, I.freeC x c hc⟩ hs, by simpa using I.len⟩ ⟨c, hs, .inr hc⟩
    · exact (hs.2 b (Nat.ne_of_lt (Nat.lt_of_lt_of_le (Heap.lt_size e) (I.ok.cab x c hfn hc)))).trans (I.base.keep b o e n hb hx)
    · obtain ⟨sl, e1⟩ := I.base.slot b o e n hb hx
      exact ⟨sl, (hs.2 b (Nat.ne_of_lt (Nat.lt_of_lt_of_le (Heap.lt_size e) (I.ok.cab x c hfn hc)))).trans e1⟩
    · obtain ⟨o', e1⟩ := I.base.there b o e hx
      exact ⟨o', (hs.2 b (Nat.ne_of_lt (Nat.lt_of_lt_of_le (Heap.lt_size e) (I.ok.cab x c hfn hc)))).trans e1⟩
    · by_cases hj : j = i
      · subst hj
        rw [hi] at e1; cases e1
        rw [List.getElem?_set_self hiσ] at e2
        cases e2
        exact ⟨u, r, .inr ⟨.inl hk, c, hc, hc'⟩⟩
      · rw [List.getElem?_set_ne (Ne.symm hj)] at e2
        obtain ⟨u', r', q⟩ := hl j y v' e1 e2 e3
        refine ⟨u', r', ?_⟩
        rcases q with q | ⟨k, c', e, z'⟩
        · exact .inl q
        · refine .inr ⟨k, c', e, z'.sameBut hs ?_⟩
          rintro rfl
          exact hj (nodup_ix hN e1 (I.ok.inj _ _ _ e hc ▸ hi))
    · by_cases hcc : c' = c
      · subst hcc; exact ⟨_, hc'⟩
      · obtain ⟨w2, z2⟩ := I.cell y c' e
        exact ⟨w2, z2.sameBut hs hcc⟩
    · obtain ⟨e, n, ne, nf, d⟩ := I.pin p hp
      refine ⟨(hs.2 p.1 ?_).trans e, n, ne, nf, d⟩
      intro q
      rw [q, hoc] at e
      have q' : oc = p.2 := Option.some.inj e
      exact d w' (by rw [← q']; exact hocd)
theorem store_ok {M : Model} {A : Around} {E : Value → Shared → Prop} {i : Nat} {x : Str} {v : V} {u : Value} {Q : Unit → Shared → Prop} (I : Inv X pins σ H s) (hN : X.N.Nodup) (hi : X.N[i]? = some x) (hx : Loc X.env.scope x) (r : RelV v u)
    (h : ∀ s', Inv X pins (σ.set i (some v)) H s' → Q () s') (hf : X.fn x = true ∨ X.env.scope.names.lookup x = some .local := by first | exact .inl rfl | exact .inr rfl | assumption) : wpAny M A (storeName X.env x u) Q E s :=
  store_ok2 I hN hi hx r (fun s' I' _ => h s' I') hf
/-- behind a call or a block, the state as it is -/
theorem Inv.call' {s' : Shared} {ch : List Addr} (I : Inv X pins σ H s) (ho : s'.os = s.os) (u : Un (frs X.stack) ch H H' s.heap s'.heap) (hok : HOk X.prog X.w H' s'.heap) (hg : AllBare s'.gens)
    (hch : ∀ b ∈ ch, (b ∈ X.ex ∨ X.s_0.heap.objs.size ≤ b) ∧ b ≠ X.env.locals ∧ (∀ x c, X.env.cells.lookup x = some c → c ≠ b) ∧ ∀ p ∈ X.pn ++ pins, p.1 ≠ b) : Inv X pins σ H' s' := by
  obtain ⟨h', g', d', t', o'⟩ := s'
  have e : o' = s.os := ho
  subst e
  exact I.call (g' := g') (t' := t') (d' := d') u hok hg hch
end
/-! ### the judgements -/
/-- an exception: its class, its own dict's address (where it has one), the abstract heap behind it -/
abbrev XK := Value → Option Addr → Hp → Prop
abbrev St := List (Option V)
abbrev VK := V → Hp → Prop
/-- an expression's reading; a test's; an argument list's -/
abbrev TE := St → Hp → VK → Prop
abbrev TT := St → Hp → (Bool → Hp → Prop) → Prop
abbrev TA := St → Hp → (List V → Hp → Prop) → Prop
/-- what is wanted behind a statement -/
structure Ends where
  nx : St → Hp → Prop
  rt : VK
  bk : St → Hp → Prop := fun _ _ => False
  ct : St → Hp → Prop := fun _ _ => False
abbrev TS := Ends → St → Hp → Prop
def EP (X : Cx) (pins : List (Addr × Obj)) (σ : St) (Q : VK) (u : Value) (s' : Shared) : Prop := ∃ v H', Inv X pins σ H' s' ∧ RelV v u ∧ Q v H'
def TP (X : Cx) (pins : List (Addr × Obj)) (σ : St) (Q : Bool → Hp → Prop) (b : Bool) (s' : Shared) : Prop := ∃ H', Inv X pins σ H' s' ∧ Q b H'
def AP (X : Cx) (pins : List (Addr × Obj)) (σ : St) (Q : List V → Hp → Prop) (us : List Value) (s' : Shared) : Prop := ∃ vs H', Inv X pins σ H' s' ∧ Vals vs us ∧ Q vs H'
def SP (X : Cx) (pins : List (Addr × Obj)) (D : Ends) (f : Flow) (s' : Shared) : Prop :=
  match f with
  | .next => ∃ σ' H', Inv X pins σ' H' s' ∧ D.nx σ' H'
  | .brk => ∃ σ' H', Inv X pins σ' H' s' ∧ D.bk σ' H'
  | .cont => ∃ σ' H', Inv X pins σ' H' s' ∧ D.ct σ' H'
  | .ret u => ∃ v σ' H', Inv X pins σ' H' s' ∧ RelV v u ∧ D.rt v H'
def PE (X : Cx) (e : Expr) (t : TE) : Prop :=
  ∀ (pins : List (Addr × Obj)) (s : Shared) (σ : St) (H : Hp) (Q : VK), Inv X pins σ H s → t σ H Q → wpAny (model X.prog X.w) X.A (eval e X.env) (EP X pins σ Q) X.xe s
def PT (X : Cx) (e : Expr) (t : TT) : Prop :=
  ∀ (pins : List (Addr × Obj)) (s : Shared) (σ : St) (H : Hp) (Q : Bool → Hp → Prop), Inv X pins σ H s → t σ H Q → wpAny (model X.prog X.w) X.A (isTrue e X.env (eval e X.env)) (TP X pins σ Q) X.xe s
/-- a test whatever its 'whole' is (and, or) -/
def PW (X : Cx) (e : Expr) (t : TT) : Prop :=
  ∀ (whole : Sem Value) (pins : List (Addr × Obj)) (s : Shared) (σ : St) (H : Hp) (Q : Bool → Hp → Prop), Inv X pins σ H s → t σ H Q → wpAny (model X.prog X.w) X.A (isTrue e X.env whole) (TP X pins σ Q) X.xe s
theorem PW.pt {X : Cx} {e : Expr} {t : TT} (h : PW X e t) : PT X e t := h _
/-- an argument list (no star), from the left -/
def PA (X : Cx) (es : List Expr) (t : TA) : Prop :=
  ∀ (pos : Pos) (pins : List (Addr × Obj)) (s : Shared) (σ : St) (H : Hp) (Q : List V → Hp → Prop), Inv X pins σ H s → t σ H Q → wpAny (model X.prog X.w) X.A (spliced (backTo pos (starEach es X.env))) (AP X pins σ Q) X.xe s
def PS (X : Cx) (st : Stmt) (t : TS) : Prop :=
  ∀ (pins : List (Addr × Obj)) (s : Shared) (σ : St) (H : Hp) (D : Ends), Inv X pins σ H s → t D σ H → wpAny (model X.prog X.w) X.A (exec st X.env) (SP X pins D) X.xe s
def PSs (X : Cx) (st : List Stmt) (t : TS) : Prop :=
  ∀ (pins : List (Addr × Obj)) (s : Shared) (σ : St) (H : Hp) (D : Ends), Inv X pins σ H s → t D σ H → wpAny (model X.prog X.w) X.A (execs st X.env) (SP X pins D) X.xe s
/-- weaken the end -/
theorem thn {α : Type} {t : Sem α} {Q Q' : α → Shared → Prop} {M : Model} {A : Around} {E : Value → Shared → Prop} {s : Shared} (h : wpAny M A t Q E s) (hQ : ∀ a s, Q a s → Q' a s) : wpAny M A t Q' E s := wpAny_mono h hQ fun _ _ x => x
end L2
namespace L2
open PySem PySem.Spec PyProof.Rows
section
variable {X : Cx}
/-! ### names and constants -/
def tVar (i : Nat) : TE := fun σ H Q => ∃ v, σ[i]? = some (some v) ∧ Q v H
def tC (v : V) : TE := fun _ H Q => Q v H
theorem pe_var {i : Nat} {x : Str} {pos : Pos} (hN : X.N[i]? = some x) (hv : Vis X.env.scope x) (hd : (x == ("__debug__" : Str)) = false := by decide) (hcd : (x == ("__classdict__" : Str)) = false := by decide) : PE X (.Name x pos) (tVar i) := by
  intro pins s σ H Q I h
  obtain ⟨v, e, h⟩ := h
  obtain ⟨m, hn, hl⟩ := I.loc
  obtain ⟨u, r, l⟩ := hl i x v hN e hv
  have fin : EP X pins σ Q u s := ⟨v, H, I, r, h⟩
  rcases l with ⟨hk, hm⟩ | ⟨hk, c, hc, hcell⟩
  · exact wpAny_Name (wpAny_loadName_local I.ok.kind hk hn hm fin) hd
  · rcases hk with hk | hk
    · exact wpAny_Name (wpAny_loadName_cell I.ok.kind hk hc hcell fin) hd
    · exact wpAny_Name (wpAny_loadName_free I.ok.kind hk hc hcell fin hcd) hd
theorem pe_int {i j pos} : PE X (.Constant (.int i) j pos) (tC (.int i)) := fun _ _ _ H _ I h => wpAny_Constant_int ⟨.int i, H, I.tok _, ⟨_, rfl⟩, h⟩
theorem pe_bl {b j pos} : PE X (.Constant (.bool b) j pos) (tC (.bl b)) := fun _ _ _ H _ I h => Constant_bool ⟨.bl b, H, I, rfl, h⟩
theorem pe_non {j pos} : PE X (.Constant .none j pos) (tC .non) := fun _ _ _ H _ I h => Constant_none ⟨.non, H, I, rfl, h⟩
/-- a global name of the def -/
def Gl (X : Cx) (x : Str) : Prop := X.env.kindOf x = some .globalImplicit
theorem ld_glob {E : Value → Shared → Prop} {pins : List (Addr × Obj)} {s : Shared} {σ : St} {H : Hp} {x : Str} {u : Value} {pos : Pos} {Q : Value → Shared → Prop} (I : Inv X pins σ H s) (hg : Gl X x) (hm : X.mg x = some u) (h : Q u s)
    (hd : (x == ("__debug__" : Str)) = false := by decide) : wpAny (model X.prog X.w) X.A (eval (.Name x pos) X.env) Q E s :=
  Calls.Name_function_global I.ok.kind hg (Calls.loadGlobal_global (by rw [I.ok.glob]; exact I.mod.glob.keeps I.bk) hm h) hd
theorem ld_blt {E : Value → Shared → Prop} {pins : List (Addr × Obj)} {s : Shared} {σ : St} {H : Hp} {x : Str} {u : Value} {pos : Pos} {Q : Value → Shared → Prop} (I : Inv X pins σ H s) (hg : Gl X x) (hm : X.mg x = none) (hv : bootBuiltins x = some u) (h : Q u s)
    (hn : x ≠ "__name__" := by decide) (hd : (x == ("__debug__" : Str)) = false := by decide) : wpAny (model X.prog X.w) X.A (eval (.Name x pos) X.env) Q E s := by
  obtain ⟨mb, h1, h2⟩ := I.mod.blt
  exact Calls.Name_function_global I.ok.kind hg (Calls.loadGlobal_builtin (by rw [I.ok.glob]; exact I.mod.glob.keeps I.bk) hm (by rw [I.ok.blt]; exact h1.keeps I.bk) ((h2 x hn).trans hv) h) hd
/-- a module's constant, a class, a function, as a value -/
theorem pe_glob {x : Str} {v : V} {u : Value} {pos : Pos} (hg : Gl X x) (hm : X.mg x = some u) (r : RelV v u) (hd : (x == ("__debug__" : Str)) = false := by decide) : PE X (.Name x pos) (tC v) :=
  fun _ _ _ H _ I h => ld_glob I hg hm ⟨v, H, I, r, h⟩ hd
/-! ### arithmetic -/
variable {a b : Expr} {ta tb : TE} {pos : Pos}
/-! ### comparisons -/
def PC (X : Cx) (op : CmpOp) (a b : Expr) (t : TE) : Prop :=
  ∀ (pins : List (Addr × Obj)) (s : Shared) (σ : St) (H : Hp) (Q : VK), Inv X pins σ H s → t σ H Q →
    wpAny (model X.prog X.w) X.A (eval a X.env) (fun v s₁ => wpAny (model X.prog X.w) X.A (eval b X.env) (fun u s₂ => wpAny (model X.prog X.w) X.A (compareOp op v u) (EP X pins σ Q) X.xe s₂) X.xe s₁) X.xe s
theorem nobehind (b : Expr) {op : CmpOp} (h : op ≠ .In) (h2 : op ≠ .NotIn) : behindInMarks op b = false := by
  have e1 : (op == CmpOp.In) = false := by cases op <;> first | rfl | exact absurd rfl h
  have e2 : (op == CmpOp.NotIn) = false := by cases op <;> first | rfl | exact absurd rfl h2
  cases b <;> simp [behindInMarks, e1, e2]
/-- is None -/
def tIsN (ta : TE) : TE := fun σ H Q => ta σ H fun x H1 => Q (.bl (decide (x = .non))) H1
def tNotN (ta : TE) : TE := fun σ H Q => ta σ H fun x H1 => Q (.bl (!decide (x = .non))) H1
theorem RelV.none_iff {x : V} {v : Value} (r : RelV x v) : (v == Value.none) = decide (x = .non) := by
  cases x with
  | non => cases r; rfl
  | bl _ => cases r; rfl
  | int _ => obtain ⟨t, rfl⟩ := r; rfl
  | str _ => obtain ⟨t, rfl⟩ := r; rfl
  | byt _ => obtain ⟨t, rfl⟩ := r; rfl
  | flt _ => obtain ⟨t, rfl⟩ := r; rfl
  | ref _ => cases r; rfl
  | ty _ => cases r; rfl
theorem pc_isN {j pos'} (ha : PE X a ta) : PC X .Is a (.Constant .none j pos') (tIsN ta) := by
  intro pins s σ H Q I h
  refine thn (ha pins s σ H _ I h) fun v s1 ⟨x, H1, I1, r1, q1⟩ => ?_
  exact Constant_none (is_none_gen ⟨.bl _, H1, I1, by rw [r1.none_iff]; rfl, q1⟩)
theorem pc_notN {j pos'} (ha : PE X a ta) : PC X .IsNot a (.Constant .none j pos') (tNotN ta) := by
  intro pins s σ H Q I h
  refine thn (ha pins s σ H _ I h) fun v s1 ⟨x, H1, I1, r1, q1⟩ => ?_
  exact Constant_none (isnot_none_gen ⟨.bl _, H1, I1, by rw [r1.none_iff]; rfl, q1⟩)
/-- a comparison as a value, as a test -/
def tB (t : TE) : TT := fun σ H Q => t σ H fun x H1 => ∃ c, x = .bl c ∧ Q c H1
theorem pt_cmp {op : CmpOp} {t : TE} (h : PC X op a b t) (h1 : behindInMarks op b = false := by first | exact nobehind _ (by decide) (by decide) | rfl) : PT X (.Compare a [op] [b] pos) (tB t) := by
  intro pins s σ H Q I hw
  refine wpAny_isTrue_Compare1 (thn (h pins s σ H _ I hw) fun v s1 h1 => thn h1 fun u s2 h2 => thn h2 fun c s3 ⟨x, H1, I1, r1, q1⟩ => ?_) h1
  obtain ⟨d, rfl, q⟩ := q1
  cases r1
  exact wpAny_truthy_bool ⟨H1, I1, q⟩
/-- an expression whose value is a bool, as a test -/
theorem pt_val {e : Expr} {t : TE} (h : PE X e t) (he : ∀ whole, isTrue e X.env whole = (do let v ← whole; standAt e.pos; holding [v] (truthy v)) := by intro _; rfl) : PT X e (tB t) := by
  intro pins s σ H Q I hw
  refine isTrue_plain (thn (h pins s σ H _ I hw) fun v s1 ⟨x, H1, I1, r1, q1⟩ => ?_) (he _)
  obtain ⟨d, rfl, q⟩ := q1
  cases r1
  exact wpAny_truthy_bool ⟨H1, I1, q⟩
/-! ### and, or, not -/
variable {tA tB' : TT} {rest : List Expr}
def tAnd (t u : TT) : TT := fun σ H Q => t σ H fun c H1 => if c = true then u σ H1 Q else Q false H1
def tOr (t u : TT) : TT := fun σ H Q => t σ H fun c H1 => if c = true then Q true H1 else u σ H1 Q
theorem pw_and1 (ha : PT X a tA) : PW X (.BoolOp .And [a] pos) tA := by
  intro wh pins s σ H Q I h
  refine isTrue_and (thn (ha pins s σ H Q I h) fun c s1 e => ?_)
  cases c with
  | true => exact isTrue_and_nil e
  | false => exact e
theorem pw_or1 (ha : PT X a tA) : PW X (.BoolOp .Or [a] pos) tA := by
  intro wh pins s σ H Q I h
  refine isTrue_or (thn (ha pins s σ H Q I h) fun c s1 e => ?_)
  cases c with
  | false => exact isTrue_or_nil e
  | true => exact e
theorem pw_and (ha : PT X a tA) (hb : PW X (.BoolOp .And (b :: rest) pos) tB') : PW X (.BoolOp .And (a :: b :: rest) pos) (tAnd tA tB') := by
  intro wh pins s σ H Q I h
  refine isTrue_and (thn (ha pins s σ H _ I h) fun c s1 ⟨H1, I1, q1⟩ => ?_)
  cases c with
  | true => exact hb wh pins s1 σ H1 Q I1 q1
  | false => exact ⟨H1, I1, q1⟩
theorem pw_or (ha : PT X a tA) (hb : PW X (.BoolOp .Or (b :: rest) pos) tB') : PW X (.BoolOp .Or (a :: b :: rest) pos) (tOr tA tB') := by
  intro wh pins s σ H Q I h
  refine isTrue_or (thn (ha pins s σ H _ I h) fun c s1 ⟨H1, I1, q1⟩ => ?_)
  cases c with
  | true => exact ⟨H1, I1, q1⟩
  | false => exact hb wh pins s1 σ H1 Q I1 q1
def tOrV (ta tb : TE) : TE := fun σ H Q => ta σ H fun x H1 => ∃ c, x = .bl c ∧ if c = true then Q (.bl true) H1 else tb σ H1 Q
theorem pe_one {op} {t : TE} (h : PE X a t) : PE X (.BoolOp op [a] pos) t := fun pins s σ H Q I hw => BoolOp_one (h pins s σ H Q I hw)
theorem pe_or (ha : PE X a ta) (hb : PE X (.BoolOp .Or (b :: rest) pos) tb) : PE X (.BoolOp .Or (a :: b :: rest) pos) (tOrV ta tb) := by
  intro pins s σ H Q I h
  refine BoolOp_or (thn (ha pins s σ H _ I h) fun v s1 ⟨x, H1, I1, r1, q1⟩ => ?_)
  obtain ⟨c, rfl, q1⟩ := q1
  cases r1
  refine wpAny_truthy_bool ?_
  cases c with
  | false => exact hb pins s1 σ H1 Q I1 q1
  | true => exact ⟨.bl true, H1, I1, rfl, q1⟩
/-- a if t else b -/
def tIf (t : TT) (ta tb : TE) : TE := fun σ H Q => t σ H fun c H1 => if c = true then ta σ H1 Q else tb σ H1 Q
theorem pe_ifExp {c : Expr} (hc : PT X c tA) (ha : PE X a ta) (hb : PE X b tb) : PE X (.IfExp c a b pos) (tIf tA ta tb) := by
  intro pins s σ H Q I h
  refine wpAny_IfExp (thn (hc pins s σ H _ I h) fun d s1 ⟨H1, I1, q1⟩ => ?_)
  cases d with
  | true => exact ha pins s1 σ H1 Q I1 q1
  | false => exact hb pins s1 σ H1 Q I1 q1
end
end L2
namespace L2
open PySem PySem.Spec PyProof.Rows
/-! ### a list, a tuple that is read: tracked, frozen, or an object of the module -/
def SqL (K : PySem.W.Frag) (H : Hp) (a : Addr) (xs : List V) : Prop :=
  Rd H a (.lst xs) ∨
    ∃ (o : Obj) (its : Array Value) (n : Nat), K.lookup a = some o ∧ o.cls = .type "list" ∧ o.dict = none ∧ o.data = .seq its n ∧ its.size ≤ sizeLine ∧ Vals xs its.toList
def SqT (K : PySem.W.Frag) (H : Hp) (a : Addr) (xs : List V) : Prop :=
  Rd H a (.tup xs) ∨
    ∃ (o : Obj) (its : Array Value) (n : Nat), K.lookup a = some o ∧ o.cls = .type "tuple" ∧ o.data = .seq its n ∧ its.size ≤ sizeLine ∧ Vals xs its.toList
def absV : Value → Option V
  | .none => some .non
  | .bool b => some (.bl b)
  | .int i _ => some (.int i)
  | .str x _ => some (.str x)
  | .bytes b _ => some (.byt b)
  | .float b _ => some (.flt b)
  | .ref a => some (.ref a)
  | .type n => some (.ty n)
  | _ => none
theorem RelV.abs {x : V} {u : Value} (r : RelV x u) : absV u = some x := by
  cases x with
  | non => cases r; rfl
  | bl _ => cases r; rfl
  | int _ => obtain ⟨t, rfl⟩ := r; rfl
  | str _ => obtain ⟨t, rfl⟩ := r; rfl
  | byt _ => obtain ⟨t, rfl⟩ := r; rfl
  | flt _ => obtain ⟨t, rfl⟩ := r; rfl
  | ref _ => cases r; rfl
  | ty _ => cases r; rfl
theorem RelV.inj {x y : V} {u : Value} (r : RelV x u) (q : RelV y u) : x = y := Option.some.inj (r.abs.symm.trans q.abs)
theorem Vals.inj : ∀ {xs ys : List V} {us : List Value}, Vals xs us → Vals ys us → xs = ys
  | _, _, _, .nil, .nil => rfl
  | _, _, _, .cons r t, .cons r' t' => by rw [r.inj r', Vals.inj t t']
section
variable {X : Cx} {pins : List (Addr × Obj)} {σ : St} {H : Hp} {s : Shared} {a : Addr} {xs ys : List V}
theorem SqL.of {K : PySem.W.Frag} (h : H a = some (.lst xs)) : SqL K H a xs := .inl (.inl h)
theorem SqT.of {K : PySem.W.Frag} (h : H a = some (.tup xs)) : SqT K H a xs := .inl (.inl h)
theorem Inv.list (I : Inv X pins σ H s) (h : SqL X.K H a xs) : ∃ its : List Value, Vals xs its ∧ PlainL s.heap a its.toArray ∧ xs.length ≤ sizeLine := by
  rcases h with h | ⟨o, its, n, hk, hc, hd, hs, hz, r⟩
  · obtain ⟨z, its, n, r, e⟩ := h.ok I.hok
    exact ⟨its, r, ⟨_, n, e, rfl, rfl, rfl⟩, z⟩
  · refine ⟨its.toList, r, ⟨o, n, I.kIn a o hk, hc, hd, by simpa using hs⟩, ?_⟩
    have e := r.length
    simp only [Array.length_toList] at e
    omega
theorem Inv.tuple (I : Inv X pins σ H s) (h : SqT X.K H a xs) : ∃ its : List Value, Vals xs its ∧ IsTup s.heap a its.toArray ∧ xs.length ≤ sizeLine := by
  rcases h with h | ⟨o, its, n, hk, hc, hs, hz, r⟩
  · obtain ⟨z, its, r, p⟩ := h.ok I.hok
    exact ⟨its, r, p, z⟩
  · refine ⟨its.toList, r, ⟨o, I.kIn a o hk, hc, n, by simpa using hs⟩, ?_⟩
    have e := r.length
    simp only [Array.length_toList] at e
    omega
theorem Inv.list_inj (I : Inv X pins σ H s) (h : SqL X.K H a xs) (h' : SqL X.K H a ys) : xs = ys := by
  obtain ⟨its, r, ⟨o, n, e, _, _, d⟩, _⟩ := I.list h
  obtain ⟨its', r', ⟨o', n', e', _, _, d'⟩, _⟩ := I.list h'
  rw [e] at e'; cases e'
  rw [d] at d'
  injection d' with d1 _
  have : its = its' := by simpa using congrArg Array.toList d1
  subst this
  exact r.inj r'
end
/-! ### another wish about exceptions -/
abbrev Cx.wish (X : Cx) (E : Value → Shared → Prop) : Cx := { X with xe := E }
/-- no exception leaves -/
abbrev Cx.nox (X : Cx) : Cx := X.wish fun _ _ => False
theorem Cx.Ok.wish {X : Cx} (ok : X.Ok) (E : Value → Shared → Prop) : (X.wish E).Ok :=
  ⟨ok.mod, ok.kind, ok.glob, ok.blt, ok.above, ok.inj, ok.has, ok.cab, ok.hd, ok.frames, ok.stk, ok.exf, ok.bs, ok.bsz, ok.noex, ok.exfs, ok.funs, ok.frf⟩
theorem Cx.Ok.unwish {X : Cx} {E : Value → Shared → Prop} (ok : (X.wish E).Ok) : X.Ok :=
  ⟨ok.mod, ok.kind, ok.glob, ok.blt, ok.above, ok.inj, ok.has, ok.cab, ok.hd, ok.frames, ok.stk, ok.exf, ok.bs, ok.bsz, ok.noex, ok.exfs, ok.funs, ok.frf⟩
section
variable {X : Cx} {pins : List (Addr × Obj)} {σ : St} {H : Hp} {s : Shared} {E : Value → Shared → Prop}
theorem Inv.wish (I : Inv X pins σ H s) (E : Value → Shared → Prop) : Inv (X.wish E) pins σ H s := ⟨I.ok.wish E, I.os, I.bare, I.base, I.loc, I.cell, I.free, I.freeC, I.pin, I.hok, I.len⟩
theorem Inv.unwish (I : Inv (X.wish E) pins σ H s) : Inv X pins σ H s := ⟨I.ok.unwish, I.os, I.bare, I.base, I.loc, I.cell, I.free, I.freeC, I.pin, I.hok, I.len⟩
theorem SP.unwish {D : Ends} {f : Flow} {s' : Shared} (h : SP (X.wish E) pins D f s') : SP X pins D f s' := by
  cases f with
  | next => obtain ⟨σ', H', I, q⟩ := h; exact ⟨σ', H', I.unwish, q⟩
  | brk => obtain ⟨σ', H', I, q⟩ := h; exact ⟨σ', H', I.unwish, q⟩
  | cont => obtain ⟨σ', H', I, q⟩ := h; exact ⟨σ', H', I.unwish, q⟩
  | ret u => obtain ⟨v, σ', H', I, r, q⟩ := h; exact ⟨v, σ', H', I.unwish, r, q⟩
theorem PSs.nox {st : List Stmt} {t : TS} (h : PSs X.nox st t) : PSs X st t := fun pins s σ H D I hw =>
  wpAny_mono (h pins s σ H D (I.wish _) hw) (fun _ _ q => q.unwish) fun _ _ z => False.elim z
end
/-! ### blocks and small statements -/
section
variable {X : Cx} {st : Stmt} {rest : List Stmt} {t u : TS} {e : Expr} {te : TE} {pos : Pos}
def tNext : TS := fun D σ H => D.nx σ H
def tSeq (t u : TS) : TS := fun D σ H => t { D with nx := u D } σ H
theorem pss_nil : PSs X [] tNext := fun _ _ σ H _ I h => wpAny_execs_nil ⟨σ, H, I, h⟩
theorem pss_cons (h1 : PS X st t) (h2 : PSs X rest u) : PSs X (st :: rest) (tSeq t u) := by
  intro pins s σ H D I h
  refine wpAny_execs_cons (thn (h1 pins s σ H { D with nx := u D } I h) fun f s1 q => ?_)
  cases f with
  | next =>
    obtain ⟨σ', H', I', q⟩ := q
    exact h2 pins s1 σ' H' D I' q
  | ret v => exact q
  | brk => exact q
  | cont => exact q
theorem pss_one (h1 : PS X st t) : PSs X [st] t := by
  intro pins s σ H D I h
  refine wpAny_execs_cons (thn (h1 pins s σ H D I h) fun f s1 q => ?_)
  cases f with
  | next => exact wpAny_execs_nil q
  | ret v => exact q
  | brk => exact q
  | cont => exact q
/-- in a def's body nothing is shown -/
theorem Inv.quiet {pins : List (Addr × Obj)} {σ : St} {H : Hp} {s : Shared} (I : Inv X pins σ H s) : interactive X.env = false := by simp [interactive, I.ok.kind]
/-- an expression whose value is dropped -/
def tDrop (te : TE) : TS := fun D σ H => te σ H fun _ H1 => D.nx σ H1
theorem ps_expr (he : PE X e te) (hs : swapsWith e none pos.line X.env = pure false := by rfl) : PS X (.Expr e pos) (tDrop te) := by
  intro pins s σ H D I h
  exact wpAny_Expr_any (thn (he pins s σ H _ I h) fun v s1 ⟨x, H1, I1, r1, q1⟩ => ⟨σ, H1, I1, q1⟩) I.quiet hs
def tRet (te : TE) : TS := fun D σ H => te σ H D.rt
theorem ps_ret (he : PE X e te) : PS X (.Return (some e) pos) (tRet te) := by
  intro pins s σ H D I h
  exact wpAny_Return_some (thn (he pins s σ H _ I h) fun v s1 ⟨x, H1, I1, r1, q1⟩ => ⟨x, σ, H1, I1, r1, q1⟩)
def tIfS (c : TT) (t u : TS) : TS := fun D σ H => c σ H fun b H1 => if b = true then t D σ H1 else u D σ H1
theorem ps_if {c : Expr} {a b : List Stmt} {tc : TT} (hc : PT X c tc) (ha : PSs X a t) (hb : PSs X b u) : PS X (.If c a b pos) (tIfS tc t u) := by
  intro pins s σ H D I h
  refine wpAny_If (thn (hc pins s σ H _ I h) fun d s1 ⟨H1, I1, q1⟩ => ?_)
  cases d with
  | true => exact ha pins s1 σ H1 D I1 q1
  | false => exact hb pins s1 σ H1 D I1 q1
/-- code that the proof never comes to -/
def tNever : TS := fun _ _ _ => False
theorem pss_never {sts : List Stmt} : PSs X sts tNever := fun _ _ _ _ _ _ h => h.elim
end
/-! ### targets -/
abbrev TG := V → St → Hp → (St → Hp → Prop) → Prop
abbrev TGs := List V → St → Hp → (St → Hp → Prop) → Prop
def PG (X : Cx) (target : Expr) (t : TG) : Prop :=
  ∀ (pins : List (Addr × Obj)) (s : Shared) (σ : St) (H : Hp) (v : V) (u : Value) (Q : St → Hp → Prop), Inv X pins σ H s → RelV v u → t v σ H Q →
    wpAny (model X.prog X.w) X.A (assign target X.env u) (fun _ s' => ∃ σ' H', Inv X pins σ' H' s' ∧ Q σ' H') X.xe s
/-- several targets, one after another -/
def PGs (X : Cx) (ts : List Expr) (t : TGs) : Prop :=
  ∀ (pins : List (Addr × Obj)) (s : Shared) (σ : St) (H : Hp) (vs : List V) (us : List Value) (Q : St → Hp → Prop), Inv X pins σ H s → Vals vs us → t vs σ H Q →
    wpAny (model X.prog X.w) X.A (assignInOrder ((assignEach ts X.env).map (·.2)) us) (fun _ s' => ∃ σ' H', Inv X pins σ' H' s' ∧ Q σ' H') X.xe s
/-- a op= b, by values -/
abbrev TIp := V → V → Hp → VK → Prop
def PIp (X : Cx) (op : Operator) (t : TIp) : Prop :=
  ∀ (pins : List (Addr × Obj)) (s : Shared) (σ : St) (H : Hp) (x y : V) (v u : Value) (Q : VK), Inv X pins σ H s → RelV x v → RelV y u → t x y H Q →
    wpAny (model X.prog X.w) X.A (inplaceOp op v u) (EP X pins σ Q) X.xe s
section
variable {X : Cx} {pos : Pos}
def gName (i : Nat) : TG := fun v σ H Q => Q (σ.set i (some v)) H
theorem pg_name {i : Nat} {x : Str} (hN : X.N.Nodup) (hi : X.N[i]? = some x) (hx : Loc X.env.scope x) (hf : X.fn x = true ∨ X.env.scope.names.lookup x = some .local := by first | exact .inl rfl | exact .inr rfl | assumption) : PG X (.Name x pos) (gName i) := by
  intro pins s σ H v u Q I r h
  exact wpAny_assign_Name (store_ok I hN hi hx r (fun s' I' => ⟨_, H, I', h⟩) hf)
def gNil : TGs := fun vs σ H Q => vs = [] ∧ Q σ H
def gCons (t : TG) (u : TGs) : TGs := fun vs σ H Q => ∃ v r, vs = v :: r ∧ t v σ H fun σ' H' => u r σ' H' Q
theorem pgs_nil : PGs X [] gNil := by
  intro pins s σ H vs us Q I r h
  obtain ⟨e, h⟩ := h
  subst e
  cases r
  exact assignInOrder_nil ⟨σ, H, I, h⟩
theorem pgs_cons {e : Expr} {es : List Expr} {t : TG} {u : TGs} (h1 : PG X e t) (h2 : PGs X es u)
    (hs : (assignEach (e :: es) X.env).map (·.2) = assign e X.env :: (assignEach es X.env).map (·.2) := by rfl) : PGs X (e :: es) (gCons t u) := by
  intro pins s σ H vs us Q I r h
  obtain ⟨v, vr, e1, h⟩ := h
  subst e1
  cases r with
  | cons r rr =>
    rw [hs]
    refine assignInOrder_cons (thn (h1 pins s σ H _ _ _ I r h) fun _ s1 ⟨σ1, H1, I1, q1⟩ => ?_)
    exact h2 pins s1 σ1 H1 _ _ Q I1 rr q1
/-- (a, b, ..) = a tuple of that length -/
def gTup (K : PySem.W.Frag) (n : Nat) (t : TGs) : TG := fun v σ H Q => ∃ a xs, v = .ref a ∧ SqT K H a xs ∧ xs.length = n ∧ t xs σ H Q
theorem pg_tup {es : List Expr} {k : Nat} {t : TGs} {n : Nat} (hc : X.calm = true) (h : PGs X es t)
    (hn : (assignEach es X.env).length = n := by rfl) (hst : (assignEach es X.env).findIdx? (·.1) = none := by rfl) : PG X (.Tuple es k pos) (gTup X.K n t) := by
  intro pins s σ H v u Q I r hw
  obtain ⟨a, xs, e1, hq, hl, hw⟩ := hw
  subst e1
  cases r
  obtain ⟨its, rv, ht, hz⟩ := I.tuple hq
  refine assign_Tuple_tuple (I.ok.hd hc) ht (by simp [hn, ← hl, rv.length]) hst fun h' hx => ?_
  have I1 : Inv X pins σ H { s with heap := h' } := I.kept (t' := s.toks) fun b o e => hx b o (Nat.ne_of_lt (Heap.lt_size e)) e
  exact h pins _ σ H xs _ Q I1 (by simpa using rv) hw
/-- target = value -/
def tAsg (te : TE) (g : TG) : TS := fun D σ H => te σ H fun x H1 => g x σ H1 D.nx
/-- name = value -/
theorem ps_set {i : Nat} {x : Str} {e : Expr} {te : TE} {pos' : Pos} (hN : X.N.Nodup) (hi : X.N[i]? = some x) (hx : Loc X.env.scope x) (he : PE X e te) (hs : swapsWith e (some (.Name x pos')) pos.line X.env = pure false := by rfl) (hf : X.fn x = true ∨ X.env.scope.names.lookup x = some .local := by first | exact .inl rfl | exact .inr rfl | assumption) :
    PS X (.Assign [.Name x pos'] e pos) (tAsg te (gName i)) := by
  intro pins s σ H D I h
  refine wpAny_Assign_Name (thn (he pins s σ H _ I h) fun v s1 ⟨y, H1, I1, r1, q1⟩ => ?_) hs
  exact store_ok I1 hN hi hx r1 (fun s2 I2 => ⟨_, H1, I2, q1⟩) hf
/-- name op= e -/
def tAug (i : Nat) (te : TE) (ti : TIp) : TS := fun D σ H => ∃ x, σ[i]? = some (some x) ∧ te σ H fun y H1 => ti x y H1 fun z H2 => D.nx (σ.set i (some z)) H2
theorem ps_aug {i : Nat} {x : Str} {e : Expr} {te : TE} {op : Operator} {ti : TIp} {pos' : Pos} (hN : X.N.Nodup) (hi : X.N[i]? = some x) (hx : Loc X.env.scope x) (he : PE X e te) (ho : PIp X op ti) (hf : X.fn x = true ∨ X.env.scope.names.lookup x = some .local := by first | exact .inl rfl | exact .inr rfl | assumption) :
    PS X (.AugAssign (.Name x pos') op e pos) (tAug i te ti) := by
  intro pins s σ H D I h
  obtain ⟨v, e1, h⟩ := h
  obtain ⟨m, hn, hl⟩ := I.loc
  have vis : Vis X.env.scope x := by rcases hx with k | k; exact .inl k; exact .inr (.inl k)
  obtain ⟨u, r, l⟩ := hl i x v hi e1 vis
  refine wpAny_AugAssign_Name ?_
  have go : wpAny (model X.prog X.w) X.A (eval e X.env) (fun w s₂ => wpAny (model X.prog X.w) X.A (inplaceOp op u w) (fun r s₃ => wpAny (model X.prog X.w) X.A (storeName X.env x r) (fun _ => SP X pins D .next) X.xe s₃) X.xe s₂) X.xe s := by
    refine thn (he pins s σ H _ I h) fun w s1 ⟨y, H1, I1, r1, q1⟩ => ?_
    refine thn (ho pins s1 σ H1 v y u w _ I1 r r1 q1) fun z s2 ⟨zv, H2, I2, r2, q2⟩ => ?_
    exact store_ok I2 hN hi hx r2 (fun s3 I3 => ⟨_, H2, I3, q2⟩) hf
  rcases l with ⟨hk, hm⟩ | ⟨hk, c, hc, hcell⟩
  · exact wpAny_loadName_local I.ok.kind hk hn hm go
  · rcases hk with hk | hk
    · exact wpAny_loadName_cell I.ok.kind hk hc hcell go
    · rcases hx with k | k
      · have : X.env.scope.names.lookup x = some .free := hk
        rw [k] at this; cases this
      · have : X.env.scope.names.lookup x = some .free := hk
        rw [k] at this; cases this
/-- ints -/
def ipI (f : Int → Int → Int) : TIp := fun x y H Q => ∃ i j, x = .int i ∧ y = .int j ∧ Q (.int (f i j)) H
theorem ip_add : PIp X .Add (ipI fun i j => i + j) := by
  intro pins s σ H x y v u Q I r1 r2 h
  obtain ⟨i, j, e1, e2, q⟩ := h
  subst e1; subst e2
  obtain ⟨t, rfl⟩ := r1
  obtain ⟨t', rfl⟩ := r2
  exact iadd_int ⟨.int _, H, I.tok _, ⟨_, rfl⟩, q⟩
end
/-! ### while -/
section
variable {X : Cx} {pos : Pos}
/-- the invariant W with its measure -/
def tWhile (c : TT) (tb : TS) : TS := fun D σ H => ∃ W : Nat → St → Hp → Prop, (∃ m, W m σ H) ∧ ∀ m σ H, W m σ H →
  c σ H fun b H1 => if b = true then ∃ N : St → Hp → Prop, (∀ σ' H', N σ' H' → ∃ m', m' < m ∧ W m' σ' H') ∧ tb { D with nx := N, ct := N, bk := D.nx } σ H1 else D.nx σ H1
theorem ps_while {c : Expr} {body : List Stmt} {tc : TT} {tb : TS} (hp : PassesOwn (model X.prog X.w) X.A X.env X.xe) (hc : PT X c tc) (hb : PSs X body tb) : PS X (.While c body [] pos) (tWhile tc tb) := by
  intro pins s σ H D I h
  obtain ⟨W, ⟨m0, w0⟩, turn⟩ := h
  refine wpAny_While (codeAny_whileLoop (fun n s' => ∃ σ' H', Inv X pins σ' H' s' ∧ W n σ' H') ?_ m0 ⟨σ, H, I, w0⟩)
  rintro n s1 ⟨σ1, H1, I1, w1⟩
  refine wpAny_passesOwn hp (thn (hc pins s1 σ1 H1 _ I1 (turn n σ1 H1 w1)) fun b s2 ⟨H2, I2, q2⟩ => ?_)
  cases b with
  | true =>
    obtain ⟨N, hN, q2⟩ := q2
    rw [if_pos rfl]
    refine wpAny_passesOwn hp (thn (hb pins s2 σ1 H2 _ I2 q2) fun f s3 q3 => ?_)
    cases f with
    | next =>
      obtain ⟨σ3, H3, I3, n3⟩ := q3
      obtain ⟨m', hm, w3⟩ := hN σ3 H3 n3
      exact ⟨m', hm, σ3, H3, I3, w3⟩
    | cont =>
      obtain ⟨σ3, H3, I3, n3⟩ := q3
      obtain ⟨m', hm, w3⟩ := hN σ3 H3 n3
      exact ⟨m', hm, σ3, H3, I3, w3⟩
    | brk => exact q3
    | ret v => exact q3
  | false =>
    rw [if_neg Bool.false_ne_true]
    exact wpAny_execs_nil ⟨σ1, H2, I2, q2⟩
end
/-! ### what a loop or a comprehension walks -/
/-- at turn i: it yields x (the heap may grow), or it stops -/
structure It where
  go : Nat → Hp → Prop
  yld : Nat → Hp → V → Hp → Prop
  stop : Nat → Hp → Prop
/-- the iterator's own objects may turn: they are not the frame's, not pinned, younger than the entry (or a comprehension's own) -/
def FpOk (X : Cx) (pins : List (Addr × Obj)) (H : Hp) (b : Addr) : Prop :=
  H b = none ∧ b ≠ X.env.locals ∧ b ∉ X.fs ∧ (b ∈ X.ex ∨ X.s_0.heap.objs.size ≤ b) ∧ (∀ x c, X.env.cells.lookup x = some c → c ≠ b) ∧ ∀ p ∈ X.pn ++ pins, p.1 ≠ b
theorem Inv.fpOk {X : Cx} {pins : List (Addr × Obj)} {σ : St} {H H' : Hp} {s : Shared} {b : Addr} (I : Inv X pins σ H s) (hb : s.heap.objs.size ≤ b) (hn : H' b = none) : FpOk X pins H' b := by
  refine ⟨hn, Nat.ne_of_gt (Nat.lt_of_lt_of_le I.lt hb), I.nofs hb, .inr (Nat.le_trans I.sz hb), fun x c e z => ?_, fun p hp z => ?_⟩
  · obtain ⟨v, q⟩ := I.cell x c e
    exact absurd (Nat.lt_of_lt_of_le q.lt (by rw [z]; exact hb)) (Nat.lt_irrefl _)
  · exact absurd (Nat.lt_of_lt_of_le (Heap.lt_size (I.pin p hp).1) (by rw [z]; exact hb)) (Nat.lt_irrefl _)
structure Turn (P : Program) (w : World) (K : PySem.W.Frag) (tg : Expr) (J : It) (fp : List Addr) (it : Addr) (tn : Nat → Heap → Prop) : Prop where
  mem : it ∈ fp
  obj : ∀ i h, tn i h → ∀ b ∈ fp, ∃ o, h.get? b = some o ∧ ∀ v, o.data ≠ .cell v
  keep : ∀ i h h', tn i h → (∀ b ∈ fp, ∀ o, h.get? b = some o → h'.get? b = some o) → tn i h'
  item : ∀ (X : Cx), X.prog = P → X.w = w → X.K = K → X.calm = true → ∀ (i : Nat) (pins : List (Addr × Obj)) (s : Shared) (σ : St) (H : Hp) (E : Value → Shared → Prop), Inv X pins σ H s → (∀ b ∈ fp, FpOk X pins H b) → tn i s.heap → J.go i H →
    wpAny (model P w) X.A (pyNext (.ref it)) (fun r s1 => ∃ u, r = some u ∧
      wpAny (model P w) X.A (letOwnedTupleGo tg (.ref it) u) (fun _ s2 => ∃ x H', Inv X pins σ H' s2 ∧ RelV x u ∧ J.yld i H x H' ∧ tn (i + 1) s2.heap ∧ ∀ b ∈ fp, H' b = none) E s1) E s
  done : ∀ (X : Cx), X.prog = P → X.w = w → X.K = K → X.calm = true → ∀ (i : Nat) (pins : List (Addr × Obj)) (s : Shared) (σ : St) (H : Hp) (E : Value → Shared → Prop), Inv X pins σ H s → (∀ b ∈ fp, FpOk X pins H b) → tn i s.heap → J.stop i H →
    wpAny (model P w) X.A (pyNext (.ref it)) (fun r s1 => r = none ∧ Inv X pins σ H s1) E s
  self : ∀ (A : Around) (i : Nat) (s : Shared) (Q : Value → Shared → Prop) (E : Value → Shared → Prop), tn i s.heap → Q (.ref it) s → wpAny (model P w) A (pyIter (.ref it)) Q E s
abbrev TI := St → Hp → (It → Hp → Prop) → Prop
/-- an iterator has come -/
def PIE (X : Cx) (pins : List (Addr × Obj)) (σ : St) (tg : Expr) (R : It → Hp → Prop) (itv : Value) (s2 : Shared) : Prop :=
  ∃ (it : Addr) (fp : List Addr) (tn : Nat → Heap → Prop) (J : It) (H' : Hp), itv = .ref it ∧ Inv X pins σ H' s2 ∧ Turn X.prog X.w X.K tg J fp it tn ∧ tn 0 s2.heap ∧ (∀ b ∈ fp, FpOk X pins H' b) ∧ R J H'
def PI (X : Cx) (tg iter : Expr) (wi : TI) : Prop :=
  ∀ (pins : List (Addr × Obj)) (s : Shared) (σ : St) (H : Hp) (R : It → Hp → Prop), Inv X pins σ H s → wi σ H R →
    wpAny (model X.prog X.w) X.A (eval iter X.env) (fun v s1 => wpAny (model X.prog X.w) X.A (pyIter v) (PIE X pins σ tg R) X.xe s1) X.xe s
/-- the step ahead of the store is nothing for an iterator that keeps no tuple -/
theorem go_of {M : Model} {A : Around} {E : Value → Shared → Prop} {s : Shared} {tg : Expr} {it : Addr} {u : Value} {o : Obj} {n : String} {vs : Array Value} {Q : Unit → Shared → Prop} (ho : s.heap.get? it = some o) (hc : o.cls = .type n) (hd : o.data = .fields vs)
    (hn : ["enumerate", "zip", "dict_itemiterator", "dict_reverseitemiterator", "odict_iterator", "itertools.zip_longest", "itertools.pairwise"].contains n = false) (hQ : Q () s) : wpAny M A (letOwnedTupleGo tg (.ref it) u) Q E s := by
  unfold letOwnedTupleGo
  cases tg <;> first
    | exact wpAny_pure hQ
    | (cases u <;> first
        | exact wpAny_pure hQ
        | (refine wpAny_bind (wpAny_load ho ?_)
           rw [hc, hd]
           show wpAny M A (if (["enumerate", "zip", "dict_itemiterator", "dict_reverseitemiterator", "odict_iterator", "itertools.zip_longest", "itertools.pairwise"].contains n && vs[0]? == some (rawInt _)) = true then _ else _) Q E s
           rw [if_neg (by intro h; rw [hn, Bool.false_and] at h; cases h)]
           exact wpAny_pure hQ))
/-- the list at a, as it stands at each turn (a loop may append to it) -/
def Itl (K : PySem.W.Frag) (a : Addr) : It :=
  ⟨fun i H => ∃ xs x, SqL K H a xs ∧ xs[i]? = some x, fun i H x H' => H' = H ∧ ∀ xs, SqL K H a xs → xs[i]? = some x, fun i H => ∃ xs, SqL K H a xs ∧ xs.length ≤ i⟩
/-- lo, lo + 1, .. (n of them) -/
def Itr (lo : Int) (n : Nat) : It := ⟨fun i _ => i < n, fun i H x H' => H' = H ∧ x = .int (lo + i), fun i _ => n ≤ i⟩
theorem turn_list {P : Program} {w : World} {K : PySem.W.Frag} {tg : Expr} (a it : Addr) : Turn P w K tg (Itl K a) [it] it (fun i h => h.IsListIter it a i) where
  mem := by simp
  obj := fun i h st b hb => by
    have e : b = it := by simpa using hb
    subst e
    obtain ⟨o, e, c, d⟩ := st
    exact ⟨o, e, fun v z => by rw [d] at z; cases z⟩
  keep := fun i h h' st k => st.at fun o e => k it (by simp) o e
  item := by
    intro X hP hw hK hc i pins s σ H E I hf st hg
    subst hP hw hK
    obtain ⟨xs, x, hq, hx⟩ := hg
    obtain ⟨its, rv, p, hz⟩ := I.list hq
    obtain ⟨u, hu, ru⟩ := rv.get hx
    obtain ⟨f0, f1, f2, f3, f4, f5⟩ := hf it (by simp)
    refine wpAny_pyNext_list_item st p.isList (x := u) (by simpa using hu) fun h' st' sb => ?_
    have I1 : Inv X pins σ H { s with heap := h' } := I.turned (t' := s.toks) (fun b o hb e => (sb.2 b hb).trans e) f0 f1 f3 f4 f5
    obtain ⟨o, e, c, d⟩ := id st'
    exact ⟨u, rfl, go_of (s := { s with heap := h' }) e c d (by decide) ⟨x, H, I1, ru, ⟨rfl, fun ys hy => by rw [I.list_inj hy hq]; exact hx⟩, st', fun b hb => (hf b hb).1⟩⟩
  done := by
    intro X hP hw hK hc i pins s σ H E I hf st hg
    subst hP hw hK
    obtain ⟨xs, hq, hx⟩ := hg
    obtain ⟨its, rv, p, hz⟩ := I.list hq
    obtain ⟨f0, f1, f2, f3, f4, f5⟩ := hf it (by simp)
    have hl := rv.length
    exact wpAny_pyNext_list_end (I.ok.hd hc) st p.isList (by simp; omega) fun h' eb => ⟨rfl, I.turned (t' := s.toks) (fun b o hb e => eb b o hb e) f0 f1 f3 f4 f5⟩
  self := fun _ _ _ _ _ st h => wpAny_pyIter_listiter st h
theorem turn_range {P : Program} {w : World} {K : PySem.W.Frag} {tg : Expr} (it : Addr) (lo : Int) (n : Nat) : Turn P w K tg (Itr lo n) [it] it (fun i h => IsRangeIter h it (lo + (i : Nat) * 1) ((n : Int) - (i : Nat)) 1) where
  mem := by simp
  obj := fun i h st b hb => by
    have e : b = it := by simpa using hb
    subst e
    exact ⟨_, st, fun v z => by
      have z' : Data.fields _ = Data.cell v := z
      cases z'⟩
  keep := fun i h h' st k => k it (by simp) _ st
  item := by
    intro X hP hw hK hc i pins s σ H E I hf st hg
    subst hP hw hK
    obtain ⟨f0, f1, f2, f3, f4, f5⟩ := hf it (by simp)
    have W := Walks.range (prog := X.prog) (w := X.w) (I.ok.hd hc) it lo 1 n
    refine W.item i s _ _ hg st fun v h' tk hv st' kk => ?_
    obtain ⟨t, rfl⟩ := hv
    have I1 : Inv X pins σ H { s with heap := h', toks := tk } := I.turned (fun b o hb e => kk b o (by simpa using hb) e) f0 f1 f3 f4 f5
    refine ⟨_, rfl, go_of (s := { s with heap := h', toks := tk }) (n := "range_iterator") st' rfl rfl (by decide) ⟨.int (lo + i), H, I1, ⟨t, ?_⟩, ⟨rfl, rfl⟩, st', fun b hb => (hf b hb).1⟩⟩
    rw [Int.mul_one]
  done := by
    intro X hP hw hK hc i pins s σ H E I hf st hg
    subst hP hw hK
    obtain ⟨f0, f1, f2, f3, f4, f5⟩ := hf it (by simp)
    exact wpAny_pyNext_range_end (I.ok.hd hc) st (by have : n ≤ i := hg; omega) fun h' eb => ⟨rfl, I.turned (t' := s.toks) (fun b o hb e => eb b o hb e) f0 f1 f3 f4 f5⟩
  self := fun _ _ _ _ _ st h => wpAny_pyIter_rangeiter st h
end L2
namespace L2
open PySem PySem.Spec PyProof.Rows
section
variable {X : Cx} {tg : Expr}
def iList (K : PySem.W.Frag) (tl : TE) : TI := fun σ H R => tl σ H fun x H1 => ∃ a, x = .ref a ∧ (∃ xs, SqL K H1 a xs) ∧ R (Itl K a) H1
theorem pi_list {l : Expr} {tl : TE} (hl : PE X l tl) : PI X tg l (iList X.K tl) := by
  intro pins s σ H R I h
  refine thn (hl pins s σ H _ I h) fun v s1 ⟨x, H1, I1, r1, q1⟩ => ?_
  obtain ⟨a, e, ⟨xs, hq⟩, q⟩ := q1
  subst e
  cases r1
  obtain ⟨its, rv, p, hz⟩ := I1.list hq
  refine wpAny_pyIter_list p.isList ?_
  refine ⟨s1.heap.objs.size, [s1.heap.objs.size], _, _, H1, rfl, I1.kept (t' := s1.toks) fun b o e => Heap.get?_push_of_some _ e, turn_list a _, ⟨_, Heap.get?_push_size _ rfl, rfl, rfl⟩, fun b hb => ?_, q⟩
  have e : b = s1.heap.objs.size := by simpa using hb
  subst e
  exact I1.fpOk (Nat.le_refl _) (I1.hok.fresh (Nat.le_refl _))
/-- a range object just made, walked -/
theorem range_it {pins : List (Addr × Obj)} {σ : St} {H : Hp} {s : Shared} {R : It → Hp → Prop} {E : Value → Shared → Prop} {lo hi : Int} {t u v : Tok} {tk : Nat} (I : Inv X pins σ H s) (h1 : -(2 ^ 62) ≤ lo) (h2 : lo < 2 ^ 62) (h3 : -(2 ^ 62) ≤ hi) (h4 : hi < 2 ^ 62)
    (q : R (Itr lo (hi - lo).toNat) H) : wpAny (model X.prog X.w) X.A (pyIter (.ref s.heap.objs.size)) (PIE X pins σ tg R) E { s with heap := s.heap.push { cls := .type "range", data := .fields #[.int lo t, .int hi u, .int 1 v] }, toks := tk } := by
  refine wpAny_pyIter_range (IsRange.new ..) (small_one h1 h2 h3 h4) ?_
  have I1 : Inv X pins σ H { s with heap := s.heap.push { cls := .type "range", data := .fields #[.int lo t, .int hi u, .int 1 v] }, toks := tk } := I.kept fun b o e => Heap.get?_push_of_some _ e
  refine ⟨(s.heap.push { cls := .type "range", data := .fields #[.int lo t, .int hi u, .int 1 v] }).objs.size, [(s.heap.push { cls := .type "range", data := .fields #[.int lo t, .int hi u, .int 1 v] }).objs.size], _, _, H, rfl,
    I1.kept (t' := tk) fun b o e => Heap.get?_push_of_some _ e, turn_range _ lo (hi - lo).toNat, ?_, fun b hb => ?_, q⟩
  · have e1 : lo + ((0 : Nat) : Int) * 1 = lo := by simp
    have e2 : (((hi - lo).toNat : Nat) : Int) - ((0 : Nat) : Int) = Builtin.Range.rangeSize lo hi 1 := by rw [rangeSize_one]; split <;> omega
    show IsRangeIter _ _ (lo + ((0 : Nat) : Int) * 1) ((((hi - lo).toNat : Nat) : Int) - ((0 : Nat) : Int)) 1
    rw [e1, e2]
    exact Heap.get?_push_size _ rfl
  · have e : b = (s.heap.push { cls := .type "range", data := .fields #[.int lo t, .int hi u, .int 1 v] }).objs.size := by simpa using hb
    subst e
    exact I1.fpOk (Nat.le_refl _) (I1.hok.fresh (Nat.le_refl _))
def iRng1 (ta : TA) : TI := fun σ H R => ta σ H fun vs H1 => ∃ j : Int, vs = [.int j] ∧ -(2 ^ 62) ≤ j ∧ j < 2 ^ 62 ∧ R (Itr 0 j.toNat) H1
def iRng2 (ta : TA) : TI := fun σ H R => ta σ H fun vs H1 => ∃ i j : Int, vs = [.int i, .int j] ∧ (-(2 ^ 62) ≤ i ∧ i < 2 ^ 62 ∧ -(2 ^ 62) ≤ j ∧ j < 2 ^ 62) ∧ R (Itr i (j - i).toNat) H1
theorem pi_range1 {a : Expr} {ta : TA} {p pos : Pos} (hg : Gl X "range") (hm : X.mg "range" = none) (ha : PA X [a] ta) (hs : starEach [a] X.env = [(false, eval a X.env)] := by rfl) : PI X tg (.Call (.Name "range" p) [a] [] pos) (iRng1 ta) := by
  intro pins s σ H R I h
  refine Call_ (ld_blt I hg hm boot_range (PyProof.Rows.callWith_type1 (thn (ha pos pins s σ H _ I h) fun us s1 ⟨vs, H1, I1, r1, q1⟩ => ?_) hs rfl))
  obtain ⟨j, e, q1, q2, q⟩ := q1
  subst e
  cases r1 with
  | cons r rr =>
    cases rr
    obtain ⟨t, rfl⟩ := r
    exact call_range_1 (range_it I1 (by omega) (by omega) q1 q2 (by simpa using q))
theorem pi_range2 {a b : Expr} {ta : TA} {p pos : Pos} (hg : Gl X "range") (hm : X.mg "range" = none) (ha : PA X [a, b] ta) (hs : starEach [a, b] X.env = [(false, eval a X.env), (false, eval b X.env)] := by rfl) (hs2 : starEach [b] X.env = [(false, eval b X.env)] := by rfl) :
    PI X tg (.Call (.Name "range" p) [a, b] [] pos) (iRng2 ta) := by
  intro pins s σ H R I h
  refine Call_ (ld_blt I hg hm boot_range (PyProof.Rows.callWith_type1 (thn (ha pos pins s σ H _ I h) fun us s1 ⟨vs, H1, I1, r1, q1⟩ => ?_) (by rw [hs, hs2]) (by rw [hs2]; rfl)))
  obtain ⟨i, j, e, ⟨q1, q2, q3, q4⟩, q⟩ := q1
  subst e
  cases r1 with
  | cons r rr =>
    cases rr with
    | cons r' rr =>
      cases rr
      obtain ⟨t, rfl⟩ := r
      obtain ⟨t', rfl⟩ := r'
      exact call_range_2 (range_it I1 q1 q2 q3 q4 q)
/-! ### for -/
/-- W: the invariant by the turn and a measure; N: what the body is to reach -/
def tFor (wi : TI) (g : TG) (tb : TS) : TS := fun D σ H => wi σ H fun J H1 => ∃ W : Nat → Nat → St → Hp → Prop, (∃ m, W 0 m σ H1) ∧ ∀ i m σ H, W i m σ H →
  (J.stop i H ∧ D.nx σ H) ∨ (J.go i H ∧ ∃ N : St → Hp → Prop, (∀ σ' H', N σ' H' → ∃ m', m' < m ∧ W (i + 1) m' σ' H') ∧ ∀ x H', J.yld i H x H' → g x σ H' fun σ2 H2 => tb { D with nx := N, ct := N, bk := D.nx } σ2 H2)
/-- the records at fp as they stand -/
def pinsAt (fp : List Addr) (h : Heap) : List (Addr × Obj) := fp.filterMap fun b => (h.get? b).map fun o => (b, o)
theorem mem_pinsAt {fp : List Addr} {h : Heap} {b : Addr} {o : Obj} (hb : b ∈ fp) (e : h.get? b = some o) : (b, o) ∈ pinsAt fp h := List.mem_filterMap.mpr ⟨b, hb, by rw [e]; rfl⟩
theorem of_pinsAt {fp : List Addr} {h : Heap} {p : Addr × Obj} (hp : p ∈ pinsAt fp h) : p.1 ∈ fp ∧ h.get? p.1 = some p.2 := by
  obtain ⟨b, hb, e⟩ := List.mem_filterMap.mp hp
  cases q : h.get? b with
  | none => rw [q] at e; cases e
  | some o =>
    rw [q] at e
    have e' : (b, o) = p := Option.some.inj e
    subst e'
    exact ⟨hb, q⟩
theorem Inv.pinned {pins : List (Addr × Obj)} {σ : St} {H : Hp} {s : Shared} {fp : List Addr} (I : Inv X pins σ H s) (hf : ∀ b ∈ fp, FpOk X pins H b) (ho : ∀ b ∈ fp, ∃ o, s.heap.get? b = some o ∧ ∀ v, o.data ≠ .cell v) : Inv X (pins ++ pinsAt fp s.heap) σ H s :=
  I.pins_of fun p hp => (List.mem_append.mp hp).elim (fun z => I.pin p (List.mem_append_right _ z)) fun z => by
    obtain ⟨hb, e⟩ := of_pinsAt z
    obtain ⟨f0, f1, f2, _⟩ := hf p.1 hb
    obtain ⟨o, e', d⟩ := ho p.1 hb
    rw [e] at e'; cases e'
    exact ⟨e, f0, f1, f2, d⟩
theorem Inv.unpinned {pins pl : List (Addr × Obj)} {σ : St} {H : Hp} {s : Shared} (I : Inv X (pins ++ pl) σ H s) : Inv X pins σ H s := I.pins_of fun p hp => I.pin p (List.mem_append_right _ (List.mem_append_left _ hp))
theorem ps_for {iter : Expr} {body : List Stmt} {wi : TI} {g : TG} {tb : TS} {pos : Pos} (hp : PassesOwn (model X.prog X.w) X.A X.env X.xe) (hc : X.calm = true) (hi : PI X tg iter wi) (hg : PG X tg g) (hb : PSs X body tb)
    (hs : ∀ x, foldedSetIterable iter X.env x = pure x := by intro _; rfl) : PS X (.For tg iter body [] pos) (tFor wi g tb) := by
  intro pins s σ H D I h
  refine wpAny_For (thn (hi pins s σ H _ I h) fun v s1 h1 => thn h1 fun itv s2 h2 => ?_) hs
  obtain ⟨it, fp, tn, J, H2, e, I2, T, st2, f2, W, ⟨m0, w0⟩, turn⟩ := h2
  subst e
  -- what stays true of the iterator's objects through the loop
  have stat : ∀ {H' : Hp}, (∀ b ∈ fp, H' b = none) → ∀ b ∈ fp, FpOk X pins H' b := fun hn b hb => ⟨hn b hb, (f2 b hb).2⟩
  refine codeAny_forLoop_any (fun n s' => ∃ i σ' H', Inv X pins σ' H' s' ∧ tn i s'.heap ∧ (∀ b ∈ fp, H' b = none) ∧ W i n σ' H') ?_ m0 ⟨0, σ, H2, I2, st2, fun b hb => (f2 b hb).1, w0⟩
  rintro n s3 ⟨i, σ3, H3, I3, st3, fr3, w3⟩
  rcases turn i n σ3 H3 w3 with ⟨stop, qn⟩ | ⟨go, N, hN, step⟩
  · refine wpAny_passesOwn hp (thn (T.done X rfl rfl rfl hc i pins s3 σ3 H3 X.xe I3 (stat fr3) st3 stop) fun r s4 ⟨hr, I4⟩ => ?_)
    subst hr
    exact wpAny_execs_nil ⟨σ3, H3, I4, qn⟩
  · refine wpAny_passesOwn hp (thn (T.item X rfl rfl rfl hc i pins s3 σ3 H3 X.xe I3 (stat fr3) st3 go) fun r s4 ⟨u, hr, h4⟩ => ?_)
    subst hr
    refine wpAny_passesOwn hp (thn h4 fun _ s5 ⟨x, H5, I5, r5, y5, st5, fr5⟩ => ?_)
    have I5' := I5.pinned (stat fr5) (T.obj _ _ st5)
    refine wpAny_passesOwn hp (thn (hg _ s5 σ3 H5 x u _ I5' r5 (step x H5 y5)) fun _ s6 ⟨σ6, H6, I6, q6⟩ => ?_)
    refine wpAny_passesOwn hp (thn (hb _ s6 σ6 H6 _ I6 q6) fun f s7 q7 => ?_)
    have again : ∀ {σ7 : St} {H7 : Hp}, Inv X (pins ++ pinsAt fp s5.heap) σ7 H7 s7 → N σ7 H7 → ∃ m, m < n ∧ ∃ i σ' H', Inv X pins σ' H' s7 ∧ tn i s7.heap ∧ (∀ b ∈ fp, H' b = none) ∧ W i m σ' H' := fun {σ7 H7} I7 n7 => by
      obtain ⟨m', hm, w7⟩ := hN σ7 H7 n7
      refine ⟨m', hm, i + 1, σ7, H7, I7.unpinned, T.keep _ _ _ st5 fun b hb o e => (I7.pin (b, o) (List.mem_append_right _ (List.mem_append_right _ (mem_pinsAt hb e)))).1, fun b hb => ?_, w7⟩
      obtain ⟨o, e, d⟩ := T.obj _ _ st5 b hb
      exact (I7.pin (b, o) (List.mem_append_right _ (List.mem_append_right _ (mem_pinsAt hb e)))).2.1
    cases f with
    | next => obtain ⟨σ7, H7, I7, n7⟩ := q7; exact again I7 n7
    | cont => obtain ⟨σ7, H7, I7, n7⟩ := q7; exact again I7 n7
    | brk => obtain ⟨σ7, H7, I7, q7⟩ := q7; exact ⟨σ7, H7, I7.unpinned, q7⟩
    | ret v => obtain ⟨x7, σ7, H7, I7, r7, q7⟩ := q7; exact ⟨x7, σ7, H7, I7.unpinned, r7, q7⟩
end
/-! ### the forms one uses -/
/-- over a list that the body leaves as it is -/
theorem for_list {K : PySem.W.Frag} {a : Addr} {xs : List V} {g : TG} {tb : TS} {D : Ends} {σ : St} {H : Hp} (Pv : Nat → St → Hp → Prop) (h0 : Pv 0 σ H) (hl : ∀ i σ H, i ≤ xs.length → Pv i σ H → SqL K H a xs)
    (hs : ∀ i x σ H, xs[i]? = some x → Pv i σ H → g x σ H fun σ2 H2 => tb { D with nx := Pv (i + 1), ct := Pv (i + 1), bk := D.nx } σ2 H2) (hd : ∀ σ H, Pv xs.length σ H → D.nx σ H) :
    ∃ W : Nat → Nat → St → Hp → Prop, (∃ m, W 0 m σ H) ∧ ∀ i m σ H, W i m σ H →
      ((Itl K a).stop i H ∧ D.nx σ H) ∨ ((Itl K a).go i H ∧ ∃ N : St → Hp → Prop, (∀ σ' H', N σ' H' → ∃ m', m' < m ∧ W (i + 1) m' σ' H') ∧ ∀ x H', (Itl K a).yld i H x H' → g x σ H' fun σ2 H2 => tb { D with nx := N, ct := N, bk := D.nx } σ2 H2) := by
  refine ⟨fun i m σ H => m = xs.length - i ∧ i ≤ xs.length ∧ Pv i σ H, ⟨xs.length, by simp, Nat.zero_le _, h0⟩, ?_⟩
  rintro i m σ H ⟨rfl, hi, p⟩
  have q := hl i σ H hi p
  by_cases hlt : i < xs.length
  · refine .inr ⟨⟨xs, xs[i], q, by simp [hlt]⟩, Pv (i + 1), fun σ' H' p' => ⟨xs.length - (i + 1), by omega, rfl, hlt, p'⟩, fun x H' y => ?_⟩
    obtain ⟨e, y⟩ := y
    subst e
    exact hs i x σ _ (y xs q) p
  · have e : i = xs.length := by omega
    subst e
    exact .inl ⟨⟨xs, q, Nat.le_refl _⟩, hd σ H p⟩
theorem for_range {lo : Int} {n : Nat} {g : TG} {tb : TS} {D : Ends} {σ : St} {H : Hp} (Pv : Nat → St → Hp → Prop) (h0 : Pv 0 σ H)
    (hs : ∀ i σ H, i < n → Pv i σ H → g (.int (lo + i)) σ H fun σ2 H2 => tb { D with nx := Pv (i + 1), ct := Pv (i + 1), bk := D.nx } σ2 H2) (hd : ∀ σ H, Pv n σ H → D.nx σ H) :
    ∃ W : Nat → Nat → St → Hp → Prop, (∃ m, W 0 m σ H) ∧ ∀ i m σ H, W i m σ H →
      ((Itr lo n).stop i H ∧ D.nx σ H) ∨ ((Itr lo n).go i H ∧ ∃ N : St → Hp → Prop, (∀ σ' H', N σ' H' → ∃ m', m' < m ∧ W (i + 1) m' σ' H') ∧ ∀ x H', (Itr lo n).yld i H x H' → g x σ H' fun σ2 H2 => tb { D with nx := N, ct := N, bk := D.nx } σ2 H2) := by
  refine ⟨fun i m σ H => m = n - i ∧ i ≤ n ∧ Pv i σ H, ⟨n, by simp, Nat.zero_le _, h0⟩, ?_⟩
  rintro i m σ H ⟨rfl, hi, p⟩
  by_cases hlt : i < n
  · refine .inr ⟨hlt, Pv (i + 1), fun σ' H' p' => ⟨n - (i + 1), by omega, rfl, hlt, p'⟩, fun x H' y => ?_⟩
    obtain ⟨e, y⟩ := y
    subst e y
    exact hs i σ _ hlt p
  · have e : i = n := by omega
    subst e
    exact .inl ⟨Nat.le_refl _, hd σ H p⟩
/-- while, by a word and a measure of the state -/
theorem while_by {c : TT} {tb : TS} {D : Ends} {σ : St} {H : Hp} (Pv : St → Hp → Prop) (μ : St → Hp → Nat) (h0 : Pv σ H)
    (hs : ∀ σ H, Pv σ H → c σ H fun b H1 => if b = true then tb { D with nx := fun σ' H' => Pv σ' H' ∧ μ σ' H' < μ σ H, ct := fun σ' H' => Pv σ' H' ∧ μ σ' H' < μ σ H, bk := D.nx } σ H1 else D.nx σ H1)
    (mono : ∀ σ H Q Q', (∀ b H1, Q b H1 → Q' b H1) → c σ H Q → c σ H Q') : tWhile c tb D σ H := by
  refine ⟨fun m σ H => m = μ σ H ∧ Pv σ H, ⟨_, rfl, h0⟩, ?_⟩
  rintro m σ H ⟨rfl, p⟩
  refine mono σ H _ _ (fun b H1 q => ?_) (hs σ H p)
  cases b with
  | true => exact ⟨_, fun σ' H' ⟨p', l⟩ => ⟨_, l, rfl, p'⟩, q⟩
  | false => exact q
end L2
namespace L2
open PySem PySem.Spec PyProof.Rows
abbrev R2 := V → V → Hp → VK → Prop
/-- a two-place operation on values: f is binaryOp op, inplaceOp op or compareOp op -/
def OpR (X : Cx) (f : Value → Value → Sem Value) (r : R2) : Prop :=
  ∀ (pins : List (Addr × Obj)) (s : Shared) (σ : St) (H : Hp) (x y : V) (v u : Value) (Q : VK), Inv X pins σ H s → RelV x v → RelV y u → r x y H Q →
    wpAny (model X.prog X.w) X.A (f v u) (EP X pins σ Q) X.xe s
/-- a one-place operation -/
def UnR (X : Cx) (f : Value → Sem Value) (r : V → Hp → VK → Prop) : Prop :=
  ∀ (pins : List (Addr × Obj)) (s : Shared) (σ : St) (H : Hp) (x : V) (v : Value) (Q : VK), Inv X pins σ H s → RelV x v → r x H Q →
    wpAny (model X.prog X.w) X.A (f v) (EP X pins σ Q) X.xe s
/-- a call of a value that is known (a builtin, a type) with values -/
def CallR (X : Cx) (f : Value) (r : List V → Hp → VK → Prop) : Prop :=
  ∀ (pins : List (Addr × Obj)) (s : Shared) (σ : St) (H : Hp) (xs : List V) (us : List Value) (Q : VK), Inv X pins σ H s → Vals xs us → r xs H Q →
    wpAny (model X.prog X.w) X.A (call f us) (EP X pins σ Q) X.xe s
def tOp (r : R2) (ta tb : TE) : TE := fun σ H Q => ta σ H fun x H1 => tb σ H1 fun y H2 => r x y H2 Q
def tUn (r : V → Hp → VK → Prop) (ta : TE) : TE := fun σ H Q => ta σ H fun x H1 => r x H1 Q
/-- ints in, under C, and a value out -/
def rI (C : Int → Int → Prop) (g : Int → Int → V) : R2 := fun x y H Q => ∃ i j, x = .int i ∧ y = .int j ∧ C i j ∧ Q (g i j) H
def rI0 (g : Int → Int → V) : R2 := fun x y H Q => ∃ i j, x = .int i ∧ y = .int j ∧ Q (g i j) H
def rU (g : Int → V) : V → Hp → VK → Prop := fun x H Q => ∃ i, x = .int i ∧ Q (g i) H
section
variable {X : Cx} {a b c : Expr} {ta tb tc : TE} {pos : Pos}
theorem binT (ha : PE X a ta) (hb : PE X b tb) {pins : List (Addr × Obj)} {s : Shared} {σ : St} {H : Hp} {R : V → V → Hp → Prop} (I : Inv X pins σ H s)
    (h : ta σ H fun x H1 => tb σ H1 fun y H2 => R x y H2) {Q : Value → Shared → Prop} {f : Value → Value → Sem Value}
    (hf : ∀ v u s2 x y H2, Inv X pins σ H2 s2 → RelV x v → RelV y u → R x y H2 → wpAny (model X.prog X.w) X.A (f v u) Q X.xe s2) :
    wpAny (model X.prog X.w) X.A (eval a X.env) (fun v s₁ => wpAny (model X.prog X.w) X.A (eval b X.env) (fun u s₂ => wpAny (model X.prog X.w) X.A (f v u) Q X.xe s₂) X.xe s₁) X.xe s := by
  refine thn (ha pins s σ H _ I h) fun v s1 ⟨x, H1, I1, r1, q1⟩ => ?_
  refine thn (hb pins s1 σ H1 _ I1 q1) fun u s2 ⟨y, H2, I2, r2, q2⟩ => ?_
  exact hf v u s2 x y H2 I2 r1 r2 q2
theorem pe_op {op : Operator} {r : R2} (ho : OpR X (binaryOp op) r) (ha : PE X a ta) (hb : PE X b tb) : PE X (.BinOp a op b pos) (tOp r ta tb) := by
  intro pins s σ H Q I h
  exact wpAny_BinOp (binT ha hb I h fun v u s2 x y H2 I2 rx ry q => ho pins s2 σ H2 x y v u Q I2 rx ry q)
theorem pe_un {op : UnaryOp} {r : V → Hp → VK → Prop} (ho : UnR X (unaryOp op) r) (ha : PE X a ta) : PE X (.UnaryOp op a pos) (tUn r ta) := by
  intro pins s σ H Q I h
  exact UnaryOp_ (thn (ha pins s σ H _ I h) fun v s1 ⟨x, H1, I1, r1, q1⟩ => ho pins s1 σ H1 x v Q I1 r1 q1)
/-! ### ints -/
theorem opI {f : Value → Value → Sem Value} {C : Int → Int → Prop} {g : Int → Int → Int}
    (rule : ∀ (i j : Int) (t u : Tok) (s : Shared) (Q : Value → Shared → Prop) (E : Value → Shared → Prop), C i j → Q (.int (g i j) s.toks) { s with toks := s.toks + 1 } → wpAny (model X.prog X.w) X.A (f (.int i t) (.int j u)) Q E s) :
    OpR X f (rI C fun i j => .int (g i j)) := by
  intro pins s σ H x y v u Q I rx ry h
  obtain ⟨i, j, rfl, rfl, hc, q⟩ := h
  obtain ⟨t, rfl⟩ := rx
  obtain ⟨t', rfl⟩ := ry
  exact rule i j t t' s _ _ hc ⟨.int (g i j), H, I.tok _, ⟨_, rfl⟩, q⟩
theorem opI0 {f : Value → Value → Sem Value} {g : Int → Int → Int}
    (rule : ∀ (i j : Int) (t u : Tok) (s : Shared) (Q : Value → Shared → Prop) (E : Value → Shared → Prop), Q (.int (g i j) s.toks) { s with toks := s.toks + 1 } → wpAny (model X.prog X.w) X.A (f (.int i t) (.int j u)) Q E s) :
    OpR X f (rI0 fun i j => .int (g i j)) := by
  intro pins s σ H x y v u Q I rx ry h
  obtain ⟨i, j, rfl, rfl, q⟩ := h
  obtain ⟨t, rfl⟩ := rx
  obtain ⟨t', rfl⟩ := ry
  exact rule i j t t' s _ _ ⟨.int (g i j), H, I.tok _, ⟨_, rfl⟩, q⟩
theorem opB0 {f : Value → Value → Sem Value} {g : Int → Int → Bool}
    (rule : ∀ (i j : Int) (t u : Tok) (s : Shared) (Q : Value → Shared → Prop) (E : Value → Shared → Prop), Q (.bool (g i j)) s → wpAny (model X.prog X.w) X.A (f (.int i t) (.int j u)) Q E s) :
    OpR X f (rI0 fun i j => .bl (g i j)) := by
  intro pins s σ H x y v u Q I rx ry h
  obtain ⟨i, j, rfl, rfl, q⟩ := h
  obtain ⟨t, rfl⟩ := rx
  obtain ⟨t', rfl⟩ := ry
  exact rule i j t t' s _ _ ⟨.bl (g i j), H, I, rfl, q⟩
def CDiv (i j : Int) : Prop := 0 < j ∧ j < 1073741824
def CMul (i j : Int) : Prop := (-(2 ^ 64) < i ∧ i < 2 ^ 64) ∨ (-(2 ^ 64) < j ∧ j < 2 ^ 64)
theorem CMul.ok {i j : Int} (h : CMul i j) : IntMulOk i j := by
  rcases h with ⟨h1, h2⟩ | ⟨h1, h2⟩
  · exact .of_left (intBits_le_64 h1 h2)
  · exact .of_right (intBits_le_64 h1 h2)
theorem op_add : OpR X (binaryOp .Add) (rI0 fun i j => .int (i + j)) := opI0 fun _ _ _ _ _ _ _ q => add_int q
theorem op_sub : OpR X (binaryOp .Sub) (rI0 fun i j => .int (i - j)) := opI0 fun _ _ _ _ _ _ _ q => sub_int q
theorem op_mul : OpR X (binaryOp .Mult) (rI CMul fun i j => .int (i * j)) := opI fun _ _ _ _ _ _ _ hc q => mul_int q hc.ok
/-- // by a positive divisor -/
theorem op_fdiv : OpR X (binaryOp .FloorDiv) (rI CDiv fun i j => .int (i / j)) := opI fun i j _ _ _ _ _ hc q => by
  have h1 : (0 : Int) < j := hc.1
  have h2 : j < 1073741824 := hc.2
  exact floordiv_int (by omega) (by rw [Int.fdiv_eq_ediv_of_nonneg i (by omega)]; exact q) (.inl (PyProof.noPylong_small (by omega)))
/-- % by a positive divisor of any size -/
theorem op_mod : OpR X (binaryOp .Mod) (rI (fun _ j => 0 < j) fun i j => .int (i % j)) := opI fun i j _ _ _ _ _ hc q => by
  have h1 : (0 : Int) < j := hc
  exact mod_int' (by omega) (by rw [Int.fmod_eq_emod_of_nonneg i (by omega)]; exact q)
theorem unI {f : Value → Sem Value} {g : Int → Int}
    (rule : ∀ (i : Int) (t : Tok) (s : Shared) (Q : Value → Shared → Prop) (E : Value → Shared → Prop), Q (.int (g i) s.toks) { s with toks := s.toks + 1 } → wpAny (model X.prog X.w) X.A (f (.int i t)) Q E s) :
    UnR X f (rU fun i => .int (g i)) := by
  intro pins s σ H x v Q I rx h
  obtain ⟨i, rfl, q⟩ := h
  obtain ⟨t, rfl⟩ := rx
  exact rule i t s _ _ ⟨.int (g i), H, I.tok _, ⟨_, rfl⟩, q⟩
theorem un_neg : UnR X (unaryOp .USub) (rU fun i => .int (-i)) := unI fun _ _ _ _ _ q => neg_int q
/-! ### bools among ints: n += (a < b) -/
end
/-! ### comparisons -/
/-- the scalars that == tells apart as data does -/
def scal : V → V → Bool
  | .non, .non => true | .non, .int _ => true | .int _, .non => true | .non, .bl _ => true | .bl _, .non => true | .non, .str _ => true | .str _, .non => true
  | .int _, .int _ => true | .bl _, .bl _ => true | .str _, .str _ => true | .byt _, .byt _ => true
  | .int _, .str _ => true | .str _, .int _ => true | .bl _, .str _ => true | .str _, .bl _ => true
  | _, _ => false
def rEq : R2 := fun x y H Q => scal x y = true ∧ Q (.bl (decide (x = y))) H
def rNe : R2 := fun x y H Q => scal x y = true ∧ Q (.bl (!decide (x = y))) H
theorem dec_int {i j : Int} : decide (V.int i = V.int j) = (i == j) := by
  rw [Bool.eq_iff_iff]
  simp
theorem dec_bl {i j : Bool} : decide (V.bl i = V.bl j) = (i == j) := by
  rw [Bool.eq_iff_iff]
  simp
theorem dec_str {i j : Str} : decide (V.str i = V.str j) = (i == j) := by
  rw [Bool.eq_iff_iff]
  simp
theorem dec_byt {i j : Array UInt8} : decide (V.byt i = V.byt j) = (i.toList == j.toList) := by
  rw [Bool.eq_iff_iff]
  cases i
  cases j
  simp
section
variable {X : Cx} {a b c : Expr} {ta tb tc : TE} {pos : Pos}
theorem fin_bl {pins : List (Addr × Obj)} {σ : St} {H : Hp} {s : Shared} {Q : VK} {k k' : Bool} (I : Inv X pins σ H s) (q : Q (.bl k) H) (e : k = k') : EP X pins σ Q (.bool k') s := by
  subst e
  exact ⟨.bl k, H, I, rfl, q⟩
theorem op_eq : OpR X (compareOp .Eq) rEq := by
  intro pins s σ H x y v u Q I rx ry h
  obtain ⟨hs, q⟩ := h
  cases x with
  | non =>
    cases rx
    cases y with
    | non => cases ry; exact PySem.EqNone.eq_none_none (fin_bl I q (by simp))
    | bl j => cases ry; exact PySem.EqNone.eq_none_bool (fin_bl I q (by simp))
    | int j => obtain ⟨t', rfl⟩ := ry; exact PySem.EqNone.eq_none_int (fin_bl I q (by simp))
    | str j => obtain ⟨t', rfl⟩ := ry; exact PySem.EqNone.eq_none_str (fin_bl I q (by simp))
    | _ => exact absurd (show false = true from hs) Bool.false_ne_true
  | bl i =>
    cases rx
    cases y with
    | non => cases ry; exact PySem.EqNone.eq_bool_none (fin_bl I q (by simp))
    | bl j => cases ry; exact eq_bool (fin_bl I q dec_bl)
    | str j => obtain ⟨t', rfl⟩ := ry; exact PySem.EqMixed.eq_bool_str (fin_bl I q (by simp))
    | _ => exact absurd (show false = true from hs) Bool.false_ne_true
  | int i =>
    obtain ⟨t, rfl⟩ := rx
    cases y with
    | non => cases ry; exact PySem.EqNone.eq_int_none (fin_bl I q (by simp))
    | int j => obtain ⟨t', rfl⟩ := ry; exact eq_int (fin_bl I q dec_int)
    | str j => obtain ⟨t', rfl⟩ := ry; exact PySem.EqMixed.eq_int_str (fin_bl I q (by simp))
    | _ => exact absurd (show false = true from hs) Bool.false_ne_true
  | str i =>
    obtain ⟨t, rfl⟩ := rx
    cases y with
    | non => cases ry; exact PySem.EqNone.eq_str_none (fin_bl I q (by simp))
    | bl j => cases ry; exact PySem.EqMixed.eq_str_bool (fin_bl I q (by simp))
    | int j => obtain ⟨t', rfl⟩ := ry; exact PySem.EqMixed.eq_str_int (fin_bl I q (by simp))
    | str j => obtain ⟨t', rfl⟩ := ry; exact eq_str (fin_bl I q dec_str)
    | _ => exact absurd (show false = true from hs) Bool.false_ne_true
  | byt i =>
    obtain ⟨t, rfl⟩ := rx
    cases y with
    | byt j => obtain ⟨t', rfl⟩ := ry; exact PySem.W.eq_bytes (fin_bl I q dec_byt)
    | _ => exact absurd (show false = true from hs) Bool.false_ne_true
  | _ => cases y <;> exact absurd (show false = true from hs) Bool.false_ne_true
theorem op_ne : OpR X (compareOp .NotEq) rNe := by
  intro pins s σ H x y v u Q I rx ry h
  obtain ⟨hs, q⟩ := h
  cases x with
  | non =>
    cases rx
    cases y with
    | non => cases ry; exact PySem.EqNone.ne_none_none (fin_bl I q (by simp))
    | bl j => cases ry; exact PySem.EqNone.ne_none_bool (fin_bl I q (by simp))
    | int j => obtain ⟨t', rfl⟩ := ry; exact PySem.EqNone.ne_none_int (fin_bl I q (by simp))
    | str j => obtain ⟨t', rfl⟩ := ry; exact PySem.EqNone.ne_none_str (fin_bl I q (by simp))
    | _ => exact absurd (show false = true from hs) Bool.false_ne_true
  | bl i =>
    cases rx
    cases y with
    | non => cases ry; exact PySem.EqNone.ne_bool_none (fin_bl I q (by simp))
    | bl j => cases ry; exact ne_bool (fin_bl I q (congrArg not dec_bl))
    | str j => obtain ⟨t', rfl⟩ := ry; exact PySem.EqMixed.ne_bool_str (fin_bl I q (by simp))
    | _ => exact absurd (show false = true from hs) Bool.false_ne_true
  | int i =>
    obtain ⟨t, rfl⟩ := rx
    cases y with
    | non => cases ry; exact PySem.EqNone.ne_int_none (fin_bl I q (by simp))
    | int j => obtain ⟨t', rfl⟩ := ry; exact ne_int (fin_bl I q (congrArg not dec_int))
    | str j => obtain ⟨t', rfl⟩ := ry; exact PySem.EqMixed.ne_int_str (fin_bl I q (by simp))
    | _ => exact absurd (show false = true from hs) Bool.false_ne_true
  | str i =>
    obtain ⟨t, rfl⟩ := rx
    cases y with
    | non => cases ry; exact PySem.EqNone.ne_str_none (fin_bl I q (by simp))
    | bl j => cases ry; exact PySem.EqMixed.ne_str_bool (fin_bl I q (by simp))
    | int j => obtain ⟨t', rfl⟩ := ry; exact PySem.EqMixed.ne_str_int (fin_bl I q (by simp))
    | str j => obtain ⟨t', rfl⟩ := ry; exact ne_str (fin_bl I q (congrArg not dec_str))
    | _ => exact absurd (show false = true from hs) Bool.false_ne_true
  | byt i =>
    obtain ⟨t, rfl⟩ := rx
    cases y with
    | byt j => obtain ⟨t', rfl⟩ := ry; exact PySem.W.ne_bytes (fin_bl I q (congrArg not dec_byt))
    | _ => exact absurd (show false = true from hs) Bool.false_ne_true
  | _ => cases y <;> exact absurd (show false = true from hs) Bool.false_ne_true
theorem op_lt : OpR X (compareOp .Lt) (rI0 fun i j => .bl (decide (i < j))) := opB0 fun _ _ _ _ _ _ _ q => lt_int q
theorem op_le : OpR X (compareOp .LtE) (rI0 fun i j => .bl (decide (i ≤ j))) := opB0 fun _ _ _ _ _ _ _ q => le_int q
theorem op_gt : OpR X (compareOp .Gt) (rI0 fun i j => .bl (decide (j < i))) := opB0 fun _ _ _ _ _ _ _ q => gt_int q
theorem op_ge : OpR X (compareOp .GtE) (rI0 fun i j => .bl (decide (j ≤ i))) := opB0 fun _ _ _ _ _ _ _ q => ge_int q
theorem nomark (b : Expr) {op : CmpOp} (h : op ≠ .In := by decide) (h2 : op ≠ .NotIn := by decide) : behindInMarks op b = false := by
  have e1 : (op == CmpOp.In) = false := by cases op <;> first | rfl | exact absurd rfl h
  have e2 : (op == CmpOp.NotIn) = false := by cases op <;> first | rfl | exact absurd rfl h2
  cases b <;> simp [behindInMarks, e1, e2]
/-- a comparison as a value; hm: nomark b, or (for in, not in) by with_unfolding_all rfl -/
theorem pe_cmpR {op : CmpOp} {r : R2} (ho : OpR X (compareOp op) r) (ha : PE X a ta) (hb : PE X b tb) (hm : behindInMarks op b = false) : PE X (.Compare a [op] [b] pos) (tOp r ta tb) := by
  intro pins s σ H Q I h
  exact wpAny_Compare1 (binT ha hb I h fun v u s2 x y H2 I2 rx ry q => ho pins s2 σ H2 x y v u Q I2 rx ry q) hm
/-- a reading of a value as a test -/
def tTest (t : TE) : TT := fun σ H Q => t σ H fun x H' => ∃ k, x = .bl k ∧ Q k H'
theorem pt_cmpR {op : CmpOp} {r : R2} (ho : OpR X (compareOp op) r) (ha : PE X a ta) (hb : PE X b tb) (hm : behindInMarks op b = false) : PT X (.Compare a [op] [b] pos) (tTest (tOp r ta tb)) := by
  intro pins s σ H Q I h
  refine wpAny_isTrue_Compare1 (thn (ha pins s σ H _ I h) fun v s1 ⟨x, H1, I1, r1, q1⟩ => thn (hb pins s1 σ H1 _ I1 q1) fun u s2 ⟨y, H2, I2, r2, q2⟩ =>
    thn (ho pins s2 σ H2 x y v u _ I2 r1 r2 q2) fun c s3 ⟨z, H3, I3, r3, k, e, q3⟩ => ?_) hm
  subst e
  cases r3
  exact wpAny_truthy_bool ⟨H3, I3, q3⟩
/-- a op1 b op2 c -/
def tChain (r r' : R2) (ta tb tc : TE) : TE := fun σ H Q => ta σ H fun x H1 => tb σ H1 fun y H2 => r x y H2 fun z H3 => ∃ k, z = .bl k ∧
  (if k = true then tc σ H3 fun w' H4 => r' y w' H4 Q else Q (.bl false) H3)
theorem pe_chain {op op' : CmpOp} {r r' : R2} (ho : OpR X (compareOp op) r) (ho' : OpR X (compareOp op') r') (ha : PE X a ta) (hb : PE X b tb) (hc : PE X c tc)
    (hm : lastMarks [op, op'] [b, c] = false := by with_unfolding_all rfl) : PE X (.Compare a [op, op'] [b, c] pos) (tChain r r' ta tb tc) := by
  intro pins s σ H Q I h
  refine Compare_chain (thn (ha pins s σ H _ I h) fun v s1 ⟨x, H1, I1, r1, q1⟩ => chain_link (thn (hb pins s1 σ H1 _ I1 q1) fun u s2 ⟨y, H2, I2, r2, q2⟩ =>
    thn (ho pins s2 σ H2 x y v u _ I2 r1 r2 q2) fun d s3 ⟨z, H3, I3, r3, k, e, q3⟩ => ?_)) hm
  subst e
  cases r3
  refine wpAny_truthy_bool ?_
  cases k with
  | false => exact ite_ff ⟨.bl false, H3, I3, rfl, q3⟩
  | true => exact ite_tt (chain_last (thn (hc pins s3 σ H3 _ I3 q3) fun w' s4 ⟨z', H4, I4, r4, q4⟩ => ho' pins s4 σ H4 y z' u w' Q I4 r2 r4 q4))
/-! ### truth -/
theorem line63 : (sizeLine : Nat) < 2 ^ 63 := by rw [sizeLine_eq]; decide
/-! ### strs and bytes -/
/-! ### scalar builtins, by CallR -/
theorem vals1 {x : V} {us : List Value} (r : Vals [x] us) : ∃ u, us = [u] ∧ RelV x u := by
  cases r with
  | cons r1 r2 => cases r2; exact ⟨_, rfl, r1⟩
theorem vals2 {x y : V} {us : List Value} (r : Vals [x, y] us) : ∃ u w', us = [u, w'] ∧ RelV x u ∧ RelV y w' := by
  cases r with
  | cons r1 r2 =>
    cases r2 with
    | cons r3 r4 => cases r4; exact ⟨_, _, rfl, r1, r3⟩
theorem call_max2 (hc : X.calm = true) : CallR X (.builtin "max") (fun xs H Q => ∃ i j, xs = [.int i, .int j] ∧ Q (.int (if j > i then j else i)) H) := by
  intro pins s σ H xs us Q I r h
  obtain ⟨i, j, rfl, q⟩ := h
  obtain ⟨u, w', rfl, ⟨t, rfl⟩, ⟨t', rfl⟩⟩ := vals2 r
  refine max_two_ints (I.ok.hd hc) fun h' tk k => ⟨_, H, I.kept k, ?_, q⟩
  by_cases hj : j > i
  · rw [if_pos hj, if_pos hj]; exact ⟨_, rfl⟩
  · rw [if_neg hj, if_neg hj]; exact ⟨_, rfl⟩
end
end L2
namespace L2
open PySem PySem.Spec PyProof.Rows
/-! ### an instance, its attributes a map -/
section
variable {prog : Program} {w : World} {A : Around} {E : Value → Shared → Prop} {s : Shared} {K : PySem.W.Frag} {x dx C f : Addr} {mA : Str → Option Value} {name : Str} {v : Value}
end
/-! ### the attributes as a list of pairs -/
theorem RelO.some_of {v : V} {o : Option Value} (r : RelO (some v) o) : ∃ u, o = some u ∧ RelV v u := by
  cases o with
  | none => exact (show False from r).elim
  | some u => exact ⟨u, rfl, r⟩
section
variable {P : Program} {w : World} {H H' : Hp} {h h' : Heap} {a C dx : Addr} {fs fs' : List (Str × V)}
end
/-! ### what of the text a class must have -/
section
variable {X : Cx} {pins : List (Addr × Obj)} {σ : St} {H : Hp} {s : Shared} {a C dx : Addr} {fs : List (Str × V)} {f : Str} {v : V} {A : Around} {E : Value → Shared → Prop}
end
/-! ### readings and rules -/
section
variable {X : Cx} {o e value : Expr} {f : Str} {pos pos' tpos : Pos} {ta tv : TE}
end
/-! ### isinstance -/
section
variable {X : Cx} {pins : List (Addr × Obj)} {σ : St} {H : Hp} {s : Shared} {A : Around} {E : Value → Shared → Prop} {Q : Value → Shared → Prop} {c : Value} {b : Bool}
end
end L2
namespace L2
open PySem PySem.Spec PyProof.Rows
/-! ### room -/
structure Room (k : Nat) (A : Around) : Prop where
  hd : A.handled = none
  dp : A.depth + 3 * k + 5 < recursionLimit
  un : A.units + 16 * k + 200 < cLine
theorem Room.mono {j k : Nat} {A : Around} (r : Room k A) (h : j ≤ k) : Room j A := ⟨r.hd, by have := r.dp; omega, by have := r.un; omega⟩
theorem Room.deeper {k : Nat} {A : Around} (r : Room (k + 1) A) (env : Env) : Room k (A.deeper env) :=
  ⟨r.hd, by have := r.dp; show A.depth + 1 + 3 * k + 5 < _; omega, by have := r.un; show A.units + 3 + 16 * k + 200 < _; omega⟩
theorem Room.depth {k : Nat} {A : Around} (r : Room k A) : A.depth < recursionLimit := by have := r.dp; omega
theorem Room.units {k : Nat} {A : Around} (r : Room k A) : A.units + 64 < cLine := by have := r.un; omega
/-! ### argument lists and displays -/
def tNil : TA := fun _ H Q => Q [] H
def tCons (ta : TE) (tr : TA) : TA := fun σ H Q => ta σ H fun x H1 => tr σ H1 fun xs H2 => Q (x :: xs) H2
section
variable {X : Cx} {e : Expr} {es : List Expr} {te : TE} {t : TA} {pos : Pos}
theorem pa_nil : PA X [] tNil := fun _ _ _ _ H Q I h => Calls.spliced_nil ⟨[], H, I, .nil, h⟩
theorem pa_cons (ha : PE X e te) (hr : PA X es t) (hs : starEach (e :: es) X.env = (false, eval e X.env) :: starEach es X.env := by rfl) : PA X (e :: es) (tCons te t) := by
  intro pos pins s σ H Q I h
  rw [hs]
  show wpAny _ _ (spliced ((false, eval e X.env) :: backTo pos (starEach es X.env))) _ _ s
  refine Calls.spliced_cons (thn (ha pins s σ H _ I h) fun u s1 ⟨x, H1, I1, r1, q1⟩ => ?_)
  exact thn (hr pos pins s1 σ H1 _ I1 q1) fun us s2 ⟨xs, H2, I2, r2, q2⟩ => ⟨x :: xs, H2, I2, .cons r1 r2, q2⟩
/-- a tuple, a list of written items -/
def tTup (t : TA) : TE := fun σ H Q => t σ H fun xs H1 => xs.length ≤ sizeLine ∧ ∀ p, H1 p = none → Q (.ref p) (upd H1 p (.tup xs))
def tLst (t : TA) : TE := fun σ H Q => t σ H fun xs H1 => xs.length ≤ sizeLine ∧ ∀ p, H1 p = none → Q (.ref p) (upd H1 p (.lst xs))
theorem pe_tup {x1} (h : PA X es t) : PE X (.Tuple es x1 pos) (tTup t) := by
  intro pins s σ H Q I hq
  refine wpAny_Tuple_spliced (thn (h pos pins s σ H _ I hq) fun us s1 ⟨xs, H1, I1, r, z, q⟩ => ⟨by rw [← r.length]; exact z, ?_⟩)
  have hf : H1 s1.heap.objs.size = none := I1.hok.fresh (Nat.le_refl _)
  refine ⟨.ref s1.heap.objs.size, upd H1 s1.heap.objs.size (.tup xs), I1.laid (t' := s1.toks) (fun b u e => Heap.get?_push_of_some _ e) (Nat.le_refl _) ?_, rfl, q _ hf⟩
  exact ⟨z, us, r, ⟨_, Heap.get?_push_size _ rfl, rfl, _, rfl⟩⟩
theorem pe_lst (h : PA X es t) : PE X (.List es pos) (tLst t) := by
  intro pins s σ H Q I hq
  refine wpAny_List_spliced (thn (h pos pins s σ H _ I hq) fun us s1 ⟨xs, H1, I1, r, z, q⟩ => ⟨by rw [← r.length]; exact z, ?_⟩)
  have hf : H1 s1.heap.objs.size = none := I1.hok.fresh (Nat.le_refl _)
  refine ⟨.ref s1.heap.objs.size, upd H1 s1.heap.objs.size (.lst xs), I1.laid (t' := s1.toks) (fun b u e => Heap.get?_push_of_some _ e) (Nat.le_refl _) ?_, rfl, q _ hf⟩
  exact ⟨z, us, 0, r, Heap.get?_push_size _ rfl⟩
end
/-! ### what a def promises -/
/-- a def's promise: the bound arguments in the parameters' order, the heap, the wanted end, the wanted exception -/
abbrev Sp := List V → Hp → VK → XK → Prop
/-- how an exception lies behind a call (file 08 gives it): the callers' frames, abstract heap and state ahead of the call, the wish, the exception, the state -/
abbrev CXT := List Env → Hp → Shared → XK → Value → Shared → Prop
/-- the state at a call -/
structure Env0 (P : Program) (w : World) (K : PySem.W.Frag) (mg : Str → Option Value) (base : Heap) (A : Around) (outer : List Env) (s : Shared) (H : Hp) : Prop where
  frames : A.frames = some outer
  mod : Mod K mg base
  bs : ∀ b o, base.get? b = some o → s.heap.get? b = some o ∧ H b = none
  bsz : base.objs.size ≤ s.heap.objs.size
  funs : s.heap.FunFrames base outer
  frf : ∀ b ∈ frs outer, H b = none
  hok : HOk P w H s.heap
  bare : AllBare s.gens
/-- a call's end -/
def CE (outer : List Env) (P : Program) (w : World) (H : Hp) (s : Shared) (Q : VK) (u : Value) (s' : Shared) : Prop :=
  ∃ v H', s'.os = s.os ∧ AllBare s'.gens ∧ Un (frs outer) [] H H' s.heap s'.heap ∧ HOk P w H' s'.heap ∧ RelV v u ∧ Q v H'
def CR (CX : CXT) (outer : List Env) (P : Program) (w : World) (H : Hp) (s : Shared) (Q : VK) (E : XK) (r : Result) (s' : Shared) : Prop :=
  match r with
  | .ok (.ret u) => CE outer P w H s Q u s'
  | .ok _ => False
  | .error e => CX outer H s E e s'
structure FnOk (P : Program) (w : World) (K : PySem.W.Frag) (mg : Str → Option Value) (base : Heap) (CX : CXT) (k : Nat) (f : Addr) (fd : FuncData) (ps : List Str) (sp : Sp) : Prop where
  len : ∀ vs H Q E, sp vs H Q E → vs.length = ps.length
  run : ∀ (A : Around) (outer : List Env) (s : Shared) (H : Hp) (args : Args) (us : List Value) (vs : List V) (Q : VK) (E : XK), Room k A → Env0 P w K mg base A outer s H → BindsTo s fd args (ps.zip us) → Vals vs us → sp vs H Q E →
    codeAny (model P w) A (.call (.ref f) args) (CR CX outer P w H s Q E) s
section
variable {X : Cx} {pins : List (Addr × Obj)} {σ : St} {H : Hp} {s s' : Shared}
/-- from a body: what a callee wants -/
theorem Inv.env0 (I : Inv X pins σ H s) : Env0 X.prog X.w X.K X.mg X.base X.A X.stack s H :=
  ⟨I.ok.frames, I.ok.mod, I.bs, Nat.le_trans I.ok.bsz I.sz, I.stack, I.stkFree, I.hok, I.bare⟩
/-- behind a call -/
theorem Inv.after {Q : VK} {u : Value} (I : Inv X pins σ H s) (h : CE X.stack X.prog X.w H s Q u s') : EP X pins σ Q u s' := by
  obtain ⟨v, H', os, bare, un, hok, r, q⟩ := h
  obtain ⟨hh, g, d, t, os'⟩ := s'
  obtain rfl : os' = s.os := os
  exact ⟨v, H', I.call (h' := hh) (g' := g) (d' := d) (t' := t) (ch := []) un hok bare (fun b z => absurd z (by simp)), r, q⟩
end
/-! ### calls -/
/-- f(..): the written arguments, then the defaults dvs; E: what is wanted of an exception -/
def tCall (sp : Sp) (dvs : List V) (E : XK) (t : TA) : TE := fun σ H Q => t σ H fun vs H1 => sp (vs ++ dvs) H1 Q E
/-- how the parameters are bound: us the positional arguments, kw the keywords' values by name, ds the defaults that fill up -/
def Binds (K : PySem.W.Frag) (fd : FuncData) (ps : List Str) (ds : List Value) : Prop :=
  ∀ (s : Shared) (us : List Value), K.In s.heap → (us ++ ds).length = ps.length → BindsTo s fd ⟨us, []⟩ (ps.zip (us ++ ds))
/-- every parameter is given -/
theorem Binds.all {K : PySem.W.Frag} {fd : FuncData} {ps : List Str} (h : ∀ us : List Value, us.length = ps.length → bindArgs fd ⟨us, []⟩ = pure (ps.zip us)) : Binds K fd ps [] := fun s us _ hl => by
  rw [List.append_nil] at hl ⊢
  exact .of_eq (h us hl)
/-- an exception of a callee reaches what this body wants of exceptions -/
def Passes (CX : CXT) (X : Cx) (E : XK) : Prop := ∀ (pins : List (Addr × Obj)) (σ : St) (H : Hp) (s : Shared) (e : Value) (s' : Shared), Inv X pins σ H s → CX X.stack H s E e s' → X.xe e s'
section
variable {X : Cx} {CX : CXT} {k : Nat} {f C : Addr} {fd : FuncData} {ps : List Str} {sp : Sp} {dvs : List V} {ds : List Value} {E : XK} {x m : Str} {p pos apos : Pos} {e o : Expr} {es : List Expr} {ta : TE} {t : TA}
/-- the callee runs -/
theorem run_fn {pins : List (Addr × Obj)} {σ : St} {H : Hp} {s : Shared} {Q : VK} {us : List Value} {vs : List V} (F : FnOk X.prog X.w X.K X.mg X.base CX k f fd ps sp) (hr : Room k X.A) (hb : Binds X.K fd ps ds) (hd : Vals dvs ds) (hx : Passes CX X E)
    (I : Inv X pins σ H s) (r : Vals vs us) (h : sp (vs ++ dvs) H Q E) : wpAny (model X.prog X.w) X.A (call (.ref f) us) (EP X pins σ Q) X.xe s := by
  have r2 : Vals (vs ++ dvs) (us ++ ds) := r.append hd
  have hl : (us ++ ds).length = ps.length := by rw [← r2.length]; exact F.len _ _ _ _ h
  refine wpAny_call (codeAny_mono (F.run X.A X.stack s H ⟨us, []⟩ (us ++ ds) (vs ++ dvs) Q E hr I.env0 (hb s us I.kIn hl) r2 h) fun r s' hq => ?_)
  cases r with
  | error e => exact hx pins σ H s e s' I hq
  | ok fl =>
    cases fl with
    | ret u => exact I.after hq
    | next => exact False.elim hq
    | brk => exact False.elim hq
    | cont => exact False.elim hq
theorem pe_call (F : FnOk X.prog X.w X.K X.mg X.base CX k f fd ps sp) (hr : Room k X.A) (hg : Gl X x) (hm : X.mg x = some (.ref f)) (hk : PySem.W.keepIn X.K (.ref f) = true) (hb : Binds X.K fd ps ds) (hd : Vals dvs ds) (hx : Passes CX X E)
    (ha : PA X (e :: es) t) (hdb : (x == ("__debug__" : Str)) = false := by decide) (he : starEach (e :: es) X.env = (false, eval e X.env) :: starEach es X.env := by rfl) (hpl : (backTo pos (starEach es X.env)).any (·.1) = false := by rfl) :
    PE X (.Call (.Name x p) (e :: es) [] pos) (tCall sp dvs E t) := by
  intro pins s σ H Q I h
  refine wpAny_Call_Name_kw (ld_glob I hg hm ?_ hdb)
  refine PySem.W.callWith_K (h₀ := X.base) I.ok.mod.kin hk (thn (ha pos pins s σ H _ I h) fun us s1 ⟨vs, H1, I1, r, q⟩ => ⟨I1.kIn, ?_⟩) he hpl
  exact run_fn F hr hb hd hx I1 r q
end
/-! ### keywords -/
section
variable {X : Cx} {CX : CXT} {k : Nat} {f C : Addr} {fd : FuncData} {ps ks : List Str} {sp : Sp} {E : XK} {x m : Str} {p pos apos kpos : Pos} {e o : Expr} {es : List Expr} {kws : List Keyword} {te ta : TE} {t tk : TA} {nm : Option Str}
variable {g : List Value → List Value → List Value} {gV : List V → List V → List V}
end
/-! ### a def's body keeps its promise -/
/-- names: the parameters first -/
structure FnScope (N P : List Str) (sc : Scope) : Prop where
  kind : sc.kind = .function
  co : sc.isCoroutine = false
  gen : sc.isGenerator = false
  nd : N.Nodup
  pre : N.take P.length = P
  par : ∀ x ∈ P, sc.names.lookup x = some .local ∨ sc.names.lookup x = some .cell
  nofree : ∀ y ∈ sc.names, y.2 ≠ .free
theorem bindL_out {kindOf : Str → Option NameKind} {x : Str} : ∀ {binds : List (Str × Value)} {m : Str → Option Value}, (∀ v, (x, v) ∉ binds) → bindL kindOf binds m x = m x
  | [], _, _ => rfl
  | (n, v) :: r, m, h => by
    unfold bindL
    rw [bindL_out fun w hw => h w (List.mem_cons_of_mem _ hw)]
    split
    · have : x ≠ n := by rintro rfl; exact h v List.mem_cons_self
      simp [this]
    · rfl
theorem bindC_out {kindOf : Str → Option NameKind} {x : Str} : ∀ {binds : List (Str × Value)} {m : Str → Option Value}, (∀ v, (x, v) ∉ binds) → bindC kindOf binds m x = m x
  | [], _, _ => rfl
  | (n, v) :: r, m, h => by
    unfold bindC
    rw [bindC_out fun w hw => h w (List.mem_cons_of_mem _ hw)]
    split
    · rfl
    · have : x ≠ n := by rintro rfl; exact h v List.mem_cons_self
      simp [this]
theorem bindL_get {kindOf : Str → Option NameKind} {x : Str} {v : Value} : ∀ {P : List Str} {vs : List Value} {i : Nat} {m : Str → Option Value}, P.Nodup → P[i]? = some x → vs[i]? = some v → kindOf x = some .local →
    bindL kindOf (P.zip vs) m x = some v
  | [], _, _, _, _, h, _, _ => by simp at h
  | _ :: _, [], _, _, _, _, h, _ => by simp at h
  | p :: P, w :: vs, 0, m, nd, h1, h2, hk => by
    simp at h1 h2; subst h1; subst h2
    show bindL kindOf ((p, w) :: P.zip vs) m p = _
    unfold bindL
    rw [bindL_out fun v hv => (List.nodup_cons.mp nd).1 (List.of_mem_zip hv).1, if_pos hk]
    simp
  | p :: P, w :: vs, i + 1, m, nd, h1, h2, hk => by
    show bindL kindOf ((p, w) :: P.zip vs) m x = _
    unfold bindL
    exact bindL_get (i := i) (List.nodup_cons.mp nd).2 (by simpa using h1) (by simpa using h2) hk
theorem bindC_get {kindOf : Str → Option NameKind} {x : Str} {v : Value} : ∀ {P : List Str} {vs : List Value} {i : Nat} {m : Str → Option Value}, P.Nodup → P[i]? = some x → vs[i]? = some v → kindOf x ≠ some .local →
    bindC kindOf (P.zip vs) m x = some v
  | [], _, _, _, _, h, _, _ => by simp at h
  | _ :: _, [], _, _, _, _, h, _ => by simp at h
  | p :: P, w :: vs, 0, m, nd, h1, h2, hk => by
    simp at h1 h2; subst h1; subst h2
    show bindC kindOf ((p, w) :: P.zip vs) m p = _
    unfold bindC
    rw [bindC_out fun v hv => (List.nodup_cons.mp nd).1 (List.of_mem_zip hv).1, if_neg hk]
    simp
  | p :: P, w :: vs, i + 1, m, nd, h1, h2, hk => by
    show bindC kindOf ((p, w) :: P.zip vs) m x = _
    unfold bindC
    exact bindC_get (i := i) (List.nodup_cons.mp nd).2 (by simpa using h1) (by simpa using h2) hk
/-- the names' values at the entry -/
def start (N : List Str) (vs : List V) : St := vs.map some ++ List.replicate (N.length - vs.length) none
/-- the context of a def's body, at its entry; an exception leaves the frame, then lies as CX says -/
def cxOf (CX : CXT) (P : Program) (w : World) (K : PySem.W.Frag) (mg : Str → Option Value) (base : Heap) (N : List Str) (qual : Str) (scope : Scope) (f : Addr) (cd : Value) (A : Around) (outer : List Env) (s : Shared) (H : Hp) (E : XK) : Cx where
  prog := P
  w := w
  K := K
  mg := mg
  base := base
  A := A.deeper (envOfC qual scope s.heap.objs.size f cd)
  N := N
  s_0 := s
  H_0 := H
  env := envOfC qual scope s.heap.objs.size f cd
  outer := outer
  stack := envOfC qual scope s.heap.objs.size f cd :: outer
  ex := []
  calm := true
  fn := fun _ => true
  pn := []
  xe := fun e s' => wpAny (model P w) (A.deeper (envOfC qual scope s.heap.objs.size f cd)) (leaving (envOfC qual scope s.heap.objs.size f cd) e) (fun _ s'' => CX outer H s E e s'') (fun e' s'' => CX outer H s E e' s'') s'
theorem cell_has {sc : Scope} {n : Nat} {x : Str} (h : sc.names.lookup x = some .cell) : ∃ c, (cellsFrom n sc.names []).lookup x = some c := by
  have q := PySem.W.cellsFrom_some sc.names n [] (.inl h)
  exact Option.isSome_iff_exists.mp q
theorem inv_start {CX : CXT} {P : Program} {w : World} {K : PySem.W.Frag} {mg : Str → Option Value} {base : Heap} {N ps : List Str} {qual : Str} {scope : Scope} {f : Addr} {cd : Value} {A : Around} {outer : List Env} {s s1 : Shared} {H : Hp} {E : XK} {us : List Value} {vs : List V}
    (S : FnScope N ps scope) (hd : A.handled = none) (e0 : Env0 P w K mg base A outer s H) (hl : vs.length = ps.length) (r : Vals vs us)
    (x : InCallC s s.heap.objs.size (bindL (envOfC qual scope s.heap.objs.size f cd).kindOf (ps.zip us) fun _ => none) (cellsFrom (s.heap.objs.size + 1) scope.names []) (bindC (envOfC qual scope s.heap.objs.size f cd).kindOf (ps.zip us) fun _ => none) s1) :
    Inv (cxOf CX P w K mg base N qual scope f cd A outer s H E) [] (start N vs) H s1 := by
  have hpl : ps.length ≤ N.length := by have := congrArg List.length S.pre; rw [List.length_take] at this; omega
  obtain ⟨h1, tk, rfl, hk⟩ := x.done
  have noA : ∀ b : Addr, b ∉ (cxOf CX P w K mg base N qual scope f cd A outer s H E).ex := fun b z => absurd (show b ∈ ([] : List Addr) from z) (by simp)
  refine ⟨⟨e0.mod, S.kind, rfl, rfl, Nat.le_refl _, fun y z c h1 h2 => ?_, fun y hy => ?_, fun y c _ h => ?_, fun _ => hd, Around.frames_deeper e0.frames, .inr ⟨rfl, rfl⟩, fun b z => absurd z (noA b), e0.bs, e0.bsz, fun b _ _ => noA b, fun b z => absurd z (noA b), e0.funs, e0.frf⟩,
    rfl, e0.bare, Un.kept hk, ⟨_, x.toInCall.ns, fun i y v h1 h2 h3 => ?_⟩, fun y c h => ⟨_, x.cell y c h⟩, e0.hok.fresh (Nat.le_refl _), fun y c h => ?_, fun p hp => absurd (show p ∈ ([] : List (Addr × Obj)) from hp) (by simp), e0.hok.kept hk, ?_⟩
  · exact name_of_addr x.apart (PySem.mem_of_lookup h1) (PySem.mem_of_lookup h2)
  · have hy : scope.names.lookup y = some .cell ∨ scope.names.lookup y = some .free := hy
    rcases hy with hy | hy
    · exact cell_has hy
    · exact absurd rfl (S.nofree _ (PySem.mem_of_lookup hy))
  · exact Nat.le_of_lt (x.above y c (PySem.mem_of_lookup h))
  · have hi : i < vs.length := by
      unfold start at h2
      by_cases hi : i < vs.length
      · exact hi
      · rw [List.getElem?_append_right (by simpa using hi)] at h2
        rw [List.getElem?_replicate] at h2
        split at h2 <;> cases h2
    have ha : vs[i]? = some v := by
      unfold start at h2
      rw [List.getElem?_append_left (by simpa using hi), List.getElem?_map] at h2
      cases e : vs[i]? with
      | none => rw [e] at h2; cases h2
      | some a => rw [e] at h2; cases h2; rfl
    obtain ⟨u, hu, rv⟩ := r.get ha
    have hp : ps[i]? = some y := by
      rw [← S.pre, List.getElem?_take_of_lt (by omega)]; exact h1
    have ndP : ps.Nodup := by rw [← S.pre]; exact S.nd.sublist (List.take_sublist _ _)
    refine ⟨u, rv, ?_⟩
    rcases S.par y (List.mem_of_getElem? hp) with k | k
    · exact .inl ⟨k, bindL_get ndP hp hu k⟩
    · obtain ⟨c, e⟩ := cell_has (n := s.heap.objs.size + 1) k
      refine .inr ⟨.inl k, c, e, ?_⟩
      have q := x.cell y c e
      rw [bindC_get ndP hp hu (by show scope.names.lookup y ≠ _; rw [k]; decide)] at q
      exact q
  · exact e0.hok.fresh (Nat.le_of_lt (x.above y c (PySem.mem_of_lookup h)))
  · unfold start
    show _ = N.length
    rw [List.length_append, List.length_map, List.length_replicate]
    omega
/-- THE RULE: a def (or a method) of the text, by its body. The body's reading t is chosen for each entry; it is run at the parameters' values -/
theorem fn_of {CX : CXT} {P : Program} {w : World} {K : PySem.W.Frag} {mg : Str → Option Value} {base : Heap} {k : Nat} {f : Addr} {name qual : Str} {params : Arguments} {body : List Stmt} {scope : Scope} {dV kV doc pm cdv ct oc : Value} {an od : Option Addr}
    {osl : Array (Option Value)} {N ps : List Str} {sp : Sp} (lk : K.lookup f = some ⟨oc, od, .func (PySem.W.fnOf name qual params body scope dV kV doc pm an cdv ct), osl⟩) (hcd : PySem.W.codeIn K cdv qual = true) (S : FnScope N ps scope)
    (len : ∀ vs H Q E, sp vs H Q E → vs.length = ps.length)
    (hbody : ∀ (A : Around) (outer : List Env) (s : Shared) (H : Hp) (vs : List V) (Q : VK) (E : XK), Room k (A.deeper (envOfC qual scope s.heap.objs.size f cdv)) → sp vs H Q E →
      ∃ t, PSs (cxOf CX P w K mg base N qual scope f cdv A outer s H E) body t ∧ t { nx := fun _ H' => Q .non H', rt := Q } (start N vs) H) :
    FnOk P w K mg base CX (k + 1) f (PySem.W.fnOf name qual params body scope dV kV doc pm an cdv ct) ps sp := by
  refine ⟨len, fun A outer s H args us vs Q E hr e0 hb r hsp => ?_⟩
  have hl := len _ _ _ _ hsp
  have KX : K.In s.heap := e0.mod.kin.keeps fun b o e => (e0.bs b o e).1
  have lim : s.heap.NoLimit := e0.mod.nolimit.keeps fun b o e => (e0.bs b o e).1
  have hkind : ∀ y ∈ ps.zip us, scope.names.lookup y.1 = some .local ∨ (scope.names.lookup y.1 = some .cell ∧ ((cellsFrom (s.heap.objs.size + 1) scope.names []).lookup y.1).isSome = true) := fun ⟨n, v⟩ hy => by
    rcases S.par n (List.of_mem_zip hy).1 with q | q
    · exact .inl q
    · exact .inr ⟨q, PySem.W.cellsFrom_some _ _ _ (.inl q)⟩
  refine codeAny_call_function hr.depth (KX _ _ lk) rfl S.co S.gen rfl (PySem.W.codeRec_of KX hcd) (hb _ _ _ _ ?_)
  refine wpAny_newFunctionEnv_cells S.kind hkind fun env he s1 x => ?_
  subst he
  refine ⟨lim.keeps x.toInCall.keep, codeAny_func ?_⟩
  obtain ⟨t, ht, hq⟩ := hbody A outer s H vs Q E (hr.deeper _) hsp
  have I : Inv (cxOf CX P w K mg base N qual scope f cdv A outer s H E) [] (start N vs) H s1 := inv_start S hr.hd e0 hl r x
  refine wpAny_mono (ht [] s1 (start N vs) H _ I hq) (fun fl s' hs => ?_) fun e s' hs => hs
  have fin : ∀ {σ' : St} {H' : Hp} {v : V} {u : Value}, Inv (cxOf CX P w K mg base N qual scope f cdv A outer s H E) [] σ' H' s' → RelV v u → Q v H' → CE outer P w H s Q u s' :=
    fun {σ' H' v u} J rv q => ⟨v, H', J.os, J.bare, J.base, J.hok, rv, q⟩
  cases fl with
  | ret u =>
    obtain ⟨v, σ', H', J, rv, q⟩ := hs
    exact fin J rv q
  | next =>
    obtain ⟨σ', H', J, q⟩ := hs
    exact fin (v := V.non) (u := Value.none) J rfl q
  | brk =>
    obtain ⟨_, _, _, q⟩ := hs
    exact False.elim q
  | cont =>
    obtain ⟨_, _, _, q⟩ := hs
    exact False.elim q
end L2
namespace L2
open PySem PySem.Spec PyProof.Rows
section
variable {X : Cx} {x : Str} {p pos : Pos} {e : Expr} {es : List Expr} {t : TA} {id T : String} {r : List V → Hp → VK → Prop}
def tCB (r : List V → Hp → VK → Prop) (t : TA) : TE := fun σ H Q => t σ H fun vs H1 => r vs H1 Q
/-- f(e, ..), f a built-in function -/
theorem pe_callB (hc : CallR X (.builtin id) r) (hg : Gl X x) (hm : X.mg x = none) (hv : bootBuiltins x = some (.builtin id)) (ha : PA X (e :: es) t) (hn : x ≠ "__name__" := by decide) (hdb : (x == ("__debug__" : Str)) = false := by decide)
    (he : starEach (e :: es) X.env = (false, eval e X.env) :: starEach es X.env := by rfl) (hpl : (backTo pos (starEach es X.env)).any (·.1) = false := by rfl) : PE X (.Call (.Name x p) (e :: es) [] pos) (tCB r t) := by
  intro pins s σ H Q I h
  refine wpAny_Call_Name_kw (ld_blt I hg hm hv ?_ hn hdb)
  exact PyProof.Rows.callWith_builtin1 (thn (ha pos pins s σ H _ I h) fun us s1 ⟨vs, H1, I1, r1, q1⟩ => hc pins s1 σ H1 vs us Q I1 r1 q1) he hpl
/-- T(e, ..), T a built-in type -/
theorem pe_callTy (hc : CallR X (.type T) r) (hg : Gl X x) (hm : X.mg x = none) (hv : bootBuiltins x = some (.type T)) (ha : PA X (e :: es) t) (hn : x ≠ "__name__" := by decide) (hdb : (x == ("__debug__" : Str)) = false := by decide)
    (he : starEach (e :: es) X.env = (false, eval e X.env) :: starEach es X.env := by rfl) (hpl : (backTo pos (starEach es X.env)).any (·.1) = false := by rfl) : PE X (.Call (.Name x p) (e :: es) [] pos) (tCB r t) := by
  intro pins s σ H Q I h
  refine wpAny_Call_Name_kw (ld_blt I hg hm hv ?_ hn hdb)
  exact PyProof.Rows.callWith_type1 (thn (ha pos pins s σ H _ I h) fun us s1 ⟨vs, H1, I1, r1, q1⟩ => hc pins s1 σ H1 vs us Q I1 r1 q1) he hpl
end
end L2
namespace HT
open PySem PyProof.Rows
section
open PySem.SeqAt
open PySem.AutoSeq1 (wpAny_loadPart')
open PySem.MeetsSeq PySem.MeetsSeq2 PySem.MeetsSeq3
end
section
variable {prog : Program} {w : World} {A : Around} {E : Value → Shared → Prop} {s : Shared}
/-! ### t[a:b], not the whole -/
end
end HT
namespace L2
open PySem PySem.Spec PyProof.Rows
/-! ### the parts of a slice -/
section
variable {X : Cx} {e : Expr} {te : TE} {lo hi : Option Expr} {tl th : TO} {pos p2 : Pos}
/-! ### t < u, t + u -/
end
end L2
namespace L2
open PySem PySem.Spec PyProof.Rows
/-! ### places -/
/-- the place that an index of any sign means -/
def ixN (n : Nat) (i : Int) : Option Nat := if 0 ≤ i then (if i < n then some i.toNat else none) else if -(n : Int) ≤ i then some (i + n).toNat else none
def atI {α : Type} (xs : List α) (i : Int) : Option α := (ixN xs.length i).bind fun j => xs[j]?
theorem ixN_seq {n : Nat} {i : Int} {j : Nat} (h : ixN n i = some j) : seqIndex? i n = some j ∧ j < n ∧ -(n : Int) ≤ i ∧ i < n := by
  unfold ixN at h
  by_cases h0 : 0 ≤ i
  · rw [if_pos h0] at h
    by_cases h1 : i < n
    · rw [if_pos h1] at h
      have e : i.toNat = j := Option.some.inj h
      exact ⟨by rw [seqIndex_of h0 h1, e], by omega, by omega, h1⟩
    · rw [if_neg h1] at h; cases h
  · rw [if_neg h0] at h
    by_cases h1 : -(n : Int) ≤ i
    · rw [if_pos h1] at h
      have e : (i + n).toNat = j := Option.some.inj h
      exact ⟨by rw [seqIndex_neg (by omega) h1, e], by omega, h1, by omega⟩
    · rw [if_neg h1] at h; cases h
theorem atI_get {α : Type} {xs : List α} {i : Int} {v : α} (h : atI xs i = some v) : ∃ j, seqIndex? i xs.length = some j ∧ xs[j]? = some v ∧ j < xs.length ∧ -(xs.length : Int) ≤ i ∧ i < xs.length := by
  unfold atI at h
  cases e : ixN xs.length i with
  | none => rw [e] at h; cases h
  | some j =>
    rw [e] at h
    obtain ⟨h1, h2, h3, h4⟩ := ixN_seq e
    exact ⟨j, h1, h, h2, h3, h4⟩
theorem atI_nat {α : Type} {xs : List α} {j : Nat} {v : α} (h : xs[j]? = some v) : atI xs (j : Int) = some v := by
  have hj : j < xs.length := (List.getElem?_eq_some_iff.mp h).1
  have e : ixN xs.length (j : Int) = some j := by
    unfold ixN
    rw [if_pos (by omega), if_pos (by omega)]; simp
  unfold atI; rw [e]; exact h
theorem atI_last {α : Type} (xs : List α) (v : α) : atI (xs ++ [v]) (-1) = some v := by
  have hl : (xs ++ [v]).length = xs.length + 1 := by simp
  have e : ixN (xs ++ [v]).length (-1) = some xs.length := by
    unfold ixN
    rw [hl, if_neg (by decide), if_pos (by omega)]
    congr 1
    omega
  unfold atI
  rw [e]
  show (xs ++ [v])[xs.length]? = some v
  simp
/-! ### what may be subscripted -/
/-- what stands as an index of a plain subscript -/
def PlainIx (b : Expr) : Prop := ∀ o i, subscripted b false o i = operate [o, i] (getItem o i)
/-- a subscript by values -/
def IxR (X : Cx) (r : R2) : Prop :=
  ∀ (value slice : Expr) (pins : List (Addr × Obj)) (s : Shared) (σ : St) (H : Hp) (x y : V) (v u : Value) (Q : VK), Inv X pins σ H s → RelV x v → RelV y u → r x y H Q →
    subscripted slice false v u = operate [v, u] (getItem v u) → wpAny (model X.prog X.w) X.A (subscriptTail value slice v u) (EP X pins σ Q) X.xe s
/-- a call of a builtin's method by values: the receiver, the arguments -/
def MtR (X : Cx) (id : String) (r : V → List V → Hp → VK → Prop) : Prop :=
  ∀ (pins : List (Addr × Obj)) (s : Shared) (σ : St) (H : Hp) (x : V) (xs : List V) (v : Value) (us : List Value) (Q : VK), Inv X pins σ H s → RelV x v → Vals xs us → r x xs H Q →
    wpAny (model X.prog X.w) X.A (call (.builtin id) (v :: us)) (EP X pins σ Q) X.xe s
section
variable {X : Cx} {a b : Expr} {ta tb : TE} {pos : Pos}
/-- a[b] -/
theorem pe_ix {r : R2} (hr : IxR X r) (ha : PE X a ta) (hb : PE X b tb) (hs : PlainIx b) : PE X (.Subscript a b pos) (tOp r ta tb) := by
  intro pins s σ H Q I h
  exact Subscript_ (binT ha hb I h fun v u s2 x y H2 I2 rx ry q => hr a b pins s2 σ H2 x y v u Q I2 rx ry q (hs _ _))
def rIxL (K : PySem.W.Frag) : R2 := fun x y H Q => ∃ p xs i v, x = .ref p ∧ y = .int i ∧ SqL K H p xs ∧ atI xs i = some v ∧ Q v H
def rIxT (K : PySem.W.Frag) : R2 := fun x y H Q => ∃ p xs i v, x = .ref p ∧ y = .int i ∧ SqT K H p xs ∧ atI xs i = some v ∧ Q v H
theorem ix_list : IxR X (rIxL X.K) := by
  intro value slice pins s σ H x y v u Q I rx ry h hs
  obtain ⟨p, xs, i, z, rfl, rfl, hq, he, q⟩ := h
  cases rx
  obtain ⟨t, rfl⟩ := ry
  obtain ⟨its, r, pl, hz⟩ := I.list hq
  obtain ⟨j, h1, h2, h3, h4, h5⟩ := atI_get he
  obtain ⟨w, ew, rw'⟩ := r.get h2
  have hl := r.length
  have hn := line63
  have fin : EP X pins σ Q w s := ⟨z, H, I, rw', q⟩
  by_cases h0 : 0 ≤ i
  · have hj : i.toNat = j := by
      rw [seqIndex_of h0 h5] at h1
      exact Option.some.inj h1
    exact item_listR pl.isList h0 (by omega) (by rw [hj]; simpa using ew) fin hs
  · have hj : (i + (its.toArray.size : Int)).toNat = j := by
      rw [seqIndex_neg (by omega) h4] at h1
      rw [List.size_toArray, ← hl]
      exact Option.some.inj h1
    exact subscriptTail_builtinR (x := w) pl.isList.typeIs slot_list_getitem.lookup
      (wpAny_getItem_list_neg (Q := fun r s' => r = w ∧ EP X pins σ Q r s') pl.isList (by omega) (by rw [List.size_toArray] <;> omega) (by omega) (by rw [hj]; simpa using ew) ⟨rfl, fin⟩) hs
theorem ix_tup : IxR X (rIxT X.K) := by
  intro value slice pins s σ H x y v u Q I rx ry h hs
  obtain ⟨p, xs, i, z, rfl, rfl, hq, he, q⟩ := h
  cases rx
  obtain ⟨t, rfl⟩ := ry
  obtain ⟨its, r, pl, hz⟩ := I.tuple hq
  obtain ⟨j, h1, h2, h3, h4, h5⟩ := atI_get he
  obtain ⟨w, ew, rw'⟩ := r.get h2
  have hl := r.length
  have hn := line63
  have fin : EP X pins σ Q w s := ⟨z, H, I, rw', q⟩
  exact subscriptTail_builtinR (x := w) pl.typeIs slot_tuple_getitem.lookup
    (getItem_tuple (j := j) (Q := fun r s' => r = w ∧ EP X pins σ Q r s') pl (by omega) (by omega) (by rw [List.size_toArray, ← hl]; exact h1) (by simpa using ew) ⟨rfl, fin⟩) hs
/-! ### xs[i] = v, any sign -/
/-! ### slices -/
/-! ### in, not in: flat items -/
/-! ### len, list(x), tuple(x) of any list or tuple that is read -/
theorem call_len_seq : CallR X (.builtin "len") (fun xs H Q => ∃ p ys, xs = [.ref p] ∧ (SqL X.K H p ys ∨ SqT X.K H p ys) ∧ Q (.int ys.length) H) := by
  intro pins s σ H xs us Q I r h
  obtain ⟨p, ys, rfl, hq, q⟩ := h
  obtain ⟨u, rfl, rx⟩ := vals1 r
  cases rx
  have hn := line63
  rcases hq with hq | hq
  · obtain ⟨its, r', pl, hz⟩ := I.list hq
    have hlen := r'.length
    exact Calls.call_len_list pl.isList (by simp only [List.size_toArray] <;> omega) ⟨.int ys.length, H, I.tok _, ⟨s.toks + 1, by rw [List.size_toArray, hlen]⟩, q⟩
  · obtain ⟨its, r', pl, hz⟩ := I.tuple hq
    have hlen := r'.length
    exact len_tuple pl (by simp only [List.size_toArray] <;> omega) ⟨.int ys.length, H, I.tok _, ⟨s.toks + 1, by rw [List.size_toArray, hlen]⟩, q⟩
theorem call_list_of : CallR X (.type "list") (fun xs H Q => ∃ p ys, xs = [.ref p] ∧ (SqL X.K H p ys ∨ SqT X.K H p ys) ∧ ∀ l, H l = none → Q (.ref l) (upd H l (.lst ys))) := by
  intro pins s σ H xs us Q I r h
  obtain ⟨p, ys, rfl, hq, q⟩ := h
  obtain ⟨u, rfl, rx⟩ := vals1 r
  cases rx
  have fin : ∀ (its : List Value), Vals ys its → ys.length ≤ sizeLine → ∀ (h' : Heap) (c' : Nat), (∀ b o', s.heap.get? b = some o' → h'.get? b = some o') →
      h'.get? s.heap.objs.size = some { cls := .type "list", dict := none, data := .seq its.toArray c', slots := #[] } → EP X pins σ Q (.ref s.heap.objs.size) { s with heap := h' } := fun its r' hz h' c' kp e =>
    ⟨.ref s.heap.objs.size, _, I.laid (t' := s.toks) kp (Nat.le_refl _) (show ObjOk X.prog X.w _ h' _ (.lst ys) from ⟨hz, its, c', r', e⟩), rfl, q _ (I.hok.fresh (Nat.le_refl _))⟩
  rcases hq with hq | hq
  · obtain ⟨its, r', pl, hz⟩ := I.list hq
    have hlen := r'.length
    obtain ⟨o, ho, hc, n, hd⟩ := pl.isList
    exact call_list_seq p (.inl rfl) ho hc hd (fun h' c' kp e => fin its r' hz h' c' kp e) (by simp only [List.size_toArray] <;> omega)
  · obtain ⟨its, r', pl, hz⟩ := I.tuple hq
    have hlen := r'.length
    obtain ⟨o, ho, hc, n, hd⟩ := pl
    exact call_list_seq p (.inr rfl) ho hc hd (fun h' c' kp e => fin its r' hz h' c' kp e) (by simp only [List.size_toArray] <;> omega)
theorem call_tuple_of : CallR X (.type "tuple") (fun xs H Q => ∃ p ys, xs = [.ref p] ∧ ((SqL X.K H p ys ∧ ∀ l, H l = none → Q (.ref l) (upd H l (.tup ys))) ∨ (SqT X.K H p ys ∧ Q (.ref p) H))) := by
  intro pins s σ H xs us Q I r h
  obtain ⟨p, ys, rfl, h⟩ := h
  obtain ⟨u, rfl, rx⟩ := vals1 r
  cases rx
  rcases h with ⟨hq, q⟩ | ⟨hq, q⟩
  · obtain ⟨its, r', pl, hz⟩ := I.list hq
    have hlen := r'.length
    refine call_tuple_list pl.isList (fun h' kp => ?_) (by simp only [List.size_toArray] <;> omega)
    have I1 : Inv X pins σ H { s with heap := h' } := I.kept (t' := s.toks) kp
    have I2 : Inv X pins σ (upd H h'.objs.size (.tup ys)) { s with heap := h'.push { cls := .type "tuple", data := .seq its.toArray } } :=
      I1.laid (t' := s.toks) (fun b o e => Heap.get?_push_of_some _ e) (Nat.le_refl _) (show ObjOk X.prog X.w _ _ _ (.tup ys) from ⟨hz, its, r', IsTup.new _ _⟩)
    exact ⟨.ref h'.objs.size, _, I2, rfl, q _ (I1.hok.fresh (Nat.le_refl _))⟩
  · obtain ⟨its, r', pl, hz⟩ := I.tuple hq
    exact call_tuple_same pl ⟨.ref p, H, I, rfl, q⟩
/-! ### the call of a builtin's method: o.m(..) -/
/-- the value is of that builtin type -/
def tyV (K : PySem.W.Frag) (T : String) (x : V) (H : Hp) : Prop := match x with
  | .str _ => T = "str"
  | .int _ => T = "int"
  | .ref p => (T = "list" ∧ ∃ xs, SqL K H p xs) ∨ (T = "tuple" ∧ ∃ o, K.lookup p = some o ∧ o.cls = .type "tuple" ∧ o.dict = none) ∨
      (T = "dict" ∧ ((∃ kvs, H p = some (.dK kvs)) ∨ ∃ kvs, H p = some (.dT kvs))) ∨ (T = "set" ∧ ∃ S n, H p = some (.set S n))
  | _ => False
theorem tyV_is {pins : List (Addr × Obj)} {σ : St} {H : Hp} {s : Shared} {T : String} {x : V} {v : Value} (I : Inv X pins σ H s) (r : RelV x v) (ty : tyV X.K T x H) :
    s.TypeIs v T ∧ ∀ a, v = .ref a → ∃ ob, s.heap.get? a = some ob ∧ ob.dict = none := by
  cases x with
  | str z =>
    obtain ⟨t, rfl⟩ := r
    cases (show T = "str" from ty)
    exact ⟨typeIs_str s z t, fun _ e => nomatch e⟩
  | int i =>
    obtain ⟨t, rfl⟩ := r
    cases (show T = "int" from ty)
    exact ⟨typeIs_int s i t, fun _ e => nomatch e⟩
  | ref p =>
    cases r
    rcases ty with ⟨rfl, xs, hq⟩ | ⟨rfl, o, hk, hc, hd⟩ | ⟨rfl, hk⟩ | ⟨rfl, S, n, hk⟩
    · obtain ⟨its, _, pl, _⟩ := I.list hq
      refine ⟨pl.isList.typeIs, fun a e => ?_⟩
      cases e
      obtain ⟨o, n, e, c, hd, _⟩ := pl
      exact ⟨o, e, hd⟩
    · refine ⟨⟨o, I.kIn p o hk, hc⟩, fun a e => ?_⟩
      cases e
      exact ⟨o, I.kIn _ o hk, hd⟩
    · have z : ∃ o, s.heap.get? p = some o ∧ o.ExactDict := by
        rcases hk with ⟨kvs, hk⟩ | ⟨kvs, hk⟩
        · obtain ⟨_, _, _, _, o, _, _, e, ex, _⟩ := I.hok p _ hk
          exact ⟨o, e, ex⟩
        · obtain ⟨_, _, _, _, o, _, _, e, ex, _⟩ := I.hok p _ hk
          exact ⟨o, e, ex⟩
      obtain ⟨o, e, ex⟩ := z
      refine ⟨⟨o, e, ex.1⟩, fun a e2 => ?_⟩
      cases e2
      exact ⟨o, e, ex.2.1⟩
    · obtain ⟨o, _, _, _, e, ex, _⟩ := I.hok p _ hk
      refine ⟨⟨o, e, ex.1⟩, fun a e2 => ?_⟩
      cases e2
      exact ⟨o, e, ex.2.1⟩
  | _ => exact False.elim ty
def tBM0 (K : PySem.W.Frag) (T : String) (r : V → List V → Hp → VK → Prop) (to : TE) : TE := fun σ H Q => to σ H fun x H1 => tyV K T x H1 ∧ r x [] H1 Q
def tBM (K : PySem.W.Frag) (T : String) (r : V → List V → Hp → VK → Prop) (to : TE) (t : TA) : TE := fun σ H Q => to σ H fun x H1 => tyV K T x H1 ∧ t σ H1 fun xs H2 => r x xs H2 Q
variable {o e : Expr} {es : List Expr} {to : TE} {t : TA} {name : Str} {apos cpos : Pos} {T id : String} {r : V → List V → Hp → VK → Prop}
theorem pe_bm0 (pa : PlainAttrs T) (slot : Slot T name id) (hty : typeOf (.builtin id) = pure (.type "method_descriptor")) (hm : MtR X id r) (ho : PE X o to)
    (hbase : attributeBase o name X.env (eval o X.env) = eval o X.env := by rfl) (hline : (apos.endLine == cpos.line) = true := by rfl) : PE X (.Call (.Attribute o name apos) [] [] cpos) (tBM0 X.K T r to) := by
  intro pins s σ H Q I h
  refine wpAny_Call_method0_late hbase hline (thn (ho pins s σ H _ I h) fun v s1 ⟨x, H1, I1, r1, ty, q1⟩ => ?_)
  obtain ⟨h1, h2⟩ := tyV_is I1 r1 ty
  exact ⟨T, id, pa, slot, hty, h1, h2, Calls.callWith_builtin rfl (PySem.evalArgs_none (hm pins s1 σ H1 x [] v [] Q I1 r1 .nil q1))⟩
theorem pe_bm (pa : PlainAttrs T) (slot : Slot T name id) (hty : typeOf (.builtin id) = pure (.type "method_descriptor")) (hm : MtR X id r) (ho : PE X o to) (ha : PA X (e :: es) t)
    (hbase : attributeBase o name X.env (eval o X.env) = eval o X.env := by rfl)
    (hfew : ((backTo cpos (starEach (e :: es) X.env)).all (fun x => !x.1) && (backToKw cpos (keywordEach [] X.env)).all (fun x => x.1.isSome)
      && decide ((e :: es).length + ([] : List Keyword).length + (if ([] : List Keyword).isEmpty then 0 else 1) < 30)) = true := by rfl)
    (hline : (apos.endLine == cpos.line) = true := by rfl) (hs : starEach (e :: es) X.env = (false, eval e X.env) :: starEach es X.env := by rfl) (hplain : (backTo cpos (starEach es X.env)).any (·.1) = false := by rfl) :
    PE X (.Call (.Attribute o name apos) (e :: es) [] cpos) (tBM X.K T r to t) := by
  intro pins s σ H Q I h
  refine wpAny_Call_method_late hbase hfew hline rfl (thn (ho pins s σ H _ I h) fun v s1 ⟨x, H1, I1, r1, ty, q1⟩ => ?_)
  obtain ⟨h1, h2⟩ := tyV_is I1 r1 ty
  refine ⟨T, id, pa, slot, hty, h1, h2, ?_⟩
  have hA := ha cpos pins s1 σ H1 _ I1 q1
  rw [hs] at hA ⊢
  refine Calls.callWith_builtin (by show (false || (backTo cpos (starEach es X.env)).any (·.1)) = false; rw [hplain] <;> rfl) (Calls.evalArgs_plain ?_)
  exact thn hA fun us s2 ⟨vs, H2, I2, r2, q2⟩ => hm pins s2 σ H2 x vs v us Q I2 r1 r2 q2
/- xs.append(e), list.index on a module's tuple .. are MtR facts of 06m -/
end
end L2
namespace L2
open PySem PySem.Spec PyProof.Rows
def MtM (X : Cx) (id : String) (r : V → List V → Hp → VK → Prop) : Prop :=
  ∀ (pins : List (Addr × Obj)) (s : Shared) (σ : St) (H : Hp) (x : V) (xs : List V) (v : Value) (us : List Value) (Q : VK), Inv X pins σ H s → RelV x v → Vals xs us → r x xs H Q →
    wpAny (model X.prog X.w) X.A (call (.builtin id) (v :: us)) (EP X pins σ Q) X.xe s
/-! ### lists of values -/
theorem Vals.one : ∀ {x : V} {us : List Value}, Vals [x] us → ∃ u, us = [u] ∧ RelV x u
  | _, _, .cons r .nil => ⟨_, rfl, r⟩
theorem Vals.zero : ∀ {us : List Value}, Vals [] us → us = []
  | _, .nil => rfl
theorem Vals.dropLast {xs : List V} {us : List Value} (h : Vals xs us) : Vals xs.dropLast us.dropLast := by
  induction h with
  | nil => exact .nil
  | cons r t ih =>
    cases t with
    | nil => exact .nil
    | cons q t' => exact .cons r ih
theorem erase_last {α : Type} (l : List α) : l.eraseIdx (l.length - 1) = l.dropLast := by
  induction l with
  | nil => rfl
  | cons a r ih =>
    cases r with
    | nil => rfl
    | cons b r =>
      have e : (a :: b :: r).length - 1 = ((b :: r).length - 1) + 1 := by
        have h1 : (a :: b :: r).length = r.length + 2 := rfl
        have h2 : (b :: r).length = r.length + 1 := rfl
        omega
      rw [e, List.eraseIdx_cons_succ, ih]
      all_goals rfl
section
variable {X : Cx} {pins : List (Addr × Obj)} {σ : St} {H : Hp} {s : Shared} {l b : Addr} {xs ys zs : List V}
/-! ### the two steps: a tracked list is rewritten, a new list is laid -/
theorem Inv.lset {its its' : List Value} {n : Nat} {f : Array Value → Array Value} {t' : Nat} (I : Inv X pins σ H s) (hH : H l = some (.lst xs))
    (e : s.heap.get? l = some { cls := .type "list", data := .seq its.toArray n }) (hf : f its.toArray = its'.toArray) (hv : Vals ys its') (hz : ys.length ≤ sizeLine) :
    Inv X pins σ (upd H l (.lst ys)) { s with heap := s.heap.update l (Obj.mapSeq f), toks := t' } := by
  have q := PySem.IsL.update e f
  rw [hf] at q
  refine I.write (x := l) (e := l) (by rw [hH]; exact trivial) (.inl rfl) (fun b' u hb hu => (Heap.get?_update_other s.heap (Obj.mapSeq f) (Ne.symm hb)).trans hu) ⟨_, q⟩ ?_
  exact ⟨hz, its', _, hv, q⟩
theorem Inv.lnew {its : List Value} {t' : Nat} (I : Inv X pins σ H s) (hv : Vals ys its) (hz : ys.length ≤ sizeLine) :
    Inv X pins σ (upd H s.heap.objs.size (.lst ys)) { s with heap := s.heap.push { cls := .type "list", data := .seq its.toArray }, toks := t' } :=
  I.laid (fun _ _ q => Heap.get?_push_of_some _ q) (Nat.le_refl _) ⟨hz, its, 0, hv, Heap.get?_push_size _ rfl⟩
theorem Inv.fresh (I : Inv X pins σ H s) : H s.heap.objs.size = none := I.hok.fresh (Nat.le_refl _)
theorem Inv.lstM (I : Inv X pins σ H s) (hH : H l = some (.lst xs)) : xs.length ≤ sizeLine ∧ ∃ (its : List Value) (n : Nat), Vals xs its ∧ xs.length = its.length ∧ s.heap.get? l = some { cls := .type "list", data := .seq its.toArray n } := by
  obtain ⟨z, its, n, r, e⟩ := I.hok l _ hH
  exact ⟨z, its, n, r, r.length, e⟩
theorem notLongL {n : Nat} (h : n ≤ sizeLine) : Builtin.List.listTooLong n = false := by
  unfold Builtin.List.listTooLong
  exact decide_eq_false (by omega)
end
section
variable {X : Cx}
/-! ### methods -/
def rAppend : V → List V → Hp → VK → Prop := fun x vs H Q => ∃ l xs y, x = .ref l ∧ vs = [y] ∧ H l = some (.lst xs) ∧ xs.length < sizeLine ∧ Q .non (upd H l (.lst (xs ++ [y])))
theorem mt_append : MtM X "list.append" rAppend := by
  intro pins s σ H x vs v us Q I rx rv h
  obtain ⟨l, xs, y, rfl, rfl, hH, hz, q⟩ := h
  cases rx
  obtain ⟨u, rfl, ru⟩ := rv.one
  obtain ⟨z, its, n, r, hl, e⟩ := I.lstM hH
  refine call_meets F.slot_list_append ⟨_, e, rfl⟩ F.entry_list_append (F.args_list_append_2 _ _) (PySem.list_append l its.toArray n u (by rw [List.size_toArray]; omega)) ⟨e, ?_⟩
  refine ⟨.non, _, I.lset (its' := its ++ [u]) hH e (by simp) (r.append (.cons ru .nil)) ?_, rfl, q⟩
  rw [List.length_append, List.length_singleton]
  omega
def rExtend : V → List V → Hp → VK → Prop := fun x vs H Q => ∃ l b xs zs, x = .ref l ∧ vs = [.ref b] ∧ H l = some (.lst xs) ∧ H b = some (.lst zs) ∧ xs.length + zs.length ≤ sizeLine ∧ Q .non (upd H l (.lst (xs ++ zs)))
theorem mt_extend : MtM X "list.extend" rExtend := by
  intro pins s σ H x vs v us Q I rx rv h
  obtain ⟨l, b, xs, zs, rfl, rfl, hH, hB, hz, q⟩ := h
  cases rx
  obtain ⟨u, rfl, ru⟩ := rv.one
  cases ru
  obtain ⟨z, its, n, r, hl, e⟩ := I.lstM hH
  obtain ⟨z2, its2, n2, r2, hl2, e2⟩ := I.lstM hB
  have hsz : its.toArray.size + its2.toArray.size ≤ sizeLine := by rw [List.size_toArray, List.size_toArray]; omega
  have hlong : ¬ (!its.toArray.isEmpty && Builtin.List.listTooLong (its.toArray.size + its2.toArray.size)) = true := by
    rw [notLongL hsz, Bool.and_false]
    exact Bool.false_ne_true
  refine call_meets F.slot_list_extend ⟨_, e, rfl⟩ F.entry_list_extend (F.args_list_extend_2 _ _)
    (AutoSeq1.list_extend_list_list_0 l its.toArray n b its2.toArray n2 hlong (by rw [List.size_toArray]; omega) (by omega)) ⟨e, e2, ?_⟩
  refine ⟨.non, _, I.lset (its' := its ++ its2) hH e (by simp) (r.append r2) ?_, rfl, q⟩
  rw [List.length_append]
  omega
def rPop : V → List V → Hp → VK → Prop := fun x vs H Q => ∃ l xs y, x = .ref l ∧ vs = [] ∧ H l = some (.lst xs) ∧ xs[xs.length - 1]? = some y ∧ Q y (upd H l (.lst xs.dropLast))
theorem mt_pop : MtM X "list.pop" rPop := by
  intro pins s σ H x vs v us Q I rx rv h
  obtain ⟨l, xs, y, rfl, rfl, hH, hy, q⟩ := h
  cases rx
  have hus := rv.zero
  subst hus
  obtain ⟨z, its, n, r, hl, e⟩ := I.lstM hH
  obtain ⟨u, hu, ru⟩ := r.get hy
  have hy' : its.toArray[its.toArray.size - 1]? = some u := by
    show its.toArray[its.length - 1]? = some u
    rw [← Array.getElem?_toList, ← hl]
    exact hu
  refine call_meets F.slot_list_pop ⟨_, e, rfl⟩ F.entry_list_pop (F.args_list_pop_1 _) (MeetsSeq.list_pop_last l its.toArray n u hy' (by rw [List.size_toArray]; omega)) ⟨e, ?_⟩
  refine ⟨y, _, I.lset (its' := its.dropLast) hH e ?_ r.dropLast ?_, ru, q⟩
  · show its.toArray.eraseIdxIfInBounds (its.toArray.size - 1) = its.dropLast.toArray
    rw [List.size_toArray, List.eraseIdxIfInBounds_toArray, erase_last]
  · rw [List.length_dropLast]
    omega
/-! ### list + list, list += list, list * int -/
def rCat : R2 := fun x y H Q => ∃ l b xs zs, x = .ref l ∧ y = .ref b ∧ H l = some (.lst xs) ∧ H b = some (.lst zs) ∧ xs.length + zs.length ≤ sizeLine ∧ ∀ p, H p = none → Q (.ref p) (upd H p (.lst (xs ++ zs)))
theorem op_cat : OpR X (binaryOp .Add) rCat := by
  intro pins s σ H x y v u Q I rx ry h
  obtain ⟨l, b, xs, zs, rfl, rfl, hH, hB, hz, q⟩ := h
  cases rx
  cases ry
  obtain ⟨z, its, n, r, hl, e⟩ := I.lstM hH
  obtain ⟨z2, its2, n2, r2, hl2, e2⟩ := I.lstM hB
  refine PySem.P.add_list e e2 ?_ (by rw [List.size_toArray, List.size_toArray]; omega)
  have ea : its.toArray ++ its2.toArray = (its ++ its2).toArray := by simp
  rw [ea]
  exact ⟨.ref _, _, I.lnew (t' := s.toks) (r.append r2) (by rw [List.length_append]; omega), rfl, q _ I.fresh⟩
/-! ### del xs[i] -/
end
/-! ### xs[a:b] = ys -/
section
variable {prog : Program} {w : World} {A : Around} {E : Value → Shared → Prop} {s : Shared}
end
section
variable {X : Cx}
end
end L2
namespace L2
open PySem PySem.Spec PyProof.Rows
theorem Vals.ints : ∀ {ns : List Int} {us : List Value}, Vals (ns.map V.int) us → IntsAre us ns
  | [], us, h => by
    rw [List.map_nil] at h
    cases h
    exact IntsAre.nil
  | n :: ns, us, h => by
    rw [List.map_cons] at h
    cases h with
    | cons r t =>
      obtain ⟨k, rfl⟩ := r
      exact IntsAre.cons n k (Vals.ints t)
theorem Vals.bls : ∀ {bs : List Bool} {us : List Value}, Vals (bs.map V.bl) us → us = bs.map Value.bool
  | [], us, h => by
    rw [List.map_nil] at h
    cases h
    rfl
  | b :: bs, us, h => by
    rw [List.map_cons] at h
    cases h with
    | cons r t =>
      cases r
      rw [Vals.bls t, List.map_cons]
theorem Vals.ref1 {a : Addr} {us : List Value} (r : Vals [V.ref a] us) : us = [Value.ref a] := by
  cases r with
  | cons r t =>
    cases t
    cases r
    rfl
/-! ### the library's walks over a list of ints, kept objects alone -/
section
variable {prog : Program} {w : World} {A : Around} {E : Value → Shared → Prop} {s : Shared} {l : Addr} {its : List Value} {ns : List Int} {Q : Value → Shared → Prop}
theorem max_raw (hh : A.handled = none) (hl : s.heap.IsList l its.toArray) (hi : IntsAre its ns) (hne : 0 < ns.length)
    (h : ∀ h' tk M t', (∀ b o, s.heap.get? b = some o → h'.get? b = some o) → M ∈ ns → (∀ a, a ∈ ns → a ≤ M) → Q (.int M t') { s with heap := h', toks := tk }) : wpAny (model prog w) A (call (.builtin "max") [.ref l]) Q E s := by
  obtain ⟨xs, e⟩ := hi.allInts.items
  have hn : numsOf (intItems xs).toList = ns := by rw [← e]; exact hi.numsOf
  rw [nums_intItems] at hn
  subst hn
  rw [e] at hl
  have hsz : 0 < xs.size := by simpa using hne
  refine PySem.max_intList hh hl hsz fun v h' tk hv hk => ?_
  obtain ⟨t, rfl⟩ := intItems_at hv
  obtain ⟨h1, h2⟩ := argBest_gt (numAt xs) (xs.size - 1)
  refine h h' tk _ t hk ?_ fun a ha => ?_
  · rw [numAt_eq]; exact PySem.getD_mem (by rw [List.length_map, Array.length_toList]; omega)
  · obtain ⟨j, hj, rfl⟩ := mem_getD ha
    rw [List.length_map, Array.length_toList] at hj
    rw [← numAt_eq]; exact h2 j (by omega)
theorem min_raw (hh : A.handled = none) (hl : s.heap.IsList l its.toArray) (hi : IntsAre its ns) (hne : 0 < ns.length)
    (h : ∀ h' tk M t', (∀ b o, s.heap.get? b = some o → h'.get? b = some o) → M ∈ ns → (∀ a, a ∈ ns → M ≤ a) → Q (.int M t') { s with heap := h', toks := tk }) : wpAny (model prog w) A (call (.builtin "min") [.ref l]) Q E s := by
  obtain ⟨xs, e⟩ := hi.allInts.items
  have hn : numsOf (intItems xs).toList = ns := by rw [← e]; exact hi.numsOf
  rw [nums_intItems] at hn
  subst hn
  rw [e] at hl
  have hsz : 0 < xs.size := by simpa using hne
  refine PySem.min_intList hh hl hsz fun v h' tk hv hk => ?_
  obtain ⟨t, rfl⟩ := intItems_at hv
  obtain ⟨h1, h2⟩ := argBest_lt (numAt xs) (xs.size - 1)
  refine h h' tk _ t hk ?_ fun a ha => ?_
  · rw [numAt_eq]; exact PySem.getD_mem (by rw [List.length_map, Array.length_toList]; omega)
  · obtain ⟨j, hj, rfl⟩ := mem_getD ha
    rw [List.length_map, Array.length_toList] at hj
    rw [← numAt_eq]; exact h2 j (by omega)
end
/-! ### the calls, by values (CallR of 03t; MtR of 06l) -/
section
variable {X : Cx}
/-- max(xs), min(xs) of a list of ints -/
def rMax (K : PySem.W.Frag) : List V → Hp → VK → Prop := fun vs H Q => ∃ (a : Addr) (ns : List Int), vs = [V.ref a] ∧ SqL K H a (ns.map V.int) ∧ 0 < ns.length ∧ ∀ m, m ∈ ns → (∀ y, y ∈ ns → y ≤ m) → Q (.int m) H
def rMin (K : PySem.W.Frag) : List V → Hp → VK → Prop := fun vs H Q => ∃ (a : Addr) (ns : List Int), vs = [V.ref a] ∧ SqL K H a (ns.map V.int) ∧ 0 < ns.length ∧ ∀ m, m ∈ ns → (∀ y, y ∈ ns → m ≤ y) → Q (.int m) H
theorem cr_max (hc : X.calm = true) : CallR X (.builtin "max") (rMax X.K) := by
  intro pins s σ H vs us Q I r h
  obtain ⟨a, ns, rfl, hs, hne, q⟩ := h
  obtain ⟨its, rv, hl, _⟩ := I.list hs
  rw [Vals.ref1 r]
  exact max_raw (I.ok.hd hc) hl.isList rv.ints hne fun h' tk m t' hk h1 h2 => ⟨.int _, H, I.kept hk, ⟨_, rfl⟩, q m h1 h2⟩
theorem cr_min (hc : X.calm = true) : CallR X (.builtin "min") (rMin X.K) := by
  intro pins s σ H vs us Q I r h
  obtain ⟨a, ns, rfl, hs, hne, q⟩ := h
  obtain ⟨its, rv, hl, _⟩ := I.list hs
  rw [Vals.ref1 r]
  exact min_raw (I.ok.hd hc) hl.isList rv.ints hne fun h' tk m t' hk h1 h2 => ⟨.int _, H, I.kept hk, ⟨_, rfl⟩, q m h1 h2⟩
/-! sorted, sort (fewer than 64 items: the library's own bound) -/
end
/-! ### list.index, flat items -/
section
variable {X : Cx}
end
/-! ### type(x) of an own instance; is, is not of a module's class -/
section
variable {X : Cx}
end
/-! ### any(xs), all(xs) of a list of bools -/
theorem iter_any {prog : Program} {w : World} {A : Around} {E : Value → Shared → Prop} {s : Shared} {l : Addr} {items : Array Value} {Q : Value → Shared → Prop} (hl : s.heap.IsList l items)
    (h : ∀ s₂ : Shared, s₂ = { s with heap := s.heap.push { cls := .type "list_iterator", data := .fields #[.ref l, .int 0 0] } } →
      (s₂.heap.IsListIter s.heap.objs.size l 0 ∧ s₂.heap.IsList l items) → l ≠ s.heap.objs.size → Q (.ref s.heap.objs.size) s₂) : wpAny (model prog w) A (pyIter (.ref l)) Q E s := by
  have hlt : l < s.heap.objs.size := by obtain ⟨_, e, _⟩ := hl; exact Heap.lt_size e
  exact wpAny_pyIter_list hl (h _ rfl ⟨⟨_, Heap.get?_push_size _ rfl, rfl, rfl⟩, hl.push _⟩ (Nat.ne_of_lt hlt))
theorem truth_bools {prog : Program} {w : World} {A : Around} {bs : List Bool} {its : List Value} (e : its = bs.map Value.bool) :
    TruthOf prog w A (fun i v => its.toArray[i]? = some v) (fun i => bs.getD i false) := fun i v s Q E hv hq => by
  have hv' : its[i]? = some v := by simpa using hv
  rw [e, List.getElem?_map] at hv'
  obtain ⟨b, hb, rfl⟩ := Option.map_eq_some_iff.mp hv'
  have hg : bs.getD i false = b := by rw [List.getD_eq_getElem?_getD, hb] <;> rfl
  have hq' : Q (bs.getD i false) s := hq
  rw [hg] at hq'
  exact wpAny_truthy_bool hq'
theorem any_range : ∀ bs : List Bool, (List.range bs.length).any (fun i => bs.getD i false) = bs.any id
  | [] => rfl
  | b :: bs => by
    rw [List.length_cons, List.range_succ_eq_map, List.any_cons, List.any_map, List.any_cons, ← any_range bs]
    all_goals rfl
theorem all_range : ∀ bs : List Bool, (List.range bs.length).all (fun i => bs.getD i false) = bs.all id
  | [] => rfl
  | b :: bs => by
    rw [List.length_cons, List.range_succ_eq_map, List.all_cons, List.all_map, List.all_cons, ← all_range bs]
    all_goals rfl
section
variable {X : Cx}
def rAny (K : PySem.W.Frag) : List V → Hp → VK → Prop := fun vs H Q => ∃ (a : Addr) (bs : List Bool), vs = [V.ref a] ∧ SqL K H a (bs.map V.bl) ∧ Q (.bl (bs.any id)) H
def rAll (K : PySem.W.Frag) : List V → Hp → VK → Prop := fun vs H Q => ∃ (a : Addr) (bs : List Bool), vs = [V.ref a] ∧ SqL K H a (bs.map V.bl) ∧ Q (.bl (bs.all id)) H
theorem cr_any (hc : X.calm = true) : CallR X (.builtin "any") (rAny X.K) := by
  intro pins s σ H vs us Q I r h
  obtain ⟨a, bs, rfl, hs, q⟩ := h
  obtain ⟨its, rv, hl, _⟩ := I.list hs
  rw [Vals.ref1 r]
  have hb := rv.bls
  refine call_any_walk (iter_any hl.isList fun s₂ e2 st hne => ?_)
  subst e2
  refine ⟨_, _, _, _, _, _, _, rfl, Walks.list (A := X.A.in1) (I.ok.hd hc) _ a hne its.toArray, st, truth_bools hb, fun h' tk hk => ?_⟩
  refine ⟨.bl _, H, I.kept fun b o eo => hk b o (fun hmem => ?_) (Heap.get?_push_of_some _ eo), ?_, q⟩
  · rcases List.mem_cons.mp hmem with e1 | hmem
    · exact absurd (e1 ▸ Heap.lt_size eo) (Nat.lt_irrefl _)
    · cases hmem
  · show Value.bool _ = Value.bool _
    rw [← any_range, hb, List.size_toArray, List.length_map]
theorem cr_all (hc : X.calm = true) : CallR X (.builtin "all") (rAll X.K) := by
  intro pins s σ H vs us Q I r h
  obtain ⟨a, bs, rfl, hs, q⟩ := h
  obtain ⟨its, rv, hl, _⟩ := I.list hs
  rw [Vals.ref1 r]
  have hb := rv.bls
  refine call_all_walk (iter_any hl.isList fun s₂ e2 st hne => ?_)
  subst e2
  refine ⟨_, _, _, _, _, _, _, rfl, Walks.list (A := X.A.in1) (I.ok.hd hc) _ a hne its.toArray, st, truth_bools hb, fun h' tk hk => ?_⟩
  refine ⟨.bl _, H, I.kept fun b o eo => hk b o (fun hmem => ?_) (Heap.get?_push_of_some _ eo), ?_, q⟩
  · rcases List.mem_cons.mp hmem with e1 | hmem
    · exact absurd (e1 ▸ Heap.lt_size eo) (Nat.lt_irrefl _)
    · cases hmem
  · show Value.bool _ = Value.bool _
    rw [← all_range, hb, List.size_toArray, List.length_map]
end
/-! ### == and != of data at any depth: none, bools, ints, texts, lists, tuples -/
mutual
inductive Dp (K : PySem.W.Frag) (H : Hp) : V → PyData → Prop
  | non : Dp K H .non .none
  | bl (b : Bool) : Dp K H (.bl b) (.bool b)
  | int (i : Int) : Dp K H (.int i) (.int i)
  | str (x : Str) : Dp K H (.str x) (.str x)
  | lst {a : Addr} {xs : List V} {ds : List PyData} : SqL K H a xs → DpAll K H xs ds → Dp K H (.ref a) (.list ds)
  | tup {a : Addr} {xs : List V} {ds : List PyData} : SqT K H a xs → DpAll K H xs ds → Dp K H (.ref a) (.tuple ds)
inductive DpAll (K : PySem.W.Frag) (H : Hp) : List V → List PyData → Prop
  | nil : DpAll K H [] []
  | cons {v : V} {vs : List V} {d : PyData} {ds : List PyData} : Dp K H v d → DpAll K H vs ds → DpAll K H (v :: vs) (d :: ds)
end
section
variable {X : Cx} {pins : List (Addr × Obj)} {σ : St} {H : Hp} {s : Shared}
mutual
theorem Dp.reads (I : Inv X pins σ H s) : ∀ (d : PyData) (v : V) (u : Value), Dp X.K H v d → RelV v u → ∃ as, Reads s.heap u d as
  | .none, _, _, h, r => by
    cases h
    cases r
    exact ⟨_, Reads.none⟩
  | .bool b, _, _, h, r => by
    cases h
    cases r
    exact ⟨_, Reads.bool b⟩
  | .int i, _, _, h, r => by
    cases h
    obtain ⟨t, rfl⟩ := r
    exact ⟨_, Reads.int i t⟩
  | .str x, _, _, h, r => by
    cases h
    obtain ⟨t, rfl⟩ := r
    exact ⟨_, Reads.str x t⟩
  | .list ds, _, _, h, r => by
    cases h with
    | lst hs ha =>
      cases r
      obtain ⟨its, rv, ⟨o, n, ho, hc, _, hd⟩, _⟩ := I.list hs
      obtain ⟨as, hr⟩ := Dp.readsAll I ds _ its ha rv
      exact ⟨_, Reads.list ho hc hd hr⟩
  | .tuple ds, _, _, h, r => by
    cases h with
    | tup hs ha =>
      cases r
      obtain ⟨its, rv, ⟨o, ho, hc, n, hd⟩, _⟩ := I.tuple hs
      obtain ⟨as, hr⟩ := Dp.readsAll I ds _ its ha rv
      exact ⟨_, Reads.tuple ho hc hd hr⟩
  | .dict _, _, _, h, _ => by cases h
theorem Dp.readsAll (I : Inv X pins σ H s) : ∀ (ds : List PyData) (vs : List V) (us : List Value), DpAll X.K H vs ds → Vals vs us → ∃ as, ReadsAll s.heap us ds as
  | [], _, _, h, r => by
    cases h
    cases r
    exact ⟨_, ReadsAll.nil⟩
  | d :: ds, _, _, h, r => by
    cases h with
    | cons h1 h2 =>
      cases r with
      | cons r1 r2 =>
        obtain ⟨as, q1⟩ := Dp.reads I d _ _ h1 r1
        obtain ⟨bs, q2⟩ := Dp.readsAll I ds _ _ h2 r2
        exact ⟨_, ReadsAll.cons q1 q2⟩
end
end
section
variable {X : Cx}
def rEqD (K : PySem.W.Frag) : R2 := fun x y H Q => ∃ d e, Dp K H x d ∧ Dp K H y e ∧ SeqAt.shaped d = true ∧ SeqAt.shaped e = true ∧ Q (.bl (PyData.eqv d e)) H
theorem op_eqD (hu : X.A.units + 64 < cLine) : OpR X (compareOp .Eq) (rEqD X.K) := by
  intro pins s σ H x y v u Q I rx ry h
  obtain ⟨d, e, hd, he, sd, se, q⟩ := h
  obtain ⟨as, r1⟩ := Dp.reads I d x v hd rx
  obtain ⟨bs, r2⟩ := Dp.reads I e y u he ry
  exact SeqAt.compareEq_shaped r1 r2 sd se hu ⟨.bl _, H, I, rfl, q⟩
end
end L2
namespace L2
open PySem PySem.Spec PyProof.Rows
abbrev CellAt (h : Heap) (c : Addr) (v : Option Value) : Prop := h.IsCell c v
def relS (scope sc : Scope) : Scope :=
  { scope with names := scope.names.map fun (n, k) => if (k == .free && sc.kind == .function && sc.names.lookup n == some .cell) then (n, .cell) else (n, k) }
def cloFrom (cells : List (Str × Addr)) : List (Str × NameKind) → List (Str × Addr) → List (Str × Addr)
  | [], acc => acc
  | (n, k) :: r, acc => if k == .free then cloFrom cells r ((n, (cells.lookup n).getD 0) :: acc) else cloFrom cells r acc
theorem closure_loop (env : Env) (f : Str × NameKind → List (Str × Addr) → Sem (ForInStep (List (Str × Addr))))
    (hf : ∀ n k c, f (n, k) c = if k == .free then (do let a ← cellOf env n; pure (.yield ((n, a) :: c))) else pure (.yield c)) :
    ∀ (names : List (Str × NameKind)) (acc : List (Str × Addr)), (∀ y ∈ names, y.2 = .free → ∃ c, env.cells.lookup y.1 = some c) → forIn names acc f = pure (cloFrom env.cells names acc)
  | [], acc, _ => by rw [List.forIn_nil]; rfl
  | (n, k) :: r, acc, h => by
    rw [List.forIn_cons, hf]
    have ih := fun acc => closure_loop env f hf r acc fun y hy => h y (List.mem_cons_of_mem _ hy)
    unfold cloFrom
    by_cases hk : (k == NameKind.free) = true
    · rw [if_pos hk, if_pos hk]
      obtain ⟨c, hc⟩ := h (n, k) List.mem_cons_self (by simpa using hk)
      have e : cellOf env n = pure c := by unfold cellOf; rw [hc]
      rw [e]
      have e2 : (env.cells.lookup n).getD 0 = c := by rw [hc]; rfl
      rw [e2]
      exact ih _
    · rw [if_neg hk, if_neg hk]
      exact ih _
theorem closure_ok {scope : Scope} {env : Env} (h : ∀ y ∈ scope.names, y.2 = .free → ∃ c, env.cells.lookup y.1 = some c) : closureFor scope env = pure (cloFrom env.cells scope.names []) := by
  simp only [closureFor]
  rw [closure_loop env _ (fun n k c => rfl) scope.names [] h]
  rfl
theorem mem_lookup {α : Type} : ∀ {l : List (Str × α)} {n : Str} {c : α}, (n, c) ∈ l → ∃ c', l.lookup n = some c'
  | (k, v) :: r, n, c, h => by
    rw [List.lookup_cons]
    cases hb : n == k with
    | true => exact ⟨_, rfl⟩
    | false =>
      rcases List.mem_cons.mp h with e | h
      · cases e; simp at hb
      · exact mem_lookup h
theorem cloFrom_mem {cells : List (Str × Addr)} : ∀ {names : List (Str × NameKind)} {acc : List (Str × Addr)} {n : Str} {c : Addr}, (n, c) ∈ cloFrom cells names acc → (n, c) ∈ acc ∨ ((n, .free) ∈ names ∧ c = (cells.lookup n).getD 0)
  | [], _, _, _, h => .inl h
  | (m, k) :: r, acc, n, c, h => by
    unfold cloFrom at h
    split at h
    · rename_i hk
      have hk : k = .free := by simpa using hk
      rcases cloFrom_mem h with h | ⟨h1, h2⟩
      · rcases List.mem_cons.mp h with e | h
        · cases e; exact .inr ⟨hk ▸ List.mem_cons_self, rfl⟩
        · exact .inl h
      · exact .inr ⟨List.mem_cons_of_mem _ h1, h2⟩
    · rcases cloFrom_mem h with h | ⟨h1, h2⟩
      · exact .inl h
      · exact .inr ⟨List.mem_cons_of_mem _ h1, h2⟩
theorem cloFrom_acc {cells : List (Str × Addr)} : ∀ {names : List (Str × NameKind)} {acc : List (Str × Addr)} {p : Str × Addr}, p ∈ acc → p ∈ cloFrom cells names acc
  | [], _, _, h => h
  | (m, k) :: r, acc, p, h => by
    unfold cloFrom
    split
    · exact cloFrom_acc (List.mem_cons_of_mem _ h)
    · exact cloFrom_acc h
theorem cloFrom_has {cells : List (Str × Addr)} : ∀ {names : List (Str × NameKind)} {acc : List (Str × Addr)} {n : Str}, (n, .free) ∈ names → (n, (cells.lookup n).getD 0) ∈ cloFrom cells names acc
  | (m, k) :: r, acc, n, h => by
    unfold cloFrom
    rcases List.mem_cons.mp h with e | h
    · cases e
      exact cloFrom_acc List.mem_cons_self
    · split
      · exact cloFrom_has h
      · exact cloFrom_has h
theorem cells_mem : ∀ {names : List (Str × NameKind)} {h : Heap} {acc : List (Str × Addr)} {x : Str} {c : Addr}, (x, c) ∈ cellsFrom h.objs.size names acc →
    (x, c) ∈ acc ∨ ((x, .cell) ∈ names ∧ h.objs.size ≤ c ∧ CellAt (pushCells h names) c none)
  | [], _, _, _, _, h => .inl h
  | (n, k) :: r, h, acc, x, c, hm => by
    unfold cellsFrom at hm
    unfold pushCells
    split at hm
    · rename_i hk
      rw [if_pos hk]
      have hk : k = .cell := by simpa using hk
      rw [← Heap.size_push h { cls := .type "cell", data := .cell none }] at hm
      rcases cells_mem hm with hm | ⟨h1, h2, h3⟩
      · rcases List.mem_cons.mp hm with e | hm
        · cases e
          exact .inr ⟨hk ▸ List.mem_cons_self, Nat.le_refl _, _, pushCells_keeps r _ _ _ (Heap.get?_push_size _ rfl), rfl⟩
        · exact .inl hm
      · rw [Heap.size_push] at h2
        exact .inr ⟨List.mem_cons_of_mem _ h1, Nat.le_of_succ_le h2, h3⟩
    · rename_i hk
      rw [if_neg hk]
      rcases cells_mem hm with hm | ⟨h1, h2, h3⟩
      · exact .inl hm
      · exact .inr ⟨List.mem_cons_of_mem _ h1, h2, h3⟩
theorem cells_acc : ∀ {names : List (Str × NameKind)} {n : Nat} {acc : List (Str × Addr)} {p : Str × Addr}, p ∈ acc → p ∈ cellsFrom n names acc
  | [], _, _, _, h => h
  | (m, k) :: r, n, acc, p, h => by
    unfold cellsFrom
    split
    · exact cells_acc (List.mem_cons_of_mem _ h)
    · exact cells_acc h
theorem cells_has : ∀ {names : List (Str × NameKind)} {n : Nat} {acc : List (Str × Addr)} {x : Str}, (x, .cell) ∈ names → ∃ c, (x, c) ∈ cellsFrom n names acc
  | (m, k) :: r, n, acc, x, h => by
    unfold cellsFrom
    rcases List.mem_cons.mp h with e | h
    · cases e
      exact ⟨n, cells_acc List.mem_cons_self⟩
    · split
      · exact cells_has h
      · exact cells_has h
theorem cells_inj : ∀ {names : List (Str × NameKind)} {h : Heap} {acc : List (Str × Addr)} {x y : Str} {c : Addr}, (∀ p ∈ acc, p.2 < h.objs.size) → (∀ x y c, (x, c) ∈ acc → (y, c) ∈ acc → x = y) →
    (x, c) ∈ cellsFrom h.objs.size names acc → (y, c) ∈ cellsFrom h.objs.size names acc → x = y
  | [], _, _, _, _, _, _, hi, h1, h2 => hi _ _ _ h1 h2
  | (n, k) :: r, h, acc, x, y, c, hl, hi, h1, h2 => by
    unfold cellsFrom at h1 h2
    split at h1
    · rename_i hk
      rw [if_pos hk] at h2
      rw [← Heap.size_push h { cls := .type "cell", data := .cell none }] at h1 h2
      refine cells_inj (h := h.push _) (fun p hp => ?_) (fun x y c a b => ?_) h1 h2
      · rw [Heap.size_push]
        rcases List.mem_cons.mp hp with rfl | hp
        · exact Nat.lt_succ_self _
        · exact Nat.lt_succ_of_lt (hl p hp)
      · rcases List.mem_cons.mp a with e | a <;> rcases List.mem_cons.mp b with e' | b
        · cases e; cases e'; rfl
        · cases e; exact absurd (hl _ b) (Nat.lt_irrefl _)
        · cases e'; exact absurd (hl _ a) (Nat.lt_irrefl _)
        · exact hi _ _ _ a b
    · rename_i hk
      rw [if_neg hk] at h2
      exact cells_inj hl hi h1 h2
theorem newEnv_comp {M : Model} {A : Around} {E : Value → Shared → Prop} {s : Shared} {scope : Scope} {globals : Addr} {closure : List (Str × Addr)} {qual : Str} {func : Option Addr} {code : Value} {around : Env} {builtins : Addr} {Q : Env → Shared → Prop}
    (h : Q (newEnv scope s.heap.objs.size globals (cellsFrom (s.heap.objs.size + 1) scope.names closure) qual func code (some around) builtins)
      { s with heap := pushCells (s.heap.push { cls := .type "dict", data := .dict #[] }) scope.names }) :
    wpAny M A (newFunctionEnv scope globals closure [] qual func code (some around) builtins) Q E s := by
  simp only [newFunctionEnv, Option.isSome_some, if_true]
  refine wpAny_bind (wpAny_alloc ?_)
  refine wpAny_bind (wpAny_layCells _ (fun n k c => rfl) scope.names closure _ _ ?_)
  rw [show ({ s with heap := s.heap.push { cls := .type "dict", data := .dict #[] } } : Shared).heap.objs.size = s.heap.objs.size + 1 from Heap.size_push ..]
  rw [List.forIn_nil]
  exact wpAny_bind (wpAny_pure (wpAny_pure h))
/-- every name of the written scope, in the scope that runs -/
theorem lookup_relS {sc : Scope} : ∀ {names : List (Str × NameKind)} {x : Str} {k : NameKind},
    (names.map fun (n, k) => if (k == NameKind.free && sc.kind == .function && sc.names.lookup n == some .cell) then (n, NameKind.cell) else (n, k)).lookup x = some k →
    ∃ k', names.lookup x = some k' ∧ (k = k' ∨ (k' = .free ∧ k = .cell))
  | [], _, _, h => by simp at h
  | (n, k₀) :: r, x, k, h => by
    have ih := @lookup_relS sc r x k
    have h' : List.lookup x ((if (k₀ == NameKind.free && sc.kind == .function && sc.names.lookup n == some .cell) = true then (n, NameKind.cell) else (n, k₀)) :: (r.map _)) = some k := h
    cases hx : x == n with
    | true =>
      simp only [List.lookup_cons, hx]
      by_cases hc : (k₀ == NameKind.free && sc.kind == .function && sc.names.lookup n == some .cell) = true
      · rw [if_pos hc] at h'
        simp only [List.lookup_cons, hx] at h'
        cases h'
        simp only [Bool.and_eq_true, beq_iff_eq] at hc
        exact ⟨k₀, rfl, .inr ⟨hc.1.1, rfl⟩⟩
      · rw [if_neg hc] at h'
        simp only [List.lookup_cons, hx] at h'
        cases h'
        exact ⟨_, rfl, .inl rfl⟩
    | false =>
      simp only [List.lookup_cons, hx]
      by_cases hc : (k₀ == NameKind.free && sc.kind == .function && sc.names.lookup n == some .cell) = true
      · rw [if_pos hc] at h'
        simp only [List.lookup_cons, hx] at h'
        exact ih h'
      · rw [if_neg hc] at h'
        simp only [List.lookup_cons, hx] at h'
        exact ih h'
/-- the names of a comprehension's block: its own (with their places in N), or captured -/
structure BlkOk (N : List Str) (sc scope : Scope) (own : List (Str × Nat)) : Prop where
  kind : scope.kind = .function
  uniq : ∀ y ∈ scope.names, scope.names.lookup y.1 = some y.2
  ix : ∀ p ∈ own, N[p.2]? = some p.1
  free : ∀ y ∈ scope.names, y.2 = .free → sc.names.lookup y.1 = some .cell ∨ sc.names.lookup y.1 = some .free
  own : ∀ y ∈ scope.names, y.2 = .local ∨ y.2 = .cell → y.1 ∈ own.map (·.1) ∨ y.1 ∉ N
/-- the slots of the block's own names forgotten -/
def wipe (σ : St) : List Nat → St
  | [] => σ
  | v :: vs => (wipe σ vs).set v none
theorem wipe_length (σ : St) : ∀ vs : List Nat, (wipe σ vs).length = σ.length
  | [] => rfl
  | v :: vs => by unfold wipe; rw [List.length_set, wipe_length σ vs]
theorem wipe_some {σ : St} {i : Nat} {x : V} : ∀ {vs : List Nat}, (wipe σ vs)[i]? = some (some x) → σ[i]? = some (some x) ∧ i ∉ vs
  | [], h => ⟨h, by simp⟩
  | v :: vs, h => by
    unfold wipe at h
    by_cases hi : v = i
    · subst hi
      by_cases hv : v < (wipe σ vs).length
      · rw [List.getElem?_set_self hv] at h; cases h
      · rw [List.getElem?_eq_none (by simpa using hv)] at h; cases h
    · rw [List.getElem?_set_ne hi] at h
      obtain ⟨h1, h2⟩ := wipe_some h
      exact ⟨h1, by simp only [List.mem_cons, not_or]; exact ⟨fun e => hi e.symm, h2⟩⟩
/-- the context of a block that starts at s, its iterator's objects at fp -/
abbrev Cx.blk (X : Cx) (s : Shared) (H : Hp) (scope : Scope) (cenv : Env) (fp : List Addr) : Cx := { X with s_0 := s, H_0 := H, env := cenv, outer := X.stack, ex := fp, fn := fun x => scope.names.lookup x == some .cell, pn := [], xe := fun _ _ => False }
section
variable {X : Cx} {pins : List (Addr × Obj)} {σ : St} {H : Hp} {s : Shared}
theorem block_start {scope : Scope} {own : List (Str × Nat)} {fp : List Addr} (I : Inv X pins σ H s) (ok : BlkOk X.N X.env.scope scope own) (hN : X.N.Nodup) (hfp : ∀ b ∈ fp, FpOk X pins H b ∧ b < s.heap.objs.size) :
    Inv (X.blk s H scope (compEnvC scope (cellsFrom (s.heap.objs.size + 1) scope.names (cloFrom X.env.cells scope.names [])) s.heap.objs.size X.env) fp) [] (wipe σ (own.map (·.2))) H { s with heap := pushCells (s.heap.push { cls := .type "dict", data := .dict #[] }) scope.names } := by
  have hfree : ∀ y ∈ scope.names, y.2 = .free → ∃ c, X.env.cells.lookup y.1 = some c := fun y hy e => by
    rcases ok.free y hy e with k | k
    · exact I.ok.has _ (.inl k)
    · exact I.ok.has _ (.inr k)
  generalize hcenv : compEnvC scope (cellsFrom (s.heap.objs.size + 1) scope.names (cloFrom X.env.cells scope.names [])) s.heap.objs.size X.env = cenv
  have kp : ∀ b o, s.heap.get? b = some o → (pushCells (s.heap.push { cls := .type "dict", data := .dict #[] }) scope.names).get? b = some o := fun b o e => pushCells_keeps _ _ _ _ (Heap.get?_push_of_some _ e)
  have hL : cenv.locals = s.heap.objs.size := by rw [← hcenv]; rfl
  have hcl : cenv.cells = cellsFrom (s.heap.objs.size + 1) scope.names (cloFrom X.env.cells scope.names []) := by rw [← hcenv]; rfl
  have hsc : cenv.scope = relS scope X.env.scope := by rw [← hcenv]; rfl
  rw [← Heap.size_push s.heap { cls := .type "dict", data := .dict #[] }] at hcl
  have cm : ∀ {y c}, (y, c) ∈ cloFrom X.env.cells scope.names [] → X.env.cells.lookup y = some c ∧ c < s.heap.objs.size := fun {y c} hm => by
    rcases cloFrom_mem hm with hm | ⟨h1, rfl⟩
    · cases hm
    · obtain ⟨c, hc⟩ := hfree _ h1 rfl
      rw [hc]
      obtain ⟨w, z⟩ := I.cell _ _ hc
      exact ⟨rfl, z.lt⟩
  have mem : ∀ {y c}, cenv.cells.lookup y = some c → (X.env.cells.lookup y = some c ∧ c < s.heap.objs.size) ∨ (s.heap.objs.size + 1 ≤ c ∧ CellAt (pushCells (s.heap.push { cls := .type "dict", data := .dict #[] }) scope.names) c none) := fun {y c} e => by
    rw [hcl] at e
    rcases cells_mem (PySem.mem_of_lookup e) with hm | ⟨_, h2, h3⟩
    · exact .inl (cm hm)
    · rw [Heap.size_push] at h2; exact .inr ⟨h2, h3⟩
  have look : ∀ {y}, scope.names.lookup y = some .free → ∃ c, cenv.cells.lookup y = some c ∧ X.env.cells.lookup y = some c := fun {y} hl => by
    have hy : (y, NameKind.free) ∈ scope.names := PySem.mem_of_lookup hl
    obtain ⟨c', e'⟩ := mem_lookup (cells_acc (names := scope.names) (n := (s.heap.push { cls := .type "dict", data := .dict #[] }).objs.size) (cloFrom_has (cells := X.env.cells) (acc := []) hy))
    rw [← hcl] at e'
    refine ⟨c', e', ?_⟩
    rw [hcl] at e'
    rcases cells_mem (PySem.mem_of_lookup e') with hm | ⟨h1, _, _⟩
    · exact (cm hm).1
    · have := ok.uniq _ h1
      rw [hl] at this; cases this
  have okB : (X.blk s H scope cenv fp).Ok := by
    refine ⟨I.ok.mod, by show cenv.scope.kind = _; rw [hsc]; exact ok.kind, by show cenv.globals = _; rw [← hcenv]; exact I.ok.glob, by show cenv.builtins = _; rw [← hcenv]; exact I.ok.blt, by show s.heap.objs.size ≤ cenv.locals; rw [hL]; exact Nat.le_refl _,
      fun y z c e1 e2 => ?_, fun y hy => ?_, fun y c z e => ?_, I.ok.hd, I.ok.frames, .inl rfl, fun b hb => ⟨?_, fun y c e z => ?_⟩, I.bs, Nat.le_trans I.ok.bsz I.sz, fun b o e hb => ?_, fun b hb z => ?_, I.stack, I.stkFree⟩
    · have e1 : cenv.cells.lookup y = some c := e1
      have e2 : cenv.cells.lookup z = some c := e2
      rw [hcl] at e1 e2
      refine cells_inj (fun p hp => ?_) (fun y z c a b => I.ok.inj y z c (cm a).1 (cm b).1) (PySem.mem_of_lookup e1) (PySem.mem_of_lookup e2)
      rw [Heap.size_push]
      exact Nat.lt_succ_of_lt (cm (y := p.1) (c := p.2) hp).2
    · show ∃ c, cenv.cells.lookup y = some c
      have key : ∀ k, cenv.kindOf y = some k → (k = .cell ∨ k = .free) → ∃ c, cenv.cells.lookup y = some c := fun k hk hk' => by
        unfold Env.kindOf at hk
        rw [hsc] at hk
        obtain ⟨k', e, r⟩ := lookup_relS hk
        have : k' = .cell ∨ k' = .free := by
          rcases r with rfl | ⟨rfl, _⟩
          · exact hk'
          · exact .inr rfl
        rcases this with rfl | rfl
        · obtain ⟨c, hm⟩ := cells_has (n := (s.heap.push { cls := .type "dict", data := .dict #[] }).objs.size) (acc := cloFrom X.env.cells scope.names []) (PySem.mem_of_lookup e)
          obtain ⟨c', e'⟩ := mem_lookup hm
          exact ⟨c', by rw [hcl]; exact e'⟩
        · obtain ⟨c, h1, _⟩ := look e
          exact ⟨c, h1⟩
      rcases hy with hy | hy
      · exact key _ hy (.inl rfl)
      · exact key _ hy (.inr rfl)
    · have z : (scope.names.lookup y == some NameKind.cell) = true := z
      have z : scope.names.lookup y = some .cell := by simpa using z
      have e : cenv.cells.lookup y = some c := e
      rw [hcl] at e
      rcases cells_mem (PySem.mem_of_lookup e) with hm | ⟨_, h2, _⟩
      · rcases cloFrom_mem hm with hm | ⟨h1, _⟩
        · cases hm
        · have q := ok.uniq _ h1
          rw [z] at q; cases q
      · rw [Heap.size_push] at h2
        exact Nat.le_of_succ_le h2
    · show b ≠ cenv.locals
      rw [hL]; exact Nat.ne_of_lt (hfp b hb).2
    · have e : cenv.cells.lookup y = some c := e
      rcases mem e with ⟨h1, _⟩ | ⟨h1, _⟩
      · exact (hfp b hb).1.2.2.2.2.1 y c h1 z
      · have h2 : s.heap.objs.size + 1 ≤ b := by rw [← z]; exact h1
        exact absurd (Nat.lt_of_lt_of_le (hfp b hb).2 (Nat.le_of_succ_le h2)) (Nat.lt_irrefl _)
    · rcases (hfp b hb).1.2.2.2.1 with z | z
      · exact I.ok.noex b o e z
      · exact absurd (Nat.lt_of_lt_of_le (Heap.lt_size e) (Nat.le_trans I.ok.bsz z)) (Nat.lt_irrefl _)
    · rcases List.mem_cons.mp (I.stkSub b z) with z | z
      · exact (hfp b hb).1.2.1 z
      · exact (hfp b hb).1.2.2.1 z
  refine ⟨okB, rfl, I.bare, Un.kept kp, ⟨fun _ => none, ?_, fun i y av e1 e2 e3 => ?_⟩, fun y c e => ?_, ?_, fun y c e => ?_, fun p hp => ?_, I.hok.kept kp, by rw [wipe_length]; exact I.len⟩
  · show Heap.Ns _ cenv.locals _
    rw [hL]
    exact Heap.Ns.keeps (Heap.Ns.new ..) fun b o e => pushCells_keeps _ _ _ _ e
  · obtain ⟨e2, hne⟩ := wipe_some e2
    have hfr : scope.names.lookup y = some .free ∧ (cenv.kindOf y = some .cell ∨ cenv.kindOf y = some .free) := by
      have key : ∀ k, cenv.scope.names.lookup y = some k → k = .local ∨ k = .cell ∨ k = .free → scope.names.lookup y = some .free ∧ (cenv.kindOf y = some .cell ∨ cenv.kindOf y = some .free) := fun k hk hk' => by
        have hk0 := hk
        rw [hsc] at hk
        obtain ⟨k', e, r⟩ := lookup_relS hk
        have no : ¬ (k' = .local ∨ k' = .cell) := fun hh => by
          rcases ok.own _ (PySem.mem_of_lookup e) hh with e' | e'
          · obtain ⟨p, hp, hpy⟩ := List.mem_map.mp e'
            have e3 := ok.ix p hp
            have : p.1 = y := hpy
            rw [this] at e3
            exact hne (List.mem_map.mpr ⟨p, hp, nodup_ix hN e3 e1⟩)
          · exact e' (List.mem_of_getElem? e1)
        rcases r with rfl | ⟨rfl, rfl⟩
        · rcases hk' with rfl | rfl | rfl
          · exact absurd (.inl rfl) no
          · exact absurd (.inr rfl) no
          · exact ⟨e, .inr hk0⟩
        · exact ⟨e, .inl hk0⟩
      have e3 : Vis cenv.scope y := e3
      rcases e3 with e3 | e3 | e3
      · exact key _ e3 (.inl rfl)
      · exact key _ e3 (.inr (.inl rfl))
      · exact key _ e3 (.inr (.inr rfl))
    obtain ⟨m, hn, hl⟩ := I.loc
    have hvis : Vis X.env.scope y := (ok.free _ (PySem.mem_of_lookup hfr.1) rfl).elim (fun k => .inr (.inl k)) (fun k => .inr (.inr k))
    obtain ⟨w, r, q⟩ := hl i y av e1 e2 hvis
    refine ⟨w, r, .inr ⟨hfr.2, ?_⟩⟩
    obtain ⟨c, h1, h2⟩ := look hfr.1
    rcases q with ⟨k, _⟩ | ⟨_, c', e', z⟩
    · have k : X.env.scope.names.lookup y = some .local := k
      rcases ok.free _ (PySem.mem_of_lookup hfr.1) rfl with k' | k' <;> rw [show X.env.scope.names.lookup y = _ from k'] at k <;> cases k
    · rw [h2] at e'; cases e'
      exact ⟨c, h1, z.keeps kp⟩
  · have e : cenv.cells.lookup y = some c := e
    rcases mem e with ⟨h1, _⟩ | ⟨_, z⟩
    · obtain ⟨w, z⟩ := I.cell y c h1
      exact ⟨w, z.keeps kp⟩
    · exact ⟨_, z⟩
  · show H cenv.locals = none
    rw [hL]; exact I.hok.fresh (Nat.le_refl _)
  · have e : cenv.cells.lookup y = some c := e
    rcases mem e with ⟨h1, _⟩ | ⟨h1, _⟩
    · exact I.freeC y c h1
    · exact I.hok.fresh (Nat.le_of_succ_le h1)
  · exact absurd (show p ∈ ([] : List (Addr × Obj)) ++ [] from hp) (by simp)
/-- an item appended to a tracked list -/
theorem app_ok {E : Value → Shared → Prop} {D : Addr} {xs : List V} {y : V} {v : Value} {Q : Value → Shared → Prop} (I : Inv X pins σ H s) (hD : H D = some (.lst xs)) (hz : xs.length < sizeLine) (r : RelV y v)
    (h : ∀ s', Inv X pins σ (upd H D (.lst (xs ++ [y]))) s' → Q .none s') : wpAny (model X.prog X.w) X.A (call (.builtin "list.append") [.ref D, v]) Q E s := by
  obtain ⟨hz', its, n, ri, e⟩ := I.hok D _ hD
  have hl := ri.length
  refine append_at (hsz := by rw [List.size_toArray]; omega) e fun h' sb ho' => ?_
  refine h { s with heap := h' } (I.write (t' := s.toks) (by rw [hD]; trivial) (.inl rfl) (fun b u hb q => (sb.2 b hb).trans q) ⟨_, ho'⟩ ⟨by rw [List.length_append]; exact hz, its ++ [v], n + 1, ri.append (.cons r .nil), ?_⟩)
  rw [ho']
  simp
/-- a clause's tests -/
def PTs (X : Cx) (ifs : List Expr) (t : TT) : Prop :=
  ∀ (pins : List (Addr × Obj)) (s : Shared) (σ : St) (H : Hp) (Q : Bool → Hp → Prop), Inv X pins σ H s → t σ H Q →
    wpAny (model X.prog X.w) X.A (forIn ifs true fun c r => if r = true then do let ok ← isTrue c X.env (eval c X.env); pure (ForInStep.yield ok) else pure (ForInStep.yield r)) (TP X pins σ Q) X.xe s
def tYes : TT := fun _ H Q => Q true H
theorem pts_nil : PTs X [] tYes := fun _ _ _ H _ I h => wpAny_tests_nil ⟨H, I, h⟩
theorem pts_one {c : Expr} {t : TT} (h : PT X c t) : PTs X [c] t := fun pins s σ H Q I hw => wpAny_tests_one (h pins s σ H Q I hw)
end
theorem thnF {α : Type} {t : Sem α} {Q Q' : α → Shared → Prop} {M : Model} {A : Around} {E : Value → Shared → Prop} {s : Shared} (h : wpAny M A t Q (fun _ _ => False) s) (hQ : ∀ a s, Q a s → Q' a s) : wpAny M A t Q' E s := wpAny_mono h hQ fun _ _ z => False.elim z
/-- the loop of a list comprehension's block, the target of any form (codeAny_compLoop_tests asks a target that no tuple goes to; statement and proof follow it, PyProof/CompMap.lean:41-61, with the step letOwnedTupleGo kept) -/
theorem compLoop_any {prog : Program} {w : World} {A : Around} {R : Result → Shared → Prop} {s : Shared} {elt target iter : Expr} {ifs : List Expr} {scope : Scope} {pos : Pos} {it acc : Value} {env : Env} (I : Nat → Shared → Prop)
    (turn : ∀ n s, I n s → wpAny (model prog w) A (pyNext it) (fun r s₁ => match r with
      | none => R (.ok .next) s₁
      | some v => wpAny (model prog w) A (letOwnedTupleGo target it v) (fun _ s₁' => wpAny (model prog w) A (assign target env v) (fun _ s₂ =>
          wpAny (model prog w) A (forIn ifs true fun c r => if r = true then do let ok ← isTrue c env (eval c env); pure (ForInStep.yield ok) else pure (ForInStep.yield r)) (fun ok s₃ =>
            if ok = true then wpAny (model prog w) A (eval elt env) (fun x s₄ =>
              wpAny (model prog w) A (call (.builtin "list.append") [acc, x]) (fun _ s₅ => ∃ m, m < n ∧ I m s₅) (notedBy (model prog w) A env fun e s' => R (.error e) s') s₄) (notedBy (model prog w) A env fun e s' => R (.error e) s') s₃
            else ∃ m, m < n ∧ I m s₃) (notedBy (model prog w) A env fun e s' => R (.error e) s') s₂) (notedBy (model prog w) A env fun e s' => R (.error e) s') s₁') (notedBy (model prog w) A env fun e s' => R (.error e) s') s₁) (notedBy (model prog w) A env fun e s' => R (.error e) s') s)
    (n : Nat) (h : I n s) :
    codeAny (model prog w) A (.compLoop (.ListComp elt [⟨target, iter, ifs, 0⟩] scope pos) 0 it acc env) R s := by
  refine codeAny_loop rfl I (fun n s hI => ?_) n h
  show wpAny _ A ((compTurn (.ListComp elt [⟨target, iter, ifs, 0⟩] scope pos) 0 it acc env).onRaise (fun x => do noteFrame x env; theTreesLotGoes x)) _ _ s
  refine wpAny_noted ?_
  rw [compTurn_list]
  refine wpAny_bind (wpAny_standAt (wpAny_bind (wpAny_mono (turn n s hI) (fun r s₁ h₁ => ?_) fun _ _ h' => h')))
  cases r with
  | none => exact wpAny_pure h₁
  | some v =>
    refine wpAny_bind (wpAny_mono h₁ (fun _ s₁' h₁' => ?_) fun _ _ h' => h')
    refine wpAny_bind (wpAny_mono h₁' (fun _ s₂ h₂ => wpAny_bind (wpAny_mono h₂ (fun ok s₃ h₃ => ?_) fun _ _ h' => h')) fun _ _ h' => h')
    cases ok with
    | false => exact wpAny_pure ⟨rfl, h₃⟩
    | true =>
      exact wpAny_bind (wpAny_bind (wpAny_mono h₃ (fun x s₄ h₄ => wpAny_bind (wpAny_mono h₄ (fun _ s₅ h₅ => wpAny_pure (wpAny_pure ⟨rfl, h₅⟩)) fun _ _ h' => h')) fun _ _ h' => h'))
section
variable {X : Cx}
/-- [elt for target in iter if ..]: D the new list; W by the turn and a measure, Nx what a turn is to reach -/
def tLc (wi : TI) (g : TG) (tt : TT) (te : TE) (vs : List Nat) : TE := fun σ H Q => wi σ H fun J H1 => ∀ D, H1 D = none → ∃ W : Nat → Nat → Hp → Prop, (∃ m, W 0 m (upd H1 D (.lst []))) ∧ ∀ i m H, W i m H →
  (J.stop i H ∧ Q (.ref D) H) ∨ (J.go i H ∧ ∃ Nx : Hp → Prop, (∀ H', Nx H' → ∃ m', m' < m ∧ W (i + 1) m' H') ∧ ∀ x H', J.yld i H x H' → g x (wipe σ vs) H' fun σ2 H2 => wipe σ2 vs = wipe σ vs ∧ tt σ2 H2 fun b H3 =>
    if b = true then te σ2 H3 fun y H4 => ∃ acc, H4 D = some (.lst acc) ∧ acc.length < sizeLine ∧ Nx (upd H4 D (.lst (acc ++ [y]))) else Nx H3)
theorem lc_core {pins : List (Addr × Obj)} {s : Shared} {σ : St} {H : Hp} {Q : VK} {elt tg iter : Expr} {ifs : List Expr} {scope : Scope} {own : List (Str × Nat)} {pos pos' : Pos} {wi : TI} {g : TG} {tt : TT} {te : TE} {use : Option (Value → Sem Unit)} {Qf : Value → Shared → Prop}
    (hc : X.calm = true) (hN : X.N.Nodup) (I : Inv X pins σ H s) (hi : PI X tg iter wi) (ok : BlkOk X.N X.env.scope scope own)
    (hg : ∀ (s : Shared) (H : Hp) (C : Addr) (cl : List (Str × Addr)) (fp : List Addr), PG (X.blk s H scope (compEnvC scope cl C X.env) fp) tg g) (ht : ∀ (s : Shared) (H : Hp) (C : Addr) (cl : List (Str × Addr)) (fp : List Addr), PTs (X.blk s H scope (compEnvC scope cl C X.env) fp) ifs tt)
    (he : ∀ (s : Shared) (H : Hp) (C : Addr) (cl : List (Str × Addr)) (fp : List Addr), PE (X.blk s H scope (compEnvC scope cl C X.env) fp) elt te) (hs : ∀ x, foldedSetIterable iter X.env x = pure x)
    (h : tLc wi g tt te (own.map (·.2)) σ H Q)
    (hRR : ∀ D C s' m H', Inv X pins σ H' s' → Q (.ref D) H' → s'.heap.Ns C m → FpOk X pins H' C → compPost (model X.prog X.w) X.A X.xe use Qf (.ref D) C (.ok .next) s') :
    wpAny (model X.prog X.w) X.A (comprehension (.ListComp elt [⟨tg, iter, ifs, 0⟩] scope pos) scope X.env pos' (newList []) false (eval iter X.env) use) Qf X.xe s := by
  have hfree : ∀ y ∈ scope.names, y.2 = .free → ∃ c, X.env.cells.lookup y.1 = some c := fun y hy e => by
    rcases ok.free y hy e with k | k
    · exact I.ok.has _ (.inl k)
    · exact I.ok.has _ (.inr k)
  refine wpAny_comprehension_free (use := use) rfl hs (closure_ok hfree) ok.kind (fun y hy e => by rw [ok.uniq y hy, e])
    (thn (hi pins s σ H _ I h) fun xv s1 hx => thn hx fun itv s2 h2 => ?_)
  obtain ⟨it, fp, tn, J, H2, e, I2, T, st2, f2, q⟩ := h2
  subst e
  refine wpAny_newObj_type (newEnv_comp ?_) (by show 0 ≤ sizeLine; decide)
  generalize hD : s2.heap.objs.size = D
  have hDn : H2 D = none := I2.hok.fresh (Nat.le_of_eq hD)
  obtain ⟨W, ⟨m0, w0⟩, turn⟩ := q D hDn
  -- the new list
  generalize hs3 : ({ s2 with heap := s2.heap.push { cls := .type "list", data := .seq ([] : List Value).toArray } } : Shared) = s3
  have I3 : Inv X pins σ (upd H2 D (.lst [])) s3 := by
    rw [← hs3]
    refine I2.laid (t' := s2.toks) (fun b o e => Heap.get?_push_of_some _ e) (Nat.le_of_eq hD) ⟨Nat.zero_le _, [], 0, .nil, ?_⟩
    rw [← hD]
    exact Heap.get?_push_size _ rfl
  have h3 : s3.heap = s2.heap.push { cls := .type "list", data := .seq ([] : List Value).toArray } := by rw [← hs3]
  have sz : ∀ b ∈ fp, b < s2.heap.objs.size := fun b hb => by
    obtain ⟨o, e, _⟩ := T.obj _ _ st2 b hb
    exact Heap.lt_size e
  have f3 : ∀ b ∈ fp, FpOk X pins (upd H2 D (.lst [])) b ∧ b < s3.heap.objs.size := fun b hb => by
    have hlt := sz b hb
    refine ⟨⟨?_, (f2 b hb).2⟩, by rw [h3, Heap.size_push]; exact Nat.lt_succ_of_lt hlt⟩
    rw [upd_ne (by rw [← hD]; exact Nat.ne_of_lt hlt)]
    exact (f2 b hb).1
  have st3 : tn 0 s3.heap := T.keep _ _ _ st2 fun b _ o e => by rw [h3]; exact Heap.get?_push_of_some _ e
  have I4 := block_start I3 ok hN f3
  have pg := hg s3 (upd H2 D (.lst [])) s3.heap.objs.size (cellsFrom (s3.heap.objs.size + 1) scope.names (cloFrom X.env.cells scope.names [])) fp
  have pt := ht s3 (upd H2 D (.lst [])) s3.heap.objs.size (cellsFrom (s3.heap.objs.size + 1) scope.names (cloFrom X.env.cells scope.names [])) fp
  have pe := he s3 (upd H2 D (.lst [])) s3.heap.objs.size (cellsFrom (s3.heap.objs.size + 1) scope.names (cloFrom X.env.cells scope.names [])) fp
  show codeAny _ _ (.compStart (.ListComp elt [⟨tg, iter, ifs, 0⟩] scope pos) 0 (.ref it) (.ref D) (compEnvC scope (cellsFrom (s3.heap.objs.size + 1) scope.names (cloFrom X.env.cells scope.names [])) s3.heap.objs.size X.env)) (compPost (model X.prog X.w) X.A X.xe use Qf (.ref D) s3.heap.objs.size) { s3 with heap := pushCells (s3.heap.push { cls := .type "dict", data := .dict #[] }) scope.names }
  have nfp : ∀ b ∈ fp, (upd H2 D (.lst [])) b = none := fun b hb => (f3 b hb).1.1
  generalize hce : compEnvC scope (cellsFrom (s3.heap.objs.size + 1) scope.names (cloFrom X.env.cells scope.names [])) s3.heap.objs.size X.env = ce at I4 pg pt pe ⊢
  have cL : ce.locals = s3.heap.objs.size := by subst hce; rfl
  generalize hH3 : upd H2 D (.lst []) = H3 at I3 I4 pg pt pe w0 nfp f3
  generalize hs4 : ({ s3 with heap := pushCells (s3.heap.push { cls := .type "dict", data := .dict #[] }) scope.names } : Shared) = s4 at I4 ⊢
  have st4 : tn 0 s4.heap := T.keep _ _ _ st3 fun b _ o e => by rw [← hs4]; exact pushCells_keeps _ _ _ _ (Heap.get?_push_of_some _ e)
  have stat : ∀ {σ' : St} {H' : Hp} {s' : Shared}, Inv (X.blk s3 H3 scope ce fp) [] σ' H' s' → (∀ b ∈ fp, H' b = none) → ∀ b ∈ fp, FpOk (X.blk s3 H3 scope ce fp) [] H' b := fun {σ' H' s'} I' hn b hb =>
    ⟨hn b hb, (I'.ok.exf b hb).1, I'.ok.exfs b hb, .inl hb, fun x c e => (I'.ok.exf b hb).2 x c e, fun p hp => absurd (show p ∈ ([] : List (Addr × Obj)) ++ [] from hp) (by simp)⟩
  have loop : codeAny (model X.prog X.w) X.A (.compLoop (.ListComp elt [⟨tg, iter, ifs, 0⟩] scope pos) 0 (.ref it) (.ref D) ce) (compPost (model X.prog X.w) X.A X.xe use Qf (.ref D) s3.heap.objs.size) s4 := by
    refine compLoop_any (fun n s' => ∃ i H', Inv (X.blk s3 H3 scope ce fp) [] (wipe σ (own.map (·.2))) H' s' ∧ tn i s'.heap ∧ (∀ b ∈ fp, H' b = none) ∧ W i n H') ?_ m0 ⟨0, H3, I4, st4, nfp, w0⟩
    rintro n s5 ⟨i, H5, I5, st5, n5, w5⟩
    rcases turn i n H5 w5 with ⟨stop, qq⟩ | ⟨go, Nx, hNx, step⟩
    · have td := T.done (X.blk s3 H3 scope ce fp) rfl rfl rfl hc i [] s5 _ H5 (fun _ _ => False) I5 (stat I5 n5) st5 stop
      refine thnF td fun r s6 ⟨hr, I6⟩ => ?_
      subst hr
      -- back in the def's context
      have I7 : Inv X pins σ H5 s6 := I3.call' (ch := fp) I6.os I6.base I6.hok I6.bare fun b hb => ⟨(f3 b hb).1.2.2.2.1, (f3 b hb).1.2.1, (f3 b hb).1.2.2.2.2.1, (f3 b hb).1.2.2.2.2.2⟩
      have nC : H5 s3.heap.objs.size = none := by
        have z : H5 ce.locals = none := I6.free
        rw [cL] at z
        exact z
      obtain ⟨m, hn, _⟩ := I6.loc
      have hn : s6.heap.Ns ce.locals m := hn
      rw [cL] at hn
      exact hRR D s3.heap.objs.size s6 m H5 I7 qq hn (I3.fpOk (Nat.le_refl _) nC)
    · have ti := T.item (X.blk s3 H3 scope ce fp) rfl rfl rfl hc i [] s5 _ H5 (fun _ _ => False) I5 (stat I5 n5) st5 go
      refine thnF ti fun r s6 ⟨u, hr, h6⟩ => ?_
      subst hr
      refine thnF h6 fun _ s7 ⟨x, H7, I7, r7, y7, st7, n7⟩ => ?_
      have I7' := I7.pinned (stat I7 n7) (T.obj _ _ st7)
      refine thnF (pg _ s7 _ H7 x u _ I7' r7 (step x H7 y7)) fun _ s8 ⟨σ8, H8, I8, hw8, q8⟩ => ?_
      refine thnF (pt _ s8 σ8 H8 _ I8 q8) fun b s9 ⟨H9, I9, q9⟩ => ?_
      -- the turn's end
      have fin : ∀ {s' : Shared} {H' : Hp}, Inv (X.blk s3 H3 scope ce fp) ([] ++ pinsAt fp s7.heap) σ8 H' s' → Nx H' → ∃ m, m < n ∧ ∃ i H', Inv (X.blk s3 H3 scope ce fp) [] (wipe σ (own.map (·.2))) H' s' ∧ tn i s'.heap ∧ (∀ b ∈ fp, H' b = none) ∧ W i m H' := fun {s' H'} I' nx => by
        obtain ⟨m', hm, w'⟩ := hNx H' nx
        have pin' : ∀ b ∈ fp, ∀ o, s7.heap.get? b = some o → s'.heap.get? b = some o ∧ H' b = none := fun b hb o e =>
          let z := I'.pin (b, o) (List.mem_append_right _ (List.mem_append_right _ (mem_pinsAt hb e)))
          ⟨z.1, z.2.1⟩
        have hl : (wipe σ (own.map (·.2))).length = σ8.length := by rw [← hw8, wipe_length]
        refine ⟨m', hm, i + 1, H', (I'.unpinned (pins := [])).weak hl (fun j v e => ?_), T.keep _ _ _ st7 fun b hb o e => (pin' b hb o e).1, fun b hb => ?_, w'⟩
        · rw [← hw8] at e
          exact (wipe_some e).1
        · obtain ⟨o, e, _⟩ := T.obj _ _ st7 b hb
          exact (pin' b hb o e).2
      cases b with
      | false =>
        simp only [Bool.false_eq_true, if_false] at q9 ⊢
        exact fin I9 q9
      | true =>
        simp only [if_true] at q9 ⊢
        refine thnF (pe _ s9 σ8 H9 _ I9 q9) fun z s10 ⟨yv, H10, I10, r10, acc, hD10, hz10, nx⟩ => ?_
        exact app_ok (X := X.blk s3 H3 scope ce fp) I10 hD10 hz10 r10 fun s11 I11 => fin I11 nx
  exact codeAny_compStart_list loop (T.self X.A 0 _ _ _ st4 loop)
/-- as a value -/
theorem pe_lc {elt tg iter : Expr} {ifs : List Expr} {scope : Scope} {own : List (Str × Nat)} {pos : Pos} {wi : TI} {g : TG} {tt : TT} {te : TE} (hc : X.calm = true) (hN : X.N.Nodup) (hi : PI X tg iter wi) (ok : BlkOk X.N X.env.scope scope own)
    (hg : ∀ (s : Shared) (H : Hp) (C : Addr) (cl : List (Str × Addr)) (fp : List Addr), PG (X.blk s H scope (compEnvC scope cl C X.env) fp) tg g) (ht : ∀ (s : Shared) (H : Hp) (C : Addr) (cl : List (Str × Addr)) (fp : List Addr), PTs (X.blk s H scope (compEnvC scope cl C X.env) fp) ifs tt)
    (he : ∀ (s : Shared) (H : Hp) (C : Addr) (cl : List (Str × Addr)) (fp : List Addr), PE (X.blk s H scope (compEnvC scope cl C X.env) fp) elt te) (hs : ∀ x, foldedSetIterable iter X.env x = pure x := by intro _; rfl) :
    PE X (.ListComp elt [⟨tg, iter, ifs, 0⟩] scope pos) (tLc wi g tt te (own.map (·.2))) := by
  intro pins s σ H Q I h
  rw [eval_ListComp]
  refine lc_core hc hN I hi ok hg ht he hs h fun D C s' m H' I' q hn f => ⟨m, hn, fun h'' sb => ?_⟩
  obtain ⟨f0, f1, f2, f3, f4, f5⟩ := f
  exact ⟨.ref D, H', I'.turned (t' := s'.toks) (fun b o hb e => (sb.2 b hb).trans e) f0 f1 f3 f4 f5, rfl, q⟩
/-- name = [..] on one line, the name a local -/
theorem ps_setLc {i : Nat} {y : Str} {py : Pos} {elt tg iter : Expr} {ifs : List Expr} {scope : Scope} {own : List (Str × Nat)} {pos spos : Pos} {wi : TI} {g : TG} {tt : TT} {te : TE} (hc : X.calm = true) (hN : X.N.Nodup) (hy : X.N[i]? = some y) (hyl : X.env.scope.names.lookup y = some .local)
    (hsw : swapsWith (.ListComp elt [⟨tg, iter, ifs, 0⟩] scope pos) (some (.Name y py)) spos.line X.env = pure true) (hi : PI X tg iter wi) (ok : BlkOk X.N X.env.scope scope own)
    (hg : ∀ (s : Shared) (H : Hp) (C : Addr) (cl : List (Str × Addr)) (fp : List Addr), PG (X.blk s H scope (compEnvC scope cl C X.env) fp) tg g) (ht : ∀ (s : Shared) (H : Hp) (C : Addr) (cl : List (Str × Addr)) (fp : List Addr), PTs (X.blk s H scope (compEnvC scope cl C X.env) fp) ifs tt)
    (he : ∀ (s : Shared) (H : Hp) (C : Addr) (cl : List (Str × Addr)) (fp : List Addr), PE (X.blk s H scope (compEnvC scope cl C X.env) fp) elt te) (hs : ∀ x, foldedSetIterable iter X.env x = pure x := by intro _; rfl) :
    PS X (.Assign [.Name y py] (.ListComp elt [⟨tg, iter, ifs, 0⟩] scope pos) spos) (tAsg (tLc wi g tt te (own.map (·.2))) (gName i)) := by
  intro pins s σ H D I h
  rw [exec_Assign_Name_used _ _ _ _ hsw]
  refine wpAny_bind (wpAny_standAt (wpAny_bind ?_))
  show wpAny _ X.A (do let _ ← comprehension (.ListComp elt [⟨tg, iter, ifs, 0⟩] scope pos) scope X.env (firstIterPos [⟨tg, iter, ifs, 0⟩] pos) (newList []) false (eval iter X.env) (some (assign (.Name y py) X.env))) _ _ s
  have h : tLc wi g tt te (own.map (·.2)) σ H (fun x H1 => gName i x σ H1 D.nx) := h
  refine wpAny_bind (thn (lc_core (Qf := fun _ s' => SP X pins D .next s') hc hN I hi ok hg ht he hs h fun L C s' m H' I' q hn f => ?_) fun _ s' hq => wpAny_pure (wpAny_pure hq))
  show wpAny _ _ (assign (.Name y py) X.env (.ref L)) _ _ _
  refine wpAny_assign_Name (store_ok2 (v := V.ref L) I' hN hy (.inl hyl) rfl (fun s2 I2 ⟨a, sb, ha⟩ => ?_) (.inr hyl))
  obtain ⟨f0, f1, f2, f3, f4, f5⟩ := f
  have haC : C ≠ a := by
    rcases ha with z | z
    · rw [z]; exact f1
    · exact fun e => f4 y a z e.symm
  refine ⟨m, hn.sameBut sb haC, fun h3 sb3 => ?_⟩
  exact ⟨_, H', I2.turned (t' := s2.toks) (fun b o hb e => (sb3.2 b hb).trans e) f0 f1 f3 f4 f5, q⟩
theorem sw_true {elt : Expr} {gs : List Comprehension} {scope : Scope} {pos py : Pos} {y : Str} {l : Nat} {env : Env} (hk : env.scope.kind = .function) (hy : env.scope.names.lookup y = some .local) (hl : (py.line == pos.line) = true)
    (ha : (scope.names.any fun (n, k) => n == y && (k == .local || k == .cell)) = false) : swapsWith (.ListComp elt gs scope pos) (some (.Name y py)) l env = pure true := by
  have ky : env.kindOf y = some .local := hy
  have hb : env.blockKind = .function := by unfold Env.blockKind; rw [hk]; rfl
  unfold swapsWith
  simp only [hb, ky, ha, Expr.pos, hl]
  rfl
end
/-! ### the forms one uses -/
/-- over a list that the block leaves as it is -/
theorem lc_list {K : PySem.W.Frag} {a : Addr} {xs : List V} {g : TG} {tt : TT} {te : TE} {vs : List Nat} {σ : St} {H1 : Hp} {D : Addr} {Qd : Hp → Prop} (Pv : Nat → Hp → Prop) (h0 : Pv 0 (upd H1 D (.lst []))) (hl : ∀ i H, i ≤ xs.length → Pv i H → SqL K H a xs)
    (hs : ∀ i x H, xs[i]? = some x → Pv i H → g x (wipe σ vs) H fun σ2 H2 => wipe σ2 vs = wipe σ vs ∧ tt σ2 H2 fun b H3 =>
      if b = true then te σ2 H3 fun y H4 => ∃ acc, H4 D = some (.lst acc) ∧ acc.length < sizeLine ∧ Pv (i + 1) (upd H4 D (.lst (acc ++ [y]))) else Pv (i + 1) H3) (hd : ∀ H, Pv xs.length H → Qd H) :
    ∃ W : Nat → Nat → Hp → Prop, (∃ m, W 0 m (upd H1 D (.lst []))) ∧ ∀ i m H, W i m H →
      ((Itl K a).stop i H ∧ Qd H) ∨ ((Itl K a).go i H ∧ ∃ Nx : Hp → Prop, (∀ H', Nx H' → ∃ m', m' < m ∧ W (i + 1) m' H') ∧ ∀ x H', (Itl K a).yld i H x H' → g x (wipe σ vs) H' fun σ2 H2 => wipe σ2 vs = wipe σ vs ∧ tt σ2 H2 fun b H3 =>
        if b = true then te σ2 H3 fun y H4 => ∃ acc, H4 D = some (.lst acc) ∧ acc.length < sizeLine ∧ Nx (upd H4 D (.lst (acc ++ [y]))) else Nx H3) := by
  refine ⟨fun i m H => m = xs.length - i ∧ i ≤ xs.length ∧ Pv i H, ⟨xs.length, by simp, Nat.zero_le _, h0⟩, ?_⟩
  rintro i m H ⟨rfl, hi, p⟩
  have q := hl i H hi p
  by_cases hlt : i < xs.length
  · refine .inr ⟨⟨xs, xs[i], q, by simp [hlt]⟩, Pv (i + 1), fun H' p' => ⟨xs.length - (i + 1), by omega, rfl, hlt, p'⟩, fun x H' y => ?_⟩
    obtain ⟨e, y⟩ := y
    subst e
    exact hs i x _ (y xs q) p
  · have e : i = xs.length := by omega
    subst e
    exact .inl ⟨⟨xs, q, Nat.le_refl _⟩, hd H p⟩
def blkC (N : List Str) (sc scope : Scope) (own : List (Str × Nat)) : Bool :=
  (match scope.kind with | .function => true | _ => false) && (scope.names.all fun y => decide (scope.names.lookup y.1 = some y.2)) && (own.all fun p => decide (N[p.2]? = some p.1)) &&
    (scope.names.all fun y => match y.2 with
      | .free => (match sc.names.lookup y.1 with | some .cell => true | some .free => true | _ => false)
      | .local => decide (y.1 ∈ own.map (·.1)) || decide (y.1 ∉ N)
      | .cell => decide (y.1 ∈ own.map (·.1)) || decide (y.1 ∉ N)
      | _ => true)
theorem blkOk_by {N : List Str} {sc scope : Scope} {own : List (Str × Nat)} (h : blkC N sc scope own = true) : BlkOk N sc scope own := by
  unfold blkC at h
  simp only [Bool.and_eq_true, List.all_eq_true, decide_eq_true_eq] at h
  obtain ⟨⟨⟨h1, h2⟩, h3⟩, h4⟩ := h
  refine ⟨?_, h2, h3, fun y hy e => ?_, fun y hy e => ?_⟩
  · split at h1
    · assumption
    · cases h1
  · have q := h4 y hy
    simp only [e] at q
    split at q <;> first | exact .inl (by assumption) | exact .inr (by assumption) | cases q
  · have q := h4 y hy
    rcases e with e | e <;> (simp only [e, Bool.or_eq_true, decide_eq_true_eq] at q; exact q)
end L2
namespace L2
open PySem PySem.Spec PyProof.Rows
section
variable {prog : Program} {w : World} {A : Around} {R : Result → Shared → Prop} {s : Shared} {elt t0 i0 t1 i1 : Expr} {ifs0 ifs1 : List Expr} {scope : Scope} {pos : Pos} {it acc : Value} {env : Env}
end
section
variable {X : Cx}
end
end L2
namespace L2
open PySem PySem.Spec PyProof.Rows
/-! ### lists of pairs as tables -/
section
variable {κ : Type} [DecidableEq κ]
def valV (kvs : List (κ × V)) (k : κ) : Option V := (kvs.find? fun kv => decide (kv.1 = k)).map (·.2)
/-- in its place, or at the end -/
def putK (kvs : List (κ × V)) (k : κ) (v : V) : List (κ × V) :=
  if (kvs.any fun kv => decide (kv.1 = k)) = true then kvs.map (fun kv => if kv.1 = k then (kv.1, v) else kv) else kvs ++ [(k, v)]
theorem valV_nil {k : κ} : valV ([] : List (κ × V)) k = none := rfl
theorem valV_pos {p : κ × V} {r : List (κ × V)} {k : κ} (e : p.1 = k) : valV (p :: r) k = some p.2 := by simp [valV, List.find?_cons, e]
theorem valV_neg {p : κ × V} {r : List (κ × V)} {k : κ} (e : ¬ p.1 = k) : valV (p :: r) k = valV r k := by simp [valV, List.find?_cons, e]
theorem valV_any (k : κ) : ∀ kvs : List (κ × V), (kvs.any fun kv => decide (kv.1 = k)) = (valV kvs k).isSome
  | [] => rfl
  | p :: r => by
    rw [List.any_cons]
    by_cases e : p.1 = k
    · simp only [valV_pos e, decide_eq_true e, Bool.true_or, Option.isSome_some]
    · rw [valV_neg e, decide_eq_false e, Bool.false_or]; exact valV_any k r
theorem valV_map (k j : κ) (y : V) : ∀ kvs : List (κ × V), valV (kvs.map fun kv => if kv.1 = k then (kv.1, y) else kv) j = (valV kvs j).map fun x => if j = k then y else x
  | [] => rfl
  | p :: r => by
    have ih := valV_map k j y r
    rw [List.map_cons]
    by_cases h : p.1 = k
    · rw [if_pos h]
      by_cases e : p.1 = j
      · rw [valV_pos (p := (p.1, y)) e, valV_pos e, Option.map_some, if_pos (e.symm.trans h)]
      · rw [valV_neg (p := (p.1, y)) e, valV_neg e, ih]
    · rw [if_neg h]
      by_cases e : p.1 = j
      · rw [valV_pos (p := p) e, valV_pos e, Option.map_some, if_neg (fun z => h (e.trans z))]
      · rw [valV_neg (p := p) e, valV_neg e, ih]
theorem valV_snoc (k j : κ) (y : V) : ∀ kvs : List (κ × V), valV kvs k = none → valV (kvs ++ [(k, y)]) j = if j = k then some y else valV kvs j
  | [], _ => by
    by_cases e : k = j
    · rw [if_pos e.symm]; exact valV_pos (p := (k, y)) e
    · rw [if_neg (fun z => e z.symm)]; exact valV_neg (p := (k, y)) e
  | p :: r, hn => by
    rw [List.cons_append]
    have hk : ¬ p.1 = k := fun z => by rw [valV_pos z] at hn; cases hn
    rw [valV_neg hk] at hn
    have ih := valV_snoc k j y r hn
    by_cases e : p.1 = j
    · rw [valV_pos e, valV_pos e, if_neg (fun z => hk (e.trans z))]
    · rw [valV_neg e, valV_neg e, ih]
theorem valV_put (kvs : List (κ × V)) (k j : κ) (y : V) : valV (putK kvs k y) j = if j = k then some y else valV kvs j := by
  unfold putK
  by_cases a : (kvs.any fun kv => decide (kv.1 = k)) = true
  · rw [if_pos a, valV_map]
    rw [valV_any] at a
    by_cases e : j = k
    · obtain ⟨x, hx⟩ := Option.isSome_iff_exists.mp a
      rw [if_pos e, e, hx, Option.map_some, if_pos rfl]
    · rw [if_neg e]
      cases valV kvs j with
      | none => rfl
      | some x => rw [Option.map_some, if_neg e]
  · rw [if_neg a]
    refine valV_snoc k j y kvs ?_
    rw [valV_any] at a
    cases q : valV kvs k with
    | none => rfl
    | some x => rw [q] at a; exact (a rfl).elim
theorem length_putK (kvs : List (κ × V)) (k : κ) (v : V) : (putK kvs k v).length ≤ kvs.length + 1 := by
  unfold putK
  split
  · rw [List.length_map]; omega
  · rw [List.length_append, List.length_cons, List.length_nil]; omega
theorem putK_new {kvs : List (κ × V)} {k : κ} (v : V) (h : valV kvs k = none) : putK kvs k v = kvs ++ [(k, v)] := by
  unfold putK
  rw [valV_any, h]
  exact if_neg (by decide)
theorem RelO.isSome_eq {o : Option V} {u : Option Value} (r : RelO o u) : o.isSome = u.isSome := by
  cases o with
  | none => cases u with
    | none => rfl
    | some _ => exact (show False from r).elim
  | some _ => cases u with
    | none => exact (show False from r).elim
    | some _ => rfl
/-- raw tables of the same keys -/
theorem KV.val {kvs : List (κ × V)} {vs : List (κ × Value)} (r : KV kvs vs) (k : κ) : RelO (valV kvs k) (valueAt vs k) := by
  unfold KV at r
  induction r with
  | nil => exact True.intro
  | @cons p q ps qs h t ih =>
    obtain ⟨h1, h2⟩ := h
    by_cases e : p.1 = k
    · have e' : q.1 = k := h1.symm.trans e
      have b : valueAt (q :: qs) k = some q.2 := by simp [valueAt, List.find?_cons, e']
      rw [valV_pos e, b]; exact h2
    · have e' : ¬ q.1 = k := fun z => e (h1.trans z)
      have b : valueAt (q :: qs) k = valueAt qs k := by simp [valueAt, List.find?_cons, e']
      rw [valV_neg e, b]; exact ih
theorem KV.any {kvs : List (κ × V)} {vs : List (κ × Value)} (r : KV kvs vs) (k : κ) : (kvs.any fun kv => decide (kv.1 = k)) = vs.any fun kv => decide (kv.1 = k) := by
  unfold KV at r
  induction r with
  | nil => rfl
  | cons h t ih => rw [List.any_cons, List.any_cons, ih, h.1]
theorem KV.repl {kvs : List (κ × V)} {vs : List (κ × Value)} (r : KV kvs vs) (k : κ) {y : V} {u : Value} (ry : RelV y u) :
    KV (kvs.map fun kv => if kv.1 = k then (kv.1, y) else kv) (vs.map fun kv => if kv.1 = k then (kv.1, u) else kv) := by
  unfold KV at r ⊢
  induction r with
  | nil => exact .nil
  | @cons p q ps qs h t ih =>
    rw [List.map_cons, List.map_cons]
    refine .cons ?_ ih
    obtain ⟨h1, h2⟩ := h
    by_cases e : p.1 = k
    · rw [if_pos e, if_pos (h1.symm.trans e)]; exact ⟨h1, ry⟩
    · rw [if_neg e, if_neg (fun z => e (h1.trans z))]; exact ⟨h1, h2⟩
theorem KV.put {kvs : List (κ × V)} {vs : List (κ × Value)} (r : KV kvs vs) (k : κ) {y : V} {u : Value} (ry : RelV y u) : KV (putK kvs k y) (stored vs k u) := by
  unfold putK stored
  rw [r.any k]
  by_cases e : (vs.any fun kv => decide (kv.1 = k)) = true
  · rw [if_pos e, if_pos e]; exact r.repl k ry
  · rw [if_neg e, if_neg e]; exact Paired.snoc r ⟨rfl, ry⟩
theorem KV.length {kvs : List (κ × V)} {vs : List (κ × Value)} (r : KV kvs vs) : kvs.length = vs.length := Paired.length r
end
/-! ### a tracked dict, its keys ints and texts or tuples of these -/
theorem kV_is {P : Program} {w : World} {k : Key} {u : Value} (r : RelV (kV k) u) : (mixKind P w).is k u = true := by
  cases k with
  | inl i => obtain ⟨t, e⟩ := (show ∃ t, u = Value.int i t from r); subst e; exact mixKind_int P w i t
  | inr x => obtain ⟨t, e⟩ := (show ∃ t, u = Value.str x t from r); subst e; exact mixKind_str P w x t
theorem items_are {P : Program} {w : World} : ∀ {ks : List Key} {us : List Value}, Vals (ks.map kV) us → ItemsAre (mixKind P w) ks us
  | [], _, r => by rw [List.map_nil] at r; cases r; exact .nil
  | k :: ks, _, r => by
    rw [List.map_cons] at r
    cases r with
    | cons h t => exact .cons (kV_is h) (items_are t)
/-- raw entries of a dict with tuple keys -/
abbrev KT (H : Hp) : List (List Key × V) → List (List Key × Addr × Value) → Prop := Paired fun p q => p.1 = q.1 ∧ H q.2.1 = some (.tup (p.1.map kV)) ∧ RelV p.2 q.2.2
theorem KT.val {H : Hp} {kvs : List (List Key × V)} {xs : List (List Key × Addr × Value)} (r : KT H kvs xs) (k : List Key) : RelO (valV kvs k) ((atKey xs k).map (·.2)) := by
  induction r with
  | nil => exact True.intro
  | @cons p q ps qs h t ih =>
    obtain ⟨h1, _, h2⟩ := h
    by_cases e : p.1 = k
    · have e' : q.1 = k := h1.symm.trans e
      have b : atKey (q :: qs) k = some q.2 := by simp [atKey, List.find?_cons, e']
      rw [valV_pos e, b]; exact h2
    · have e' : ¬ q.1 = k := fun z => e (h1.trans z)
      have b : atKey (q :: qs) k = atKey qs k := by simp [atKey, List.find?_cons, e']
      rw [valV_neg e, b]; exact ih
theorem KT.repl {H : Hp} {kvs : List (List Key × V)} {xs : List (List Key × Addr × Value)} (r : KT H kvs xs) (k : List Key) {y : V} {u : Value} (ry : RelV y u) :
    KT H (kvs.map fun kv => if kv.1 = k then (kv.1, y) else kv) (xs.map (putAt k u)) := by
  induction r with
  | nil => exact .nil
  | @cons p q ps qs h t ih =>
    rw [List.map_cons, List.map_cons]
    refine .cons ?_ ih
    obtain ⟨h1, h2, h3⟩ := h
    unfold putAt
    by_cases e : p.1 = k
    · rw [if_pos e, if_pos (h1.symm.trans e)]; exact ⟨h1, h2, ry⟩
    · rw [if_neg e, if_neg (fun z => e (h1.trans z))]; exact ⟨h1, h2, h3⟩
theorem KT.put {H : Hp} {kvs : List (List Key × V)} {xs : List (List Key × Addr × Value)} (r : KT H kvs xs) (k : List Key) {b : Addr} {y : V} {u : Value} (hb : H b = some (.tup (k.map kV))) (ry : RelV y u) :
    KT H (putK kvs k y) (storedH xs k b u) := by
  have e : (kvs.any fun kv => decide (kv.1 = k)) = (atKey xs k).isSome := by
    rw [valV_any, (r.val k).isSome_eq, Option.isSome_map]
  unfold putK storedH
  rw [e]
  by_cases q : (atKey xs k).isSome = true
  · rw [if_pos q, if_pos q]; exact r.repl k ry
  · rw [if_neg q, if_neg q]; exact Paired.snoc r ⟨rfl, hb, ry⟩
theorem KT.keeps {H H' : Hp} {kvs : List (List Key × V)} {xs : List (List Key × Addr × Value)} (r : KT H kvs xs) (ht : ∀ b ys, H b = some (.tup ys) → H' b = some (.tup ys)) : KT H' kvs xs :=
  Paired.mapP r fun _ _ z => ⟨z.1, ht _ _ z.2.1, z.2.2⟩
section
variable {P : Program} {w : World} {H : Hp} {h : Heap} {a : Addr}
theorem rd_of {u : HO} (ok : HOk P w H h) (e : Rd H a u) : ObjOk P w H h a u := e.ok ok
theorem dk_rd {kvs : List (Key × V)} (ok : HOk P w H h) (e : Rd H a (.dK kvs)) : kvs.length ≤ sizeLine ∧ (a == sysModules) = false ∧ ∃ vs, KV kvs vs ∧ h.DictOf (mixKind P w) a vs :=
  show ObjOk P w H h a (.dK kvs) from rd_of ok e
theorem dk_of {kvs : List (Key × V)} (ok : HOk P w H h) (e : H a = some (.dK kvs)) : kvs.length ≤ sizeLine ∧ (a == sysModules) = false ∧ ∃ vs, KV kvs vs ∧ h.DictOf (mixKind P w) a vs := dk_rd ok (.inl e)
/-- a tracked tuple of ints and texts is a key -/
theorem key_of {ks : List Key} (ok : HOk P w H h) (e : H a = some (.tup (ks.map kV))) : (tupleKind (mixKind P w)).is h ks a := by
  obtain ⟨_, its, r, o, h1, h2, n, h3⟩ := (show ObjOk P w H h a (.tup (ks.map kV)) from ok a _ e)
  exact ⟨o, its.toArray, n, h1, h2, h3, by simpa using items_are r⟩
theorem dt_rd {kvs : List (List Key × V)} (ok : HOk P w H h) (e : Rd H a (.dT kvs)) : kvs.length ≤ sizeLine ∧ (a == sysModules) = false ∧
    ∃ xs, KT H kvs xs ∧ h.DictOfH (tupleKind (mixKind P w)) a xs := by
  obtain ⟨z, y, xs, r, o, es, ep, h1, h2, h3, h4, h5⟩ := (show ObjOk P w H h a (.dT kvs) from rd_of ok e)
  refine ⟨z, y, xs, r, o, es, ep, h1, h2, h3, h4, fun x hx => ?_, h5⟩
  have all : ∀ {l : List (List Key × V)} {m : List (List Key × Addr × Value)}, KT H l m → ∀ x ∈ m, (tupleKind (mixKind P w)).is h x.1 x.2.1 := by
    intro l m q
    induction q with
    | nil => intro x hx; exact nomatch hx
    | @cons p q ps qs hq t ih =>
      intro x hx
      rcases List.mem_cons.mp hx with e | hx
      · subst e
        exact key_of ok (by rw [← hq.1]; exact hq.2.1)
      · exact ih x hx
  exact all r x hx
theorem dt_of {kvs : List (List Key × V)} (ok : HOk P w H h) (e : H a = some (.dT kvs)) : kvs.length ≤ sizeLine ∧ (a == sysModules) = false ∧
    ∃ xs, KT H kvs xs ∧ h.DictOfH (tupleKind (mixKind P w)) a xs := dt_rd ok (.inl e)
end
/-- what the dict at a holds at the key y -/
def DGet (H : Hp) (a : Addr) (y : V) (r : Option V) : Prop :=
  (∃ kvs k, Rd H a (.dK kvs) ∧ y = kV k ∧ r = valV kvs k) ∨ ∃ kvs k b, Rd H a (.dT kvs) ∧ y = .ref b ∧ H b = some (.tup (k.map kV)) ∧ r = valV kvs k
/-- the heap behind a[y] = v -/
def DPut (H : Hp) (a : Addr) (y v : V) (H' : Hp) : Prop :=
  (∃ kvs k, H a = some (.dK kvs) ∧ y = kV k ∧ kvs.length < sizeLine ∧ H' = upd H a (.dK (putK kvs k v))) ∨
  ∃ kvs k b, H a = some (.dT kvs) ∧ y = .ref b ∧ H b = some (.tup (k.map kV)) ∧ kvs.length < sizeLine ∧ H' = upd H a (.dT (putK kvs k v))
theorem DGet.k {H : Hp} {a : Addr} {kvs : List (Key × V)} {k : Key} (e : H a = some (.dK kvs)) : DGet H a (kV k) (valV kvs k) := .inl ⟨kvs, k, .inl e, rfl, rfl⟩
theorem DGet.t {H : Hp} {a b : Addr} {kvs : List (List Key × V)} {k : List Key} (e : H a = some (.dT kvs)) (eb : H b = some (.tup (k.map kV))) : DGet H a (.ref b) (valV kvs k) := .inr ⟨kvs, k, b, .inl e, rfl, eb, rfl⟩
theorem DPut.k {H : Hp} {a : Addr} {kvs : List (Key × V)} {k : Key} {v : V} (e : H a = some (.dK kvs)) (hl : kvs.length < sizeLine) : DPut H a (kV k) v (upd H a (.dK (putK kvs k v))) := .inl ⟨kvs, k, e, rfl, hl, rfl⟩
theorem DPut.t {H : Hp} {a b : Addr} {kvs : List (List Key × V)} {k : List Key} {v : V} (e : H a = some (.dT kvs)) (eb : H b = some (.tup (k.map kV))) (hl : kvs.length < sizeLine) :
    DPut H a (.ref b) v (upd H a (.dT (putK kvs k v))) := .inr ⟨kvs, k, b, e, rfl, eb, hl, rfl⟩
section
variable {X : Cx} {pins : List (Addr × Obj)} {σ : St} {H : Hp} {s : Shared} {a : Addr} {y v : V} {u r : Value} {o : Option V} {A : Around} {E : Value → Shared → Prop}
theorem Inv.big (I : Inv X pins σ H s) : sysModules < s.heap.objs.size := by
  have h : mainGlobals < s.heap.objs.size := (I.mod.glob.keeps I.bk).lt
  exact Nat.lt_trans (by decide) h
/-- d[y], there -/
theorem d_getItem {Q : Value → Shared → Prop} (hu : A.units + 1 < cLine) (I : Inv X pins σ H s) (g : DGet H a y (some v)) (ry : RelV y u) (h : ∀ w' s', Inv X pins σ H s' → RelV v w' → Q w' s') :
    wpAny (model X.prog X.w) A (getItem (.ref a) u) Q E s := by
  rcases g with ⟨kvs, k, e, ey, l⟩ | ⟨kvs, k, b, e, ey, eb, l⟩
  · subst ey
    obtain ⟨z, hd, vs, rel, dd⟩ := dk_rd I.hok e
    obtain ⟨w', hw, rw'⟩ := RelO.some_of (v := v) (o := valueAt vs k) (by rw [l]; exact rel.val k)
    exact wpAny_getItem_of (kV_is ry) dd.mapOf hw (h w' _ (I.tok _) rw')
  · subst ey
    cases (show u = Value.ref b from ry)
    obtain ⟨z, hd, xs, rel, dd⟩ := dt_rd I.hok e
    obtain ⟨w', hw, rw'⟩ := RelO.some_of (v := v) (o := (atKey xs k).map (·.2)) (by rw [l]; exact rel.val k)
    obtain ⟨p, hp, hp2⟩ := Option.map_eq_some_iff.mp hw
    refine wpAny_getItem_heap (tupleKind_room_in1 hu) (key_of I.hok eb) dd hp ?_
    rw [hp2]
    exact h w' _ (I.tok _) rw'
theorem d_notIn {Q : Value → Shared → Prop} (hu : A.units + 1 < cLine) (I : Inv X pins σ H s) (g : DGet H a y o) (ry : RelV y u) (h : ∀ s', Inv X pins σ H s' → Q (.bool (!o.isSome)) s') :
    wpAny (model X.prog X.w) A (compareOp .NotIn u (.ref a)) Q E s := by
  rcases g with ⟨kvs, k, e, ey, l⟩ | ⟨kvs, k, b, e, ey, eb, l⟩
  · subst ey
    obtain ⟨z, hd, vs, rel, dd⟩ := dk_rd I.hok e
    refine wpAny_notIn_of (kV_is ry) hd dd.mapOf ?_
    rw [← (rel.val k).isSome_eq, ← l]
    exact h _ (I.tok _)
  · subst ey
    cases (show u = Value.ref b from ry)
    obtain ⟨z, hd, xs, rel, dd⟩ := dt_rd I.hok e
    refine wpAny_notIn_heap (tupleKind_room_in1 hu) (key_of I.hok eb) hd dd ?_
    have q := (rel.val k).isSome_eq
    rw [Option.isSome_map] at q
    rw [← q, ← l]
    exact h _ (I.tok _)
/-- a dict's object is replaced -/
theorem d_write {h' : Heap} {t' : Nat} {ob : HO} (I : Inv X pins σ H s) (mu : Mut (H a)) (hs : Heap.SameBut a s.heap h') (he : ∃ q, h'.get? a = some q) (new : ObjOk X.prog X.w (upd H a ob) h' a ob) :
    Inv X pins σ (upd H a ob) { s with heap := h', toks := t' } :=
  I.write (x := a) (e := a) mu (.inl rfl) (fun b q hb z => (hs.2 b hb).trans z) he new
theorem dk_new {P : Program} {w : World} {H' : Hp} {h' : Heap} {kvs : List (Key × V)} {vs : List (Key × Value)} (z : kvs.length ≤ sizeLine) (hd : (a == sysModules) = false) (rel : KV kvs vs) (dd : h'.DictOf (mixKind P w) a vs) :
    ObjOk P w H' h' a (.dK kvs) := ⟨z, hd, vs, rel, dd⟩
/-- d[y] = v -/
theorem d_setItem {H' : Hp} {Q : Unit → Shared → Prop} (hu : A.units + 1 < cLine) (I : Inv X pins σ H s) (g : DPut H a y v H') (ry : RelV y u) (rv : RelV v r) (h : ∀ s', Inv X pins σ H' s' → Q () s') :
    wpAny (model X.prog X.w) A (setItem (.ref a) u r) Q E s := by
  rcases g with ⟨kvs, k, e, ey, l, eH⟩ | ⟨kvs, k, b, e, ey, eb, l, eH⟩
  · subst ey eH
    obtain ⟨z, hd, vs, rel, dd⟩ := dk_of I.hok e
    have hz : vs.length ≤ sizeLine := by rw [← rel.length]; exact z
    have hl : (putK kvs k v).length ≤ sizeLine := by have := length_putK kvs k v; omega
    refine wpAny_setItem_pairs (hsz := hz) (kV_is ry) dd fun h' dd' hs => h _ ?_
    have he : ∃ q, h'.get? a = some q := let ⟨q, _, _, hq, _⟩ := dd'; ⟨q, hq⟩
    exact d_write I (by rw [e]; exact True.intro) hs he (dk_new hl hd (rel.put k rv) dd')
  · subst ey eH
    cases (show u = Value.ref b from ry)
    obtain ⟨z, hd, xs, rel, dd⟩ := dt_of I.hok e
    have hz : xs.length ≤ sizeLine := by rw [← Paired.length rel]; exact z
    have hl : (putK kvs k v).length ≤ sizeLine := by have := length_putK kvs k v; omega
    refine wpAny_setItem_heap (hsz := hz) (tupleKind_room_in1 hu) (key_of I.hok eb) dd fun h' dd' hs => h _ ?_
    obtain ⟨q, es, ep, hq, h2, h3, h4, _, h5⟩ := dd'
    refine d_write I (by rw [e]; exact True.intro) hs ⟨q, hq⟩ ⟨hl, hd, _, (rel.put k eb rv).keeps fun c ys ec => ?_, q, es, ep, hq, h2, h3, h4, h5⟩
    rw [upd_ne (ne_of ec e (fun z => nomatch z))]
    exact ec
end
section
variable {X : Cx} {pins : List (Addr × Obj)} {σ : St} {H : Hp} {s : Shared} {a : Addr} {kvs : List (Key × V)} {k : Key} {u : Value} {A : Around} {E : Value → Shared → Prop}
end
/-! ### readings and rules -/
/-- the element of a subscription, not a slice -/
def NoSl (i : Expr) : Prop := ∀ ov iv, subscripted i false ov iv = operate [ov, iv] (getItem ov iv)
theorem subD_of {prog : Program} {w : World} {A : Around} {E : Value → Shared → Prop} {s : Shared} {env : Env} {value slice : Expr} {pos : Pos} {T id : String} {Q : Value → Shared → Prop}
    (hl : typeLookup (.type T) "__getitem__" = pure (some (.builtin id))) (hs : NoSl slice)
    (h : wpAny (model prog w) A (eval value env) (fun o s₁ => wpAny (model prog w) A (eval slice env) (fun i s₂ => s₂.TypeIs o T ∧ wpAny (model prog w) A (getItem o i) Q E s₂) E s₁) E s) :
    wpAny (model prog w) A (eval (.Subscript value slice pos) env) Q E s := by
  refine Subscript_ (wpAny_mono h (fun o s₁ h₁ => wpAny_mono h₁ (fun i s₂ h₂ => ?_) fun _ _ x => x) fun _ _ x => x)
  obtain ⟨hT, h₂⟩ := h₂
  unfold subscriptTail
  refine wpAny_bind ?_
  rw [getitemInPython_of_ne hT.not_modules]
  refine wpAny_bind (wpAny_specialOf hT hl ?_)
  have fin : wpAny (model prog w) A (subscripted slice false o i) (fun r s₃ => wpAny (model prog w) A (letTemporaryGo value o r >>= fun _ => pure r) Q E s₃) E s₂ := by
    rw [hs o i]
    exact wpAny_operating (wpAny_mono h₂ (fun r s₃ h₃ => wpAny_bind (wpAny_letTemporaryGo (wpAny_pure h₃))) fun _ _ x => x)
  first
    | exact wpAny_pure (wpAny_bind fin)
    | exact wpAny_bind (wpAny_pure (wpAny_bind fin))
    | exact wpAny_bind fin
theorem dict_typeIs {X : Cx} {pins : List (Addr × Obj)} {σ : St} {H : Hp} {s : Shared} {a : Addr} {y : V} {o : Option V} (I : Inv X pins σ H s) (g : DGet H a y o) : s.TypeIs (.ref a) "dict" := by
  rcases g with ⟨kvs, k, e, _, _⟩ | ⟨kvs, k, b, e, _, _, _⟩
  · obtain ⟨_, _, vs, _, dd⟩ := dk_rd I.hok e
    exact dd.typeIs
  · obtain ⟨_, _, xs, _, dd⟩ := dt_rd I.hok e
    exact dd.typeIs
/-- d[y] -/
def tDGet (td ty : TE) : TE := fun σ H Q => td σ H fun x H1 => ty σ H1 fun y H2 => ∃ a v, x = .ref a ∧ DGet H2 a y (some v) ∧ Q v H2
def tDNotIn (ty td : TE) : TE := fun σ H Q => ty σ H fun y H1 => td σ H1 fun x H2 => ∃ a o, x = .ref a ∧ DGet H2 a y o ∧ Q (.bl (!o.isSome)) H2
/-- d[y] = v -/
def sDPut (td ty tv : TE) : TS := fun D σ H => tv σ H fun v H1 => td σ H1 fun x H2 => ty σ H2 fun y H3 => ∃ a H4, x = .ref a ∧ DPut H3 a y v H4 ∧ D.nx σ H4
section
variable {X : Cx} {o i e value : Expr} {pos pos' tpos : Pos} {td ty tv : TE}
theorem pe_dget (hu : X.A.units + 1 < cLine) (ho : PE X o td) (hi : PE X i ty) (hs : NoSl i) : PE X (.Subscript o i pos) (tDGet td ty) := by
  intro pins s σ H Q I h
  refine subD_of PySem.F.slot_dict_getitem.lookup hs (thn (ho pins s σ H _ I h) fun u s1 ⟨x, H1, I1, rx, q1⟩ => thn (hi pins s1 σ H1 _ I1 q1) fun iv s2 ⟨y, H2, I2, ry, a, v, ex, g, q2⟩ => ?_)
  subst ex
  obtain rfl : u = Value.ref a := rx
  exact ⟨dict_typeIs I2 g, d_getItem hu I2 g ry fun w' s3 I3 rw' => ⟨v, H2, I3, rw', q2⟩⟩
theorem pc_dnotin (hu : X.A.units + 1 < cLine) (hi : PE X i ty) (ho : PE X o td) : PC X .NotIn i o (tDNotIn ty td) := by
  intro pins s σ H Q I h
  refine thn (hi pins s σ H _ I h) fun iv s1 ⟨y, H1, I1, ry, q1⟩ => thn (ho pins s1 σ H1 _ I1 q1) fun u s2 ⟨x, H2, I2, rx, a, ov, ex, g, q2⟩ => ?_
  subst ex
  obtain rfl : u = Value.ref a := rx
  exact d_notIn hu I2 g ry fun s3 I3 => ⟨.bl (!ov.isSome), H2, I3, rfl, q2⟩
theorem ps_dput (hu : X.A.units + 1 < cLine) (ho : PE X o td) (hi : PE X i ty) (hv : PE X value tv) (hs : swapsWith value (some (.Subscript o i pos')) pos.line X.env = pure false) :
    PS X (.Assign [.Subscript o i pos'] value pos) (sDPut td ty tv) := by
  intro pins s σ H D I h
  refine wpAny_Assign_Subscript (thn (hv pins s σ H _ I h) fun r s1 ⟨v, H1, I1, rv, q1⟩ => thn (ho pins s1 σ H1 _ I1 q1) fun u s2 ⟨x, H2, I2, rx, q2⟩ => thn (hi pins s2 σ H2 _ I2 q2) fun iv s3 ⟨y, H3, I3, ry, a, H4, ex, g, q3⟩ => ?_) hs
  subst ex
  obtain rfl : u = Value.ref a := rx
  exact d_setItem hu I3 g ry rv fun s4 I4 => ⟨σ, H4, I4, q3⟩
end
/-! ### displays -/
theorem dk_empty {P : Program} {w : World} {H : Hp} (h : Heap) (hb : sysModules < h.objs.size) : ObjOk P w H (h.push { cls := .type "dict", data := .dict #[] }) h.objs.size (.dK []) :=
  ⟨Nat.zero_le _, beq_eq_false_iff_ne.mpr (Ne.symm (Nat.ne_of_lt hb)), [], .nil, Heap.DictOf.new h⟩
theorem dt_empty {P : Program} {w : World} {H : Hp} (h : Heap) (hb : sysModules < h.objs.size) : ObjOk P w H (h.push { cls := .type "dict", data := .dict #[] }) h.objs.size (.dT []) :=
  ⟨Nat.zero_le _, beq_eq_false_iff_ne.mpr (Ne.symm (Nat.ne_of_lt hb)), [], .nil, _, #[], 0, Heap.get?_push_size _ rfl, ⟨rfl, rfl, rfl⟩, rfl, rfl, List.nodup_nil⟩
/-- {}, to be a dict of the kind that is wanted -/
def tDNewK : TE := fun _ H Q => ∀ p, H p = none → Q (.ref p) (upd H p (.dK []))
def tDNewT : TE := fun _ H Q => ∀ p, H p = none → Q (.ref p) (upd H p (.dT []))
section
variable {X : Cx} {pos : Pos}
theorem pe_dnewK : PE X (.Dict [] [] pos) tDNewK := fun pins s σ H Q I h =>
  wpAny_Dict_empty ⟨.ref s.heap.objs.size, _, I.laid (a := s.heap.objs.size) (o := .dK []) (t' := s.toks) (fun _ _ q => Heap.get?_push_of_some _ q) (Nat.le_refl _) (dk_empty s.heap I.big), rfl, h _ (I.hok.fresh (Nat.le_refl _))⟩
theorem pe_dnewT : PE X (.Dict [] [] pos) tDNewT := fun pins s σ H Q I h =>
  wpAny_Dict_empty ⟨.ref s.heap.objs.size, _, I.laid (a := s.heap.objs.size) (o := .dT []) (t' := s.toks) (fun _ _ q => Heap.get?_push_of_some _ q) (Nat.le_refl _) (dt_empty s.heap I.big), rfl, h _ (I.hok.fresh (Nat.le_refl _))⟩
end
/-- the pairs of a display, from the left -/
def tPairs : List (TE × TE) → St → Hp → (List (V × V) → Hp → Prop) → Prop
  | [], _, H, Q => Q [] H
  | (tk, tv) :: r, σ, H, Q => tk σ H fun x H1 => tv σ H1 fun y H2 => tPairs r σ H2 fun ps H3 => Q ((x, y) :: ps) H3
abbrev VV : List (V × V) → List (Value × Value) → Prop := Paired fun p q => RelV p.1 q.1 ∧ RelV p.2 q.2
def PPs (X : Cx) (pos : Pos) (keys : List (Option Expr)) (values : List Expr) (trs : List (TE × TE)) : Prop :=
  ∀ (pins : List (Addr × Obj)) (s : Shared) (σ : St) (H : Hp) (Q : List (V × V) → Hp → Prop), Inv X pins σ H s → tPairs trs σ H Q →
    wpAny (model X.prog X.w) X.A (evalPairs (pairTrees keys values X.env pos)) (fun vs s' => ∃ ps H', Inv X pins σ H' s' ∧ VV ps vs ∧ Q ps H') X.xe s
theorem pps_nil {X : Cx} {pos : Pos} : PPs X pos [] [] [] := fun pins s σ H Q I h => pairTrees_nil_walk ⟨[], H, I, .nil, h⟩
theorem pps_cons {X : Cx} {pos : Pos} {k v : Expr} {ks : List (Option Expr)} {vs : List Expr} {tk tv : TE} {trs : List (TE × TE)} (hk : PE X k tk) (hv : PE X v tv) (hr : PPs X pos ks vs trs) :
    PPs X pos (some k :: ks) (v :: vs) ((tk, tv) :: trs) := fun pins s σ H Q I h =>
  pairTrees_cons_walk (thn (hk pins s σ H _ I h) fun u s1 ⟨x, H1, I1, rx, q1⟩ => thn (hv pins s1 σ H1 _ I1 q1) fun w2 s2 ⟨y, H2, I2, ry, q2⟩ =>
    thn (hr pins s2 σ H2 _ I2 q2) fun ws s3 ⟨ps, H3, I3, rel, q3⟩ => ⟨(x, y) :: ps, H3, I3, .cons ⟨rx, ry⟩ rel, q3⟩)
def mergeK (kvs more : List (Key × V)) : List (Key × V) := more.foldl (fun acc kv => putK acc kv.1 kv.2) kvs
theorem KV.merge : ∀ {more : List (Key × V)} {rs : List (Key × Value)} {kvs : List (Key × V)} {vs : List (Key × Value)}, KV more rs → KV kvs vs → KV (mergeK kvs more) (merged vs rs) := by
  intro more rs kvs vs r
  unfold KV at r
  induction r generalizing kvs vs with
  | nil => intro q; exact q
  | @cons p q ps qs h t ih =>
    intro r0
    have e : KV (putK kvs p.1 p.2) (stored vs q.1 q.2) := by
      have := r0.put p.1 h.2
      rw [← h.1]; exact this
    exact ih e
theorem length_mergeK : ∀ (more kvs : List (Key × V)), (mergeK kvs more).length ≤ kvs.length + more.length
  | [], kvs => by show kvs.length ≤ kvs.length + 0; omega
  | p :: r, kvs => by
    have h1 := length_mergeK r (putK kvs p.1 p.2)
    have h2 := length_putK kvs p.1 p.2
    show (mergeK (putK kvs p.1 p.2) r).length ≤ _
    rw [List.length_cons]; omega
theorem carries_of {P : Program} {w : World} : ∀ {kvs : List (Key × V)} {ws : List (Value × Value)}, VV (kvs.map fun kv => (kV kv.1, kv.2)) ws → ∃ rs, Carries (mixKind P w) ws rs ∧ KV kvs rs
  | [], _, r => by rw [List.map_nil] at r; cases r; exact ⟨[], True.intro, .nil⟩
  | p :: kvs, _, r => by
    rw [List.map_cons] at r
    cases r with
    | @cons a b as bs h t =>
      obtain ⟨rs, c, q⟩ := carries_of (P := P) (w := w) t
      obtain ⟨b1, b2⟩ := b
      exact ⟨(p.1, b2) :: rs, ⟨kV_is h.1, rfl, c⟩, .cons ⟨rfl, h.2⟩ q⟩
/-- {k: v, ..} with keys ints and texts; the new dict stands empty while the pairs are made -/
def tDisp (trs : List (TE × TE)) : TE := fun σ H Q => ∀ p, H p = none → tPairs trs σ (upd H p (.dK [])) fun ps H2 => H2 p = some (.dK []) ∧ ∃ kvs : List (Key × V), ps = kvs.map (fun kv => (kV kv.1, kv.2)) ∧ kvs.length ≤ 15 ∧ Q (.ref p) (upd H2 p (.dK (mergeK [] kvs)))
theorem pe_disp {X : Cx} {pos : Pos} {keys : List (Option Expr)} {values : List Expr} {trs : List (TE × TE)} (h : PPs X pos keys values trs) (hall : keys.all (·.isSome) = true) (hl : keys.length = values.length) (h0 : keys ≠ [])
    (h15 : keys.length ≤ 15) : PE X (.Dict keys values pos) (tDisp trs) := by
  intro pins s σ H Q I q
  have hn := I.hok.fresh (Nat.le_refl s.heap.objs.size)
  have I1 := I.laid (a := s.heap.objs.size) (o := .dK []) (h' := s.heap.push { cls := .type "dict", data := .dict #[] }) (t' := s.toks) (fun _ _ q => Heap.get?_push_of_some _ q) (Nat.le_refl _) (dk_empty s.heap I.big)
  refine wpAny_Dict_walk (knd := mixKind X.prog X.w) hall hl h0 h15 (thn (h pins _ σ _ _ I1 (q _ hn)) fun ws s2 ⟨ps, H2, I2, rel, e, kvs, ep, lk, q2⟩ => ?_)
  subst ep
  obtain ⟨rs, c, rk⟩ := carries_of (P := X.prog) (w := X.w) rel
  obtain ⟨z, hd, vs0, r0, dd⟩ := dk_of I2.hok e
  cases r0
  refine ⟨rs, c, dd, fun h' dd' hs => ⟨.ref s.heap.objs.size, _, ?_, rfl, q2⟩⟩
  have hz : (mergeK [] kvs).length ≤ sizeLine := by
    have h1 := length_mergeK kvs []
    rw [List.length_nil] at h1
    rw [sizeLine_eq]; omega
  have he : ∃ q, h'.get? s.heap.objs.size = some q := let ⟨q, _, _, hq, _⟩ := dd'; ⟨q, hq⟩
  exact d_write I2 (by rw [e]; exact True.intro) hs he (dk_new hz hd (rk.merge .nil) dd')
/-! ### methods -/
section
variable {X : Cx} {pins : List (Addr × Obj)} {σ : St} {H : Hp} {s : Shared} {a : Addr} {y d : V} {u r : Value} {o : Option V} {A : Around} {E : Value → Shared → Prop}
end
section
variable {X : Cx} {o e f : Expr} {apos cpos : Pos} {td ty tx : TE}
end
/-! ### dict(d): a copy -/
section
variable {X : Cx} {pins : List (Addr × Obj)} {σ : St} {H : Hp} {s : Shared} {a : Addr} {kvs : List (Key × V)} {A : Around} {E : Value → Shared → Prop}
end
section
variable {X : Cx} {pins : List (Addr × Obj)} {σ : St} {H : Hp} {s : Shared} {a : Addr} {y : V} {u : Value} {A : Around} {E : Value → Shared → Prop}
end
end L2
namespace L2
open PySem PySem.Spec PyProof.Rows
section
variable {prog : Program} {w : World} {A : Around} {E : Value → Shared → Prop}
end
section
variable {X : Cx}
end
end L2
namespace L2
open PySem PySem.Spec PyProof.Rows
section
variable {X : Cx} {pins : List (Addr × Obj)} {σ : St} {H : Hp} {s : Shared} {h' : Heap}
/-! ### locking a thing while a statement runs -/
end
section
variable {X : Cx}
/-! ### one iterator just laid -/
end
/-! ### range with a step -/
section
variable {X : Cx} {tg : Expr}
end
/-! ### reversed(list) -/
section
variable {X : Cx} {tg : Expr}
end
/-! ### a str -/
/-! ### a dict's keys: any dict's entries -/
section
variable {prog : Program} {w : World} {A : Around} {E : Value → Shared → Prop} {s : Shared}
end
/-! ### a locked dict -/
section
variable {X : Cx} {pins : List (Addr × Obj)} {σ : St} {H : Hp} {s : Shared} {d : Addr} {o : Obj}
end
section
variable {P : Program} {w : World} {K : PySem.W.Frag} {tg : Expr} {d : Addr} {o : Obj} {es : Array DictEntry} {ep : Nat}
end
/-! ### for k in d, d.keys(), d.values(), d.items() -/
section
variable {X : Cx} {tg e : Expr} {td : TE} {apos cpos : Pos}
end
/-! ### enumerate(list) -/
/-! ### zip(list, list) -/
end L2
section 
namespace Bits
open PySem PyProof.Rows
end Bits
end 
section 
namespace TL
open PySem PySem.Builtin PySem.Builtin.Str PySem.StrLaws
/-! ### the list functions -/
/-! ### the model's split and partition are these -/
/-! ### computing spl and par -/
/-! ### digits -/
/-! ### words: x.split() -/
end TL
end 
namespace L2
open PySem PySem.Spec PyProof.Rows
section
variable {X : Cx} {pins : List (Addr × Obj)} {σ : St} {H : Hp} {s : Shared} {Q : VK}
end
section
variable {X : Cx}
/-! ### of a text alone -/
/-! ### of a text and a text -/
end
section
variable {X : Cx} {o e : Expr} {to te : TE}
end
end L2
namespace L2
open PySem PySem.Spec PyProof.Rows
section
variable {X : Cx}
end
/-! ### slices of a text -/
end L2
namespace Att
open PySem PySem.W PySem.Calls PyProof.Rows
/-! ### the script -/
/-! ### the attachment: holds_open's last premise (the goal 'hc' behind k_head) from a wpAny of the law's body -/
/-! ### rules over ANY heap (no ledger) from facts about the written part K: the library's own take a ledger (News) for what they write -/
section
variable {prog : Program} {w : World} {A : Around} {E : Value → Shared → Prop} {s : Shared} {K : Frag}
/-! the whole heap as the ledger: makes every rule that writes through a ledger a rule over any heap -/
end
end Att
namespace L2
open PySem PySem.Spec PyProof.Rows
end L2
namespace L2
open PySem PySem.Spec PyProof.Rows
end L2
/- THE LAST THEOREM (shape; LID, My.* are yours):
   My.Adr: a structure of the addresses that your layer names (classes, functions); My.Txt K t: a structure (Prop) of the equations over K;
   My.txt_mk : {K} {implicit addresses ..} (e1 : nsIn K mainGlobals "law" = some (some (.ref f))) (e2 : K.lookup f = some ⟨oc, od, .func (fnOf "law" "law" params body scope dV kV doc pm an cdv ct), sl⟩) (e3 : codeIn K cdv "law" = true) .. : ∃ t, My.Txt K t
set_option maxRecDepth 100000 in
set_option maxHeartbeats 0 in
theorem PySem.Challenge.cw_LID_holds : PySem.Challenge.rw_LID.Holds := by
  w_on; o_law; k_head; (case hw => w_witness2)
  k_fill
  refine L2.walk_of (l := PySem.Challenge.rw_LID) (n := 63) (k := 40) (x := "script") (CX := fun w => ..) (sp := fun _ => My.sp_law) rfl (by decide) rfl ⟨rfl, by decide, by decide⟩ (fun w h Y => PySem.W.kIn_of Y) ?F ?S ?C
  case F =>
    intro w mg fa h KX G hmg
    have T : ∃ t, My.Txt (L2.KOf KX) t := by
      dsimp only [L2.KOf]                          -- K must stand as «<heap const> w.params» for k_is
      refine' My.txt_mk ?e1 ?e2 ?e3 ..
      (case e1 => PySem.W.k_is)                    -- in the order: a name -> its address -> its object -> its parts
      (case e2 => PySem.W.k_is)
      ..
    obtain ⟨t, T⟩ := T
    have e0 := hmg.symm.trans (PySem.W.mg_of KX G T.law)
    cases e0                                       -- fa is the law's own address
    exact ⟨_, fun s u => .of_eq rfl, fun base kb nb => My.law_fn T kb nb⟩     -- if «.of_eq rfl» comes too early: refine' ⟨_, ?b, fun base kb nb => My.law_fn T kb nb⟩; exact fun s u => .of_eq rfl
  case S => exact fun w H a ns hl hO hS => ..
  case C => exact ..
(the tactic k_is has no namespace: write k_is) -/
/-! SHORT WORDS over the layer: a def of the text, its body, what a loop and a test want. -/
namespace L2
open PySem PySem.Spec PyProof.Rows
/-! ### the text by places -/
def defArgs (s : Stmt) : Arguments := match s with
  | .FunctionDef _ a _ _ _ _ _ _ _ _ => a
  | _ => { posonlyargs := [], args := [], vararg := none, kwonlyargs := [], kw_defaults := [], kwarg := none, defaults := [] }
def defBody (s : Stmt) : List Stmt := match s with
  | .FunctionDef _ _ b _ _ _ _ _ _ _ => b
  | _ => []
def defScope (s : Stmt) : Scope := match s with
  | .FunctionDef _ _ _ _ _ _ sc _ _ _ => sc
  | _ => { kind := .function, names := [], isGenerator := false, isCoroutine := false }
/-! ### no exception leaves a def -/
abbrev CX0 : CXT := fun _ _ _ _ _ _ => False
abbrev E0 : XK := fun _ _ _ => False
theorem pass0 {X : Cx} : Passes CX0 X E0 := fun _ _ _ _ _ _ _ h => h.elim
/-! ### a def (or method) of the text as it stands behind the top -/
structure Fun (K : PySem.W.Frag) (x qual : Str) (st : Stmt) (f : Addr) (fd : FuncData) : Prop where
  ex : ∃ (oc : Value) (od : Option Addr) (kV doc pm : Value) (an : Option Addr) (cdv ct : Value) (osl : Array (Option Value)),
    fd = PySem.W.fnOf x qual (defArgs st) (defBody st) (defScope st) .none kV doc pm an cdv ct ∧ K.lookup f = some ⟨oc, od, .func fd, osl⟩ ∧ PySem.W.codeIn K cdv qual = true
  kp : PySem.W.keepIn K (.ref f) = true
section
variable {P : Program} {w : World} {K : PySem.W.Frag} {mg : Str → Option Value} {base : Heap}
/-- THE RULE for a def: its body as a term of rules, and the reading of that term -/
theorem Fun.ok {x qual : Str} {st : Stmt} {f : Addr} {fd : FuncData} {N ps : List Str} {k : Nat} {sp : Sp} (F : Fun K x qual st f fd) (S : FnScope N ps (defScope st)) (len : ∀ vs H Q E, sp vs H Q E → vs.length = ps.length)
    (hbody : ∀ (cdv : Value) (A : Around) (outer : List Env) (s : Shared) (H : Hp) (vs : List V) (Q : VK) (E : XK), Room k (A.deeper (envOfC qual (defScope st) s.heap.objs.size f cdv)) → sp vs H Q E →
      ∃ t, PSs (cxOf CX0 P w K mg base N qual (defScope st) f cdv A outer s H E).nox (defBody st) t ∧ t { nx := fun _ H' => Q .non H', rt := Q } (start N vs) H) : FnOk P w K mg base CX0 (k + 1) f fd ps sp := by
  obtain ⟨oc, od, kV, doc, pm, an, cdv, ct, osl, rfl, lk, hcd⟩ := F.ex
  refine fn_of lk hcd S len fun A outer s H vs Q E hr hsp => ?_
  obtain ⟨t, h, q⟩ := hbody cdv A outer s H vs Q E hr hsp
  exact ⟨t, h.nox, q⟩
/-- how its arguments bind (no defaults): h is «fun _ _ _ _ _ _ us hl => match us, hl with | [_, _], _ => rfl», one _ a parameter -/
theorem Fun.binds {x qual : Str} {st : Stmt} {f : Addr} {fd : FuncData} {ps : List Str} (F : Fun K x qual st f fd)
    (h : ∀ (kV doc pm : Value) (an : Option Addr) (cdv ct : Value) (us : List Value), us.length = ps.length → bindArgs (PySem.W.fnOf x qual (defArgs st) (defBody st) (defScope st) .none kV doc pm an cdv ct) ⟨us, []⟩ = pure (ps.zip us)) : Binds K fd ps [] := by
  obtain ⟨oc, od, kV, doc, pm, an, cdv, ct, osl, rfl, lk, hcd⟩ := F.ex
  exact .all (h kV doc pm an cdv ct)
theorem fun_mk {x qual : Str} {st : Stmt} {f : Addr} {oc : Value} {od an : Option Addr} {osl : Array (Option Value)} {kV doc pm cdv ct : Value} (l : K.lookup f = some ⟨oc, od, .func (PySem.W.fnOf x qual (defArgs st) (defBody st) (defScope st) .none kV doc pm an cdv ct), osl⟩)
    (c : PySem.W.codeIn K cdv qual = true) (k : PySem.W.keepIn K (.ref f) = true) : Fun K x qual st f (PySem.W.fnOf x qual (defArgs st) (defBody st) (defScope st) .none kV doc pm an cdv ct) := ⟨⟨oc, od, kV, doc, pm, an, cdv, ct, osl, rfl, l, c⟩, k⟩
end
theorem hu_of {A : Around} {k : Nat} (hr : Room k A) : A.units + 1 < cLine := Nat.lt_of_le_of_lt (Nat.add_le_add_left (by decide : 1 ≤ 64) _) hr.units
/-! ### expressions in short: the name that stands in the i-th slot -/
section
variable {X : Cx}
theorem pv (i : Nat) {x : Str} {pos : Pos} (hN : X.N[i]? = some x := by rfl) (hv : Vis X.env.scope x := by first | exact Or.inl rfl | exact Or.inr (Or.inl rfl) | exact Or.inr (Or.inr rfl)) (hd : (x == ("__debug__" : Str)) = false := by decide)
    (hcd : (x == ("__classdict__" : Str)) = false := by decide) : PE X (.Name x pos) (tVar i) := pe_var hN hv hd hcd
end
/-! ### tests -/
theorem iteF {A B : Prop} (h : B) : if false = true then A else B := by
  rw [if_neg Bool.false_ne_true]
  exact h
theorem iteT {A B : Prop} (h : A) : if true = true then A else B := by
  rw [if_pos rfl]
  exact h
theorem ite2 {c A B : Prop} [Decidable c] (h1 : c → A) (h2 : ¬ c → B) : if c then A else B := by
  by_cases h : c
  · rw [if_pos h]
    exact h1 h
  · rw [if_neg h]
    exact h2 h
theorem iteNS {c A B : Prop} [Decidable c] (hc : c) (h : B) : if (!decide c) = true then A else B := by
  rw [decide_eq_true hc]
  exact iteF h
/-! ### heaps -/
/-- all that was tracked is as it was -/
def Same (H H' : Hp) : Prop := ∀ b o, H b = some o → H' b = some o
theorem Same.refl (H : Hp) : Same H H := fun _ _ h => h
theorem Same.trans {H H1 H2 : Hp} (a : Same H H1) (b : Same H1 H2) : Same H H2 := fun c o h => b c o (a c o h)
theorem Same.free {H H' : Hp} (e : Same H H') {l : Addr} (h : H' l = Option.none) : H l = Option.none := by
  cases q : H l with
  | none => rfl
  | some o =>
    rw [e l o q] at h
    cases h
theorem Same.seq {K : PySem.W.Frag} {H H' : Hp} {a : Addr} {xs : List V} (e : Same H H') (h : SqL K H a xs) : SqL K H' a xs := by
  rcases h with (h | ⟨o, h⟩) | h
  · exact .inl (.inl (e _ _ h))
  · exact .inl (.inr ⟨o, e _ _ h⟩)
  · exact .inr h
/-! ### a dict's pairs: keys that differ -/
section
variable {κ : Type} [DecidableEq κ]
theorem valV_not {kvs : List (κ × V)} {k : κ} (h : valV kvs k = none) : ¬ k ∈ kvs.map (·.1) := by
  intro m
  obtain ⟨p, hp, e⟩ := List.mem_map.mp m
  have q : (kvs.any fun kv => decide (kv.1 = k)) = true := List.any_eq_true.mpr ⟨p, hp, decide_eq_true e⟩
  rw [valV_any, h] at q
  exact absurd q (by simp)
theorem nd_snoc : ∀ {l : List κ} {k : κ}, l.Nodup → ¬ k ∈ l → (l ++ [k]).Nodup
  | [], k, _, _ => by simp
  | a :: r, k, h, hk => by
    obtain ⟨h1, h2⟩ := List.nodup_cons.mp h
    show (a :: (r ++ [k])).Nodup
    refine List.nodup_cons.mpr ⟨fun m => ?_, nd_snoc h2 fun m => hk (List.mem_cons.mpr (Or.inr m))⟩
    rcases List.mem_append.mp m with q | q
    · exact h1 q
    · exact hk (List.mem_cons.mpr (Or.inl (List.mem_singleton.mp q).symm))
theorem nd_putK {kvs : List (κ × V)} {k : κ} (v : V) (hn : (kvs.map (·.1)).Nodup) (h : valV kvs k = none) : ((putK kvs k v).map (·.1)).Nodup := by
  rw [putK_new v h, List.map_append]
  exact nd_snoc hn (valV_not h)
end
/-! ### lists -/
end L2
end
section
set_option Elab.async false
set_option linter.all false
set_option maxRecDepth 100000
set_option maxHeartbeats 2000000
namespace L2
open PySem PySem.Spec PyProof.Rows
open PySem.W (WData Codec OpenSpec Well WellAll ReadsW ReadsAllW)
/-! ### an answer as data -/
mutual
/-- x stands for the datum d, lists and tuples all the way -/
inductive Dw (K : PySem.W.Frag) (H : Hp) : V → WData → Prop
  | non : Dw K H .non .none
  | bl (b : Bool) : Dw K H (.bl b) (.bool b)
  | int (i : Int) : Dw K H (.int i) (.int i)
  | str (x : Str) : Dw K H (.str x) (.str x)
  | byt (b : Array UInt8) : Dw K H (.byt b) (.bytes b.toList)
  | lst {a : Addr} {xs : List V} {ds : List WData} : SqL K H a xs → DwAll K H xs ds → Dw K H (.ref a) (.list ds)
  | tup {a : Addr} {xs : List V} {ds : List WData} : SqT K H a xs → DwAll K H xs ds → Dw K H (.ref a) (.tuple ds)
inductive DwAll (K : PySem.W.Frag) (H : Hp) : List V → List WData → Prop
  | nil : DwAll K H [] []
  | cons {v : V} {vs : List V} {d : WData} {ds : List WData} : Dw K H v d → DwAll K H vs ds → DwAll K H (v :: vs) (d :: ds)
end
theorem dw_ints {K : PySem.W.Frag} {H : Hp} : ∀ ns : List Int, DwAll K H (ns.map V.int) (ns.map WData.int)
  | [] => .nil
  | n :: r => .cons (.int n) (dw_ints r)
theorem ints_dw {K : PySem.W.Frag} {H : Hp} : ∀ (ns : List Int) (xs : List V), DwAll K H xs (ns.map WData.int) → xs = ns.map V.int
  | [], xs, h => by
    cases h
    rfl
  | n :: r, xs, h => by
    cases h with
    | cons h1 h2 =>
      cases h1
      rw [ints_dw r _ h2] <;> rfl
section
variable {P : Program} {w : World} {K : PySem.W.Frag} {H : Hp} {h : Heap} {R : PySem.W.WRecords} {cl : Str → Option Addr}
theorem sqL_at {a : Addr} {xs : List V} (hok : HOk P w H h) (KX : K.In h) (q : SqL K H a xs) : ∃ (its : List Value) (o : Obj) (n : Nat), Vals xs its ∧ h.get? a = some o ∧ o.cls = .type "list" ∧ o.data = .seq its.toArray n := by
  rcases q with q | ⟨o, its, n, e, hc, _, hd, _, hv⟩
  · obtain ⟨_, its, n, hv, e⟩ := (show ObjOk P w H h a (.lst xs) from q.ok hok)
    exact ⟨its, _, n, hv, e, rfl, rfl⟩
  · exact ⟨its.toList, o, n, hv, KX _ _ e, hc, by simp [hd]⟩
theorem sqT_at {a : Addr} {xs : List V} (hok : HOk P w H h) (KX : K.In h) (q : SqT K H a xs) : ∃ (its : List Value) (o : Obj) (n : Nat), Vals xs its ∧ h.get? a = some o ∧ o.cls = .type "tuple" ∧ o.data = .seq its.toArray n := by
  rcases q with q | ⟨o, its, n, e, hc, hd, _, hv⟩
  · obtain ⟨_, its, hv, o, e, hc, n, hd⟩ := (show ObjOk P w H h a (.tup xs) from q.ok hok)
    exact ⟨its, o, n, hv, e, hc, hd⟩
  · exact ⟨its.toList, o, n, hv, KX _ _ e, hc, by simp [hd]⟩
mutual
theorem Dw.reads (hok : HOk P w H h) (KX : K.In h) : ∀ (d : WData) (v : V) (u : Value), Dw K H v d → RelV v u → ∃ as, ReadsW R cl h u d as
  | .none, _, _, x, r => by
    cases x
    cases r
    exact ⟨_, ReadsW.none⟩
  | .bool b, _, _, x, r => by
    cases x
    cases r
    exact ⟨_, ReadsW.bool b⟩
  | .int i, _, _, x, r => by
    cases x
    obtain ⟨t, rfl⟩ := r
    exact ⟨_, ReadsW.int i t⟩
  | .str s, _, _, x, r => by
    cases x
    obtain ⟨t, rfl⟩ := r
    exact ⟨_, ReadsW.str s t⟩
  | .bytes b, _, _, x, r => by
    cases x
    obtain ⟨t, rfl⟩ := r
    exact ⟨_, ReadsW.bytes _ t⟩
  | .list ds, _, _, x, r => by
    cases x with
    | lst hs ha =>
      cases r
      obtain ⟨its, o, n, rv, ho, hc, hd⟩ := sqL_at hok KX hs
      obtain ⟨as, hr⟩ := Dw.readsAll hok KX ds _ its ha rv
      exact ⟨_, ReadsW.list ho hc hd hr⟩
  | .tuple ds, _, _, x, r => by
    cases x with
    | tup hs ha =>
      cases r
      obtain ⟨its, o, n, rv, ho, hc, hd⟩ := sqT_at hok KX hs
      obtain ⟨as, hr⟩ := Dw.readsAll hok KX ds _ its ha rv
      exact ⟨_, ReadsW.tuple ho hc hd hr⟩
  | .float _, _, _, x, _ => by cases x
  | .dict _, _, _, x, _ => by cases x
  | .bytearray _, _, _, x, _ => by cases x
  | .set _, _, _, x, _ => by cases x
  | .frozenset _, _, _, x, _ => by cases x
  | .obj _ _, _, _, x, _ => by cases x
theorem Dw.readsAll (hok : HOk P w H h) (KX : K.In h) : ∀ (ds : List WData) (vs : List V) (us : List Value), DwAll K H vs ds → Vals vs us → ∃ as, ReadsAllW R cl h us ds as
  | [], _, _, x, r => by
    cases x
    cases r
    exact ⟨_, ReadsAllW.nil⟩
  | d :: ds, _, _, x, r => by
    cases x with
    | cons h1 h2 =>
      cases r with
      | cons r1 r2 =>
        obtain ⟨as, q1⟩ := Dw.reads hok KX d _ _ h1 r1
        obtain ⟨bs, q2⟩ := Dw.readsAll hok KX ds _ _ h2 r2
        exact ⟨_, ReadsAllW.cons q1 q2⟩
end
end
/-! ### the arguments -/
mutual
/-- data that a codec tells -/
def plW : WData → Bool
  | .none => true
  | .bool _ => true
  | .int _ => true
  | .str _ => true
  | .bytes _ => true
  | .list xs => plWs xs
  | .tuple xs => plWs xs
  | _ => false
def plWs : List WData → Bool
  | [] => true
  | x :: r => plW x && plWs r
end
theorem plWs_map {α : Type} {f : α → WData} (h : ∀ a, plW (f a) = true) : ∀ l : List α, plWs (l.map f) = true
  | [] => rfl
  | x :: r => by
    show (plW (f x) && plWs (r.map f)) = true
    rw [h x, plWs_map h r] <;> rfl
theorem pl_enc : ∀ (c : Codec) (a : c.denote), plW (c.enc a) = true
  | .unit, _ => rfl
  | .bool, _ => rfl
  | .int _ _, _ => rfl
  | .nat _ _, _ => rfl
  | .u8, _ => rfl
  | .bytes _ _, _ => rfl
  | .text _ _ _ _, _ => rfl
  | .list _ _ c, a => plWs_map (fun x => pl_enc c x) a
  | .pair c d, a => by
    show (plW (c.enc a.1) && (plW (d.enc a.2) && true)) = true
    rw [pl_enc c a.1, pl_enc d a.2] <;> rfl
  | .triple c d e, a => by
    show (plW (c.enc a.1) && (plW (d.enc a.2.1) && (plW (e.enc a.2.2) && true))) = true
    rw [pl_enc c a.1, pl_enc d a.2.1, pl_enc e a.2.2] <;> rfl
  | .option c, none => rfl
  | .option c, some x => pl_enc c x
theorem pl_encAll : ∀ (cs : List Codec) (a : Codec.denoteAll cs), plWs (Codec.encAll cs a) = true
  | [], _ => rfl
  | c :: cs, a => by
    show (plW (c.enc a.1) && plWs (Codec.encAll cs a.2)) = true
    rw [pl_enc c a.1, pl_encAll cs a.2] <;> rfl
theorem weight_mem : ∀ {xs : List WData} {d : WData}, d ∈ xs → d.weight ≤ WData.weightAll xs
  | [], d, h => absurd h (by simp)
  | x :: r, d, h => by
    show d.weight ≤ x.weight + 1 + WData.weightAll r
    rcases List.mem_cons.mp h with e | m
    · rw [e]
      omega
    · have z := weight_mem m
      omega
def toV : Value → V
  | .none => .non
  | .bool b => .bl b
  | .int i _ => .int i
  | .str x _ => .str x
  | .bytes b _ => .byt b
  | .ref a => .ref a
  | _ => .non
/-- a value of the arguments, its objects among A -/
def OkU (A : List Addr) : Value → Prop
  | .none => True
  | .bool _ => True
  | .int _ _ => True
  | .str _ _ => True
  | .bytes _ _ => True
  | .ref a => a ∈ A
  | _ => False
theorem OkU.mono {A B : List Addr} (h : ∀ a ∈ A, a ∈ B) : ∀ {u : Value}, OkU A u → OkU B u := fun {u} x => by
  cases u with
  | ref a => exact h a x
  | none => trivial
  | bool b => trivial
  | int i t => trivial
  | str s t => trivial
  | bytes b t => trivial
  | _ => exact False.elim x
theorem relV_toV {A : List Addr} {u : Value} (x : OkU A u) : RelV (toV u) u := by
  cases u with
  | ref a => rfl
  | none => rfl
  | bool b => rfl
  | int i t => exact ⟨t, rfl⟩
  | str s t => exact ⟨t, rfl⟩
  | bytes b t => exact ⟨t, rfl⟩
  | _ => exact False.elim x
theorem vals_toV {A : List Addr} : ∀ {vs : List Value}, (∀ u ∈ vs, OkU A u) → Vals (vs.map toV) vs
  | [], _ => .nil
  | u :: r, h => .cons (relV_toV (h u (List.mem_cons_self ..))) (vals_toV fun x hx => h x (List.mem_cons_of_mem _ hx))
/-- an object of the arguments -/
def ArgOb (h : Heap) (A : List Addr) (a : Addr) : Prop := ∃ vs : List Value, vs.length ≤ sizeLine ∧ (∀ u ∈ vs, OkU A u) ∧
  (h.get? a = some { cls := .type "list", data := .seq vs.toArray } ∨ h.get? a = some { cls := .type "tuple", data := .seq vs.toArray })
theorem ArgOb.mono {h : Heap} {A B : List Addr} {a : Addr} (k : ∀ a ∈ A, a ∈ B) (x : ArgOb h A a) : ArgOb h B a := by
  obtain ⟨vs, h1, h2, h3⟩ := x
  exact ⟨vs, h1, fun u hu => (h2 u hu).mono k, h3⟩
theorem wellAll_len {P : Params} {h : Heap} : ∀ {vs : List Value} {ds : List WData}, WellAll P h vs ds → vs.length = ds.length
  | _, _, .nil => rfl
  | _, _, .cons _ b => by
    show _ + 1 = _ + 1
    rw [wellAll_len b]
theorem well_list {P : Params} {h : Heap} {v : Value} {ds : List WData} (x : Well P h v (.list ds)) : ∃ (a : Addr) (vs : List Value), v = .ref a ∧ h.get? a = some { cls := .type "list", data := .seq vs.toArray } ∧ WellAll P h vs ds := by
  cases x with
  | list ho hall => exact ⟨_, _, rfl, ho, hall⟩
theorem well_tuple {P : Params} {h : Heap} {v : Value} {ds : List WData} (x : Well P h v (.tuple ds)) : ∃ (a : Addr) (vs : List Value), v = .ref a ∧ h.get? a = some { cls := .type "tuple", data := .seq vs.toArray } ∧ WellAll P h vs ds := by
  cases x with
  | tuple ho hall => exact ⟨_, _, rfl, ho, hall⟩
theorem well_cons {P : Params} {h : Heap} {us : List Value} {d : WData} {ds : List WData} (x : WellAll P h us (d :: ds)) : ∃ (v : Value) (vs : List Value), us = v :: vs ∧ Well P h v d ∧ WellAll P h vs ds := by
  cases x with
  | cons a b => exact ⟨_, _, rfl, a, b⟩
theorem line_of {n : Nat} (h : n ≤ 1048576) : n ≤ sizeLine := Nat.le_trans h (by decide)
section
variable {P : Params} {h : Heap}
mutual
theorem area_one : ∀ (d : WData) (v : Value), Well P h v d → plW d = true → d.weight ≤ 1048576 → ∃ A : List Addr, OkU A v ∧ ∀ a ∈ A, ArgOb h A a
  | .none, _, x, _, _ => by
    cases x
    exact ⟨[], trivial, fun a m => absurd m (by simp)⟩
  | .bool b, _, x, _, _ => by
    cases x
    exact ⟨[], trivial, fun a m => absurd m (by simp)⟩
  | .int i, _, x, _, _ => by
    cases x
    exact ⟨[], trivial, fun a m => absurd m (by simp)⟩
  | .str s, _, x, _, _ => by
    cases x
    exact ⟨[], trivial, fun a m => absurd m (by simp)⟩
  | .bytes b, _, x, _, _ => by
    cases x
    exact ⟨[], trivial, fun a m => absurd m (by simp)⟩
  | .list ds, _, x, p, z => by
    obtain ⟨a, vs, rfl, ho, hall⟩ := well_list x
    have z2 : WData.weightAll ds ≤ 1048576 := z
    obtain ⟨A, h1, h2⟩ := area_all ds _ hall p fun d hd => Nat.le_trans (weight_mem hd) z2
    have k : ∀ b ∈ A, b ∈ a :: A := fun b hb => List.mem_cons_of_mem _ hb
    refine ⟨a :: A, List.mem_cons_self .., fun b hb => ?_⟩
    rcases List.mem_cons.mp hb with e | m
    · rw [e]
      exact ⟨vs, line_of (by rw [wellAll_len hall]; exact Nat.le_trans (PySem.W.length_le_weightAllW ds) z2), fun u hu => (h1 u hu).mono k, .inl ho⟩
    · exact (h2 b m).mono k
  | .tuple ds, _, x, p, z => by
    obtain ⟨a, vs, rfl, ho, hall⟩ := well_tuple x
    have z2 : WData.weightAll ds ≤ 1048576 := z
    obtain ⟨A, h1, h2⟩ := area_all ds _ hall p fun d hd => Nat.le_trans (weight_mem hd) z2
    have k : ∀ b ∈ A, b ∈ a :: A := fun b hb => List.mem_cons_of_mem _ hb
    refine ⟨a :: A, List.mem_cons_self .., fun b hb => ?_⟩
    rcases List.mem_cons.mp hb with e | m
    · rw [e]
      exact ⟨vs, line_of (by rw [wellAll_len hall]; exact Nat.le_trans (PySem.W.length_le_weightAllW ds) z2), fun u hu => (h1 u hu).mono k, .inr ho⟩
    · exact (h2 b m).mono k
  | .float _, _, _, p, _ => Bool.noConfusion (show false = true from p)
  | .dict _, _, _, p, _ => Bool.noConfusion (show false = true from p)
  | .bytearray _, _, _, p, _ => Bool.noConfusion (show false = true from p)
  | .set _, _, _, p, _ => Bool.noConfusion (show false = true from p)
  | .frozenset _, _, _, p, _ => Bool.noConfusion (show false = true from p)
  | .obj _ _, _, _, p, _ => Bool.noConfusion (show false = true from p)
theorem area_all : ∀ (ds : List WData) (vs : List Value), WellAll P h vs ds → plWs ds = true → (∀ d ∈ ds, d.weight ≤ 1048576) → ∃ A : List Addr, (∀ u ∈ vs, OkU A u) ∧ ∀ a ∈ A, ArgOb h A a
  | [], _, x, _, _ => by
    cases x
    exact ⟨[], fun u m => absurd m (by simp), fun a m => absurd m (by simp)⟩
  | d :: ds, _, x, p, z => by
    obtain ⟨v, vs, rfl, x1, x2⟩ := well_cons x
    have q : plW d = true ∧ plWs ds = true := Bool.and_eq_true_iff.mp p
    obtain ⟨A, a1, a2⟩ := area_one d v x1 q.1 (z d (List.mem_cons_self ..))
    obtain ⟨B, b1, b2⟩ := area_all ds vs x2 q.2 fun e he => z e (List.mem_cons_of_mem _ he)
    have kA : ∀ b ∈ A, b ∈ A ++ B := fun b hb => List.mem_append.mpr (.inl hb)
    have kB : ∀ b ∈ B, b ∈ A ++ B := fun b hb => List.mem_append.mpr (.inr hb)
    refine ⟨A ++ B, fun u hu => ?_, fun b hb => ?_⟩
    · rcases List.mem_cons.mp hu with e | m
      · rw [e]
        exact a1.mono kA
      · exact (b1 u m).mono kB
    · rcases List.mem_append.mp hb with m | m
      · exact (a2 b m).mono kA
      · exact (b2 b m).mono kB
end
end
/-- what is tracked of an argument's object -/
def hoOf (o : Obj) : Option HO := match o.data with
  | .seq vs _ => if (o.cls == Value.type "list") = true then some (.frz o (.lst (vs.toList.map toV))) else some (.frz o (.tup (vs.toList.map toV)))
  | _ => none
def argH (K : PySem.W.Frag) (h : Heap) (A : List Addr) : Hp := fun b => if b ∈ A then (if (K.lookup b).isNone = true then (h.get? b).bind hoOf else none) else none
/-- nothing is tracked but what is known to the object -/
def OnlyF (H : Hp) : Prop := ∀ b, H b = none ∨ ∃ o u, H b = some (.frz o u)
theorem hoOf_lst (vs : List Value) : hoOf { cls := .type "list", data := .seq vs.toArray } = some (.frz { cls := .type "list", data := .seq vs.toArray } (.lst (vs.map toV))) := by
  show (if (Value.type "list" == Value.type "list") = true then some (HO.frz { cls := .type "list", data := .seq vs.toArray } (.lst (vs.toArray.toList.map toV))) else some (HO.frz { cls := .type "list", data := .seq vs.toArray } (.tup (vs.toArray.toList.map toV)))) = _
  rw [if_pos (beq_self_eq_true _)]
theorem hoOf_tup (vs : List Value) : hoOf { cls := .type "tuple", data := .seq vs.toArray } = some (.frz { cls := .type "tuple", data := .seq vs.toArray } (.tup (vs.map toV))) := by
  show (if (Value.type "tuple" == Value.type "list") = true then some (HO.frz { cls := .type "tuple", data := .seq vs.toArray } (.lst (vs.toArray.toList.map toV))) else some (HO.frz { cls := .type "tuple", data := .seq vs.toArray } (.tup (vs.toArray.toList.map toV)))) = _
  rw [if_neg (by decide)]
section
variable {P : Program} {w : World} {K : PySem.W.Frag} {h : Heap} {A : List Addr}
theorem argH_at {b : Addr} {o : Obj} (hb : b ∈ A) (hk : K.lookup b = none) (e : h.get? b = some o) : argH K h A b = hoOf o := by
  unfold argH
  rw [if_pos hb, hk, if_pos (show (none : Option Obj).isNone = true from rfl), e] <;> rfl
theorem of_argH {b : Addr} {u : HO} (q : argH K h A b = some u) : b ∈ A ∧ K.lookup b = none := by
  unfold argH at q
  by_cases hb : b ∈ A
  · rw [if_pos hb] at q
    cases hk : K.lookup b with
    | none => exact ⟨hb, rfl⟩
    | some o =>
      rw [hk, if_neg (by simp)] at q
      cases q
  · rw [if_neg hb] at q
    cases q
/-- what stands tracked -/
theorem argH_is (ar : ∀ a ∈ A, ArgOb h A a) {b : Addr} {u : HO} (q : argH K h A b = some u) : K.lookup b = none ∧ ∃ vs : List Value, vs.length ≤ sizeLine ∧ (∀ u ∈ vs, OkU A u) ∧
    ((h.get? b = some { cls := .type "list", data := .seq vs.toArray } ∧ u = .frz { cls := .type "list", data := .seq vs.toArray } (.lst (vs.map toV))) ∨
     (h.get? b = some { cls := .type "tuple", data := .seq vs.toArray } ∧ u = .frz { cls := .type "tuple", data := .seq vs.toArray } (.tup (vs.map toV)))) := by
  obtain ⟨hb, hk⟩ := of_argH q
  obtain ⟨vs, h1, h2, h3⟩ := ar b hb
  refine ⟨hk, vs, h1, h2, ?_⟩
  rcases h3 with e | e
  · rw [argH_at hb hk e, hoOf_lst] at q
    exact .inl ⟨e, (Option.some.inj q).symm⟩
  · rw [argH_at hb hk e, hoOf_tup] at q
    exact .inr ⟨e, (Option.some.inj q).symm⟩
theorem argH_only (ar : ∀ a ∈ A, ArgOb h A a) : OnlyF (argH K h A) := fun b => by
  cases q : argH K h A b with
  | none => exact .inl rfl
  | some u =>
    obtain ⟨_, vs, _, _, ⟨_, e⟩ | ⟨_, e⟩⟩ := argH_is ar q
    · exact .inr ⟨_, _, by rw [e]⟩
    · exact .inr ⟨_, _, by rw [e]⟩
theorem argH_ok (ar : ∀ a ∈ A, ArgOb h A a) : HOk P w (argH K h A) h := fun b u q => by
  obtain ⟨_, vs, h1, h2, ⟨e, rfl⟩ | ⟨e, rfl⟩⟩ := argH_is ar q
  · exact ⟨e, by rw [List.length_map]; exact h1, vs, _, vals_toV h2, e⟩
  · exact ⟨e, by rw [List.length_map]; exact h1, vs, vals_toV h2, _, e, rfl, _, rfl⟩
theorem seq_inj {c c' : Value} {vs us : List Value} (e : (some { cls := c, data := .seq vs.toArray } : Option Obj) = some { cls := c', data := .seq us.toArray }) : c = c' ∧ vs = us := by
  have e1 := Option.some.inj e
  have e2 : c = c' := congrArg Obj.cls e1
  have e3 : Data.seq vs.toArray = Data.seq us.toArray := congrArg Obj.data e1
  injection e3 with e4
  refine ⟨e2, ?_⟩
  have e5 := congrArg Array.toList e4
  simpa using e5
/-- a list argument -/
theorem argL (KX : K.In h) (ar : ∀ a ∈ A, ArgOb h A a) {a : Addr} {vs : List Value} (ha : a ∈ A) (e : h.get? a = some { cls := .type "list", data := .seq vs.toArray }) : (∀ u ∈ vs, OkU A u) ∧ SqL K (argH K h A) a (vs.map toV) := by
  obtain ⟨us, h1, h2, h3⟩ := ar a ha
  have hu : us = vs := by
    rcases h3 with q | q
    · rw [e] at q
      exact (seq_inj q).2.symm
    · rw [e] at q
      exact absurd (Value.type.inj (seq_inj q).1) (by decide)
  subst hu
  refine ⟨h2, ?_⟩
  cases hk : K.lookup a with
  | none => exact .inl (.inr ⟨_, by rw [argH_at ha hk e, hoOf_lst]⟩)
  | some o =>
    have e2 := KX a o hk
    rw [e] at e2
    obtain rfl := Option.some.inj e2
    exact .inr ⟨_, us.toArray, _, hk, rfl, rfl, rfl, by rw [List.size_toArray]; exact h1, by simpa using vals_toV h2⟩
theorem argT (KX : K.In h) (ar : ∀ a ∈ A, ArgOb h A a) {a : Addr} {vs : List Value} (ha : a ∈ A) (e : h.get? a = some { cls := .type "tuple", data := .seq vs.toArray }) : (∀ u ∈ vs, OkU A u) ∧ SqT K (argH K h A) a (vs.map toV) := by
  obtain ⟨us, h1, h2, h3⟩ := ar a ha
  have hu : us = vs := by
    rcases h3 with q | q
    · rw [e] at q
      exact absurd (Value.type.inj (seq_inj q).1) (by decide)
    · rw [e] at q
      exact (seq_inj q).2.symm
  subst hu
  refine ⟨h2, ?_⟩
  cases hk : K.lookup a with
  | none => exact .inl (.inr ⟨_, by rw [argH_at ha hk e, hoOf_tup]⟩)
  | some o =>
    have e2 := KX a o hk
    rw [e] at e2
    obtain rfl := Option.some.inj e2
    exact .inr ⟨_, us.toArray, _, hk, rfl, rfl, by rw [List.size_toArray]; exact h1, by simpa using vals_toV h2⟩
mutual
theorem dw_one {Pm : Params} (KX : K.In h) (ar : ∀ a ∈ A, ArgOb h A a) : ∀ (d : WData) (v : Value), Well Pm h v d → plW d = true → OkU A v → Dw K (argH K h A) (toV v) d
  | .none, _, x, _, _ => by
    cases x
    exact .non
  | .bool b, _, x, _, _ => by
    cases x
    exact .bl b
  | .int i, _, x, _, _ => by
    cases x
    exact .int i
  | .str s, _, x, _, _ => by
    cases x
    exact .str s
  | .bytes b, _, x, _, _ => by
    cases x
    have z := Dw.byt (K := K) (H := argH K h A) b.toArray
    exact z
  | .list ds, _, x, p, hu => by
    obtain ⟨a, vs, rfl, ho, hall⟩ := well_list x
    obtain ⟨h2, hs⟩ := argL KX ar hu ho
    exact .lst hs (dw_all KX ar ds _ hall p h2)
  | .tuple ds, _, x, p, hu => by
    obtain ⟨a, vs, rfl, ho, hall⟩ := well_tuple x
    obtain ⟨h2, hs⟩ := argT KX ar hu ho
    exact .tup hs (dw_all KX ar ds _ hall p h2)
  | .float _, _, _, p, _ => Bool.noConfusion (show false = true from p)
  | .dict _, _, _, p, _ => Bool.noConfusion (show false = true from p)
  | .bytearray _, _, _, p, _ => Bool.noConfusion (show false = true from p)
  | .set _, _, _, p, _ => Bool.noConfusion (show false = true from p)
  | .frozenset _, _, _, p, _ => Bool.noConfusion (show false = true from p)
  | .obj _ _, _, _, p, _ => Bool.noConfusion (show false = true from p)
theorem dw_all {Pm : Params} (KX : K.In h) (ar : ∀ a ∈ A, ArgOb h A a) : ∀ (ds : List WData) (vs : List Value), WellAll Pm h vs ds → plWs ds = true → (∀ u ∈ vs, OkU A u) → DwAll K (argH K h A) (vs.map toV) ds
  | [], _, x, _, _ => by
    cases x
    exact .nil
  | d :: ds, _, x, p, hu => by
    obtain ⟨v, vs, rfl, x1, x2⟩ := well_cons x
    have q : plW d = true ∧ plWs ds = true := Bool.and_eq_true_iff.mp p
    exact .cons (dw_one KX ar d v x1 q.1 (hu _ (List.mem_cons_self ..))) (dw_all KX ar ds vs x2 q.2 fun u m => hu u (List.mem_cons_of_mem _ m))
end
end
/-! ### the call -/
theorem spec_call {P : Program} {w : World} {K : PySem.W.Frag} {mg mb : Str → Option Value} {CX : CXT} {k : Nat} {fa : Addr} {fd : FuncData} {ps : List Str} {sp : Sp} {s₁ : Shared} {vals : List Value} {ds : List WData} {R : PySem.W.WRecords} {cl : Str → Option Addr} {d0 : WData}
    (KX : K.In s₁.heap) (hns : s₁.heap.Ns mainGlobals mg) (hb : s₁.heap.Ns builtinsNs mb) (hbb : ∀ x : Str, x ≠ "__name__" → mb x = bootBuiltins x) (hlim : s₁.heap.NoLimit) (hg : s₁.gens = #[])
    (hwl : WellAll w.params s₁.heap vals ds) (hpl : plWs ds = true) (hwt : ∀ d ∈ ds, d.weight ≤ 1048576) (hr : Room k callerA)
    (F : ∀ base : Heap, K.In base → base.Ns mainGlobals mg → FnOk P w K mg base CX k fa fd ps sp) (hbind : ∀ (s : Shared) (us : List Value), us.length = ps.length → BindsTo s fd ⟨us, []⟩ (ps.zip us)) (hlen : ds.length = ps.length)
    (hsp : ∀ (H : Hp) (xs : List V), OnlyF H → DwAll K H xs ds → sp xs H (fun v H' => Dw K H' v d0) fun _ _ _ => False)
    (hCX : ∀ H e s', CX [] H s₁ (fun _ _ _ => False) e s' → False) :
    codeAny (model P w) callerA (.call (.ref fa) ⟨vals, []⟩) (fun r s' => ∃ u as, r = .ok (.ret u) ∧ ReadsW R cl s'.heap u d0 as ∧ OldK s₁.heap s'.heap ∧ s'.os = s₁.os ∧ AllBare s'.gens) s₁ := by
  obtain ⟨A, ho, ar⟩ := area_all ds vals hwl hpl hwt
  have hO : OnlyF (argH K s₁.heap A) := argH_only ar
  have hok : HOk P w (argH K s₁.heap A) s₁.heap := argH_ok ar
  have hS := dw_all KX ar ds vals hwl hpl ho
  have hV := vals_toV ho
  have hK : ∀ b u, argH K s₁.heap A b = some u → K.lookup b = none := fun b u q => (argH_is ar q).1
  have noA : ∀ {b : Addr} {o : Obj} {es : Array DictEntry} {ep : Nat}, s₁.heap.get? b = some o → o.data = .dict es ep → argH K s₁.heap A b = none := fun {b o es ep} e d => by
    cases q : argH K s₁.heap A b with
    | none => rfl
    | some u =>
      obtain ⟨_, vs, _, _, ⟨e2, _⟩ | ⟨e2, _⟩⟩ := argH_is ar q
      · rw [e2] at e
        cases e
        have d' : Data.seq vs.toArray _ = Data.dict es ep := d
        cases d'
      · rw [e2] at e
        cases e
        have d' : Data.seq vs.toArray _ = Data.dict es ep := d
        cases d'
  generalize argH K s₁.heap A = H at hO hok hS hK noA
  have base_of : ∀ {b : Addr} {o : Obj}, s₁.heap.get? b = some o → H b = none → (hidT s₁.heap H).get? b = some o := fun e n => hidT_get e n
  have nsK : ∀ {b : Addr} {m : Str → Option Value}, s₁.heap.Ns b m → (hidT s₁.heap H).Ns b m := fun {b m} ⟨o, es, ep, e, d, r⟩ => ⟨o, es, ep, base_of e (noA e d), d, r⟩
  have nK : ∀ b o, K.lookup b = some o → H b = none := fun b o e => by
    cases q : H b with
    | none => rfl
    | some u =>
      rw [hK b u q] at e
      cases e
  have hKb : K.In (hidT s₁.heap H) := fun b o e => base_of (KX b o e) (nK b o e)
  have hM : Mod K mg (hidT s₁.heap H) := ⟨hKb, nsK hns, ⟨mb, nsK hb, hbb⟩, let ⟨mc, h1, h2⟩ := hlim; ⟨mc, nsK h1, h2⟩⟩
  have e0 : Env0 P w K mg (hidT s₁.heap H) callerA [] s₁ H := ⟨rfl, hM, fun b o e => of_hidT e, Nat.le_of_eq (hidT_size _ _), trivial, fun b hb => absurd (show b ∈ ([] : List Addr) from hb) (by simp), hok, .of_eq hg⟩
  have hl : vals.length = ps.length := by rw [wellAll_len hwl]; exact hlen
  refine codeAny_mono ((F _ hKb (nsK hns)).run callerA [] s₁ H ⟨vals, []⟩ vals (vals.map toV) _ _ hr e0 (hbind s₁ vals hl) hV (hsp H _ hO hS)) fun r s' x => ?_
  cases r with
  | error e => exact (hCX H e s' x).elim
  | ok fl =>
    cases fl with
    | next => exact False.elim x
    | brk => exact False.elim x
    | cont => exact False.elim x
    | ret u =>
      obtain ⟨v, H', os, bare, un, hok', r', q⟩ := x
      have kept : ∀ b o, s₁.heap.get? b = some o → s'.heap.get? b = some o := fun b o e => by
        cases q2 : H b with
        | none => exact un.keep b o e q2 (by intro z; exact absurd (show b ∈ ([] : List Addr) from z) (by simp)) (by simp)
        | some u2 =>
          rcases hO b with z | ⟨ob, u3, z⟩
          · rw [q2] at z
            cases z
          · have z2 := un.frzs b ob _ z
            obtain ⟨e1, _⟩ := hok b _ z
            obtain ⟨e2, _⟩ := hok' b _ z2
            rw [e] at e1
            cases e1
            exact e2
      have KX' : K.In s'.heap := fun b o e => kept b o (KX b o e)
      obtain ⟨as, hrd⟩ := Dw.reads (R := R) (cl := cl) hok' KX' d0 v u q r'
      exact ⟨u, as, rfl, hrd, OldK.of_keep kept, os, bare⟩
/-! ### the row -/
theorem layable_weight {ds : List WData} (h : WData.layableAll ds = true) : ∀ d ∈ ds, d.weight ≤ 1048576 := fun d hd =>
  (PySem.W.layableW_iff.mp (List.all_eq_true.mp h d hd)).2.2
theorem encAll_len : ∀ (cs : List Codec) (a : Codec.denoteAll cs), (Codec.encAll cs a).length = cs.length
  | [], _ => rfl
  | c :: cs, a => by
    show (Codec.encAll cs a.2).length + 1 = cs.length + 1
    rw [encAll_len cs a.2]
/-- the goal that k_headS leaves (case hc), from the promise of the row's def: whatever the arguments that the codecs let and the row asks for, the def gives what stands for enc (f ..) -/
theorem walk_spec {r : OpenSpec} {k : Nat} {q : Program} {loose : List Str} {XP : (Str → Option Value) → Heap → Prop} {YP : World → Heap → Prop} {d : DefRec} {K : Params → PySem.W.Frag} {CX : World → CXT} {ps : List Str} {sp : World → Sp}
    (hwell : r.wellSaid = true) (hdf : d.params.defaults = []) (hlen : r.args.length = ps.length) (hr : Room k callerA)
    (hY : ∀ (w : World) (h : Heap), YP w h → (K w.params).In h)
    (F : ∀ (w : World) (mg : Str → Option Value) (fa : Addr) (h : Heap), YP w h → (K w.params).In h → h.Ns mainGlobals mg → mg d.name = some (.ref fa) →
      ∃ fd : FuncData, (∀ (s : Shared) (us : List Value), us.length = ps.length → BindsTo s fd ⟨us, []⟩ (ps.zip us)) ∧
        ∀ base : Heap, (K w.params).In base → base.Ns mainGlobals mg → FnOk r.prog w (K w.params) mg base (CX w) k fa fd ps (sp w))
    (hsp : ∀ (w : World) (H : Hp) (xs : List V) (a : Codec.denoteAll r.args), OnlyF H → Codec.withinAll r.args a = true → Codec.app r.args r.asked a = true → DwAll (K w.params) H xs (Codec.encAll r.args a) →
      sp w xs H (fun v H' => Dw (K w.params) H' v (r.ret.enc (Codec.app r.args r.f a))) fun _ _ _ => False)
    (hCX : ∀ (w : World) (H : Hp) (s : Shared) (e : Value) (s' : Shared), CX w [] H s (fun _ _ _ => False) e s' → False) :
    PySem.W.WalkOS q loose XP YP r d [] (fun f vs => PySem.call f vs) := by
  intro w s_0 s₁ mg mb G Y fa o pm cd doc dV kV ho hd hcd hD hmg hg args vals as hpre hlay hrd hwl hlo
  obtain ⟨a, e1, e2⟩ := PySem.W.os_pre_some hpre
  obtain ⟨e3, hwi⟩ := Codec.encAll_of_decAll r.args args a e1
  subst e3
  have KX := hY w _ Y
  obtain ⟨fd, hb, hF⟩ := F w mg fa _ Y KX G.T.g hmg
  refine PySem.W.enter_call (codeAny_mono (spec_call (R := []) (cl := classAt s_0.heap) (d0 := r.ret.enc (Codec.app r.args r.f a)) KX G.T.g G.T.b G.T.builtins G.T.nolimit hg hwl (pl_encAll _ _) (layable_weight hlay) hr hF hb (by rw [encAll_len]; exact hlen)
    (fun H xs hO hS => hsp w H xs a hO hwi e2 hS) fun H e s' => hCX w H s₁ e s') fun r' s' hq => ?_)
  obtain ⟨u, as', rfl, h1, h2, h3, h4⟩ := hq
  exact ⟨.inl ⟨u, _, as', rfl, fun _ => rfl, h1, (OpenSpec.post_iff hwell hwi _ _).mpr rfl, fun z => Bool.noConfusion (show false = true from z)⟩, h2, h3, h4⟩
/-- the same where the promise hangs on the written part alone -/
theorem walk_specK {r : OpenSpec} {k : Nat} {q : Program} {loose : List Str} {XP : (Str → Option Value) → Heap → Prop} {YP : World → Heap → Prop} {d : DefRec} {K : Params → PySem.W.Frag} {CX : CXT} {ps : List Str} {sp : PySem.W.Frag → Sp}
    (hwell : r.wellSaid = true) (hdf : d.params.defaults = []) (hlen : r.args.length = ps.length) (hr : Room k callerA)
    (hY : ∀ (w : World) (h : Heap), YP w h → (K w.params).In h)
    (F : ∀ (w : World) (mg : Str → Option Value) (fa : Addr) (h : Heap), YP w h → (K w.params).In h → h.Ns mainGlobals mg → mg d.name = some (.ref fa) →
      ∃ fd : FuncData, (∀ (s : Shared) (us : List Value), us.length = ps.length → BindsTo s fd ⟨us, []⟩ (ps.zip us)) ∧
        ∀ base : Heap, (K w.params).In base → base.Ns mainGlobals mg → FnOk r.prog w (K w.params) mg base CX k fa fd ps (sp (K w.params)))
    (hsp : ∀ (K : PySem.W.Frag) (H : Hp) (xs : List V) (a : Codec.denoteAll r.args), OnlyF H → Codec.withinAll r.args a = true → Codec.app r.args r.asked a = true → DwAll K H xs (Codec.encAll r.args a) →
      sp K xs H (fun v H' => Dw K H' v (r.ret.enc (Codec.app r.args r.f a))) fun _ _ _ => False)
    (hCX : ∀ (H : Hp) (s : Shared) (e : Value) (s' : Shared), CX [] H s (fun _ _ _ => False) e s' → False) :
    PySem.W.WalkOS q loose XP YP r d [] (fun f vs => PySem.call f vs) :=
  walk_spec (K := K) (CX := fun _ => CX) (sp := fun w => sp (K w.params)) hwell hdf hlen hr hY F (fun w H xs a h1 h2 h3 h4 => hsp (K w.params) H xs a h1 h2 h3 h4) fun _ H s e s' => hCX H s e s'
end L2
end
section
set_option linter.all false
namespace Sm
open Patch
/-! ## splitting -/
def splitStep (m : Int) (a : List (List Int) × List Int) (x : Int) : List (List Int) × List Int :=
  if x = m then (a.1 ++ [a.2], []) else (a.1, a.2 ++ [x])
def splitF (m : Int) (xs : List Int) : List (List Int) × List Int := xs.foldl (splitStep m) ([], [])
def splitM (m : Int) (xs : List Int) : List (List Int) := (splitF m xs).1 ++ [(splitF m xs).2]
theorem splitF_snoc (m : Int) (xs : List Int) (x : Int) : splitF m (xs ++ [x]) = splitStep m (splitF m xs) x := by
  unfold splitF; rw [List.foldl_append]; rfl
theorem fold_free (m : Int) : ∀ (w : List Int) (a : List (List Int)) (b : List Int), m ∉ w → w.foldl (splitStep m) (a, b) = (a, b ++ w)
  | [], a, b, _ => by simp
  | x :: w, a, b, h => by
    have hx : ¬ x = m := fun e => h (by simp [e])
    have hw : m ∉ w := fun e => h (by simp [e])
    rw [List.foldl_cons]
    have : splitStep m (a, b) x = (a, b ++ [x]) := by unfold splitStep; rw [if_neg hx]
    rw [this, fold_free m w a (b ++ [x]) hw]; simp
theorem fold_acc (m : Int) : ∀ (r : List Int) (a : List (List Int)) (b : List Int), (r.foldl (splitStep m) (a, b)).1 = a ++ (r.foldl (splitStep m) ([], b)).1 ∧ (r.foldl (splitStep m) (a, b)).2 = (r.foldl (splitStep m) ([], b)).2
  | [], a, b => by simp
  | x :: r, a, b => by
    rw [List.foldl_cons, List.foldl_cons]
    by_cases hx : x = m
    · have e1 : splitStep m (a, b) x = (a ++ [b], []) := by unfold splitStep; rw [if_pos hx]
      have e2 : splitStep m ([], b) x = ([b], []) := by unfold splitStep; rw [if_pos hx]; rfl
      rw [e1, e2]
      have h1 := fold_acc m r (a ++ [b]) []
      have h2 := fold_acc m r [b] []
      exact ⟨by rw [h1.1, h2.1]; simp, by rw [h1.2, h2.2]⟩
    · have e1 : splitStep m (a, b) x = (a, b ++ [x]) := by unfold splitStep; rw [if_neg hx]
      have e2 : splitStep m ([], b) x = ([], b ++ [x]) := by unfold splitStep; rw [if_neg hx]
      rw [e1, e2]
      exact fold_acc m r a (b ++ [x])
theorem splitF_free {m : Int} {w : List Int} (h : m ∉ w) : splitF m w = ([], w) := by
  unfold splitF; rw [fold_free m w [] [] h]; simp
theorem splitF_cut {m : Int} {w : List Int} (r : List Int) (h : m ∉ w) : splitF m (w ++ m :: r) = (w :: (splitF m r).1, (splitF m r).2) := by
  unfold splitF
  rw [List.foldl_append, fold_free m w [] [] h, List.foldl_cons]
  have e : splitStep m ([], [] ++ w) m = ([w], []) := by unfold splitStep; rw [if_pos rfl]; simp
  rw [e]
  have := fold_acc m r [w] []
  exact Prod.ext (by rw [this.1]; rfl) this.2
theorem splitM_free {m : Int} {w : List Int} (h : m ∉ w) : splitM m w = [w] := by
  unfold splitM; rw [splitF_free h]; rfl
theorem splitM_cut {m : Int} {w : List Int} (r : List Int) (h : m ∉ w) : splitM m (w ++ m :: r) = w :: splitM m r := by
  unfold splitM; rw [splitF_cut r h]; rfl
theorem split_cases (m : Int) : ∀ xs : List Int, m ∉ xs ∨ ∃ w r, m ∉ w ∧ xs = w ++ m :: r
  | [] => .inl (by simp)
  | x :: xs => by
    by_cases hx : x = m
    · exact .inr ⟨[], xs, by simp, by rw [hx]; rfl⟩
    · rcases split_cases m xs with h | ⟨w, r, h, e⟩
      · refine .inl fun q => ?_
        rcases List.mem_cons.mp q with q | q
        · exact hx q.symm
        · exact h q
      · refine .inr ⟨x :: w, r, fun q => ?_, by rw [e]; rfl⟩
        rcases List.mem_cons.mp q with q | q
        · exact hx q.symm
        · exact h q
/-! ## squares -/
def isLetter (n : Int) : Bool := (decide (65 ≤ n) && decide (n ≤ 90)) || (decide (97 ≤ n) && decide (n ≤ 122))
def idx (n : Int) : Nat := if 97 ≤ n then (n - 97).toNat else (n - 39).toNat
def spread : List Int → List Int
  | [a] => [a, a, a, a]
  | [a, b, c] => if b = 47 then [a, c, c, a] else if b = 92 then [a, a, c, c] else []
  | [a, b, c, d] => [a, b, c, d]
  | _ => []
theorem sp3 (a b c : Int) : spread [a, b, c] = if b = 47 then [a, c, c, a] else if b = 92 then [a, a, c, c] else [] := rfl
def readSquare (w : List Int) : List Int := if (spread w).all isLetter then spread w else []
abbrev Byt (t : List Int) : Prop := ∀ x ∈ t, 0 ≤ x ∧ x ≤ 255
def b8 (n : Int) : UInt8 := UInt8.ofNat n.toNat
def B (t : List Int) : Bytes := t.map b8
theorem B_text (t : List Int) : SeamNeutral.text t = B t := rfl
theorem B_nil : B [] = [] := rfl
theorem B_cons (x : Int) (t : List Int) : B (x :: t) = b8 x :: B t := rfl
theorem B_append (s t : List Int) : B (s ++ t) = B s ++ B t := by unfold B; rw [List.map_append]
theorem B_length (s : List Int) : (B s).length = s.length := by unfold B; rw [List.length_map]
theorem b8_nat {x : Int} (h : 0 ≤ x ∧ x ≤ 255) : (b8 x).toNat = x.toNat := by
  unfold b8
  rw [UInt8.toNat_ofNat']
  omega
theorem letterOf_b8 {x : Int} (h : 0 ≤ x ∧ x ≤ 255) : letterOf (b8 x) = if isLetter x = true then some (idx x) else none := by
  unfold letterOf
  rw [b8_nat h]
  unfold isLetter idx
  by_cases h1 : 97 ≤ x ∧ x ≤ 122
  · rw [if_pos (by omega), if_pos (by simp [h1]), if_pos h1.1]; congr 1; omega
  · rw [if_neg (by omega)]
    by_cases h2 : 65 ≤ x ∧ x ≤ 90
    · rw [if_pos (by omega), if_pos (by simp [h2]), if_neg (by omega)]; congr 1; omega
    · rw [if_neg (by omega), if_neg]
      simp only [Bool.or_eq_true, Bool.and_eq_true, decide_eq_true_eq]
      omega
theorem letterOf_yes {x : Int} (h : 0 ≤ x ∧ x ≤ 255) (l : isLetter x = true) : letterOf (b8 x) = some (idx x) := by rw [letterOf_b8 h, if_pos l]
theorem letterOf_no {x : Int} (h : 0 ≤ x ∧ x ≤ 255) (l : isLetter x = false) : letterOf (b8 x) = none := by rw [letterOf_b8 h, if_neg (by simp [l])]
theorem letter_range {x : Int} (l : isLetter x = true) : 65 ≤ x ∧ x ≤ 122 ∧ x ≠ 92 := by
  unfold isLetter at l
  simp only [Bool.or_eq_true, Bool.and_eq_true, decide_eq_true_eq] at l
  omega
theorem letter_lo {x : Int} (h : x < 65) : isLetter x = false := by
  cases e : isLetter x with
  | false => rfl
  | true => have := letter_range e; omega
theorem la0 (p : Nat) (l : List Nat) (s : Bytes) : lettersAt p l 0 s = .ok (l, s) := by unfold lettersAt; rfl
theorem la_nil (p k : Nat) (l : List Nat) : lettersAt p l (k + 1) [] = .error (p + l.length) := by unfold lettersAt; rfl
theorem la_yes (p k : Nat) (l : List Nat) {x : Int} (s : Bytes) (h : 0 ≤ x ∧ x ≤ 255) (q : isLetter x = true) : lettersAt p l (k + 1) (b8 x :: s) = lettersAt p (l ++ [idx x]) k s := by
  conv => lhs; unfold lettersAt
  simp only [letterOf_yes h q]
theorem la_no (p k : Nat) (l : List Nat) {x : Int} (s : Bytes) (h : 0 ≤ x ∧ x ≤ 255) (q : isLetter x = false) : lettersAt p l (k + 1) (b8 x :: s) = .error (p + l.length) := by
  conv => lhs; unfold lettersAt
  simp only [letterOf_no h q]
/-- what stands behind a word: nothing, a blank or a row's end -/
def Tail (r : List Int) : Prop := r = [] ∨ ∃ c s, r = c :: s ∧ (c = 10 ∨ c = 32)
/-- a reading that no row can go on from -/
def BadSq (x : Except Nat (List Nat × Bytes)) : Prop := (∃ k, x = .error k) ∨ ∃ l d s, x = .ok (l, b8 d :: s) ∧ (0 ≤ d ∧ d ≤ 255) ∧ d ≠ 10 ∧ d ≠ 32
theorem sq_nil (p : Nat) : squareAt p [] = .error (p + 0) := by unfold squareAt; rw [la_nil]; rfl
theorem sq_no (p : Nat) {a : Int} (s : Bytes) (h : 0 ≤ a ∧ a ≤ 255) (q : isLetter a = false) : squareAt p (b8 a :: s) = .error (p + 0) := by
  unfold squareAt; rw [la_no p 0 [] s h q]; rfl
theorem sq_yes (p : Nat) {a : Int} (s : Bytes) (h : 0 ≤ a ∧ a ≤ 255) (q : isLetter a = true) : squareAt p (b8 a :: s) = (match s with
    | [] => .ok ([idx a, idx a, idx a, idx a], [])
    | c :: r =>
      if c.toNat = 47 then (match lettersAt (p + 2) [] 1 r with
        | .error k => .error k
        | .ok b => .ok ([idx a] ++ (b.1 ++ (b.1 ++ [idx a])), b.2))
      else if c.toNat = 92 then (match lettersAt (p + 2) [] 1 r with
        | .error k => .error k
        | .ok b => .ok ([idx a] ++ ([idx a] ++ (b.1 ++ b.1)), b.2))
      else if (letterOf c).isSome = true then lettersAt p [idx a] 3 s
      else .ok ([idx a, idx a, idx a, idx a], s)) := by
  unfold squareAt
  rw [la_yes p 0 [] s h q, la0]
  cases s <;> rfl
theorem sq_one (p : Nat) {a : Int} (h : 0 ≤ a ∧ a ≤ 255) (q : isLetter a = true) : squareAt p [b8 a] = .ok ([idx a, idx a, idx a, idx a], []) := sq_yes p [] h q
theorem sq_slash (p : Nat) {a b : Int} (s : Bytes) (h : 0 ≤ a ∧ a ≤ 255) (q : isLetter a = true) (e : b = 47) : squareAt p (b8 a :: b8 b :: s) = (match lettersAt (p + 2) [] 1 s with
        | .error k => .error k
        | .ok b => .ok ([idx a] ++ (b.1 ++ (b.1 ++ [idx a])), b.2)) := by
  rw [sq_yes p _ h q]
  exact if_pos (by rw [b8_nat (by omega)]; omega)
theorem sq_back (p : Nat) {a b : Int} (s : Bytes) (h : 0 ≤ a ∧ a ≤ 255) (q : isLetter a = true) (e : b = 92) : squareAt p (b8 a :: b8 b :: s) = (match lettersAt (p + 2) [] 1 s with
        | .error k => .error k
        | .ok b => .ok ([idx a] ++ ([idx a] ++ (b.1 ++ b.1)), b.2)) := by
  rw [sq_yes p _ h q]
  refine (if_neg (by rw [b8_nat (by omega)]; omega)).trans (if_pos (by rw [b8_nat (by omega)]; omega))
theorem sq_four (p : Nat) {a b : Int} (s : Bytes) (h : 0 ≤ a ∧ a ≤ 255) (q : isLetter a = true) (hb : 0 ≤ b ∧ b ≤ 255) (lb : isLetter b = true) : squareAt p (b8 a :: b8 b :: s) = lettersAt p [idx a] 3 (b8 b :: s) := by
  have := letter_range lb
  rw [sq_yes p _ h q]
  exact (if_neg (by rw [b8_nat hb]; omega)).trans ((if_neg (by rw [b8_nat hb]; omega)).trans (if_pos (by rw [letterOf_yes hb lb]; rfl)))
theorem sq_stop (p : Nat) {a b : Int} (s : Bytes) (h : 0 ≤ a ∧ a ≤ 255) (q : isLetter a = true) (hb : 0 ≤ b ∧ b ≤ 255) (lb : isLetter b = false) (n1 : b ≠ 47) (n2 : b ≠ 92) : squareAt p (b8 a :: b8 b :: s) = .ok ([idx a, idx a, idx a, idx a], b8 b :: s) := by
  rw [sq_yes p _ h q]
  exact (if_neg (by rw [b8_nat hb]; omega)).trans ((if_neg (by rw [b8_nat hb]; omega)).trans (if_neg (by rw [letterOf_no hb lb]; simp)))
theorem tail_cons {c : Int} {s : List Int} (h : Tail (c :: s)) : c = 10 ∨ c = 32 := by
  rcases h with h | ⟨c', s', e, q⟩
  · cases h
  · cases e; exact q
/-- one letter, then one more or not -/
theorem one_more (p : Nat) {r : List Int} (hr : Byt r) :
    (∃ k, lettersAt p [] 1 (B r) = .error k ∧ (r = [] ∨ ∃ c s, r = c :: s ∧ isLetter c = false)) ∨ ∃ c s, r = c :: s ∧ isLetter c = true ∧ lettersAt p [] 1 (B r) = .ok ([idx c], B s) := by
  cases r with
  | nil => exact .inl ⟨_, la_nil _ _ _, .inl rfl⟩
  | cons c s =>
    have hc := hr c (by simp)
    cases e : isLetter c with
    | false => exact .inl ⟨_, la_no p 0 [] (B s) hc e, .inr ⟨c, s, rfl, e⟩⟩
    | true => exact .inr ⟨c, s, rfl, e, by rw [B_cons, la_yes p 0 [] (B s) hc e, la0]; rfl⟩
theorem square_read (p : Nat) {w r : List Int} (hb : Byt (w ++ r)) (hw : (10 : Int) ∉ w ∧ (32 : Int) ∉ w) (ht : Tail r) :
    (readSquare w ≠ [] → squareAt p (B (w ++ r)) = .ok ((readSquare w).map idx, B r)) ∧ (readSquare w = [] → BadSq (squareAt p (B (w ++ r)))) := by
  have tl : ∀ {c : Int} {s : List Int}, r = c :: s → isLetter c = false ∧ (0 ≤ c ∧ c ≤ 255) ∧ c ≠ 47 ∧ c ≠ 92 := fun {c s} e => by
    have h1 : c = 10 ∨ c = 32 := tail_cons (e ▸ ht)
    exact ⟨letter_lo (by omega), by omega, by omega, by omega⟩
  have bad : ∀ {d : Int} {s : List Int} {l : List Nat}, (0 ≤ d ∧ d ≤ 255) → d ≠ 10 → d ≠ 32 → BadSq (.ok (l, B (d :: s))) := fun {d s l} h1 h2 h3 => .inr ⟨l, d, B s, rfl, h1, h2, h3⟩
  cases w with
  | nil =>
    refine ⟨fun h => absurd (by rfl) h, fun _ => ?_⟩
    cases r with
    | nil => exact .inl ⟨_, sq_nil p⟩
    | cons c s =>
      obtain ⟨h1, h2, _⟩ := tl rfl
      exact .inl ⟨_, sq_no p (B s) h2 h1⟩
  | cons a w =>
    have ha := hb a (by simp)
    cases la : isLetter a with
    | false =>
      have hrs : readSquare (a :: w) = [] := by
        unfold readSquare
        by_cases e : (spread (a :: w)).all isLetter = true
        · rw [if_pos e]
          match w with
          | [] => simp [spread, la] at e
          | [b] => rfl
          | [b, c] =>
            rw [sp3] at e ⊢
            by_cases h1 : b = 47
            · rw [if_pos h1] at e; simp [la] at e
            · rw [if_neg h1] at e ⊢
              by_cases h2 : b = 92
              · rw [if_pos h2] at e; simp [la] at e
              · rw [if_neg h2]
          | [b, c, d] => simp [spread, la] at e
          | b :: c :: d :: e' :: f => rfl
        · rw [if_neg e]
      refine ⟨fun h => absurd hrs h, fun _ => .inl ⟨_, sq_no p (B (w ++ r)) ha la⟩⟩
    | true =>
      match w, hb, hw with
      | [], hb, hw =>
        have hrs : readSquare [a] = [a, a, a, a] := by unfold readSquare spread; rw [if_pos (by simp [la])]
        rw [hrs]
        refine ⟨fun _ => ?_, fun h => by cases h⟩
        cases r with
        | nil => exact sq_one p ha la
        | cons c s =>
          obtain ⟨h1, h2, h3, h4⟩ := tl rfl
          exact sq_stop p (B s) ha la h2 h1 h3 h4
      | b :: w, hb, hw =>
        have hbb := hb b (by simp)
        have nb : b ≠ 10 ∧ b ≠ 32 := ⟨fun e => hw.1 (by simp [e]), fun e => hw.2 (by simp [e])⟩
        have hb' : Byt (w ++ r) := fun x hx => hb x (by simp at hx ⊢; rcases hx with h | h <;> simp [h])
        show (_ → squareAt p (b8 a :: b8 b :: B (w ++ r)) = _) ∧ (_ → BadSq (squareAt p (b8 a :: b8 b :: B (w ++ r))))
        by_cases e47 : b = 47
        · rw [sq_slash p _ ha la e47]
          rcases one_more (p + 2) hb' with ⟨k, e, z⟩ | ⟨c, s, e, lc, e2⟩
          · have hrs : readSquare (a :: b :: w) = [] := by
              cases w with
              | nil => unfold readSquare spread; simp
              | cons c w =>
                have lc : isLetter c = false := by
                  rcases z with z | ⟨c', s', z, z2⟩
                  · cases z
                  · cases z; exact z2
                unfold readSquare
                match w with
                | [] => simp [spread, e47, lc]
                | [d] => simp [spread, lc]
                | d :: e' :: f => simp [spread]
            refine ⟨fun h => absurd hrs h, fun _ => ?_⟩
            rw [e]
            exact .inl ⟨k, rfl⟩
          · rw [e2]
            cases w with
            | nil =>
              have := (tl (c := c) (s := s) e).1
              rw [lc] at this; cases this
            | cons c' w =>
              cases e
              match w, hb', hw with
              | [], hb', hw =>
                have hrs : readSquare [a, b, c] = [a, c, c, a] := by unfold readSquare; rw [sp3, if_pos e47, if_pos (by simp [la, lc])]
                rw [hrs]
                exact ⟨fun _ => rfl, fun h => by cases h⟩
              | d :: w, hb', hw =>
                have hd := hb' d (by simp)
                have nd : d ≠ 10 ∧ d ≠ 32 := ⟨fun e => hw.1 (by simp [e]), fun e => hw.2 (by simp [e])⟩
                have hrs : readSquare (a :: b :: c :: d :: w) = [] := by
                  unfold readSquare
                  match w with
                  | [] => simp [spread, e47, letter_lo (x := 47) (by omega)]
                  | e' :: f => simp [spread]
                exact ⟨fun h => absurd hrs h, fun _ => bad hd nd.1 nd.2⟩
        · by_cases e92 : b = 92
          · rw [sq_back p _ ha la e92]
            rcases one_more (p + 2) hb' with ⟨k, e, z⟩ | ⟨c, s, e, lc, e2⟩
            · have hrs : readSquare (a :: b :: w) = [] := by
                cases w with
                | nil => unfold readSquare spread; simp
                | cons c w =>
                  have lc : isLetter c = false := by
                    rcases z with z | ⟨c', s', z, z2⟩
                    · cases z
                    · cases z; exact z2
                  unfold readSquare
                  match w with
                  | [] => simp [spread, e92, lc]
                  | [d] => simp [spread, lc]
                  | d :: e' :: f => simp [spread]
              refine ⟨fun h => absurd hrs h, fun _ => ?_⟩
              rw [e]
              exact .inl ⟨k, rfl⟩
            · rw [e2]
              cases w with
              | nil =>
                have := (tl (c := c) (s := s) e).1
                rw [lc] at this; cases this
              | cons c' w =>
                cases e
                match w, hb', hw with
                | [], hb', hw =>
                  have hrs : readSquare [a, b, c] = [a, a, c, c] := by unfold readSquare; rw [sp3, if_neg e47, if_pos e92, if_pos (by simp [la, lc])]
                  rw [hrs]
                  exact ⟨fun _ => rfl, fun h => by cases h⟩
                | d :: w, hb', hw =>
                  have hd := hb' d (by simp)
                  have nd : d ≠ 10 ∧ d ≠ 32 := ⟨fun e => hw.1 (by simp [e]), fun e => hw.2 (by simp [e])⟩
                  have n92 : isLetter 92 = false := by decide
                  have hrs : readSquare (a :: b :: c :: d :: w) = [] := by
                    unfold readSquare
                    match w with
                    | [] => simp [spread, e92, n92]
                    | e' :: f => simp [spread]
                  exact ⟨fun h => absurd hrs h, fun _ => bad hd nd.1 nd.2⟩
          · cases lb : isLetter b with
            | false =>
              rw [sq_stop p _ ha la hbb lb e47 e92]
              have hrs : readSquare (a :: b :: w) = [] := by
                unfold readSquare
                match w with
                | [] => simp [spread]
                | [c] => simp [spread, e47, e92]
                | [c, d] => simp [spread, lb]
                | c :: d :: e' :: f => simp [spread]
              exact ⟨fun h => absurd hrs h, fun _ => bad (s := w ++ r) hbb nb.1 nb.2⟩
            | true =>
              rw [sq_four p _ ha la hbb lb]
              show (_ → lettersAt p [idx a] 3 (b8 b :: B (w ++ r)) = _) ∧ (_ → BadSq (lettersAt p [idx a] 3 (b8 b :: B (w ++ r))))
              rw [la_yes p 2 [idx a] (B (w ++ r)) hbb lb]
              match w, hb', hw with
              | [], hb', hw =>
                have hrs : readSquare [a, b] = [] := by unfold readSquare; simp [spread]
                refine ⟨fun h => absurd hrs h, fun _ => ?_⟩
                cases r with
                | nil => exact .inl ⟨_, la_nil _ _ _⟩
                | cons c s =>
                  obtain ⟨h1, h2, _⟩ := tl rfl
                  exact .inl ⟨_, la_no p 1 _ (B s) h2 h1⟩
              | c :: w, hb', hw =>
                have hc := hb' c (by simp)
                cases lc : isLetter c with
                | false =>
                  have hrs : readSquare (a :: b :: c :: w) = [] := by
                    unfold readSquare
                    match w with
                    | [] => simp [spread, e47, e92]
                    | [d] => simp [spread, lc]
                    | d :: e' :: f => simp [spread]
                  exact ⟨fun h => absurd hrs h, fun _ => .inl ⟨_, la_no p 1 _ (B (w ++ r)) hc lc⟩⟩
                | true =>
                  show (_ → lettersAt p _ 2 (b8 c :: B (w ++ r)) = _) ∧ (_ → BadSq (lettersAt p _ 2 (b8 c :: B (w ++ r))))
                  rw [la_yes p 1 _ (B (w ++ r)) hc lc]
                  match w, hb', hw with
                  | [], hb', hw =>
                    have hrs : readSquare [a, b, c] = [] := by unfold readSquare; simp [spread, e47, e92]
                    refine ⟨fun h => absurd hrs h, fun _ => ?_⟩
                    cases r with
                    | nil => exact .inl ⟨_, la_nil _ _ _⟩
                    | cons c s =>
                      obtain ⟨h1, h2, _⟩ := tl rfl
                      exact .inl ⟨_, la_no p 0 _ (B s) h2 h1⟩
                  | d :: w, hb', hw =>
                    have hd := hb' d (by simp)
                    cases ld : isLetter d with
                    | false =>
                      have hrs : readSquare (a :: b :: c :: d :: w) = [] := by
                        unfold readSquare
                        match w with
                        | [] => simp [spread, ld]
                        | e' :: f => simp [spread]
                      exact ⟨fun h => absurd hrs h, fun _ => .inl ⟨_, la_no p 0 _ (B (w ++ r)) hd ld⟩⟩
                    | true =>
                      show (_ → lettersAt p _ 1 (b8 d :: B (w ++ r)) = _) ∧ (_ → BadSq (lettersAt p _ 1 (b8 d :: B (w ++ r))))
                      rw [la_yes p 0 _ (B (w ++ r)) hd ld, la0]
                      match w, hb', hw with
                      | [], hb', hw =>
                        have hrs : readSquare [a, b, c, d] = [a, b, c, d] := by unfold readSquare spread; rw [if_pos (by simp [la, lb, lc, ld])]
                        rw [hrs]
                        exact ⟨fun _ => rfl, fun h => by cases h⟩
                      | e' :: w, hb', hw =>
                        have he := hb' e' (by simp)
                        have ne : e' ≠ 10 ∧ e' ≠ 32 := ⟨fun e => hw.1 (by simp [e]), fun e => hw.2 (by simp [e])⟩
                        have hrs : readSquare (a :: b :: c :: d :: e' :: w) = [] := by unfold readSquare; simp [spread]
                        exact ⟨fun h => absurd hrs h, fun _ => bad (s := w ++ r) he ne.1 ne.2⟩
theorem readSquare_len (w : List Int) : readSquare w = [] ∨ (readSquare w).length = 4 := by
  unfold readSquare
  split
  · unfold spread
    split
    · exact .inr rfl
    · split
      · exact .inr rfl
      · split
        · exact .inr rfl
        · exact .inl rfl
    · exact .inr rfl
    · exact .inl rfl
  · exact .inl rfl
end Sm
end
section
set_option linter.all false
namespace Sm
open Patch
/-! ## rows -/
def rowLoop : List (List Int) → List Int → List Int
  | [], acc => acc
  | s :: r, acc => if (readSquare s).length = 0 then [] else rowLoop r (acc ++ readSquare s)
def readRow (row : List Int) : List Int := if 6 < (splitM 32 row).length then [] else rowLoop (splitM 32 row) []
def readRows (text : List Int) : List (List Int) :=
  if 0 < (splitF 10 text).2.length ∨ (splitF 10 text).1.length = 0 ∨ 6 < (splitF 10 text).1.length then []
  else if (((splitF 10 text).1.map readRow).headD []).length = 0 ∨ ((splitF 10 text).1.map readRow).any (fun r => !decide (r.length = (((splitF 10 text).1.map readRow).headD []).length)) = true then []
  else (splitF 10 text).1.map readRow
/-- all squares of a row can be read -/
def goodRow (row : List Int) : Prop := ∀ s ∈ splitM 32 row, readSquare s ≠ []
def lets (row : List Int) : List Int := ((splitM 32 row).map readSquare).flatten
theorem splitM_ne (m : Int) (xs : List Int) : (splitM m xs).length = (splitF m xs).1.length + 1 := by unfold splitM; simp
theorem rowLoop_good : ∀ (l : List (List Int)) (acc : List Int), (∀ s ∈ l, readSquare s ≠ []) → rowLoop l acc = acc ++ (l.map readSquare).flatten
  | [], acc, _ => by simp [rowLoop]
  | s :: r, acc, h => by
    have h1 : ¬ (readSquare s).length = 0 := fun e => h s (by simp) (List.eq_nil_of_length_eq_zero e)
    unfold rowLoop
    rw [if_neg h1, rowLoop_good r _ fun s hs => h s (by simp [hs])]
    simp
theorem rowLoop_bad : ∀ (l : List (List Int)) (acc : List Int), (∃ s ∈ l, readSquare s = []) → rowLoop l acc = []
  | [], acc, h => by obtain ⟨s, hs, _⟩ := h; cases hs
  | s :: r, acc, h => by
    unfold rowLoop
    by_cases h1 : readSquare s = []
    · rw [if_pos (by rw [h1]; rfl)]
    · rw [if_neg (fun e => h1 (List.eq_nil_of_length_eq_zero e))]
      obtain ⟨s', hs, e⟩ := h
      rcases List.mem_cons.mp hs with z | z
      · subst z; exact absurd e h1
      · exact rowLoop_bad r _ ⟨s', z, e⟩
theorem good_or (row : List Int) : goodRow row ∨ ∃ s ∈ splitM 32 row, readSquare s = [] := by
  by_cases h : ∃ s ∈ splitM 32 row, readSquare s = []
  · exact .inr h
  · exact .inl fun s hs e => h ⟨s, hs, e⟩
theorem lets_len : ∀ (l : List (List Int)), (∀ s ∈ l, readSquare s ≠ []) → ((l.map readSquare).flatten).length = 4 * l.length
  | [], _ => rfl
  | s :: r, h => by
    have h1 : (readSquare s).length = 4 := (readSquare_len s).resolve_left (h s (by simp))
    have h2 := lets_len r fun s hs => h s (by simp [hs])
    simp only [List.map_cons, List.flatten_cons, List.length_append, List.length_cons] at h2 ⊢
    omega
theorem readRow_good {row : List Int} (h : goodRow row) (h6 : (splitM 32 row).length ≤ 6) : readRow row = lets row ∧ (readRow row).length = 4 * (splitM 32 row).length := by
  have e : readRow row = lets row := by
    unfold readRow lets
    rw [if_neg (by omega), rowLoop_good _ _ h]; rfl
  exact ⟨e, by rw [e]; exact lets_len _ h⟩
theorem readRow_bad {row : List Int} (h : ¬ (goodRow row ∧ (splitM 32 row).length ≤ 6)) : readRow row = [] := by
  unfold readRow
  by_cases h6 : 6 < (splitM 32 row).length
  · rw [if_pos h6]
  · rw [if_neg h6]
    rcases good_or row with g | g
    · exact absurd ⟨g, by omega⟩ h
    · exact rowLoop_bad _ _ g
theorem byt_l {s t : List Int} (h : Byt (s ++ t)) : Byt s := fun x hx => h x (List.mem_append_left _ hx)
theorem byt_r {s t : List Int} (h : Byt (s ++ t)) : Byt t := fun x hx => h x (List.mem_append_right _ hx)
theorem rowAt_eq (f p : Nat) (s : Bytes) : rowAt (f + 1) p s = (match squareAt p s with
    | .error k => .error k
    | .ok x =>
      match x.2 with
      | [] => .error (p + (s.length - x.2.length))
      | c :: r => if c.toNat = 10 then .ok (x.1, 1, r, (p + (s.length - x.2.length)) + 1) else if c.toNat = 32 then (if f = 0 then .error (p + (s.length - x.2.length)) else match rowAt f ((p + (s.length - x.2.length)) + 1) r with
          | .error k => .error k
          | .ok y => .ok (x.1 ++ y.1, y.2.1 + 1, y.2.2.1, y.2.2.2)) else .error (p + (s.length - x.2.length))) := by
  conv => lhs; unfold rowAt
  rfl
theorem row_end {f p : Nat} {S : Bytes} {l : List Nat} {r : Bytes} (h : squareAt p S = .ok (l, b8 10 :: r)) : ∃ p', rowAt (f + 1) p S = .ok (l, 1, r, p') := by
  refine ⟨(p + (S.length - (b8 10 :: r).length)) + 1, ?_⟩
  rw [rowAt_eq, h]
  exact if_pos (by rw [b8_nat (by omega)]; rfl)
theorem row_stop {f p : Nat} {S : Bytes} {l : List Nat} (h : squareAt p S = .ok (l, [])) : ∃ k, rowAt (f + 1) p S = .error k := by
  rw [rowAt_eq, h]; exact ⟨_, rfl⟩
theorem row_blank {f p : Nat} {S : Bytes} {l : List Nat} {r : Bytes} (h : squareAt p S = .ok (l, b8 32 :: r)) : ∃ e, rowAt (f + 1) p S = (if f = 0 then .error e else match rowAt f (e + 1) r with
          | .error k => .error k
          | .ok y => .ok (l ++ y.1, y.2.1 + 1, y.2.2.1, y.2.2.2)) := by
  refine ⟨(p + (S.length - (b8 32 :: r).length)), ?_⟩
  rw [rowAt_eq, h]
  exact (if_neg (by rw [b8_nat (by omega)]; omega)).trans (if_pos (by rw [b8_nat (by omega)]; rfl))
/-- a square that is at fault: so is the row -/
theorem row_of_bad {f p : Nat} {s : Bytes} (h : BadSq (squareAt p s)) : ∃ k, rowAt f p s = .error k := by
  cases f with
  | zero => exact ⟨p, by unfold rowAt; rfl⟩
  | succ f =>
    rw [rowAt_eq]
    rcases h with ⟨k, e⟩ | ⟨l, d, r, e, hd, n1, n2⟩
    · rw [e]; exact ⟨k, rfl⟩
    · rw [e]
      refine ⟨_, (if_neg ?_).trans (if_neg ?_)⟩
      · rw [b8_nat hd]; omega
      · rw [b8_nat hd]; omega
/-- no row's end: an error -/
theorem row_open : ∀ (f p : Nat) (s : List Int), Byt s → (10 : Int) ∉ s → ∃ k, rowAt f p (B s) = .error k
  | 0, p, s, _, _ => ⟨p, by unfold rowAt; rfl⟩
  | f + 1, p, s, hb, h10 => by
    rcases split_cases 32 s with h | ⟨w, r, hw, e⟩
    · have q := square_read p (w := s) (r := []) (by simpa using hb) ⟨h10, h⟩ (.inl rfl)
      rw [List.append_nil] at q
      by_cases hs : readSquare s = []
      · exact row_of_bad (q.2 hs)
      · exact row_stop (q.1 hs)
    · subst e
      have q := square_read p hb ⟨fun z => h10 (List.mem_append_left _ z), hw⟩ (.inr ⟨32, r, rfl, .inr rfl⟩)
      by_cases hs : readSquare w = []
      · exact row_of_bad (q.2 hs)
      · obtain ⟨e, he⟩ := row_blank (f := f) (q.1 hs)
        rw [he]
        obtain ⟨k, hk⟩ := row_open f (e + 1) r (fun x hx => hb x (by simp [hx])) (fun z => h10 (by simp [z]))
        by_cases f0 : f = 0
        · rw [if_pos f0]; exact ⟨_, rfl⟩
        · rw [if_neg f0]
          have hk' : rowAt f (e + 1) (List.map b8 r) = .error k := hk
          rw [hk']; exact ⟨_, rfl⟩
/-- a row read -/
theorem row_read : ∀ (f p : Nat) (s t : List Int), Byt (s ++ 10 :: t) → (10 : Int) ∉ s →
    ((goodRow s ∧ (splitM 32 s).length ≤ f) → ∃ p', rowAt f p (B (s ++ 10 :: t)) = .ok ((lets s).map idx, (splitM 32 s).length, B t, p')) ∧
    (¬ (goodRow s ∧ (splitM 32 s).length ≤ f) → ∃ k, rowAt f p (B (s ++ 10 :: t)) = .error k)
  | 0, p, s, t, _, _ => ⟨fun h => absurd h.2 (by rw [splitM_ne]; omega), fun _ => ⟨p, by unfold rowAt; rfl⟩⟩
  | f + 1, p, s, t, hb, h10 => by
    rcases split_cases 32 s with h | ⟨w, r, hw, e⟩
    · have q := square_read p hb ⟨h10, h⟩ (.inr ⟨10, t, rfl, .inl rfl⟩)
      have hsp : splitM 32 s = [s] := splitM_free h
      by_cases hs : readSquare s = []
      · refine ⟨fun g => absurd hs (g.1 s (by rw [hsp]; simp)), fun _ => row_of_bad (q.2 hs)⟩
      · refine ⟨fun _ => ?_, fun n => absurd ⟨fun x hx => ?_, by rw [hsp]; simp⟩ n⟩
        · obtain ⟨p', hp⟩ := row_end (f := f) (q.1 hs)
          refine ⟨p', ?_⟩
          rw [hp]
          unfold lets
          rw [hsp]
          simp
          rfl
        · rw [hsp] at hx
          have : x = s := by simpa using hx
          rw [this]; exact hs
    · subst e
      have hb2 : Byt (w ++ 32 :: (r ++ 10 :: t)) := by simpa using hb
      have q := square_read p hb2 ⟨fun z => h10 (List.mem_append_left _ z), hw⟩ (.inr ⟨32, r ++ 10 :: t, rfl, .inr rfl⟩)
      have hsp : splitM 32 (w ++ 32 :: r) = w :: splitM 32 r := splitM_cut r hw
      have hass : w ++ 32 :: r ++ 10 :: t = w ++ 32 :: (r ++ 10 :: t) := by simp
      rw [hass]
      by_cases hs : readSquare w = []
      · exact ⟨fun g => absurd hs (g.1 w (by rw [hsp]; simp)), fun _ => row_of_bad (q.2 hs)⟩
      · have hbr : Byt (r ++ 10 :: t) := fun x hx => hb2 x (by simp at hx ⊢; rcases hx with z | z <;> simp [z])
        obtain ⟨e, he⟩ := row_blank (f := f) (q.1 hs)
        rw [he]
        have ih := row_read f (e + 1) r t hbr (fun z => h10 (by simp [z]))
        by_cases f0 : f = 0
        · rw [if_pos f0]
          refine ⟨fun g => absurd g.2 ?_, fun _ => ⟨_, rfl⟩⟩
          rw [hsp, List.length_cons, splitM_ne]; omega
        · rw [if_neg f0]
          have iff : (goodRow (w ++ 32 :: r) ∧ (splitM 32 (w ++ 32 :: r)).length ≤ f + 1) ↔ (goodRow r ∧ (splitM 32 r).length ≤ f) := by
            unfold goodRow
            rw [hsp]
            constructor
            · rintro ⟨g1, g2⟩
              exact ⟨fun x hx => g1 x (by simp [hx]), by simpa using g2⟩
            · rintro ⟨g1, g2⟩
              refine ⟨fun x hx => ?_, by simpa using g2⟩
              rcases List.mem_cons.mp hx with z | z
              · rw [z]; exact hs
              · exact g1 x z
          rw [iff]
          refine ⟨fun g => ?_, fun g => ?_⟩
          · obtain ⟨p', e3⟩ := ih.1 g
            have e3' : rowAt f (e + 1) (List.map b8 (r ++ 10 :: t)) = _ := e3
            rw [e3']
            refine ⟨p', ?_⟩
            have : lets (w ++ 32 :: r) = readSquare w ++ lets r := by unfold lets; rw [hsp]; rfl
            rw [this, hsp, List.map_append]
            rfl
          · obtain ⟨k, e3⟩ := ih.2 g
            have e3' : rowAt f (e + 1) (List.map b8 (r ++ 10 :: t)) = _ := e3
            rw [e3']; exact ⟨k, rfl⟩
theorem rowsAt_nil (f w p : Nat) : rowsAt f w p [] = .ok ([], w, 0) := by cases f <;> (unfold rowsAt; rfl)
theorem rowsAt_eq (f w p : Nat) (c : UInt8) (s : Bytes) : rowsAt (f + 1) w p (c :: s) = (match rowAt (if w = 0 then SIDE else w) p (c :: s) with
    | .error k => .error k
    | .ok x => if w ≠ 0 ∧ x.2.1 ≠ w then .error (x.2.2.2 - 1) else match rowsAt f x.2.1 x.2.2.2 x.2.2.1 with
      | .error k => .error k
      | .ok y => .ok (x.1 ++ y.1, x.2.1, y.2.2 + 1)) := by
  conv => lhs; unfold rowsAt
  rfl
def letsAll (rows : List (List Int)) : List Nat := ((rows.map lets).flatten).map idx
theorem rows_read : ∀ (f w p : Nat) (t : List Int), Byt t → 0 < w → 
    ((splitF 10 t).2 = [] ∧ (splitF 10 t).1.length ≤ f ∧ (∀ r ∈ (splitF 10 t).1, goodRow r ∧ (splitM 32 r).length = w) → rowsAt f w p (B t) = .ok (letsAll (splitF 10 t).1, w, (splitF 10 t).1.length)) ∧
    (¬ ((splitF 10 t).2 = [] ∧ (splitF 10 t).1.length ≤ f ∧ (∀ r ∈ (splitF 10 t).1, goodRow r ∧ (splitM 32 r).length = w)) → ∃ k, rowsAt f w p (B t) = .error k)
  | f, w, p, [], _, hw => by
    refine ⟨fun _ => ?_, fun n => absurd ⟨rfl, Nat.zero_le _, fun r hr => by cases hr⟩ n⟩
    exact rowsAt_nil f w p
  | 0, w, p, x :: t, hb, hw => by
    refine ⟨fun h => ?_, fun _ => ⟨p, by rw [B_cons]; unfold rowsAt; rfl⟩⟩
    obtain ⟨h1, h2, _⟩ := h
    rcases split_cases 10 (x :: t) with h | ⟨v, r, hv, e⟩
    · rw [splitF_free h] at h1; cases h1
    · rw [e, splitF_cut r hv] at h2; simp at h2
  | f + 1, w, p, x :: t, hb, hw => by
    have hx : B (x :: t) = b8 x :: B t := rfl
    rcases split_cases 10 (x :: t) with h | ⟨v, r, hv, e⟩
    · refine ⟨fun g => ?_, fun _ => ?_⟩
      · rw [splitF_free h] at g; cases g.1
      · obtain ⟨k, hk⟩ := row_open (if w = 0 then SIDE else w) p (x :: t) hb h
        rw [hx] at hk ⊢
        rw [rowsAt_eq, hk]
        exact ⟨k, rfl⟩
    · rw [hx, rowsAt_eq, ← hx, e]
      rw [if_neg (by omega)]
      rw [e] at hb
      have q := row_read w p v r hb hv
      have hbr : Byt r := fun y hy => hb y (by simp [hy])
      rw [splitF_cut r hv]
      by_cases g : goodRow v ∧ (splitM 32 v).length ≤ w
      · obtain ⟨p', e2⟩ := q.1 g
        rw [e2]
        by_cases gw : (splitM 32 v).length = w
        · have ih := rows_read f w p' r hbr hw
          have iff : ((v :: (splitF 10 r).1, (splitF 10 r).2).2 = [] ∧ (v :: (splitF 10 r).1, (splitF 10 r).2).1.length ≤ f + 1 ∧ (∀ r_1 ∈ (v :: (splitF 10 r).1, (splitF 10 r).2).1, goodRow r_1 ∧ (splitM 32 r_1).length = w)) ↔
              ((splitF 10 r).2 = [] ∧ (splitF 10 r).1.length ≤ f ∧ (∀ r_1 ∈ (splitF 10 r).1, goodRow r_1 ∧ (splitM 32 r_1).length = w)) := by
            constructor
            · rintro ⟨a, b, c⟩
              exact ⟨a, by simpa using b, fun z hz => c z (by simp [hz])⟩
            · rintro ⟨a, b, c⟩
              refine ⟨a, by simpa using b, fun z hz => ?_⟩
              rcases List.mem_cons.mp hz with y | y
              · rw [y]; exact ⟨g.1, gw⟩
              · exact c z y
          rw [iff]
          show (_ → (if w ≠ 0 ∧ (splitM 32 v).length ≠ w then _ else _) = _) ∧ (_ → ∃ k, (if w ≠ 0 ∧ (splitM 32 v).length ≠ w then _ else _) = _)
          rw [if_neg (fun z => z.2 gw), gw]
          refine ⟨fun a => ?_, fun a => ?_⟩
          · rw [ih.1 a]
            show Except.ok _ = Except.ok _
            congr 1
            refine Prod.ext ?_ rfl
            show (lets v).map idx ++ letsAll (splitF 10 r).1 = letsAll (v :: (splitF 10 r).1)
            unfold letsAll
            simp
          · obtain ⟨k, e3⟩ := ih.2 a
            rw [e3]; exact ⟨k, rfl⟩
        · refine ⟨fun a => absurd (a.2.2 v (by simp)).2 gw, fun _ => ?_⟩
          exact ⟨_, if_pos ⟨by omega, gw⟩⟩
      · obtain ⟨k, e2⟩ := q.2 g
        refine ⟨fun a => absurd ⟨(a.2.2 v (by simp)).1, Nat.le_of_eq (a.2.2 v (by simp)).2⟩ g, fun _ => ?_⟩
        rw [e2]; exact ⟨k, rfl⟩
theorem rb_ok {t : Bytes} {x : List Nat × Nat × Nat} (h : rowsAt SIDE 0 0 t = .ok x) (h0 : x.2.2 ≠ 0) : readBlock t = .ok (ofLetters x.2.1 x.2.2 x.1) := by
  unfold readBlock; rw [h]; exact if_neg h0
theorem rb_err {t : Bytes} {k : Nat} (h : rowsAt SIDE 0 0 t = .error k) : readBlock t = .error k := by
  unfold readBlock; rw [h]
/-- the whole text -/
def wideOf (rows : List (List Int)) : Nat := (rows.headD []).length / 4
theorem block_read (t : List Int) (hb : Byt t) :
    (readRows t = [] → ∃ k, readBlock (B t) = .error k) ∧
    (readRows t ≠ [] → readBlock (B t) = .ok (ofLetters (wideOf (readRows t)) (readRows t).length (((readRows t).flatten).map idx)) ∧
      (readRows t).length ≤ 6 ∧ 0 < (readRows t).length ∧ 0 < wideOf (readRows t) ∧ wideOf (readRows t) ≤ 6 ∧ (∀ r ∈ readRows t, r.length = 4 * wideOf (readRows t)) ∧ ∀ r ∈ readRows t, ∀ x ∈ r, isLetter x = true) := by
  cases t with
  | nil =>
    refine ⟨fun _ => ⟨0, ?_⟩, fun h => absurd (by rfl) h⟩
    unfold readBlock
    rw [B_nil, rowsAt_nil]
    rfl
  | cons x t =>
    have hx : B (x :: t) = b8 x :: B t := rfl
    rcases split_cases 10 (x :: t) with h | ⟨v, r, hv, e⟩
    · have hr : readRows (x :: t) = [] := by
        unfold readRows
        rw [splitF_free h, if_pos (.inl (by simp))]
      refine ⟨fun _ => ?_, fun h => absurd hr h⟩
      obtain ⟨k, hk⟩ := row_open (if 0 = 0 then SIDE else 0) 0 (x :: t) hb h
      unfold readBlock
      rw [hx] at hk ⊢
      unfold SIDE at hk ⊢
      rw [rowsAt_eq]
      unfold SIDE
      rw [hk]
      exact ⟨k, rfl⟩
    · have hc : splitF 10 (x :: t) = (v :: (splitF 10 r).1, (splitF 10 r).2) := by rw [e]; exact splitF_cut r hv
      rw [e] at hb
      have q := row_read SIDE 0 v r hb hv
      have hbr : Byt r := fun y hy => hb y (by simp [hy])
      -- the first row
      have first : rowsAt SIDE 0 0 (B (x :: t)) = (match rowAt SIDE 0 (B (v ++ 10 :: r)) with
          | .error k => .error k
          | .ok x => if (0 : Nat) ≠ 0 ∧ x.2.1 ≠ 0 then .error (x.2.2.2 - 1) else match rowsAt 5 x.2.1 x.2.2.2 x.2.2.1 with
            | .error k => .error k
            | .ok y => .ok (x.1 ++ y.1, x.2.1, y.2.2 + 1)) := by
        rw [hx]
        show rowsAt (5 + 1) 0 0 (b8 x :: B t) = _
        rw [rowsAt_eq, ← hx, e]
        rfl
      by_cases g : goodRow v ∧ (splitM 32 v).length ≤ SIDE
      · obtain ⟨p', e2⟩ := q.1 g
        have w0 : 0 < (splitM 32 v).length := by rw [splitM_ne]; omega
        have ih := rows_read 5 (splitM 32 v).length p' r hbr w0
        have rv := readRow_good g.1 g.2
        by_cases a : (splitF 10 r).2 = [] ∧ (splitF 10 r).1.length ≤ 5 ∧ (∀ r_1 ∈ (splitF 10 r).1, goodRow r_1 ∧ (splitM 32 r_1).length = (splitM 32 v).length)
        · have e3 := ih.1 a
          have rr : ∀ z ∈ v :: (splitF 10 r).1, readRow z = lets z ∧ (readRow z).length = 4 * (splitM 32 v).length := fun z hz => by
            rcases List.mem_cons.mp hz with y | y
            · rw [y]; exact rv
            · have := a.2.2 z y
              have h2 := readRow_good this.1 (by rw [this.2]; exact g.2)
              exact ⟨h2.1, by rw [h2.2, this.2]⟩
          have hrows : readRows (x :: t) = (v :: (splitF 10 r).1).map readRow := by
            unfold readRows
            rw [hc, if_neg, if_neg]
            · rintro (z | z)
              · simp only [List.map_cons, List.headD_cons] at z
                rw [rv.2] at z; omega
              · rw [List.any_eq_true] at z
                obtain ⟨y, hy, hz⟩ := z
                rw [List.mem_map] at hy
                obtain ⟨y', hy', rfl⟩ := hy
                simp only [List.map_cons, List.headD_cons] at hz
                rw [rv.2, (rr y' hy').2] at hz
                simp at hz
            · rw [a.1]
              have := a.2.1
              simp only [List.length_nil, List.length_cons]
              omega
          have hwide : wideOf (readRows (x :: t)) = (splitM 32 v).length := by
            unfold wideOf
            rw [hrows]
            simp only [List.map_cons, List.headD_cons]
            rw [rv.2]; omega
          refine ⟨fun z => ?_, fun _ => ⟨?_, ?_, ?_, ?_, ?_, ?_, ?_⟩⟩
          · rw [hrows] at z; cases z
          · have e4 : rowsAt SIDE 0 0 (B (x :: t)) = .ok ((lets v).map idx ++ letsAll (splitF 10 r).1, (splitM 32 v).length, (splitF 10 r).1.length + 1) := by
              rw [first, e2]
              refine (if_neg (fun z => z.1 rfl)).trans ?_
              rw [e3]
            rw [rb_ok e4 (by show (splitF 10 r).1.length + 1 ≠ 0; omega)]
            rw [hwide, hrows]
            congr 1
            have hl : ((v :: (splitF 10 r).1).map readRow) = ((v :: (splitF 10 r).1).map lets) := List.map_congr_left fun z hz => (rr z hz).1
            have : (List.map idx (lets v) ++ letsAll (splitF 10 r).1) = List.map idx (List.map readRow (v :: (splitF 10 r).1)).flatten := by
              rw [hl]; unfold letsAll; simp
            rw [this]
            simp
          · rw [hrows]; have := a.2.1; simp; omega
          · rw [hrows]; simp
          · rw [hwide]; exact w0
          · rw [hwide]; exact g.2
          · rw [hwide, hrows]
            intro z hz
            rw [List.mem_map] at hz
            obtain ⟨y, hy, rfl⟩ := hz
            exact (rr y hy).2
          · rw [hrows]
            intro z hz u hu
            rw [List.mem_map] at hz
            obtain ⟨y, hy, rfl⟩ := hz
            rw [(rr y hy).1] at hu
            unfold lets at hu
            rw [List.mem_flatten] at hu
            obtain ⟨l, hl, hu⟩ := hu
            rw [List.mem_map] at hl
            obtain ⟨sq, _, rfl⟩ := hl
            unfold readSquare at hu
            split at hu
            · rename_i hall
              exact List.all_eq_true.mp hall u hu
            · cases hu
        · obtain ⟨k, e3⟩ := ih.2 a
          have hr : readRows (x :: t) = [] := by
            unfold readRows
            rw [hc]
            by_cases z : 0 < (v :: (splitF 10 r).1, (splitF 10 r).2).2.length ∨ (v :: (splitF 10 r).1, (splitF 10 r).2).1.length = 0 ∨ 6 < (v :: (splitF 10 r).1, (splitF 10 r).2).1.length
            · rw [if_pos z]
            · rw [if_neg z]
              rw [if_pos]
              right
              have h2 : (splitF 10 r).2 = [] := List.eq_nil_of_length_eq_zero (by
                have : ¬ 0 < (splitF 10 r).2.length := fun y => z (.inl y)
                omega)
              have h3 : (splitF 10 r).1.length ≤ 5 := by
                have : ¬ 6 < (splitF 10 r).1.length + 1 := fun y => z (.inr (.inr y))
                omega
              have h4 : ∃ z ∈ (splitF 10 r).1, ¬ (goodRow z ∧ (splitM 32 z).length = (splitM 32 v).length) := by
                refine Classical.byContradiction fun n => a ⟨h2, h3, fun z hz => ?_⟩
                exact Classical.byContradiction fun m => n ⟨z, hz, m⟩
              obtain ⟨z, hz, m⟩ := h4
              rw [List.any_eq_true]
              refine ⟨readRow z, List.mem_map.mpr ⟨z, by simp [hz], rfl⟩, ?_⟩
              simp only [List.map_cons, List.headD_cons, Bool.not_eq_true', decide_eq_false_iff_not]
              rw [rv.2]
              by_cases gz : goodRow z ∧ (splitM 32 z).length ≤ 6
              · rw [(readRow_good gz.1 gz.2).2]
                exact fun y => m ⟨gz.1, by omega⟩
              · rw [readRow_bad gz]
                show ¬ 0 = _
                omega
          refine ⟨fun _ => ⟨k, ?_⟩, fun h => absurd hr h⟩
          refine rb_err ?_
          rw [first, e2]
          refine (if_neg (fun z => z.1 rfl)).trans ?_
          rw [e3]
      · obtain ⟨k, e2⟩ := q.2 g
        have hr : readRows (x :: t) = [] := by
          unfold readRows
          rw [hc]
          split
          · rfl
          · rw [if_pos]
            left
            simp only [List.map_cons, List.headD_cons]
            rw [readRow_bad g]; rfl
        refine ⟨fun _ => ⟨k, ?_⟩, fun h => absurd hr h⟩
        unfold readBlock
        rw [first, e2]
end Sm
end
section
set_option linter.all false
namespace Sm
open Patch
/-! ## what hangs together -/
inductive Conn (nx : Nat → List Nat) (ok : Nat → Bool) (q : Nat) : Nat → Prop
  | base : Conn nx ok q q
  | step {x y : Nat} : Conn nx ok q x → y ∈ nx x → ok y = true → Conn nx ok q y
theorem nodup_le : ∀ (n : Nat) (l : List Nat), l.Nodup → (∀ x ∈ l, x < n) → l.length ≤ n
  | 0, l, _, h => by
    cases l with
    | nil => simp
    | cons x l => exact absurd (h x (by simp)) (by omega)
  | n + 1, l, hn, h => by
    have h1 : (l.erase n).length ≤ n := nodup_le n (l.erase n) (hn.erase n) fun x hx => by
      have := (List.Nodup.mem_erase_iff hn).mp hx
      have := h x this.2
      omega
    by_cases hm : n ∈ l
    · rw [List.length_erase_of_mem hm] at h1; omega
    · rw [List.erase_of_not_mem hm] at h1; omega
section
variable {nx : Nat → List Nat} {ok : Nat → Bool} {q n : Nat}
theorem flood_zero (st s : List Nat) : flood nx ok 0 st s = s := by unfold flood; rfl
theorem flood_nil (f : Nat) (s : List Nat) : flood nx ok f [] s = s := by cases f <;> (unfold flood; rfl)
theorem flood_cons (f x : Nat) (r s : List Nat) : flood nx ok (f + 1) (x :: r) s = if s.contains x || !ok x then flood nx ok f r s else flood nx ok f (nx x ++ r) (x :: s) := by
  conv => lhs; unfold flood
theorem flood_sound : ∀ (f : Nat) (st s : List Nat), (∀ x ∈ s, Conn nx ok q x) → (∀ y ∈ st, ok y = true → Conn nx ok q y) → ∀ x ∈ flood nx ok f st s, Conn nx ok q x
  | 0, st, s, h1, _ => by rw [flood_zero]; exact h1
  | f + 1, [], s, h1, _ => by rw [flood_nil]; exact h1
  | f + 1, y :: r, s, h1, h2 => by
    rw [flood_cons]
    split
    · exact flood_sound f r s h1 fun z hz => h2 z (by simp [hz])
    · rename_i hc
      have ho : ok y = true := by
        cases e : ok y with
        | true => rfl
        | false => rw [e] at hc; simp at hc
      have hy := h2 y (by simp) ho
      refine flood_sound f (nx y ++ r) (y :: s) (fun z hz => ?_) fun z hz hz2 => ?_
      · rcases List.mem_cons.mp hz with e | e
        · rw [e]; exact hy
        · exact h1 z e
      · rcases List.mem_append.mp hz with e | e
        · exact .step hy e hz2
        · exact h2 z (by simp [e]) hz2
theorem flood_closed (hnx : ∀ x, x < n → (nx x).length ≤ 3 ∧ ∀ y ∈ nx x, y < n) : ∀ (f : Nat) (st s : List Nat), s.Nodup → (∀ x ∈ s, x < n) → (∀ x ∈ st, x < n) → st.length + 3 * (n - s.length) ≤ f →
    (∀ x ∈ s, ∀ y ∈ nx x, ok y = true → y ∈ s ∨ y ∈ st) →
    (∀ x ∈ s, x ∈ flood nx ok f st s) ∧ (∀ x ∈ st, ok x = true → x ∈ flood nx ok f st s) ∧ ∀ x ∈ flood nx ok f st s, ∀ y ∈ nx x, ok y = true → y ∈ flood nx ok f st s
  | 0, st, s, nd, hs, ht, hf, hc => by
    have e : st = [] := List.eq_nil_of_length_eq_zero (by omega)
    subst e
    rw [flood_zero]
    exact ⟨fun x hx => hx, fun x hx => (by cases hx), fun x hx y hy ho => (hc x hx y hy ho).resolve_right (by simp)⟩
  | f + 1, [], s, nd, hs, ht, hf, hc => by
    rw [flood_nil]
    exact ⟨fun x hx => hx, fun x hx => (by cases hx), fun x hx y hy ho => (hc x hx y hy ho).resolve_right (by simp)⟩
  | f + 1, z :: r, s, nd, hs, ht, hf, hc => by
    rw [flood_cons]
    have hz := ht z (by simp)
    split
    · rename_i hcond
      have hh : z ∈ s ∨ ok z = false := by
        rw [Bool.or_eq_true] at hcond
        rcases hcond with e | e
        · exact .inl (by simpa using e)
        · exact .inr (by simpa using e)
      have ih := flood_closed hnx f r s nd hs (fun x hx => ht x (by simp [hx])) (by simp at hf; omega) (fun x hx y hy ho => by
        rcases hc x hx y hy ho with e | e
        · exact .inl e
        · rcases List.mem_cons.mp e with e | e
          · subst e
            rcases hh with z | z
            · exact .inl z
            · rw [z] at ho; cases ho
          · exact .inr e)
      refine ⟨ih.1, fun x hx ho => ?_, ih.2.2⟩
      rcases List.mem_cons.mp hx with e | e
      · subst e
        rcases hh with z | z
        · exact ih.1 _ z
        · rw [z] at ho; cases ho
      · exact ih.2.1 x e ho
    · rename_i hcond
      have hns : z ∉ s := fun e => hcond (by simp [e])
      have nd' : (z :: s).Nodup := List.nodup_cons.mpr ⟨hns, nd⟩
      have hs' : ∀ x ∈ z :: s, x < n := fun x hx => by
        rcases List.mem_cons.mp hx with e | e
        · rw [e]; exact hz
        · exact hs x e
      have hl := nodup_le n (z :: s) nd' hs'
      have ih := flood_closed hnx f (nx z ++ r) (z :: s) nd' hs' (fun x hx => by
          rcases List.mem_append.mp hx with e | e
          · exact (hnx z hz).2 x e
          · exact ht x (by simp [e])) (by
          have := (hnx z hz).1
          simp only [List.length_append, List.length_cons] at hf hl ⊢
          omega) (fun x hx y hy ho => by
          rcases List.mem_cons.mp hx with e | e
          · subst e
            exact .inr (List.mem_append_left _ hy)
          · rcases hc x e y hy ho with e2 | e2
            · exact .inl (by simp [e2])
            · rcases List.mem_cons.mp e2 with e3 | e3
              · exact .inl (by simp [e3])
              · exact .inr (List.mem_append_right _ e3))
      refine ⟨fun x hx => ih.1 x (by simp [hx]), fun x hx ho => ?_, ih.2.2⟩
      rcases List.mem_cons.mp hx with e | e
      · exact ih.1 x (by simp [e])
      · exact ih.2.1 x (List.mem_append_right _ e) ho
theorem flood_mem (hnx : ∀ x, x < n → (nx x).length ≤ 3 ∧ ∀ y ∈ nx x, y < n) (hq : q < n) (ho : ok q = true) (x : Nat) : x ∈ flood nx ok (3 * n + 2) [q] [] ↔ Conn nx ok q x := by
  constructor
  · exact flood_sound _ _ _ (fun x hx => by cases hx) (fun y hy _ => by
      have : y = q := by simpa using hy
      rw [this]; exact .base) x
  · have c := flood_closed (ok := ok) hnx (3 * n + 2) [q] [] List.nodup_nil (fun x hx => by cases hx) (fun x hx => by
      have : x = q := by simpa using hx
      rw [this]; exact hq) (by simp; omega) (fun x hx => by cases hx)
    intro h
    induction h with
    | base => exact c.2.1 q (by simp) ho
    | step _ hy ho ih => exact c.2.2 _ ih _ hy ho
end
/-! ## quarters side by side, as the program tells them -/
def near (w n q : Nat) : List Nat :=
  [4 * (q / 4) + (q % 4 + 1) % 4, 4 * (q / 4) + (q % 4 + 3) % 4] ++ (if q % 4 = 0 ∧ w ≤ q / 4 then [4 * (q / 4 - w) + 2] else []) ++ (if q % 4 = 1 ∧ (q / 4 + 1) % w ≠ 0 then [4 * (q / 4 + 1) + 3] else []) ++
    (if q % 4 = 2 ∧ 4 * (q / 4 + w) < n then [4 * (q / 4 + w)] else []) ++ (if q % 4 = 3 ∧ q / 4 % w ≠ 0 then [4 * (q / 4 - 1) + 1] else [])
theorem six {w : Nat} (h0 : 0 < w) (h6 : w ≤ 6) : w = 1 ∨ w = 2 ∨ w = 3 ∨ w = 4 ∨ w = 5 ∨ w = 6 := by omega
theorem near_next {w h q : Nat} (h0 : 0 < w) (h6 : w ≤ 6) (hq : q < 4 * (w * h)) (D : Top) (dw : D.wide = w) (dh : D.high = h) : near w (4 * (w * h)) q = D.next q := by
  unfold near Top.next Top.beyond Top.row Top.col side
  rw [dw, dh]
  have h4 : q % 4 = 0 ∨ q % 4 = 1 ∨ q % 4 = 2 ∨ q % 4 = 3 := by omega
  rcases h4 with e | e | e | e
  · rw [e]
    simp only [Nat.zero_ne_one, false_and, if_false, true_and, if_true]
    by_cases c : w ≤ q / 4
    · have c2 : ¬ q / 4 / w = 0 := fun z => by
        rcases six h0 h6 with r | r | r | r | r | r <;> subst r <;> omega
      have e3 : 4 * (q / 4 - w) + 2 = q + 2 - 4 * w := by omega
      simp [c, c2, e3]
    · have c2 : q / 4 / w = 0 := by
        rcases six h0 h6 with r | r | r | r | r | r <;> subst r <;> omega
      simp [c, c2]
  · rw [e]
    simp only [false_and, if_false, true_and, if_true]
    by_cases c : (q / 4 + 1) % w = 0
    · have c2 : q / 4 % w + 1 = w := by
        rcases six h0 h6 with r | r | r | r | r | r <;> subst r <;> omega
      simp [c, c2]
    · have c2 : ¬ q / 4 % w + 1 = w := fun z => by
        rcases six h0 h6 with r | r | r | r | r | r <;> subst r <;> omega
      have e3 : 4 * (q / 4 + 1) + 3 = q + 6 := by omega
      simp [c, c2, e3]
  · rw [e]
    simp only [false_and, if_false, true_and, if_true]
    by_cases c : 4 * (q / 4 + w) < 4 * (w * h)
    · have c2 : ¬ q / 4 / w + 1 = h := fun z => by
        rcases six h0 h6 with r | r | r | r | r | r <;> subst r <;> omega
      have e3 : 4 * (q / 4 + w) = q + 4 * w - 2 := by omega
      simp only [c, c2, if_true, if_false]
      rw [← e3]
      simp
    · have c2 : q / 4 / w + 1 = h := by
        rcases six h0 h6 with r | r | r | r | r | r <;> subst r <;> omega
      simp [c, c2]
  · rw [e]
    simp only [false_and, if_false, true_and, if_true]
    by_cases c : q / 4 % w = 0
    · simp [c]
    · have e3 : 4 * (q / 4 - 1) + 1 = q - 6 := by
        have : 0 < q / 4 := by
          rcases six h0 h6 with r | r | r | r | r | r <;> subst r <;> omega
        omega
      simp [c, e3]
theorem mem_near {w n q x : Nat} : x ∈ near w n q ↔ (x = 4 * (q / 4) + (q % 4 + 1) % 4 ∨ x = 4 * (q / 4) + (q % 4 + 3) % 4 ∨ (q % 4 = 0 ∧ w ≤ q / 4 ∧ x = 4 * (q / 4 - w) + 2) ∨ (q % 4 = 1 ∧ (q / 4 + 1) % w ≠ 0 ∧ x = 4 * (q / 4 + 1) + 3) ∨
    (q % 4 = 2 ∧ 4 * (q / 4 + w) < n ∧ x = 4 * (q / 4 + w)) ∨ (q % 4 = 3 ∧ q / 4 % w ≠ 0 ∧ x = 4 * (q / 4 - 1) + 1)) := by
  have mi : ∀ {p : Prop} [Decidable p] {a : Nat}, x ∈ (if p then [a] else []) ↔ (p ∧ x = a) := fun {p _ a} => by
    by_cases h : p
    · simp [h]
    · simp [h]
  unfold near
  simp only [List.mem_append, List.mem_cons, List.not_mem_nil, or_false, mi, and_assoc, or_assoc]
theorem near_lt {w h q : Nat} (h0 : 0 < w) (h6 : w ≤ 6) (hq : q < 4 * (w * h)) : ∀ x ∈ near w (4 * (w * h)) q, x < 4 * (w * h) := by
  intro x hx
  rw [mem_near] at hx
  rcases six h0 h6 with r | r | r | r | r | r <;> subst r <;> omega
theorem near_len {w h q : Nat} : (near w (4 * (w * h)) q).length ≤ 3 := by
  unfold near
  have h4 : q % 4 = 0 ∨ q % 4 = 1 ∨ q % 4 = 2 ∨ q % 4 = 3 := by omega
  rcases h4 with e | e | e | e <;> rw [e] <;> simp <;> split <;> simp
theorem near_symm {w h q x : Nat} (hq : q < 4 * (w * h)) (hx : x ∈ near w (4 * (w * h)) q) : q ∈ near w (4 * (w * h)) x := by
  rw [mem_near] at hx ⊢
  rcases hx with e | e | ⟨a, b, e⟩ | ⟨a, b, e⟩ | ⟨a, b, e⟩ | ⟨a, b, e⟩
  · exact .inr (.inl (by omega))
  · exact .inl (by omega)
  · exact .inr (.inr (.inr (.inr (.inl ⟨by omega, by omega, by omega⟩))))
  · refine .inr (.inr (.inr (.inr (.inr ⟨by omega, ?_, by omega⟩))))
    have : x / 4 = q / 4 + 1 := by omega
    rw [this]; exact b
  · exact .inr (.inr (.inl ⟨by omega, by omega, by omega⟩))
  · have s0 : q / 4 ≠ 0 := fun z => by rw [z, Nat.zero_mod] at b; exact b rfl
    refine .inr (.inr (.inr (.inl ⟨by omega, ?_, by omega⟩)))
    have : x / 4 + 1 = q / 4 := by omega
    rw [this]; exact b
end Sm
end
section
set_option linter.all false
namespace Sm
open Patch
def okL (L : List Nat) (q x : Nat) : Bool := L.getD x 0 == L.getD q 0
/-- x hangs together with q -/
def C (w h : Nat) (L : List Nat) (q x : Nat) : Prop := Conn (near w (4 * (w * h))) (okL L q) q x
structure Dim (w h : Nat) : Prop where
  w0 : 0 < w
  w6 : w ≤ 6
  h0 : 0 < h
  h6 : h ≤ 6
section
variable {w h : Nat} {L : List Nat} (dm : Dim w h)
include dm
theorem C_lt {q x : Nat} (hq : q < 4 * (w * h)) (c : C w h L q x) : x < 4 * (w * h) := by
  induction c with
  | base => exact hq
  | step _ hy _ ih => exact near_lt dm.w0 dm.w6 ih _ hy
omit dm in
theorem C_let {q x : Nat} (c : C w h L q x) : L.getD x 0 = L.getD q 0 := by
  induction c with
  | base => rfl
  | step _ _ ho _ => exact eq_of_beq ho
omit dm in
theorem okL_eq {q x : Nat} (e : L.getD x 0 = L.getD q 0) : okL L x = okL L q := by
  funext y; unfold okL; rw [e]
omit dm in
theorem C_trans {q x y : Nat} (a : C w h L q x) (b : C w h L x y) : C w h L q y := by
  have e := okL_eq (C_let a)
  unfold C at b
  rw [e] at b
  induction b with
  | base => exact a
  | step _ hy ho ih => exact .step ih hy ho
theorem C_symm {q x : Nat} (hq : q < 4 * (w * h)) (c : C w h L q x) : C w h L x q := by
  induction c with
  | base => exact .base
  | @step x y hx hy ho ih =>
    have hx' : C w h L q x := hx
    have hlt := C_lt dm hq hx'
    have e1 : L.getD y 0 = L.getD q 0 := eq_of_beq ho
    have e2 := C_let hx'
    have b : C w h L y x := .step .base (near_symm hlt hy) (by unfold okL; rw [e1, e2]; exact beq_self_eq_true _)
    exact C_trans b ih
/-- a patch's first quarter -/
def root (w h : Nat) (L : List Nat) (r : Nat) : Prop := r < 4 * (w * h) ∧ ∀ q, q < r → ¬ C w h L q r
omit dm in
theorem exists_root : ∀ (x : Nat), x < 4 * (w * h) → ∃ r, r ≤ x ∧ root w h L r ∧ C w h L r x := by
  intro x
  induction x using Nat.strongRecOn with
  | _ x ih =>
    intro hx
    by_cases e : ∃ q, q < x ∧ C w h L q x
    · obtain ⟨q, hq, c⟩ := e
      obtain ⟨r, h1, h2, h3⟩ := ih q hq (by omega)
      exact ⟨r, by omega, h2, C_trans h3 c⟩
    · exact ⟨x, Nat.le_refl _, ⟨hx, fun q hq c => e ⟨q, hq, c⟩⟩, .base⟩
theorem root_unique {r r' x : Nat} (a : root w h L r) (b : root w h L r') (c : C w h L r x) (c' : C w h L r' x) : r = r' := by
  have h1 : C w h L r r' := C_trans c (C_symm dm b.1 c')
  have h2 : C w h L r' r := C_trans c' (C_symm dm a.1 c)
  rcases Nat.lt_trichotomy r r' with e | e | e
  · exact absurd h1 (b.2 r e)
  · exact e
  · exact absurd h2 (a.2 r' e)
/-! ### the specification's numbering -/
omit dm in
theorem fold_set (q : Nat) : ∀ (l : List Nat) (t : List (Option Nat)), (l.foldl (fun (u : List (Option Nat)) (x : Nat) => u.set x (some q)) t).length = t.length ∧
    ∀ x, x < t.length → (l.foldl (fun (u : List (Option Nat)) (x : Nat) => u.set x (some q)) t).getD x none = if x ∈ l then some q else t.getD x none
  | [], t => ⟨rfl, fun x _ => by simp⟩
  | y :: l, t => by
    have ih := fold_set q l (t.set y (some q))
    rw [List.foldl_cons]
    refine ⟨by rw [ih.1, List.length_set], fun x hx => ?_⟩
    rw [ih.2 x (by rw [List.length_set]; exact hx)]
    by_cases h1 : x ∈ l
    · rw [if_pos h1, if_pos (by simp [h1])]
    · rw [if_neg h1]
      by_cases h2 : x = y
      · subst h2
        rw [if_pos (by simp), List.getD_eq_getElem?_getD, List.getElem?_set_self hx]; rfl
      · rw [if_neg (by simp [h1, h2]), List.getD_eq_getElem?_getD, List.getElem?_set_ne (fun z => h2 z.symm), ← List.getD_eq_getElem?_getD]
omit dm in
theorem conn_congr {nx nx' : Nat → List Nat} {ok : Nat → Bool} {q n : Nat} (hq : q < n) (e : ∀ x, x < n → nx x = nx' x) (hl : ∀ x, x < n → ∀ y ∈ nx x, y < n) (x : Nat) : Conn nx ok q x ↔ Conn nx' ok q x := by
  have lt : ∀ x, Conn nx ok q x → x < n := fun x c => by
    induction c with
    | base => exact hq
    | step _ hy _ ih => exact hl _ ih _ hy
  have lt' : ∀ x, Conn nx' ok q x → x < n := fun x c => by
    induction c with
    | base => exact hq
    | step _ hy _ ih => exact hl _ ih _ (by rw [e _ ih]; exact hy)
  constructor
  · intro c
    induction c with
    | base => exact .base
    | step hx hy ho ih => exact .step ih (by rw [← e _ (lt _ hx)]; exact hy) ho
  · intro c
    induction c with
    | base => exact .base
    | step hx hy ho ih => exact .step ih (by rw [e _ (lt' _ hx)]; exact hy) ho
theorem piece_mem {q : Nat} (hq : q < 4 * (w * h)) (D : Top) (dw : D.wide = w) (dh : D.high = h) (x : Nat) :
    x ∈ D.piece (fun (x : Nat) => L.getD x 0 == L.getD q 0) q ↔ C w h L q x := by
  have hqn : D.quarters = 4 * (w * h) := by unfold Top.quarters; rw [dw, dh]
  unfold Top.piece
  rw [hqn]
  have e : ∀ x, x < 4 * (w * h) → D.next x = near w (4 * (w * h)) x := fun x hx => (near_next dm.w0 dm.w6 hx D dw dh).symm
  have hn : ∀ x, x < 4 * (w * h) → (D.next x).length ≤ 3 ∧ ∀ y ∈ D.next x, y < 4 * (w * h) := fun x hx => by
    rw [e x hx]
    exact ⟨near_len, near_lt dm.w0 dm.w6 hx⟩
  rw [flood_mem hn hq (by simp)]
  exact conn_congr hq e (fun x hx => (hn x hx).2) x
def stepF (D : Top) (letters : List Nat) (t : List (Option Nat)) (q : Nat) : List (Option Nat) := match t.getD q none with
  | some _ => t
  | none => (D.piece (fun (x : Nat) => letters.getD x 0 == letters.getD q 0) q).foldl (fun (u : List (Option Nat)) (x : Nat) => u.set x (some q)) t
theorem firsts_inv (D : Top) (dw : D.wide = w) (dh : D.high = h) : ∀ k, k ≤ 4 * (w * h) →
    ((List.range k).foldl (stepF D L) (List.replicate (4 * (w * h)) none)).length = 4 * (w * h) ∧
    ∀ x, x < 4 * (w * h) → ∀ r, ((List.range k).foldl (stepF D L) (List.replicate (4 * (w * h)) none)).getD x none = some r ↔ (r < k ∧ root w h L r ∧ C w h L r x) := by
  intro k
  induction k with
  | zero =>
    intro _
    refine ⟨by simp, fun x hx r => ?_⟩
    rw [List.range_zero, List.foldl_nil, List.getD_eq_getElem?_getD, List.getElem?_replicate, if_pos hx]
    constructor
    · intro z; cases z
    · intro z; exact absurd z.1 (by omega)
  | succ k ih =>
    intro hk
    obtain ⟨il, iv⟩ := ih (by omega)
    rw [List.range_succ, List.foldl_append]
    generalize (List.range k).foldl (stepF D L) (List.replicate (4 * (w * h)) none) = t at il iv
    rw [List.foldl_cons, List.foldl_nil]
    have hkl : k < 4 * (w * h) := by omega
    unfold stepF
    cases ht : t.getD k none with
    | some m =>
      show t.length = _ ∧ _
      refine ⟨il, fun x hx r => ?_⟩
      rw [iv x hx r]
      constructor
      · rintro ⟨a, b, c⟩; exact ⟨by omega, b, c⟩
      · rintro ⟨a, b, c⟩
        refine ⟨?_, b, c⟩
        have hm := (iv k hkl m).mp ht
        have : r ≠ k := fun e => by
          subst e
          exact b.2 m hm.1 hm.2.2
        omega
    | none =>
      show (List.foldl _ t _).length = _ ∧ _
      have fs := fold_set k (D.piece (fun (x : Nat) => L.getD x 0 == L.getD k 0) k) t
      refine ⟨by rw [fs.1]; exact il, fun x hx r => ?_⟩
      show (List.foldl _ t _).getD x none = some r ↔ _
      rw [fs.2 x (by rw [il]; exact hx)]
      have kroot : root w h L k := by
        refine ⟨hkl, fun q hq c => ?_⟩
        obtain ⟨r0, h1, h2, h3⟩ := exists_root (w := w) (h := h) (L := L) q (by omega)
        have := (iv k hkl r0).mpr ⟨by omega, h2, C_trans h3 c⟩
        rw [ht] at this; cases this
      by_cases hm : C w h L k x
      · rw [if_pos ((piece_mem dm hkl D dw dh x).mpr hm)]
        constructor
        · intro z; cases z; exact ⟨by omega, kroot, hm⟩
        · rintro ⟨a, b, c⟩
          rw [root_unique dm b kroot c hm]
      · rw [if_neg (fun z => hm ((piece_mem dm hkl D dw dh x).mp z)), iv x hx r]
        constructor
        · rintro ⟨a, b, c⟩; exact ⟨by omega, b, c⟩
        · rintro ⟨a, b, c⟩
          refine ⟨?_, b, c⟩
          have : r ≠ k := fun e => by subst e; exact hm c
          omega
theorem firsts_spec (D : Top) (dw : D.wide = w) (dh : D.high = h) : (D.firsts L).length = 4 * (w * h) ∧ ∀ x, x < 4 * (w * h) → root w h L ((D.firsts L).getD x 0) ∧ C w h L ((D.firsts L).getD x 0) x := by
  have hqn : D.quarters = 4 * (w * h) := by unfold Top.quarters; rw [dw, dh]
  have e : D.firsts L = ((List.range (4 * (w * h))).foldl (stepF D L) (List.replicate (4 * (w * h)) none)).map fun (x : Option Nat) => x.getD 0 := by
    unfold Top.firsts Top.all
    rw [hqn]; rfl
  obtain ⟨il, iv⟩ := firsts_inv (L := L) dm D dw dh (4 * (w * h)) (Nat.le_refl _)
  rw [e]
  generalize (List.range (4 * (w * h))).foldl (stepF D L) (List.replicate (4 * (w * h)) none) = t at il iv
  refine ⟨by rw [List.length_map]; exact il, fun x hx => ?_⟩
  obtain ⟨r, h1, h2, h3⟩ := exists_root (w := w) (h := h) (L := L) x hx
  have q := (iv x hx r).mpr ⟨by omega, h2, h3⟩
  have hxl : x < t.length := by rw [il]; exact hx
  have : (t.map fun (x : Option Nat) => x.getD 0).getD x 0 = r := by
    rw [List.getD_eq_getElem?_getD, List.getElem?_map]
    rw [List.getD_eq_getElem?_getD] at q
    cases e2 : t[x]? with
    | none => rw [e2] at q; cases q
    | some v =>
      rw [e2] at q
      have : v = some r := q
      rw [this]; rfl
  rw [this]
  exact ⟨h2, h3⟩
noncomputable def rootB (w h : Nat) (L : List Nat) (r : Nat) : Bool := @decide (root w h L r) (Classical.propDecidable _)
omit dm in
theorem rootB_iff {r : Nat} : rootB w h L r = true ↔ root w h L r := by unfold rootB; simp
/-- the first quarters of the patches, rising, as far as k -/
noncomputable def roots (w h : Nat) (L : List Nat) (k : Nat) : List Nat := (List.range k).filter (rootB w h L)
omit dm in
theorem roots_succ (k : Nat) : roots w h L (k + 1) = roots w h L k ++ (if rootB w h L k = true then [k] else []) := by
  unfold roots
  rw [List.range_succ, List.filter_append]
  congr 1
  by_cases e : rootB w h L k = true
  · rw [if_pos e, List.filter_cons, if_pos e]; rfl
  · rw [if_neg e, List.filter_cons, if_neg e]; rfl
omit dm in
theorem mem_roots {k r : Nat} : r ∈ roots w h L k ↔ r < k ∧ root w h L r := by
  unfold roots; rw [List.mem_filter, List.mem_range, rootB_iff]
omit dm in
theorem roots_nodup (k : Nat) : (roots w h L k).Nodup := by
  unfold roots
  exact List.Pairwise.filter _ List.nodup_range
theorem dups_roots (D : Top) (dw : D.wide = w) (dh : D.high = h) : ∀ k, k ≤ 4 * (w * h) → ((D.firsts L).take k).eraseDups = roots w h L k := by
  obtain ⟨il, iv⟩ := firsts_spec (L := L) dm D dw dh
  generalize D.firsts L = f at il iv
  intro k
  induction k with
  | zero => intro _; rfl
  | succ k ih =>
    intro hk
    have hkl : k < f.length := by omega
    have et : f.take (k + 1) = f.take k ++ [f[k]] := by rw [List.take_succ_eq_append_getElem hkl]
    have ek : f.getD k 0 = f[k] := by rw [List.getD_eq_getElem?_getD, List.getElem?_eq_getElem hkl]; rfl
    have hr := iv k (by omega)
    rw [ek] at hr
    rw [et, List.eraseDups_append, ih (by omega), roots_succ]
    congr 1
    by_cases e : f[k] = k
    · have nm : ¬ f[k] ∈ f.take k := fun z => by
        rw [List.mem_take_iff_getElem] at z
        obtain ⟨i, hi, e2⟩ := z
        have hi' : i < 4 * (w * h) := by omega
        have q := iv i hi'
        have ei : f.getD i 0 = f[i] := by rw [List.getD_eq_getElem?_getD, List.getElem?_eq_getElem (by omega)]; rfl
        rw [ei, e2, e] at q
        have hs := C_symm dm q.1.1 q.2
        exact q.1.2 i (by omega) hs
      rw [if_pos (by rw [rootB_iff]; rw [e] at hr; exact hr.1)]
      have : [f[k]].removeAll (f.take k) = [f[k]] := by simp [List.removeAll, nm]
      rw [this, e]; rfl
    · have hlt : f[k] < k := by
        rcases Nat.lt_or_ge f[k] k with z | z
        · exact z
        · exfalso
          have hs := C_symm dm hr.1.1 hr.2
          exact hr.1.2 k (by omega) hs
      have mm : f[k] ∈ f.take k := by
        rw [List.mem_take_iff_getElem]
        refine ⟨f[k], by omega, ?_⟩
        have q := iv f[k] hr.1.1
        have ei : f.getD f[k] 0 = f[f[k]] := by rw [List.getD_eq_getElem?_getD, List.getElem?_eq_getElem (by omega)]; rfl
        rw [ei] at q
        exact root_unique dm q.1 hr.1 q.2 .base
      rw [if_neg (by rw [rootB_iff]; exact fun z => z.2 f[k] hlt hr.2)]
      have : [f[k]].removeAll (f.take k) = [] := by simp [List.removeAll, mm]
      rw [this]; rfl
/-- THE TOP: how many patches, and which quarters are of which -/
theorem top_patches : (ofLetters w h L).count = (roots w h L (4 * (w * h))).length ∧ (ofLetters w h L).wide = w ∧ (ofLetters w h L).high = h ∧
    ∀ x, x < 4 * (w * h) → ∀ j r, (roots w h L (4 * (w * h)))[j]? = some r → ((ofLetters w h L).of_ x = j ↔ C w h L r x) := by
  obtain ⟨il, iv⟩ := firsts_spec (L := L) dm (Top.mk w h [] []) rfl rfl
  have dr := dups_roots (L := L) dm (Top.mk w h [] []) rfl rfl (4 * (w * h)) (Nat.le_refl _)
  rw [← il, List.take_length] at dr
  rw [il] at dr
  refine ⟨?_, rfl, rfl, fun x hx j r hr => ?_⟩
  · unfold ofLetters Top.count
    show (List.map _ ((Top.mk w h [] []).firsts L).eraseDups).length = _
    rw [List.length_map, dr]
  · have q := iv x hx
    have e : (ofLetters w h L).of_ x = (roots w h L (4 * (w * h))).idxOf (((Top.mk w h [] []).firsts L).getD x 0) := by
      show (renumber ((Top.mk w h [] []).firsts L)).getD x 0 = _
      unfold renumber
      rw [dr, List.getD_eq_getElem?_getD, List.getElem?_map, List.getD_eq_getElem?_getD, List.getElem?_eq_getElem (by omega)]
      rfl
    rw [e]
    generalize ((Top.mk w h [] []).firsts L).getD x 0 = m at q
    have mm : m ∈ roots w h L (4 * (w * h)) := mem_roots.mpr ⟨q.1.1, q.1⟩
    have rm : r ∈ roots w h L (4 * (w * h)) := List.mem_of_getElem? hr
    obtain ⟨hj, ej⟩ := List.getElem?_eq_some_iff.mp hr
    constructor
    · intro z
      have hi := List.idxOf_lt_length_iff.mpr mm
      have := List.getElem_idxOf hi
      simp only [z] at this
      rw [ej] at this
      rw [this]; exact q.2
    · intro c
      have : m = r := root_unique dm q.1 (mem_roots.mp rm).2 q.2 c
      rw [this, ← ej]
      exact List.Nodup.idxOf_getElem (roots_nodup _) j hj
theorem of_lt {x : Nat} (hx : x < 4 * (w * h)) : (ofLetters w h L).of_ x < (ofLetters w h L).count := by
  obtain ⟨e1, _, _, e4⟩ := top_patches (L := L) dm
  obtain ⟨r, h1, h2, h3⟩ := exists_root (w := w) (h := h) (L := L) x hx
  have rm : r ∈ roots w h L (4 * (w * h)) := mem_roots.mpr ⟨h2.1, h2⟩
  obtain ⟨j, hj, ej⟩ := List.getElem_of_mem rm
  have := (e4 x hx j r (by rw [List.getElem?_eq_getElem hj, ej])).mpr h3
  rw [this, e1]; exact hj
end
/-- the program's patches: a list of quarters for each number -/
structure Patches (D : Top) (ps : List (List Nat)) : Prop where
  len : ps.length = D.count
  mem : ∀ (j : Nat) (p : List Nat), ps[j]? = some p → ∀ x, x ∈ p ↔ (x < D.quarters ∧ D.of_ x = j)
  ne : ∀ (j : Nat) (p : List Nat), ps[j]? = some p → p ≠ []
theorem patches_of {w h : Nat} {L : List Nat} (dm : Dim w h) {ps : List (List Nat)} (hl : ps.length = (roots w h L (4 * (w * h))).length)
    (hp : ∀ (j : Nat) (p : List Nat) (r : Nat), ps[j]? = some p → (roots w h L (4 * (w * h)))[j]? = some r → ∀ x, x ∈ p ↔ C w h L r x) : Patches (ofLetters w h L) ps := by
  obtain ⟨e1, e2, e3, e4⟩ := top_patches (L := L) dm
  have hq : (ofLetters w h L).quarters = 4 * (w * h) := by unfold Top.quarters; rw [e2, e3]
  have rt : ∀ (j : Nat) (p : List Nat), ps[j]? = some p → ∃ r, (roots w h L (4 * (w * h)))[j]? = some r := fun j p e => by
    obtain ⟨hj, _⟩ := List.getElem?_eq_some_iff.mp e
    exact ⟨_, List.getElem?_eq_getElem (by omega)⟩
  refine ⟨by rw [hl, e1], fun j p e x => ?_, fun j p e z => ?_⟩
  · obtain ⟨r, hr⟩ := rt j p e
    rw [hp j p r e hr x, hq]
    have rr := (mem_roots.mp (List.mem_of_getElem? hr)).2
    constructor
    · intro c
      have hx := C_lt dm rr.1 c
      exact ⟨hx, (e4 x hx j r hr).mpr c⟩
    · rintro ⟨hx, c⟩
      exact (e4 x hx j r hr).mp c
  · obtain ⟨r, hr⟩ := rt j p e
    have := (hp j p r e hr r).mpr .base
    rw [z] at this; cases this
end Sm
end
section
set_option linter.all false
namespace Sm
open Patch
/-! ## strips, spans, parts -/
def strip (w q : Nat) (d : Int) : Int :=
  if d = 0 then ((q / 4 % w : Nat) : Int) else if d = 1 then ((q / 4 / w : Nat) : Int)
  else if d = 2 then (if q % 4 = 0 ∨ q % 4 = 1 then ((q / 4 % w : Nat) : Int) - ((q / 4 / w : Nat) : Int) else ((q / 4 % w : Nat) : Int) - ((q / 4 / w : Nat) : Int) - 1)
  else (if q % 4 = 0 ∨ q % 4 = 3 then ((q / 4 % w : Nat) : Int) + ((q / 4 / w : Nat) : Int) else ((q / 4 % w : Nat) : Int) + ((q / 4 / w : Nat) : Int) + 1)
theorem before_strip (D : Top) (d : Nat) (a : Int) (q : Nat) (hd : d ≤ 3) : D.before ⟨d, a⟩ q = decide (strip D.wide q d < a) := by
  unfold Top.before Top.inX Top.inY Top.col Top.row side across strip
  show decide _ = decide _
  have h4 : q % 4 = 0 ∨ q % 4 = 1 ∨ q % 4 = 2 ∨ q % 4 = 3 := by omega
  generalize ((q / 4 % D.wide : Nat) : Int) = x
  generalize ((q / 4 / D.wide : Nat) : Int) = y
  apply decide_eq_decide.mpr
  have hdc : d = 0 ∨ d = 1 ∨ d = 2 ∨ d = 3 := by omega
  rcases hdc with e | e | e | e <;> subst e <;> rcases h4 with e | e | e | e <;> rw [e] <;> simp <;> omega
structure IsSpan (D : Top) (j d : Nat) (lo hi : Int) : Prop where
  all : ∀ x, x < D.quarters → D.of_ x = j → lo ≤ strip D.wide x d ∧ strip D.wide x d ≤ hi
  exlo : ∃ x, x < D.quarters ∧ D.of_ x = j ∧ strip D.wide x d = lo
  exhi : ∃ x, x < D.quarters ∧ D.of_ x = j ∧ strip D.wide x d = hi
abbrev Sps := List (List (Int × Int))
def lo (sp : Sps) (d j : Nat) : Int := ((sp.getD j []).getD d (0, 0)).1
def hi (sp : Sps) (d j : Nat) : Int := ((sp.getD j []).getD d (0, 0)).2
structure Spans (D : Top) (sp : Sps) : Prop where
  len : sp.length = D.count
  four : ∀ (j : Nat) (s : List (Int × Int)), sp[j]? = some s → s.length = 4
  at_ : ∀ (j d : Nat), j < D.count → d < 4 → IsSpan D j d (lo sp d j) (hi sp d j)
/-- a top whose quarters' patches are all numbered below its count -/
def Fine (D : Top) : Prop := ∀ x, x < D.quarters → D.of_ x < D.count
def region (D : Top) (P : List Nat) : List Nat := D.all.filter fun q => P.contains (D.of_ q)
theorem mem_region {D : Top} {P : List Nat} {q : Nat} : q ∈ region D P ↔ q < D.quarters ∧ D.of_ q ∈ P := by
  unfold region Top.all; rw [List.mem_filter, List.mem_range]; simp
theorem region_all {D : Top} (hf : Fine D) : region D (List.range D.count) = D.all := by
  unfold region Top.all
  rw [List.filter_eq_self]
  intro q hq
  rw [List.mem_range] at hq
  simp [hf q hq]
def befM (sp : Sps) (d : Nat) (a : Int) (P : List Nat) : List Nat := P.filter fun j => decide (hi sp d j < a)
def behM (sp : Sps) (d : Nat) (a : Int) (P : List Nat) : List Nat := P.filter fun j => decide (a ≤ lo sp d j)
def partsM (sp : Sps) (d : Nat) (a : Int) (P : List Nat) : Bool :=
  decide (0 < (befM sp d a P).length) && (decide (0 < (behM sp d a P).length) && decide ((befM sp d a P).length + (behM sp d a P).length = P.length))
theorem filter_two {A B : Nat → Bool} : ∀ (P : List Nat), (∀ j ∈ P, ¬ (A j = true ∧ B j = true)) → ((P.filter A).length + (P.filter B).length ≤ P.length ∧ ((P.filter A).length + (P.filter B).length = P.length ↔ ∀ j ∈ P, A j = true ∨ B j = true))
  | [], _ => ⟨by simp, by simp⟩
  | j :: P, h => by
    obtain ⟨i1, i2⟩ := filter_two P fun j hj => h j (by simp [hj])
    have hj := h j (by simp)
    rw [List.filter_cons, List.filter_cons]
    cases ea : A j with
    | true =>
      cases eb : B j with
      | true => exact absurd ⟨ea, eb⟩ hj
      | false =>
        simp only [if_true, List.length_cons, Bool.false_eq_true, if_false]
        refine ⟨by omega, ?_⟩
        constructor
        · intro z x hx
          rcases List.mem_cons.mp hx with e | e
          · rw [e]; exact .inl ea
          · exact i2.mp (by omega) x e
        · intro z
          have := i2.mpr fun x hx => z x (by simp [hx])
          omega
    | false =>
      cases eb : B j with
      | true =>
        simp only [if_true, List.length_cons, Bool.false_eq_true, if_false]
        refine ⟨by omega, ?_⟩
        constructor
        · intro z x hx
          rcases List.mem_cons.mp hx with e | e
          · rw [e]; exact .inr eb
          · exact i2.mp (by omega) x e
        · intro z
          have := i2.mpr fun x hx => z x (by simp [hx])
          omega
      | false =>
        simp only [Bool.false_eq_true, if_false, List.length_cons]
        refine ⟨by omega, ?_⟩
        constructor
        · intro z; omega
        · intro z
          rcases z j (by simp) with e | e
          · rw [ea] at e; cases e
          · rw [eb] at e; cases e
section
variable {D : Top} {sp : Sps} (S : Spans D sp) {P : List Nat} (hP : ∀ j ∈ P, j < D.count) {d : Nat} (hd : d ≤ 3) (a : Int)
include S hP hd
theorem two_sides : ∀ j ∈ P, ¬ (decide (hi sp d j < a) = true ∧ decide (a ≤ lo sp d j) = true) := by
  rintro j hj ⟨e1, e2⟩
  have s := S.at_ j d (hP j hj) (by omega)
  obtain ⟨x, hx, ho, _⟩ := s.exlo
  have := s.all x hx ho
  simp only [decide_eq_true_eq] at e1 e2
  omega
theorem cut_iff : ((befM sp d a P).length + (behM sp d a P).length = P.length) ↔ ∀ j ∈ P, hi sp d j < a ∨ a ≤ lo sp d j := by
  have := (filter_two P (two_sides S hP hd a)).2
  unfold befM behM
  rw [this]
  constructor
  · intro z j hj
    rcases z j hj with e | e
    · exact .inl (by simpa using e)
    · exact .inr (by simpa using e)
  · intro z j hj
    rcases z j hj with e | e
    · exact .inl (by simpa using e)
    · exact .inr (by simpa using e)
theorem parts_iff : D.parts ⟨d, a⟩ (region D P) = partsM sp d a P := by
  have bs : ∀ q, D.before ⟨d, a⟩ q = decide (strip D.wide q d < a) := fun q => before_strip D d a q hd
  have mf : ∀ q, q ∈ D.fore ⟨d, a⟩ (region D P) ↔ (q < D.quarters ∧ D.of_ q ∈ P ∧ strip D.wide q d < a) := fun q => by
    unfold Top.fore; rw [List.mem_filter, mem_region, bs]; simp [and_assoc]
  have mh : ∀ q, q ∈ D.hind ⟨d, a⟩ (region D P) ↔ (q < D.quarters ∧ D.of_ q ∈ P ∧ a ≤ strip D.wide q d) := fun q => by
    unfold Top.hind; rw [List.mem_filter, mem_region, bs]; simp [and_assoc]
  have mp : ∀ (R : List Nat) (j : Nat), j ∈ D.patchesIn R ↔ ∃ q ∈ R, D.of_ q = j := fun R j => by
    unfold Top.patchesIn; rw [List.mem_eraseDups, List.mem_map]
  have key : D.parts ⟨d, a⟩ (region D P) = true ↔ partsM sp d a P = true := by
    unfold Top.parts partsM
    simp only [Bool.and_eq_true, Bool.not_eq_true', List.isEmpty_eq_false_iff_exists_mem, List.all_eq_true, decide_eq_true_eq]
    rw [cut_iff S hP hd a]
    have nb : (0 < (befM sp d a P).length) ↔ ∃ j ∈ P, hi sp d j < a := by
      unfold befM
      rw [List.length_pos_iff_exists_mem]
      constructor
      · rintro ⟨j, hj⟩
        rw [List.mem_filter] at hj
        exact ⟨j, hj.1, by simpa using hj.2⟩
      · rintro ⟨j, hj, e⟩
        exact ⟨j, List.mem_filter.mpr ⟨hj, by simpa using e⟩⟩
    have nh : (0 < (behM sp d a P).length) ↔ ∃ j ∈ P, a ≤ lo sp d j := by
      unfold behM
      rw [List.length_pos_iff_exists_mem]
      constructor
      · rintro ⟨j, hj⟩
        rw [List.mem_filter] at hj
        exact ⟨j, hj.1, by simpa using hj.2⟩
      · rintro ⟨j, hj, e⟩
        exact ⟨j, List.mem_filter.mpr ⟨hj, by simpa using e⟩⟩
    rw [nb, nh]
    constructor
    · rintro ⟨⟨q1, hq1⟩, ⟨q2, hq2⟩, hall⟩
      have each : ∀ j ∈ P, hi sp d j < a ∨ a ≤ lo sp d j := by
        intro j hj
        refine Classical.byContradiction fun n => ?_
        have s := S.at_ j d (hP j hj) (by omega)
        obtain ⟨x, hx, ox, ex⟩ := s.exlo
        obtain ⟨y, hy, oy, ey⟩ := s.exhi
        have h1 : j ∈ D.patchesIn (D.fore ⟨d, a⟩ (region D P)) := (mp _ _).mpr ⟨x, (mf x).mpr ⟨hx, by rw [ox]; exact hj, by omega⟩, ox⟩
        have h2 : j ∈ D.patchesIn (D.hind ⟨d, a⟩ (region D P)) := (mp _ _).mpr ⟨y, (mh y).mpr ⟨hy, by rw [oy]; exact hj, by omega⟩, oy⟩
        have := hall j h2
        simp [h1] at this
      refine ⟨?_, ?_, each⟩
      · obtain ⟨a1, a2, a3⟩ := (mf q1).mp hq1
        refine ⟨_, a2, ?_⟩
        have s := (S.at_ _ d (hP _ a2) (by omega)).all q1 a1 rfl
        rcases each _ a2 with e | e
        · exact e
        · omega
      · obtain ⟨a1, a2, a3⟩ := (mh q2).mp hq2
        refine ⟨_, a2, ?_⟩
        have s := (S.at_ _ d (hP _ a2) (by omega)).all q2 a1 rfl
        rcases each _ a2 with e | e
        · omega
        · exact e
    · rintro ⟨⟨j1, hj1, e1⟩, ⟨j2, hj2, e2⟩, each⟩
      refine ⟨?_, ?_, ?_⟩
      · obtain ⟨x, hx, ox, ex⟩ := (S.at_ j1 d (hP j1 hj1) (by omega)).exhi
        exact ⟨x, (mf x).mpr ⟨hx, by rw [ox]; exact hj1, by omega⟩⟩
      · obtain ⟨x, hx, ox, ex⟩ := (S.at_ j2 d (hP j2 hj2) (by omega)).exlo
        exact ⟨x, (mh x).mpr ⟨hx, by rw [ox]; exact hj2, by omega⟩⟩
      · intro j hj
        rw [mp] at hj
        obtain ⟨q, hq, oq⟩ := hj
        obtain ⟨a1, a2, a3⟩ := (mh q).mp hq
        rw [oq] at a2
        have hb : a ≤ lo sp d j := by
          have s := (S.at_ j d (hP j a2) (by omega)).all q a1 oq
          rcases each j a2 with e | e
          · omega
          · exact e
        have : j ∉ D.patchesIn (D.fore ⟨d, a⟩ (region D P)) := fun z => by
          rw [mp] at z
          obtain ⟨q', hq', oq'⟩ := z
          obtain ⟨b1, b2, b3⟩ := (mf q').mp hq'
          have s := (S.at_ j d (hP j a2) (by omega)).all q' b1 oq'
          omega
        simpa using this
  cases e : partsM sp d a P with
  | true => exact key.mpr e
  | false =>
    cases e2 : D.parts ⟨d, a⟩ (region D P) with
    | false => rfl
    | true => rw [key.mp e2] at e; cases e
theorem fore_region (h : partsM sp d a P = true) : D.fore ⟨d, a⟩ (region D P) = region D (befM sp d a P) ∧ D.hind ⟨d, a⟩ (region D P) = region D (behM sp d a P) := by
  have bs : ∀ q, D.before ⟨d, a⟩ q = decide (strip D.wide q d < a) := fun q => before_strip D d a q hd
  have each : ∀ j ∈ P, hi sp d j < a ∨ a ≤ lo sp d j := by
    unfold partsM at h
    simp only [Bool.and_eq_true, decide_eq_true_eq] at h
    exact (cut_iff S hP hd a).mp h.2.2
  have side : ∀ q, q < D.quarters → D.of_ q ∈ P → (strip D.wide q d < a ↔ hi sp d (D.of_ q) < a) := fun q hq ho => by
    have s := (S.at_ _ d (hP _ ho) (by omega)).all q hq rfl
    rcases each _ ho with e | e <;> constructor <;> intro z <;> omega
  have side2 : ∀ q, q < D.quarters → D.of_ q ∈ P → (¬ strip D.wide q d < a ↔ a ≤ lo sp d (D.of_ q)) := fun q hq ho => by
    have s := (S.at_ _ d (hP _ ho) (by omega)).all q hq rfl
    rcases each _ ho with e | e <;> constructor <;> intro z <;> omega
  constructor
  · unfold Top.fore region
    rw [List.filter_filter]
    refine List.filter_congr fun q hq => ?_
    have hq : q < D.quarters := by unfold Top.all at hq; exact List.mem_range.mp hq
    rw [bs]
    unfold befM
    by_cases ho : D.of_ q ∈ P
    · have := side q hq ho
      by_cases hs : strip D.wide q d < a
      · have h2 := this.mp hs
        simp [ho, hs, h2]
      · have h2 : ¬ hi sp d (D.of_ q) < a := fun z => hs (this.mpr z)
        simp [ho, hs, h2]
    · simp [ho]
  · unfold Top.hind region
    rw [List.filter_filter]
    refine List.filter_congr fun q hq => ?_
    have hq : q < D.quarters := by unfold Top.all at hq; exact List.mem_range.mp hq
    rw [bs]
    unfold behM
    by_cases ho : D.of_ q ∈ P
    · have := side2 q hq ho
      by_cases hs : strip D.wide q d < a
      · have h2 : ¬ a ≤ lo sp d (D.of_ q) := fun z => this.mpr z hs
        simp [ho, hs, h2]
      · have h2 := this.mp hs
        simp [ho, h2]
        omega
    · simp [ho]
end
end Sm
end
section
set_option linter.all false
namespace Sm
open Patch
theorem dups_cons (a : Nat) (l : List Nat) : (a :: l).eraseDups = a :: (l.filter fun b => !b == a).eraseDups := List.eraseDups_cons
theorem nodup_dups : ∀ (n : Nat) (l : List Nat), l.length ≤ n → l.eraseDups.Nodup
  | 0, l, h => by
    have : l = [] := List.eq_nil_of_length_eq_zero (by omega)
    subst this; exact List.nodup_nil
  | n + 1, [], _ => List.nodup_nil
  | n + 1, a :: l, h => by
    rw [dups_cons]
    refine List.nodup_cons.mpr ⟨fun z => ?_, nodup_dups n _ ?_⟩
    · rw [List.mem_eraseDups, List.mem_filter] at z
      simp at z
    · have := List.length_filter_le (fun b => !b == a) l
      simp only [List.length_cons] at h
      omega
theorem nodup_sub : ∀ (l m : List Nat), l.Nodup → (∀ x ∈ l, x ∈ m) → l.length ≤ m.length
  | [], m, _, _ => by simp
  | a :: l, m, hn, h => by
    have ha := h a (by simp)
    have hn' := List.nodup_cons.mp hn
    have ih := nodup_sub l (m.erase a) hn'.2 fun x hx => by
      have hne : x ≠ a := fun e => hn'.1 (by rw [← e]; exact hx)
      exact (List.mem_erase_of_ne hne).mpr (h x (by simp [hx]))
    rw [List.length_erase_of_mem ha] at ih
    have : 0 < m.length := List.length_pos_of_mem ha
    simp only [List.length_cons]
    omega
/-- a piece: whole patches, each told once -/
structure Piece (D : Top) (P : List Nat) : Prop where
  nd : P.Nodup
  lt : ∀ j ∈ P, j < D.count
/-- every patch has a quarter -/
def Full (D : Top) : Prop := ∀ j, j < D.count → ∃ x, x < D.quarters ∧ D.of_ x = j
theorem Spans.full {D : Top} {sp : Sps} (S : Spans D sp) : Full D := fun j hj => by
  obtain ⟨x, h1, h2, _⟩ := (S.at_ j 0 hj (by omega)).exlo
  exact ⟨x, h1, h2⟩
section
variable {D : Top} (fu : Full D) {P : List Nat} (pc : Piece D P)
include fu pc
theorem mem_in {j : Nat} : j ∈ D.patchesIn (region D P) ↔ j ∈ P := by
  unfold Top.patchesIn
  rw [List.mem_eraseDups, List.mem_map]
  constructor
  · rintro ⟨q, hq, rfl⟩
    exact (mem_region.mp hq).2
  · intro hj
    obtain ⟨x, h1, h2⟩ := fu j (pc.lt j hj)
    exact ⟨x, mem_region.mpr ⟨h1, by rw [h2]; exact hj⟩, h2⟩
theorem len_in : (D.patchesIn (region D P)).length = P.length := by
  have nd : (D.patchesIn (region D P)).Nodup := nodup_dups _ _ (Nat.le_refl _)
  have h1 := nodup_sub _ P nd fun x hx => (mem_in fu pc).mp hx
  have h2 := nodup_sub P _ pc.nd fun x hx => (mem_in fu pc).mpr hx
  omega
theorem one_in {p : Nat} (h : P = [p]) : D.patchesIn (region D P) = [p] := by
  have hl := len_in fu pc
  have hm : ∀ j, j ∈ D.patchesIn (region D P) ↔ j ∈ P := fun j => mem_in fu pc
  generalize D.patchesIn (region D P) = M at hl hm
  rw [h] at hl hm
  match M, hl, hm with
  | [m], _, hm =>
    have := (hm m).mp (by simp)
    have : m = p := by simpa using this
    rw [this]
end
/-! ### the first line -/
structure FirstL (sp : Sps) (P : List Nat) (d : Nat) (a : Int) : Prop where
  d3 : d ≤ 3
  yes : partsM sp d a P = true
  dirs : ∀ d', d' < d → ∀ a', partsM sp d' a' P = false
  ats : ∀ a', a' < a → partsM sp d a' P = false
def NoLine (sp : Sps) (P : List Nat) : Prop := ∀ d, d ≤ 3 → ∀ a, partsM sp d a P = false
def lexL (l m : Line) : Prop := l.dir < m.dir ∨ (l.dir = m.dir ∧ l.at_ < m.at_)
theorem lines_sorted (D : Top) : D.lines.Pairwise lexL := by
  unfold Top.lines
  have one : ∀ (d n : Nat) (o : Int), ((List.range n).map (fun (i : Nat) => Line.mk d ((i : Int) - o))).Pairwise lexL := fun d n o => by
    rw [List.pairwise_map]
    exact List.pairwise_lt_range.imp fun h => .inr ⟨rfl, by show (_ : Int) - o < (_ : Int) - o; omega⟩
  have one0 : ∀ (d n : Nat), ((List.range n).map (fun (i : Nat) => Line.mk d (i : Int))).Pairwise lexL := fun d n => by
    have := one d n 0
    simpa using this
  have dir : ∀ (d n : Nat) (f : Nat → Int) (l : Line), l ∈ (List.range n).map (fun (i : Nat) => Line.mk d (f i)) → l.dir = d := fun d n f l h => by
    rw [List.mem_map] at h
    obtain ⟨i, _, rfl⟩ := h
    rfl
  rw [List.pairwise_append, List.pairwise_append, List.pairwise_append]
  refine ⟨one0 0 _, ⟨one0 1 _, ⟨one 2 _ _, one0 3 _, ?_⟩, ?_⟩, ?_⟩
  · intro l hl m hm
    exact .inl (by rw [dir 2 _ _ l hl, dir 3 _ (fun i => (i : Int)) m hm]; omega)
  · intro l hl m hm
    refine .inl ?_
    rw [dir 1 _ (fun i => (i : Int)) l hl]
    rcases List.mem_append.mp hm with z | z
    · rw [dir 2 _ _ m z]; omega
    · rw [dir 3 _ (fun i => (i : Int)) m z]; omega
  · intro l hl m hm
    refine .inl ?_
    rw [dir 0 _ (fun i => (i : Int)) l hl]
    rcases List.mem_append.mp hm with z | z
    · rw [dir 1 _ (fun i => (i : Int)) m z]; omega
    · rcases List.mem_append.mp z with z | z
      · rw [dir 2 _ _ m z]; omega
      · rw [dir 3 _ (fun i => (i : Int)) m z]; omega
theorem lines_dir (D : Top) : ∀ l ∈ D.lines, l.dir ≤ 3 := by
  intro l hl
  unfold Top.lines at hl
  rcases List.mem_append.mp hl with z | z
  · rw [List.mem_map] at z; obtain ⟨i, _, rfl⟩ := z; show (0 : Nat) ≤ 3; omega
  · rcases List.mem_append.mp z with z | z
    · rw [List.mem_map] at z; obtain ⟨i, _, rfl⟩ := z; show (1 : Nat) ≤ 3; omega
    · rcases List.mem_append.mp z with z | z
      · rw [List.mem_map] at z; obtain ⟨i, _, rfl⟩ := z; show (2 : Nat) ≤ 3; omega
      · rw [List.mem_map] at z; obtain ⟨i, _, rfl⟩ := z; show (3 : Nat) ≤ 3; omega
theorem strip_range {D : Top} (w0 : 0 < D.wide) {q : Nat} (hq : q < D.quarters) : (0 ≤ strip D.wide q ((0 : Nat) : Int) ∧ strip D.wide q ((0 : Nat) : Int) < D.wide) ∧ (0 ≤ strip D.wide q ((1 : Nat) : Int) ∧ strip D.wide q ((1 : Nat) : Int) < D.high) ∧
    (-(D.high : Int) ≤ strip D.wide q ((2 : Nat) : Int) ∧ strip D.wide q ((2 : Nat) : Int) < D.wide) ∧ (0 ≤ strip D.wide q ((3 : Nat) : Int) ∧ strip D.wide q ((3 : Nat) : Int) < D.wide + D.high) := by
  have hx : q / 4 % D.wide < D.wide := Nat.mod_lt _ w0
  have hy : q / 4 / D.wide < D.high := by
    refine Nat.div_lt_of_lt_mul ?_
    unfold Top.quarters at hq
    omega
  unfold strip
  generalize q / 4 % D.wide = x at hx
  generalize q / 4 / D.wide = y at hy
  simp
  refine ⟨by omega, by omega, ?_, ?_⟩
  · split <;> omega
  · split <;> omega
section
variable {D : Top} {sp : Sps} (S : Spans D sp) (w0 : 0 < D.wide) {P : List Nat} (hP : ∀ j ∈ P, j < D.count)
include S w0 hP
theorem line_mem {d : Nat} {a : Int} (hd : d ≤ 3) (h : partsM sp d a P = true) : Line.mk d a ∈ D.lines := by
  unfold partsM at h
  simp only [Bool.and_eq_true, decide_eq_true_eq] at h
  obtain ⟨h1, h2, _⟩ := h
  rw [List.length_pos_iff_exists_mem] at h1 h2
  obtain ⟨j1, h1⟩ := h1
  obtain ⟨j2, h2⟩ := h2
  unfold befM at h1
  unfold behM at h2
  rw [List.mem_filter] at h1 h2
  simp only [decide_eq_true_eq] at h1 h2
  obtain ⟨x, hx, _, ex⟩ := (S.at_ j1 d (hP j1 h1.1) (by omega)).exhi
  obtain ⟨y, hy, _, ey⟩ := (S.at_ j2 d (hP j2 h2.1) (by omega)).exlo
  have rx := strip_range w0 hx
  have ry := strip_range w0 hy
  have b1 := h1.2
  have b2 := h2.2
  unfold Top.lines
  have hdc : d = 0 ∨ d = 1 ∨ d = 2 ∨ d = 3 := by omega
  rcases hdc with e | e | e | e <;> subst e
  · refine List.mem_append_left _ (List.mem_map.mpr ⟨a.toNat, List.mem_range.mpr ?_, ?_⟩)
    · have := rx.1; have := ry.1; omega
    · have := rx.1; congr 1; omega
  · refine List.mem_append_right _ (List.mem_append_left _ (List.mem_map.mpr ⟨a.toNat, List.mem_range.mpr ?_, ?_⟩))
    · have := rx.2.1; have := ry.2.1; omega
    · have := rx.2.1; congr 1; omega
  · refine List.mem_append_right _ (List.mem_append_right _ (List.mem_append_left _ (List.mem_map.mpr ⟨(a + D.high).toNat, List.mem_range.mpr ?_, ?_⟩)))
    · have := rx.2.2.1; have := ry.2.2.1; omega
    · have := rx.2.2.1; congr 1; omega
  · refine List.mem_append_right _ (List.mem_append_right _ (List.mem_append_right _ (List.mem_map.mpr ⟨a.toNat, List.mem_range.mpr ?_, ?_⟩)))
    · have := rx.2.2.2; have := ry.2.2.2; omega
    · have := rx.2.2.2; congr 1; omega
omit w0 in
theorem parting_none (h : NoLine sp P) : D.parting (region D P) = none := by
  unfold Top.parting
  rw [List.find?_eq_none]
  intro l hl
  have hd := lines_dir D l hl
  show ¬ D.parts ⟨l.dir, l.at_⟩ (region D P) = true
  rw [parts_iff S hP hd, h l.dir hd]; simp
theorem parting_some {d : Nat} {a : Int} (h : FirstL sp P d a) : D.parting (region D P) = some ⟨d, a⟩ := by
  unfold Top.parting
  rw [List.find?_eq_some_iff_append]
  refine ⟨by rw [parts_iff S hP h.d3]; exact h.yes, ?_⟩
  obtain ⟨as, bs, e⟩ := List.append_of_mem (line_mem S w0 hP h.d3 h.yes)
  refine ⟨as, bs, e, fun l hl => ?_⟩
  have so := lines_sorted D
  rw [e, List.pairwise_append] at so
  have lt := so.2.2 l hl ⟨d, a⟩ (by simp)
  have hd := lines_dir D l (by rw [e]; simp [hl])
  show (!D.parts ⟨l.dir, l.at_⟩ (region D P)) = true
  rw [parts_iff S hP hd]
  rcases lt with z | ⟨z1, z2⟩
  · rw [h.dirs l.dir z]; rfl
  · have z1 : l.dir = d := z1
    rw [z1, h.ats l.at_ z2]; rfl
end
theorem parts_small {D : Top} {P : List Nat} {sp : Sps} {d : Nat} {a : Int} (pc : Piece D P) (h : partsM sp d a P = true) :
    Piece D (befM sp d a P) ∧ Piece D (behM sp d a P) ∧ 0 < (befM sp d a P).length ∧ 0 < (behM sp d a P).length ∧ (befM sp d a P).length + (behM sp d a P).length = P.length := by
  unfold partsM at h
  simp only [Bool.and_eq_true, decide_eq_true_eq] at h
  refine ⟨⟨List.Pairwise.filter _ pc.nd, fun j hj => pc.lt j (List.mem_filter.mp hj).1⟩, ⟨List.Pairwise.filter _ pc.nd, fun j hj => pc.lt j (List.mem_filter.mp hj).1⟩, h.1, h.2.1, h.2.2⟩
/-! ### the first plan of a piece -/
theorem fp_one {D : Top} {R : Region} {p : Nat} (f : Nat) (h : D.patchesIn R = [p]) : firstPlan D f R = some (.patch p) := by
  unfold firstPlan; simp only [h]
theorem fp_more {D : Top} {R : Region} (g : Nat) (h : 2 ≤ (D.patchesIn R).length) : firstPlan D (g + 1) R = (match D.parting R with
      | none => none
      | some l => match firstPlan D g (D.fore l R), firstPlan D g (D.hind l R) with
        | some a, some b => some (.seam l a b)
        | _, _ => none) := by
  conv => lhs; unfold firstPlan
  match hq : D.patchesIn R, h with
  | a :: b :: r, _ => rfl
def planP (D : Top) (P : List Nat) : Option Plan := firstPlan D P.length (region D P)
section
variable {D : Top} {sp : Sps} (S : Spans D sp) (w0 : 0 < D.wide)
include S w0
theorem plan_fuel : ∀ (n : Nat) (P : List Nat), P.length ≤ n → 0 < P.length → Piece D P → ∀ f, P.length ≤ f → firstPlan D f (region D P) = planP D P := by
  intro n
  induction n with
  | zero => intro P h1 h2; omega
  | succ n ih =>
    intro P hn h0 pc f hf
    unfold planP
    by_cases h1 : P.length = 1
    · match P, h1 with
      | [p], _ =>
        have := one_in S.full pc rfl
        rw [fp_one f this, fp_one _ this]
    · have h2 : 2 ≤ (D.patchesIn (region D P)).length := by rw [len_in S.full pc]; omega
      obtain ⟨g, rfl⟩ : ∃ g, f = g + 1 := ⟨f - 1, by omega⟩
      obtain ⟨m, hm⟩ : ∃ m, P.length = m + 1 := ⟨P.length - 1, by omega⟩
      rw [hm, fp_more g h2, fp_more m h2]
      cases hp : D.parting (region D P) with
      | none => rfl
      | some l =>
        have hl : D.parts l (region D P) = true := by
          unfold Top.parting at hp
          exact List.find?_some (p := fun l => D.parts l (region D P)) hp
        have hmem : l ∈ D.lines := by unfold Top.parting at hp; exact List.mem_of_find?_eq_some hp
        have hd := lines_dir D l hmem
        have hpm : partsM sp l.dir l.at_ P = true := by
          have := parts_iff S pc.lt hd l.at_
          rw [← this]; exact hl
        obtain ⟨e1, e2⟩ := fore_region S pc.lt hd l.at_ hpm
        have e1 : D.fore l (region D P) = _ := e1
        have e2 : D.hind l (region D P) = _ := e2
        obtain ⟨p1, p2, b1, b2, bs⟩ := parts_small pc hpm
        show (match firstPlan D g (D.fore l (region D P)), firstPlan D g (D.hind l (region D P)) with
          | some a, some b => some (Plan.seam l a b)
          | _, _ => none) = (match firstPlan D m (D.fore l (region D P)), firstPlan D m (D.hind l (region D P)) with
          | some a, some b => some (Plan.seam l a b)
          | _, _ => none)
        rw [e1, e2, ih _ (by omega) b1 p1 g (by omega), ih _ (by omega) b1 p1 m (by omega), ih _ (by omega) b2 p2 g (by omega), ih _ (by omega) b2 p2 m (by omega)]
omit w0 in
theorem plan_one {P : List Nat} {p : Nat} (pc : Piece D P) (h : P = [p]) : planP D P = some (.patch p) := fp_one _ (one_in S.full pc h)
omit w0 in
theorem plan_none {P : List Nat} (pc : Piece D P) (h2 : 2 ≤ P.length) (h : NoLine sp P) : planP D P = none := by
  have h2' : 2 ≤ (D.patchesIn (region D P)).length := by rw [len_in S.full pc]; omega
  unfold planP
  obtain ⟨m, hm⟩ : ∃ m, P.length = m + 1 := ⟨P.length - 1, by omega⟩
  rw [hm, fp_more m h2', parting_none S pc.lt h]
theorem plan_some {P : List Nat} {d : Nat} {a : Int} (pc : Piece D P) (h : FirstL sp P d a) : planP D P = (match planP D (befM sp d a P), planP D (behM sp d a P) with
    | some x, some y => some (.seam ⟨d, a⟩ x y)
    | _, _ => none) := by
  obtain ⟨p1, p2, b1, b2, bs⟩ := parts_small pc h.yes
  have h2' : 2 ≤ (D.patchesIn (region D P)).length := by rw [len_in S.full pc]; omega
  obtain ⟨m, hm⟩ : ∃ m, P.length = m + 1 := ⟨P.length - 1, by omega⟩
  obtain ⟨e1, e2⟩ := fore_region S pc.lt h.d3 a h.yes
  conv => lhs; unfold planP
  rw [hm, fp_more m h2', parting_some S w0 pc.lt h]
  show (match firstPlan D m (D.fore ⟨d, a⟩ (region D P)), firstPlan D m (D.hind ⟨d, a⟩ (region D P)) with
          | some x, some y => some (Plan.seam ⟨d, a⟩ x y)
          | _, _ => none) = _
  rw [e1, e2, plan_fuel S w0 _ _ (Nat.le_refl _) b1 p1 m (by omega), plan_fuel S w0 _ _ (Nat.le_refl _) b2 p2 m (by omega)]
omit S w0 in
theorem whole_piece : Piece D (List.range D.count) := ⟨List.nodup_range, fun j hj => List.mem_range.mp hj⟩
omit S w0 in
theorem plan_whole (hf : Fine D) : D.plan = planP D (List.range D.count) := by
  unfold Top.plan planP
  rw [region_all hf, List.length_range]
end
end Sm
end
section
set_option linter.all false
namespace Sm
open Patch
/-! ## the program's letters are the specification's -/
theorem idx_inj {a b : Int} (ha : isLetter a = true) (hb : isLetter b = true) (h : idx a = idx b) : a = b := by
  unfold isLetter at ha hb
  simp only [Bool.or_eq_true, Bool.and_eq_true, decide_eq_true_eq] at ha hb
  unfold idx at h
  split at h <;> split at h <;> omega
def okI (L : List Int) (q x : Nat) : Bool := decide (L.getD x 0 = L.getD q 0)
def CI (w h : Nat) (L : List Int) (q x : Nat) : Prop := Conn (near w (4 * (w * h))) (okI L q) q x
theorem getD_idx {L : List Int} {x : Nat} (hx : x < L.length) : (L.map idx).getD x 0 = idx (L.getD x 0) := by
  rw [List.getD_eq_getElem?_getD, List.getElem?_map, List.getD_eq_getElem?_getD, List.getElem?_eq_getElem hx]; rfl
theorem getD_letter {L : List Int} (hL : ∀ x ∈ L, isLetter x = true) {x : Nat} (hx : x < L.length) : isLetter (L.getD x 0) = true := by
  rw [List.getD_eq_getElem?_getD, List.getElem?_eq_getElem hx]; exact hL _ (List.getElem_mem hx)
theorem ok_same {L : List Int} (hL : ∀ x ∈ L, isLetter x = true) {q x : Nat} (hq : q < L.length) (hx : x < L.length) : okI L q x = okL (L.map idx) q x := by
  unfold okI okL
  rw [getD_idx hq, getD_idx hx]
  by_cases e : L.getD x 0 = L.getD q 0
  · rw [e]; simp
  · rw [decide_eq_false e]
    symm
    rw [beq_eq_false_iff_ne]
    exact fun z => e (idx_inj (getD_letter hL hx) (getD_letter hL hq) z)
theorem CI_iff {w h : Nat} (dm : Dim w h) {L : List Int} (hL : ∀ x ∈ L, isLetter x = true) (hl : L.length = 4 * (w * h)) {q : Nat} (hq : q < 4 * (w * h)) (x : Nat) : CI w h L q x ↔ C w h (L.map idx) q x := by
  constructor
  · intro c
    have : C w h (L.map idx) q x ∧ x < 4 * (w * h) := by
      induction c with
      | base => exact ⟨.base, hq⟩
      | @step x y _ hy ho ih =>
        have hyl := near_lt dm.w0 dm.w6 ih.2 _ hy
        exact ⟨.step ih.1 hy (by rw [← ok_same hL (by omega) (by omega)]; exact ho), hyl⟩
    exact this.1
  · intro c
    have : CI w h L q x ∧ x < 4 * (w * h) := by
      induction c with
      | base => exact ⟨.base, hq⟩
      | @step x y _ hy ho ih =>
        have hyl := near_lt dm.w0 dm.w6 ih.2 _ hy
        exact ⟨.step ih.1 hy (by rw [ok_same hL (by omega) (by omega)]; exact ho), hyl⟩
    exact this.1
theorem CI_lt {w h : Nat} (dm : Dim w h) {L : List Int} {q x : Nat} (hq : q < 4 * (w * h)) (c : CI w h L q x) : x < 4 * (w * h) := by
  induction c with
  | base => exact hq
  | step _ hy _ ih => exact near_lt dm.w0 dm.w6 ih _ hy
theorem dim_le {w h : Nat} (dm : Dim w h) : 4 * (w * h) ≤ 144 := by
  have := Nat.mul_le_mul dm.w6 dm.h6
  omega
/-- what the search for a patch has come to: P the quarters found, the first n of them looked around at -/
structure Search (w h : Nat) (L : List Int) (start n : Nat) (P : List Nat) : Prop where
  nd : P.Nodup
  sound : ∀ x ∈ P, CI w h L start x
  st : start ∈ P
  le : n ≤ P.length
  closed : ∀ (i x : Nat), i < n → P[i]? = some x → ∀ y ∈ near w (4 * (w * h)) x, okI L start y = true → y ∈ P
theorem Search.start {w h : Nat} {L : List Int} {s : Nat} : Search w h L s 0 [s] :=
  ⟨by simp, fun x hx => by have : x = s := by simpa using hx
                           rw [this]; exact .base, by simp, by simp, fun i x hi => by omega⟩
theorem Search.len {w h : Nat} {L : List Int} {s n : Nat} {P : List Nat} (dm : Dim w h) (hs : s < 4 * (w * h)) (S : Search w h L s n P) : P.length ≤ 144 := by
  have := nodup_le (4 * (w * h)) P S.nd fun x hx => CI_lt dm hs (S.sound x hx)
  have := dim_le dm
  omega
theorem Search.done {w h : Nat} {L : List Int} {s : Nat} {P : List Nat} (S : Search w h L s P.length P) : ∀ x, x ∈ P ↔ CI w h L s x := fun x => by
  refine ⟨S.sound x, fun c => ?_⟩
  induction c with
  | base => exact S.st
  | @step x y _ hy ho ih =>
    obtain ⟨i, hi, e⟩ := List.getElem_of_mem ih
    exact S.closed i x hi (by rw [List.getElem?_eq_getElem hi, e]) y hy ho
/-- within a turn: m of the quarters beside the one at n are looked at -/
structure Beside (w h : Nat) (L : List Int) (start n m : Nat) (q : Nat) (P : List Nat) : Prop where
  s : Search w h L start n P
  at_ : P[n]? = some q
  part : ∀ y ∈ (near w (4 * (w * h)) q).take m, okI L start y = true → y ∈ P
theorem Beside.start {w h : Nat} {L : List Int} {s n q : Nat} {P : List Nat} (S : Search w h L s n P) (e : P[n]? = some q) : Beside w h L s n 0 q P := ⟨S, e, fun y hy => by simp at hy⟩
theorem Beside.skip {w h : Nat} {L : List Int} {s n m q y : Nat} {P : List Nat} (A : Beside w h L s n m q P) (hy : (near w (4 * (w * h)) q)[m]? = some y) (hh : okI L s y = false ∨ y ∈ P) : Beside w h L s n (m + 1) q P := by
  refine ⟨A.s, A.at_, fun z hz ho => ?_⟩
  obtain ⟨hm, e⟩ := List.getElem?_eq_some_iff.mp hy
  rw [List.take_succ_eq_append_getElem hm, e] at hz
  rcases List.mem_append.mp hz with c | c
  · exact A.part z c ho
  · have : z = y := by simpa using c
    subst this
    rcases hh with h | h
    · rw [h] at ho; cases ho
    · exact h
theorem Beside.add {w h : Nat} {L : List Int} {s n m q y : Nat} {P : List Nat} (A : Beside w h L s n m q P) (hy : (near w (4 * (w * h)) q)[m]? = some y) (ho : okI L s y = true) (hn : y ∉ P) : Beside w h L s n (m + 1) q (P ++ [y]) := by
  obtain ⟨hm, e⟩ := List.getElem?_eq_some_iff.mp hy
  obtain ⟨hn1, en⟩ := List.getElem?_eq_some_iff.mp A.at_
  have hmem : y ∈ near w (4 * (w * h)) q := by rw [← e]; exact List.getElem_mem hm
  have hq : CI w h L s q := A.s.sound q (List.mem_of_getElem? A.at_)
  refine ⟨⟨?_, fun x hx => ?_, by simp [A.s.st], by have := A.s.le; simp; omega, fun i x hi ex z hz hoz => ?_⟩, ?_, fun z hz hoz => ?_⟩
  · rw [List.nodup_append]
    refine ⟨A.s.nd, by simp, fun a ha b hb => ?_⟩
    have : b = y := by simpa using hb
    rw [this]; exact fun e => hn (e ▸ ha)
  · rcases List.mem_append.mp hx with c | c
    · exact A.s.sound x c
    · have : x = y := by simpa using c
      rw [this]; exact .step hq hmem ho
  · have := A.s.le
    rw [List.getElem?_append_left (by omega)] at ex
    exact List.mem_append_left _ (A.s.closed i x hi ex z hz hoz)
  · rw [List.getElem?_append_left hn1]; exact A.at_
  · rw [List.take_succ_eq_append_getElem hm, e] at hz
    rcases List.mem_append.mp hz with c | c
    · exact List.mem_append_left _ (A.part z c hoz)
    · exact List.mem_append_right _ c
theorem Beside.done {w h : Nat} {L : List Int} {s n q : Nat} {P : List Nat} (A : Beside w h L s n (near w (4 * (w * h)) q).length q P) : Search w h L s (n + 1) P := by
  obtain ⟨hn1, en⟩ := List.getElem?_eq_some_iff.mp A.at_
  refine ⟨A.s.nd, A.s.sound, A.s.st, hn1, fun i x hi ex y hy ho => ?_⟩
  by_cases e : i = n
  · subst e
    rw [A.at_] at ex
    cases ex
    have := A.part y (by rw [List.take_length]; exact hy) ho
    exact this
  · exact A.s.closed i x (by omega) ex y hy ho
/-! ## the patches found so far -/
structure Found (w h : Nat) (L : List Nat) (k : Nat) (ps : List (List Nat)) : Prop where
  len : ps.length = (roots w h L k).length
  at_ : ∀ (j : Nat) (p : List Nat) (r : Nat), ps[j]? = some p → (roots w h L k)[j]? = some r → ∀ x, x ∈ p ↔ C w h L r x
/-- x is taken -/
def Taken (w h : Nat) (L : List Nat) (k x : Nat) : Prop := ∃ r, r < k ∧ root w h L r ∧ C w h L r x
theorem not_taken {w h : Nat} {L : List Nat} {k : Nat} (hk : k < 4 * (w * h)) (hn : ¬ Taken w h L k k) : root w h L k := by
  refine ⟨hk, fun q hq c => hn ?_⟩
  obtain ⟨r0, h1, h2, h3⟩ := exists_root (w := w) (h := h) (L := L) q (by omega)
  exact ⟨r0, by omega, h2, C_trans h3 c⟩
theorem Found.skip {w h : Nat} {L : List Nat} {k : Nat} {ps : List (List Nat)} (F : Found w h L k ps) (ht : Taken w h L k k) : Found w h L (k + 1) ps ∧ ∀ x, Taken w h L (k + 1) x ↔ Taken w h L k x := by
  obtain ⟨r, h1, h2, h3⟩ := ht
  have nr : ¬ root w h L k := fun z => z.2 r h1 h3
  have e : roots w h L (k + 1) = roots w h L k := by
    rw [roots_succ, if_neg (by rw [rootB_iff]; exact nr), List.append_nil]
  refine ⟨⟨by rw [e]; exact F.len, by rw [e]; exact F.at_⟩, fun x => ⟨?_, ?_⟩⟩
  · rintro ⟨r', a, b, c⟩
    have : r' ≠ k := fun z => nr (z ▸ b)
    exact ⟨r', by omega, b, c⟩
  · rintro ⟨r', a, b, c⟩
    exact ⟨r', by omega, b, c⟩
theorem Found.add {w h : Nat} {L : List Nat} {k : Nat} {ps : List (List Nat)} {p : List Nat} (F : Found w h L k ps) (hr : root w h L k) (hp : ∀ x, x ∈ p ↔ C w h L k x) : Found w h L (k + 1) (ps ++ [p]) ∧ ∀ x, Taken w h L (k + 1) x ↔ (Taken w h L k x ∨ x ∈ p) := by
  have e : roots w h L (k + 1) = roots w h L k ++ [k] := by
    rw [roots_succ, if_pos (by rw [rootB_iff]; exact hr)]
  refine ⟨⟨by rw [e, List.length_append, List.length_append, F.len]; rfl, fun j q r e1 e2 => ?_⟩, fun x => ⟨?_, ?_⟩⟩
  · rw [e] at e2
    by_cases hj : j < ps.length
    · rw [List.getElem?_append_left hj] at e1
      rw [List.getElem?_append_left (by rw [← F.len]; exact hj)] at e2
      exact F.at_ j q r e1 e2
    · have hj2 : j = ps.length := by
        have := (List.getElem?_eq_some_iff.mp e1).1
        simp at this; omega
      subst hj2
      have a1 : p = q := by simpa using e1
      have a2 : k = r := by rw [F.len] at e2; simpa using e2
      rw [← a1, ← a2]; exact hp
  · rintro ⟨r', a, b, c⟩
    by_cases z : r' = k
    · subst z; exact .inr ((hp x).mpr c)
    · exact .inl ⟨r', by omega, b, c⟩
  · rintro (⟨r', a, b, c⟩ | z)
    · exact ⟨r', by omega, b, c⟩
    · exact ⟨k, by omega, hr, (hp x).mp z⟩
theorem Found.start {w h : Nat} {L : List Nat} : Found w h L 0 [] := ⟨rfl, fun j p r e => by simp at e⟩
theorem Found.done {w h : Nat} {L : List Nat} {ps : List (List Nat)} (dm : Dim w h) (F : Found w h L (4 * (w * h)) ps) : Patches (ofLetters w h L) ps := patches_of dm F.len F.at_
end Sm
end
section
set_option linter.all false
namespace Sm
open Patch
/-! ## all lines that part a piece; a top taken apart, step by step -/
structure AllL (sp : Sps) (P : List Nat) (fs : List (Nat × Int)) : Prop where
  mem : ∀ d a, (d, a) ∈ fs ↔ d ≤ 3 ∧ partsM sp d a P = true
  ord : fs.Pairwise fun x y => x.1 < y.1 ∨ (x.1 = y.1 ∧ x.2 < y.2)
theorem AllL.no {sp : Sps} {P : List Nat} (h : AllL sp P []) : NoLine sp P := fun d hd a => by
  cases e : partsM sp d a P with
  | false => rfl
  | true => have := (h.mem d a).mpr ⟨hd, e⟩; cases this
theorem AllL.first {sp : Sps} {P : List Nat} {d : Nat} {a : Int} {r : List (Nat × Int)} (h : AllL sp P ((d, a) :: r)) : FirstL sp P d a := by
  have h1 := (h.mem d a).mp (by simp)
  have ho := List.pairwise_cons.mp h.ord
  refine ⟨h1.1, h1.2, fun d' hd' a' => ?_, fun a' ha' => ?_⟩
  · cases e : partsM sp d' a' P with
    | false => rfl
    | true =>
      have hm := (h.mem d' a').mpr ⟨by omega, e⟩
      rcases List.mem_cons.mp hm with z | z
      · have : d' = d := congrArg Prod.fst z
        omega
      · rcases ho.1 _ z with q | q
        · have q : d < d' := q; omega
        · have q : d = d' := q.1; omega
  · cases e : partsM sp d a' P with
    | false => rfl
    | true =>
      have hm := (h.mem d a').mpr ⟨h1.1, e⟩
      rcases List.mem_cons.mp hm with z | z
      · have : a' = a := congrArg Prod.snd z
        omega
      · rcases ho.1 _ z with q | q
        · have q : d < d := q; omega
        · have q : a < a' := q.2; omega
abbrev Stp := List Nat × Option (Nat × Int)
abbrev Pick := List Nat → Nat → Option (Nat × Int)
def Picks (sp : Sps) (pick : Pick) : Prop := ∀ P k d a, pick P k = some (d, a) → partsM sp d a P = true
def pre (sp : Sps) (pick : Pick) : Nat → Nat → List Nat → List Stp
  | 0, _, P => [(P, none)]
  | f + 1, k, P => match pick P k with
    | none => [(P, none)]
    | some l => (P, some l) :: (pre sp pick f (k + 1) (befM sp l.1 l.2 P) ++ pre sp pick f (k + 1) (behM sp l.1 l.2 P))
theorem pm_len {sp : Sps} {d : Nat} {a : Int} {P : List Nat} (h : partsM sp d a P = true) : 0 < (befM sp d a P).length ∧ 0 < (behM sp d a P).length ∧ (befM sp d a P).length + (behM sp d a P).length = P.length := by
  unfold partsM at h
  simp only [Bool.and_eq_true, decide_eq_true_eq] at h
  exact h
theorem pre_fuel {sp : Sps} {pick : Pick} (hp : Picks sp pick) : ∀ (n : Nat) (P : List Nat), P.length ≤ n → 0 < P.length → ∀ f k, P.length ≤ f → pre sp pick f k P = pre sp pick P.length k P := by
  intro n
  induction n with
  | zero => intro P h1 h2; omega
  | succ n ih =>
    intro P hn h0 f k hf
    obtain ⟨g, rfl⟩ : ∃ g, f = g + 1 := ⟨f - 1, by omega⟩
    obtain ⟨m, hm⟩ : ∃ m, P.length = m + 1 := ⟨P.length - 1, by omega⟩
    rw [hm]
    unfold pre
    cases e : pick P k with
    | none => rfl
    | some l =>
      obtain ⟨d, a⟩ := l
      obtain ⟨b1, b2, bs⟩ := pm_len (hp P k d a e)
      simp only
      rw [ih _ (by omega) b1 g (k + 1) (by omega), ih _ (by omega) b1 m (k + 1) (by omega), ih _ (by omega) b2 g (k + 1) (by omega), ih _ (by omega) b2 m (k + 1) (by omega)]
def preP (sp : Sps) (pick : Pick) (k : Nat) (P : List Nat) : List Stp := pre sp pick P.length k P
theorem preP_none {sp : Sps} {pick : Pick} {k : Nat} {P : List Nat} (e : pick P k = none) : preP sp pick k P = [(P, none)] := by
  unfold preP
  cases P.length with
  | zero => rfl
  | succ n => unfold pre; rw [e]
theorem preP_some {sp : Sps} {pick : Pick} (hp : Picks sp pick) {k : Nat} {P : List Nat} {d : Nat} {a : Int} (e : pick P k = some (d, a)) :
    preP sp pick k P = (P, some (d, a)) :: (preP sp pick (k + 1) (befM sp d a P) ++ preP sp pick (k + 1) (behM sp d a P)) := by
  obtain ⟨b1, b2, bs⟩ := pm_len (hp P k d a e)
  unfold preP
  obtain ⟨m, hm⟩ : ∃ m, P.length = m + 1 := ⟨P.length - 1, by omega⟩
  rw [hm]
  conv => lhs; unfold pre
  rw [e]
  simp only
  rw [pre_fuel hp _ _ (Nat.le_refl _) b1 m (k + 1) (by omega), pre_fuel hp _ _ (Nat.le_refl _) b2 m (k + 1) (by omega)]
/-- what a stack of pieces, its top last, still comes to -/
def todo (sp : Sps) (pick : Pick) : List (List Nat × Nat) → List Stp
  | [] => []
  | x :: r => todo sp pick r ++ preP sp pick x.2 x.1
theorem todo_snoc {sp : Sps} {pick : Pick} : ∀ (l : List (List Nat × Nat)) (P : List Nat) (k : Nat), todo sp pick (l ++ [(P, k)]) = preP sp pick k P ++ todo sp pick l
  | [], P, k => by simp [todo]
  | x :: l, P, k => by
    show todo sp pick (l ++ [(P, k)]) ++ preP sp pick x.2 x.1 = _
    rw [todo_snoc l P k, List.append_assoc]; rfl
def stuckM (ss : List Stp) : List (List Nat) := (ss.filter fun s => s.2.isNone && decide (1 < s.1.length)).map (·.1)
def rowM (ss : List Stp) : List Int := ss.flatMap fun s => match s.2 with
  | none => [4, ((s.1.headD 0 : Nat) : Int)]
  | some l => [(l.1 : Int), l.2 + 64]
theorem stuck_append (a b : List Stp) : stuckM (a ++ b) = stuckM a ++ stuckM b := by unfold stuckM; rw [List.filter_append, List.map_append]
theorem stuck_cons (P : List Nat) (l : Nat × Int) (b : List Stp) : stuckM ((P, some l) :: b) = stuckM b := by
  unfold stuckM; rw [List.filter_cons]; simp
theorem stuck_none (P : List Nat) : stuckM [(P, none)] = if 1 < P.length then [P] else [] := by
  unfold stuckM
  by_cases h : 1 < P.length
  · rw [if_pos h]; simp [h]
  · rw [if_neg h]; simp [h]
theorem row_append (a b : List Stp) : rowM (a ++ b) = rowM a ++ rowM b := by unfold rowM; rw [List.flatMap_append]
theorem row_cons (s : Stp) (b : List Stp) : rowM (s :: b) = rowM [s] ++ rowM b := by unfold rowM; simp
/-! ### by the first line -/
def pickF (D : Top) (sp : Sps) : Pick := fun P _ => match D.parting (region D P) with
  | none => none
  | some l => if partsM sp l.dir l.at_ P = true then some (l.dir, l.at_) else none
theorem pickF_ok (D : Top) (sp : Sps) : Picks sp (pickF D sp) := fun P k d a h => by
  unfold pickF at h
  cases e : D.parting (region D P) with
  | none => rw [e] at h; cases h
  | some l =>
    rw [e] at h
    simp only at h
    by_cases c : partsM sp l.dir l.at_ P = true
    · rw [if_pos c] at h
      obtain ⟨rfl, rfl⟩ := Prod.mk.inj (Option.some.inj h)
      exact c
    · rw [if_neg c] at h; cases h
section
variable {D : Top} {sp : Sps} (S : Spans D sp) (w0 : 0 < D.wide)
include S
theorem pickF_none {P : List Nat} (k : Nat) (pc : Piece D P) (h : NoLine sp P) : pickF D sp P k = none := by
  unfold pickF; rw [parting_none S pc.lt h]
include w0
theorem pickF_some {P : List Nat} (k : Nat) (pc : Piece D P) {d : Nat} {a : Int} (h : FirstL sp P d a) : pickF D sp P k = some (d, a) := by
  unfold pickF; rw [parting_some S w0 pc.lt h]
  simp only
  rw [if_pos h.yes]
theorem first_or (P : List Nat) (pc : Piece D P) : NoLine sp P ∨ ∃ d a, FirstL sp P d a := by
  cases e : D.parting (region D P) with
  | none =>
    left
    intro d hd a
    cases c : partsM sp d a P with
    | false => rfl
    | true =>
      unfold Top.parting at e
      rw [List.find?_eq_none] at e
      have := e _ (line_mem S w0 pc.lt hd c)
      rw [parts_iff S pc.lt hd] at this
      exact absurd c this
  | some l =>
    right
    have e0 := e
    unfold Top.parting at e
    have hd := lines_dir D l (List.mem_of_find?_eq_some e)
    have hp := List.find?_some (p := fun l => D.parts l (region D P)) e
    have hp : D.parts ⟨l.dir, l.at_⟩ (region D P) = true := hp
    rw [parts_iff S pc.lt hd] at hp
    rw [List.find?_eq_some_iff_append] at e
    obtain ⟨_, as, bs, e1, e2⟩ := e
    have so := lines_sorted D
    rw [e1, List.pairwise_append, List.pairwise_cons] at so
    have key : ∀ d' a', d' ≤ 3 → partsM sp d' a' P = true → ¬ (d' < l.dir ∨ (d' = l.dir ∧ a' < l.at_)) := fun d' a' hd' c z => by
      have hm := line_mem S w0 pc.lt hd' c
      rw [e1] at hm
      rcases List.mem_append.mp hm with q | q
      · have := e2 _ q
        rw [parts_iff S pc.lt hd', c] at this
        cases this
      · rcases List.mem_cons.mp q with q | q
        · subst q
          rcases z with z | z
          · have z : d' < d' := z; omega
          · have z : a' < a' := z.2; omega
        · rcases so.2.1.1 _ q with q | q
          · have q : l.dir < d' := q
            omega
          · have q1 : l.dir = d' := q.1
            have q2 : l.at_ < a' := q.2
            omega
    refine ⟨l.dir, l.at_, hd, hp, fun d' hd' a' => ?_, fun a' ha' => ?_⟩
    · cases c : partsM sp d' a' P with
      | false => rfl
      | true => exact absurd (.inl hd') (key d' a' (by omega) c)
    · cases c : partsM sp l.dir a' P with
      | false => rfl
      | true => exact absurd (.inr ⟨rfl, ha'⟩) (key l.dir a' hd c)
/-- where a line that parts may lie -/
theorem at_low {P : List Nat} (pc : Piece D P) {d : Nat} {a : Int} (hd : d ≤ 3) (h : partsM sp d a P = true) : -(D.high : Int) ≤ a := by
  obtain ⟨h1, _, _⟩ := pm_len h
  rw [List.length_pos_iff_exists_mem] at h1
  obtain ⟨j1, h1⟩ := h1
  unfold befM at h1
  rw [List.mem_filter] at h1
  simp only [decide_eq_true_eq] at h1
  obtain ⟨x, hx, _, ex⟩ := (S.at_ j1 d (pc.lt j1 h1.1) (by omega)).exhi
  have rx := strip_range w0 hx
  have b1 := h1.2
  have hdc : d = 0 ∨ d = 1 ∨ d = 2 ∨ d = 3 := by omega
  rcases hdc with e | e | e | e <;> subst e <;> omega
/-- the first plan and the steps -/
theorem plan_pre (h64 : D.high ≤ 64) : ∀ (n : Nat) (P : List Nat), P.length ≤ n → 0 < P.length → Piece D P → ∀ k,
    (planP D P = none ∧ stuckM (preP sp (pickF D sp) k P) ≠ []) ∨ ∃ t, planP D P = some t ∧ stuckM (preP sp (pickF D sp) k P) = [] ∧ rowM (preP sp (pickF D sp) k P) = t.row.map fun (x : Nat) => (x : Int) := by
  intro n
  induction n with
  | zero => intro P h1 h2; omega
  | succ n ih =>
    intro P hn h0 pc k
    rcases first_or S w0 P pc with nl | ⟨d, a, fl⟩
    · rw [preP_none (pickF_none S k pc nl), stuck_none]
      by_cases h1 : 1 < P.length
      · exact .inl ⟨plan_none S pc h1 nl, by rw [if_pos h1]; simp⟩
      · obtain ⟨p, hp⟩ : ∃ p, P = [p] := List.length_eq_one_iff.mp (by omega)
        refine .inr ⟨_, plan_one S pc hp, by rw [if_neg h1], ?_⟩
        rw [hp]; rfl
    · have hk := pickF_some S w0 k pc fl
      rw [preP_some (pickF_ok D sp) hk, plan_some S w0 pc fl]
      obtain ⟨p1, p2, b1, b2, bs⟩ := parts_small pc fl.yes
      have al := at_low S w0 pc fl.d3 fl.yes
      have i1 := ih _ (by omega) b1 p1 (k + 1)
      have i2 := ih _ (by omega) b2 p2 (k + 1)
      rw [stuck_cons, stuck_append, row_cons, row_append]
      rcases i1 with ⟨e1, s1⟩ | ⟨t1, e1, s1, r1⟩
      · left
        rw [e1]
        refine ⟨rfl, fun z => s1 (List.append_eq_nil_iff.mp z).1⟩
      · rcases i2 with ⟨e2, s2⟩ | ⟨t2, e2, s2, r2⟩
        · left
          rw [e1, e2]
          exact ⟨rfl, fun z => s2 (List.append_eq_nil_iff.mp z).2⟩
        · right
          rw [e1, e2, s1, s2, r1, r2]
          refine ⟨_, rfl, rfl, ?_⟩
          show [(d : Int), a + 64] ++ _ = ((lineNums ⟨d, a⟩ ++ (t1.row ++ t2.row)).map fun (x : Nat) => (x : Int))
          rw [List.map_append, List.map_append]
          congr 1
          show [(d : Int), a + 64] = [(d : Int), (((a + 64).toNat : Nat) : Int)]
          have : (((a + 64).toNat : Nat) : Int) = a + 64 := by omega
          rw [this]
/-- what locks first, and the steps -/
theorem knot_pre : ∀ (n : Nat) (P : List Nat), P.length ≤ n → 0 < P.length → Piece D P → ∀ f k, P.length ≤ f → firstKnot D f (region D P) = (stuckM (preP sp (pickF D sp) k P)).head?.map (region D) := by
  intro n
  induction n with
  | zero => intro P h1 h2; omega
  | succ n ih =>
    intro P hn h0 pc f k hf
    have hl := len_in S.full pc
    obtain ⟨g, rfl⟩ : ∃ g, f = g + 1 := ⟨f - 1, by omega⟩
    unfold firstKnot
    rw [hl]
    rcases first_or S w0 P pc with nl | ⟨d, a, fl⟩
    · rw [preP_none (pickF_none S k pc nl), stuck_none]
      by_cases h1 : 1 < P.length
      · rw [if_pos h1, if_neg (by omega), parting_none S pc.lt nl]; rfl
      · rw [if_neg h1, if_pos (by omega)]; rfl
    · have hk := pickF_some S w0 k pc fl
      rw [preP_some (pickF_ok D sp) hk]
      obtain ⟨p1, p2, b1, b2, bs⟩ := parts_small pc fl.yes
      obtain ⟨e1, e2⟩ := fore_region S pc.lt fl.d3 a fl.yes
      rw [if_neg (by omega), parting_some S w0 pc.lt fl]
      simp only
      rw [e1, e2, ih _ (by omega) b1 p1 g (k + 1) (by omega), ih _ (by omega) b2 p2 g (k + 1) (by omega), stuck_cons, stuck_append]
      cases stuckM (preP sp (pickF D sp) (k + 1) (befM sp d a P)) with
      | nil => rfl
      | cons x r => rfl
end
/-- what locks is of the piece, its numbers in their order -/
theorem stuck_sub {sp : Sps} {pick : Pick} (hp : Picks sp pick) : ∀ (n : Nat) (P : List Nat), P.length ≤ n → 0 < P.length → ∀ k, ∀ K ∈ stuckM (preP sp pick k P), List.Sublist K P := by
  intro n
  induction n with
  | zero => intro P h1 h2; omega
  | succ n ih =>
    intro P hn h0 k K hK
    cases e : pick P k with
    | none =>
      rw [preP_none e, stuck_none] at hK
      by_cases h1 : 1 < P.length
      · rw [if_pos h1] at hK
        have : K = P := by simpa using hK
        rw [this]; exact List.Sublist.refl _
      · rw [if_neg h1] at hK; cases hK
    | some l =>
      obtain ⟨d, a⟩ := l
      obtain ⟨b1, b2, bs⟩ := pm_len (hp P k d a e)
      rw [preP_some hp e, stuck_cons, stuck_append] at hK
      rcases List.mem_append.mp hK with z | z
      · exact (ih _ (by omega) b1 (k + 1) K z).trans List.filter_sublist
      · exact (ih _ (by omega) b2 (k + 1) K z).trans List.filter_sublist
theorem filter_sub : ∀ {l K : List Nat}, List.Sublist K l → l.Nodup → l.filter (fun p => K.contains p) = K := by
  intro l K h
  induction h with
  | slnil => intro _; rfl
  | @cons l1 l2 a h ih =>
    intro nd
    rw [List.nodup_cons] at nd
    have na : a ∉ l1 := fun z => nd.1 (h.subset z)
    rw [List.filter_cons, if_neg (by simpa using na)]
    exact ih nd.2
  | @cons_cons l1 l2 a h ih =>
    intro nd
    rw [List.nodup_cons] at nd
    rw [List.filter_cons, if_pos (by simp)]
    congr 1
    have : l2.filter (fun p => (a :: l1).contains p) = l2.filter (fun p => l1.contains p) := by
      apply List.filter_congr
      intro x hx
      have : x ≠ a := fun z => nd.1 (z ▸ hx)
      simp [this]
    rw [this]
    exact ih nd.2
end Sm
end
section
set_option linter.all false
namespace Sm
open Patch
/-! ## a row read as a plan, piece by piece -/
theorem rp_zero (l : List Nat) : readPlan 0 l = none := by unfold readPlan; rfl
theorem rp_nil (f : Nat) : readPlan f [] = none := by cases f <;> (unfold readPlan; rfl)
theorem rp_one (f x : Nat) : readPlan f [x] = none := by cases f <;> (unfold readPlan; rfl)
theorem rp_patch (f x : Nat) (r : List Nat) : readPlan (f + 1) (4 :: x :: r) = some (.patch x, r) := by
  unfold readPlan; rw [if_pos rfl]
theorem rp_far (f d x : Nat) (r : List Nat) (h : 4 < d) : readPlan (f + 1) (d :: x :: r) = none := by
  unfold readPlan; rw [if_neg (by omega), if_pos h]
theorem rp_seam (f d x : Nat) (r : List Nat) (h : d ≤ 3) : readPlan (f + 1) (d :: x :: r) = (match readPlan f r with
    | none => none
    | some a => match readPlan f a.2 with
      | none => none
      | some b => some (.seam ⟨d, (x : Int) - OFF⟩ a.1 b.1, b.2)) := by
  conv => lhs; unfold readPlan
  rw [if_neg (by omega), if_neg (by omega)]
  rfl
theorem rp_rest : ∀ (f : Nat) (l : List Nat) (t : Plan) (r : List Nat), readPlan f l = some (t, r) → r.length < l.length := by
  intro f
  induction f with
  | zero => intro l t r h; rw [rp_zero] at h; cases h
  | succ f ih =>
    intro l t r h
    match l, h with
    | [], h => rw [rp_nil] at h; cases h
    | [x], h => rw [rp_one] at h; cases h
    | d :: x :: l, h =>
      by_cases h4 : d = 4
      · subst h4
        rw [rp_patch] at h
        obtain ⟨_, rfl⟩ := Prod.mk.inj (Option.some.inj h)
        simp only [List.length_cons]; omega
      · by_cases h5 : 4 < d
        · rw [rp_far _ _ _ _ h5] at h; cases h
        · rw [rp_seam _ _ _ _ (by omega)] at h
          cases e1 : readPlan f l with
          | none => rw [e1] at h; cases h
          | some a =>
            rw [e1] at h
            simp only at h
            cases e2 : readPlan f a.2 with
            | none => rw [e2] at h; cases h
            | some b =>
              rw [e2] at h
              obtain ⟨_, rfl⟩ := Prod.mk.inj (Option.some.inj h)
              have := ih l a.1 a.2 e1
              have := ih a.2 b.1 b.2 e2
              simp only [List.length_cons]; omega
theorem rp_fuel : ∀ (n : Nat) (l : List Nat), l.length ≤ n → ∀ f, l.length ≤ f → readPlan f l = readPlan l.length l := by
  intro n
  induction n with
  | zero =>
    intro l h f hf
    have : l = [] := List.eq_nil_of_length_eq_zero (by omega)
    subst this
    rw [rp_nil, rp_nil]
  | succ n ih =>
    intro l h f hf
    match l, h, hf with
    | [], h, hf => rw [rp_nil, rp_nil]
    | [x], h, hf => rw [rp_one, rp_one]
    | d :: x :: l, h, hf =>
      simp only [List.length_cons] at h hf
      obtain ⟨g, rfl⟩ : ∃ g, f = g + 1 := ⟨f - 1, by omega⟩
      rw [List.length_cons]
      by_cases h4 : d = 4
      · subst h4; rw [rp_patch, rp_patch]
      · by_cases h5 : 4 < d
        · rw [rp_far _ _ _ _ h5, rp_far _ _ _ _ h5]
        · rw [rp_seam _ _ _ _ (by omega), rp_seam _ _ _ _ (by omega), List.length_cons, ih l (by omega) g (by omega), ih l (by omega) (l.length + 1) (by omega)]
          cases e1 : readPlan l.length l with
          | none => rfl
          | some a =>
            have := rp_rest _ l a.1 a.2 e1
            simp only
            rw [ih a.2 (by omega) g (by omega), ih a.2 (by omega) (l.length + 1) (by omega)]
def rd (l : List Nat) : Option (Plan × List Nat) := readPlan l.length l
theorem rd_patch (x : Nat) (r : List Nat) : rd (4 :: x :: r) = some (.patch x, r) := rp_patch _ _ _
theorem rd_far (d x : Nat) (r : List Nat) (h : 4 < d) : rd (d :: x :: r) = none := rp_far _ _ _ _ h
theorem rd_seam (d x : Nat) (r : List Nat) (h : d ≤ 3) : rd (d :: x :: r) = (match rd r with
    | none => none
    | some a => match rd a.2 with
      | none => none
      | some b => some (.seam ⟨d, (x : Int) - OFF⟩ a.1 b.1, b.2)) := by
  unfold rd
  rw [List.length_cons, rp_seam _ _ _ _ h, rp_fuel _ r (Nat.le_refl _) _ (by rw [List.length_cons]; omega)]
  cases e1 : readPlan r.length r with
  | none => rfl
  | some a =>
    have := rp_rest _ r a.1 a.2 e1
    simp only
    rw [rp_fuel _ a.2 (Nat.le_refl _) _ (by rw [List.length_cons]; omega)]
/-- the pieces of a stack (its top first) told by a row: how many seams; the most seams around a patch -/
def okS (D : Top) : List (List Nat × Nat) → List Nat → Option (Nat × Nat)
  | [], [] => some (0, 0)
  | [], _ :: _ => none
  | x :: st, row => match rd row with
    | none => none
    | some a => if planOf D a.1 (region D x.1) = true then (okS D st a.2).map fun z => (a.1.seams + z.1, max (x.2 + a.1.days) z.2) else none
theorem okS_cons (D : Top) (x : List Nat × Nat) (st : List (List Nat × Nat)) (row : List Nat) : okS D (x :: st) row = (match rd row with
    | none => none
    | some a => if planOf D a.1 (region D x.1) = true then (okS D st a.2).map fun z => (a.1.seams + z.1, max (x.2 + a.1.days) z.2) else none) := by
  conv => lhs; unfold okS
theorem okS_short (D : Top) (x : List Nat × Nat) (st : List (List Nat × Nat)) (row : List Nat) (h : row.length < 2) : okS D (x :: st) row = none := by
  rw [okS_cons]
  match row, h with
  | [], _ => unfold rd; rw [rp_nil]
  | [y], _ => unfold rd; rw [rp_one]
theorem okS_far (D : Top) (x : List Nat × Nat) (st : List (List Nat × Nat)) (d y : Nat) (r : List Nat) (h : 4 < d) : okS D (x :: st) (d :: y :: r) = none := by
  rw [okS_cons, rd_far _ _ _ h]
section
variable {D : Top} {sp : Sps} (S : Spans D sp) (w0 : 0 < D.wide)
include S
theorem planOf_patch {P : List Nat} (pc : Piece D P) (hne : 0 < P.length) (x : Nat) : planOf D (.patch x) (region D P) = true ↔ P = [x] := by
  unfold planOf
  rw [Bool.and_eq_true, List.all_eq_true]
  constructor
  · rintro ⟨_, h⟩
    have all : ∀ j ∈ P, j = x := fun j hj => by
      obtain ⟨q, hq, oq⟩ := S.full j (pc.lt j hj)
      have := h q (mem_region.mpr ⟨hq, by rw [oq]; exact hj⟩)
      rw [oq] at this
      simpa using this
    match P, hne, all, pc.nd with
    | [p], _, all, _ => rw [all p (by simp)]
    | p :: q :: r, _, all, nd =>
      have e1 := all p (by simp)
      have e2 := all q (by simp)
      rw [List.nodup_cons] at nd
      exact absurd (by rw [e1, e2]; simp) nd.1
  · intro e
    subst e
    obtain ⟨q, hq, oq⟩ := S.full x (pc.lt x (by simp))
    have hm : q ∈ region D [x] := mem_region.mpr ⟨hq, by rw [oq]; simp⟩
    refine ⟨?_, fun z hz => ?_⟩
    · cases e : region D [x] with
      | nil => rw [e] at hm; cases hm
      | cons a b => rfl
    · have := (mem_region.mp hz).2
      simpa using this
theorem okS_patch {P : List Nat} (pc : Piece D P) (hne : 0 < P.length) (k x : Nat) (st : List (List Nat × Nat)) (r : List Nat) :
    okS D ((P, k) :: st) (4 :: x :: r) = if P = [x] then (okS D st r).map fun z => (z.1, max k z.2) else none := by
  rw [okS_cons, rd_patch]
  simp only
  by_cases h : P = [x]
  · rw [if_pos h, if_pos ((planOf_patch S pc hne x).mpr h)]
    congr 1
    funext z
    show (0 + z.1, max (k + 0) z.2) = _
    rw [Nat.zero_add, Nat.add_zero]
  · rw [if_neg h, if_neg (fun z => h ((planOf_patch S pc hne x).mp z))]
include w0
theorem okS_seam {P : List Nat} (pc : Piece D P) (k d x : Nat) (hd : d ≤ 3) (st : List (List Nat × Nat)) (r : List Nat) :
    okS D ((P, k) :: st) (d :: x :: r) = if partsM sp d ((x : Int) - 64) P = true then (okS D ((befM sp d ((x : Int) - 64) P, k + 1) :: (behM sp d ((x : Int) - 64) P, k + 1) :: st) r).map fun z => (z.1 + 1, z.2) else none := by
  rw [okS_cons, rd_seam _ _ _ hd]
  have e64 : (x : Int) - OFF = (x : Int) - 64 := rfl
  by_cases h : partsM sp d ((x : Int) - 64) P = true
  · rw [if_pos h, okS_cons]
    obtain ⟨f1, f2⟩ := fore_region S pc.lt hd _ h
    have hl : D.lines.any (Line.same ⟨d, (x : Int) - 64⟩) = true := by
      rw [List.any_eq_true]
      exact ⟨_, line_mem S w0 pc.lt hd h, by unfold Line.same; simp⟩
    cases e1 : rd r with
    | none => rfl
    | some a =>
      simp only
      rw [okS_cons]
      cases e2 : rd a.2 with
      | none => simp
      | some b =>
        simp only
        have ep : planOf D (.seam ⟨d, (x : Int) - OFF⟩ a.1 b.1) (region D P) = (planOf D a.1 (region D (befM sp d ((x : Int) - 64) P)) && planOf D b.1 (region D (behM sp d ((x : Int) - 64) P))) := by
          conv => lhs; unfold planOf
          rw [e64, hl, parts_iff S pc.lt hd, h, f1, f2]
          simp
        rw [ep]
        by_cases h1 : planOf D a.1 (region D (befM sp d ((x : Int) - 64) P)) = true
        · by_cases h2 : planOf D b.1 (region D (behM sp d ((x : Int) - 64) P)) = true
          · rw [h1, h2]
            simp only [Bool.and_self, if_true]
            cases okS D st b.2 with
            | none => rfl
            | some z =>
              simp only [Option.map_some, Option.some.injEq, Prod.mk.injEq]
              show (1 + (a.1.seams + b.1.seams)) + z.1 = _ ∧ max (k + (1 + max a.1.days b.1.days)) z.2 = _
              omega
          · rw [h1, Bool.eq_false_iff.mpr h2]; simp
        · rw [Bool.eq_false_iff.mpr h1]; simp
  · rw [if_neg h]
    cases e1 : rd r with
    | none => rfl
    | some a =>
      simp only
      cases e2 : rd a.2 with
      | none => rfl
      | some b =>
        simp only
        have ep : planOf D (.seam ⟨d, (x : Int) - OFF⟩ a.1 b.1) (region D P) = false := by
          conv => lhs; unfold planOf
          rw [e64, parts_iff S pc.lt hd, Bool.eq_false_iff.mpr h]
          simp
        rw [ep]; simp
omit S w0 in
theorem okS_whole (hf : Fine D) (row : List Nat) : (D.planIn row).map (fun t => (t.seams, t.days)) = okS D [(List.range D.count, 0)] row := by
  rw [okS_cons]
  simp only
  rw [region_all hf]
  unfold Top.planIn Patch.planIn rd
  cases e : readPlan row.length row with
  | none => rfl
  | some a =>
    obtain ⟨t, r⟩ := a
    cases r with
    | nil =>
      simp only
      by_cases h : planOf D t D.all = true
      · rw [if_pos h, if_pos h]
        show some (t.seams, t.days) = some (t.seams + 0, max (0 + t.days) 0)
        simp
      · rw [if_neg h, if_neg h]; rfl
    | cons y r =>
      simp only
      by_cases h : planOf D t D.all = true
      · rw [if_pos h]; rfl
      · rw [if_neg h]; rfl
end
end Sm
end
section
set_option linter.all false
namespace Sm
open Patch
/-! ## what can be sewn; days -/
inductive Sew (sp : Sps) : List Nat → Prop
  | one (p : Nat) : Sew sp [p]
  | seam {d : Nat} {a : Int} {P : List Nat} : d ≤ 3 → partsM sp d a P = true → Sew sp (befM sp d a P) → Sew sp (behM sp d a P) → Sew sp P
section
variable {D : Top} {sp : Sps} (S : Spans D sp)
include S
theorem pm_iff {P : List Nat} (hP : ∀ j ∈ P, j < D.count) {d : Nat} (hd : d ≤ 3) (a : Int) : partsM sp d a P = true ↔ befM sp d a P ≠ [] ∧ behM sp d a P ≠ [] ∧ ∀ j ∈ P, hi sp d j < a ∨ a ≤ lo sp d j := by
  unfold partsM
  simp only [Bool.and_eq_true, decide_eq_true_eq]
  rw [List.length_pos_iff, List.length_pos_iff, cut_iff S hP hd a]
theorem Sew.sub {P : List Nat} (h : Sew sp P) : (∀ j ∈ P, j < D.count) → ∀ Q, List.Sublist Q P → Q ≠ [] → Sew sp Q := by
  induction h with
  | one p =>
    intro _ Q hs hq
    cases hs with
    | cons _ h => cases h; exact absurd rfl hq
    | cons_cons _ h => cases h; exact .one p
  | @seam d a P hd hp h1 h2 i1 i2 =>
    intro hP Q hs hq
    have hQ : ∀ j ∈ Q, j < D.count := fun j hj => hP j (hs.subset hj)
    obtain ⟨_, _, hall⟩ := (pm_iff S hP hd a).mp hp
    have hallQ : ∀ j ∈ Q, hi sp d j < a ∨ a ≤ lo sp d j := fun j hj => hall j (hs.subset hj)
    have sb : List.Sublist (befM sp d a Q) (befM sp d a P) := hs.filter _
    have sh : List.Sublist (behM sp d a Q) (behM sp d a P) := hs.filter _
    have lb : ∀ j ∈ befM sp d a P, j < D.count := fun j hj => hP j (List.mem_filter.mp hj).1
    have lh : ∀ j ∈ behM sp d a P, j < D.count := fun j hj => hP j (List.mem_filter.mp hj).1
    by_cases e1 : befM sp d a Q = []
    · have : behM sp d a Q = Q := by
        unfold behM
        rw [List.filter_eq_self]
        intro j hj
        rcases hallQ j hj with z | z
        · have : j ∈ befM sp d a Q := List.mem_filter.mpr ⟨hj, by simpa using z⟩
          rw [e1] at this; cases this
        · simpa using z
      rw [this] at sh
      exact i2 lh Q sh hq
    · by_cases e2 : behM sp d a Q = []
      · have : befM sp d a Q = Q := by
          unfold befM
          rw [List.filter_eq_self]
          intro j hj
          rcases hallQ j hj with z | z
          · simpa using z
          · have : j ∈ behM sp d a Q := List.mem_filter.mpr ⟨hj, by simpa using z⟩
            rw [e2] at this; cases this
        rw [this] at sb
        exact i1 lb Q sb hq
      · exact .seam hd ((pm_iff S hQ hd a).mpr ⟨e1, e2, hallQ⟩) (i1 lb _ sb e1) (i2 lh _ sh e2)
theorem Sew.ne {P : List Nat} (h : Sew sp P) : P ≠ [] := by
  cases h with
  | one p => simp
  | seam hd hp _ _ =>
    intro e
    have h1 := pm_len hp
    have h2 := congrArg List.length e
    simp only [List.length_nil] at h2
    omega
/-- no line is wrong -/
theorem Sew.both {P : List Nat} (h : Sew sp P) (hP : ∀ j ∈ P, j < D.count) {d : Nat} {a : Int} (hp : partsM sp d a P = true) : Sew sp (befM sp d a P) ∧ Sew sp (behM sp d a P) := by
  obtain ⟨b1, b2, _⟩ := pm_len hp
  exact ⟨h.sub S hP _ List.filter_sublist (List.length_pos_iff.mp b1), h.sub S hP _ List.filter_sublist (List.length_pos_iff.mp b2)⟩
theorem Sew.line {P : List Nat} (h : Sew sp P) (h2 : 2 ≤ P.length) : ∃ d a, d ≤ 3 ∧ partsM sp d a P = true := by
  cases h with
  | one p => simp at h2
  | @seam d a _ hd hp _ _ => exact ⟨d, a, hd, hp⟩
theorem sew_plan (w0 : 0 < D.wide) : ∀ (n : Nat) (P : List Nat), P.length ≤ n → 0 < P.length → Piece D P → (Sew sp P ↔ (planP D P).isSome = true) := by
  intro n
  induction n with
  | zero => intro P h1 h2; omega
  | succ n ih =>
    intro P hn h0 pc
    rcases first_or S w0 P pc with nl | ⟨d, a, fl⟩
    · by_cases h1 : 1 < P.length
      · rw [plan_none S pc h1 nl]
        refine ⟨fun h => ?_, fun h => by cases h⟩
        obtain ⟨d, a, hd, hp⟩ := h.line S h1
        rw [nl d hd a] at hp; cases hp
      · obtain ⟨p, hp⟩ : ∃ p, P = [p] := List.length_eq_one_iff.mp (by omega)
        rw [plan_one S pc hp, hp]
        exact ⟨fun _ => rfl, fun _ => .one p⟩
    · obtain ⟨p1, p2, b1, b2, bs⟩ := parts_small pc fl.yes
      have i1 := ih _ (by omega) b1 p1
      have i2 := ih _ (by omega) b2 p2
      rw [plan_some S w0 pc fl]
      constructor
      · intro h
        obtain ⟨q1, q2⟩ := h.both S pc.lt fl.yes
        have j1 := i1.mp q1
        have j2 := i2.mp q2
        rw [Option.isSome_iff_exists] at j1 j2
        obtain ⟨x, hx⟩ := j1
        obtain ⟨y, hy⟩ := j2
        rw [hx, hy]; rfl
      · intro h
        cases e1 : planP D (befM sp d a P) with
        | none => rw [e1] at h; cases h
        | some x =>
          cases e2 : planP D (behM sp d a P) with
          | none => rw [e1, e2] at h; cases h
          | some y => exact .seam fl.d3 fl.yes (i1.mpr (by rw [e1]; rfl)) (i2.mpr (by rw [e2]; rfl))
end
/-! ### days -/
section
variable {D : Top} {sp : Sps} (S : Spans D sp) (w0 : 0 < D.wide)
include S
theorem in_zero {P : List Nat} (pc : Piece D P) : inDays D 0 (region D P) = true ↔ P.length = 1 := by
  unfold inDays; rw [len_in S.full pc]; simp
include w0
theorem in_succ {P : List Nat} (pc : Piece D P) (n : Nat) : inDays D (n + 1) (region D P) = true ↔ P.length = 1 ∨ ∃ d a, d ≤ 3 ∧ partsM sp d a P = true ∧ inDays D n (region D (befM sp d a P)) = true ∧ inDays D n (region D (behM sp d a P)) = true := by
  have e0 : inDays D (n + 1) (region D P) = ((D.patchesIn (region D P)).length == 1 || D.lines.any fun (l : Line) => D.parts l (region D P) && (inDays D n (D.fore l (region D P)) && inDays D n (D.hind l (region D P)))) := by
    conv => lhs; unfold inDays
  rw [e0, len_in S.full pc, Bool.or_eq_true, List.any_eq_true]
  constructor
  · rintro (h | ⟨l, hl, h⟩)
    · exact .inl (by simpa using h)
    · right
      have hd := lines_dir D l hl
      rw [Bool.and_eq_true, Bool.and_eq_true] at h
      obtain ⟨h1, h2, h3⟩ := h
      have h1 : D.parts ⟨l.dir, l.at_⟩ (region D P) = true := h1
      rw [parts_iff S pc.lt hd] at h1
      obtain ⟨f1, f2⟩ := fore_region S pc.lt hd _ h1
      have f1 : D.fore l (region D P) = _ := f1
      have f2 : D.hind l (region D P) = _ := f2
      rw [f1] at h2
      rw [f2] at h3
      exact ⟨l.dir, l.at_, hd, h1, h2, h3⟩
  · rintro (h | ⟨d, a, hd, h1, h2, h3⟩)
    · exact .inl (by simpa using h)
    · right
      obtain ⟨f1, f2⟩ := fore_region S pc.lt hd _ h1
      refine ⟨_, line_mem S w0 pc.lt hd h1, ?_⟩
      rw [parts_iff S pc.lt hd, f1, f2, h1, h2, h3]; rfl
theorem in_mono : ∀ (n : Nat) {P : List Nat}, Piece D P → inDays D n (region D P) = true → inDays D (n + 1) (region D P) = true := by
  intro n
  induction n with
  | zero => intro P pc h; exact (in_succ S w0 pc 0).mpr (.inl ((in_zero S pc).mp h))
  | succ n ih =>
    intro P pc h
    rcases (in_succ S w0 pc n).mp h with z | ⟨d, a, hd, h1, h2, h3⟩
    · exact (in_succ S w0 pc _).mpr (.inl z)
    · obtain ⟨p1, p2, _⟩ := parts_small pc h1
      exact (in_succ S w0 pc _).mpr (.inr ⟨d, a, hd, h1, ih p1 h2, ih p2 h3⟩)
theorem in_le {n m : Nat} (h : n ≤ m) {P : List Nat} (pc : Piece D P) (q : inDays D n (region D P) = true) : inDays D m (region D P) = true := by
  induction h with
  | refl => exact q
  | step _ ih => exact in_mono S w0 _ pc ih
theorem in_sew : ∀ (n : Nat) {P : List Nat}, Piece D P → inDays D n (region D P) = true → Sew sp P := by
  intro n
  induction n with
  | zero =>
    intro P pc h
    obtain ⟨p, rfl⟩ := List.length_eq_one_iff.mp ((in_zero S pc).mp h)
    exact .one p
  | succ n ih =>
    intro P pc h
    rcases (in_succ S w0 pc n).mp h with z | ⟨d, a, hd, h1, h2, h3⟩
    · obtain ⟨p, rfl⟩ := List.length_eq_one_iff.mp z
      exact .one p
    · obtain ⟨p1, p2, _⟩ := parts_small pc h1
      exact .seam hd h1 (ih p1 h2) (ih p2 h3)
theorem sew_in {P : List Nat} (h : Sew sp P) : Piece D P → inDays D P.length (region D P) = true := by
  induction h with
  | one p => intro pc; exact (in_succ S w0 pc 0).mpr (.inl rfl)
  | @seam d a P hd hp _ _ i1 i2 =>
    intro pc
    obtain ⟨p1, p2, b1, b2, bs⟩ := parts_small pc hp
    obtain ⟨m, hm⟩ : ∃ m, P.length = m + 1 := ⟨P.length - 1, by omega⟩
    rw [hm]
    exact (in_succ S w0 pc m).mpr (.inr ⟨d, a, hd, hp, in_le S w0 (by omega) p1 (i1 p1), in_le S w0 (by omega) p2 (i2 p2)⟩)
end
/-- the fewest days of a piece -/
structure Few (D : Top) (P : List Nat) (n : Nat) : Prop where
  yes : inDays D n (region D P) = true
  no : ∀ m, m < n → inDays D m (region D P) = false
theorem Few.unique {D : Top} {P : List Nat} {n m : Nat} (a : Few D P n) (b : Few D P m) : n = m := by
  rcases Nat.lt_trichotomy n m with h | h | h
  · have := b.no n h; rw [a.yes] at this; cases this
  · exact h
  · have := a.no m h; rw [b.yes] at this; cases this
section
variable {D : Top} {sp : Sps} (S : Spans D sp) (w0 : 0 < D.wide)
include S w0
theorem Few.le_iff {P : List Nat} {n m : Nat} (pc : Piece D P) (a : Few D P n) : inDays D m (region D P) = true ↔ n ≤ m := by
  constructor
  · intro h
    by_cases c : n ≤ m
    · exact c
    · have := a.no m (by omega); rw [h] at this; cases this
  · intro h; exact in_le S w0 h pc a.yes
omit w0 in
theorem few_one {P : List Nat} (pc : Piece D P) (h : P.length = 1) : Few D P 0 := ⟨(in_zero S pc).mpr h, fun m hm => by omega⟩
/-- the least over all lines -/
theorem few_min {P : List Nat} (pc : Piece D P) (h2 : 2 ≤ P.length) {m : Nat} (hex : ∃ d a b h, d ≤ 3 ∧ partsM sp d a P = true ∧ Few D (befM sp d a P) b ∧ Few D (behM sp d a P) h ∧ m = 1 + max b h)
    (hle : ∀ d a, d ≤ 3 → partsM sp d a P = true → ∃ b h, Few D (befM sp d a P) b ∧ Few D (behM sp d a P) h ∧ m ≤ 1 + max b h) : Few D P m := by
  constructor
  · obtain ⟨d, a, b, h, hd, hp, fb, fh, rfl⟩ := hex
    obtain ⟨p1, p2, _⟩ := parts_small pc hp
    rw [Nat.add_comm]
    refine (in_succ S w0 pc _).mpr (.inr ⟨d, a, hd, hp, ?_, ?_⟩)
    · exact (fb.le_iff S w0 p1).mpr (by omega)
    · exact (fh.le_iff S w0 p2).mpr (by omega)
  · intro k hk
    cases e : inDays D k (region D P) with
    | false => rfl
    | true =>
      match k, hk, e with
      | 0, hk, e =>
        have := (in_zero S pc).mp e
        omega
      | k + 1, hk, e =>
        rcases (in_succ S w0 pc k).mp e with z | ⟨d, a, hd, h1, q1, q2⟩
        · omega
        · obtain ⟨p1, p2, _⟩ := parts_small pc h1
          obtain ⟨b, h, fb, fh, hm⟩ := hle d a hd h1
          have := (fb.le_iff S w0 p1).mp q1
          have := (fh.le_iff S w0 p2).mp q2
          omega
theorem days_some (hf : Fine D) {n : Nat} (h : Few D (List.range D.count) n) : D.days = some n := by
  have pc : Piece D (List.range D.count) := whole_piece
  unfold Top.days
  have e0 := region_all hf
  have hle : n ≤ D.count := by
    have := sew_in S w0 (in_sew S w0 n pc h.yes) pc
    rw [List.length_range] at this
    exact (h.le_iff S w0 pc).mp this
  rw [List.find?_eq_some_iff_append]
  rw [← e0]
  refine ⟨h.yes, List.range n, (List.range (D.count - n)).map (fun x => n + 1 + x), ?_, fun m hm => ?_⟩
  · have : D.count + 1 = n + 1 + (D.count - n) := by omega
    rw [this, List.range_add, List.range_succ, List.append_assoc]
    rfl
  · rw [h.no m (List.mem_range.mp hm)]; rfl
theorem days_none (hf : Fine D) (h : ¬ Sew sp (List.range D.count)) : D.days = none := by
  have pc : Piece D (List.range D.count) := whole_piece
  unfold Top.days
  rw [List.find?_eq_none, ← region_all hf]
  intro m hm z
  exact h (in_sew S w0 m pc z)
end
/-! ### the first plan of so many days -/
def pickD (D : Top) (sp : Sps) (N : Nat) : Pick := fun P k => if k < N then (match D.lines.find? (fun l => D.parts l (region D P) && (inDays D (N - k - 1) (D.fore l (region D P)) && inDays D (N - k - 1) (D.hind l (region D P)))) with
    | none => none
    | some l => if partsM sp l.dir l.at_ P = true then some (l.dir, l.at_) else none) else none
theorem pickD_ok (D : Top) (sp : Sps) (N : Nat) : Picks sp (pickD D sp N) := fun P k d a h => by
  unfold pickD at h
  by_cases c : k < N
  · rw [if_pos c] at h
    split at h
    · cases h
    · rename_i l _
      by_cases c : partsM sp l.dir l.at_ P = true
      · rw [if_pos c] at h
        obtain ⟨rfl, rfl⟩ := Prod.mk.inj (Option.some.inj h)
        exact c
      · rw [if_neg c] at h; cases h
  · rw [if_neg c] at h; cases h
/-- the first of all lines that part and are of a kind -/
theorem find_first {D : Top} {sp : Sps} (S : Spans D sp) (w0 : 0 < D.wide) {P : List Nat} (pc : Piece D P) {fs : List (Nat × Int)} (h : AllL sp P fs) (q : Nat × Int → Bool) (q' : Line → Bool) (hq : ∀ d a, d ≤ 3 → partsM sp d a P = true → q' ⟨d, a⟩ = q (d, a)) :
    D.lines.find? (fun l => D.parts l (region D P) && q' l) = (fs.filter q).head?.map fun x => (⟨x.1, x.2⟩ : Line) := by
  cases e : fs.filter q with
  | nil =>
    simp only [List.head?_nil, Option.map_none]
    rw [List.find?_eq_none]
    intro l hl z
    have hd := lines_dir D l hl
    rw [Bool.and_eq_true] at z
    have z1 : D.parts ⟨l.dir, l.at_⟩ (region D P) = true := z.1
    rw [parts_iff S pc.lt hd] at z1
    have z2 : q' ⟨l.dir, l.at_⟩ = true := z.2
    rw [hq _ _ hd z1] at z2
    have : (l.dir, l.at_) ∈ fs.filter q := List.mem_filter.mpr ⟨(h.mem _ _).mpr ⟨hd, z1⟩, z2⟩
    rw [e] at this; cases this
  | cons x r =>
    obtain ⟨d, a⟩ := x
    simp only [List.head?_cons, Option.map_some]
    have hm : (d, a) ∈ fs.filter q := by rw [e]; simp
    obtain ⟨hm1, hm2⟩ := List.mem_filter.mp hm
    obtain ⟨hd, hp⟩ := (h.mem d a).mp hm1
    have so' := h.ord.filter q
    rw [e, List.pairwise_cons] at so'
    rw [List.find?_eq_some_iff_append]
    refine ⟨by rw [parts_iff S pc.lt hd, hp, hq d a hd hp, hm2]; rfl, ?_⟩
    obtain ⟨as, bs, e1⟩ := List.append_of_mem (line_mem S w0 pc.lt hd hp)
    refine ⟨as, bs, e1, fun l hl => ?_⟩
    have so := lines_sorted D
    rw [e1, List.pairwise_append] at so
    have lt := so.2.2 l hl ⟨d, a⟩ (by simp)
    have hd' := lines_dir D l (by rw [e1]; simp [hl])
    cases z : (D.parts l (region D P) && q' l) with
    | false => rfl
    | true =>
      rw [Bool.and_eq_true] at z
      have z1 : D.parts ⟨l.dir, l.at_⟩ (region D P) = true := z.1
      rw [parts_iff S pc.lt hd'] at z1
      have z2 : q' ⟨l.dir, l.at_⟩ = true := z.2
      rw [hq _ _ hd' z1] at z2
      have hmm : (l.dir, l.at_) ∈ fs.filter q := List.mem_filter.mpr ⟨(h.mem _ _).mpr ⟨hd', z1⟩, z2⟩
      rw [e] at hmm
      rcases List.mem_cons.mp hmm with c | c
      · have c1 : l.dir = d := congrArg Prod.fst c
        have c2 : l.at_ = a := congrArg Prod.snd c
        rcases lt with z | z
        · have z : l.dir < d := z; omega
        · have z : l.at_ < a := z.2; omega
      · have c1 := so'.1 _ c
        rcases lt with z | z
        · have z : l.dir < d := z
          rcases c1 with c1 | c1
          · have c1 : d < l.dir := c1; omega
          · have c1 : d = l.dir := c1.1; omega
        · have z1 : l.dir = d := z.1
          have z2 : l.at_ < a := z.2
          rcases c1 with c1 | c1
          · have c1 : d < l.dir := c1; omega
          · have c1 : a < l.at_ := c1.2; omega
section
variable {D : Top} {sp : Sps} (S : Spans D sp) (w0 : 0 < D.wide)
include S w0
theorem pickD_eq {P : List Nat} (pc : Piece D P) {fs : List (Nat × Int)} (h : AllL sp P fs) (N k : Nat) (q : Nat × Int → Bool) (hq : ∀ d a, d ≤ 3 → partsM sp d a P = true →
    q (d, a) = (decide (k < N) && (inDays D (N - k - 1) (region D (befM sp d a P)) && inDays D (N - k - 1) (region D (behM sp d a P))))) : pickD D sp N P k = (fs.filter q).head? := by
  by_cases c : k < N
  · have e := find_first S w0 pc h q (fun l => inDays D (N - k - 1) (D.fore l (region D P)) && inDays D (N - k - 1) (D.hind l (region D P))) (fun d a hd hp => by
      obtain ⟨f1, f2⟩ := fore_region S pc.lt hd _ hp
      show (inDays D (N - k - 1) (D.fore ⟨d, a⟩ (region D P)) && inDays D (N - k - 1) (D.hind ⟨d, a⟩ (region D P))) = _
      rw [f1, f2, hq d a hd hp, decide_eq_true c, Bool.true_and])
    unfold pickD
    rw [if_pos c, e]
    cases e2 : fs.filter q with
    | nil => rfl
    | cons x r =>
      obtain ⟨d, a⟩ := x
      have hm : (d, a) ∈ fs.filter q := by rw [e2]; simp
      have := ((h.mem d a).mp (List.mem_filter.mp hm).1).2
      simp only [List.head?_cons, Option.map_some]
      rw [if_pos this]
  · unfold pickD
    rw [if_neg c]
    have : fs.filter q = [] := by
      rw [List.filter_eq_nil_iff]
      rintro ⟨d, a⟩ hm
      obtain ⟨hd, hp⟩ := (h.mem d a).mp hm
      rw [hq d a hd hp, decide_eq_false c]; simp
    rw [this]; rfl
theorem dayplan_pre (h64 : D.high ≤ 64) (N : Nat) : ∀ (n : Nat) (P : List Nat), P.length ≤ n → Piece D P → ∀ m k, k + m = N → inDays D m (region D P) = true →
    ∃ t, dayPlan D m (region D P) = some t ∧ rowM (preP sp (pickD D sp N) k P) = t.row.map fun (x : Nat) => (x : Int) := by
  intro n
  induction n with
  | zero =>
    intro P hn pc m k _ h
    have := (in_sew S w0 m pc h).ne S
    exact absurd (List.eq_nil_of_length_eq_zero (by omega)) this
  | succ n ih =>
    intro P hn pc m k hk h
    have hne := (in_sew S w0 m pc h).ne S
    have h0 : 0 < P.length := List.length_pos_iff.mpr hne
    by_cases h1 : P.length = 1
    · obtain ⟨p, hp⟩ := List.length_eq_one_iff.mp h1
      have hn : pickD D sp N P k = none := by
        cases e : pickD D sp N P k with
        | none => rfl
        | some l =>
          have := pm_len (pickD_ok D sp N P k l.1 l.2 e)
          omega
      rw [preP_none hn]
      refine ⟨.patch p, ?_, by rw [hp]; rfl⟩
      unfold dayPlan
      rw [one_in S.full pc hp]
    · have h2 : 2 ≤ (D.patchesIn (region D P)).length := by rw [len_in S.full pc]; omega
      match m, hk, h with
      | 0, hk, h => exact absurd ((in_zero S pc).mp h) h1
      | m + 1, hk, h =>
        rcases (in_succ S w0 pc m).mp h with z | ⟨d0, a0, hd0, hp0, q1, q2⟩
        · exact absurd z h1
        · have em : N - k - 1 = m := by omega
          cases e : D.lines.find? (fun l => D.parts l (region D P) && (inDays D m (D.fore l (region D P)) && inDays D m (D.hind l (region D P)))) with
          | none =>
            rw [List.find?_eq_none] at e
            have := e _ (line_mem S w0 pc.lt hd0 hp0)
            obtain ⟨f1, f2⟩ := fore_region S pc.lt hd0 _ hp0
            rw [parts_iff S pc.lt hd0, f1, f2, hp0, q1, q2] at this
            exact absurd rfl this
          | some l =>
            have hl := List.find?_some e
            have hd := lines_dir D l (List.mem_of_find?_eq_some e)
            simp only [Bool.and_eq_true] at hl
            obtain ⟨z1, z2, z3⟩ := hl
            have z1 : D.parts ⟨l.dir, l.at_⟩ (region D P) = true := z1
            rw [parts_iff S pc.lt hd] at z1
            obtain ⟨f1, f2⟩ := fore_region S pc.lt hd _ z1
            have f1 : D.fore l (region D P) = _ := f1
            have f2 : D.hind l (region D P) = _ := f2
            rw [f1] at z2
            rw [f2] at z3
            have hpick : pickD D sp N P k = some (l.dir, l.at_) := by
              unfold pickD
              rw [if_pos (by omega), em, e]
              simp only
              rw [if_pos z1]
            obtain ⟨p1, p2, b1, b2, bs⟩ := parts_small pc z1
            obtain ⟨t1, e1, r1⟩ := ih _ (by omega) p1 m (k + 1) (by omega) z2
            obtain ⟨t2, e2, r2⟩ := ih _ (by omega) p2 m (k + 1) (by omega) z3
            have al := at_low S w0 pc hd z1
            rw [preP_some (pickD_ok D sp N) hpick, row_cons, row_append, r1, r2]
            refine ⟨.seam l t1 t2, ?_, ?_⟩
            · conv => lhs; unfold dayPlan
              match hq : D.patchesIn (region D P), h2 with
              | x :: y :: r, _ =>
                simp only
                rw [e]
                simp only
                rw [f1, f2, e1, e2]
            · show [(l.dir : Int), l.at_ + 64] ++ _ = ((lineNums l ++ (t1.row ++ t2.row)).map fun (x : Nat) => (x : Int))
              rw [List.map_append, List.map_append]
              congr 1
              show [(l.dir : Int), l.at_ + 64] = [(l.dir : Int), (((l.at_ + 64).toNat : Nat) : Int)]
              have : (((l.at_ + 64).toNat : Nat) : Int) = l.at_ + 64 := by omega
              rw [this]
end
/-! ### how many pieces there are -/
def subs : List Nat → List (List Nat)
  | [] => [[]]
  | x :: l => subs l ++ (subs l).map (x :: ·)
theorem subs_len : ∀ l, (subs l).length = 2 ^ l.length
  | [] => rfl
  | x :: l => by
    unfold subs
    rw [List.length_append, List.length_map, subs_len l, List.length_cons, Nat.pow_succ]; omega
theorem subs_mem : ∀ {l K : List Nat}, List.Sublist K l → K ∈ subs l := by
  intro l K h
  induction h with
  | slnil => simp [subs]
  | cons a h ih => exact List.mem_append_left _ ih
  | cons_cons a h ih => exact List.mem_append_right _ (List.mem_map.mpr ⟨_, ih, rfl⟩)
theorem nodup_in {α : Type} [DecidableEq α] : ∀ (l m : List α), l.Nodup → (∀ x ∈ l, x ∈ m) → l.length ≤ m.length
  | [], m, _, _ => by simp
  | a :: l, m, nd, h => by
    rw [List.nodup_cons] at nd
    have ha := h a (by simp)
    have := nodup_in l (m.erase a) nd.2 fun x hx => by
      have : x ≠ a := fun e => nd.1 (e ▸ hx)
      exact (List.mem_erase_of_ne this).mpr (h x (by simp [hx]))
    rw [List.length_erase_of_mem ha] at this
    have : 0 < m.length := List.length_pos_of_mem ha
    rw [List.length_cons]
    omega
end Sm
end
section
set_option linter.all false
set_option Elab.async false
set_option maxRecDepth 100000
set_option maxHeartbeats 2000000
namespace Sq
open PySem PySem.Spec PyProof.Rows L2
open PySem.W (Codec)
/-! ## rules of our own: module constants, calls of defs, list(range(n)) -/
theorem map_get {α β : Type} {f : α → β} {l : List α} {i : Nat} {y : β} (h : (l.map f)[i]? = some y) : ∃ x, l[i]? = some x ∧ y = f x := by
  rw [List.getElem?_map] at h
  cases e : l[i]? with
  | none => rw [e] at h; cases h
  | some x => rw [e] at h; exact ⟨x, rfl, (Option.some.inj h).symm⟩
theorem vals_ix : ∀ (xs : List V) (us : List Value), xs.length = us.length → (∀ (j : Nat) x u, xs[j]? = some x → us[j]? = some u → RelV x u) → Vals xs us
  | [], [], _, _ => .nil
  | x :: xs, u :: us, hl, h => .cons (h 0 x u rfl rfl) (vals_ix xs us (by simpa using hl) fun j y v e1 e2 => h (j + 1) y v (by simpa using e1) (by simpa using e2))
  | [], _ :: _, hl, _ => by simp at hl
  | _ :: _, [], hl, _ => by simp at hl
section
variable {X : Cx}
theorem lenK {K : PySem.W.Frag} (h : X.K = K) : CallR X (.builtin "len") (fun xs H Q => ∃ p ys, xs = [.ref p] ∧ (SqL K H p ys ∨ SqT K H p ys) ∧ Q (.int ys.length) H) := by subst h; exact call_len_seq
theorem ixlK {K : PySem.W.Frag} (h : X.K = K) : IxR X (rIxL K) := by subst h; exact ix_list
theorem ixtK {K : PySem.W.Frag} (h : X.K = K) : IxR X (rIxT K) := by subst h; exact ix_tup
theorem pg_tupK {K : PySem.W.Frag} (hK : X.K = K) {es : List Expr} {k : Nat} {t : TGs} {n : Nat} {pos : Pos} (hc : X.calm = true) (h : PGs X es t)
    (hn : (assignEach es X.env).length = n := by rfl) (hst : (assignEach es X.env).findIdx? (·.1) = none := by rfl) : PG X (.Tuple es k pos) (gTup K n t) := by subst hK; exact pg_tup hc h hn hst
theorem pg_int {x : Str} {i : Int} {pos : Pos} (h : ∃ t, X.mg x = some (Value.int i t)) (hg : Gl X x := by rfl) (hd : (x == ("__debug__" : Str)) = false := by decide) : PE X (.Name x pos) (tC (.int i)) := by
  obtain ⟨t, h⟩ := h
  exact pe_glob hg h ⟨t, rfl⟩ hd
theorem cr_range1 : CallR X (.type "range") (fun xs H Q => ∃ j : Int, xs = [.int j] ∧ ∀ r, H r = none → Q (.ref r) (upd H r (.rng 0 j))) := by
  intro pins s σ H xs us Q I r h
  obtain ⟨j, rfl, q⟩ := h
  obtain ⟨u, rfl, t, rfl⟩ := vals1 r
  refine call_range_1 ⟨.ref s.heap.objs.size, _, I.laid (a := s.heap.objs.size) (o := .rng 0 j) (fun b o e => Heap.get?_push_of_some _ e) (Nat.le_refl _) ?_, rfl, q _ (I.hok.fresh (Nat.le_refl _))⟩
  exact ⟨_, _, _, Heap.get?_push_size _ rfl⟩
theorem items_vals {acc : Array Value} {n : Nat} (h : ItemsOf (fun i v => ∃ t, v = Value.int (0 + (i : Int) * 1) t) acc n) : Vals (((List.range n).map fun i => ((i : Nat) : Int)).map V.int) acc.toList := by
  obtain ⟨h1, h2⟩ := h
  refine vals_ix _ _ (by simp [h1]) fun j x u e1 e2 => ?_
  obtain ⟨y, hy, rfl⟩ := map_get e1
  obtain ⟨i, hi, rfl⟩ := map_get hy
  obtain ⟨hj, ej⟩ := List.getElem?_eq_some_iff.mp hi
  rw [List.getElem_range] at ej
  subst ej
  rw [Array.getElem?_toList] at e2
  obtain ⟨t, rfl⟩ := h2 j u e2
  exact ⟨t, by rw [Int.zero_add, Int.mul_one]⟩
theorem cr_list_range (hc : X.calm = true) : CallR X (.type "list") (fun xs H Q => ∃ (r : Addr) (n : Nat), xs = [.ref r] ∧ H r = some (.rng 0 (n : Int)) ∧ n ≤ 1000000 ∧ ∀ l, H l = none → Q (.ref l) (upd H l (.lst (((List.range n).map fun i => ((i : Nat) : Int)).map V.int)))) := by
  intro pins s σ H xs us Q I r h
  obtain ⟨a, n, rfl, ha, hn, q⟩ := h
  obtain ⟨u, rfl, rx⟩ := vals1 r
  cases rx
  obtain ⟨t, u, v, e⟩ := I.hok a _ ha
  refine call_list_range (I.ok.hd hc) e (small_one (by omega) (by omega) (by omega) (by omega)) (n := n) ?_ (by omega) fun h' tk acc' c' hk hS hit => ?_
  · rw [rangeSize_one]; split <;> omega
  · refine ⟨.ref s.heap.objs.size, _, I.laid (a := s.heap.objs.size) (o := .lst (((List.range n).map fun i => ((i : Nat) : Int)).map V.int)) hk (Nat.le_refl _) ?_, rfl, q _ (I.hok.fresh (Nat.le_refl _))⟩
    refine ⟨?_, acc'.toList, c', items_vals hit, by simpa using hS⟩
    rw [List.length_map, List.length_map, List.length_range, sizeLine_eq]; omega
end
/-- a def of the text that keeps its promise, to be called -/
structure Has (P : Program) (w : World) (K : PySem.W.Frag) (mg : Str → Option Value) (base : Heap) (k : Nat) (x : Str) (ps : List Str) (sp : Sp) : Prop where
  ex : ∃ (f : Addr) (fd : FuncData), FnOk P w K mg base CX0 k f fd ps sp ∧ mg x = some (.ref f) ∧ PySem.W.keepIn K (.ref f) = true ∧ Binds K fd ps []
theorem pe_f {X : Cx} {k : Nat} {x : Str} {ps : List Str} {sp : Sp} {e : Expr} {es : List Expr} {t : TA} {p pos : Pos} (F : Has X.prog X.w X.K X.mg X.base k x ps sp) (hr : Room k X.A) (hg : Gl X x) (ha : PA X (e :: es) t)
    (hdb : (x == ("__debug__" : Str)) = false := by decide) (he : starEach (e :: es) X.env = (false, eval e X.env) :: starEach es X.env := by rfl) (hpl : (backTo pos (starEach es X.env)).any (·.1) = false := by rfl) :
    PE X (.Call (.Name x p) (e :: es) [] pos) (tCall sp [] E0 t) := by
  obtain ⟨f, fd, h1, h2, h3, h4⟩ := F.ex
  exact pe_call h1 hr hg h2 h3 h4 .nil pass0 ha hdb he hpl
/-! ## data in the heap -/
/-- lists of ints at the addresses as -/
structure RA (H : Hp) (as : List Addr) (rows : List (List Int)) : Prop where
  len : as.length = rows.length
  at_ : ∀ (j : Nat) (a : Addr), as[j]? = some a → ∃ r, rows[j]? = some r ∧ H a = some (.lst (r.map V.int))
def Rows (H : Hp) (p : Addr) (rows : List (List Int)) : Prop := ∃ as, H p = some (.lst (as.map V.ref)) ∧ RA H as rows
theorem RA.mono {H H' : Hp} {as : List Addr} {rows : List (List Int)} (h : RA H as rows) (s : ∀ a ∈ as, ∀ o, H a = some o → H' a = some o) : RA H' as rows :=
  ⟨h.len, fun j a e => let ⟨r, h1, h2⟩ := h.at_ j a e; ⟨r, h1, s a (List.mem_of_getElem? e) _ h2⟩⟩
theorem Rows.mono {H H' : Hp} {p : Addr} {rows : List (List Int)} (h : Rows H p rows) (s : Same H H') : Rows H' p rows :=
  let ⟨as, h1, h2⟩ := h; ⟨as, s _ _ h1, h2.mono fun a _ o e => s a o e⟩
theorem RA.nil {H : Hp} : RA H [] [] := ⟨rfl, fun j a e => by simp at e⟩
theorem RA.snoc {H : Hp} {as : List Addr} {rows : List (List Int)} {a : Addr} {r : List Int} (h : RA H as rows) (ha : H a = some (.lst (r.map V.int))) : RA H (as ++ [a]) (rows ++ [r]) := by
  refine ⟨by rw [List.length_append, List.length_append, h.len]; rfl, fun j b e => ?_⟩
  by_cases hj : j < as.length
  · rw [List.getElem?_append_left hj] at e
    obtain ⟨r', h1, h2⟩ := h.at_ j b e
    exact ⟨r', by rw [List.getElem?_append_left (by rw [← h.len]; exact hj)]; exact h1, h2⟩
  · rw [List.getElem?_append_right (by omega)] at e
    have hj2 : j - as.length = 0 := by
      rcases Nat.eq_zero_or_pos (j - as.length) with z | z
      · exact z
      · rw [List.getElem?_eq_none (by simp; omega)] at e; cases e
    rw [hj2] at e
    have : a = b := by simpa using e
    subst this
    refine ⟨r, ?_, ha⟩
    rw [List.getElem?_append_right (by rw [← h.len]; omega), ← h.len, hj2]
    rfl
theorem RA.init {H : Hp} {as : List Addr} {rows : List (List Int)} {a : Addr} {r : List Int} (h : RA H (as ++ [a]) (rows ++ [r])) : RA H as rows ∧ H a = some (.lst (r.map V.int)) := by
  have hl : as.length = rows.length := by have := h.len; simp at this; exact this
  refine ⟨⟨hl, fun j b e => ?_⟩, ?_⟩
  · obtain ⟨hj, _⟩ := List.getElem?_eq_some_iff.mp e
    obtain ⟨r', h1, h2⟩ := h.at_ j b (by rw [List.getElem?_append_left hj]; exact e)
    rw [List.getElem?_append_left (by omega)] at h1
    exact ⟨r', h1, h2⟩
  · obtain ⟨r', h1, h2⟩ := h.at_ as.length a (by simp)
    rw [hl] at h1
    have : r = r' := by simpa using h1
    rw [this]; exact h2
theorem same_new {H H' : Hp} {a : Addr} {o : HO} (s : Same H H') (h : H' a = none) : Same H (upd H' a o) := fun b u e => by
  rw [upd_ne (ne_of_none (s _ _ e) h)]; exact s _ _ e
theorem same_old {H H' : Hp} {a : Addr} {o : HO} (s : Same H H') (h : H a = none) : Same H (upd H' a o) := fun b u e => by
  rw [upd_ne (ne_of_none e h)]; exact s _ _ e
theorem take_snoc {α : Type} {l : List α} {i : Nat} {x : α} (h : l[i]? = some x) : l.take (i + 1) = l.take i ++ [x] := by
  obtain ⟨hi, e⟩ := List.getElem?_eq_some_iff.mp h
  rw [List.take_succ_eq_append_getElem hi, e]
theorem yesT {A : Prop} (h : A) : A := h
theorem sz {n : Nat} (h : n ≤ 1000000) : n < sizeLine := by rw [sizeLine_eq]; omega
/-! ## the text by places -/
def top (i : Nat) : Stmt := PySem.Challenge.pw_straightseamsdesk_s01_can.main.body.getD i (.Pass ⟨0, 0, 0, 0⟩)
structure Txt (mg : Str → Option Value) : Prop where
  b_all : mg "all" = none
  b_any : mg "any" = none
  b_len : mg "len" = none
  b_list : mg "list" = none
  b_max : mg "max" = none
  b_min : mg "min" = none
  b_range : mg "range" = none
  b_tuple : mg "tuple" = none
  c_MOST_BYTES : ∃ t, mg "MOST_BYTES" = some (Value.int (1024) t)
  c_MOST_SQUARES : ∃ t, mg "MOST_SQUARES" = some (Value.int (6) t)
  c_ROW_END : ∃ t, mg "ROW_END" = some (Value.int (10) t)
  c_BLANK : ∃ t, mg "BLANK" = some (Value.int (32) t)
  c_SLASH : ∃ t, mg "SLASH" = some (Value.int (47) t)
  c_BACKSLASH : ∃ t, mg "BACKSLASH" = some (Value.int (92) t)
  c_TOO_LONG : ∃ t, mg "TOO_LONG" = some (Value.int (-2) t)
  c_AT_FAULT : ∃ t, mg "AT_FAULT" = some (Value.int (-6) t)
  c_UPPER : ∃ t, mg "UPPER" = some (Value.int (0) t)
  c_RIGHT : ∃ t, mg "RIGHT" = some (Value.int (1) t)
  c_LOWER : ∃ t, mg "LOWER" = some (Value.int (2) t)
  c_LEFT : ∃ t, mg "LEFT" = some (Value.int (3) t)
  c_UPRIGHT : ∃ t, mg "UPRIGHT" = some (Value.int (0) t)
  c_LEVEL : ∃ t, mg "LEVEL" = some (Value.int (1) t)
  c_FALLING : ∃ t, mg "FALLING" = some (Value.int (2) t)
  c_DIRECTIONS : ∃ t, mg "DIRECTIONS" = some (Value.int (4) t)
abbrev s_split_at : Stmt := top 17
theorem sc_split_at : FnScope ["numbers", "mark", "stretches", "number"] ["numbers", "mark"] (defScope s_split_at) := ⟨rfl, rfl, rfl, by decide +kernel, rfl, by decide +kernel, by decide +kernel⟩
abbrev s_is_letter : Stmt := top 18
theorem sc_is_letter : FnScope ["number"] ["number"] (defScope s_is_letter) := ⟨rfl, rfl, rfl, by decide +kernel, rfl, by decide +kernel, by decide +kernel⟩
abbrev s_spread_square : Stmt := top 19
theorem sc_spread_square : FnScope ["square"] ["square"] (defScope s_spread_square) := ⟨rfl, rfl, rfl, by decide +kernel, rfl, by decide +kernel, by decide +kernel⟩
abbrev s_read_square : Stmt := top 20
theorem sc_read_square : FnScope ["square", "quarters", "number"] ["square"] (defScope s_read_square) := ⟨rfl, rfl, rfl, by decide +kernel, rfl, by decide +kernel, by decide +kernel⟩
abbrev s_read_row : Stmt := top 21
theorem sc_read_row : FnScope ["row", "squares", "letters", "square", "quarters"] ["row"] (defScope s_read_row) := ⟨rfl, rfl, rfl, by decide +kernel, rfl, by decide +kernel, by decide +kernel⟩
abbrev s_read_rows : Stmt := top 22
theorem sc_read_rows : FnScope ["text", "stretches", "left_over", "rows", "length", "stretch", "row"] ["text"] (defScope s_read_rows) := ⟨rfl, rfl, rfl, by decide +kernel, rfl, by decide +kernel, by decide +kernel⟩
abbrev s_refusal : Stmt := top 23
theorem sc_refusal : FnScope ["text"] ["text"] (defScope s_refusal) := ⟨rfl, rfl, rfl, by decide +kernel, rfl, by decide +kernel, by decide +kernel⟩
abbrev s_side_by_side : Stmt := top 24
theorem sc_side_by_side : FnScope ["quarter", "wide", "count", "square", "side", "near"] ["quarter", "wide", "count"] (defScope s_side_by_side) := ⟨rfl, rfl, rfl, by decide +kernel, rfl, by decide +kernel, by decide +kernel⟩
abbrev s_patch_around : Stmt := top 25
theorem sc_patch_around : FnScope ["start", "letters", "wide", "patch", "reached", "done", "quarter"] ["start", "letters", "wide"] (defScope s_patch_around) := ⟨rfl, rfl, rfl, by decide +kernel, rfl, by decide +kernel, by decide +kernel⟩
abbrev s_find_patches : Stmt := top 26
theorem sc_find_patches : FnScope ["letters", "wide", "patches", "taken", "start", "patch", "quarter"] ["letters", "wide"] (defScope s_find_patches) := ⟨rfl, rfl, rfl, by decide +kernel, rfl, by decide +kernel, by decide +kernel⟩
abbrev s_strip_of : Stmt := top 27
theorem sc_strip_of : FnScope ["quarter", "direction", "wide", "square", "side", "x", "y"] ["quarter", "direction", "wide"] (defScope s_strip_of) := ⟨rfl, rfl, rfl, by decide +kernel, rfl, by decide +kernel, by decide +kernel⟩
abbrev s_spans_of_patch : Stmt := top 28
theorem sc_spans_of_patch : FnScope ["patch", "wide", "spans", "direction", "strips", "quarter"] ["patch", "wide"] (defScope s_spans_of_patch) := ⟨rfl, rfl, rfl, by decide +kernel, rfl, by decide +kernel, by decide +kernel⟩
abbrev s_read_spans : Stmt := top 29
theorem sc_read_spans : FnScope ["text", "rows", "wide", "letters", "row", "patch"] ["text"] (defScope s_read_spans) := ⟨rfl, rfl, rfl, by decide +kernel, rfl, by decide +kernel, by decide +kernel⟩
abbrev s_whole_top : Stmt := top 30
theorem sc_whole_top : FnScope ["spans"] ["spans"] (defScope s_whole_top) := ⟨rfl, rfl, rfl, by decide +kernel, rfl, by decide +kernel, by decide +kernel⟩
abbrev s_both_sides : Stmt := top 31
theorem sc_both_sides : FnScope ["spans", "piece", "direction", "at", "before", "behind", "cut", "patch"] ["spans", "piece", "direction", "at"] (defScope s_both_sides) := ⟨rfl, rfl, rfl, by decide +kernel, rfl, by decide +kernel, by decide +kernel⟩
abbrev s_partings : Stmt := top 32
theorem sc_partings : FnScope ["spans", "piece", "found", "direction", "lowest", "highest", "at", "sides", "patch"] ["spans", "piece"] (defScope s_partings) := ⟨rfl, rfl, rfl, by decide +kernel, rfl, by decide +kernel, by decide +kernel⟩
abbrev s_take_apart : Stmt := top 33
theorem sc_take_apart : FnScope ["spans", "most", "steps", "known", "waiting", "told", "found", "parting"] ["spans", "most"] (defScope s_take_apart) := ⟨rfl, rfl, rfl, by decide +kernel, rfl, by decide +kernel, by decide +kernel⟩
abbrev s_stuck_pieces : Stmt := top 34
theorem sc_stuck_pieces : FnScope ["steps", "piece", "parting"] ["steps"] (defScope s_stuck_pieces) := ⟨rfl, rfl, rfl, by decide +kernel, rfl, by decide +kernel, by decide +kernel⟩
abbrev s_fewest_days : Stmt := top 35
theorem sc_fewest_days : FnScope ["spans", "piece", "known", "key", "parting"] ["spans", "piece", "known"] (defScope s_fewest_days) := ⟨rfl, rfl, rfl, by decide +kernel, rfl, by decide +kernel, by decide +kernel⟩
abbrev s_days_by : Stmt := top 36
theorem sc_days_by : FnScope ["spans", "parting", "known", "before", "behind"] ["spans", "parting", "known"] (defScope s_days_by) := ⟨rfl, rfl, rfl, by decide +kernel, rfl, by decide +kernel, by decide +kernel⟩
abbrev s_can : Stmt := top 37
theorem sc_can : FnScope ["text", "refused", "stuck"] ["text"] (defScope s_can) := ⟨rfl, rfl, rfl, by decide +kernel, rfl, by decide +kernel, by decide +kernel⟩
end Sq
end
section
set_option linter.all false
set_option Elab.async false
set_option maxRecDepth 100000
set_option maxHeartbeats 2000000
namespace Sq
open PySem PySem.Spec PyProof.Rows L2 Sm
/-! ## is_letter -/
def sp_is_letter (K : PySem.W.Frag) : Sp := fun vs H Q _ => ∃ n : Int, vs = [.int n] ∧ Q (.bl (isLetter n)) H
theorem ok_is_letter {P : Program} {w : World} {K : PySem.W.Frag} {mg : Str → Option Value} {base : Heap} {f : Addr} {fd : FuncData} (F : Fun K "is_letter" "is_letter" s_is_letter f fd) (T : Txt mg)  : FnOk P w K mg base CX0 1 f fd ["number"] (sp_is_letter K) := by
  have nd := sc_is_letter.nd
  refine F.ok sc_is_letter (fun vs H Q E h => ?_) (fun cdv A outer s H vs Q E hr h => ?_)
  · obtain ⟨n, rfl, _⟩ := h
    rfl
  · obtain ⟨n, rfl, k⟩ := h
    refine ⟨_, (pss_one (ps_ret (pe_or (pe_chain op_le op_le pe_int (pv 0) pe_int) (pe_one (pe_chain op_le op_le pe_int (pv 0) pe_int))))), ?_⟩
    refine ⟨_, rfl, _, _, rfl, rfl, _, rfl, ?_⟩
    refine ite2 (fun h1 => ⟨_, _, rfl, rfl, _, rfl, ?_⟩) (fun h1 => ⟨_, rfl, iteF ⟨_, rfl, _, _, rfl, rfl, _, rfl, ?_⟩⟩)
    · refine ite2 (fun h2 => ?_) (fun h2 => ⟨_, rfl, _, _, rfl, rfl, _, rfl, ?_⟩)
      · have e : isLetter n = true := by unfold isLetter; rw [h1, h2]; rfl
        rw [e] at k; exact k
      · have e : isLetter n = (decide (97 ≤ n) && decide (n ≤ 122)) := by unfold isLetter; rw [Bool.eq_false_iff.mpr h2]; simp
        rw [e] at k
        refine ite2 (fun h3 => ⟨_, _, rfl, rfl, ?_⟩) (fun h3 => ?_)
        · rw [h3, Bool.true_and] at k; exact k
        · rw [Bool.eq_false_iff.mpr h3, Bool.false_and] at k; exact k
    · have e : isLetter n = (decide (97 ≤ n) && decide (n ≤ 122)) := by unfold isLetter; rw [Bool.eq_false_iff.mpr h1]; simp
      rw [e] at k
      refine ite2 (fun h3 => ⟨_, _, rfl, rfl, ?_⟩) (fun h3 => ?_)
      · rw [h3, Bool.true_and] at k; exact k
      · rw [Bool.eq_false_iff.mpr h3, Bool.false_and] at k; exact k
end Sq
end
section
set_option linter.all false
set_option Elab.async false
set_option maxRecDepth 100000
set_option maxHeartbeats 2000000
namespace Sq
open PySem PySem.Spec PyProof.Rows L2 Sm
/-! ## split_at -/
theorem split_len (m : Int) : ∀ (l : List Int) (a : List (List Int)) (b : List Int), (l.foldl (splitStep m) (a, b)).1.length ≤ a.length + l.length ∧ (l.foldl (splitStep m) (a, b)).2.length ≤ b.length + l.length
  | [], a, b => by simp
  | x :: l, a, b => by
    rw [List.foldl_cons]
    by_cases hx : x = m
    · have e1 : splitStep m (a, b) x = (a ++ [b], []) := by unfold splitStep; rw [if_pos hx]
      rw [e1]
      have := split_len m l (a ++ [b]) []
      simp only [List.length_append, List.length_cons, List.length_nil] at this ⊢
      omega
    · have e1 : splitStep m (a, b) x = (a, b ++ [x]) := by unfold splitStep; rw [if_neg hx]
      rw [e1]
      have := split_len m l a (b ++ [x])
      simp only [List.length_append, List.length_cons, List.length_nil] at this ⊢
      omega
theorem splitF_len (m : Int) (l : List Int) : (splitF m l).1.length ≤ l.length ∧ (splitF m l).2.length ≤ l.length := by
  have := split_len m l [] []
  unfold splitF
  simp only [List.length_nil] at this
  omega
theorem split_each (m : Int) (n : Nat) : ∀ (l : List Int) (a : List (List Int)) (b : List Int), (∀ s ∈ a, s.length ≤ n) → b.length + l.length ≤ n → (∀ s ∈ (l.foldl (splitStep m) (a, b)).1, s.length ≤ n) ∧ (l.foldl (splitStep m) (a, b)).2.length ≤ n
  | [], a, b, h1, h2 => ⟨h1, by simpa using h2⟩
  | x :: l, a, b, h1, h2 => by
    rw [List.foldl_cons]
    simp only [List.length_cons] at h2
    by_cases hx : x = m
    · have e1 : splitStep m (a, b) x = (a ++ [b], []) := by unfold splitStep; rw [if_pos hx]
      rw [e1]
      refine split_each m n l (a ++ [b]) [] (fun s hs => ?_) (by simp; omega)
      rcases List.mem_append.mp hs with z | z
      · exact h1 s z
      · have : s = b := by simpa using z
        rw [this]; omega
    · have e1 : splitStep m (a, b) x = (a, b ++ [x]) := by unfold splitStep; rw [if_neg hx]
      rw [e1]
      exact split_each m n l a (b ++ [x]) h1 (by simp; omega)
theorem splitM_each {m : Int} {xs : List Int} : ∀ s ∈ splitM m xs, s.length ≤ xs.length := by
  have := split_each m xs.length xs [] [] (fun s hs => by cases hs) (by simp)
  intro s hs
  unfold splitM at hs
  rcases List.mem_append.mp hs with z | z
  · exact this.1 s z
  · have e : s = (splitF m xs).2 := by simpa using z
    rw [e]; exact this.2
def sp_split_at (K : PySem.W.Frag) : Sp := fun vs H Q _ => ∃ (a : Addr) (m : Int) (xs : List Int), vs = [.ref a, .int m] ∧ SqL K H a (xs.map V.int) ∧ xs.length ≤ 1100 ∧
  ∀ (H' : Hp) (p : Addr), Same H H' → H p = none → Rows H' p (splitM m xs) → Q (.ref p) H'
structure SplitI (H H' : Hp) (p : Addr) (ini : List Addr) (la : Addr) (F : List (List Int) × List Int) : Prop where
  same : Same H H'
  at_p : H' p = some (.lst ((ini ++ [la]).map V.ref))
  rows : RA H' ini F.1
  last : H' la = some (.lst (F.2.map V.int))
  nla : la ∉ ini
  frl : H la = none
  npl : p ≠ la
  npi : p ∉ ini
theorem ok_split_at {P : Program} {w : World} {K : PySem.W.Frag} {mg : Str → Option Value} {base : Heap} {f : Addr} {fd : FuncData} (F : Fun K "split_at" "split_at" s_split_at f fd) (T : Txt mg)  : FnOk P w K mg base CX0 1 f fd ["numbers", "mark"] (sp_split_at K) := by
  have nd := sc_split_at.nd
  refine F.ok sc_split_at (fun vs H Q E h => ?_) (fun cdv A outer s H vs Q E hr h => ?_)
  · obtain ⟨a, m, xs, rfl, _⟩ := h
    rfl
  · obtain ⟨a, m, xs, rfl, hS, hlen, k⟩ := h
    refine ⟨_, (pss_cons (ps_set (i := 2) nd rfl (by first | exact Or.inl rfl | exact Or.inr rfl) (pe_lst (pa_cons (pe_lst pa_nil) pa_nil)))
        (pss_cons (ps_for PassesOwn.never rfl (pi_list (pv 0)) (pg_name (i := 3) nd rfl (by first | exact Or.inl rfl | exact Or.inr rfl)) (pss_one (ps_if (pt_cmpR op_eq (pv 3) (pv 1) (nomark _)) (pss_one (ps_expr (pe_bm PySem.F.plainAttrs_list PySem.F.slot_list_append PySem.F.type_list_append mt_append (pv 2) (pa_cons (pe_lst pa_nil) pa_nil)))) (pss_one (ps_expr (pe_bm PySem.F.plainAttrs_list PySem.F.slot_list_append PySem.F.type_list_append mt_append (pe_ix (ixlK (K := K) rfl) (pv 2) (pe_un un_neg pe_int) (fun _ _ => rfl)) (pa_cons (pv 3) pa_nil)))))))
        (pss_one (ps_ret (pv 2))))), ?_⟩
    refine ⟨Nat.zero_le _, fun l hl => ⟨Nat.le_of_lt (sz (by show 1 ≤ _; omega)), fun p hp => ?_⟩⟩
    have hnpl : p ≠ l := fun e => by rw [e, upd_same] at hp; cases hp
    have hp0 : H p = none := by rw [upd_ne hnpl] at hp; exact hp
    have s1 : Same H (upd H l (.lst [])) := same_new (Same.refl H) hl
    have s2 : Same H (upd (upd H l (.lst [])) p (.lst [.ref l])) := same_new s1 hp
    refine ⟨_, rfl, a, rfl, ⟨_, s2.seq hS⟩, for_list (K := K) (a := a) (xs := xs.map V.int) (fun i σ H' => ∃ (v : Option V) (ini : List Addr) (la : Addr), σ = [some (.ref a), some (.int m), some (.ref p), v] ∧ SplitI H H' p ini la (splitF m (xs.take i)))
      ⟨none, [], l, rfl, s2, upd_same, RA.nil, (by rw [upd_ne (Ne.symm hnpl), upd_same]; rfl), (by simp), hl, hnpl, (by simp)⟩ (fun i σ H' _ ⟨_, _, _, _, I⟩ => I.same.seq hS) ?_ ?_⟩
    · rintro i y σ H' hi ⟨v, ini, la, rfl, I⟩
      obtain ⟨z, hz, rfl⟩ := map_get hi
      have hil : i < xs.length := (List.getElem?_eq_some_iff.mp hz).1
      have ht := take_snoc hz
      have fl := splitF_len m (xs.take i)
      have htl : (xs.take i).length ≤ 1100 := by rw [List.length_take]; omega
      have hini := I.rows.len
      refine ⟨_, rfl, _, rfl, rfl, _, rfl, ite2 (fun h => ?_) (fun h => ?_)⟩
      · have hzm : z = m := by simpa using h
        refine ⟨_, rfl, .inl ⟨rfl, _, SqL.of I.at_p⟩, Nat.zero_le _, fun l2 hl2 => ?_⟩
        have n2p : p ≠ l2 := ne_of_none I.at_p hl2
        have n2l : la ≠ l2 := ne_of_none I.last hl2
        refine ⟨p, _, _, rfl, rfl, (by rw [upd_ne n2p]; exact I.at_p), sz (by simp; omega), ?_⟩
        have n2i : ∀ b ∈ ini, b ≠ l2 := fun b hb => by
          obtain ⟨j, hj, ej⟩ := List.getElem_of_mem hb
          obtain ⟨r, _, hr⟩ := I.rows.at_ j b (by rw [List.getElem?_eq_getElem hj, ej])
          exact ne_of_none hr hl2
        have e : splitF m (xs.take (i + 1)) = ((splitF m (xs.take i)).1 ++ [(splitF m (xs.take i)).2], []) := by
          rw [ht, splitF_snoc]; unfold splitStep; rw [if_pos hzm]
        refine ⟨_, ini ++ [la], l2, rfl, ?_⟩
        rw [e]
        have keep : ∀ b o, b ≠ p → b ≠ l2 → H' b = some o → upd (upd H' l2 (.lst [])) p (.lst ((ini ++ [la]).map V.ref ++ [.ref l2])) b = some o := fun b o h1 h2 h3 => by
          rw [upd_ne h1, upd_ne h2]; exact h3
        refine ⟨same_old (same_new I.same hl2) hp0, by rw [upd_same]; simp, ?_, by rw [upd_ne (Ne.symm n2p), upd_same]; rfl, ?_, I.same.free hl2, n2p, ?_⟩
        · refine RA.snoc (I.rows.mono fun b hb o ho => keep b o (fun e => I.npi (e ▸ hb)) (n2i b hb) ho) (keep la _ (Ne.symm I.npl) n2l I.last)
        · intro hm
          rcases List.mem_append.mp hm with z | z
          · exact n2i l2 z rfl
          · exact n2l (List.mem_singleton.mp z).symm
        · intro hm
          rcases List.mem_append.mp hm with z | z
          · exact I.npi z
          · exact I.npl (by simpa using z)
      · have hzm : ¬ z = m := by simpa using h
        refine ⟨_, rfl, _, rfl, p, _, _, _, rfl, rfl, SqL.of I.at_p, (show atI ((ini ++ [la]).map V.ref) (-1) = some (V.ref la) by rw [List.map_append]; exact atI_last _ _), .inl ⟨rfl, _, SqL.of I.last⟩, _, rfl, la, _, _, rfl, rfl, I.last, sz (by simp; omega), ?_⟩
        have e : splitF m (xs.take (i + 1)) = ((splitF m (xs.take i)).1, (splitF m (xs.take i)).2 ++ [z]) := by
          rw [ht, splitF_snoc]; unfold splitStep; rw [if_neg hzm]
        refine ⟨_, ini, la, rfl, ?_⟩
        rw [e]
        refine ⟨same_old I.same I.frl, by rw [upd_ne I.npl]; exact I.at_p, I.rows.mono fun b hb o ho => ?_, by rw [upd_same]; simp, I.nla, I.frl, I.npl, I.npi⟩
        rw [upd_ne (fun e : b = la => I.nla (e ▸ hb))]; exact ho
    · rintro σ H' ⟨v, ini, la, rfl, I⟩
      rw [List.length_map, List.take_length] at I
      exact ⟨_, rfl, k H' p I.same hp0 ⟨_, I.at_p, I.rows.snoc I.last⟩⟩
end Sq
end
section
set_option linter.all false
set_option Elab.async false
set_option maxRecDepth 100000
set_option maxHeartbeats 2000000
namespace Sq
open PySem PySem.Spec PyProof.Rows L2 Sm
/-! ## spread_square -/
def sp_spread_square (K : PySem.W.Frag) : Sp := fun vs H Q _ => ∃ (a : Addr) (xs : List Int), vs = [.ref a] ∧ SqL K H a (xs.map V.int) ∧ xs.length ≤ 1100 ∧
  ∀ (H' : Hp) (p : Addr), Same H H' → H p = none → H' p = some (.lst ((spread xs).map V.int)) → Q (.ref p) H'
theorem eqF {i j : Int} {A B : Prop} (h : i ≠ j) (b : B) : if decide (V.int i = V.int j) = true then A else B := by
  rw [if_neg (by simpa using h)]; exact b
theorem eqT {i j : Int} {A B : Prop} (h : i = j) (a : A) : if decide (V.int i = V.int j) = true then A else B := by
  rw [if_pos (by simpa using h)]; exact a
theorem eqF' {i j : Int} {A B : Prop} (h : i ≠ j) (b : B) : if decide (V.int i = V.int j) = true then A else B := eqF h b
theorem eqT' {i j : Int} {A B : Prop} (h : i = j) (a : A) : if decide (V.int i = V.int j) = true then A else B := eqT h a
theorem ok_spread_square {P : Program} {w : World} {K : PySem.W.Frag} {mg : Str → Option Value} {base : Heap} {f : Addr} {fd : FuncData} (F : Fun K "spread_square" "spread_square" s_spread_square f fd) (T : Txt mg)  : FnOk P w K mg base CX0 1 f fd ["square"] (sp_spread_square K) := by
  have nd := sc_spread_square.nd
  refine F.ok sc_spread_square (fun vs H Q E h => ?_) (fun cdv A outer s H vs Q E hr h => ?_)
  · obtain ⟨a, xs, rfl, _⟩ := h
    rfl
  · obtain ⟨a, xs, rfl, hS, hlen, k⟩ := h
    refine ⟨_, (pss_cons (ps_if (pt_cmpR op_eq (pe_callB (lenK (K := K) rfl) (by rfl) T.b_len PySem.boot_len (pa_cons (pv 0) pa_nil)) pe_int (nomark _)) (pss_one (ps_ret (pe_lst (pa_cons (pe_ix (ixlK (K := K) rfl) (pv 0) pe_int (fun _ _ => rfl)) (pa_cons (pe_ix (ixlK (K := K) rfl) (pv 0) pe_int (fun _ _ => rfl)) (pa_cons (pe_ix (ixlK (K := K) rfl) (pv 0) pe_int (fun _ _ => rfl)) (pa_cons (pe_ix (ixlK (K := K) rfl) (pv 0) pe_int (fun _ _ => rfl)) pa_nil))))))) pss_nil)
        (pss_cons (ps_if (pw_and (pt_cmpR op_eq (pe_callB (lenK (K := K) rfl) (by rfl) T.b_len PySem.boot_len (pa_cons (pv 0) pa_nil)) pe_int (nomark _)) (pw_and1 (pt_cmpR op_eq (pe_ix (ixlK (K := K) rfl) (pv 0) pe_int (fun _ _ => rfl)) (pg_int T.c_SLASH) (nomark _)))).pt (pss_one (ps_ret (pe_lst (pa_cons (pe_ix (ixlK (K := K) rfl) (pv 0) pe_int (fun _ _ => rfl)) (pa_cons (pe_ix (ixlK (K := K) rfl) (pv 0) pe_int (fun _ _ => rfl)) (pa_cons (pe_ix (ixlK (K := K) rfl) (pv 0) pe_int (fun _ _ => rfl)) (pa_cons (pe_ix (ixlK (K := K) rfl) (pv 0) pe_int (fun _ _ => rfl)) pa_nil))))))) pss_nil)
        (pss_cons (ps_if (pw_and (pt_cmpR op_eq (pe_callB (lenK (K := K) rfl) (by rfl) T.b_len PySem.boot_len (pa_cons (pv 0) pa_nil)) pe_int (nomark _)) (pw_and1 (pt_cmpR op_eq (pe_ix (ixlK (K := K) rfl) (pv 0) pe_int (fun _ _ => rfl)) (pg_int T.c_BACKSLASH) (nomark _)))).pt (pss_one (ps_ret (pe_lst (pa_cons (pe_ix (ixlK (K := K) rfl) (pv 0) pe_int (fun _ _ => rfl)) (pa_cons (pe_ix (ixlK (K := K) rfl) (pv 0) pe_int (fun _ _ => rfl)) (pa_cons (pe_ix (ixlK (K := K) rfl) (pv 0) pe_int (fun _ _ => rfl)) (pa_cons (pe_ix (ixlK (K := K) rfl) (pv 0) pe_int (fun _ _ => rfl)) pa_nil))))))) pss_nil)
        (pss_cons (ps_if (pt_cmpR op_eq (pe_callB (lenK (K := K) rfl) (by rfl) T.b_len PySem.boot_len (pa_cons (pv 0) pa_nil)) pe_int (nomark _)) (pss_one (ps_ret (pe_callTy call_list_of (by rfl) T.b_list PyProof.Rows.boot_list (pa_cons (pv 0) pa_nil)))) pss_nil)
        (pss_one (ps_ret (pe_lst pa_nil))))))), ?_⟩
    have at0 : ∀ (j : Nat) (x : Int), xs[j]? = some x → atI (xs.map V.int) (j : Int) = some (V.int x) := fun j x e => atI_nat (by rw [List.getElem?_map, e]; rfl)
    have hl : (xs.map V.int).length = xs.length := List.length_map ..
    refine ⟨_, rfl, a, _, rfl, .inl hS, rfl, _, rfl, ?_⟩
    rw [hl]
    have four : ∀ (x y z u : Int), spread xs = [x, y, z, u] → (4 ≤ sizeLine ∧ ∀ p, H p = none → Q (.ref p) (upd H p (.lst [.int x, .int y, .int z, .int u]))) := fun x y z u e =>
      ⟨Nat.le_of_lt (sz (by omega)), fun p hp => k _ p (same_new (Same.refl H) hp) hp (by rw [upd_same, e]; rfl)⟩
    have none_ : spread xs = [] → (0 ≤ sizeLine ∧ ∀ p, H p = none → Q (.ref p) (upd H p (.lst []))) := fun e =>
      ⟨Nat.zero_le _, fun p hp => k _ p (same_new (Same.refl H) hp) hp (by rw [upd_same, e]; rfl)⟩
    match xs, hS, at0, hl, four, none_, k with
    | [], hS, at0, hl, four, none_, k =>
      refine eqF (by simp) ⟨_, rfl, a, _, rfl, .inl hS, rfl, _, rfl, iteF (iteF ⟨_, rfl, a, _, rfl, .inl hS, rfl, _, rfl, iteF (iteF ⟨_, rfl, a, _, rfl, .inl hS, rfl, _, rfl, iteF (none_ rfl)⟩)⟩)⟩
    | [x], hS, at0, hl, four, none_, k =>
      have i0 := at0 0 x rfl
      exact eqT (by simp) ⟨_, rfl, a, _, _, _, rfl, rfl, hS, i0, _, rfl, a, _, _, _, rfl, rfl, hS, i0, _, rfl, a, _, _, _, rfl, rfl, hS, i0, _, rfl, a, _, _, _, rfl, rfl, hS, i0, four x x x x rfl⟩
    | [x, y], hS, at0, hl, four, none_, k =>
      refine eqF (by simp) ⟨_, rfl, a, _, rfl, .inl hS, rfl, _, rfl, iteF (iteF ⟨_, rfl, a, _, rfl, .inl hS, rfl, _, rfl, iteF (iteF ⟨_, rfl, a, _, rfl, .inl hS, rfl, _, rfl, iteF (none_ rfl)⟩)⟩)⟩
    | [x, y, z], hS, at0, hl, four, none_, k =>
      have i0 := at0 0 x rfl
      have i1 := at0 1 y rfl
      have i2 := at0 2 z rfl
      refine eqF (by simp) ⟨_, rfl, a, _, rfl, .inl hS, rfl, _, rfl, iteT ⟨_, rfl, a, _, _, _, rfl, rfl, hS, i1, rfl, _, rfl, ?_⟩⟩
      by_cases h1 : y = 47
      · refine eqT' h1 ⟨_, rfl, a, _, _, _, rfl, rfl, hS, i0, _, rfl, a, _, _, _, rfl, rfl, hS, i2, _, rfl, a, _, _, _, rfl, rfl, hS, i2, _, rfl, a, _, _, _, rfl, rfl, hS, i0, four x z z x (by rw [sp3, if_pos h1])⟩
      · refine eqF' h1 ⟨_, rfl, a, _, rfl, .inl hS, rfl, _, rfl, iteT ⟨_, rfl, a, _, _, _, rfl, rfl, hS, i1, rfl, _, rfl, ?_⟩⟩
        by_cases h2 : y = 92
        · refine eqT' h2 ⟨_, rfl, a, _, _, _, rfl, rfl, hS, i0, _, rfl, a, _, _, _, rfl, rfl, hS, i0, _, rfl, a, _, _, _, rfl, rfl, hS, i2, _, rfl, a, _, _, _, rfl, rfl, hS, i2, four x x z z (by rw [sp3, if_neg h1, if_pos h2])⟩
        · refine eqF' h2 ⟨_, rfl, a, _, rfl, .inl hS, rfl, _, rfl, iteF (none_ (by rw [sp3, if_neg h1, if_neg h2]))⟩
    | [x, y, z, u], hS, at0, hl, four, none_, k =>
      refine eqF (by simp) ⟨_, rfl, a, _, rfl, .inl hS, rfl, _, rfl, iteF (iteF ⟨_, rfl, a, _, rfl, .inl hS, rfl, _, rfl, iteF (iteF ⟨_, rfl, a, _, rfl, .inl hS, rfl, _, rfl, iteT ⟨_, rfl, a, _, rfl, .inl hS, fun p hp => k _ p (same_new (Same.refl H) hp) hp upd_same⟩⟩)⟩)⟩
    | x :: y :: z :: u :: v :: r, hS, at0, hl, four, none_, k =>
      have big : ∀ j : Int, j ≤ 4 → ((x :: y :: z :: u :: v :: r).length : Int) ≠ j := fun j hj => by simp only [List.length_cons]; omega
      refine eqF (big 1 (by omega)) ⟨_, rfl, a, _, rfl, .inl hS, rfl, _, rfl, ?_⟩
      rw [hl]
      refine eqF (big 3 (by omega)) (iteF ⟨_, rfl, a, _, rfl, .inl hS, rfl, _, rfl, ?_⟩)
      rw [hl]
      refine eqF (big 3 (by omega)) (iteF ⟨_, rfl, a, _, rfl, .inl hS, rfl, _, rfl, ?_⟩)
      rw [hl]
      exact eqF (big 4 (by omega)) (none_ rfl)
end Sq
end
section
set_option linter.all false
set_option Elab.async false
set_option maxRecDepth 100000
set_option maxHeartbeats 2000000
namespace Sq
open PySem PySem.Spec PyProof.Rows L2 Sm
/-! ## read_square -/
def sp_read_square (K : PySem.W.Frag) : Sp := fun vs H Q _ => ∃ (a : Addr) (xs : List Int), vs = [.ref a] ∧ SqL K H a (xs.map V.int) ∧ xs.length ≤ 1100 ∧
  ∀ (H' : Hp) (p : Addr), Same H H' → H p = none → H' p = some (.lst ((readSquare xs).map V.int)) → Q (.ref p) H'
theorem spread_len (xs : List Int) : (spread xs).length ≤ 4 := by
  unfold spread
  split
  · simp
  · split
    · simp
    · split <;> simp
  · simp
  · simp
theorem ok_read_square {P : Program} {w : World} {K : PySem.W.Frag} {mg : Str → Option Value} {base : Heap} {f : Addr} {fd : FuncData} (F : Fun K "read_square" "read_square" s_read_square f fd) (T : Txt mg) (F_is_letter : Has P w K mg base 1 "is_letter" ["number"] (sp_is_letter K)) (F_spread_square : Has P w K mg base 1 "spread_square" ["square"] (sp_spread_square K)) : FnOk P w K mg base CX0 2 f fd ["square"] (sp_read_square K) := by
  have nd := sc_read_square.nd
  refine F.ok sc_read_square (fun vs H Q E h => ?_) (fun cdv A outer s H vs Q E hr h => ?_)
  · obtain ⟨a, xs, rfl, _⟩ := h
    rfl
  · obtain ⟨a, xs, rfl, hS, hlen, k⟩ := h
    refine ⟨_, (pss_cons (ps_set (i := 1) nd rfl (by first | exact Or.inl rfl | exact Or.inr rfl) (pe_f F_spread_square (hr.mono (by omega)) rfl (pa_cons (pv 0) pa_nil)))
        (pss_cons (ps_if (pt_val (pe_callB (cr_all rfl) (by rfl) T.b_all PyProof.Rows.boot_all (pa_cons (pe_lc rfl nd (pi_list (pv 1)) (blkOk_by (own := [("number", 2)]) rfl) (fun _ _ _ _ _ => pg_name (i := 2) nd rfl (Or.inl rfl)) (fun _ _ _ _ _ => pts_nil) (fun _ _ _ _ _ => (pe_f F_is_letter (hr.mono (by omega)) rfl (pa_cons (pv 2) pa_nil)))) pa_nil))) (pss_one (ps_ret (pv 1))) pss_nil)
        (pss_one (ps_ret (pe_lst pa_nil))))), ?_⟩
    refine ⟨_, rfl, a, xs, rfl, hS, hlen, fun H1 p s1 hp0 hp => ?_⟩
    have sl := spread_len xs
    refine ⟨_, rfl, p, rfl, ⟨_, SqL.of hp⟩, fun D hD => lc_list (K := K) (a := p) (xs := (spread xs).map V.int) (fun i H' => Same H1 H' ∧ H' D = some (.lst (((spread xs).take i).map fun n => V.bl (isLetter n))))
      ⟨same_new (Same.refl _) hD, upd_same⟩ (fun i H' _ ⟨s2, _⟩ => SqL.of (s2 _ _ hp)) ?_ ?_⟩
    · rintro i y H' hi ⟨s2, hD2⟩
      obtain ⟨z, hz, rfl⟩ := map_get hi
      have ht := take_snoc hz
      refine ⟨rfl, yesT ⟨_, rfl, z, rfl, _, hD2, sz (by simp; omega), ?_⟩⟩
      exact ⟨same_old s2 hD, by rw [upd_same, ht]; simp⟩
    · rintro H2 ⟨s2, hD2⟩
      have e1 : ((spread xs).take ((spread xs).map V.int).length).map (fun n => V.bl (isLetter n)) = ((spread xs).map isLetter).map V.bl := by
        rw [List.length_map, List.take_length, List.map_map]; rfl
      rw [e1] at hD2
      have ea : ((spread xs).map isLetter).all id = (spread xs).all isLetter := by rw [List.all_map]; rfl
      refine ⟨D, _, rfl, SqL.of hD2, _, rfl, ite2 (fun h => ?_) (fun h => ?_)⟩
      · rw [ea] at h
        exact ⟨_, rfl, k H2 p (s1.trans s2) hp0 (by rw [s2 _ _ hp]; unfold readSquare; rw [if_pos h])⟩
      · rw [ea] at h
        refine ⟨Nat.zero_le _, fun q hq => k _ q (same_new (s1.trans s2) hq) ((s1.trans s2).free hq) ?_⟩
        rw [upd_same]; unfold readSquare; rw [if_neg h]; rfl
/-! ## read_row -/
def sp_read_row (K : PySem.W.Frag) : Sp := fun vs H Q _ => ∃ (a : Addr) (xs : List Int), vs = [.ref a] ∧ SqL K H a (xs.map V.int) ∧ xs.length ≤ 1100 ∧
  ∀ (H' : Hp) (p : Addr), Same H H' → H p = none → H' p = some (.lst ((readRow xs).map V.int)) → Q (.ref p) H'
theorem flat_len : ∀ (l : List (List Int)), ((l.map readSquare).flatten).length ≤ 4 * l.length
  | [] => by simp
  | s :: l => by
    have h1 := flat_len l
    have h2 : (readSquare s).length ≤ 4 := by rcases readSquare_len s with e | e <;> simp [e]
    simp only [List.map_cons, List.flatten_cons, List.length_append, List.length_cons]
    omega
theorem RA.bound {H : Hp} {as : List Addr} {rows : List (List Int)} (h : RA H as rows) {i : Nat} {a : Addr} (e : as[i]? = some a) : ∃ r, rows[i]? = some r ∧ H a = some (.lst (r.map V.int)) := h.at_ i a e
theorem ok_read_row {P : Program} {w : World} {K : PySem.W.Frag} {mg : Str → Option Value} {base : Heap} {f : Addr} {fd : FuncData} (F : Fun K "read_row" "read_row" s_read_row f fd) (T : Txt mg) (F_split_at : Has P w K mg base 1 "split_at" ["numbers", "mark"] (sp_split_at K)) (F_read_square : Has P w K mg base 2 "read_square" ["square"] (sp_read_square K)) : FnOk P w K mg base CX0 3 f fd ["row"] (sp_read_row K) := by
  have nd := sc_read_row.nd
  refine F.ok sc_read_row (fun vs H Q E h => ?_) (fun cdv A outer s H vs Q E hr h => ?_)
  · obtain ⟨a, xs, rfl, _⟩ := h
    rfl
  · obtain ⟨a, xs, rfl, hS, hlen, k⟩ := h
    refine ⟨_, (pss_cons (ps_set (i := 1) nd rfl (by first | exact Or.inl rfl | exact Or.inr rfl) (pe_f F_split_at (hr.mono (by omega)) rfl (pa_cons (pv 0) (pa_cons (pg_int T.c_BLANK) pa_nil))))
        (pss_cons (ps_if (pt_cmpR op_gt (pe_callB (lenK (K := K) rfl) (by rfl) T.b_len PySem.boot_len (pa_cons (pv 1) pa_nil)) (pg_int T.c_MOST_SQUARES) (nomark _)) (pss_one (ps_ret (pe_lst pa_nil))) pss_nil)
        (pss_cons (ps_set (i := 2) nd rfl (by first | exact Or.inl rfl | exact Or.inr rfl) (pe_lst pa_nil))
        (pss_cons (ps_for PassesOwn.never rfl (pi_list (pv 1)) (pg_name (i := 3) nd rfl (by first | exact Or.inl rfl | exact Or.inr rfl)) (pss_cons (ps_set (i := 4) nd rfl (by first | exact Or.inl rfl | exact Or.inr rfl) (pe_f F_read_square (hr.mono (by omega)) rfl (pa_cons (pv 3) pa_nil)))
        (pss_cons (ps_if (pt_cmpR op_eq (pe_callB (lenK (K := K) rfl) (by rfl) T.b_len PySem.boot_len (pa_cons (pv 4) pa_nil)) pe_int (nomark _)) (pss_one (ps_ret (pe_lst pa_nil))) pss_nil)
        (pss_one (ps_expr (pe_bm PySem.F.plainAttrs_list PySem.F.slot_list_extend PySem.F.type_list_extend mt_extend (pv 2) (pa_cons (pv 4) pa_nil)))))))
        (pss_one (ps_ret (pv 2))))))), ?_⟩
    refine ⟨_, rfl, a, 32, xs, rfl, hS, hlen, fun H1 p s1 hp0 hR => ?_⟩
    obtain ⟨as, hp, ra⟩ := hR
    have hal : (as.map V.ref).length = (splitM 32 xs).length := by rw [List.length_map, ra.len]
    refine ⟨_, rfl, p, _, rfl, .inl (SqL.of hp), _, _, rfl, rfl, _, rfl, ite2 (fun h => ?_) (fun h => ?_)⟩
    · have h6 : 6 < (splitM 32 xs).length := by
        rw [hal] at h
        have : (6 : Int) < ((splitM 32 xs).length : Int) := by simpa using h
        omega
      refine ⟨Nat.zero_le _, fun q hq => k _ q (same_new s1 hq) (s1.free hq) ?_⟩
      rw [upd_same]; unfold readRow; rw [if_pos h6]; rfl
    · have h6 : ¬ 6 < (splitM 32 xs).length := by
        rw [hal] at h
        have : ((splitM 32 xs).length : Int) ≤ 6 := by simpa using h
        omega
      refine ⟨Nat.zero_le _, fun q hq => ?_⟩
      have pq : p ≠ q := ne_of_none hp hq
      refine ⟨_, rfl, p, rfl, ⟨_, SqL.of (by rw [upd_ne pq]; exact hp)⟩, for_list (K := K) (a := p) (xs := as.map V.ref)
        (fun i σ H' => ∃ v3 v4 : Option V, σ = [some (.ref a), some (.ref p), some (.ref q), v3, v4] ∧ Same H1 H' ∧ H' q = some (.lst (((((splitM 32 xs).take i).map readSquare).flatten).map V.int)) ∧ ∀ s ∈ (splitM 32 xs).take i, readSquare s ≠ [])
        ⟨none, none, rfl, same_new (Same.refl _) hq, upd_same, fun s hs => by simp at hs⟩ (fun i σ H' _ ⟨_, _, _, s2, _⟩ => SqL.of (s2 _ _ hp)) ?_ ?_⟩
      · rintro i y σ H' hi ⟨v3, v4, rfl, s2, hq2, good⟩
        obtain ⟨b, hb, rfl⟩ := map_get hi
        obtain ⟨r, hr, hbr⟩ := ra.at_ i b hb
        have ht := take_snoc hr
        have hrl : r.length ≤ 1100 := Nat.le_trans (splitM_each r (List.mem_of_getElem? hr)) hlen
        refine ⟨_, rfl, b, r, rfl, SqL.of (s2 _ _ hbr), hrl, fun H2 u s3 hu0 hu => ?_⟩
        refine ⟨_, rfl, u, _, rfl, .inl (SqL.of hu), rfl, _, rfl, ite2 (fun h => ?_) (fun h => ?_)⟩
        · have he : readSquare r = [] := by
            have : ((readSquare r).length : Int) = 0 := by simpa using h
            exact List.eq_nil_of_length_eq_zero (by omega)
          have s4 := s1.trans (s2.trans s3)
          refine ⟨Nat.zero_le _, fun z hz => k _ z (same_new s4 hz) (s4.free hz) ?_⟩
          rw [upd_same]; unfold readRow
          rw [if_neg h6, rowLoop_bad _ _ ⟨r, List.mem_of_getElem? hr, he⟩]; rfl
        · have he : readSquare r ≠ [] := fun e => h (by rw [e]; simp)
          have hq3 := s3 _ _ hq2
          have fl := flat_len ((splitM 32 xs).take i)
          have hrs : (readSquare r).length ≤ 4 := by rcases readSquare_len r with e | e <;> simp [e]
          have htl : ((splitM 32 xs).take i).length ≤ 6 := by rw [List.length_take]; omega
          refine ⟨_, rfl, .inl ⟨rfl, _, SqL.of hq3⟩, _, rfl, q, u, _, _, rfl, rfl, hq3, hu, Nat.le_of_lt (sz (by rw [List.length_map, List.length_map]; omega)), ?_⟩
          refine ⟨_, _, rfl, same_old (s2.trans s3) hq, by rw [upd_same, ht]; simp, fun s hs => ?_⟩
          rw [ht] at hs
          rcases List.mem_append.mp hs with z | z
          · exact good s z
          · have : s = r := by simpa using z
            rw [this]; exact he
      · rintro σ H' ⟨v3, v4, rfl, s2, hq2, good⟩
        rw [hal, List.take_length] at hq2 good
        refine ⟨_, rfl, k H' q (s1.trans s2) (s1.free hq) ?_⟩
        rw [hq2]; unfold readRow
        rw [if_neg h6, rowLoop_good _ _ good]; rfl
end Sq
end
section
set_option linter.all false
set_option Elab.async false
set_option maxRecDepth 100000
set_option maxHeartbeats 2000000
namespace Sq
open PySem PySem.Spec PyProof.Rows L2 Sm
/-! ## read_rows -/
def sp_read_rows (K : PySem.W.Frag) : Sp := fun vs H Q _ => ∃ (a : Addr) (xs : List Int), vs = [.ref a] ∧ SqL K H a (xs.map V.int) ∧ xs.length ≤ 1100 ∧
  ∀ (H' : Hp) (p : Addr), Same H H' → H p = none → Rows H' p (readRows xs) → Q (.ref p) H'
theorem ref_int {as : List Addr} {r : List Int} (h : as ≠ []) : as.map V.ref ≠ r.map V.int := by
  cases as with
  | nil => exact absurd rfl h
  | cons a as => cases r with
    | nil => intro e; cases e
    | cons x r => intro e; cases e
theorem row_len4 (r : List Int) : (readRow r).length ≤ 24 := by
  by_cases g : goodRow r ∧ (splitM 32 r).length ≤ 6
  · rw [(readRow_good g.1 g.2).2]; have := g.2; omega
  · rw [readRow_bad g]; simp
theorem ok_read_rows {P : Program} {w : World} {K : PySem.W.Frag} {mg : Str → Option Value} {base : Heap} {f : Addr} {fd : FuncData} (F : Fun K "read_rows" "read_rows" s_read_rows f fd) (T : Txt mg) (F_split_at : Has P w K mg base 1 "split_at" ["numbers", "mark"] (sp_split_at K)) (F_read_row : Has P w K mg base 3 "read_row" ["row"] (sp_read_row K)) : FnOk P w K mg base CX0 4 f fd ["text"] (sp_read_rows K) := by
  have nd := sc_read_rows.nd
  refine F.ok sc_read_rows (fun vs H Q E h => ?_) (fun cdv A outer s H vs Q E hr h => ?_)
  · obtain ⟨a, xs, rfl, _⟩ := h
    rfl
  · obtain ⟨a, xs, rfl, hS, hlen, k⟩ := h
    refine ⟨_, (pss_cons (ps_set (i := 1) nd rfl (by first | exact Or.inl rfl | exact Or.inr rfl) (pe_f F_split_at (hr.mono (by omega)) rfl (pa_cons (pv 0) (pa_cons (pg_int T.c_ROW_END) pa_nil))))
        (pss_cons (ps_set (i := 2) nd rfl (by first | exact Or.inl rfl | exact Or.inr rfl) (pe_bm0 PySem.F.plainAttrs_list PySem.F.slot_list_pop PySem.F.type_list_pop mt_pop (pv 1)))
        (pss_cons (ps_if (pw_or (pt_cmpR op_gt (pe_callB (lenK (K := K) rfl) (by rfl) T.b_len PySem.boot_len (pa_cons (pv 2) pa_nil)) pe_int (nomark _)) (pw_or (pt_cmpR op_eq (pe_callB (lenK (K := K) rfl) (by rfl) T.b_len PySem.boot_len (pa_cons (pv 1) pa_nil)) pe_int (nomark _)) (pw_or1 (pt_cmpR op_gt (pe_callB (lenK (K := K) rfl) (by rfl) T.b_len PySem.boot_len (pa_cons (pv 1) pa_nil)) (pg_int T.c_MOST_SQUARES) (nomark _))))).pt (pss_one (ps_ret (pe_lst pa_nil))) pss_nil)
        (pss_cons (ps_setLc (i := 3) rfl nd rfl rfl (sw_true rfl rfl rfl rfl) (pi_list (pv 1)) (blkOk_by (own := [("stretch", 5)]) rfl) (fun _ _ _ _ _ => pg_name (i := 5) nd rfl (Or.inl rfl)) (fun _ _ _ _ _ => pts_nil) (fun _ _ _ _ _ => (pe_f F_read_row (hr.mono (by omega)) rfl (pa_cons (pv 5) pa_nil))))
        (pss_cons (ps_set (i := 4) nd rfl (by first | exact Or.inl rfl | exact Or.inr rfl) (pe_callB (lenK (K := K) rfl) (by rfl) T.b_len PySem.boot_len (pa_cons (pe_ix (ixlK (K := K) rfl) (pv 3) pe_int (fun _ _ => rfl)) pa_nil)))
        (pss_cons (ps_if (pw_or (pt_cmpR op_eq (pv 4) pe_int (nomark _)) (pw_or1 (pt_val (pe_callB (cr_any rfl) (by rfl) T.b_any PyProof.Rows.boot_any (pa_cons (pe_lc rfl nd (pi_list (pv 3)) (blkOk_by (own := [("row", 6)]) rfl) (fun _ _ _ _ _ => pg_name (i := 6) nd rfl (Or.inl rfl)) (fun _ _ _ _ _ => pts_nil) (fun _ _ _ _ _ => (pe_cmpR op_ne (pe_callB (lenK (K := K) rfl) (by rfl) T.b_len PySem.boot_len (pa_cons (pv 6) pa_nil)) (pv 4) (nomark _)))) pa_nil))))).pt (pss_one (ps_ret (pe_lst pa_nil))) pss_nil)
        (pss_one (ps_ret (pv 3))))))))), ?_⟩
    refine ⟨_, rfl, a, 10, xs, rfl, hS, hlen, fun H1 p s1 hp0 hR => ?_⟩
    obtain ⟨as, hp, ra⟩ := hR
    have hne : as ≠ [] := fun e => by
      have := ra.len
      rw [e, splitM_ne] at this; simp at this
    obtain ⟨ini, la, rfl⟩ : ∃ ini la, as = ini ++ [la] := ⟨as.dropLast, as.getLast hne, (List.dropLast_concat_getLast hne).symm⟩
    have ra' : RA H1 (ini ++ [la]) ((splitF 10 xs).1 ++ [(splitF 10 xs).2]) := ra
    obtain ⟨ri, hla⟩ := ra'.init
    have nla : la ≠ p := fun e => by
      rw [e, hp] at hla
      exact ref_int hne (HO.lst.inj (Option.some.inj hla))
    have nri : ∀ b ∈ ini, b ≠ p := fun b hb e => by
      obtain ⟨j, hj, ej⟩ := List.getElem_of_mem hb
      obtain ⟨r, _, hr⟩ := ri.at_ j b (by rw [List.getElem?_eq_getElem hj, ej])
      rw [e, hp] at hr
      exact ref_int hne (HO.lst.inj (Option.some.inj hr))
    refine ⟨_, rfl, .inl ⟨rfl, _, SqL.of hp⟩, p, _, _, rfl, rfl, hp, (show ((ini ++ [la]).map V.ref)[((ini ++ [la]).map V.ref).length - 1]? = some (V.ref la) by simp), ?_⟩
    have edl : ((ini ++ [la]).map V.ref).dropLast = ini.map V.ref := by rw [List.map_append]; simp
    rw [edl]
    generalize hH2 : upd H1 p (.lst (ini.map V.ref)) = H2
    have s2 : Same H H2 := by rw [← hH2]; exact same_old s1 hp0
    have hp2 : H2 p = some (.lst (ini.map V.ref)) := by rw [← hH2]; exact upd_same
    have ri2 : RA H2 ini (splitF 10 xs).1 := ri.mono fun b hb o ho => by rw [← hH2, upd_ne (nri b hb)]; exact ho
    have hla2 : H2 la = some (.lst ((splitF 10 xs).2.map V.int)) := by rw [← hH2, upd_ne nla]; exact hla
    have hlen2 : (ini.map V.ref).length = (splitF 10 xs).1.length := by rw [List.length_map, ri.len]
    have bad : readRows xs = [] → (0 ≤ sizeLine ∧ ∀ q, H2 q = none → Q (.ref q) (upd H2 q (.lst []))) := fun e =>
      ⟨Nat.zero_le _, fun q hq => k _ q (same_new s2 hq) (s2.free hq) ⟨[], by rw [upd_same]; rfl, by rw [e]; exact RA.nil⟩⟩
    refine ⟨_, rfl, la, _, rfl, .inl (SqL.of hla2), _, _, rfl, rfl, _, rfl, ite2 (fun h => iteT (bad ?_)) (fun h => ?_)⟩
    · unfold readRows
      rw [if_pos (.inl (by simpa using h))]
    have c1 : ¬ 0 < (splitF 10 xs).2.length := by simpa using h
    refine ⟨_, rfl, p, _, rfl, .inl (SqL.of hp2), rfl, _, rfl, ite2 (fun h => iteT (bad ?_)) (fun h => ?_)⟩
    · unfold readRows
      rw [if_pos (.inr (.inl (by rw [hlen2] at h; simpa using h)))]
    have c2 : ¬ (splitF 10 xs).1.length = 0 := by rw [hlen2] at h; simpa using h
    refine ⟨_, rfl, p, _, rfl, .inl (SqL.of hp2), _, _, rfl, rfl, _, rfl, ite2 (fun h => bad ?_) (fun h => ?_)⟩
    · unfold readRows
      rw [if_pos (.inr (.inr (by
        rw [hlen2] at h
        have : (6 : Int) < ((splitF 10 xs).1.length : Int) := by simpa using h
        omega)))]
    have c3 : ¬ 6 < (splitF 10 xs).1.length := by
      rw [hlen2] at h
      have : ((splitF 10 xs).1.length : Int) ≤ 6 := by simpa using h
      omega
    have e0 : readRows xs = if (((splitF 10 xs).1.map readRow).headD []).length = 0 ∨ ((splitF 10 xs).1.map readRow).any (fun r => !decide (r.length = (((splitF 10 xs).1.map readRow).headD []).length)) = true then [] else (splitF 10 xs).1.map readRow := by
      unfold readRows
      rw [if_neg (fun z => z.elim c1 fun z => z.elim c2 c3)]
    -- rows = [read_row(stretch) ..]
    refine ⟨_, rfl, p, rfl, ⟨_, SqL.of hp2⟩, fun D hD => lc_list (K := K) (a := p) (xs := ini.map V.ref) (fun i H' => ∃ bs, Same H2 H' ∧ H' D = some (.lst (bs.map V.ref)) ∧ RA H' bs (((splitF 10 xs).1.take i).map readRow) ∧ D ∉ bs)
      ⟨[], same_new (Same.refl _) hD, upd_same, RA.nil, by simp⟩ (fun i H' _ ⟨_, s3, _⟩ => SqL.of (s3 _ _ hp2)) ?_ ?_⟩
    · rintro i y H' hi ⟨bs, s3, hD3, rb, nD⟩
      obtain ⟨b, hb, rfl⟩ := map_get hi
      obtain ⟨r, hr, hbr⟩ := ri2.at_ i b hb
      have hmem : r ∈ splitM 10 xs := by unfold splitM; exact List.mem_append_left _ (List.mem_of_getElem? hr)
      have ht := take_snoc hr
      refine ⟨rfl, yesT ⟨_, rfl, b, r, rfl, SqL.of (s3 _ _ hbr), Nat.le_trans (splitM_each r hmem) hlen, fun H4 u s4 hu0 hu => ?_⟩⟩
      have nu : D ≠ u := ne_of_none hD3 hu0
      refine ⟨_, s4 _ _ hD3, sz (by rw [List.length_map, rb.len, List.length_map, List.length_take]; omega), bs ++ [u], same_old (s3.trans s4) hD, by rw [upd_same]; simp, ?_, ?_⟩
      · rw [ht, List.map_append]
        refine RA.snoc (rb.mono fun c hc o ho => ?_) (by rw [upd_ne (Ne.symm nu)]; exact hu)
        rw [upd_ne (fun e : c = D => nD (e ▸ hc))]; exact s4 _ _ ho
      · intro hm
        rcases List.mem_append.mp hm with z | z
        · exact nD z
        · exact nu (by simpa using z)
    · rintro H3 ⟨bs, s3, hD3, rb, nD⟩
      rw [hlen2, List.take_length] at rb
      generalize hrows : (splitF 10 xs).1.map readRow = rows at rb e0
      have hrl : rows.length = (splitF 10 xs).1.length := by rw [← hrows, List.length_map]
      have s23 := s2.trans s3
      have dfree : H D = none := s2.free hD
      -- length = len(rows[0])
      obtain ⟨b0, hb0⟩ : ∃ b0, bs[0]? = some b0 := ⟨_, List.getElem?_eq_getElem (by rw [rb.len, hrl]; omega)⟩
      obtain ⟨r0, hr0, hbr0⟩ := rb.at_ 0 b0 hb0
      have hhead : rows.headD [] = r0 := by
        cases rows with
        | nil => simp at hr0
        | cons x r => simpa using hr0
      rw [hhead] at e0
      refine ⟨_, rfl, D, _, _, _, rfl, rfl, SqL.of hD3, atI_nat (j := 0) (v := V.ref b0) (by rw [List.getElem?_map, hb0]; rfl), b0, _, rfl, .inl (SqL.of hbr0), ?_⟩
      have hl0 : (r0.map V.int).length = r0.length := List.length_map ..
      have bad3 : ∀ H4, Same H3 H4 → readRows xs = [] → (0 ≤ sizeLine ∧ ∀ q, H4 q = none → Q (.ref q) (upd H4 q (.lst []))) := fun H4 s4 e =>
        ⟨Nat.zero_le _, fun q hq => k _ q (same_new (s23.trans s4) hq) ((s23.trans s4).free hq) ⟨[], by rw [upd_same]; rfl, by rw [e]; exact RA.nil⟩⟩
      refine ⟨_, rfl, rfl, _, rfl, ite2 (fun h => iteT (bad3 H3 (Same.refl _) ?_)) (fun h => ?_)⟩
      · rw [e0, if_pos (.inl (by rw [hl0] at h; simpa using h))]
      have c4 : ¬ r0.length = 0 := by rw [hl0] at h; simpa using h
      refine ⟨_, rfl, D, rfl, ⟨_, SqL.of hD3⟩, fun D2 hD2 => lc_list (K := K) (a := D) (xs := bs.map V.ref) (fun i H' => Same H3 H' ∧ H' D2 = some (.lst ((rows.take i).map fun r => V.bl (!decide (r.length = r0.length)))))
        ⟨same_new (Same.refl _) hD2, upd_same⟩ (fun i H' _ ⟨s4, _⟩ => SqL.of (s4 _ _ hD3)) ?_ ?_⟩
      · rintro i y H' hi ⟨s4, hd4⟩
        obtain ⟨b, hb, rfl⟩ := map_get hi
        obtain ⟨r, hr, hbr⟩ := rb.at_ i b hb
        have ht := take_snoc hr
        refine ⟨rfl, yesT ⟨_, rfl, b, _, rfl, .inl (SqL.of (s4 _ _ hbr)), _, rfl, rfl, _, hd4, sz (by rw [List.length_map, List.length_take]; omega), same_old s4 hD2, ?_⟩⟩
        rw [upd_same, ht]
        simp
        omega
      · rintro H4 ⟨s4, hd4⟩
        have e1 : (rows.take (bs.map V.ref).length).map (fun r => V.bl (!decide (r.length = r0.length))) = (rows.map fun r => !decide (r.length = r0.length)).map V.bl := by
          rw [List.length_map, rb.len, List.take_length, List.map_map]; rfl
        rw [e1] at hd4
        have ea : (rows.map fun r => !decide (r.length = r0.length)).any id = rows.any fun r => !decide (r.length = r0.length) := by rw [List.any_map]; rfl
        refine ⟨D2, _, rfl, SqL.of hd4, _, rfl, ite2 (fun h => bad3 H4 s4 ?_) (fun h => ?_)⟩
        · rw [ea] at h
          rw [e0, if_pos (.inr h)]
        · rw [ea] at h
          refine ⟨_, rfl, k H4 D (s23.trans s4) dfree ⟨bs, s4 _ _ hD3, ?_⟩⟩
          rw [e0, if_neg (fun z => z.elim c4 h)]
          exact rb.mono fun c _ o ho => s4 _ _ ho
/-! ## refusal -/
def refM (xs : List Int) : Int := if 1024 < xs.length then -2 else if (readRows xs).length = 0 then -6 else 0
def sp_refusal (K : PySem.W.Frag) : Sp := fun vs H Q _ => ∃ (a : Addr) (xs : List Int), vs = [.ref a] ∧ SqL K H a (xs.map V.int) ∧ xs.length ≤ 1100 ∧
  ∀ (H' : Hp), Same H H' → Q (.int (refM xs)) H'
theorem ok_refusal {P : Program} {w : World} {K : PySem.W.Frag} {mg : Str → Option Value} {base : Heap} {f : Addr} {fd : FuncData} (F : Fun K "refusal" "refusal" s_refusal f fd) (T : Txt mg) (F_read_rows : Has P w K mg base 4 "read_rows" ["text"] (sp_read_rows K)) : FnOk P w K mg base CX0 5 f fd ["text"] (sp_refusal K) := by
  have nd := sc_refusal.nd
  refine F.ok sc_refusal (fun vs H Q E h => ?_) (fun cdv A outer s H vs Q E hr h => ?_)
  · obtain ⟨a, xs, rfl, _⟩ := h
    rfl
  · obtain ⟨a, xs, rfl, hS, hlen, k⟩ := h
    refine ⟨_, (pss_cons (ps_if (pt_cmpR op_gt (pe_callB (lenK (K := K) rfl) (by rfl) T.b_len PySem.boot_len (pa_cons (pv 0) pa_nil)) (pg_int T.c_MOST_BYTES) (nomark _)) (pss_one (ps_ret (pg_int T.c_TOO_LONG))) pss_nil)
        (pss_cons (ps_if (pt_cmpR op_eq (pe_callB (lenK (K := K) rfl) (by rfl) T.b_len PySem.boot_len (pa_cons (pe_f F_read_rows (hr.mono (by omega)) rfl (pa_cons (pv 0) pa_nil)) pa_nil)) pe_int (nomark _)) (pss_one (ps_ret (pg_int T.c_AT_FAULT))) pss_nil)
        (pss_one (ps_ret pe_int)))), ?_⟩
    have hl : (xs.map V.int).length = xs.length := List.length_map ..
    refine ⟨_, rfl, a, _, rfl, .inl hS, _, _, rfl, rfl, _, rfl, ite2 (fun h => ?_) (fun h => ?_)⟩
    · have c : 1024 < xs.length := by
        rw [hl] at h
        have : (1024 : Int) < xs.length := by simpa using h
        omega
      have := k H (Same.refl _)
      unfold refM at this
      rw [if_pos c] at this
      exact this
    · have c : ¬ 1024 < xs.length := by
        rw [hl] at h
        have : ¬ (1024 : Int) < xs.length := by simpa using h
        omega
      refine ⟨_, rfl, a, xs, rfl, hS, hlen, fun H1 p s1 hp0 ⟨as, hp, ra⟩ => ?_⟩
      have hl2 : (as.map V.ref).length = (readRows xs).length := by rw [List.length_map, ra.len]
      have kk := k H1 s1
      unfold refM at kk
      rw [if_neg c] at kk
      refine ⟨p, _, rfl, .inl (SqL.of hp), rfl, _, rfl, ite2 (fun h => ?_) (fun h => ?_)⟩
      · rw [hl2] at h
        rw [if_pos (by simpa using h)] at kk
        exact kk
      · rw [hl2] at h
        rw [if_neg (by simpa using h)] at kk
        exact kk
end Sq
end
section
set_option linter.all false
set_option Elab.async false
set_option maxRecDepth 100000
set_option maxHeartbeats 2000000
namespace Sq
open PySem PySem.Spec PyProof.Rows L2 Sm
/-! ## side_by_side -/
theorem neT {a b : Int} (h : (!decide (V.int a = V.int b)) = true) : a ≠ b := by simpa using h
theorem neF {a b : Int} (h : ¬ (!decide (V.int a = V.int b)) = true) : a = b := by simpa using h
def NI (l : List Nat) : List V := l.map fun (x : Nat) => V.int (x : Int)
theorem NI_append (l m : List Nat) : NI (l ++ m) = NI l ++ NI m := List.map_append
theorem NI_len (l : List Nat) : (NI l).length = l.length := List.length_map ..
theorem NI_get {l : List Nat} {i : Nat} {y : V} (h : (NI l)[i]? = some y) : ∃ x, l[i]? = some x ∧ y = V.int (x : Int) := map_get h
theorem NI_ints (l : List Nat) : NI l = (l.map fun (x : Nat) => (x : Int)).map V.int := by unfold NI; rw [List.map_map]; rfl
def sp_side_by_side (K : PySem.W.Frag) : Sp := fun vs H Q _ => ∃ (q w n : Nat), vs = [.int (q : Int), .int (w : Int), .int (n : Int)] ∧ 0 < w ∧
  ∀ (H' : Hp) (p : Addr), Same H H' → H p = none → H' p = some (.lst (NI (near w n q))) → Q (.ref p) H'
theorem ok_side_by_side {P : Program} {w : World} {K : PySem.W.Frag} {mg : Str → Option Value} {base : Heap} {f : Addr} {fd : FuncData} (F : Fun K "side_by_side" "side_by_side" s_side_by_side f fd) (T : Txt mg)  : FnOk P w K mg base CX0 1 f fd ["quarter", "wide", "count"] (sp_side_by_side K) := by
  have nd := sc_side_by_side.nd
  refine F.ok sc_side_by_side (fun vs H Q E h => ?_) (fun cdv A outer s H vs Q E hr h => ?_)
  · obtain ⟨q, w, n, rfl, _⟩ := h
    rfl
  · obtain ⟨q, w, n, rfl, w0, k⟩ := h
    refine ⟨_, (pss_cons (ps_set (i := 3) nd rfl (by first | exact Or.inl rfl | exact Or.inr rfl) (pe_op op_fdiv (pv 0) pe_int))
        (pss_cons (ps_set (i := 4) nd rfl (by first | exact Or.inl rfl | exact Or.inr rfl) (pe_op op_mod (pv 0) pe_int))
        (pss_cons (ps_set (i := 5) nd rfl (by first | exact Or.inl rfl | exact Or.inr rfl) (pe_lst (pa_cons (pe_op op_add (pe_op op_mul pe_int (pv 3)) (pe_op op_mod (pe_op op_add (pv 4) pe_int) pe_int)) (pa_cons (pe_op op_add (pe_op op_mul pe_int (pv 3)) (pe_op op_mod (pe_op op_add (pv 4) pe_int) pe_int)) pa_nil))))
        (pss_cons (ps_if (pw_and (pt_cmpR op_eq (pv 4) (pg_int T.c_UPPER) (nomark _)) (pw_and1 (pt_cmpR op_ge (pv 3) (pv 1) (nomark _)))).pt (pss_one (ps_expr (pe_bm PySem.F.plainAttrs_list PySem.F.slot_list_append PySem.F.type_list_append mt_append (pv 5) (pa_cons (pe_op op_add (pe_op op_mul pe_int (pe_op op_sub (pv 3) (pv 1))) (pg_int T.c_LOWER)) pa_nil)))) pss_nil)
        (pss_cons (ps_if (pw_and (pt_cmpR op_eq (pv 4) (pg_int T.c_RIGHT) (nomark _)) (pw_and1 (pt_cmpR op_ne (pe_op op_mod (pe_op op_add (pv 3) pe_int) (pv 1)) pe_int (nomark _)))).pt (pss_one (ps_expr (pe_bm PySem.F.plainAttrs_list PySem.F.slot_list_append PySem.F.type_list_append mt_append (pv 5) (pa_cons (pe_op op_add (pe_op op_mul pe_int (pe_op op_add (pv 3) pe_int)) (pg_int T.c_LEFT)) pa_nil)))) pss_nil)
        (pss_cons (ps_if (pw_and (pt_cmpR op_eq (pv 4) (pg_int T.c_LOWER) (nomark _)) (pw_and1 (pt_cmpR op_lt (pe_op op_mul pe_int (pe_op op_add (pv 3) (pv 1))) (pv 2) (nomark _)))).pt (pss_one (ps_expr (pe_bm PySem.F.plainAttrs_list PySem.F.slot_list_append PySem.F.type_list_append mt_append (pv 5) (pa_cons (pe_op op_add (pe_op op_mul pe_int (pe_op op_add (pv 3) (pv 1))) (pg_int T.c_UPPER)) pa_nil)))) pss_nil)
        (pss_cons (ps_if (pw_and (pt_cmpR op_eq (pv 4) (pg_int T.c_LEFT) (nomark _)) (pw_and1 (pt_cmpR op_ne (pe_op op_mod (pv 3) (pv 1)) pe_int (nomark _)))).pt (pss_one (ps_expr (pe_bm PySem.F.plainAttrs_list PySem.F.slot_list_append PySem.F.type_list_append mt_append (pv 5) (pa_cons (pe_op op_add (pe_op op_mul pe_int (pe_op op_sub (pv 3) pe_int)) (pg_int T.c_RIGHT)) pa_nil)))) pss_nil)
        (pss_one (ps_ret (pv 5)))))))))), ?_⟩
    refine ⟨_, rfl, _, _, rfl, rfl, ⟨by decide, by decide⟩, _, rfl, _, _, rfl, rfl, (by show (0 : Int) < 4; decide), ?_⟩
    refine ⟨_, rfl, _, _, rfl, rfl, .inl ⟨by decide, by decide⟩, _, rfl, _, _, rfl, rfl, _, _, rfl, rfl, (by show (0 : Int) < 4; decide), _, _, rfl, rfl,
      _, rfl, _, _, rfl, rfl, .inl ⟨by decide, by decide⟩, _, rfl, _, _, rfl, rfl, _, _, rfl, rfl, (by show (0 : Int) < 4; decide), _, _, rfl, rfl, Nat.le_of_lt (sz (by show 2 ≤ _; omega)), fun p hp => ?_⟩
    have e1 : (4 : Int) * ((q : Int) / 4) + ((q : Int) % 4 + 1) % 4 = ((4 * (q / 4) + (q % 4 + 1) % 4 : Nat) : Int) := by omega
    have e2 : (4 : Int) * ((q : Int) / 4) + ((q : Int) % 4 + 3) % 4 = ((4 * (q / 4) + (q % 4 + 3) % 4 : Nat) : Int) := by omega
    try dsimp only
    rw [e1, e2]
    have base : [V.int ((4 * (q / 4) + (q % 4 + 1) % 4 : Nat) : Int), V.int ((4 * (q / 4) + (q % 4 + 3) % 4 : Nat) : Int)] = NI [4 * (q / 4) + (q % 4 + 1) % 4, 4 * (q / 4) + (q % 4 + 3) % 4] := rfl
    rw [base]
    generalize hb : [4 * (q / 4) + (q % 4 + 1) % 4, 4 * (q / 4) + (q % 4 + 3) % 4] = bs
    have s1 : ∀ o, Same H (upd H p o) := fun o => same_new (Same.refl H) hp
    have fin : ∀ l, near w n q = l → Q (.ref p) (upd H p (.lst (NI l))) := fun l e => k _ p (s1 _) hp (by rw [upd_same, e])
    have hl2 : bs.length = 2 := by rw [← hb]; rfl
    have hn : near w n q = bs ++ (if q % 4 = 0 ∧ w ≤ q / 4 then [4 * (q / 4 - w) + 2] else []) ++ (if q % 4 = 1 ∧ (q / 4 + 1) % w ≠ 0 then [4 * (q / 4 + 1) + 3] else []) ++
        (if q % 4 = 2 ∧ 4 * (q / 4 + w) < n then [4 * (q / 4 + w)] else []) ++ (if q % 4 = 3 ∧ q / 4 % w ≠ 0 then [4 * (q / 4 - 1) + 1] else []) := by rw [← hb]; rfl
    have m1 : ((q : Int) / 4 + 1) % (w : Int) = (((q / 4 + 1) % w : Nat) : Int) := by push_cast; rfl
    have m2 : ((q : Int) / 4) % (w : Int) = ((q / 4 % w : Nat) : Int) := by push_cast; rfl
    have h4 : q % 4 = 0 ∨ q % 4 = 1 ∨ q % 4 = 2 ∨ q % 4 = 3 := by omega
    have len3 : (NI bs).length < sizeLine := sz (by rw [NI_len]; omega)
    rcases h4 with hq | hq | hq | hq
    · refine ⟨_, rfl, rfl, _, rfl, eqT (by omega) ⟨_, rfl, _, rfl, _, _, rfl, rfl, _, rfl, ite2 (fun h => ?_) (fun h => ?_)⟩⟩
      · have c : w ≤ q / 4 := by
          have : (w : Int) ≤ (q : Int) / 4 := by simpa using h
          omega
        refine ⟨_, rfl, .inl ⟨rfl, _, SqL.of upd_same⟩, _, rfl, _, rfl, _, _, rfl, rfl, _, _, rfl, rfl, .inl ⟨by decide, by decide⟩, _, _, rfl, rfl, p, _, _, rfl, rfl, upd_same, len3, ?_⟩
        rw [upd_upd]
        have ev : (4 : Int) * ((q : Int) / 4 - w) + 2 = ((4 * (q / 4 - w) + 2 : Nat) : Int) := by omega
        try dsimp only
        rw [ev]
        refine ⟨_, rfl, rfl, _, rfl, eqF (by omega) (iteF ⟨_, rfl, rfl, _, rfl, eqF (by omega) (iteF ⟨_, rfl, rfl, _, rfl, eqF (by omega) (iteF ⟨_, rfl, ?_⟩)⟩)⟩)⟩
        have := fin (bs ++ [4 * (q / 4 - w) + 2]) (by rw [hn]; simp [hq, c])
        rw [NI_append] at this
        exact this
      · have c : ¬ w ≤ q / 4 := by
          have : ¬ (w : Int) ≤ (q : Int) / 4 := by simpa using h
          omega
        refine ⟨_, rfl, rfl, _, rfl, eqF (by omega) (iteF ⟨_, rfl, rfl, _, rfl, eqF (by omega) (iteF ⟨_, rfl, rfl, _, rfl, eqF (by omega) (iteF ⟨_, rfl, ?_⟩)⟩)⟩)⟩
        exact fin bs (by rw [hn]; simp [hq, c])
    · refine ⟨_, rfl, rfl, _, rfl, eqF (by omega) (iteF ⟨_, rfl, rfl, _, rfl, eqT (by omega) ⟨_, rfl, _, _, rfl, rfl, _, rfl, _, _, rfl, rfl, (by show (0 : Int) < w; omega), rfl, _, rfl, ite2 (fun h => ?_) (fun h => ?_)⟩⟩)⟩
      · have c : ¬ (q / 4 + 1) % w = 0 := by
          have h1 : ((q : Int) / 4 + 1) % (w : Int) ≠ 0 := neT h
          rw [m1] at h1
          omega
        refine ⟨_, rfl, .inl ⟨rfl, _, SqL.of upd_same⟩, _, rfl, _, _, rfl, rfl, _, _, rfl, rfl, .inl ⟨by decide, by decide⟩, _, _, rfl, rfl, p, _, _, rfl, rfl, upd_same, len3, ?_⟩
        rw [upd_upd]
        have ev : (4 : Int) * ((q : Int) / 4 + 1) + 3 = ((4 * (q / 4 + 1) + 3 : Nat) : Int) := by omega
        try dsimp only
        rw [ev]
        refine ⟨_, rfl, rfl, _, rfl, eqF (by omega) (iteF ⟨_, rfl, rfl, _, rfl, eqF (by omega) (iteF ⟨_, rfl, ?_⟩)⟩)⟩
        have := fin (bs ++ [4 * (q / 4 + 1) + 3]) (by rw [hn]; simp [hq, c])
        rw [NI_append] at this
        exact this
      · have c : (q / 4 + 1) % w = 0 := by
          have h1 : ((q : Int) / 4 + 1) % (w : Int) = 0 := neF h
          rw [m1] at h1
          omega
        refine ⟨_, rfl, rfl, _, rfl, eqF (by omega) (iteF ⟨_, rfl, rfl, _, rfl, eqF (by omega) (iteF ⟨_, rfl, ?_⟩)⟩)⟩
        exact fin bs (by rw [hn]; simp [hq, c])
    · refine ⟨_, rfl, rfl, _, rfl, eqF (by omega) (iteF ⟨_, rfl, rfl, _, rfl, eqF (by omega) (iteF ⟨_, rfl, rfl, _, rfl, eqT (by omega) ⟨_, rfl, _, rfl, _, _, rfl, rfl, _, _, rfl, rfl, .inl ⟨by decide, by decide⟩, _, rfl, _, _, rfl, rfl, _, rfl, ite2 (fun h => ?_) (fun h => ?_)⟩⟩)⟩)⟩
      · have c : 4 * (q / 4 + w) < n := by
          have : (4 : Int) * ((q : Int) / 4 + w) < n := by simpa using h
          omega
        refine ⟨_, rfl, .inl ⟨rfl, _, SqL.of upd_same⟩, _, rfl, _, rfl, _, _, rfl, rfl, _, _, rfl, rfl, .inl ⟨by decide, by decide⟩, _, _, rfl, rfl, p, _, _, rfl, rfl, upd_same, len3, ?_⟩
        rw [upd_upd]
        have ev : (4 : Int) * ((q : Int) / 4 + w) + 0 = ((4 * (q / 4 + w) : Nat) : Int) := by omega
        try dsimp only
        rw [ev]
        refine ⟨_, rfl, rfl, _, rfl, eqF (by omega) (iteF ⟨_, rfl, ?_⟩)⟩
        have := fin (bs ++ [4 * (q / 4 + w)]) (by rw [hn]; simp [hq, c])
        rw [NI_append] at this
        exact this
      · have c : ¬ 4 * (q / 4 + w) < n := by
          have : ¬ (4 : Int) * ((q : Int) / 4 + w) < n := by simpa using h
          omega
        refine ⟨_, rfl, rfl, _, rfl, eqF (by omega) (iteF ⟨_, rfl, ?_⟩)⟩
        exact fin bs (by rw [hn]; simp [hq, c])
    · refine ⟨_, rfl, rfl, _, rfl, eqF (by omega) (iteF ⟨_, rfl, rfl, _, rfl, eqF (by omega) (iteF ⟨_, rfl, rfl, _, rfl, eqF (by omega) (iteF ⟨_, rfl, rfl, _, rfl, eqT (by omega) ⟨_, rfl, _, rfl, _, _, rfl, rfl, (by show (0 : Int) < w; omega), rfl, _, rfl, ite2 (fun h => ?_) (fun h => ?_)⟩⟩)⟩)⟩)⟩
      · have c : ¬ q / 4 % w = 0 := by
          have h1 : (q : Int) / 4 % (w : Int) ≠ 0 := neT h
          rw [m2] at h1
          omega
        have q0 : q / 4 ≠ 0 := fun z => c (by rw [z, Nat.zero_mod])
        refine ⟨_, rfl, .inl ⟨rfl, _, SqL.of upd_same⟩, _, rfl, _, _, rfl, rfl, _, _, rfl, rfl, .inl ⟨by decide, by decide⟩, _, _, rfl, rfl, p, _, _, rfl, rfl, upd_same, len3, ?_⟩
        rw [upd_upd]
        have ev : (4 : Int) * ((q : Int) / 4 - 1) + 1 = ((4 * (q / 4 - 1) + 1 : Nat) : Int) := by omega
        try dsimp only
        rw [ev]
        refine ⟨_, rfl, ?_⟩
        have := fin (bs ++ [4 * (q / 4 - 1) + 1]) (by rw [hn]; simp [hq, c])
        rw [NI_append] at this
        exact this
      · have c : q / 4 % w = 0 := by
          have h1 : (q : Int) / 4 % (w : Int) = 0 := neF h
          rw [m2] at h1
          omega
        refine ⟨_, rfl, ?_⟩
        exact fin bs (by rw [hn]; simp [hq, c])
end Sq
end
section
set_option linter.all false
set_option Elab.async false
set_option maxRecDepth 100000
set_option maxHeartbeats 2000000
namespace Sq
open PySem PySem.Spec PyProof.Rows L2 Sm
/-! ## patch_around -/
/-- the keys of a dict are the quarters that P tells -/
def Keys (kvs : List (Key × V)) (P : Nat → Prop) : Prop := ∀ x : Nat, (valV kvs (Sum.inl (x : Int))).isSome = true ↔ P x
theorem Keys.put {kvs : List (Key × V)} {P : Nat → Prop} (h : Keys kvs P) (y : Nat) (v : V) : Keys (putK kvs (Sum.inl (y : Int)) v) (fun x => P x ∨ x = y) := fun x => by
  rw [valV_put]
  by_cases e : x = y
  · subst e; simp
  · have : ¬ (Sum.inl (x : Int) : Key) = Sum.inl (y : Int) := fun z => e (by have := Sum.inl.inj z; omega)
    rw [if_neg this, h x]; simp [e]
theorem Keys.congr {kvs : List (Key × V)} {P P' : Nat → Prop} (h : Keys kvs P) (e : ∀ x, P x ↔ P' x) : Keys kvs P' := fun x => (h x).trans (e x)
def sp_patch_around (K : PySem.W.Frag) : Sp := fun vs H Q _ => ∃ (st : Nat) (b : Addr) (L : List Int) (w h : Nat), vs = [.int (st : Int), .ref b, .int (w : Int)] ∧ SqL K H b (L.map V.int) ∧ L.length = 4 * (w * h) ∧ Dim w h ∧ st < 4 * (w * h) ∧
  ∀ (H' : Hp) (p : Addr) (P : List Nat), Same H H' → H p = none → H' p = some (.lst (NI P)) → P.length ≤ 144 → (∀ x, x ∈ P ↔ CI w h L st x) → Q (.ref p) H'
/-- the heap in the search -/
structure AroundI (H H' : Hp) (p r : Addr) (P : List Nat) (kvs : List (Key × V)) : Prop where
  same : Same H H'
  at_p : H' p = some (.lst (NI P))
  at_r : H' r = some (.dK kvs)
  keys : Keys kvs (· ∈ P)
  few : kvs.length ≤ P.length
def doneOf (σ : List (Option V)) : Nat := match σ[5]? with
  | some (some (V.int i)) => i.toNat
  | _ => 0
theorem ok_patch_around {P : Program} {w : World} {K : PySem.W.Frag} {mg : Str → Option Value} {base : Heap} {f : Addr} {fd : FuncData} (F : Fun K "patch_around" "patch_around" s_patch_around f fd) (T : Txt mg) (F_side_by_side : Has P w K mg base 1 "side_by_side" ["quarter", "wide", "count"] (sp_side_by_side K)) : FnOk P w K mg base CX0 2 f fd ["start", "letters", "wide"] (sp_patch_around K) := by
  have nd := sc_patch_around.nd
  refine F.ok sc_patch_around (fun vs H Q E h => ?_) (fun cdv A outer s H vs Q E hr h => ?_)
  · obtain ⟨st, b, L, w, h, rfl, _⟩ := h
    rfl
  · obtain ⟨st, b, L, w, h, rfl, hS, hL, dm, hst, k⟩ := h
    have hu := hu_of hr
    have n144 := dim_le dm
    have atL : ∀ {x : Nat}, x < 4 * (w * h) → atI (L.map V.int) (x : Int) = some (V.int (L.getD x 0)) := fun {x} hx => atI_nat (by
      rw [List.getElem?_map, List.getD_eq_getElem?_getD, List.getElem?_eq_getElem (by omega)]; rfl)
    refine ⟨_, (pss_cons (ps_set (i := 3) nd rfl (by first | exact Or.inl rfl | exact Or.inr rfl) (pe_lst (pa_cons (pv 0) pa_nil)))
        (pss_cons (ps_set (i := 4) nd rfl (by first | exact Or.inl rfl | exact Or.inr rfl) (pe_disp (pps_cons (pv 0) pe_bl pps_nil) rfl rfl (by simp) (by simp)))
        (pss_cons (ps_set (i := 5) nd rfl (by first | exact Or.inl rfl | exact Or.inr rfl) pe_int)
        (pss_cons (ps_while PassesOwn.never (pt_cmpR op_lt (pv 5) (pe_callB (lenK (K := K) rfl) (by rfl) T.b_len PySem.boot_len (pa_cons (pv 3) pa_nil)) (nomark _)) (pss_cons (ps_for PassesOwn.never rfl (pi_list (pe_f F_side_by_side (hr.mono (by omega)) rfl (pa_cons (pe_ix (ixlK (K := K) rfl) (pv 3) (pv 5) (fun _ _ => rfl)) (pa_cons (pv 2) (pa_cons (pe_callB (lenK (K := K) rfl) (by rfl) T.b_len PySem.boot_len (pa_cons (pv 1) pa_nil)) pa_nil))))) (pg_name (i := 6) nd rfl (by first | exact Or.inl rfl | exact Or.inr rfl)) (pss_one (ps_if (pw_and (pt_cmpR op_eq (pe_ix (ixlK (K := K) rfl) (pv 1) (pv 6) (fun _ _ => rfl)) (pe_ix (ixlK (K := K) rfl) (pv 1) (pv 0) (fun _ _ => rfl)) (nomark _)) (pw_and1 (pt_cmp (pc_dnotin hu (pv 6) (pv 4))))).pt (pss_cons (ps_dput hu (pv 4) (pv 6) pe_bl rfl)
        (pss_one (ps_expr (pe_bm PySem.F.plainAttrs_list PySem.F.slot_list_append PySem.F.type_list_append mt_append (pv 3) (pa_cons (pv 6) pa_nil))))) pss_nil)))
        (pss_one (ps_aug (i := 5) nd rfl (by first | exact Or.inl rfl | exact Or.inr rfl) pe_int ip_add))))
        (pss_one (ps_ret (pv 3))))))), ?_⟩
    refine ⟨_, rfl, Nat.le_of_lt (sz (by show 1 ≤ _; omega)), fun p hp => ?_⟩
    refine fun r hr0 => ⟨_, rfl, upd_same, [(Sum.inl (st : Int), .bl true)], rfl, (by show 1 ≤ 15; omega), ?_⟩
    have npr : p ≠ r := fun e => by rw [← e, upd_same] at hr0; cases hr0
    have hr1 : H r = none := by rw [upd_ne (Ne.symm npr)] at hr0; exact hr0
    rw [upd_upd]
    have s1 : Same H (upd (upd H p (.lst [.int (st : Int)])) r (.dK (mergeK [] [(Sum.inl (st : Int), .bl true)]))) := same_old (same_new (Same.refl H) hp) hr1
    have I0 : AroundI H (upd (upd H p (.lst [.int (st : Int)])) r (.dK (mergeK [] [(Sum.inl (st : Int), .bl true)]))) p r [st] [(Sum.inl (st : Int), .bl true)] := by
      refine ⟨s1, by rw [upd_ne npr, upd_same]; rfl, by rw [upd_same]; rfl, fun x => ?_, by simp⟩
      by_cases e : x = st
      · subst e; rw [valV_pos rfl]; simp
      · rw [valV_neg (fun z => e (by have := Sum.inl.inj z; omega)), valV_nil]; simp [e]
    refine while_by (fun σ H' => ∃ (v6 : Option V) (n : Nat) (P : List Nat) (kvs : List (Key × V)), σ = [some (.int (st : Int)), some (.ref b), some (.int (w : Int)), some (.ref p), some (.ref r), some (.int (n : Int)), v6] ∧ AroundI H H' p r P kvs ∧ Search w h L st n P)
      (fun σ _ => 4 * (w * h) - doneOf σ) ⟨none, 0, [st], _, rfl, I0, Search.start⟩ ?_ ?_
    · rintro σ H1 ⟨v6, n, P, kvs, rfl, I, S⟩
      have Pl := S.len dm hst
      have Pn := nodup_le (4 * (w * h)) P S.nd fun x hx => CI_lt dm hst (S.sound x hx)
      refine ⟨_, rfl, _, rfl, p, _, rfl, .inl (SqL.of I.at_p), _, _, rfl, rfl, _, rfl, ite2 (fun hc => ?_) (fun hc => ?_)⟩
      · have hn : n < P.length := by
          rw [NI_len] at hc
          have : (n : Int) < P.length := by simpa using hc
          omega
        obtain ⟨q, hq⟩ : ∃ q, P[n]? = some q := ⟨_, List.getElem?_eq_getElem hn⟩
        have hql := CI_lt dm hst (S.sound q (List.mem_of_getElem? hq))
        refine ⟨_, rfl, _, rfl, p, _, _, _, rfl, rfl, SqL.of I.at_p, atI_nat (j := n) (v := V.int (q : Int)) (by show (P.map _)[n]? = _; rw [List.getElem?_map, hq]; rfl), _, rfl, _, rfl, b, _, rfl, .inl (I.same.seq hS), q, w, 4 * (w * h), ?_, dm.w0, fun H2 u s2 hu0 hu2 => ?_⟩
        · rw [List.length_map, hL]; rfl
        have nup : p ≠ u := ne_of_none I.at_p hu0
        have nur : r ≠ u := ne_of_none I.at_r hu0
        refine ⟨u, rfl, ⟨_, SqL.of hu2⟩, for_list (K := K) (a := u) (xs := NI (near w (4 * (w * h)) q))
          (fun i σ H' => ∃ (v6 : Option V) (P' : List Nat) (kvs' : List (Key × V)), σ = [some (.int (st : Int)), some (.ref b), some (.int (w : Int)), some (.ref p), some (.ref r), some (.int (n : Int)), v6] ∧ AroundI H H' p r P' kvs' ∧ H' u = some (.lst (NI (near w (4 * (w * h)) q))) ∧ Beside w h L st n i q P')
          ⟨v6, P, kvs, rfl, ⟨I.same.trans s2, s2 _ _ I.at_p, s2 _ _ I.at_r, I.keys, I.few⟩, hu2, Beside.start S hq⟩ (fun i σ H' _ ⟨_, _, _, _, _, hu3, _⟩ => SqL.of hu3) ?_ ?_⟩
        · rintro i y σ H3 hi ⟨v6', P', kvs', rfl, I3, hu3, B⟩
          obtain ⟨x, hx, rfl⟩ := NI_get hi
          have hxl := near_lt dm.w0 dm.w6 hql x (List.mem_of_getElem? hx)
          have Pl' := B.s.len dm hst
          have S3 := I3.same.seq hS
          refine ⟨_, rfl, _, rfl, b, _, _, _, rfl, rfl, S3, atL hxl, _, rfl, _, rfl, b, _, _, _, rfl, rfl, S3, atL hst, rfl, _, rfl, ite2 (fun ho => ?_) (fun ho => ?_)⟩
          · have hok : okI L st x = true := by
              have : L.getD x 0 = L.getD st 0 := by simpa using ho
              unfold okI; rw [this]; simp
            refine ⟨_, rfl, _, rfl, r, _, rfl, DGet.k (k := Sum.inl (x : Int)) I3.at_r, _, rfl, ite2 (fun hin => ?_) (fun hin => ?_)⟩
            · have hnot : x ∉ P' := fun z => by
                have := (I3.keys x).mpr z
                rw [this] at hin; cases hin
              refine ⟨_, rfl, _, rfl, r, _, rfl, DPut.k (k := Sum.inl (x : Int)) I3.at_r (sz (by have := I3.few; omega)), _, rfl, .inl ⟨rfl, _, SqL.of (by rw [upd_ne npr]; exact I3.at_p)⟩, _, rfl, p, _, _, rfl, rfl, (by rw [upd_ne npr]; exact I3.at_p), sz (by rw [NI_len]; omega), ?_⟩
              refine ⟨_, P' ++ [x], _, rfl, ⟨same_old (same_old I3.same hr1) hp, by rw [upd_same, NI_append]; rfl, by rw [upd_ne (Ne.symm npr), upd_same], (I3.keys.put x _).congr fun z => by simp, ?_⟩, ?_, B.add hx hok hnot⟩
              · have := length_putK kvs' (Sum.inl (x : Int)) (.bl true)
                have := I3.few
                rw [List.length_append, List.length_singleton]; omega
              · rw [upd_ne (Ne.symm nup), upd_ne (Ne.symm nur)]; exact hu3
            · have hin' : x ∈ P' := by
                refine (I3.keys x).mp ?_
                cases e : (valV kvs' (Sum.inl (x : Int))).isSome with
                | true => rfl
                | false => rw [e] at hin; exact absurd rfl hin
              exact ⟨_, P', kvs', rfl, I3, hu3, B.skip hx (.inr hin')⟩
          · have hok : okI L st x = false := by
              have : ¬ L.getD x 0 = L.getD st 0 := by simpa using ho
              unfold okI; exact decide_eq_false this
            exact ⟨_, P', kvs', rfl, I3, hu3, B.skip hx (.inl hok)⟩
        · rintro σ H3 ⟨v6', P', kvs', rfl, I3, hu3, B⟩
          rw [NI_len] at B
          refine ⟨_, rfl, _, _, rfl, rfl, ⟨v6', n + 1, P', kvs', rfl, I3, B.done⟩, ?_⟩
          show 4 * (w * h) - ((n : Int) + 1).toNat < 4 * (w * h) - ((n : Int)).toNat
          omega
      · have hn : n = P.length := by
          rw [NI_len] at hc
          have : ¬ (n : Int) < P.length := by simpa using hc
          have := S.le
          omega
        subst hn
        exact ⟨_, rfl, k H1 p P I.same hp I.at_p Pl S.done⟩
    · rintro σ H1 Q1 Q2 hQ ⟨v, e1, v2, e2, p', ys, e3, e4, i, j, e5, e6, c, e7, q⟩
      exact ⟨v, e1, v2, e2, p', ys, e3, e4, i, j, e5, e6, c, e7, hQ _ _ q⟩
/-! ## find_patches -/
def IR (ps : List (List Nat)) : List (List Int) := ps.map fun p => p.map fun (x : Nat) => (x : Int)
def sp_find_patches (K : PySem.W.Frag) : Sp := fun vs H Q _ => ∃ (b : Addr) (L : List Int) (w h : Nat), vs = [.ref b, .int (w : Int)] ∧ SqL K H b (L.map V.int) ∧ L.length = 4 * (w * h) ∧ Dim w h ∧ (∀ x ∈ L, isLetter x = true) ∧
  ∀ (H' : Hp) (p : Addr) (ps : List (List Nat)), Same H H' → H p = none → Rows H' p (IR ps) → Sm.Patches (Patch.ofLetters w h (L.map idx)) ps → (∀ q ∈ ps, q.length ≤ 144) → Q (.ref p) H'
structure FindI (H H' : Hp) (p t : Addr) (as : List Addr) (ps : List (List Nat)) (kvs : List (Key × V)) (T : Nat → Prop) (m : Nat) : Prop where
  same : Same H H'
  at_p : H' p = some (.lst (as.map V.ref))
  rows : RA H' as (IR ps)
  at_t : H' t = some (.dK kvs)
  keys : Keys kvs T
  few : kvs.length ≤ m
  npa : p ∉ as
theorem ok_find_patches {P : Program} {w : World} {K : PySem.W.Frag} {mg : Str → Option Value} {base : Heap} {f : Addr} {fd : FuncData} (F : Fun K "find_patches" "find_patches" s_find_patches f fd) (T : Txt mg) (F_patch_around : Has P w K mg base 2 "patch_around" ["start", "letters", "wide"] (sp_patch_around K)) : FnOk P w K mg base CX0 3 f fd ["letters", "wide"] (sp_find_patches K) := by
  have nd := sc_find_patches.nd
  refine F.ok sc_find_patches (fun vs H Q E h => ?_) (fun cdv A outer s H vs Q E hr h => ?_)
  · obtain ⟨b, L, w, h, rfl, _⟩ := h
    rfl
  · obtain ⟨b, L, w, h, rfl, hS, hL, dm, hlet, k⟩ := h
    have hu := hu_of hr
    have n144 := dim_le dm
    refine ⟨_, (pss_cons (ps_set (i := 2) nd rfl (by first | exact Or.inl rfl | exact Or.inr rfl) (pe_lst pa_nil))
        (pss_cons (ps_set (i := 3) nd rfl (by first | exact Or.inl rfl | exact Or.inr rfl) pe_dnewK)
        (pss_cons (ps_for PassesOwn.never rfl (pi_range1 rfl T.b_range (pa_cons (pe_callB (lenK (K := K) rfl) (by rfl) T.b_len PySem.boot_len (pa_cons (pv 0) pa_nil)) pa_nil)) (pg_name (i := 4) nd rfl (by first | exact Or.inl rfl | exact Or.inr rfl)) (pss_one (ps_if (pt_cmp (pc_dnotin hu (pv 4) (pv 3))) (pss_cons (ps_set (i := 5) nd rfl (by first | exact Or.inl rfl | exact Or.inr rfl) (pe_f F_patch_around (hr.mono (by omega)) rfl (pa_cons (pv 4) (pa_cons (pv 0) (pa_cons (pv 1) pa_nil)))))
        (pss_cons (ps_expr (pe_bm PySem.F.plainAttrs_list PySem.F.slot_list_append PySem.F.type_list_append mt_append (pv 2) (pa_cons (pv 5) pa_nil)))
        (pss_one (ps_for PassesOwn.never rfl (pi_list (pv 5)) (pg_name (i := 6) nd rfl (by first | exact Or.inl rfl | exact Or.inr rfl)) (pss_one (ps_dput hu (pv 3) (pv 6) pe_bl rfl)))))) pss_nil)))
        (pss_one (ps_ret (pv 2)))))), ?_⟩
    refine ⟨Nat.zero_le _, fun p hp => ?_⟩
    intro t ht0
    have npt : p ≠ t := fun e => by rw [← e, upd_same] at ht0; cases ht0
    have ht1 : H t = none := by rw [upd_ne (Ne.symm npt)] at ht0; exact ht0
    have s1 : Same H (upd (upd H p (.lst [])) t (.dK [])) := same_new (same_new (Same.refl H) hp) ht0
    refine ⟨_, rfl, b, _, rfl, .inl (s1.seq hS), _, rfl, (by rw [List.length_map]; omega), (by rw [List.length_map]; omega), ?_⟩
    have en : (((L.map V.int).length : Nat) : Int).toNat = 4 * (w * h) := by rw [List.length_map, hL]; omega
    rw [en]
    refine for_range (lo := 0) (n := 4 * (w * h)) (fun i σ H' => ∃ (v4 v5 v6 : Option V) (as : List Addr) (ps : List (List Nat)) (kvs : List (Key × V)), σ = [some (.ref b), some (.int (w : Int)), some (.ref p), some (.ref t), v4, v5, v6] ∧
        FindI H H' p t as ps kvs (Taken w h (L.map idx) i) (144 * i) ∧ Found w h (L.map idx) i ps ∧ ps.length ≤ i ∧ ∀ q ∈ ps, q.length ≤ 144)
      ⟨none, none, none, [], [], [], rfl, ⟨s1, by rw [upd_ne npt, upd_same]; rfl, RA.nil, upd_same, fun x => ?_, by simp, by simp⟩, Found.start, by simp, by simp⟩ ?_ ?_
    · rw [valV_nil]
      exact ⟨fun z => (by cases z), fun ⟨r, hr, _⟩ => by omega⟩
    · rintro i σ H1 hi ⟨v4, v5, v6, as, ps, kvs, rfl, I, F, hpl, hqs⟩
      have ei : (0 : Int) + (i : Int) = (i : Int) := by omega
      rw [ei]
      refine ⟨_, rfl, _, rfl, t, _, rfl, DGet.k (k := Sum.inl (i : Int)) I.at_t, _, rfl, ite2 (fun hin => ?_) (fun hin => ?_)⟩
      · have hnt : ¬ Taken w h (L.map idx) i i := fun z => by
          have := (I.keys i).mpr z
          rw [this] at hin; cases hin
        have hroot := not_taken hi hnt
        refine ⟨_, rfl, _, rfl, _, rfl, i, b, L, w, h, rfl, I.same.seq hS, hL, dm, hi, fun H2 u P s2 hu0 hu2 hPl hP => ?_⟩
        have nup : p ≠ u := ne_of_none I.at_p hu0
        have nut : t ≠ u := ne_of_none I.at_t hu0
        have hP' : ∀ x, x ∈ P ↔ C w h (L.map idx) i x := fun x => (hP x).trans (CI_iff dm hlet hL hi x)
        refine ⟨_, rfl, .inl ⟨rfl, _, SqL.of (s2 _ _ I.at_p)⟩, _, rfl, p, _, _, rfl, rfl, s2 _ _ I.at_p, sz (by rw [List.length_map, I.rows.len]; unfold IR; rw [List.length_map]; omega), ?_⟩
        obtain ⟨F2, T2⟩ := F.add hroot hP'
        have nap : ∀ c ∈ as, c ≠ p := fun c hc e => I.npa (e ▸ hc)
        have hu3 : upd H2 p (.lst (as.map V.ref ++ [.ref u])) u = some (.lst (NI P)) := by rw [upd_ne (Ne.symm nup)]; exact hu2
        refine ⟨_, rfl, u, rfl, ⟨_, SqL.of hu3⟩, for_list (K := K) (a := u) (xs := NI P)
          (fun j σ H' => ∃ (v6 : Option V) (kvs' : List (Key × V)), σ = [some (.ref b), some (.int (w : Int)), some (.ref p), some (.ref t), some (.int (i : Int)), some (.ref u), v6] ∧
            FindI H H' p t (as ++ [u]) (ps ++ [P]) kvs' (fun x => Taken w h (L.map idx) i x ∨ x ∈ P.take j) (144 * i + j))
          ⟨v6, kvs, rfl, ⟨same_old (I.same.trans s2) hp, by rw [upd_same]; simp, ?_, by rw [upd_ne (Ne.symm npt)]; exact s2 _ _ I.at_t, I.keys.congr fun x => by simp, by have := I.few; omega, ?_⟩⟩
          (fun j σ H' _ ⟨_, _, _, J⟩ => ?_) ?_ ?_⟩
        · unfold IR
          rw [List.map_append]
          refine RA.snoc (I.rows.mono fun c hc o ho => by rw [upd_ne (nap c hc)]; exact s2 _ _ ho) ?_
          rw [hu3, NI_ints]
        · intro hm
          rcases List.mem_append.mp hm with z | z
          · exact I.npa z
          · exact nup (by simpa using z)
        · have := J.rows
          unfold IR at this
          rw [List.map_append] at this
          have := this.init.2
          rw [← NI_ints] at this
          exact SqL.of this
        · rintro j y σ H' hj ⟨v6', kvs', rfl, J⟩
          obtain ⟨x, hx, rfl⟩ := NI_get hj
          have htk := take_snoc hx
          have hjl : j < P.length := (List.getElem?_eq_some_iff.mp hx).1
          refine ⟨_, rfl, _, rfl, t, _, rfl, DPut.k (k := Sum.inl (x : Int)) J.at_t (sz (by have := J.few; omega)), _, putK kvs' (Sum.inl (x : Int)) (.bl true), rfl, ?_⟩
          have nt : ∀ c o, H' c = some (.lst o) → c ≠ t := fun c o hc e => by rw [e, J.at_t] at hc; cases hc
          refine ⟨same_old J.same ht1, by rw [upd_ne (nt p _ J.at_p)]; exact J.at_p, ⟨J.rows.len, fun jj c hc => ?_⟩, upd_same, (J.keys.put x _).congr fun z => ?_, ?_, J.npa⟩
          · obtain ⟨rr, h1, h2⟩ := J.rows.at_ jj c hc
            exact ⟨rr, h1, by rw [upd_ne (nt c _ h2)]; exact h2⟩
          · rw [htk]; simp [or_assoc]
          · have := length_putK kvs' (Sum.inl (x : Int)) (.bl true)
            have := J.few
            omega
        · rintro σ H' ⟨v6', kvs', rfl, J⟩
          rw [NI_len, List.take_length] at J
          refine ⟨_, _, _, as ++ [u], ps ++ [P], kvs', rfl, ⟨J.same, J.at_p, J.rows, J.at_t, J.keys.congr fun x => (T2 x).symm, by have := J.few; omega, J.npa⟩, F2, by simp; omega, fun q hq => ?_⟩
          rcases List.mem_append.mp hq with z | z
          · exact hqs q z
          · have : q = P := by simpa using z
            rw [this]; exact hPl
      · have ht : Taken w h (L.map idx) i i := by
          refine (I.keys i).mp ?_
          cases e : (valV kvs (Sum.inl (i : Int))).isSome with
          | true => rfl
          | false => rw [e] at hin; exact absurd rfl hin
        obtain ⟨F2, T2⟩ := F.skip ht
        exact ⟨_, v5, v6, as, ps, kvs, rfl, ⟨I.same, I.at_p, I.rows, I.at_t, I.keys.congr fun x => (T2 x).symm, by have := I.few; omega, I.npa⟩, F2, by omega, hqs⟩
    · rintro σ H1 ⟨v4, v5, v6, as, ps, kvs, rfl, I, F, hpl, hqs⟩
      exact ⟨_, rfl, k H1 p ps I.same hp ⟨as, I.at_p, I.rows⟩ (F.done dm) hqs⟩
end Sq
end
section
set_option linter.all false
set_option Elab.async false
set_option maxRecDepth 100000
set_option maxHeartbeats 2000000
namespace Sq
open PySem PySem.Spec PyProof.Rows L2 Sm
/-! ## strip_of -/
def sp_strip_of (K : PySem.W.Frag) : Sp := fun vs H Q _ => ∃ (q : Nat) (d : Int) (w : Nat), vs = [.int (q : Int), .int d, .int (w : Int)] ∧ 0 < w ∧ w ≤ 6 ∧ Q (.int (strip w q d)) H
theorem ok_strip_of {P : Program} {w : World} {K : PySem.W.Frag} {mg : Str → Option Value} {base : Heap} {f : Addr} {fd : FuncData} (F : Fun K "strip_of" "strip_of" s_strip_of f fd) (T : Txt mg)  : FnOk P w K mg base CX0 1 f fd ["quarter", "direction", "wide"] (sp_strip_of K) := by
  have nd := sc_strip_of.nd
  refine F.ok sc_strip_of (fun vs H Q E h => ?_) (fun cdv A outer s H vs Q E hr h => ?_)
  · obtain ⟨q, d, w, rfl, _⟩ := h
    rfl
  · obtain ⟨q, d, w, rfl, w0, w6, k⟩ := h
    refine ⟨_, (pss_cons (ps_set (i := 3) nd rfl (by first | exact Or.inl rfl | exact Or.inr rfl) (pe_op op_fdiv (pv 0) pe_int))
        (pss_cons (ps_set (i := 4) nd rfl (by first | exact Or.inl rfl | exact Or.inr rfl) (pe_op op_mod (pv 0) pe_int))
        (pss_cons (ps_set (i := 5) nd rfl (by first | exact Or.inl rfl | exact Or.inr rfl) (pe_op op_mod (pv 3) (pv 2)))
        (pss_cons (ps_set (i := 6) nd rfl (by first | exact Or.inl rfl | exact Or.inr rfl) (pe_op op_fdiv (pv 3) (pv 2)))
        (pss_cons (ps_if (pt_cmpR op_eq (pv 1) (pg_int T.c_UPRIGHT) (nomark _)) (pss_one (ps_ret (pv 5))) pss_nil)
        (pss_cons (ps_if (pt_cmpR op_eq (pv 1) (pg_int T.c_LEVEL) (nomark _)) (pss_one (ps_ret (pv 6))) pss_nil)
        (pss_cons (ps_if (pt_cmpR op_eq (pv 1) (pg_int T.c_FALLING) (nomark _)) (pss_one (ps_ret (pe_ifExp (pw_or (pt_cmpR op_eq (pv 4) (pg_int T.c_UPPER) (nomark _)) (pw_or1 (pt_cmpR op_eq (pv 4) (pg_int T.c_RIGHT) (nomark _)))).pt (pe_op op_sub (pv 5) (pv 6)) (pe_op op_sub (pe_op op_sub (pv 5) (pv 6)) pe_int)))) pss_nil)
        (pss_one (ps_ret (pe_ifExp (pw_or (pt_cmpR op_eq (pv 4) (pg_int T.c_UPPER) (nomark _)) (pw_or1 (pt_cmpR op_eq (pv 4) (pg_int T.c_LEFT) (nomark _)))).pt (pe_op op_add (pv 5) (pv 6)) (pe_op op_add (pe_op op_add (pv 5) (pv 6)) pe_int))))))))))), ?_⟩
    refine ⟨_, rfl, _, _, rfl, rfl, ⟨by decide, by decide⟩, _, rfl, _, _, rfl, rfl, (by show (0 : Int) < 4; decide), _, rfl, _, rfl, _, _, rfl, rfl, (by show (0 : Int) < w; omega), _, rfl, _, rfl, _, _, rfl, rfl, ⟨by omega, by omega⟩, ?_⟩
    have ex : ((q : Int) / 4) % (w : Int) = ((q / 4 % w : Nat) : Int) := by push_cast; rfl
    have ey : ((q : Int) / 4) / (w : Int) = ((q / 4 / w : Nat) : Int) := by push_cast; rfl
    try dsimp only
    rw [ex, ey]
    unfold Sm.strip at k
    generalize ((q / 4 % w : Nat) : Int) = x at k
    generalize ((q / 4 / w : Nat) : Int) = y at k
    refine ⟨_, rfl, rfl, _, rfl, ite2 (fun h => ⟨_, rfl, ?_⟩) (fun h => ?_)⟩
    · have c : d = 0 := by simpa using h
      rw [if_pos c] at k; exact k
    have c0 : ¬ d = 0 := by simpa using h
    rw [if_neg c0] at k
    refine ⟨_, rfl, rfl, _, rfl, ite2 (fun h => ⟨_, rfl, ?_⟩) (fun h => ?_)⟩
    · have c : d = 1 := by simpa using h
      rw [if_pos c] at k; exact k
    have c1 : ¬ d = 1 := by simpa using h
    rw [if_neg c1] at k
    refine ⟨_, rfl, rfl, _, rfl, ite2 (fun h => ?_) (fun h => ?_)⟩
    · have c : d = 2 := by simpa using h
      rw [if_pos c] at k
      refine ⟨_, rfl, rfl, _, rfl, ite2 (fun h1 => iteT ⟨_, rfl, _, rfl, _, _, rfl, rfl, ?_⟩) (fun h1 => ⟨_, rfl, rfl, _, rfl, ite2 (fun h2 => ⟨_, rfl, _, rfl, _, _, rfl, rfl, ?_⟩) (fun h2 => ⟨_, rfl, _, rfl, _, _, rfl, rfl, _, _, rfl, rfl, ?_⟩)⟩)⟩
      · have c1 : (q : Int) % 4 = 0 := by simpa using h1
        rw [if_pos (by omega)] at k; exact k
      · have c1 : (q : Int) % 4 = 1 := by simpa using h2
        rw [if_pos (by omega)] at k; exact k
      · have c1 : ¬ (q : Int) % 4 = 0 := by simpa using h1
        have c2 : ¬ (q : Int) % 4 = 1 := by simpa using h2
        rw [if_neg (by omega)] at k; exact k
    · have c : ¬ d = 2 := by simpa using h
      rw [if_neg c] at k
      refine ⟨_, rfl, rfl, _, rfl, ite2 (fun h1 => iteT ⟨_, rfl, _, rfl, _, _, rfl, rfl, ?_⟩) (fun h1 => ⟨_, rfl, rfl, _, rfl, ite2 (fun h2 => ⟨_, rfl, _, rfl, _, _, rfl, rfl, ?_⟩) (fun h2 => ⟨_, rfl, _, rfl, _, _, rfl, rfl, _, _, rfl, rfl, ?_⟩)⟩)⟩
      · have c1 : (q : Int) % 4 = 0 := by simpa using h1
        rw [if_pos (by omega)] at k; exact k
      · have c1 : (q : Int) % 4 = 3 := by simpa using h2
        rw [if_pos (by omega)] at k; exact k
      · have c1 : ¬ (q : Int) % 4 = 0 := by simpa using h1
        have c2 : ¬ (q : Int) % 4 = 3 := by simpa using h2
        rw [if_neg (by omega)] at k; exact k
/-! ## spans_of_patch -/
/-- a list of pairs at p -/
structure SpanAt (H : Hp) (p : Addr) (ts : List Addr) (s : List (Int × Int)) : Prop where
  at_p : H p = some (.lst (ts.map V.ref))
  len : ts.length = s.length
  at_ : ∀ (d : Nat) (t : Addr), ts[d]? = some t → ∃ lh, s[d]? = some lh ∧ H t = some (.tup [.int lh.1, .int lh.2])
theorem SpanAt.mono {H H' : Hp} {p : Addr} {ts : List Addr} {s : List (Int × Int)} (h : SpanAt H p ts s) (hp : ∀ o, H p = some o → H' p = some o) (ht : ∀ t xs, H t = some (.tup xs) → H' t = some (.tup xs)) : SpanAt H' p ts s :=
  ⟨hp _ h.at_p, h.len, fun d t e => let ⟨lh, h1, h2⟩ := h.at_ d t e; ⟨lh, h1, ht _ _ h2⟩⟩
def SpD (w : Nat) (P : List Nat) (d : Nat) (lh : Int × Int) : Prop := (∀ x ∈ P, lh.1 ≤ strip w x d ∧ strip w x d ≤ lh.2) ∧ (∃ x ∈ P, strip w x d = lh.1) ∧ ∃ x ∈ P, strip w x d = lh.2
structure SpOf (w : Nat) (P : List Nat) (s : List (Int × Int)) : Prop where
  four : s.length = 4
  at_ : ∀ (d : Nat) (lh : Int × Int), s[d]? = some lh → SpD w P d lh
def sp_spans_of_patch (K : PySem.W.Frag) : Sp := fun vs H Q _ => ∃ (a : Addr) (P : List Nat) (w : Nat), vs = [.ref a, .int (w : Int)] ∧ SqL K H a (NI P) ∧ P ≠ [] ∧ P.length ≤ 144 ∧ 0 < w ∧ w ≤ 6 ∧
  ∀ (H' : Hp) (p : Addr) (ts : List Addr) (s : List (Int × Int)), Same H H' → H p = none → SpanAt H' p ts s → SpOf w P s → Q (.ref p) H'
theorem ok_spans_of_patch {P : Program} {w : World} {K : PySem.W.Frag} {mg : Str → Option Value} {base : Heap} {f : Addr} {fd : FuncData} (F : Fun K "spans_of_patch" "spans_of_patch" s_spans_of_patch f fd) (T : Txt mg) (F_strip_of : Has P w K mg base 1 "strip_of" ["quarter", "direction", "wide"] (sp_strip_of K)) : FnOk P w K mg base CX0 2 f fd ["patch", "wide"] (sp_spans_of_patch K) := by
  have nd := sc_spans_of_patch.nd
  refine F.ok sc_spans_of_patch (fun vs H Q E h => ?_) (fun cdv A outer s H vs Q E hr h => ?_)
  · obtain ⟨a, P, w, rfl, _⟩ := h
    rfl
  · obtain ⟨a, P, w, rfl, hS, hne, hPl, w0, w6, k⟩ := h
    refine ⟨_, (pss_cons (ps_set (i := 2) nd rfl (by first | exact Or.inl rfl | exact Or.inr rfl) (pe_lst pa_nil))
        (pss_cons (ps_for PassesOwn.never rfl (pi_range1 rfl T.b_range (pa_cons (pg_int T.c_DIRECTIONS) pa_nil)) (pg_name (i := 3) nd rfl (by first | exact Or.inl rfl | exact Or.inr rfl)) (pss_cons (ps_setLc (i := 4) rfl nd rfl rfl (sw_true rfl rfl rfl rfl) (pi_list (pv 0)) (blkOk_by (own := [("quarter", 5)]) rfl) (fun _ _ _ _ _ => pg_name (i := 5) nd rfl (Or.inl rfl)) (fun _ _ _ _ _ => pts_nil) (fun _ _ _ _ _ => (pe_f F_strip_of (hr.mono (by omega)) rfl (pa_cons (pv 5) (pa_cons (pv 3) (pa_cons (pv 1) pa_nil))))))
        (pss_one (ps_expr (pe_bm PySem.F.plainAttrs_list PySem.F.slot_list_append PySem.F.type_list_append mt_append (pv 2) (pa_cons (pe_tup (pa_cons (pe_callB (cr_min rfl) (by rfl) T.b_min PyProof.Rows.boot_min (pa_cons (pv 4) pa_nil)) (pa_cons (pe_callB (cr_max rfl) (by rfl) T.b_max PyProof.Rows.boot_max (pa_cons (pv 4) pa_nil)) pa_nil))) pa_nil))))))
        (pss_one (ps_ret (pv 2))))), ?_⟩
    refine ⟨Nat.zero_le _, fun p hp => ?_⟩
    have s0 : Same H (upd H p (.lst [])) := same_new (Same.refl H) hp
    refine ⟨4, rfl, by decide, by decide, for_range (lo := 0) (n := 4) (fun i σ H' => ∃ (v3 v4 v5 : Option V) (ts : List Addr) (s : List (Int × Int)), σ = [some (.ref a), some (.int (w : Int)), some (.ref p), v3, v4, v5] ∧
        Same H H' ∧ SpanAt H' p ts s ∧ s.length = i ∧ ∀ (d : Nat) (lh : Int × Int), s[d]? = some lh → SpD w P d lh)
      ⟨none, none, none, [], [], rfl, s0, ⟨upd_same, rfl, fun d t e => by simp at e⟩, rfl, fun d lh e => by simp at e⟩ ?_ ?_⟩
    · rintro i σ H1 hi ⟨v3, v4, v5, ts, s, rfl, s1, sa, hsl, hsd⟩
      have ei : (0 : Int) + (i : Int) = (i : Int) := by omega
      rw [ei]
      refine ⟨_, rfl, a, rfl, ⟨_, s1.seq hS⟩, fun D hD => lc_list (K := K) (a := a) (xs := NI P) (fun j H' => Same H1 H' ∧ H' D = some (.lst ((P.take j).map fun x => V.int (strip w x i))))
        ⟨same_new (Same.refl _) hD, upd_same⟩ (fun j H' _ ⟨s2, _⟩ => (s1.trans s2).seq hS) ?_ ?_⟩
      · rintro j y H' hj ⟨s2, hD2⟩
        obtain ⟨x, hx, rfl⟩ := NI_get hj
        have ht := take_snoc hx
        have hjl : j < P.length := (List.getElem?_eq_some_iff.mp hx).1
        refine ⟨rfl, yesT ⟨_, rfl, _, rfl, _, rfl, x, (i : Int), w, rfl, w0, w6, _, hD2, sz (by rw [List.length_map, List.length_take]; omega), same_old s2 hD, ?_⟩⟩
        rw [upd_same, ht]; simp
      · rintro H2 ⟨s2, hD2⟩
        have e1 : (P.take (NI P).length).map (fun x => V.int (strip w x i)) = (P.map fun x => strip w x i).map V.int := by
          rw [NI_len, List.take_length, List.map_map]; rfl
        rw [e1] at hD2
        have pos : 0 < (P.map fun x => strip w x i).length := by
          rw [List.length_map]; exact List.length_pos_iff.mpr hne
        refine ⟨_, rfl, .inl ⟨rfl, _, SqL.of (s2 _ _ sa.at_p)⟩, _, rfl, D, _, rfl, SqL.of hD2, pos, fun m hm1 hm2 => ⟨_, rfl, D, _, rfl, SqL.of hD2, pos, fun M hM1 hM2 => ⟨Nat.le_of_lt (sz (by show 2 ≤ _; omega)), fun t ht => ?_⟩⟩⟩
        have npt : p ≠ t := ne_of_none (s2 _ _ sa.at_p) ht
        refine ⟨p, _, _, rfl, rfl, (by rw [upd_ne npt]; exact s2 _ _ sa.at_p), sz (by rw [List.length_map, sa.len]; omega), ?_⟩
        have s3 : Same H1 (upd H2 t (.tup [.int m, .int M])) := same_new s2 ht
        refine ⟨_, _, _, ts ++ [t], s ++ [(m, M)], rfl, same_old (s1.trans s3) hp, ⟨by rw [upd_same]; simp, by simp [sa.len], fun d u e => ?_⟩, by simp [hsl], fun d lh e => ?_⟩
        · have ntup : ∀ t' xs, upd H2 t (.tup [.int m, .int M]) t' = some (.tup xs) → upd (upd H2 t (.tup [.int m, .int M])) p (.lst (ts.map V.ref ++ [.ref t])) t' = some (.tup xs) := fun t' xs e => by
            have : t' ≠ p := fun z => by rw [z, upd_ne npt, s2 _ _ sa.at_p] at e; cases e
            rw [upd_ne this]; exact e
          by_cases hd : d < ts.length
          · rw [List.getElem?_append_left hd] at e
            obtain ⟨lh, h1, h2⟩ := sa.at_ d u e
            exact ⟨lh, by rw [List.getElem?_append_left (by rw [← sa.len]; exact hd)]; exact h1, ntup _ _ (s3 _ _ h2)⟩
          · have hd2 : d = ts.length := by
              have := (List.getElem?_eq_some_iff.mp e).1
              simp at this; omega
            subst hd2
            have : t = u := by simpa using e
            subst this
            exact ⟨(m, M), by rw [sa.len]; simp, ntup _ _ upd_same⟩
        · by_cases hd : d < s.length
          · rw [List.getElem?_append_left hd] at e
            exact hsd d lh e
          · have hd2 : d = s.length := by
              have := (List.getElem?_eq_some_iff.mp e).1
              simp at this; omega
            subst hd2
            have : (m, M) = lh := by simpa using e
            subst this
            rw [hsl]
            refine ⟨fun x hx => ⟨hm2 _ (List.mem_map.mpr ⟨x, hx, rfl⟩), hM2 _ (List.mem_map.mpr ⟨x, hx, rfl⟩)⟩, ?_, ?_⟩
            · obtain ⟨x, hx, e⟩ := List.mem_map.mp hm1
              exact ⟨x, hx, e⟩
            · obtain ⟨x, hx, e⟩ := List.mem_map.mp hM1
              exact ⟨x, hx, e⟩
    · rintro σ H1 ⟨v3, v4, v5, ts, s, rfl, s1, sa, hsl, hsd⟩
      exact ⟨_, rfl, k H1 p ts s s1 hp sa ⟨hsl, hsd⟩⟩
end Sq
end
section
set_option linter.all false
set_option Elab.async false
set_option maxRecDepth 100000
set_option maxHeartbeats 2000000
namespace Sq
open PySem PySem.Spec PyProof.Rows L2 Sm
/-! ## read_spans -/
/-- the spans at p -/
structure SpsAt (H : Hp) (p : Addr) (cs : List Addr) (sp : Sps) : Prop where
  at_p : H p = some (.lst (cs.map V.ref))
  len : cs.length = sp.length
  at_ : ∀ (j : Nat) (c : Addr), cs[j]? = some c → ∃ s ts, sp[j]? = some s ∧ SpanAt H c ts s
theorem SpsAt.mono {H H' : Hp} {p : Addr} {cs : List Addr} {sp : Sps} (h : SpsAt H p cs sp) (s : Same H H') : SpsAt H' p cs sp :=
  ⟨s _ _ h.at_p, h.len, fun j c e => let ⟨x, ts, h1, h2⟩ := h.at_ j c e; ⟨x, ts, h1, h2.mono (fun o => s _ o) fun t xs => s _ _⟩⟩
/-- the top that good rows tell -/
def topOf (rows : List (List Int)) : Patch.Top := Patch.ofLetters (wideOf rows) rows.length ((rows.flatten).map idx)
structure Good (rows : List (List Int)) : Prop where
  dm : Dim (wideOf rows) rows.length
  len : ∀ r ∈ rows, r.length = 4 * wideOf rows
  lets : ∀ r ∈ rows, ∀ x ∈ r, isLetter x = true
theorem Good.flat {rows : List (List Int)} (g : Good rows) : rows.flatten.length = 4 * (wideOf rows * rows.length) := by
  have : ∀ (l : List (List Int)) (w : Nat), (∀ r ∈ l, r.length = 4 * w) → l.flatten.length = 4 * (w * l.length) := by
    intro l w
    induction l with
    | nil => intro _; simp
    | cons r l ih =>
      intro h
      rw [List.flatten_cons, List.length_append, h r (by simp), ih fun s hs => h s (by simp [hs]), List.length_cons, Nat.mul_add]
      omega
  exact this rows _ g.len
theorem lo_at {sp : Sps} {d j : Nat} {s : List (Int × Int)} {lh : Int × Int} (h1 : sp[j]? = some s) (h2 : s[d]? = some lh) : Sm.lo sp d j = lh.1 := by
  unfold Sm.lo
  have e1 : List.getD sp j [] = s := by rw [List.getD_eq_getElem?_getD, h1]; rfl
  have e2 : List.getD s d (0, 0) = lh := by rw [List.getD_eq_getElem?_getD, h2]; rfl
  rw [e1, e2]
theorem hi_at {sp : Sps} {d j : Nat} {s : List (Int × Int)} {lh : Int × Int} (h1 : sp[j]? = some s) (h2 : s[d]? = some lh) : Sm.hi sp d j = lh.2 := by
  unfold Sm.hi
  have e1 : List.getD sp j [] = s := by rw [List.getD_eq_getElem?_getD, h1]; rfl
  have e2 : List.getD s d (0, 0) = lh := by rw [List.getD_eq_getElem?_getD, h2]; rfl
  rw [e1, e2]
theorem spans_of {rows : List (List Int)} (g : Good rows) {ps : List (List Nat)} {sp : Sps} (hp : Sm.Patches (topOf rows) ps) (hl : sp.length = ps.length)
    (h : ∀ (j : Nat) (s : List (Int × Int)) (P : List Nat), sp[j]? = some s → ps[j]? = some P → SpOf (wideOf rows) P s) : Spans (topOf rows) sp := by
  refine ⟨by rw [hl, hp.len], fun j s e => ?_, fun j d hj hd => ?_⟩
  · obtain ⟨hj, _⟩ := List.getElem?_eq_some_iff.mp e
    exact (h j s _ e (List.getElem?_eq_getElem (by omega))).four
  · have hj1 : j < ps.length := by rw [hp.len]; exact hj
    have hj2 : j < sp.length := by omega
    have e1 : ps[j]? = some ps[j] := List.getElem?_eq_getElem hj1
    have e2 : sp[j]? = some sp[j] := List.getElem?_eq_getElem hj2
    have S := h j _ _ e2 e1
    have hd2 : d < sp[j].length := by rw [S.four]; exact hd
    have e3 : sp[j][d]? = some sp[j][d] := List.getElem?_eq_getElem hd2
    obtain ⟨a1, ⟨x, hx, ex⟩, ⟨y, hy, ey⟩⟩ := S.at_ d _ e3
    have el : lo sp d j = sp[j][d].1 := lo_at e2 e3
    have eh : hi sp d j = sp[j][d].2 := hi_at e2 e3
    rw [el, eh]
    have mem := hp.mem j _ e1
    have hw : (topOf rows).wide = wideOf rows := rfl
    refine ⟨fun z hz oz => ?_, ⟨x, ((mem x).mp hx).1, ((mem x).mp hx).2, by rw [hw]; exact ex⟩, ⟨y, ((mem y).mp hy).1, ((mem y).mp hy).2, by rw [hw]; exact ey⟩⟩
    rw [hw]
    exact a1 z ((mem z).mpr ⟨hz, oz⟩)
def sp_read_spans (K : PySem.W.Frag) : Sp := fun vs H Q _ => ∃ (a : Addr) (xs : List Int), vs = [.ref a] ∧ SqL K H a (xs.map V.int) ∧ xs.length ≤ 1100 ∧ Good (readRows xs) ∧
  ∀ (H' : Hp) (p : Addr) (cs : List Addr) (sp : Sps), Same H H' → SpsAt H' p cs sp → Spans (topOf (readRows xs)) sp → Q (.ref p) H'
theorem ok_read_spans {P : Program} {w : World} {K : PySem.W.Frag} {mg : Str → Option Value} {base : Heap} {f : Addr} {fd : FuncData} (F : Fun K "read_spans" "read_spans" s_read_spans f fd) (T : Txt mg) (F_read_rows : Has P w K mg base 4 "read_rows" ["text"] (sp_read_rows K)) (F_find_patches : Has P w K mg base 3 "find_patches" ["letters", "wide"] (sp_find_patches K)) (F_spans_of_patch : Has P w K mg base 2 "spans_of_patch" ["patch", "wide"] (sp_spans_of_patch K)) : FnOk P w K mg base CX0 5 f fd ["text"] (sp_read_spans K) := by
  have nd := sc_read_spans.nd
  refine F.ok sc_read_spans (fun vs H Q E h => ?_) (fun cdv A outer s H vs Q E hr h => ?_)
  · obtain ⟨a, xs, rfl, _⟩ := h
    rfl
  · obtain ⟨a, xs, rfl, hS, hlen, g, k⟩ := h
    refine ⟨_, (pss_cons (ps_set (i := 1) nd rfl (by first | exact Or.inl rfl | exact Or.inr rfl) (pe_f F_read_rows (hr.mono (by omega)) rfl (pa_cons (pv 0) pa_nil)))
        (pss_cons (ps_set (i := 2) nd rfl (by first | exact Or.inl rfl | exact Or.inr rfl) (pe_op op_fdiv (pe_callB (lenK (K := K) rfl) (by rfl) T.b_len PySem.boot_len (pa_cons (pe_ix (ixlK (K := K) rfl) (pv 1) pe_int (fun _ _ => rfl)) pa_nil)) pe_int))
        (pss_cons (ps_set (i := 3) nd rfl (by first | exact Or.inl rfl | exact Or.inr rfl) (pe_lst pa_nil))
        (pss_cons (ps_for PassesOwn.never rfl (pi_list (pv 1)) (pg_name (i := 4) nd rfl (by first | exact Or.inl rfl | exact Or.inr rfl)) (pss_one (ps_expr (pe_bm PySem.F.plainAttrs_list PySem.F.slot_list_extend PySem.F.type_list_extend mt_extend (pv 3) (pa_cons (pv 4) pa_nil)))))
        (pss_one (ps_ret (pe_lc rfl nd (pi_list (pe_f F_find_patches (hr.mono (by omega)) rfl (pa_cons (pv 3) (pa_cons (pv 2) pa_nil)))) (blkOk_by (own := [("patch", 5)]) rfl) (fun _ _ _ _ _ => pg_name (i := 5) nd rfl (Or.inl rfl)) (fun _ _ _ _ _ => pts_nil) (fun _ _ _ _ _ => (pe_f F_spans_of_patch (hr.mono (by omega)) rfl (pa_cons (pv 5) (pa_cons (pv 2) pa_nil))))))))))), ?_⟩
    refine ⟨_, rfl, a, xs, rfl, hS, hlen, fun H1 p s1 hp0 ⟨as, hp, ra⟩ => ?_⟩
    generalize readRows xs = rows at g k ra
    have dm := g.dm
    obtain ⟨b0, hb0⟩ : ∃ b0, as[0]? = some b0 := ⟨_, List.getElem?_eq_getElem (by rw [ra.len]; exact dm.h0)⟩
    obtain ⟨r0, hr0, hbr0⟩ := ra.at_ 0 b0 hb0
    refine ⟨_, rfl, p, _, _, _, rfl, rfl, SqL.of hp, atI_nat (j := 0) (v := V.ref b0) (by rw [List.getElem?_map, hb0]; rfl), b0, _, rfl, .inl (SqL.of hbr0), _, _, rfl, rfl, ⟨by decide, by decide⟩, ?_⟩
    have ew : (((r0.map V.int).length : Nat) : Int) / 4 = ((wideOf rows : Nat) : Int) := by
      have h1 : rows.headD [] = r0 := by
        cases rows with
        | nil => simp at hr0
        | cons x r => simpa using hr0
      unfold wideOf
      rw [h1, List.length_map]; omega
    try dsimp only
    rw [ew]
    refine ⟨Nat.zero_le _, fun q hq => ?_⟩
    have npq : p ≠ q := ne_of_none hp hq
    have flen := g.flat
    have n144 := dim_le dm
    refine ⟨_, rfl, p, rfl, ⟨_, SqL.of (by rw [upd_ne npq]; exact hp)⟩, for_list (K := K) (a := p) (xs := as.map V.ref)
      (fun i σ H' => ∃ (v4 v5 : Option V), σ = [some (.ref a), some (.ref p), some (.int ((wideOf rows : Nat) : Int)), some (.ref q), v4, v5] ∧ Same H1 H' ∧ H' q = some (.lst ((rows.take i).flatten.map V.int)))
      ⟨none, none, rfl, same_new (Same.refl _) hq, upd_same⟩ (fun i σ H' _ ⟨_, _, _, s2, _⟩ => SqL.of (s2 _ _ hp)) ?_ ?_⟩
    · rintro i y σ H' hi ⟨v4, v5, rfl, s2, hq2⟩
      obtain ⟨b, hb, rfl⟩ := map_get hi
      obtain ⟨r, hr, hbr⟩ := ra.at_ i b hb
      have ht := take_snoc hr
      have hbound : (rows.take i).flatten.length + r.length ≤ 144 := by
        have h1 : (rows.take (i + 1)).flatten.length ≤ rows.flatten.length := by
          conv => rhs; rw [← List.take_append_drop (i + 1) rows]
          rw [List.flatten_append, List.length_append]; omega
        rw [ht] at h1
        simp at h1
        simp
        simp at flen
        omega
      refine ⟨_, rfl, .inl ⟨rfl, _, SqL.of hq2⟩, _, rfl, q, b, _, _, rfl, rfl, hq2, s2 _ _ hbr, Nat.le_of_lt (sz (by rw [List.length_map, List.length_map]; omega)), ?_⟩
      exact ⟨_, _, rfl, same_old s2 hq, by rw [upd_same, ht]; simp⟩
    · rintro σ H2 ⟨v4, v5, rfl, s2, hq2⟩
      rw [List.length_map, ra.len, List.take_length] at hq2
      refine ⟨_, rfl, _, rfl, q, rows.flatten, wideOf rows, rows.length, rfl, SqL.of hq2, flen, dm, ?_, fun H3 pp ps s3 hpp0 ⟨bs, hbs, rb⟩ pat h144 => ?_⟩
      · intro x hx
        rw [List.mem_flatten] at hx
        obtain ⟨l, hl, hx⟩ := hx
        exact g.lets l hl x hx
      have pat' : Sm.Patches (topOf rows) ps := pat
      have hbl : bs.length = ps.length := by rw [rb.len]; unfold IR; rw [List.length_map]
      refine ⟨pp, rfl, ⟨_, SqL.of hbs⟩, fun D hD => lc_list (K := K) (a := pp) (xs := bs.map V.ref)
        (fun i H' => ∃ (cs : List Addr) (sp : Sps), Same H3 H' ∧ SpsAt H' D cs sp ∧ D ∉ cs ∧ sp.length = i ∧ ∀ (j : Nat) (s : List (Int × Int)) (P : List Nat), sp[j]? = some s → ps[j]? = some P → SpOf (wideOf rows) P s)
        ⟨[], [], same_new (Same.refl _) hD, ⟨upd_same, rfl, fun j c e => by simp at e⟩, by simp, rfl, fun j s P e => by simp at e⟩ (fun i H' _ ⟨_, _, s4, _⟩ => SqL.of (s4 _ _ hbs)) ?_ ?_⟩
      · rintro i y H' hi ⟨cs, sp, s4, sa, nD, hsl, hsp⟩
        obtain ⟨b, hb, rfl⟩ := map_get hi
        obtain ⟨r, hr, hbr⟩ := rb.at_ i b hb
        obtain ⟨P, hP, rfl⟩ := map_get hr
        have hbr2 : H' b = some (.lst (NI P)) := by rw [NI_ints]; exact s4 _ _ hbr
        have hil : i < ps.length := (List.getElem?_eq_some_iff.mp hP).1
        have hcnt : ps.length ≤ 144 := by
          rw [pat'.len]
          have h1 : (topOf rows).count = (roots (wideOf rows) rows.length (rows.flatten.map idx) (4 * (wideOf rows * rows.length))).length := (top_patches dm).1
          rw [h1]
          unfold roots
          have := List.length_filter_le (rootB (wideOf rows) rows.length (rows.flatten.map idx)) (List.range (4 * (wideOf rows * rows.length)))
          rw [List.length_range] at this
          omega
        refine ⟨rfl, yesT ⟨_, rfl, _, rfl, b, P, wideOf rows, rfl, SqL.of hbr2, pat'.ne i P hP, h144 P (List.mem_of_getElem? hP), dm.w0, dm.w6, fun H5 u ts s s5 hu0 su so => ?_⟩⟩
        have nDu : D ≠ u := ne_of_none sa.at_p hu0
        refine ⟨_, s5 _ _ sa.at_p, sz (by rw [List.length_map, sa.len]; omega), cs ++ [u], sp ++ [s], same_old (s4.trans s5) hD, ⟨by rw [upd_same]; simp, by simp [sa.len], fun j c e => ?_⟩, ?_, by simp [hsl], fun j s' P' e1 e2 => ?_⟩
        · have keepT : ∀ t xs, H5 t = some (.tup xs) → upd H5 D (.lst (cs.map V.ref ++ [.ref u])) t = some (.tup xs) := fun t xs e => by
            have : t ≠ D := fun z => by rw [z, s5 _ _ sa.at_p] at e; cases e
            rw [upd_ne this]; exact e
          by_cases hj : j < cs.length
          · rw [List.getElem?_append_left hj] at e
            obtain ⟨s0, ts0, h1, h2⟩ := sa.at_ j c e
            have nc : c ≠ D := fun z => nD (z ▸ List.mem_of_getElem? e)
            refine ⟨s0, ts0, by rw [List.getElem?_append_left (by rw [← sa.len]; exact hj)]; exact h1, ?_⟩
            exact (h2.mono (fun o => s5 _ o) fun t xs => s5 _ _).mono (fun o ho => by rw [upd_ne nc]; exact ho) keepT
          · have hj2 : j = cs.length := by
              have := (List.getElem?_eq_some_iff.mp e).1
              simp at this; omega
            subst hj2
            have : u = c := by simpa using e
            subst this
            exact ⟨s, ts, by rw [sa.len]; simp, su.mono (fun o ho => by rw [upd_ne (Ne.symm nDu)]; exact ho) keepT⟩
        · intro hm
          rcases List.mem_append.mp hm with z | z
          · exact nD z
          · exact nDu (by simpa using z)
        · by_cases hj : j < sp.length
          · rw [List.getElem?_append_left hj] at e1
            exact hsp j s' P' e1 e2
          · have hj2 : j = sp.length := by
              have := (List.getElem?_eq_some_iff.mp e1).1
              simp at this; omega
            subst hj2
            have a1 : s = s' := by simpa using e1
            rw [hsl, hP] at e2
            have a2 : P = P' := by simpa using e2
            rw [← a1, ← a2]; exact so
      · rintro H4 ⟨cs, sp, s4, sa, nD, hsl, hsp⟩
        rw [List.length_map, hbl] at hsl
        exact k H4 D cs sp (s1.trans (s2.trans (s3.trans s4))) sa (spans_of g pat' hsl hsp)
/-! ## whole_top -/
def sp_whole_top (K : PySem.W.Frag) : Sp := fun vs H Q _ => ∃ (a : Addr) (us : List V), vs = [.ref a] ∧ SqL K H a us ∧ us.length ≤ 1000 ∧
  ∀ (H' : Hp) (p : Addr), Same H H' → H p = none → H' p = some (.lst (NI (List.range us.length))) → Q (.ref p) H'
theorem ok_whole_top {P : Program} {w : World} {K : PySem.W.Frag} {mg : Str → Option Value} {base : Heap} {f : Addr} {fd : FuncData} (F : Fun K "whole_top" "whole_top" s_whole_top f fd) (T : Txt mg)  : FnOk P w K mg base CX0 1 f fd ["spans"] (sp_whole_top K) := by
  have nd := sc_whole_top.nd
  refine F.ok sc_whole_top (fun vs H Q E h => ?_) (fun cdv A outer s H vs Q E hr h => ?_)
  · obtain ⟨a, us, rfl, _⟩ := h
    rfl
  · obtain ⟨a, us, rfl, hS, hlen, k⟩ := h
    refine ⟨_, (pss_one (ps_ret (pe_callTy (cr_list_range rfl) (by rfl) T.b_list PyProof.Rows.boot_list (pa_cons (pe_callTy cr_range1 (by rfl) T.b_range boot_range (pa_cons (pe_callB (lenK (K := K) rfl) (by rfl) T.b_len PySem.boot_len (pa_cons (pv 0) pa_nil)) pa_nil)) pa_nil)))), ?_⟩
    refine ⟨_, rfl, a, _, rfl, .inl hS, _, rfl, fun r hr => ⟨r, us.length, rfl, upd_same, by omega, fun l hl => ?_⟩⟩
    have s1 : Same H (upd H r (.rng 0 (us.length : Int))) := same_new (Same.refl H) hr
    refine k _ l (same_new s1 hl) (s1.free hl) ?_
    rw [upd_same, NI_ints]
/-! ## both_sides -/
theorem look_at {H : Hp} {a : Addr} {cs : List Addr} {sp : Sps} (sa : SpsAt H a cs sp) (h4 : ∀ (j : Nat) (s : List (Int × Int)), sp[j]? = some s → s.length = 4) {j d : Nat} (hj : j < sp.length) (hd : d < 4) :
    ∃ (c t : Addr) (ts : List Addr), cs[j]? = some c ∧ H c = some (.lst (ts.map V.ref)) ∧ ts[d]? = some t ∧ H t = some (.tup [.int (lo sp d j), .int (hi sp d j)]) := by
  have hjc : j < cs.length := by rw [sa.len]; exact hj
  obtain ⟨s, ts, h1, h2⟩ := sa.at_ j cs[j] (List.getElem?_eq_getElem hjc)
  have hs := h4 j s h1
  have hdt : d < ts.length := by rw [h2.len, hs]; exact hd
  obtain ⟨lh, h3, h5⟩ := h2.at_ d ts[d] (List.getElem?_eq_getElem hdt)
  refine ⟨cs[j], ts[d], ts, List.getElem?_eq_getElem hjc, h2.at_p, List.getElem?_eq_getElem hdt, ?_⟩
  have el : lo sp d j = lh.1 := lo_at h1 h3
  have eh : hi sp d j = lh.2 := hi_at h1 h3
  rw [el, eh]; exact h5
theorem filter_snoc {l : List Nat} {i x : Nat} (p : Nat → Bool) (h : l[i]? = some x) : (l.take (i + 1)).filter p = (l.take i).filter p ++ (if p x = true then [x] else []) := by
  rw [take_snoc h, List.filter_append]
  congr 1
  by_cases e : p x = true
  · rw [if_pos e, List.filter_cons, if_pos e]; rfl
  · rw [if_neg e, List.filter_cons, if_neg e]; rfl
def sp_both_sides (K : PySem.W.Frag) : Sp := fun vs H Q _ => ∃ (a b : Addr) (d : Nat) (at_ : Int) (cs : List Addr) (sp : Sps) (P : List Nat), vs = [.ref a, .ref b, .int (d : Int), .int at_] ∧ SpsAt H a cs sp ∧ SqL K H b (NI P) ∧
  d < 4 ∧ (∀ j ∈ P, j < sp.length) ∧ (∀ (j : Nat) (s : List (Int × Int)), sp[j]? = some s → s.length = 4) ∧ (∀ j ∈ P, lo sp d j ≤ hi sp d j) ∧ P.length ≤ 1000 ∧
  (partsM sp d at_ P = false → ∀ (H' : Hp) (p : Addr), Same H H' → H p = none → H' p = some (.lst []) → Q (.ref p) H') ∧
  (partsM sp d at_ P = true → ∀ (H' : Hp) (p u v : Addr), Same H H' → H p = none → H u = none → H v = none → H' p = some (.lst [.ref u, .ref v]) → H' u = some (.lst (NI (befM sp d at_ P))) → H' v = some (.lst (NI (behM sp d at_ P))) → Q (.ref p) H')
theorem ok_both_sides {P : Program} {w : World} {K : PySem.W.Frag} {mg : Str → Option Value} {base : Heap} {f : Addr} {fd : FuncData} (F : Fun K "both_sides" "both_sides" s_both_sides f fd) (T : Txt mg)  : FnOk P w K mg base CX0 1 f fd ["spans", "piece", "direction", "at"] (sp_both_sides K) := by
  have nd := sc_both_sides.nd
  refine F.ok sc_both_sides (fun vs H Q E h => ?_) (fun cdv A outer s H vs Q E hr h => ?_)
  · obtain ⟨a, b, d, at_, cs, sp, P, rfl, _⟩ := h
    rfl
  · obtain ⟨a, b, d, at_, cs, sp, P, rfl, sa, hS, hd, hP, h4, hlh, hPl, kn, ky⟩ := h
    refine ⟨_, (pss_cons (ps_setLc (i := 4) rfl nd rfl rfl (sw_true rfl rfl rfl rfl) (pi_list (pv 1)) (blkOk_by (own := [("patch", 7)]) rfl) (fun _ _ _ _ _ => pg_name (i := 7) nd rfl (Or.inl rfl)) (fun _ _ _ _ _ => (pts_one (pt_cmpR op_lt (pe_ix (ixtK (K := K) rfl) (pe_ix (ixlK (K := K) rfl) (pe_ix (ixlK (K := K) rfl) (pv 0) (pv 7) (fun _ _ => rfl)) (pv 2) (fun _ _ => rfl)) pe_int (fun _ _ => rfl)) (pv 3) (nomark _)))) (fun _ _ _ _ _ => (pv 7)))
        (pss_cons (ps_setLc (i := 5) rfl nd rfl rfl (sw_true rfl rfl rfl rfl) (pi_list (pv 1)) (blkOk_by (own := [("patch", 7)]) rfl) (fun _ _ _ _ _ => pg_name (i := 7) nd rfl (Or.inl rfl)) (fun _ _ _ _ _ => (pts_one (pt_cmpR op_ge (pe_ix (ixtK (K := K) rfl) (pe_ix (ixlK (K := K) rfl) (pe_ix (ixlK (K := K) rfl) (pv 0) (pv 7) (fun _ _ => rfl)) (pv 2) (fun _ _ => rfl)) pe_int (fun _ _ => rfl)) (pv 3) (nomark _)))) (fun _ _ _ _ _ => (pv 7)))
        (pss_cons (ps_set (i := 6) nd rfl (by first | exact Or.inl rfl | exact Or.inr rfl) (pe_cmpR op_lt (pe_op op_add (pe_callB (lenK (K := K) rfl) (by rfl) T.b_len PySem.boot_len (pa_cons (pv 4) pa_nil)) (pe_callB (lenK (K := K) rfl) (by rfl) T.b_len PySem.boot_len (pa_cons (pv 5) pa_nil))) (pe_callB (lenK (K := K) rfl) (by rfl) T.b_len PySem.boot_len (pa_cons (pv 1) pa_nil)) (nomark _)))
        (pss_cons (ps_if (pw_or (pt_val (pv 6)) (pw_or (pt_cmpR op_eq (pe_callB (lenK (K := K) rfl) (by rfl) T.b_len PySem.boot_len (pa_cons (pv 4) pa_nil)) pe_int (nomark _)) (pw_or1 (pt_cmpR op_eq (pe_callB (lenK (K := K) rfl) (by rfl) T.b_len PySem.boot_len (pa_cons (pv 5) pa_nil)) pe_int (nomark _))))).pt (pss_one (ps_ret (pe_lst pa_nil))) pss_nil)
        (pss_one (ps_ret (pe_lst (pa_cons (pv 4) (pa_cons (pv 5) pa_nil))))))))), ?_⟩
    refine ⟨_, rfl, b, rfl, ⟨_, hS⟩, fun D hD => lc_list (K := K) (a := b) (xs := NI P) (fun i H' => Same H H' ∧ H' D = some (.lst (NI ((P.take i).filter fun j => decide (hi sp d j < at_)))))
      ⟨same_new (Same.refl H) hD, upd_same⟩ (fun i H' _ ⟨s1, _⟩ => s1.seq hS) ?_ ?_⟩
    · rintro i y H' hi' ⟨s1, hD1⟩
      obtain ⟨j, hj, rfl⟩ := NI_get hi'
      have hil : i < P.length := (List.getElem?_eq_some_iff.mp hj).1
      have sa1 := sa.mono s1
      obtain ⟨c, t, ts, h1, h2, h3, h5⟩ := look_at sa1 h4 (hP j (List.mem_of_getElem? hj)) hd
      have hf := filter_snoc (fun j => decide (hi sp d j < at_)) hj
      have hlf : ((P.take i).filter fun j => decide (hi sp d j < at_)).length ≤ 1000 := Nat.le_trans (List.length_filter_le _ _) (by rw [List.length_take]; omega)
      refine ⟨rfl, _, rfl, _, rfl, a, _, _, _, rfl, rfl, SqL.of sa1.at_p, atI_nat (j := j) (v := V.ref c) (by rw [List.getElem?_map, h1]; rfl), _, rfl, c, _, _, _, rfl, rfl, SqL.of h2, atI_nat (j := d) (v := V.ref t) (by rw [List.getElem?_map, h3]; rfl),
        t, _, _, _, rfl, rfl, SqT.of h5, atI_nat (j := 1) (v := V.int (hi sp d j)) rfl, _, rfl, _, _, rfl, rfl, _, rfl, ite2 (fun h => ?_) (fun h => ?_)⟩
      · refine ⟨_, rfl, _, hD1, sz (by rw [NI_len]; omega), same_old s1 hD, ?_⟩
        rw [upd_same, hf, if_pos h, NI_append]; rfl
      · refine ⟨s1, ?_⟩
        rw [hf, if_neg h, List.append_nil]; exact hD1
    rintro H1 ⟨s1, hD1⟩
    rw [NI_len, List.take_length] at hD1
    refine ⟨_, rfl, b, rfl, ⟨_, s1.seq hS⟩, fun D2 hD2 => lc_list (K := K) (a := b) (xs := NI P) (fun i H' => Same H1 H' ∧ H' D2 = some (.lst (NI ((P.take i).filter fun j => decide (at_ ≤ lo sp d j)))))
      ⟨same_new (Same.refl _) hD2, upd_same⟩ (fun i H' _ ⟨s2, _⟩ => (s1.trans s2).seq hS) ?_ ?_⟩
    · rintro i y H' hi' ⟨s2, hD3⟩
      obtain ⟨j, hj, rfl⟩ := NI_get hi'
      have hil : i < P.length := (List.getElem?_eq_some_iff.mp hj).1
      have sa1 := sa.mono (s1.trans s2)
      obtain ⟨c, t, ts, h1, h2, h3, h5⟩ := look_at sa1 h4 (hP j (List.mem_of_getElem? hj)) hd
      have hf := filter_snoc (fun j => decide (at_ ≤ lo sp d j)) hj
      have hlf : ((P.take i).filter fun j => decide (at_ ≤ lo sp d j)).length ≤ 1000 := Nat.le_trans (List.length_filter_le _ _) (by rw [List.length_take]; omega)
      refine ⟨rfl, _, rfl, _, rfl, a, _, _, _, rfl, rfl, SqL.of sa1.at_p, atI_nat (j := j) (v := V.ref c) (by rw [List.getElem?_map, h1]; rfl), _, rfl, c, _, _, _, rfl, rfl, SqL.of h2, atI_nat (j := d) (v := V.ref t) (by rw [List.getElem?_map, h3]; rfl),
        t, _, _, _, rfl, rfl, SqT.of h5, atI_nat (j := 0) (v := V.int (lo sp d j)) rfl, _, rfl, _, _, rfl, rfl, _, rfl, ite2 (fun h => ?_) (fun h => ?_)⟩
      · refine ⟨_, rfl, _, hD3, sz (by rw [NI_len]; omega), same_old s2 hD2, ?_⟩
        rw [upd_same, hf, if_pos h, NI_append]; rfl
      · refine ⟨s2, ?_⟩
        rw [hf, if_neg h, List.append_nil]; exact hD3
    rintro H2 ⟨s2, hD3⟩
    rw [NI_len, List.take_length] at hD3
    have s12 := s1.trans s2
    have hb1 : H2 D = some (.lst (NI (befM sp d at_ P))) := s2 _ _ hD1
    have hb2 : H2 D2 = some (.lst (NI (behM sp d at_ P))) := hD3
    have hD20 : H D2 = none := s1.free hD2
    have hle : (befM sp d at_ P).length + (behM sp d at_ P).length ≤ P.length := by
      refine (filter_two P fun j hj h => ?_).1
      have := hlh j hj
      simp only [decide_eq_true_eq] at h
      omega
    have l1 := NI_len (befM sp d at_ P)
    have l2 := NI_len (behM sp d at_ P)
    have l3 := NI_len P
    have bad : partsM sp d at_ P = false → (0 ≤ sizeLine ∧ ∀ q, H2 q = none → Q (.ref q) (upd H2 q (.lst []))) := fun e =>
      ⟨Nat.zero_le _, fun q hq => kn e _ q (same_new s12 hq) (s12.free hq) upd_same⟩
    have pmf : ∀ (h : ¬ (0 < (befM sp d at_ P).length ∧ 0 < (behM sp d at_ P).length ∧ (befM sp d at_ P).length + (behM sp d at_ P).length = P.length)), partsM sp d at_ P = false := fun h => by
      cases e : partsM sp d at_ P with
      | false => rfl
      | true =>
        unfold partsM at e
        simp only [Bool.and_eq_true, decide_eq_true_eq] at e
        exact absurd e h
    refine ⟨_, rfl, D, _, rfl, .inl (SqL.of hb1), _, rfl, D2, _, rfl, .inl (SqL.of hb2), _, _, rfl, rfl, _, rfl, b, _, rfl, .inl (s12.seq hS), _, _, rfl, rfl, ?_⟩
    refine ⟨_, rfl, _, rfl, ite2 (fun h => iteT (bad (pmf fun z => ?_))) (fun h => ?_)⟩
    · rw [l1, l2, l3] at h
      have : ((befM sp d at_ P).length : Int) + ((behM sp d at_ P).length : Int) < (P.length : Int) := by simpa using h
      omega
    have c1 : (befM sp d at_ P).length + (behM sp d at_ P).length = P.length := by
      rw [l1, l2, l3] at h
      have : ¬ ((befM sp d at_ P).length : Int) + ((behM sp d at_ P).length : Int) < (P.length : Int) := by simpa using h
      omega
    refine ⟨_, rfl, D, _, rfl, .inl (SqL.of hb1), rfl, _, rfl, ite2 (fun h => iteT (bad (pmf fun z => ?_))) (fun h => ?_)⟩
    · rw [l1] at h
      have : (befM sp d at_ P).length = 0 := by simpa using h
      omega
    have c2 : 0 < (befM sp d at_ P).length := by
      rw [l1] at h
      have : ¬ (befM sp d at_ P).length = 0 := by simpa using h
      omega
    refine ⟨_, rfl, D2, _, rfl, .inl (SqL.of hb2), rfl, _, rfl, ite2 (fun h => bad (pmf fun z => ?_)) (fun h => ?_)⟩
    · rw [l2] at h
      have : (behM sp d at_ P).length = 0 := by simpa using h
      omega
    have c3 : 0 < (behM sp d at_ P).length := by
      rw [l2] at h
      have : ¬ (behM sp d at_ P).length = 0 := by simpa using h
      omega
    have pm : partsM sp d at_ P = true := by
      unfold partsM
      simp only [Bool.and_eq_true, decide_eq_true_eq]
      exact ⟨c2, c3, c1⟩
    refine ⟨_, rfl, _, rfl, Nat.le_of_lt (sz (by show 2 ≤ _; omega)), fun q hq => ?_⟩
    have n1 : D ≠ q := ne_of_none hb1 hq
    have n2 : D2 ≠ q := ne_of_none hb2 hq
    exact ky pm _ q D D2 (same_new s12 hq) (s12.free hq) hD hD20 upd_same (by rw [upd_ne n1]; exact hb1) (by rw [upd_ne n2]; exact hb2)
end Sq
end
section
set_option linter.all false
set_option Elab.async false
set_option maxRecDepth 100000
set_option maxHeartbeats 2000000
namespace Sq
open PySem PySem.Spec PyProof.Rows L2 Sm
/-! ## what is due -/
theorem good_of {xs : List Int} (hb : Byt xs) (h : readRows xs ≠ []) : Good (readRows xs) ∧ Patch.readBlock (B xs) = .ok (topOf (readRows xs)) := by
  obtain ⟨e, h1, h2, h3, h4, h5, h6⟩ := (block_read xs hb).2 h
  exact ⟨⟨⟨h3, h4, h2, h1⟩, h5, h6⟩, e⟩
theorem fine_top {rows : List (List Int)} (g : Good rows) : Fine (topOf rows) := fun x hx => of_lt g.dm hx
theorem ofTop_long {xs : List Int} (f : Patch.Top → Patch.Ans) (h : 1024 < xs.length) : Patch.ofTop (B xs) f = Patch.says (-2) := by
  unfold Patch.ofTop; rw [if_pos (by rw [B_length]; exact h)]
theorem ofTop_fault {xs : List Int} (hb : Byt xs) (f : Patch.Top → Patch.Ans) (h : ¬ 1024 < xs.length) (h0 : readRows xs = []) : Patch.ofTop (B xs) f = Patch.says (-6) := by
  obtain ⟨k, e⟩ := (block_read xs hb).1 h0
  unfold Patch.ofTop; rw [if_neg (by rw [B_length]; exact h), e]
theorem ofTop_ok {xs : List Int} (hb : Byt xs) (f : Patch.Top → Patch.Ans) (h : ¬ 1024 < xs.length) (h0 : readRows xs ≠ []) : Patch.ofTop (B xs) f = f (topOf (readRows xs)) := by
  unfold Patch.ofTop; rw [if_neg (by rw [B_length]; exact h), (good_of hb h0).2]
def outA (a : Patch.Ans) : List Int := a.code :: a.nums.map fun (n : Nat) => (n : Int)
theorem refM_cases (xs : List Int) : (1024 < xs.length ∧ refM xs = -2) ∨ (¬ 1024 < xs.length ∧ readRows xs = [] ∧ refM xs = -6) ∨ (¬ 1024 < xs.length ∧ readRows xs ≠ [] ∧ refM xs = 0) := by
  unfold refM
  by_cases h : 1024 < xs.length
  · exact .inl ⟨h, if_pos h⟩
  · rw [if_neg h]
    by_cases h0 : readRows xs = []
    · exact .inr (.inl ⟨h, h0, if_pos (by rw [h0]; rfl)⟩)
    · exact .inr (.inr ⟨h, h0, if_neg fun z => h0 (List.eq_nil_of_length_eq_zero z)⟩)
theorem count_le {rows : List (List Int)} (g : Good rows) : (topOf rows).count ≤ 144 := by
  have h1 : (topOf rows).count = (roots (wideOf rows) rows.length (rows.flatten.map idx) (4 * (wideOf rows * rows.length))).length := (top_patches g.dm).1
  rw [h1]
  unfold roots
  have := List.length_filter_le (rootB (wideOf rows) rows.length (rows.flatten.map idx)) (List.range (4 * (wideOf rows * rows.length)))
  rw [List.length_range] at this
  have := dim_le g.dm
  omega
end Sq
end
section
set_option linter.all false
set_option Elab.async false
set_option maxRecDepth 100000
set_option maxHeartbeats 2000000
namespace Sq
open PySem PySem.Spec PyProof.Rows L2 Sm
/-! ## partings -/
/-- what stands outside M stays -/
def Kp (M : List Addr) (H H' : Hp) : Prop := ∀ b o, b ∉ M → H b = some o → H' b = some o
theorem Kp.refl {M : List Addr} (H : Hp) : Kp M H H := fun _ _ _ e => e
theorem Kp.trans {M : List Addr} {H H1 H2 : Hp} (a : Kp M H H1) (b : Kp M H1 H2) : Kp M H H2 := fun c o n e => b c o n (a c o n e)
theorem Kp.of {M : List Addr} {H H' : Hp} (s : Same H H') : Kp M H H' := fun b o _ e => s b o e
theorem Kp.put {M : List Addr} {H H' : Hp} {a : Addr} {o : HO} (s : Kp M H H') (h : a ∈ M) : Kp M H (upd H' a o) := fun b u n e => by
  rw [upd_ne (fun z : b = a => n (z ▸ h))]; exact s b u n e
theorem Kp.new {M : List Addr} {H H' : Hp} {a : Addr} {o : HO} (s : Kp M H H') (h : H' a = none) : Kp M H (upd H' a o) := fun b u n e => by
  rw [upd_ne (ne_of_none (s b u n e) h)]; exact s b u n e
/-- small numbers -/
def Small (sp : Sps) (P : List Nat) : Prop := ∀ j ∈ P, ∀ d, d < 4 → -100 ≤ lo sp d j ∧ lo sp d j ≤ hi sp d j ∧ hi sp d j ≤ 100
theorem parts_low {sp : Sps} {P : List Nat} {d : Nat} {m a : Int} (sm : Small sp P) (hd : d < 4) (hm : ∀ j ∈ P, m ≤ lo sp d j) (ha : a ≤ m) : partsM sp d a P = false := by
  have : befM sp d a P = [] := by
    unfold befM
    rw [List.filter_eq_nil_iff]
    intro j hj
    have := hm j hj
    have := sm j hj d hd
    simp; omega
  unfold partsM; rw [this]; simp
theorem parts_high {sp : Sps} {P : List Nat} {d : Nat} {m a : Int} (sm : Small sp P) (hd : d < 4) (hm : ∀ j ∈ P, hi sp d j ≤ m) (ha : m < a) : partsM sp d a P = false := by
  have : behM sp d a P = [] := by
    unfold behM
    rw [List.filter_eq_nil_iff]
    intro j hj
    have := hm j hj
    have := sm j hj d hd
    simp; omega
  unfold partsM; rw [this]; simp
/-- partings laid in the heap H', none of them there in H -/
structure PartsAt (sp : Sps) (P : List Nat) (M : List Addr) (H H' : Hp) (ts : List Addr) (fs : List (Nat × Int)) : Prop where
  len : ts.length = fs.length
  at_ : ∀ (i : Nat) (t : Addr), ts[i]? = some t → ∃ (d : Nat) (a : Int) (u v : Addr), fs[i]? = some (d, a) ∧ H' t = some (.tup [.int (d : Int), .int a, .ref u, .ref v]) ∧ H t = none ∧ t ∉ M ∧
    H' u = some (.lst (NI (befM sp d a P))) ∧ H u = none ∧ u ∉ M ∧ H' v = some (.lst (NI (behM sp d a P))) ∧ H v = none ∧ v ∉ M
theorem PartsAt.mono {sp : Sps} {P : List Nat} {M : List Addr} {H H1 H2 : Hp} {ts : List Addr} {fs : List (Nat × Int)} (h : PartsAt sp P M H H1 ts fs) (k : Kp M H1 H2) : PartsAt sp P M H H2 ts fs :=
  ⟨h.len, fun i t e => let ⟨d, a, u, v, h1, h2, h3, h4, h5, h6, h7, h8, h9, h10⟩ := h.at_ i t e; ⟨d, a, u, v, h1, k _ _ h4 h2, h3, h4, k _ _ h7 h5, h6, h7, k _ _ h10 h8, h9, h10⟩⟩
theorem PartsAt.snoc {sp : Sps} {P : List Nat} {M : List Addr} {H H' : Hp} {ts : List Addr} {fs : List (Nat × Int)} (h : PartsAt sp P M H H' ts fs) {t u v : Addr} {d : Nat} {a : Int}
    (h2 : H' t = some (.tup [.int (d : Int), .int a, .ref u, .ref v])) (h3 : H t = none) (h4 : t ∉ M) (h5 : H' u = some (.lst (NI (befM sp d a P)))) (h6 : H u = none) (h7 : u ∉ M) (h8 : H' v = some (.lst (NI (behM sp d a P)))) (h9 : H v = none) (h10 : v ∉ M) :
    PartsAt sp P M H H' (ts ++ [t]) (fs ++ [(d, a)]) := by
  refine ⟨by rw [List.length_append, List.length_append, h.len]; rfl, fun j b e => ?_⟩
  by_cases hj : j < ts.length
  · rw [List.getElem?_append_left hj] at e
    obtain ⟨d', a', u', v', q, r⟩ := h.at_ j b e
    exact ⟨d', a', u', v', by rw [List.getElem?_append_left (by rw [← h.len]; exact hj)]; exact q, r⟩
  · have hj2 : j = ts.length := by
      have := (List.getElem?_eq_some_iff.mp e).1
      simp at this; omega
    subst hj2
    have : t = b := by simpa using e
    subst this
    exact ⟨d, a, u, v, by rw [h.len]; simp, h2, h3, h4, h5, h6, h7, h8, h9, h10⟩
structure Upto (sp : Sps) (P : List Nat) (c : Nat → Int → Prop) (fs : List (Nat × Int)) : Prop where
  mem : ∀ d a, (d, a) ∈ fs ↔ d ≤ 3 ∧ partsM sp d a P = true ∧ c d a
  ord : fs.Pairwise fun x y => x.1 < y.1 ∨ (x.1 = y.1 ∧ x.2 < y.2)
theorem Upto.congr {sp : Sps} {P : List Nat} {c c' : Nat → Int → Prop} {fs : List (Nat × Int)} (h : Upto sp P c fs) (e : ∀ d a, d ≤ 3 → partsM sp d a P = true → (c d a ↔ c' d a)) : Upto sp P c' fs :=
  ⟨fun d a => (h.mem d a).trans ⟨fun ⟨x, y, z⟩ => ⟨x, y, (e d a x y).mp z⟩, fun ⟨x, y, z⟩ => ⟨x, y, (e d a x y).mpr z⟩⟩, h.ord⟩
theorem Upto.snoc {sp : Sps} {P : List Nat} {i : Nat} {b : Int} {fs : List (Nat × Int)} (h : Upto sp P (fun d a => d < i ∨ (d = i ∧ a < b)) fs) (hi : i ≤ 3) (hp : partsM sp i b P = true) : Upto sp P (fun d a => d < i ∨ (d = i ∧ a < b + 1)) (fs ++ [(i, b)]) := by
  refine ⟨fun d a => ?_, ?_⟩
  · rw [List.mem_append, h.mem]
    constructor
    · rintro (⟨x, y, z⟩ | z)
      · exact ⟨x, y, z.imp id fun z => ⟨z.1, by omega⟩⟩
      · obtain ⟨rfl, rfl⟩ := Prod.mk.inj (List.mem_singleton.mp z)
        exact ⟨hi, hp, .inr ⟨rfl, by omega⟩⟩
    · rintro ⟨x, y, z⟩
      rcases z with z | ⟨z1, z2⟩
      · exact .inl ⟨x, y, .inl z⟩
      · by_cases c : a < b
        · exact .inl ⟨x, y, .inr ⟨z1, c⟩⟩
        · have : a = b := by omega
          exact .inr (by rw [z1, this]; simp)
  · rw [List.pairwise_append]
    refine ⟨h.ord, List.pairwise_singleton _ _, fun x hx y hy => ?_⟩
    have : y = (i, b) := by simpa using hy
    subst this
    obtain ⟨d, a⟩ := x
    exact ((h.mem d a).mp hx).2.2
end Sq
end
section
set_option linter.all false
set_option Elab.async false
set_option maxRecDepth 100000
set_option maxHeartbeats 2000000
namespace Sq
open PySem PySem.Spec PyProof.Rows L2 Sm
def sp_partings (K : PySem.W.Frag) : Sp := fun vs H Q _ => ∃ (a b : Addr) (cs : List Addr) (sp : Sps) (P : List Nat), vs = [.ref a, .ref b] ∧ SpsAt H a cs sp ∧ SqL K H b (NI P) ∧ P ≠ [] ∧
  (∀ j ∈ P, j < sp.length) ∧ (∀ (j : Nat) (s : List (Int × Int)), sp[j]? = some s → s.length = 4) ∧ P.length ≤ 1000 ∧ Small sp P ∧
  ∀ (H' : Hp) (p : Addr) (ts : List Addr) (fs : List (Nat × Int)), Same H H' → H p = none → H' p = some (.lst (ts.map V.ref)) → PartsAt sp P [p] H H' ts fs → AllL sp P fs → fs.length ≤ 1000 → Q (.ref p) H'
theorem ok_partings {P : Program} {w : World} {K : PySem.W.Frag} {mg : Str → Option Value} {base : Heap} {f : Addr} {fd : FuncData} (F : Fun K "partings" "partings" s_partings f fd) (T : Txt mg) (F_both_sides : Has P w K mg base 1 "both_sides" ["spans", "piece", "direction", "at"] (sp_both_sides K)) : FnOk P w K mg base CX0 2 f fd ["spans", "piece"] (sp_partings K) := by
  have nd := sc_partings.nd
  refine F.ok sc_partings (fun vs H Q E h => ?_) (fun cdv A outer s H vs Q E hr h => ?_)
  · obtain ⟨a, b, cs, sp, P, rfl, _⟩ := h
    rfl
  · obtain ⟨a, b, cs, sp, P, rfl, sa, hS, hne, hP, h4, hPl, sm, k⟩ := h
    refine ⟨_, (pss_cons (ps_set (i := 2) nd rfl (by first | exact Or.inl rfl | exact Or.inr rfl) (pe_lst pa_nil))
        (pss_cons (ps_for PassesOwn.never rfl (pi_range1 rfl T.b_range (pa_cons (pg_int T.c_DIRECTIONS) pa_nil)) (pg_name (i := 3) nd rfl (by first | exact Or.inl rfl | exact Or.inr rfl)) (pss_cons (ps_set (i := 4) nd rfl (by first | exact Or.inl rfl | exact Or.inr rfl) (pe_callB (cr_min rfl) (by rfl) T.b_min PyProof.Rows.boot_min (pa_cons (pe_lc rfl nd (pi_list (pv 1)) (blkOk_by (own := [("patch", 8)]) rfl) (fun _ _ _ _ _ => pg_name (i := 8) nd rfl (Or.inl rfl)) (fun _ _ _ _ _ => pts_nil) (fun _ _ _ _ _ => (pe_ix (ixtK (K := K) rfl) (pe_ix (ixlK (K := K) rfl) (pe_ix (ixlK (K := K) rfl) (pv 0) (pv 8) (fun _ _ => rfl)) (pv 3) (fun _ _ => rfl)) pe_int (fun _ _ => rfl)))) pa_nil)))
        (pss_cons (ps_set (i := 5) nd rfl (by first | exact Or.inl rfl | exact Or.inr rfl) (pe_callB (cr_max rfl) (by rfl) T.b_max PyProof.Rows.boot_max (pa_cons (pe_lc rfl nd (pi_list (pv 1)) (blkOk_by (own := [("patch", 8)]) rfl) (fun _ _ _ _ _ => pg_name (i := 8) nd rfl (Or.inl rfl)) (fun _ _ _ _ _ => pts_nil) (fun _ _ _ _ _ => (pe_ix (ixtK (K := K) rfl) (pe_ix (ixlK (K := K) rfl) (pe_ix (ixlK (K := K) rfl) (pv 0) (pv 8) (fun _ _ => rfl)) (pv 3) (fun _ _ => rfl)) pe_int (fun _ _ => rfl)))) pa_nil)))
        (pss_one (ps_for PassesOwn.never rfl (pi_range2 rfl T.b_range (pa_cons (pe_op op_add (pv 4) pe_int) (pa_cons (pe_op op_add (pv 5) pe_int) pa_nil))) (pg_name (i := 6) nd rfl (by first | exact Or.inl rfl | exact Or.inr rfl)) (pss_cons (ps_set (i := 7) nd rfl (by first | exact Or.inl rfl | exact Or.inr rfl) (pe_f F_both_sides (hr.mono (by omega)) rfl (pa_cons (pv 0) (pa_cons (pv 1) (pa_cons (pv 3) (pa_cons (pv 6) pa_nil))))))
        (pss_one (ps_if (pt_cmpR op_gt (pe_callB (lenK (K := K) rfl) (by rfl) T.b_len PySem.boot_len (pa_cons (pv 7) pa_nil)) pe_int (nomark _)) (pss_one (ps_expr (pe_bm PySem.F.plainAttrs_list PySem.F.slot_list_append PySem.F.type_list_append mt_append (pv 2) (pa_cons (pe_tup (pa_cons (pv 3) (pa_cons (pv 6) (pa_cons (pe_ix (ixlK (K := K) rfl) (pv 7) pe_int (fun _ _ => rfl)) (pa_cons (pe_ix (ixlK (K := K) rfl) (pv 7) pe_int (fun _ _ => rfl)) pa_nil))))) pa_nil)))) pss_nil))))))))
        (pss_one (ps_ret (pv 2))))), ?_⟩
    refine ⟨Nat.zero_le _, fun p hp => ?_⟩
    have s0 : Same H (upd H p (.lst [])) := same_new (Same.refl H) hp
    refine ⟨4, rfl, by decide, by decide, for_range (lo := 0) (n := 4) (fun i σ H' => ∃ (v3 v4 v5 v6 v7 v8 : Option V) (ts : List Addr) (fs : List (Nat × Int)), σ = [some (.ref a), some (.ref b), some (.ref p), v3, v4, v5, v6, v7, v8] ∧ Same H H' ∧
        H' p = some (.lst (ts.map V.ref)) ∧ PartsAt sp P [p] H H' ts fs ∧ Upto sp P (fun d _ => d < i) fs ∧ fs.length ≤ 200 * i)
      ⟨none, none, none, none, none, none, [], [], rfl, s0, upd_same, ⟨rfl, fun i t e => by simp at e⟩, ⟨fun d a => ⟨fun z => (by cases z), fun z => by omega⟩, List.Pairwise.nil⟩, by simp⟩ ?_ ?_⟩
    · rintro i σ H1 hi4 ⟨v3, v4, v5, v6, v7, v8, ts, fs, rfl, s1, hp1, pa, up, hfl⟩
      have ei : (0 : Int) + (i : Int) = (i : Int) := by omega
      rw [ei]
      have pos : ∀ f : Nat → Int, 0 < (P.map f).length := fun f => by rw [List.length_map]; exact List.length_pos_iff.mpr hne
      refine ⟨_, rfl, b, rfl, ⟨_, s1.seq hS⟩, fun D hD => lc_list (K := K) (a := b) (xs := NI P) (fun j H' => Same H1 H' ∧ H' D = some (.lst ((P.take j).map fun x => V.int (lo sp i x))))
        ⟨same_new (Same.refl _) hD, upd_same⟩ (fun j H' _ ⟨s2, _⟩ => (s1.trans s2).seq hS) ?_ ?_⟩
      · rintro j y H' hj ⟨s2, hD2⟩
        obtain ⟨x, hx, rfl⟩ := NI_get hj
        have ht := take_snoc hx
        have hjl : j < P.length := (List.getElem?_eq_some_iff.mp hx).1
        have sa1 := sa.mono (s1.trans s2)
        obtain ⟨c, t, ts, h1, h2, h3, h5⟩ := look_at sa1 h4 (hP x (List.mem_of_getElem? hx)) hi4
        refine ⟨rfl, yesT ⟨_, rfl, _, rfl, a, _, _, _, rfl, rfl, SqL.of sa1.at_p, atI_nat (j := x) (v := V.ref c) (by rw [List.getElem?_map, h1]; rfl), _, rfl, c, _, _, _, rfl, rfl, SqL.of h2, atI_nat (j := i) (v := V.ref t) (by rw [List.getElem?_map, h3]; rfl),
          t, _, _, _, rfl, rfl, SqT.of h5, atI_nat (j := 0) (v := V.int (lo sp i x)) rfl, _, hD2, sz (by rw [List.length_map, List.length_take]; omega), same_old s2 hD, ?_⟩⟩
        rw [upd_same, ht]; simp
      rintro H2 ⟨s2, hD2⟩
      have e1 : (P.take (NI P).length).map (fun x => V.int (lo sp i x)) = (P.map fun x => lo sp i x).map V.int := by
        rw [NI_len, List.take_length, List.map_map]; rfl
      rw [e1] at hD2
      refine ⟨D, _, rfl, SqL.of hD2, pos _, fun m hm1 hm2 => ?_⟩
      have s12 := s1.trans s2
      refine ⟨_, rfl, b, rfl, ⟨_, s12.seq hS⟩, fun E' hE => lc_list (K := K) (a := b) (xs := NI P) (fun j H' => Same H2 H' ∧ H' E' = some (.lst ((P.take j).map fun x => V.int (hi sp i x))))
        ⟨same_new (Same.refl _) hE, upd_same⟩ (fun j H' _ ⟨s3, _⟩ => (s12.trans s3).seq hS) ?_ ?_⟩
      · rintro j y H' hj ⟨s3, hD3⟩
        obtain ⟨x, hx, rfl⟩ := NI_get hj
        have ht := take_snoc hx
        have hjl : j < P.length := (List.getElem?_eq_some_iff.mp hx).1
        have sa1 := sa.mono (s12.trans s3)
        obtain ⟨c, t, ts, h1, h2, h3, h5⟩ := look_at sa1 h4 (hP x (List.mem_of_getElem? hx)) hi4
        refine ⟨rfl, yesT ⟨_, rfl, _, rfl, a, _, _, _, rfl, rfl, SqL.of sa1.at_p, atI_nat (j := x) (v := V.ref c) (by rw [List.getElem?_map, h1]; rfl), _, rfl, c, _, _, _, rfl, rfl, SqL.of h2, atI_nat (j := i) (v := V.ref t) (by rw [List.getElem?_map, h3]; rfl),
          t, _, _, _, rfl, rfl, SqT.of h5, atI_nat (j := 1) (v := V.int (hi sp i x)) rfl, _, hD3, sz (by rw [List.length_map, List.length_take]; omega), same_old s3 hE, ?_⟩⟩
        rw [upd_same, ht]; simp
      rintro H3 ⟨s3, hD3⟩
      have e2 : (P.take (NI P).length).map (fun x => V.int (hi sp i x)) = (P.map fun x => hi sp i x).map V.int := by
        rw [NI_len, List.take_length, List.map_map]; rfl
      rw [e2] at hD3
      refine ⟨E', _, rfl, SqL.of hD3, pos _, fun M hM1 hM2 => ?_⟩
      have s13 := s12.trans s3
      have s23 := s2.trans s3
      have ml : ∀ j ∈ P, m ≤ lo sp i j := fun j hj => hm2 _ (List.mem_map.mpr ⟨j, hj, rfl⟩)
      have mh : ∀ j ∈ P, hi sp i j ≤ M := fun j hj => hM2 _ (List.mem_map.mpr ⟨j, hj, rfl⟩)
      obtain ⟨jm, hjm, em⟩ := List.mem_map.mp hm1
      obtain ⟨jM, hjM, eM⟩ := List.mem_map.mp hM1
      have b1 := sm jm hjm i hi4
      have b2 := sm jM hjM i hi4
      have mM : m ≤ M := by
        have h1 := ml jM hjM
        omega
      refine ⟨_, rfl, _, _, rfl, rfl, _, rfl, _, _, rfl, rfl, _, _, rfl, ⟨by omega, by omega, by omega, by omega⟩, for_range (lo := m + 1) (n := (M + 1 - (m + 1)).toNat)
        (fun j σ H' => ∃ (v6 v7 v8 : Option V) (ts : List Addr) (fs : List (Nat × Int)), σ = [some (.ref a), some (.ref b), some (.ref p), some (.int (i : Int)), some (.int m), some (.int M), v6, v7, v8] ∧ Same H H' ∧
          H' p = some (.lst (ts.map V.ref)) ∧ PartsAt sp P [p] H H' ts fs ∧ Upto sp P (fun d a => d < i ∨ (d = i ∧ a < m + 1 + (j : Int))) fs ∧ fs.length ≤ 200 * i + j)
        ⟨_, _, _, ts, fs, rfl, s13, s23 _ _ hp1, pa.mono (Kp.of s23), up.congr fun d a hd hpm => ⟨fun z => .inl z, fun z => z.elim id fun z => ?_⟩, by omega⟩ ?_ ?_⟩
      · have z2 := z.2
        rw [z.1, parts_low sm hi4 ml (by omega)] at hpm
        cases hpm
      · rintro j σ H4 hj ⟨v6', v7', v8', ts, fs, rfl, s4, hp4, pa4, up4, hfl4⟩
        have hjj : m + 1 + ((j + 1 : Nat) : Int) = m + 1 + (j : Int) + 1 := by omega
        refine ⟨_, rfl, _, rfl, _, rfl, _, rfl, a, b, i, m + 1 + (j : Int), cs, sp, P, rfl, sa.mono s4, s4.seq hS, hi4, hP, h4, fun j hj => (sm j hj i hi4).2.1, hPl, fun e H5 q s5 hq0 hq => ?_, fun e H5 q u v s5 hq0 hu0 hv0 hq hu hv => ?_⟩
        · refine ⟨_, rfl, q, _, rfl, .inl (SqL.of hq), _, _, rfl, rfl, _, rfl, iteF ⟨_, _, _, ts, fs, rfl, s4.trans s5, s5 _ _ hp4, pa4.mono (Kp.of s5), up4.congr fun d a hd hpm => ⟨fun z => z.imp id fun z => ⟨z.1, by have := z.2; omega⟩, fun z => z.imp id fun z => ⟨z.1, ?_⟩⟩, by omega⟩⟩
          by_cases c : a = m + 1 + (j : Int)
          · rw [z.1, c, e] at hpm; cases hpm
          · have := z.2; omega
        · have i0 : atI [V.ref u, V.ref v] ((0 : Nat) : Int) = some (V.ref u) := atI_nat rfl
          have i1 : atI [V.ref u, V.ref v] ((1 : Nat) : Int) = some (V.ref v) := atI_nat rfl
          refine ⟨_, rfl, q, _, rfl, .inl (SqL.of hq), _, _, rfl, rfl, _, rfl, iteT ⟨_, rfl, .inl ⟨rfl, _, SqL.of (s5 _ _ hp4)⟩, _, rfl, _, rfl, _, rfl, q, _, _, _, rfl, rfl, SqL.of hq, i0, _, rfl, q, _, _, _, rfl, rfl, SqL.of hq, i1, Nat.le_of_lt (sz (by show 4 ≤ _; omega)), fun t ht => ?_⟩⟩
          have npt : p ≠ t := ne_of_none (s5 _ _ hp4) ht
          have npu : u ≠ p := fun z => by rw [z, hp4] at hu0; cases hu0
          have npv : v ≠ p := fun z => by rw [z, hp4] at hv0; cases hv0
          have nut : u ≠ t := ne_of_none hu ht
          have nvt : v ≠ t := ne_of_none hv ht
          refine ⟨p, _, _, rfl, rfl, (by rw [upd_ne npt]; exact s5 _ _ hp4), sz (by rw [List.length_map, pa4.len]; omega), ?_⟩
          have kp : Kp [p] H4 (upd (upd H5 t (.tup [.int (i : Int), .int (m + 1 + (j : Int)), .ref u, .ref v])) p (.lst (ts.map V.ref ++ [.ref t]))) := ((Kp.of s5).new ht).put (by simp)
          refine ⟨_, _, _, ts ++ [t], fs ++ [(i, m + 1 + (j : Int))], rfl, same_old (same_new (s4.trans s5) ht) hp, by rw [upd_same]; simp, ?_, by rw [hjj]; exact up4.snoc (by omega) e, by rw [List.length_append]; simp; omega⟩
          refine (pa4.mono kp).snoc (by rw [upd_ne (Ne.symm npt), upd_same]) ((s4.trans s5).free ht) (by simpa using Ne.symm npt) (by rw [upd_ne npu, upd_ne nut]; exact hu) (s4.free hu0) (by simpa using npu) (by rw [upd_ne npv, upd_ne nvt]; exact hv) (s4.free hv0) (by simpa using npv)
      · rintro σ H4 ⟨v6', v7', v8', ts, fs, rfl, s4, hp4, pa4, up4, hfl4⟩
        refine ⟨_, _, _, _, _, _, ts, fs, rfl, s4, hp4, pa4, up4.congr fun d a hd hpm => ⟨fun z => by omega, fun z => ?_⟩, by omega⟩
        by_cases c : d = i
        · right
          refine ⟨c, ?_⟩
          by_cases e2 : a < m + 1 + ((M + 1 - (m + 1)).toNat : Int)
          · exact e2
          · rw [c, parts_high sm hi4 mh (by omega)] at hpm
            cases hpm
        · exact .inl (by omega)
    · rintro σ H1 ⟨v3, v4, v5, v6, v7, v8, ts, fs, rfl, s1, hp1, pa, up, hfl⟩
      exact ⟨_, rfl, k H1 p ts fs s1 hp hp1 pa ⟨fun d a => (up.mem d a).trans ⟨fun z => ⟨z.1, z.2.1⟩, fun z => ⟨z.1, z.2, by omega⟩⟩, up.ord⟩ (by omega)⟩
end Sq
end
section
set_option linter.all false
set_option Elab.async false
set_option maxRecDepth 100000
set_option maxHeartbeats 2000000
namespace Sq
open PySem PySem.Spec PyProof.Rows L2 Sm
/-! ## take_apart -/
/-- the pieces that wait, each with the seams around it -/
structure WaitAt (D : Patch.Top) (M : List Addr) (H : Hp) (ws : List Addr) (st : List (List Nat × Nat)) : Prop where
  len : ws.length = st.length
  at_ : ∀ (i : Nat) (t : Addr), ws[i]? = some t → ∃ (P : List Nat) (k : Nat) (u : Addr), st[i]? = some (P, k) ∧ H t = some (.tup [.ref u, .int (k : Int)]) ∧ t ∉ M ∧ H u = some (.lst (NI P)) ∧ u ∉ M
  pcs : ∀ x ∈ st, Piece D x.1 ∧ x.1 ≠ [] ∧ List.Sublist x.1 (List.range D.count)
theorem WaitAt.mono {D : Patch.Top} {M : List Addr} {H1 H2 : Hp} {ws : List Addr} {st : List (List Nat × Nat)} (h : WaitAt D M H1 ws st) (k : Kp M H1 H2) : WaitAt D M H2 ws st :=
  ⟨h.len, fun i t e => let ⟨P, n, u, h1, h2, h3, h4, h5⟩ := h.at_ i t e; ⟨P, n, u, h1, k _ _ h3 h2, h3, k _ _ h5 h4, h5⟩, h.pcs⟩
theorem WaitAt.nil {D : Patch.Top} {M : List Addr} {H : Hp} : WaitAt D M H [] [] := ⟨rfl, fun i t e => by simp at e, fun x hx => by cases hx⟩
theorem WaitAt.snoc {D : Patch.Top} {M : List Addr} {H : Hp} {ws : List Addr} {st : List (List Nat × Nat)} (h : WaitAt D M H ws st) {t u : Addr} {P : List Nat} {k : Nat}
    (h2 : H t = some (.tup [.ref u, .int (k : Int)])) (h3 : t ∉ M) (h4 : H u = some (.lst (NI P))) (h5 : u ∉ M) (pc : Piece D P) (ne : P ≠ []) (sb : List.Sublist P (List.range D.count)) : WaitAt D M H (ws ++ [t]) (st ++ [(P, k)]) := by
  refine ⟨by rw [List.length_append, List.length_append, h.len]; rfl, fun j b e => ?_, fun x hx => ?_⟩
  · by_cases hj : j < ws.length
    · rw [List.getElem?_append_left hj] at e
      obtain ⟨P', k', u', q, r⟩ := h.at_ j b e
      exact ⟨P', k', u', by rw [List.getElem?_append_left (by rw [← h.len]; exact hj)]; exact q, r⟩
    · have hj2 : j = ws.length := by
        have := (List.getElem?_eq_some_iff.mp e).1
        simp at this; omega
      subst hj2
      have : t = b := by simpa using e
      subst this
      exact ⟨P, k, u, by rw [h.len]; simp, h2, h3, h4, h5⟩
  · rcases List.mem_append.mp hx with z | z
    · exact h.pcs x z
    · have : x = (P, k) := by simpa using z
      rw [this]; exact ⟨pc, ne, sb⟩
theorem WaitAt.last {D : Patch.Top} {M : List Addr} {H : Hp} {ws : List Addr} {st : List (List Nat × Nat)} (h : WaitAt D M H ws st) (hne : ws ≠ []) : ∃ (ini : List Addr) (t : Addr) (si : List (List Nat × Nat)) (P : List Nat) (k : Nat) (u : Addr),
    ws = ini ++ [t] ∧ st = si ++ [(P, k)] ∧ WaitAt D M H ini si ∧ H t = some (.tup [.ref u, .int (k : Int)]) ∧ t ∉ M ∧ H u = some (.lst (NI P)) ∧ u ∉ M ∧ Piece D P ∧ P ≠ [] ∧ List.Sublist P (List.range D.count) := by
  have hst : st ≠ [] := fun e => by
    have := h.len
    rw [e] at this
    exact hne (List.eq_nil_of_length_eq_zero this)
  obtain ⟨ini, t, rfl⟩ : ∃ ini t, ws = ini ++ [t] := ⟨ws.dropLast, ws.getLast hne, (List.dropLast_concat_getLast hne).symm⟩
  obtain ⟨si, x, rfl⟩ : ∃ si x, st = si ++ [x] := ⟨st.dropLast, st.getLast hst, (List.dropLast_concat_getLast hst).symm⟩
  obtain ⟨P, k⟩ := x
  have hl : ini.length = si.length := by have := h.len; simp at this; exact this
  obtain ⟨P', k', u, h1, h2, h3, h4, h5⟩ := h.at_ ini.length t (by simp)
  rw [hl] at h1
  have e : (P, k) = (P', k') := by simpa using h1
  obtain ⟨rfl, rfl⟩ := Prod.mk.inj e
  have pp := h.pcs (P, k) (by simp)
  refine ⟨ini, t, si, P, k, u, rfl, rfl, ⟨hl, fun j b e => ?_, fun x hx => h.pcs x (by simp [hx])⟩, h2, h3, h4, h5, pp.1, pp.2.1, pp.2.2⟩
  obtain ⟨hj, _⟩ := List.getElem?_eq_some_iff.mp e
  obtain ⟨P', k', u', q, r⟩ := h.at_ j b (by rw [List.getElem?_append_left hj]; exact e)
  rw [List.getElem?_append_left (by omega)] at q
  exact ⟨P', k', u', q, r⟩
/-- a step's second half -/
def LineAt (M : List Addr) (H : Hp) (v : V) : Option (Nat × Int) → Prop
  | none => v = .non
  | some l => ∃ (w x y : Addr), v = .ref w ∧ H w = some (.tup [.int (l.1 : Int), .int l.2, .ref x, .ref y]) ∧ w ∉ M
theorem LineAt.mono {M : List Addr} {H1 H2 : Hp} {v : V} {o : Option (Nat × Int)} (h : LineAt M H1 v o) (k : Kp M H1 H2) : LineAt M H2 v o := by
  cases o with
  | none => exact h
  | some l =>
    obtain ⟨w, x, y, h1, h2, h3⟩ := h
    exact ⟨w, x, y, h1, k _ _ h3 h2, h3⟩
structure StepAt (M : List Addr) (H : Hp) (ss : List Addr) (sts : List Stp) : Prop where
  len : ss.length = sts.length
  at_ : ∀ (i : Nat) (t : Addr), ss[i]? = some t → ∃ (P : List Nat) (o : Option (Nat × Int)) (u : Addr) (v : V), sts[i]? = some (P, o) ∧ H t = some (.tup [.ref u, v]) ∧ t ∉ M ∧ H u = some (.lst (NI P)) ∧ u ∉ M ∧ LineAt M H v o ∧ P ≠ []
theorem StepAt.mono {M : List Addr} {H1 H2 : Hp} {ss : List Addr} {sts : List Stp} (h : StepAt M H1 ss sts) (k : Kp M H1 H2) : StepAt M H2 ss sts :=
  ⟨h.len, fun i t e => let ⟨P, o, u, v, h1, h2, h3, h4, h5, h6, h7⟩ := h.at_ i t e; ⟨P, o, u, v, h1, k _ _ h3 h2, h3, k _ _ h5 h4, h5, h6.mono k, h7⟩⟩
theorem StepAt.free {M : List Addr} {H : Hp} {ss : List Addr} {sts : List Stp} (h : StepAt M H ss sts) : StepAt [] H ss sts :=
  ⟨h.len, fun i t e => let ⟨P, o, u, v, h1, h2, h3, h4, h5, h6, h7⟩ := h.at_ i t e; ⟨P, o, u, v, h1, h2, by simp, h4, by simp, (by
    cases o with
    | none => exact h6
    | some l => obtain ⟨w, x, y, q1, q2, _⟩ := h6; exact ⟨w, x, y, q1, q2, by simp⟩), h7⟩⟩
theorem StepAt.snoc {M : List Addr} {H : Hp} {ss : List Addr} {sts : List Stp} (h : StepAt M H ss sts) {t u : Addr} {v : V} {P : List Nat} {o : Option (Nat × Int)}
    (h2 : H t = some (.tup [.ref u, v])) (h3 : t ∉ M) (h4 : H u = some (.lst (NI P))) (h5 : u ∉ M) (h6 : LineAt M H v o) (h7 : P ≠ []) : StepAt M H (ss ++ [t]) (sts ++ [(P, o)]) := by
  refine ⟨by rw [List.length_append, List.length_append, h.len]; rfl, fun j b e => ?_⟩
  by_cases hj : j < ss.length
  · rw [List.getElem?_append_left hj] at e
    obtain ⟨P', o', u', v', q, r⟩ := h.at_ j b e
    exact ⟨P', o', u', v', by rw [List.getElem?_append_left (by rw [← h.len]; exact hj)]; exact q, r⟩
  · have hj2 : j = ss.length := by
      have := (List.getElem?_eq_some_iff.mp e).1
      simp at this; omega
    subst hj2
    have : t = b := by simpa using e
    subst this
    exact ⟨P, o, u, v, by rw [h.len]; simp, h2, h3, h4, h5, h6, h7⟩
structure StepsAt (H : Hp) (p : Addr) (ss : List Addr) (sts : List Stp) : Prop where
  at_p : H p = some (.lst (ss.map V.ref))
  st : StepAt [] H ss sts
theorem StepsAt.mono {H1 H2 : Hp} {p : Addr} {ss : List Addr} {sts : List Stp} (h : StepsAt H1 p ss sts) (s : Same H1 H2) : StepsAt H2 p ss sts := ⟨s _ _ h.at_p, h.st.mono (Kp.of s)⟩
def weight (st : List (List Nat × Nat)) : Nat := (st.map fun x => 2 * x.1.length - 1).sum
theorem weight_snoc (st : List (List Nat × Nat)) (x : List Nat × Nat) : weight (st ++ [x]) = weight st + (2 * x.1.length - 1) := by
  unfold weight; rw [List.map_append, List.sum_append]; simp
theorem weight_ge : ∀ {st : List (List Nat × Nat)}, (∀ x ∈ st, x.1 ≠ []) → st.length ≤ weight st
  | [], _ => by simp
  | x :: st, h => by
    have h1 := weight_ge (st := st) fun R hR => h R (by simp [hR])
    have h2 : 0 < x.1.length := List.length_pos_iff.mpr (h x (by simp))
    unfold weight at h1 ⊢
    rw [List.map_cons, List.sum_cons, List.length_cons]
    omega
theorem piece_len {D : Patch.Top} {P : List Nat} (pc : Piece D P) : P.length ≤ D.count := nodup_le D.count P pc.nd pc.lt
/-- what is known of a top's spans -/
structure TopOk (D : Patch.Top) (sp : Sps) : Prop where
  S : Spans D sp
  w0 : 0 < D.wide
  c0 : 0 < D.count
  c144 : D.count ≤ 144
  h6 : D.high ≤ 6
  sm : ∀ j, j < D.count → ∀ d, d < 4 → -100 ≤ lo sp d j ∧ lo sp d j ≤ hi sp d j ∧ hi sp d j ≤ 100
structure TakeI (KI : List (List Key × V) → Prop) (D : Patch.Top) (sp : Sps) (pick : Pick) (H H' : Hp) (M : List Addr) (q1 kn q2 : Addr) (ss : List Addr) (sts : List Stp) (ws : List Addr) (st : List (List Nat × Nat)) : Prop where
  same : Same H H'
  at1 : H' q1 = some (.lst (ss.map V.ref))
  at2 : H' q2 = some (.lst (ws.map V.ref))
  atk : ∃ kvs, H' kn = some (.dT kvs) ∧ KI kvs
  steps : StepAt M H' ss sts
  wait : WaitAt D M H' ws st
  all : sts ++ todo sp pick st = preP sp pick 0 (List.range D.count)
  few : sts.length + weight st ≤ 287
theorem notin3 {H : Hp} {q1 kn q2 t : Addr} {o1 o2 o3 : HO} (a : H q1 = some o1) (b : H kn = some o2) (c : H q2 = some o3) (h : H t = none) : t ∉ [q1, kn, q2] := by
  have h1 := Ne.symm (ne_of_none a h)
  have h2 := Ne.symm (ne_of_none b h)
  have h3 := Ne.symm (ne_of_none c h)
  simp [h1, h2, h3]
theorem iteD {c A B : Prop} [Decidable c] (hc : c) (h : A) : if decide c = true then A else B := by
  rw [decide_eq_true hc]; exact iteT h
theorem iteDn {c A B : Prop} [Decidable c] (hc : ¬ c) (h : B) : if decide c = true then A else B := by
  rw [decide_eq_false hc]; exact iteF h
theorem TakeI.wlen {KI : List (List Key × V) → Prop} {D : Patch.Top} {sp : Sps} {pick : Pick} {H H' : Hp} {M : List Addr} {q1 kn q2 : Addr} {ss : List Addr} {sts : List Stp} {ws : List Addr} {st : List (List Nat × Nat)} (I : TakeI KI D sp pick H H' M q1 kn q2 ss sts ws st) : ss.length ≤ 287 ∧ ws.length ≤ 287 := by
  have h1 := weight_ge (st := st) fun x hx => (I.wait.pcs x hx).2.1
  have h2 := I.few
  have h3 := I.steps.len
  have h4 := I.wait.len
  omega
end Sq
end
section
set_option linter.all false
set_option Elab.async false
set_option maxRecDepth 100000
set_option maxHeartbeats 2000000
namespace Sq
open PySem PySem.Spec PyProof.Rows L2 Sm
def sp_take_apart (K : PySem.W.Frag) : Sp := fun vs H Q _ => ∃ (a : Addr) (cs : List Addr) (sp : Sps) (D : Patch.Top), vs = [.ref a, .non] ∧ SpsAt H a cs sp ∧ TopOk D sp ∧
  ∀ (H' : Hp) (p : Addr) (ss : List Addr), Same H H' → H p = none → StepsAt H' p ss (preP sp (pickF D sp) 0 (List.range D.count)) → ss.length ≤ 287 → Q (.ref p) H'
theorem take_none {K : PySem.W.Frag} {vs : List V} {H : Hp} {Q : VK} {E : XK} (h : sp_take_apart K vs H Q E) : sp_take_apart K vs H Q E := h
theorem ok_take_apart {P : Program} {w : World} {K : PySem.W.Frag} {mg : Str → Option Value} {base : Heap} {f : Addr} {fd : FuncData} (F : Fun K "take_apart" "take_apart" s_take_apart f fd) (T : Txt mg) (F_whole_top : Has P w K mg base 1 "whole_top" ["spans"] (sp_whole_top K)) (F_partings : Has P w K mg base 2 "partings" ["spans", "piece"] (sp_partings K)) : FnOk P w K mg base CX0 3 f fd ["spans", "most"] (sp_take_apart K) := by
  have nd := sc_take_apart.nd
  refine F.ok sc_take_apart (fun vs H Q E h => ?_) (fun cdv A outer s H vs Q E hr h => ?_)
  · obtain ⟨a, cs, sp, D, rfl, _⟩ := h
    rfl
  · obtain ⟨a, cs, sp, D, rfl, sa, tk, k⟩ := h
    have hu := hu_of hr
    have S := tk.S
    have w0 := tk.w0
    have c144 := tk.c144
    have c0 := tk.c0
    refine ⟨_, (pss_cons (ps_set (i := 2) nd rfl (by first | exact Or.inl rfl | exact Or.inr rfl) (pe_lst pa_nil))
        (pss_cons (ps_set (i := 3) nd rfl (by first | exact Or.inl rfl | exact Or.inr rfl) pe_dnewT)
        (pss_cons (ps_set (i := 4) nd rfl (by first | exact Or.inl rfl | exact Or.inr rfl) (pe_lst (pa_cons (pe_tup (pa_cons (pe_f F_whole_top (hr.mono (by omega)) rfl (pa_cons (pv 0) pa_nil)) (pa_cons pe_int pa_nil))) pa_nil)))
        (pss_cons (ps_while PassesOwn.never (pt_cmpR op_gt (pe_callB (lenK (K := K) rfl) (by rfl) T.b_len PySem.boot_len (pa_cons (pv 4) pa_nil)) pe_int (nomark _)) (pss_cons (ps_set (i := 5) nd rfl (by first | exact Or.inl rfl | exact Or.inr rfl) (pe_bm0 PySem.F.plainAttrs_list PySem.F.slot_list_pop PySem.F.type_list_pop mt_pop (pv 4)))
        (pss_cons (ps_set (i := 6) nd rfl (by first | exact Or.inl rfl | exact Or.inr rfl) (pe_f F_partings (hr.mono (by omega)) rfl (pa_cons (pv 0) (pa_cons (pe_ix (ixtK (K := K) rfl) (pv 5) pe_int (fun _ _ => rfl)) pa_nil))))
        (pss_cons (ps_if (pt_cmp (pc_notN (pv 1))) pss_never pss_nil)
        (pss_cons (ps_expr (pe_bm PySem.F.plainAttrs_list PySem.F.slot_list_append PySem.F.type_list_append mt_append (pv 2) (pa_cons (pe_tup (pa_cons (pe_ix (ixtK (K := K) rfl) (pv 5) pe_int (fun _ _ => rfl)) (pa_cons (pe_ifExp (pt_cmpR op_gt (pe_callB (lenK (K := K) rfl) (by rfl) T.b_len PySem.boot_len (pa_cons (pv 6) pa_nil)) pe_int (nomark _)) (pe_ix (ixlK (K := K) rfl) (pv 6) pe_int (fun _ _ => rfl)) pe_non) pa_nil))) pa_nil)))
        (pss_one (ps_if (pt_cmpR op_gt (pe_callB (lenK (K := K) rfl) (by rfl) T.b_len PySem.boot_len (pa_cons (pv 6) pa_nil)) pe_int (nomark _)) (pss_cons (ps_expr (pe_bm PySem.F.plainAttrs_list PySem.F.slot_list_append PySem.F.type_list_append mt_append (pv 4) (pa_cons (pe_tup (pa_cons (pe_ix (ixtK (K := K) rfl) (pe_ix (ixlK (K := K) rfl) (pv 6) pe_int (fun _ _ => rfl)) pe_int (fun _ _ => rfl)) (pa_cons (pe_op op_add (pe_ix (ixtK (K := K) rfl) (pv 5) pe_int (fun _ _ => rfl)) pe_int) pa_nil))) pa_nil)))
        (pss_one (ps_expr (pe_bm PySem.F.plainAttrs_list PySem.F.slot_list_append PySem.F.type_list_append mt_append (pv 4) (pa_cons (pe_tup (pa_cons (pe_ix (ixtK (K := K) rfl) (pe_ix (ixlK (K := K) rfl) (pv 6) pe_int (fun _ _ => rfl)) pe_int (fun _ _ => rfl)) (pa_cons (pe_op op_add (pe_ix (ixtK (K := K) rfl) (pv 5) pe_int (fun _ _ => rfl)) pe_int) pa_nil))) pa_nil))))) pss_nil)))))))
        (pss_one (ps_ret (pv 2))))))), ?_⟩
    refine ⟨Nat.zero_le _, fun q1 hq1 => ?_⟩
    intro kn hkn
    have n1k : q1 ≠ kn := fun e => by rw [← e, upd_same] at hkn; cases hkn
    have hkn0 : H kn = none := by rw [upd_ne (Ne.symm n1k)] at hkn; exact hkn
    generalize hHa : upd (upd H q1 (.lst [])) kn (.dT []) = Ha
    have sHa : Same H Ha := by rw [← hHa]; exact same_new (same_new (Same.refl H) hq1) hkn
    have ha1 : Ha q1 = some (.lst []) := by rw [← hHa, upd_ne n1k, upd_same]
    have hcl : cs.length ≤ 144 := by rw [sa.len, S.len]; exact c144
    have sa1 := sa.mono sHa
    refine ⟨_, rfl, a, _, rfl, SqL.of sa1.at_p, (by rw [List.length_map]; omega), fun Hb r0 sb hr0 hr1 => ?_⟩
    rw [List.length_map, sa.len, S.len] at hr1
    refine ⟨Nat.le_of_lt (sz (by show 2 ≤ _; omega)), fun t0 ht0 => ⟨Nat.le_of_lt (sz (by show 1 ≤ _; omega)), fun q2 hq2 => ?_⟩⟩
    generalize hHc : upd Hb t0 (.tup [.ref r0, .int 0]) = Hc at hq2
    have scb : Same Hb Hc := by rw [← hHc]; exact same_new (Same.refl _) ht0
    have sHc : Same H Hc := sHa.trans (sb.trans scb)
    have hq20 : H q2 = none := sHc.free hq2
    have hkc : ∀ b o, Ha b = some o → Hc b = some o := fun b o e => scb _ _ (sb _ _ e)
    have hakn : Ha kn = some (.dT []) := by rw [← hHa, upd_same]
    have n12 : q1 ≠ q2 := ne_of_none (hkc _ _ ha1) hq2
    have nk2 : kn ≠ q2 := ne_of_none (hkc _ _ hakn) hq2
    have hct0 : Hc t0 = some (.tup [.ref r0, .int ((0 : Nat) : Int)]) := by rw [← hHc, upd_same]; rfl
    have hcr0 : Hc r0 = some (.lst (NI (List.range D.count))) := scb _ _ hr1
    have nt0 : t0 ∉ [q1, kn, q2] := by
      have := ne_of_none hct0 hq2
      have h1 : t0 ≠ q1 := fun e => by rw [e, hkc _ _ ha1] at hct0; cases hct0
      have h2 : t0 ≠ kn := fun e => by rw [e, hkc _ _ hakn] at hct0; cases hct0
      simp [this, h1, h2]
    have nr0 : r0 ∉ [q1, kn, q2] := by
      have := ne_of_none hcr0 hq2
      have h1 : r0 ≠ q1 := fun e => by rw [e, ha1] at hr0; cases hr0
      have h2 : r0 ≠ kn := fun e => by rw [e, hakn] at hr0; cases hr0
      simp [this, h1, h2]
    have wne : List.range D.count ≠ [] := fun e => by
      have := congrArg List.length e
      rw [List.length_range] at this
      simp at this; omega
    have kcd : Kp [q1, kn, q2] Hc (upd Hc q2 (.lst [.ref t0])) := (Kp.refl Hc).put (by simp)
    obtain ⟨pick, hpick⟩ : ∃ pick, pick = pickF D sp := ⟨_, rfl⟩
    have hok : Picks sp pick := by rw [hpick]; exact pickF_ok D sp
    rw [← hpick] at k
    refine ⟨fun m σ H' => ∃ (v5 v6 v7 : Option V) (ss : List Addr) (sts : List Stp) (ws : List Addr) (st : List (List Nat × Nat)), σ = [some (.ref a), some .non, some (.ref q1), some (.ref kn), some (.ref q2), v5, v6, v7] ∧
        TakeI (fun _ => True) D sp pick H H' [q1, kn, q2] q1 kn q2 ss sts ws st ∧ m = weight st,
      ⟨_, none, none, none, [], [], [t0], [(List.range D.count, 0)], rfl, ⟨same_old sHc hq20, by rw [upd_ne n12]; exact hkc _ _ ha1, upd_same, ⟨[], by rw [upd_ne nk2]; exact hkc _ _ hakn, trivial⟩, ⟨rfl, fun i t e => by simp at e⟩, ?_, by simp [todo], ?_⟩, rfl⟩, ?_⟩
    · exact (WaitAt.nil (D := D)).snoc (kcd _ _ nt0 hct0) nt0 (kcd _ _ nr0 hcr0) nr0 whole_piece wne (List.Sublist.refl _)
    · have : weight [(List.range D.count, 0)] = 2 * D.count - 1 := by unfold weight; simp
      rw [this]
      simp; omega
    · rintro m σ H1 ⟨v5, v6, v7, ss, sts, ws, st, rfl, I, rfl⟩
      have wl := I.wlen
      refine ⟨_, rfl, q2, _, rfl, .inl (SqL.of I.at2), _, _, rfl, rfl, _, rfl, ite2 (fun hc => ?_) (fun hc => ?_)⟩
      · have hpos : ws ≠ [] := fun e => by
          rw [e] at hc
          simp at hc
        obtain ⟨ini, t, si, P, kk, u, rfl, rfl, W, ht, ntM, hu1, nuM, pc, hne, hsb⟩ := I.wait.last hpos
        refine ⟨_, fun σ' H' z => z, ?_⟩
        refine ⟨_, rfl, .inl ⟨rfl, _, SqL.of I.at2⟩, q2, _, _, rfl, rfl, I.at2, (show ((ini ++ [t]).map V.ref)[((ini ++ [t]).map V.ref).length - 1]? = some (V.ref t) by simp), ?_⟩
        have edl : ((ini ++ [t]).map V.ref).dropLast = ini.map V.ref := by rw [List.map_append]; simp
        rw [edl]
        generalize hH2 : upd H1 q2 (.lst (ini.map V.ref)) = H2
        have k12 : Kp [q1, kn, q2] H1 H2 := by rw [← hH2]; exact (Kp.refl H1).put (by simp)
        have s2 : Same H H2 := by rw [← hH2]; exact same_old I.same hq20
        have a21 : H2 q1 = some (.lst (ss.map V.ref)) := by rw [← hH2, upd_ne n12]; exact I.at1
        have a22 : H2 q2 = some (.lst (ini.map V.ref)) := by rw [← hH2]; exact upd_same
        obtain ⟨kvs, hk1, hKI⟩ := I.atk
        have a2k : H2 kn = some (.dT kvs) := by rw [← hH2, upd_ne nk2]; exact hk1
        have ht2 := k12 _ _ ntM ht
        have hu2 := k12 _ _ nuM hu1
        have i0 : atI [V.ref u, V.int (kk : Int)] ((0 : Nat) : Int) = some (V.ref u) := atI_nat rfl
        have i1 : atI [V.ref u, V.int (kk : Int)] ((1 : Nat) : Int) = some (V.int (kk : Int)) := atI_nat rfl
        have ple := piece_len pc
        have ppos : 0 < P.length := List.length_pos_iff.mpr hne
        have all := I.all
        rw [todo_snoc, ← List.append_assoc] at all
        have few := I.few
        rw [weight_snoc] at few
        simp only at few
        refine ⟨_, rfl, _, rfl, t, _, _, _, rfl, rfl, SqT.of ht2, i0, a, u, cs, sp, P, rfl, sa.mono s2, SqL.of hu2, hne, fun j hj => by rw [S.len]; exact pc.lt j hj, S.four, by omega, fun j hj d hd => tk.sm j (pc.lt j hj) d hd, fun H3 p ts fs s3 hp0 hp pa al hfl => ?_⟩
        have k13 := k12.trans (Kp.of s3)
        have sH3 := s2.trans s3
        have a31 := s3 _ _ a21
        have a32 := s3 _ _ a22
        have a3k := s3 _ _ a2k
        have ht3 := s3 _ _ ht2
        have hu3 := s3 _ _ hu2
        have npM : p ∉ [q1, kn, q2] := notin3 a21 a2k a22 hp0
        refine ⟨_, rfl, _, rfl, iteF ?_⟩
        have hpk : pick P kk = fs.head? := by
          rw [hpick]
          cases fs with
          | nil => exact pickF_none S kk pc al.no
          | cons l0 fr => obtain ⟨d, at_⟩ := l0; exact pickF_some S w0 kk pc al.first
        cases fs with
        | nil =>
          have ets : ts = [] := List.eq_nil_of_length_eq_zero pa.len
          subst ets
          have hpk' : pick P kk = none := hpk
          rw [preP_none hpk'] at all
          refine ⟨_, rfl, .inl ⟨rfl, _, SqL.of a31⟩, _, rfl, t, _, _, _, rfl, rfl, SqT.of ht3, i0, _, rfl, p, _, rfl, .inl (SqL.of hp), _, _, rfl, rfl, _, rfl, iteDn (by simp) ⟨Nat.le_of_lt (sz (by show 2 ≤ _; omega)), fun t2 ht2 => ⟨q1, _, _, rfl, rfl, (by rw [upd_ne (ne_of_none a31 ht2)]; exact a31), sz (by rw [List.length_map]; omega), ?_⟩⟩⟩
          have n1t := ne_of_none a31 ht2
          have n2t := ne_of_none a32 ht2
          have nkt := ne_of_none a3k ht2
          have nt2M : t2 ∉ [q1, kn, q2] := notin3 a31 a3k a32 ht2
          generalize hH4 : upd (upd H3 t2 (.tup [.ref u, .non])) q1 (.lst (ss.map V.ref ++ [.ref t2])) = H4
          have k34 : Kp [q1, kn, q2] H3 H4 := by rw [← hH4]; exact ((Kp.refl H3).new ht2).put (by simp)
          refine ⟨_, rfl, p, _, rfl, .inl (SqL.of (k34 _ _ npM hp)), _, _, rfl, rfl, _, rfl, iteDn (by simp) ⟨weight si, by rw [weight_snoc]; simp only; omega, _, _, _, ss ++ [t2], sts ++ [(P, none)], ini, si, rfl, ⟨?_, ?_, ?_, ⟨kvs, ?_, hKI⟩, ?_, W.mono (k13.trans k34), all, ?_⟩, rfl⟩⟩
          · rw [← hH4]; exact same_old (same_new sH3 ht2) hq1
          · rw [← hH4, upd_same]; simp
          · rw [← hH4, upd_ne (Ne.symm n12), upd_ne n2t]; exact a32
          · rw [← hH4, upd_ne (Ne.symm n1k), upd_ne nkt]; exact a3k
          · exact (I.steps.mono (k13.trans k34)).snoc (by rw [← hH4, upd_ne (Ne.symm n1t), upd_same]) nt2M (k34 _ _ nuM hu3) nuM rfl hne
          · rw [List.length_append]; simp only [List.length_cons, List.length_nil]; omega
        | cons l0 fr =>
          obtain ⟨d, at_⟩ := l0
          match ts, pa, hp with
          | [], pa, hp => exact absurd pa.len (by simp)
          | t0' :: tr, pa, hp =>
          obtain ⟨d', a', u', v', e0, hT, hT0, _, hU, hU0, _, hV, hV0, _⟩ := pa.at_ 0 t0' rfl
          have e0 : (d, at_) = (d', a') := by simpa using e0
          obtain ⟨rfl, rfl⟩ := Prod.mk.inj e0
          have nTM : t0' ∉ [q1, kn, q2] := notin3 a21 a2k a22 hT0
          have nUM : u' ∉ [q1, kn, q2] := notin3 a21 a2k a22 hU0
          have nVM : v' ∉ [q1, kn, q2] := notin3 a21 a2k a22 hV0
          have hpk' : pick P kk = some (d, at_) := hpk
          rw [preP_some hok hpk'] at all
          obtain ⟨p1, p2, b1, b2, bs⟩ := parts_small pc (hok _ _ _ _ hpk')
          have f0 : atI ((t0' :: tr).map V.ref) ((0 : Nat) : Int) = some (V.ref t0') := atI_nat rfl
          have j2 : atI [V.int (d : Int), V.int at_, V.ref u', V.ref v'] ((2 : Nat) : Int) = some (V.ref u') := atI_nat rfl
          have j3 : atI [V.int (d : Int), V.int at_, V.ref u', V.ref v'] ((3 : Nat) : Int) = some (V.ref v') := atI_nat rfl
          have lpos : (0 : Int) < (((t0' :: tr).map V.ref).length : Nat) := by simp only [List.length_map, List.length_cons]; omega
          refine ⟨_, rfl, .inl ⟨rfl, _, SqL.of a31⟩, _, rfl, t, _, _, _, rfl, rfl, SqT.of ht3, i0, _, rfl, p, _, rfl, .inl (SqL.of hp), _, _, rfl, rfl, _, rfl, iteD lpos ⟨_, rfl, p, _, _, _, rfl, rfl, SqL.of hp, f0, Nat.le_of_lt (sz (by show 2 ≤ _; omega)), fun t2 ht2 => ⟨q1, _, _, rfl, rfl, (by rw [upd_ne (ne_of_none a31 ht2)]; exact a31), sz (by rw [List.length_map]; omega), ?_⟩⟩⟩
          have n1t := ne_of_none a31 ht2
          have n2t := ne_of_none a32 ht2
          have nkt := ne_of_none a3k ht2
          have nt2M : t2 ∉ [q1, kn, q2] := notin3 a31 a3k a32 ht2
          generalize hH4 : upd (upd H3 t2 (.tup [.ref u, .ref t0'])) q1 (.lst (ss.map V.ref ++ [.ref t2])) = H4
          have k34 : Kp [q1, kn, q2] H3 H4 := by rw [← hH4]; exact ((Kp.refl H3).new ht2).put (by simp)
          have sH4 : Same H H4 := by rw [← hH4]; exact same_old (same_new sH3 ht2) hq1
          have a41 : H4 q1 = some (.lst ((ss ++ [t2]).map V.ref)) := by rw [← hH4, upd_same]; simp
          have a42 : H4 q2 = some (.lst (ini.map V.ref)) := by rw [← hH4, upd_ne (Ne.symm n12), upd_ne n2t]; exact a32
          have a4k : H4 kn = some (.dT kvs) := by rw [← hH4, upd_ne (Ne.symm n1k), upd_ne nkt]; exact a3k
          have h42 : H4 t2 = some (.tup [.ref u, .ref t0']) := by rw [← hH4, upd_ne (Ne.symm n1t), upd_same]
          have hil : ini.length ≤ 287 := by have := wl.2; rw [List.length_append] at this; omega
          refine ⟨_, rfl, p, _, rfl, .inl (SqL.of (k34 _ _ npM hp)), _, _, rfl, rfl, _, rfl, iteD lpos ?_⟩
          refine ⟨_, rfl, .inl ⟨rfl, _, SqL.of a42⟩, _, rfl, p, _, _, _, rfl, rfl, SqL.of (k34 _ _ npM hp), f0, t0', _, _, _, rfl, rfl, SqT.of (k34 _ _ nTM hT), j3, _, rfl, t, _, _, _, rfl, rfl, SqT.of (k34 _ _ ntM ht3), i1, _, _, rfl, rfl, Nat.le_of_lt (sz (by show 2 ≤ _; omega)), fun t3 ht3' => ⟨q2, _, _, rfl, rfl, (by rw [upd_ne (ne_of_none a42 ht3')]; exact a42), sz (by rw [List.length_map]; omega), ?_⟩⟩
          have m1t := ne_of_none a41 ht3'
          have m2t := ne_of_none a42 ht3'
          have mkt := ne_of_none a4k ht3'
          have nt3M : t3 ∉ [q1, kn, q2] := notin3 a41 a4k a42 ht3'
          have ek : ((kk : Int) + 1) = ((kk + 1 : Nat) : Int) := rfl
          try dsimp only
          rw [ek]
          generalize hH5 : upd (upd H4 t3 (.tup [.ref v', .int ((kk + 1 : Nat) : Int)])) q2 (.lst (ini.map V.ref ++ [.ref t3])) = H5
          have k45 : Kp [q1, kn, q2] H4 H5 := by rw [← hH5]; exact ((Kp.refl H4).new ht3').put (by simp)
          have sH5 : Same H H5 := by rw [← hH5]; exact same_old (same_new sH4 ht3') hq20
          have a51 : H5 q1 = some (.lst ((ss ++ [t2]).map V.ref)) := by rw [← hH5, upd_ne n12, upd_ne m1t]; exact a41
          have a52 : H5 q2 = some (.lst ((ini ++ [t3]).map V.ref)) := by rw [← hH5, upd_same]; simp
          have a5k : H5 kn = some (.dT kvs) := by rw [← hH5, upd_ne nk2, upd_ne mkt]; exact a4k
          have h53 : H5 t3 = some (.tup [.ref v', .int ((kk + 1 : Nat) : Int)]) := by rw [← hH5, upd_ne (Ne.symm m2t), upd_same]
          have k35 := k34.trans k45
          refine ⟨_, rfl, .inl ⟨rfl, _, SqL.of a52⟩, _, rfl, p, _, _, _, rfl, rfl, SqL.of (k35 _ _ npM hp), f0, t0', _, _, _, rfl, rfl, SqT.of (k35 _ _ nTM hT), j2, _, rfl, t, _, _, _, rfl, rfl, SqT.of (k35 _ _ ntM ht3), i1, _, _, rfl, rfl, Nat.le_of_lt (sz (by show 2 ≤ _; omega)), fun t4 ht4 => ⟨q2, _, _, rfl, rfl, (by rw [upd_ne (ne_of_none a52 ht4)]; exact a52), sz (by rw [List.length_map, List.length_append]; simp only [List.length_cons, List.length_nil]; omega), ?_⟩⟩
          have o1t := ne_of_none a51 ht4
          have o2t := ne_of_none a52 ht4
          have okt := ne_of_none a5k ht4
          have nt4M : t4 ∉ [q1, kn, q2] := notin3 a51 a5k a52 ht4
          try dsimp only
          rw [ek]
          generalize hH6 : upd (upd H5 t4 (.tup [.ref u', .int ((kk + 1 : Nat) : Int)])) q2 (.lst ((ini ++ [t3]).map V.ref ++ [.ref t4])) = H6
          have k56 : Kp [q1, kn, q2] H5 H6 := by rw [← hH6]; exact ((Kp.refl H5).new ht4).put (by simp)
          have k36 := k35.trans k56
          have k46 := k45.trans k56
          refine ⟨weight ((si ++ [(behM sp d at_ P, kk + 1)]) ++ [(befM sp d at_ P, kk + 1)]), ?_, _, _, _, ss ++ [t2], sts ++ [(P, some (d, at_))], (ini ++ [t3]) ++ [t4], (si ++ [(behM sp d at_ P, kk + 1)]) ++ [(befM sp d at_ P, kk + 1)], rfl, ⟨?_, ?_, ?_, ⟨kvs, ?_, hKI⟩, ?_, ?_, ?_, ?_⟩, rfl⟩
          · rw [weight_snoc, weight_snoc, weight_snoc]; simp only; omega
          · rw [← hH6]; exact same_old (same_new sH5 ht4) hq20
          · rw [← hH6, upd_ne n12, upd_ne o1t]; exact a51
          · rw [← hH6, upd_same]; simp
          · rw [← hH6, upd_ne nk2, upd_ne okt]; exact a5k
          · exact (I.steps.mono (k13.trans k36)).snoc (k46 _ _ nt2M h42) nt2M (k36 _ _ nuM hu3) nuM ⟨t0', u', v', rfl, k36 _ _ nTM hT, nTM⟩ hne
          · have h64 : H6 t4 = some (.tup [.ref u', .int ((kk + 1 : Nat) : Int)]) := by rw [← hH6, upd_ne (Ne.symm o2t), upd_same]
            exact ((W.mono (k13.trans k36)).snoc (k56 _ _ nt3M h53) nt3M (k36 _ _ nVM hV) nVM p2 (List.length_pos_iff.mp b2) (List.filter_sublist.trans hsb)).snoc h64 nt4M (k36 _ _ nUM hU) nUM p1 (List.length_pos_iff.mp b1) (List.filter_sublist.trans hsb)
          · rw [todo_snoc, todo_snoc, ← all]
            simp [List.append_assoc]
          · rw [List.length_append, weight_snoc, weight_snoc]; simp only [List.length_cons, List.length_nil]; omega
      · have hnil : ws = [] := by
          rw [List.length_map] at hc
          have : ¬ (0 : Int) < ws.length := by simpa using hc
          exact List.eq_nil_of_length_eq_zero (by omega)
        subst hnil
        have hst : st = [] := List.eq_nil_of_length_eq_zero I.wait.len.symm
        subst hst
        have all := I.all
        simp only [todo, List.append_nil] at all
        refine ⟨_, rfl, k H1 q1 ss I.same hq1 ⟨I.at1, ?_⟩ wl.1⟩
        rw [← all]; exact I.steps.free
end Sq
end
section
set_option linter.all false
set_option Elab.async false
set_option maxRecDepth 100000
set_option maxHeartbeats 2000000
namespace Sq
open PySem PySem.Spec PyProof.Rows L2 Sm
/-! ## stuck_pieces -/
def sp_stuck_pieces (K : PySem.W.Frag) : Sp := fun vs H Q _ => ∃ (p : Addr) (ss : List Addr) (sts : List Stp), vs = [.ref p] ∧ StepsAt H p ss sts ∧ ss.length ≤ 1000 ∧
  ∀ (H' : Hp) (q : Addr) (us : List Addr), Same H H' → H q = none → H' q = some (.lst (us.map V.ref)) → RA H' us (IR (stuckM sts)) → Q (.ref q) H'
theorem stuck_take {sts : List Stp} {i : Nat} {P : List Nat} {o : Option (Nat × Int)} (h : sts[i]? = some (P, o)) : stuckM (sts.take (i + 1)) = stuckM (sts.take i) ++ (if o.isNone && decide (1 < P.length) then [P] else []) := by
  rw [take_snoc h, stuck_append]
  congr 1
  unfold stuckM
  rw [List.filter_cons]
  by_cases c : (o.isNone && decide (1 < P.length)) = true
  · rw [if_pos c, if_pos c]; rfl
  · rw [if_neg c, if_neg c]; rfl
theorem IR_append (a b : List (List Nat)) : IR (a ++ b) = IR a ++ IR b := by unfold IR; rw [List.map_append]
theorem stuck_len (sts : List Stp) : (stuckM sts).length ≤ sts.length := by
  unfold stuckM; rw [List.length_map]; exact List.length_filter_le _ _
theorem ok_stuck_pieces {P : Program} {w : World} {K : PySem.W.Frag} {mg : Str → Option Value} {base : Heap} {f : Addr} {fd : FuncData} (F : Fun K "stuck_pieces" "stuck_pieces" s_stuck_pieces f fd) (T : Txt mg)  : FnOk P w K mg base CX0 1 f fd ["steps"] (sp_stuck_pieces K) := by
  have nd := sc_stuck_pieces.nd
  refine F.ok sc_stuck_pieces (fun vs H Q E h => ?_) (fun cdv A outer s H vs Q E hr h => ?_)
  · obtain ⟨p, ss, sts, rfl, _⟩ := h
    rfl
  · obtain ⟨p, ss, sts, rfl, st, hl, k⟩ := h
    refine ⟨_, (pss_one (ps_ret (pe_lc rfl nd (pi_list (pv 0)) (blkOk_by (own := [("piece", 1), ("parting", 2)]) rfl) (fun _ _ _ _ _ => pg_tupK (K := K) (n := 2) rfl rfl (pgs_cons (pg_name (i := 1) nd rfl (Or.inl rfl)) (pgs_cons (pg_name (i := 2) nd rfl (Or.inl rfl)) pgs_nil))) (fun _ _ _ _ _ => (pts_one (pw_and (pt_cmp (pc_isN (pv 2))) (pw_and1 (pt_cmpR op_gt (pe_callB (lenK (K := K) rfl) (by rfl) T.b_len PySem.boot_len (pa_cons (pv 1) pa_nil)) pe_int (nomark _)))).pt)) (fun _ _ _ _ _ => (pv 1))))), ?_⟩
    refine ⟨_, rfl, p, rfl, ⟨_, SqL.of st.at_p⟩, fun D hD => lc_list (K := K) (a := p) (xs := ss.map V.ref) (fun i H' => Same H H' ∧ ∃ us, H' D = some (.lst (us.map V.ref)) ∧ RA H us (IR (stuckM (sts.take i))))
      ⟨same_new (Same.refl H) hD, [], upd_same, RA.nil⟩ (fun i H' _ ⟨s1, _⟩ => SqL.of (s1 _ _ st.at_p)) ?_ ?_⟩
    · rintro i y H' hi' ⟨s1, us, hD1, ra⟩
      obtain ⟨t, hj, rfl⟩ := map_get hi'
      have hil : i < ss.length := (List.getElem?_eq_some_iff.mp hj).1
      obtain ⟨P, o, u, v, h1, h2, _, h4, _, h6, _⟩ := st.st.at_ i t hj
      have hul : us.length ≤ i := by
        rw [ra.len]; unfold IR; rw [List.length_map]
        exact Nat.le_trans (stuck_len _) (by rw [List.length_take]; omega)
      refine ⟨t, _, rfl, SqT.of (s1 _ _ h2), rfl, _, _, rfl, _, _, rfl, rfl, rfl, _, rfl, _, rfl, ?_⟩
      cases o with
      | some l =>
        obtain ⟨w, x, y, rfl, _, _⟩ := h6
        refine iteDn (by simp) (iteF ⟨s1, us, hD1, ?_⟩)
        rw [stuck_take h1]
        simpa using ra
      | none =>
        have h6 : v = .non := h6
        subst h6
        refine iteD rfl ⟨_, rfl, u, _, rfl, .inl (SqL.of (s1 _ _ h4)), _, _, rfl, rfl, _, rfl, ite2 (fun hc => ?_) (fun hc => ?_)⟩
        · have c : 1 < P.length := by
            rw [NI_len] at hc
            have : (1 : Int) < P.length := by simpa using hc
            omega
          refine ⟨_, rfl, _, hD1, sz (by rw [List.length_map]; omega), same_old s1 hD, us ++ [u], by rw [upd_same]; simp, ?_⟩
          rw [stuck_take h1]
          have : (Option.isNone (none : Option (Nat × Int)) && decide (1 < P.length)) = true := by simp [c]
          rw [if_pos this, IR_append]
          exact ra.snoc (by rw [h4, NI_ints])
        · have c : ¬ 1 < P.length := by
            rw [NI_len] at hc
            have : ¬ (1 : Int) < P.length := by simpa using hc
            omega
          refine ⟨s1, us, hD1, ?_⟩
          rw [stuck_take h1]
          have : ¬ (Option.isNone (none : Option (Nat × Int)) && decide (1 < P.length)) = true := by simp [c]
          rw [if_neg this, List.append_nil]
          exact ra
    · rintro H' ⟨s1, us, hD1, ra⟩
      rw [List.length_map, st.st.len, List.take_length] at ra
      exact k H' D us s1 hD hD1 (ra.mono fun a _ o ho => s1 _ _ ho)
end Sq
end
section
set_option linter.all false
set_option Elab.async false
set_option maxRecDepth 100000
set_option maxHeartbeats 2000000
namespace Sq
open PySem PySem.Spec PyProof.Rows L2 Sm
/-! ## what is known of a good text's top -/
theorem small_of {rows : List (List Int)} (g : Good rows) {sp : Sps} (S : Spans (topOf rows) sp) : ∀ j, j < (topOf rows).count → ∀ d, d < 4 → -100 ≤ lo sp d j ∧ lo sp d j ≤ hi sp d j ∧ hi sp d j ≤ 100 := by
  intro j hj d hd
  have s := S.at_ j d hj hd
  obtain ⟨x, hx, ox, ex⟩ := s.exlo
  obtain ⟨y, hy, oy, ey⟩ := s.exhi
  have hw : (topOf rows).wide = wideOf rows := rfl
  have hh : (topOf rows).high = rows.length := rfl
  have rx := strip_range (D := topOf rows) (by rw [hw]; exact g.dm.w0) hx
  have ry := strip_range (D := topOf rows) (by rw [hw]; exact g.dm.w0) hy
  have h1 := (s.all x hx ox).2
  have w6 := g.dm.w6
  have h6 := g.dm.h6
  rw [hh] at rx ry
  rw [hw] at rx ry ex ey h1
  rw [ex] at h1
  have hdc : d = 0 ∨ d = 1 ∨ d = 2 ∨ d = 3 := by omega
  rcases hdc with e | e | e | e <;> subst e <;> omega
theorem topOk {rows : List (List Int)} (g : Good rows) {sp : Sps} (S : Spans (topOf rows) sp) : TopOk (topOf rows) sp := by
  have hw : (topOf rows).wide = wideOf rows := rfl
  have hh : (topOf rows).high = rows.length := rfl
  refine ⟨S, by rw [hw]; exact g.dm.w0, ?_, count_le g, by rw [hh]; exact g.dm.h6, small_of g S⟩
  have : 0 < (topOf rows).quarters := by
    show 0 < 4 * (wideOf rows * rows.length)
    have := Nat.mul_pos g.dm.w0 g.dm.h0
    omega
  have := fine_top g 0 this
  omega
theorem range_len {D : Patch.Top} (h : 0 < D.count) : 0 < (List.range D.count).length := by rw [List.length_range]; exact h
end Sq
end
section
set_option linter.all false
set_option Elab.async false
set_option maxRecDepth 100000
set_option maxHeartbeats 2000000
namespace Sq
open PySem PySem.Spec PyProof.Rows L2 Sm
/-! ## can -/
theorem can_eq (xs : List Int) : PyWqbabz.can xs = outA (Patch.ofTop (B xs) fun (D : Patch.Top) => Patch.tells [D.plan.isSome.toNat]) := rfl
def sp_can (K : PySem.W.Frag) : Sp := fun vs H Q _ => ∃ (a : Addr) (xs : List Int), vs = [.ref a] ∧ SqL K H a (xs.map V.int) ∧ xs.length ≤ 1100 ∧ Byt xs ∧
  ∀ (H' : Hp) (p : Addr), H' p = some (.lst ((PyWqbabz.can xs).map V.int)) → Q (.ref p) H'
theorem ok_can {P : Program} {w : World} {K : PySem.W.Frag} {mg : Str → Option Value} {base : Heap} {f : Addr} {fd : FuncData} (F : Fun K "can" "can" s_can f fd) (T : Txt mg) (F_refusal : Has P w K mg base 5 "refusal" ["text"] (sp_refusal K)) (F_read_spans : Has P w K mg base 5 "read_spans" ["text"] (sp_read_spans K)) (F_take_apart : Has P w K mg base 3 "take_apart" ["spans", "most"] (sp_take_apart K)) (F_stuck_pieces : Has P w K mg base 1 "stuck_pieces" ["steps"] (sp_stuck_pieces K)) : FnOk P w K mg base CX0 6 f fd ["text"] (sp_can K) := by
  have nd := sc_can.nd
  refine F.ok sc_can (fun vs H Q E h => ?_) (fun cdv A outer s H vs Q E hr h => ?_)
  · obtain ⟨a, xs, rfl, _⟩ := h
    rfl
  · obtain ⟨a, xs, rfl, hS, hlen, hb, k⟩ := h
    refine ⟨_, (pss_cons (ps_set (i := 1) nd rfl (by first | exact Or.inl rfl | exact Or.inr rfl) (pe_f F_refusal (hr.mono (by omega)) rfl (pa_cons (pv 0) pa_nil)))
        (pss_cons (ps_if (pt_cmpR op_ne (pv 1) pe_int (nomark _)) (pss_one (ps_ret (pe_lst (pa_cons (pv 1) pa_nil)))) pss_nil)
        (pss_cons (ps_set (i := 2) nd rfl (by first | exact Or.inl rfl | exact Or.inr rfl) (pe_f F_stuck_pieces (hr.mono (by omega)) rfl (pa_cons (pe_f F_take_apart (hr.mono (by omega)) rfl (pa_cons (pe_f F_read_spans (hr.mono (by omega)) rfl (pa_cons (pv 0) pa_nil)) (pa_cons pe_non pa_nil))) pa_nil)))
        (pss_one (ps_ret (pe_lst (pa_cons pe_int (pa_cons (pe_ifExp (pt_cmpR op_eq (pe_callB (lenK (K := K) rfl) (by rfl) T.b_len PySem.boot_len (pa_cons (pv 2) pa_nil)) pe_int (nomark _)) pe_int pe_int) pa_nil)))))))), ?_⟩
    have one : ∀ (H1 : Hp) (v : Int), PyWqbabz.can xs = [v] → (1 ≤ sizeLine ∧ ∀ p, H1 p = none → Q (.ref p) (upd H1 p (.lst [.int v]))) := fun H1 v e =>
      ⟨Nat.le_of_lt (sz (by omega)), fun p hp => k _ p (by rw [upd_same, e]; rfl)⟩
    refine ⟨_, rfl, a, xs, rfl, hS, hlen, fun H1 s1 => ?_⟩
    rcases refM_cases xs with ⟨c, e⟩ | ⟨c, c0, e⟩ | ⟨c, c0, e⟩
    · rw [e]
      refine ⟨_, rfl, rfl, _, rfl, iteT ⟨_, rfl, one H1 (-2) ?_⟩⟩
      rw [can_eq, ofTop_long _ c]; rfl
    · rw [e]
      refine ⟨_, rfl, rfl, _, rfl, iteT ⟨_, rfl, one H1 (-6) ?_⟩⟩
      rw [can_eq, ofTop_fault hb _ c c0]; rfl
    · rw [e]
      have el : PyWqbabz.can xs = outA (Patch.tells [(topOf (readRows xs)).plan.isSome.toNat]) := by
        rw [can_eq, ofTop_ok hb _ c c0]
      obtain ⟨g, _⟩ := good_of hb c0
      refine ⟨_, rfl, rfl, _, rfl, iteF ⟨_, rfl, a, xs, rfl, s1.seq hS, hlen, g, fun H2 p cs sp s2 sa S => ?_⟩⟩
      have tk := topOk g S
      refine ⟨p, cs, sp, topOf (readRows xs), rfl, sa, tk, fun H3 q ss s3 hq0 st hsl => ?_⟩
      have hpp := plan_pre S tk.w0 (Nat.le_trans tk.h6 (by decide)) _ _ (Nat.le_refl _) (range_len tk.c0) whole_piece 0
      generalize preP sp (pickF (topOf (readRows xs)) sp) 0 (List.range (topOf (readRows xs)).count) = sts at st hpp
      refine ⟨q, ss, sts, rfl, st, by omega, fun H4 r us s4 hr0 hr ra => ?_⟩
      rw [plan_whole (fine_top g)] at el
      have hlen2 : (us.map V.ref).length = (stuckM sts).length := by
        rw [List.length_map, ra.len]; unfold IR; rw [List.length_map]
      refine ⟨_, rfl, r, _, rfl, .inl (SqL.of hr), rfl, _, rfl, ?_⟩
      rw [hlen2]
      rcases hpp with ⟨e1, e2⟩ | ⟨t, e1, e2, _⟩
      · refine ite2 (fun h => ?_) (fun h => ?_)
        · exact absurd (List.eq_nil_of_length_eq_zero (by simpa using h)) e2
        · refine ⟨Nat.le_of_lt (sz (by show 2 ≤ _; omega)), fun u hu => k _ u ?_⟩
          rw [upd_same, el, e1]; rfl
      · rw [e2]
        refine iteT ⟨Nat.le_of_lt (sz (by show 2 ≤ _; omega)), fun u hu => k _ u ?_⟩
        rw [upd_same, el, e1]; rfl
end Sq
end
set_option linter.all false
set_option Elab.async false
set_option maxRecDepth 100000
set_option maxHeartbeats 4000000
namespace Sq
open PySem PySem.Spec PyProof.Rows L2 Sm
theorem all_mk {P : Program} {w : World} {K : PySem.W.Frag} {h : Heap} {mg : Str → Option Value} {fa f0 f1 f2 f3 f4 f5 f6 f7 f8 f9 f10 f11 f12 f13 f14 f15 f16 f17 f18 : Addr} (X : K.In h) (G : h.Ns mainGlobals mg) (hfa : mg "can" = some (.ref fa))
    {od0 an0 od1 an1 od2 an2 od3 an3 od4 an4 od5 an5 od6 an6 od7 an7 od8 an8 od9 an9 od10 an10 od11 an11 od12 an12 od13 an13 od14 an14 od15 an15 od16 an16 od17 an17 od18 an18 : Option Addr} {sl0 sl1 sl2 sl3 sl4 sl5 sl6 sl7 sl8 sl9 sl10 sl11 sl12 sl13 sl14 sl15 sl16 sl17 sl18 : Array (Option Value)} {oc0 kV0 dc0 pm0 cd0 ct0 oc1 kV1 dc1 pm1 cd1 ct1 oc2 kV2 dc2 pm2 cd2 ct2 oc3 kV3 dc3 pm3 cd3 ct3 oc4 kV4 dc4 pm4 cd4 ct4 oc5 kV5 dc5 pm5 cd5 ct5 oc6 kV6 dc6 pm6 cd6 ct6 oc7 kV7 dc7 pm7 cd7 ct7 oc8 kV8 dc8 pm8 cd8 ct8 oc9 kV9 dc9 pm9 cd9 ct9 oc10 kV10 dc10 pm10 cd10 ct10 oc11 kV11 dc11 pm11 cd11 ct11 oc12 kV12 dc12 pm12 cd12 ct12 oc13 kV13 dc13 pm13 cd13 ct13 oc14 kV14 dc14 pm14 cd14 ct14 oc15 kV15 dc15 pm15 cd15 ct15 oc16 kV16 dc16 pm16 cd16 ct16 oc17 kV17 dc17 pm17 cd17 ct17 oc18 kV18 dc18 pm18 cd18 ct18 : Value} {t_MOST_BYTES t_MOST_SQUARES t_ROW_END t_BLANK t_SLASH t_BACKSLASH t_TOO_LONG t_AT_FAULT t_UPPER t_RIGHT t_LOWER t_LEFT t_UPRIGHT t_LEVEL t_FALLING t_DIRECTIONS : Tok}
    (a0 : PySem.W.nsIn K mainGlobals "split_at" = some (some (.ref f0)))
    (l0 : K.lookup f0 = some ⟨oc0, od0, .func (PySem.W.fnOf "split_at" "split_at" (defArgs s_split_at) (defBody s_split_at) (defScope s_split_at) .none kV0 dc0 pm0 an0 cd0 ct0), sl0⟩)
    (c0 : PySem.W.codeIn K cd0 "split_at" = true) (k0 : PySem.W.keepIn K (.ref f0) = true)
    (a1 : PySem.W.nsIn K mainGlobals "is_letter" = some (some (.ref f1)))
    (l1 : K.lookup f1 = some ⟨oc1, od1, .func (PySem.W.fnOf "is_letter" "is_letter" (defArgs s_is_letter) (defBody s_is_letter) (defScope s_is_letter) .none kV1 dc1 pm1 an1 cd1 ct1), sl1⟩)
    (c1 : PySem.W.codeIn K cd1 "is_letter" = true) (k1 : PySem.W.keepIn K (.ref f1) = true)
    (a2 : PySem.W.nsIn K mainGlobals "spread_square" = some (some (.ref f2)))
    (l2 : K.lookup f2 = some ⟨oc2, od2, .func (PySem.W.fnOf "spread_square" "spread_square" (defArgs s_spread_square) (defBody s_spread_square) (defScope s_spread_square) .none kV2 dc2 pm2 an2 cd2 ct2), sl2⟩)
    (c2 : PySem.W.codeIn K cd2 "spread_square" = true) (k2 : PySem.W.keepIn K (.ref f2) = true)
    (a3 : PySem.W.nsIn K mainGlobals "read_square" = some (some (.ref f3)))
    (l3 : K.lookup f3 = some ⟨oc3, od3, .func (PySem.W.fnOf "read_square" "read_square" (defArgs s_read_square) (defBody s_read_square) (defScope s_read_square) .none kV3 dc3 pm3 an3 cd3 ct3), sl3⟩)
    (c3 : PySem.W.codeIn K cd3 "read_square" = true) (k3 : PySem.W.keepIn K (.ref f3) = true)
    (a4 : PySem.W.nsIn K mainGlobals "read_row" = some (some (.ref f4)))
    (l4 : K.lookup f4 = some ⟨oc4, od4, .func (PySem.W.fnOf "read_row" "read_row" (defArgs s_read_row) (defBody s_read_row) (defScope s_read_row) .none kV4 dc4 pm4 an4 cd4 ct4), sl4⟩)
    (c4 : PySem.W.codeIn K cd4 "read_row" = true) (k4 : PySem.W.keepIn K (.ref f4) = true)
    (a5 : PySem.W.nsIn K mainGlobals "read_rows" = some (some (.ref f5)))
    (l5 : K.lookup f5 = some ⟨oc5, od5, .func (PySem.W.fnOf "read_rows" "read_rows" (defArgs s_read_rows) (defBody s_read_rows) (defScope s_read_rows) .none kV5 dc5 pm5 an5 cd5 ct5), sl5⟩)
    (c5 : PySem.W.codeIn K cd5 "read_rows" = true) (k5 : PySem.W.keepIn K (.ref f5) = true)
    (a6 : PySem.W.nsIn K mainGlobals "refusal" = some (some (.ref f6)))
    (l6 : K.lookup f6 = some ⟨oc6, od6, .func (PySem.W.fnOf "refusal" "refusal" (defArgs s_refusal) (defBody s_refusal) (defScope s_refusal) .none kV6 dc6 pm6 an6 cd6 ct6), sl6⟩)
    (c6 : PySem.W.codeIn K cd6 "refusal" = true) (k6 : PySem.W.keepIn K (.ref f6) = true)
    (a7 : PySem.W.nsIn K mainGlobals "side_by_side" = some (some (.ref f7)))
    (l7 : K.lookup f7 = some ⟨oc7, od7, .func (PySem.W.fnOf "side_by_side" "side_by_side" (defArgs s_side_by_side) (defBody s_side_by_side) (defScope s_side_by_side) .none kV7 dc7 pm7 an7 cd7 ct7), sl7⟩)
    (c7 : PySem.W.codeIn K cd7 "side_by_side" = true) (k7 : PySem.W.keepIn K (.ref f7) = true)
    (a8 : PySem.W.nsIn K mainGlobals "patch_around" = some (some (.ref f8)))
    (l8 : K.lookup f8 = some ⟨oc8, od8, .func (PySem.W.fnOf "patch_around" "patch_around" (defArgs s_patch_around) (defBody s_patch_around) (defScope s_patch_around) .none kV8 dc8 pm8 an8 cd8 ct8), sl8⟩)
    (c8 : PySem.W.codeIn K cd8 "patch_around" = true) (k8 : PySem.W.keepIn K (.ref f8) = true)
    (a9 : PySem.W.nsIn K mainGlobals "find_patches" = some (some (.ref f9)))
    (l9 : K.lookup f9 = some ⟨oc9, od9, .func (PySem.W.fnOf "find_patches" "find_patches" (defArgs s_find_patches) (defBody s_find_patches) (defScope s_find_patches) .none kV9 dc9 pm9 an9 cd9 ct9), sl9⟩)
    (c9 : PySem.W.codeIn K cd9 "find_patches" = true) (k9 : PySem.W.keepIn K (.ref f9) = true)
    (a10 : PySem.W.nsIn K mainGlobals "strip_of" = some (some (.ref f10)))
    (l10 : K.lookup f10 = some ⟨oc10, od10, .func (PySem.W.fnOf "strip_of" "strip_of" (defArgs s_strip_of) (defBody s_strip_of) (defScope s_strip_of) .none kV10 dc10 pm10 an10 cd10 ct10), sl10⟩)
    (c10 : PySem.W.codeIn K cd10 "strip_of" = true) (k10 : PySem.W.keepIn K (.ref f10) = true)
    (a11 : PySem.W.nsIn K mainGlobals "spans_of_patch" = some (some (.ref f11)))
    (l11 : K.lookup f11 = some ⟨oc11, od11, .func (PySem.W.fnOf "spans_of_patch" "spans_of_patch" (defArgs s_spans_of_patch) (defBody s_spans_of_patch) (defScope s_spans_of_patch) .none kV11 dc11 pm11 an11 cd11 ct11), sl11⟩)
    (c11 : PySem.W.codeIn K cd11 "spans_of_patch" = true) (k11 : PySem.W.keepIn K (.ref f11) = true)
    (a12 : PySem.W.nsIn K mainGlobals "read_spans" = some (some (.ref f12)))
    (l12 : K.lookup f12 = some ⟨oc12, od12, .func (PySem.W.fnOf "read_spans" "read_spans" (defArgs s_read_spans) (defBody s_read_spans) (defScope s_read_spans) .none kV12 dc12 pm12 an12 cd12 ct12), sl12⟩)
    (c12 : PySem.W.codeIn K cd12 "read_spans" = true) (k12 : PySem.W.keepIn K (.ref f12) = true)
    (a13 : PySem.W.nsIn K mainGlobals "whole_top" = some (some (.ref f13)))
    (l13 : K.lookup f13 = some ⟨oc13, od13, .func (PySem.W.fnOf "whole_top" "whole_top" (defArgs s_whole_top) (defBody s_whole_top) (defScope s_whole_top) .none kV13 dc13 pm13 an13 cd13 ct13), sl13⟩)
    (c13 : PySem.W.codeIn K cd13 "whole_top" = true) (k13 : PySem.W.keepIn K (.ref f13) = true)
    (a14 : PySem.W.nsIn K mainGlobals "both_sides" = some (some (.ref f14)))
    (l14 : K.lookup f14 = some ⟨oc14, od14, .func (PySem.W.fnOf "both_sides" "both_sides" (defArgs s_both_sides) (defBody s_both_sides) (defScope s_both_sides) .none kV14 dc14 pm14 an14 cd14 ct14), sl14⟩)
    (c14 : PySem.W.codeIn K cd14 "both_sides" = true) (k14 : PySem.W.keepIn K (.ref f14) = true)
    (a15 : PySem.W.nsIn K mainGlobals "partings" = some (some (.ref f15)))
    (l15 : K.lookup f15 = some ⟨oc15, od15, .func (PySem.W.fnOf "partings" "partings" (defArgs s_partings) (defBody s_partings) (defScope s_partings) .none kV15 dc15 pm15 an15 cd15 ct15), sl15⟩)
    (c15 : PySem.W.codeIn K cd15 "partings" = true) (k15 : PySem.W.keepIn K (.ref f15) = true)
    (a16 : PySem.W.nsIn K mainGlobals "take_apart" = some (some (.ref f16)))
    (l16 : K.lookup f16 = some ⟨oc16, od16, .func (PySem.W.fnOf "take_apart" "take_apart" (defArgs s_take_apart) (defBody s_take_apart) (defScope s_take_apart) .none kV16 dc16 pm16 an16 cd16 ct16), sl16⟩)
    (c16 : PySem.W.codeIn K cd16 "take_apart" = true) (k16 : PySem.W.keepIn K (.ref f16) = true)
    (a17 : PySem.W.nsIn K mainGlobals "stuck_pieces" = some (some (.ref f17)))
    (l17 : K.lookup f17 = some ⟨oc17, od17, .func (PySem.W.fnOf "stuck_pieces" "stuck_pieces" (defArgs s_stuck_pieces) (defBody s_stuck_pieces) (defScope s_stuck_pieces) .none kV17 dc17 pm17 an17 cd17 ct17), sl17⟩)
    (c17 : PySem.W.codeIn K cd17 "stuck_pieces" = true) (k17 : PySem.W.keepIn K (.ref f17) = true)
    (a18 : PySem.W.nsIn K mainGlobals "can" = some (some (.ref f18)))
    (l18 : K.lookup f18 = some ⟨oc18, od18, .func (PySem.W.fnOf "can" "can" (defArgs s_can) (defBody s_can) (defScope s_can) .none kV18 dc18 pm18 an18 cd18 ct18), sl18⟩)
    (c18 : PySem.W.codeIn K cd18 "can" = true) (k18 : PySem.W.keepIn K (.ref f18) = true)
    (b_all : PySem.W.nsIn K mainGlobals "all" = some none)
    (b_any : PySem.W.nsIn K mainGlobals "any" = some none)
    (b_len : PySem.W.nsIn K mainGlobals "len" = some none)
    (b_list : PySem.W.nsIn K mainGlobals "list" = some none)
    (b_max : PySem.W.nsIn K mainGlobals "max" = some none)
    (b_min : PySem.W.nsIn K mainGlobals "min" = some none)
    (b_range : PySem.W.nsIn K mainGlobals "range" = some none)
    (b_tuple : PySem.W.nsIn K mainGlobals "tuple" = some none)
    (g_MOST_BYTES : PySem.W.nsIn K mainGlobals "MOST_BYTES" = some (some (.int (1024) t_MOST_BYTES)))
    (g_MOST_SQUARES : PySem.W.nsIn K mainGlobals "MOST_SQUARES" = some (some (.int (6) t_MOST_SQUARES)))
    (g_ROW_END : PySem.W.nsIn K mainGlobals "ROW_END" = some (some (.int (10) t_ROW_END)))
    (g_BLANK : PySem.W.nsIn K mainGlobals "BLANK" = some (some (.int (32) t_BLANK)))
    (g_SLASH : PySem.W.nsIn K mainGlobals "SLASH" = some (some (.int (47) t_SLASH)))
    (g_BACKSLASH : PySem.W.nsIn K mainGlobals "BACKSLASH" = some (some (.int (92) t_BACKSLASH)))
    (g_TOO_LONG : PySem.W.nsIn K mainGlobals "TOO_LONG" = some (some (.int (-2) t_TOO_LONG)))
    (g_AT_FAULT : PySem.W.nsIn K mainGlobals "AT_FAULT" = some (some (.int (-6) t_AT_FAULT)))
    (g_UPPER : PySem.W.nsIn K mainGlobals "UPPER" = some (some (.int (0) t_UPPER)))
    (g_RIGHT : PySem.W.nsIn K mainGlobals "RIGHT" = some (some (.int (1) t_RIGHT)))
    (g_LOWER : PySem.W.nsIn K mainGlobals "LOWER" = some (some (.int (2) t_LOWER)))
    (g_LEFT : PySem.W.nsIn K mainGlobals "LEFT" = some (some (.int (3) t_LEFT)))
    (g_UPRIGHT : PySem.W.nsIn K mainGlobals "UPRIGHT" = some (some (.int (0) t_UPRIGHT)))
    (g_LEVEL : PySem.W.nsIn K mainGlobals "LEVEL" = some (some (.int (1) t_LEVEL)))
    (g_FALLING : PySem.W.nsIn K mainGlobals "FALLING" = some (some (.int (2) t_FALLING)))
    (g_DIRECTIONS : PySem.W.nsIn K mainGlobals "DIRECTIONS" = some (some (.int (4) t_DIRECTIONS)))
    : ∃ fd : FuncData, (∀ (s : Shared) (us : List Value), us.length = (["text"] : List Str).length → BindsTo s fd ⟨us, []⟩ ((["text"] : List Str).zip us)) ∧ ∀ base : Heap, K.In base → base.Ns mainGlobals mg → FnOk P w K mg base CX0 6 fa fd ["text"] (sp_can K) := by
  have e := hfa.symm.trans (PySem.W.mg_of X G a18)
  cases e
  have T : Txt mg := ⟨PySem.W.mg_none_of X G b_all, PySem.W.mg_none_of X G b_any, PySem.W.mg_none_of X G b_len, PySem.W.mg_none_of X G b_list, PySem.W.mg_none_of X G b_max, PySem.W.mg_none_of X G b_min, PySem.W.mg_none_of X G b_range, PySem.W.mg_none_of X G b_tuple, ⟨_, PySem.W.mg_of X G g_MOST_BYTES⟩, ⟨_, PySem.W.mg_of X G g_MOST_SQUARES⟩, ⟨_, PySem.W.mg_of X G g_ROW_END⟩, ⟨_, PySem.W.mg_of X G g_BLANK⟩, ⟨_, PySem.W.mg_of X G g_SLASH⟩, ⟨_, PySem.W.mg_of X G g_BACKSLASH⟩, ⟨_, PySem.W.mg_of X G g_TOO_LONG⟩, ⟨_, PySem.W.mg_of X G g_AT_FAULT⟩, ⟨_, PySem.W.mg_of X G g_UPPER⟩, ⟨_, PySem.W.mg_of X G g_RIGHT⟩, ⟨_, PySem.W.mg_of X G g_LOWER⟩, ⟨_, PySem.W.mg_of X G g_LEFT⟩, ⟨_, PySem.W.mg_of X G g_UPRIGHT⟩, ⟨_, PySem.W.mg_of X G g_LEVEL⟩, ⟨_, PySem.W.mg_of X G g_FALLING⟩, ⟨_, PySem.W.mg_of X G g_DIRECTIONS⟩⟩
  have F0 := fun_mk (st := s_split_at) l0 c0 k0
  have F1 := fun_mk (st := s_is_letter) l1 c1 k1
  have F2 := fun_mk (st := s_spread_square) l2 c2 k2
  have F3 := fun_mk (st := s_read_square) l3 c3 k3
  have F4 := fun_mk (st := s_read_row) l4 c4 k4
  have F5 := fun_mk (st := s_read_rows) l5 c5 k5
  have F6 := fun_mk (st := s_refusal) l6 c6 k6
  have F7 := fun_mk (st := s_side_by_side) l7 c7 k7
  have F8 := fun_mk (st := s_patch_around) l8 c8 k8
  have F9 := fun_mk (st := s_find_patches) l9 c9 k9
  have F10 := fun_mk (st := s_strip_of) l10 c10 k10
  have F11 := fun_mk (st := s_spans_of_patch) l11 c11 k11
  have F12 := fun_mk (st := s_read_spans) l12 c12 k12
  have F13 := fun_mk (st := s_whole_top) l13 c13 k13
  have F14 := fun_mk (st := s_both_sides) l14 c14 k14
  have F15 := fun_mk (st := s_partings) l15 c15 k15
  have F16 := fun_mk (st := s_take_apart) l16 c16 k16
  have F17 := fun_mk (st := s_stuck_pieces) l17 c17 k17
  have F18 := fun_mk (st := s_can) l18 c18 k18
  have b0 := F0.binds (ps := ["numbers", "mark"]) fun _ _ _ _ _ _ us hl => match us, hl with | [_, _], _ => rfl
  have b1 := F1.binds (ps := ["number"]) fun _ _ _ _ _ _ us hl => match us, hl with | [_], _ => rfl
  have b2 := F2.binds (ps := ["square"]) fun _ _ _ _ _ _ us hl => match us, hl with | [_], _ => rfl
  have b3 := F3.binds (ps := ["square"]) fun _ _ _ _ _ _ us hl => match us, hl with | [_], _ => rfl
  have b4 := F4.binds (ps := ["row"]) fun _ _ _ _ _ _ us hl => match us, hl with | [_], _ => rfl
  have b5 := F5.binds (ps := ["text"]) fun _ _ _ _ _ _ us hl => match us, hl with | [_], _ => rfl
  have b6 := F6.binds (ps := ["text"]) fun _ _ _ _ _ _ us hl => match us, hl with | [_], _ => rfl
  have b7 := F7.binds (ps := ["quarter", "wide", "count"]) fun _ _ _ _ _ _ us hl => match us, hl with | [_, _, _], _ => rfl
  have b8 := F8.binds (ps := ["start", "letters", "wide"]) fun _ _ _ _ _ _ us hl => match us, hl with | [_, _, _], _ => rfl
  have b9 := F9.binds (ps := ["letters", "wide"]) fun _ _ _ _ _ _ us hl => match us, hl with | [_, _], _ => rfl
  have b10 := F10.binds (ps := ["quarter", "direction", "wide"]) fun _ _ _ _ _ _ us hl => match us, hl with | [_, _, _], _ => rfl
  have b11 := F11.binds (ps := ["patch", "wide"]) fun _ _ _ _ _ _ us hl => match us, hl with | [_, _], _ => rfl
  have b12 := F12.binds (ps := ["text"]) fun _ _ _ _ _ _ us hl => match us, hl with | [_], _ => rfl
  have b13 := F13.binds (ps := ["spans"]) fun _ _ _ _ _ _ us hl => match us, hl with | [_], _ => rfl
  have b14 := F14.binds (ps := ["spans", "piece", "direction", "at"]) fun _ _ _ _ _ _ us hl => match us, hl with | [_, _, _, _], _ => rfl
  have b15 := F15.binds (ps := ["spans", "piece"]) fun _ _ _ _ _ _ us hl => match us, hl with | [_, _], _ => rfl
  have b16 := F16.binds (ps := ["spans", "most"]) fun _ _ _ _ _ _ us hl => match us, hl with | [_, _], _ => rfl
  have b17 := F17.binds (ps := ["steps"]) fun _ _ _ _ _ _ us hl => match us, hl with | [_], _ => rfl
  refine ⟨PySem.W.fnOf "can" "can" (defArgs s_can) (defBody s_can) (defScope s_can) .none kV18 dc18 pm18 an18 cd18 ct18, fun s us hu => match us, hu with | [_], _ => .of_eq rfl, fun base _ _ => ?_⟩
  have H0 : Has P w K mg base 1 "split_at" ["numbers", "mark"] (sp_split_at K) := ⟨_, _, ok_split_at F0 T , PySem.W.mg_of X G a0, k0, b0⟩
  have H1 : Has P w K mg base 1 "is_letter" ["number"] (sp_is_letter K) := ⟨_, _, ok_is_letter F1 T , PySem.W.mg_of X G a1, k1, b1⟩
  have H2 : Has P w K mg base 1 "spread_square" ["square"] (sp_spread_square K) := ⟨_, _, ok_spread_square F2 T , PySem.W.mg_of X G a2, k2, b2⟩
  have H3 : Has P w K mg base 2 "read_square" ["square"] (sp_read_square K) := ⟨_, _, ok_read_square F3 T H1 H2, PySem.W.mg_of X G a3, k3, b3⟩
  have H4 : Has P w K mg base 3 "read_row" ["row"] (sp_read_row K) := ⟨_, _, ok_read_row F4 T H0 H3, PySem.W.mg_of X G a4, k4, b4⟩
  have H5 : Has P w K mg base 4 "read_rows" ["text"] (sp_read_rows K) := ⟨_, _, ok_read_rows F5 T H0 H4, PySem.W.mg_of X G a5, k5, b5⟩
  have H6 : Has P w K mg base 5 "refusal" ["text"] (sp_refusal K) := ⟨_, _, ok_refusal F6 T H5, PySem.W.mg_of X G a6, k6, b6⟩
  have H7 : Has P w K mg base 1 "side_by_side" ["quarter", "wide", "count"] (sp_side_by_side K) := ⟨_, _, ok_side_by_side F7 T , PySem.W.mg_of X G a7, k7, b7⟩
  have H8 : Has P w K mg base 2 "patch_around" ["start", "letters", "wide"] (sp_patch_around K) := ⟨_, _, ok_patch_around F8 T H7, PySem.W.mg_of X G a8, k8, b8⟩
  have H9 : Has P w K mg base 3 "find_patches" ["letters", "wide"] (sp_find_patches K) := ⟨_, _, ok_find_patches F9 T H8, PySem.W.mg_of X G a9, k9, b9⟩
  have H10 : Has P w K mg base 1 "strip_of" ["quarter", "direction", "wide"] (sp_strip_of K) := ⟨_, _, ok_strip_of F10 T , PySem.W.mg_of X G a10, k10, b10⟩
  have H11 : Has P w K mg base 2 "spans_of_patch" ["patch", "wide"] (sp_spans_of_patch K) := ⟨_, _, ok_spans_of_patch F11 T H10, PySem.W.mg_of X G a11, k11, b11⟩
  have H12 : Has P w K mg base 5 "read_spans" ["text"] (sp_read_spans K) := ⟨_, _, ok_read_spans F12 T H5 H9 H11, PySem.W.mg_of X G a12, k12, b12⟩
  have H13 : Has P w K mg base 1 "whole_top" ["spans"] (sp_whole_top K) := ⟨_, _, ok_whole_top F13 T , PySem.W.mg_of X G a13, k13, b13⟩
  have H14 : Has P w K mg base 1 "both_sides" ["spans", "piece", "direction", "at"] (sp_both_sides K) := ⟨_, _, ok_both_sides F14 T , PySem.W.mg_of X G a14, k14, b14⟩
  have H15 : Has P w K mg base 2 "partings" ["spans", "piece"] (sp_partings K) := ⟨_, _, ok_partings F15 T H14, PySem.W.mg_of X G a15, k15, b15⟩
  have H16 : Has P w K mg base 3 "take_apart" ["spans", "most"] (sp_take_apart K) := ⟨_, _, ok_take_apart F16 T H13 H15, PySem.W.mg_of X G a16, k16, b16⟩
  have H17 : Has P w K mg base 1 "stuck_pieces" ["steps"] (sp_stuck_pieces K) := ⟨_, _, ok_stuck_pieces F17 T , PySem.W.mg_of X G a17, k17, b17⟩
  exact ok_can F18 T H6 H12 H16 H17
end Sq
open PySem PySem.W PyProof.Rows
set_option maxRecDepth 100000 in
set_option maxHeartbeats 0 in
theorem PySem.Challenge.cw_straightseamsdesk_s01_can_holds : PySem.Challenge.rw_straightseamsdesk_s01_can.Holds := by
  w_on; k_headS; (case hw => exact ⟨[.list []], by decide +kernel, by decide +kernel⟩)
  k_fillS
  refine L2.walk_specK (r := PySem.Challenge.rw_straightseamsdesk_s01_can) (k := 6) (CX := L2.CX0) (ps := ["text"]) (sp := Sq.sp_can) (by decide +kernel) rfl rfl ⟨rfl, by decide, by decide⟩ (fun w h Y => PySem.W.kIn_of Y) ?F ?S (fun _ _ _ _ z => z)
  case F =>
    intro w mg fa h Y KX G hmg
    refine' Sq.all_mk KX G hmg ?a0 ?l0 ?c0 ?k0 ?a1 ?l1 ?c1 ?k1 ?a2 ?l2 ?c2 ?k2 ?a3 ?l3 ?c3 ?k3 ?a4 ?l4 ?c4 ?k4 ?a5 ?l5 ?c5 ?k5 ?a6 ?l6 ?c6 ?k6 ?a7 ?l7 ?c7 ?k7 ?a8 ?l8 ?c8 ?k8 ?a9 ?l9 ?c9 ?k9 ?a10 ?l10 ?c10 ?k10 ?a11 ?l11 ?c11 ?k11 ?a12 ?l12 ?c12 ?k12 ?a13 ?l13 ?c13 ?k13 ?a14 ?l14 ?c14 ?k14 ?a15 ?l15 ?c15 ?k15 ?a16 ?l16 ?c16 ?k16 ?a17 ?l17 ?c17 ?k17 ?a18 ?l18 ?c18 ?k18 ?b_all ?b_any ?b_len ?b_list ?b_max ?b_min ?b_range ?b_tuple ?g_MOST_BYTES ?g_MOST_SQUARES ?g_ROW_END ?g_BLANK ?g_SLASH ?g_BACKSLASH ?g_TOO_LONG ?g_AT_FAULT ?g_UPPER ?g_RIGHT ?g_LOWER ?g_LEFT ?g_UPRIGHT ?g_LEVEL ?g_FALLING ?g_DIRECTIONS
    (case a0 => k_is)
    (case l0 => k_is)
    (case c0 => k_is)
    (case k0 => k_is)
    (case a1 => k_is)
    (case l1 => k_is)
    (case c1 => k_is)
    (case k1 => k_is)
    (case a2 => k_is)
    (case l2 => k_is)
    (case c2 => k_is)
    (case k2 => k_is)
    (case a3 => k_is)
    (case l3 => k_is)
    (case c3 => k_is)
    (case k3 => k_is)
    (case a4 => k_is)
    (case l4 => k_is)
    (case c4 => k_is)
    (case k4 => k_is)
    (case a5 => k_is)
    (case l5 => k_is)
    (case c5 => k_is)
    (case k5 => k_is)
    (case a6 => k_is)
    (case l6 => k_is)
    (case c6 => k_is)
    (case k6 => k_is)
    (case a7 => k_is)
    (case l7 => k_is)
    (case c7 => k_is)
    (case k7 => k_is)
    (case a8 => k_is)
    (case l8 => k_is)
    (case c8 => k_is)
    (case k8 => k_is)
    (case a9 => k_is)
    (case l9 => k_is)
    (case c9 => k_is)
    (case k9 => k_is)
    (case a10 => k_is)
    (case l10 => k_is)
    (case c10 => k_is)
    (case k10 => k_is)
    (case a11 => k_is)
    (case l11 => k_is)
    (case c11 => k_is)
    (case k11 => k_is)
    (case a12 => k_is)
    (case l12 => k_is)
    (case c12 => k_is)
    (case k12 => k_is)
    (case a13 => k_is)
    (case l13 => k_is)
    (case c13 => k_is)
    (case k13 => k_is)
    (case a14 => k_is)
    (case l14 => k_is)
    (case c14 => k_is)
    (case k14 => k_is)
    (case a15 => k_is)
    (case l15 => k_is)
    (case c15 => k_is)
    (case k15 => k_is)
    (case a16 => k_is)
    (case l16 => k_is)
    (case c16 => k_is)
    (case k16 => k_is)
    (case a17 => k_is)
    (case l17 => k_is)
    (case c17 => k_is)
    (case k17 => k_is)
    (case a18 => k_is)
    (case l18 => k_is)
    (case c18 => k_is)
    (case k18 => k_is)
    (case b_all => k_is)
    (case b_any => k_is)
    (case b_len => k_is)
    (case b_list => k_is)
    (case b_max => k_is)
    (case b_min => k_is)
    (case b_range => k_is)
    (case b_tuple => k_is)
    (case g_MOST_BYTES => k_is)
    (case g_MOST_SQUARES => k_is)
    (case g_ROW_END => k_is)
    (case g_BLANK => k_is)
    (case g_SLASH => k_is)
    (case g_BACKSLASH => k_is)
    (case g_TOO_LONG => k_is)
    (case g_AT_FAULT => k_is)
    (case g_UPPER => k_is)
    (case g_RIGHT => k_is)
    (case g_LOWER => k_is)
    (case g_LEFT => k_is)
    (case g_UPRIGHT => k_is)
    (case g_LEVEL => k_is)
    (case g_FALLING => k_is)
    (case g_DIRECTIONS => k_is)
  case S =>
    intro K H xs a hO hwi hask hx
    cases hx with
    | cons h1 h2 =>
      cases h2
      cases h1 with
      | lst hs ha =>
        have e := L2.ints_dw a.1 _ ha
        subst e
        have q : ((Codec.inLen 0 1100 a.1 && a.1.all (Codec.inInt 0 255)) && true) = true := hwi
        simp only [Bool.and_eq_true] at q
        obtain ⟨⟨q3, q4⟩, _⟩ := q
        exact ⟨_, a.1, rfl, hs, (Codec.inNat_iff.mp q3).2, fun x hx => Codec.inInt_iff.mp (List.all_eq_true.mp q4 x hx), fun H' p hp => .lst (L2.SqL.of hp) (L2.dw_ints _)⟩
#print axioms PySem.Challenge.cw_straightseamsdesk_s01_can_holds
