import PyProof.Rows.All
import Wide.All
import OpenK.AllK
import Wide.FinOn
import PyProof.EqAt
import PyProof.EqKinds
import PyProof.TupleCall
import KE.BitLaws
import PyProof.Rows.SortShellAny
import KE.KDictSum
import KE.KIsAll
import PyProof.RulesTry
import PySem.Challenge.RW_turnfork_k30_beside_and_behind
set_option Elab.async false
set_option linter.all false
set_option maxRecDepth 100000
namespace L2
open PySem PySem.Spec PyProof.Rows
/-- a key: an int or a str -/
abbrev Key := Sum Int Str
def keyIs : Key → Value → Bool
  | .inl k, v => Value.isInt k v
  | .inr x, v => Value.isStrOf x v
def keyH (w : World) : Key → Int
  | .inl k => hashInt k
  | .inr x => hashStr w x
theorem keyIs_shape : ∀ {k : Key} {v : Value}, keyIs k v = true → (∃ i t, k = Sum.inl i ∧ v = Value.int i t) ∨ (∃ x t, k = Sum.inr x ∧ v = Value.str x t)
  | .inl i, v, h => by
    obtain ⟨t, e⟩ := Value.isInt_shape (k := i) (v := v) h
    exact .inl ⟨i, t, rfl, e⟩
  | .inr x, v, h => by
    obtain ⟨t, e⟩ := Value.isStrOf_shape (x := x) (v := v) h
    exact .inr ⟨x, t, rfl, e⟩
theorem keyIs_int (i : Int) (t : Tok) : keyIs (.inl i) (.int i t) = true := by simp [keyIs, Value.isInt]
theorem keyIs_str (x : Str) (t : Tok) : keyIs (.inr x) (.str x t) = true := by simp [keyIs, Value.isStrOf]
theorem key_ll (a b : Int) : decide ((Sum.inl a : Key) = Sum.inl b) = (a == b) := by
  by_cases e : a = b
  · subst e; simp
  · have h : ¬ (Sum.inl a : Key) = Sum.inl b := fun q => e (Sum.inl.inj q)
    rw [decide_eq_false h]
    exact (beq_eq_false_iff_ne.mpr e).symm
theorem key_rr (a b : Str) : decide ((Sum.inr a : Key) = Sum.inr b) = decide (a = b) := by
  by_cases e : a = b
  · subst e; simp
  · have h : ¬ (Sum.inr a : Key) = Sum.inr b := fun q => e (Sum.inr.inj q)
    rw [decide_eq_false h, decide_eq_false e]
theorem key_lr (a : Int) (b : Str) : decide ((Sum.inl a : Key) = Sum.inr b) = false := decide_eq_false (fun q => nomatch q)
theorem key_rl (a : Str) (b : Int) : decide ((Sum.inr a : Key) = Sum.inl b) = false := decide_eq_false (fun q => nomatch q)
def mixKind (prog : Program) (w : World) : PySem.KeyKind prog w Key where
  is := keyIs
  hash := keyH w
  inj := fun v a b ha hb => by
    rcases keyIs_shape ha with ⟨i, t, rfl, rfl⟩ | ⟨x, t, rfl, rfl⟩
    · rcases keyIs_shape hb with ⟨j, u, rfl, e⟩ | ⟨y, u, rfl, e⟩
      · injection e with e1 _; rw [e1]
      · exact nomatch e
    · rcases keyIs_shape hb with ⟨j, u, rfl, e⟩ | ⟨y, u, rfl, e⟩
      · exact nomatch e
      · injection e with e1 _; rw [e1]
  byValue := fun k v h => by
    rcases keyIs_shape h with ⟨i, t, rfl, rfl⟩ | ⟨x, t, rfl, rfl⟩ <;> rfl
  pyHash := fun hv h => by
    rcases keyIs_shape hv with ⟨i, t, rfl, rfl⟩ | ⟨x, t, rfl, rfl⟩
    · exact wpAny_pyHash_int h
    · exact wpAny_pyHash_str h
  eqBool := fun hu hv h => by
    rcases keyIs_shape hu with ⟨i, t, rfl, rfl⟩ | ⟨x, t, rfl, rfl⟩
    · rcases keyIs_shape hv with ⟨j, u, rfl, rfl⟩ | ⟨y, u, rfl, rfl⟩
      · rw [key_ll] at h; exact wpAny_eqBool_int h
      · rw [key_lr] at h; exact SeqAt.EqAt.int_str i t y u _ _ _ _ h
    · rcases keyIs_shape hv with ⟨j, u, rfl, rfl⟩ | ⟨y, u, rfl, rfl⟩
      · rw [key_rl] at h; exact SeqAt.EqAt.str_int x t j u _ _ _ _ h
      · rw [key_rr] at h; exact wpAny_eqBool_str h
  «strs» := fun k x t v h => by
    rcases keyIs_shape h with ⟨i, u, rfl, e⟩ | ⟨y, u, rfl, e⟩
    · exact nomatch e
    · injection e with e1 _
      subst e1
      cases v <;> rfl
theorem mixKind_int (prog : Program) (w : World) (i : Int) (t : Tok) : (mixKind prog w).is (.inl i) (.int i t) = true := keyIs_int i t
theorem mixKind_str (prog : Program) (w : World) (x : Str) (t : Tok) : (mixKind prog w).is (.inr x) (.str x t) = true := keyIs_str x t
end L2
namespace L2
open PySem PySem.Spec PyProof.Rows
/-- a value, without the heap -/
inductive V where
  | non | bl (b : Bool) | int (i : Int) | str (x : Str) | byt (b : Array UInt8) | flt (b : UInt64) | ref (a : Addr) | ty (n : String)
  deriving DecidableEq
def RelV : V → Value → Prop
  | .non, u => u = Value.none
  | .bl b, u => u = Value.bool b
  | .int i, u => ∃ t, u = Value.int i t
  | .str x, u => ∃ t, u = Value.str x t
  | .byt b, u => ∃ t, u = Value.bytes b t
  | .flt b, u => ∃ t, u = Value.float b t
  | .ref a, u => u = Value.ref a
  | .ty n, u => u = Value.type n
abbrev Vals : List V → List Value → Prop := Paired RelV
theorem Vals.length {xs : List V} {us : List Value} (r : Vals xs us) : xs.length = us.length := Paired.length r
theorem Vals.get : ∀ {xs : List V} {us : List Value} {i : Nat} {x : V}, Vals xs us → xs[i]? = some x → ∃ u, us[i]? = some u ∧ RelV x u
  | _, _, _, _, .nil, e => by simp at e
  | _, _, 0, _, .cons r _, e => by simp at e; subst e; exact ⟨_, rfl, r⟩
  | _, _, i + 1, x, .cons _ t, e => by
    obtain ⟨u, h1, h2⟩ := Vals.get (i := i) (x := x) t (by simpa using e)
    exact ⟨u, by simpa using h1, h2⟩
theorem Vals.set {x : V} {u : Value} (r : RelV x u) : ∀ {xs : List V} {us : List Value} (i : Nat), Vals xs us → Vals (xs.set i x) (us.set i u)
  | _, _, _, .nil => .nil
  | _, _, 0, .cons _ t => .cons r t
  | _, _, i + 1, .cons q t => .cons q (Vals.set r i t)
theorem Vals.append : ∀ {xs ys : List V} {us ws : List Value}, Vals xs us → Vals ys ws → Vals (xs ++ ys) (us ++ ws)
  | _, _, _, _, .nil, s => s
  | _, _, _, _, .cons r t, s => .cons r (Vals.append t s)
theorem Vals.take : ∀ {xs : List V} {us : List Value} (n : Nat), Vals xs us → Vals (xs.take n) (us.take n)
  | _, _, 0, _ => .nil
  | _, _, _ + 1, .nil => .nil
  | _, _, n + 1, .cons r t => .cons r (Vals.take n t)
theorem Vals.drop : ∀ {xs : List V} {us : List Value} (n : Nat), Vals xs us → Vals (xs.drop n) (us.drop n)
  | _, _, 0, r => r
  | _, _, _ + 1, .nil => .nil
  | _, _, n + 1, .cons _ t => Vals.drop n t
def RelO : Option V → Option Value → Prop
  | some v, some u => RelV v u
  | none, none => True
  | _, _ => False
def KV {κ : Type} : List (κ × V) → List (κ × Value) → Prop := Paired fun (p : κ × V) (q : κ × Value) => p.1 = q.1 ∧ RelV p.2 q.2
/-- a key of a dict (00_mix): an int or a text -/
def kV : Key → V
  | .inl i => .int i
  | .inr x => .str x
/-- what stands at a tracked address -/
inductive HO where
  /-- a list -/
  | lst (xs : List V)
  /-- a tuple (never changes) -/
  | tup (xs : List V)
  /-- a dict whose keys are ints and texts; one whose keys are tuples of ints and texts (the empty one is both) -/
  | dK (kvs : List (Key × V)) | dT (kvs : List (List Key × V))
  /-- a set of ints: its members, its size -/
  | set (S : Int → Bool) (n : Nat)
  /-- an instance of the class at C, its dict at dx, its attributes -/
  | ins (C dx : Addr) (fs : List (Str × V))
  /-- the dict of the instance at x -/
  | own (x : Addr)
  /-- the dict of an exception -/
  | xd (fs : List (Str × V))
  /-- a bound method, f of x -/
  | met (f x : Addr)
  /-- a range object lo, lo + 1, .. below hi -/
  | rng (lo hi : Int)
  /-- a thing that is known to the object (the script; a dict while a loop walks it): read, never written while it is so -/
  | frz (o : Obj) (u : HO)
  /-- a code object's table -/
  | tbl (ps : Array Value)
  /-- any other thing, by what is true of its one object (a def of one's own: SetO a S n := HO.ext fun h => ..) -/
  | ext (φ : Heap → Prop)
abbrev Hp := Addr → Option HO
def upd (H : Hp) (a : Addr) (o : HO) : Hp := fun b => if b = a then some o else H b
theorem upd_same {H : Hp} {a : Addr} {o : HO} : upd H a o a = some o := by unfold upd; rw [if_pos rfl]
theorem upd_ne {H : Hp} {a b : Addr} {o : HO} (h : b ≠ a) : upd H a o b = H b := by unfold upd; rw [if_neg h]
/-- two objects of different content stand apart -/
theorem ne_of {H : Hp} {a b : Addr} {o u : HO} (h : H a = some o) (h' : H b = some u) (d : o ≠ u) : a ≠ b := by
  intro e; subst e; rw [h] at h'; exact d (Option.some.inj h')
theorem ne_of_none {H : Hp} {a b : Addr} {o : HO} (h : H a = some o) (h' : H b = none) : a ≠ b := by
  intro e; subst e; rw [h] at h'; cases h'
/-- a tuple of no own dict -/
def IsTupD (h : Heap) (a : Addr) (items : Array Value) : Prop := ∃ o, h.get? a = some o ∧ (o.cls = .type "tuple" ∧ ∃ n, o.data = .seq items n) ∧ o.dict = none
theorem IsTupD.tup {h : Heap} {a : Addr} {items : Array Value} (p : IsTupD h a items) : IsTup h a items := let ⟨o, e, c, _⟩ := p; ⟨o, e, c⟩
theorem IsTupD.lt {h : Heap} {a : Addr} {items : Array Value} (p : IsTupD h a items) : a < h.objs.size := p.tup.lt
theorem IsTupD.new (h : Heap) (items : Array Value) : IsTupD (h.push { cls := .type "tuple", data := .seq items }) h.objs.size items := ⟨_, Heap.get?_push_size _ rfl, ⟨rfl, _, rfl⟩, rfl⟩
section
variable (P : Program) (w : World)
def ObjOk (H : Hp) (h : Heap) (a : Addr) : HO → Prop
  | .lst xs => xs.length ≤ sizeLine ∧ ∃ (its : List Value) (n : Nat), Vals xs its ∧ h.get? a = some { cls := .type "list", data := .seq its.toArray n }
  | .tup xs => xs.length ≤ sizeLine ∧ ∃ its : List Value, Vals xs its ∧ IsTupD h a its.toArray
  | .dK kvs => kvs.length ≤ sizeLine ∧ (a == sysModules) = false ∧ ∃ vs, KV kvs vs ∧ h.DictOf (mixKind P w) a vs
  | .dT kvs => kvs.length ≤ sizeLine ∧ (a == sysModules) = false ∧ ∃ xs : List (List Key × Addr × Value),
      Paired (fun (p : List Key × V) (q : List Key × Addr × Value) => p.1 = q.1 ∧ H q.2.1 = some (.tup (p.1.map kV)) ∧ RelV p.2 q.2.2) kvs xs ∧
      ∃ o es ep, h.get? a = some o ∧ o.ExactDict ∧ o.data = .dict es ep ∧ es.toList = xs.map (entryOfKey (tupleKind (mixKind P w))) ∧ (xs.map (·.1)).Nodup
  | .set S n => h.SetOf (intKind P w) a S n
  | .ins C dx fs => H dx = some (.own a) ∧ fs.length ≤ 1000 ∧ dx ≠ a ∧ h.get? a = some (PySem.W.instObj C dx) ∧
      ∃ mA, h.Ns1 dx mA ∧ (∀ f, RelO (fs.lookup f) (mA f)) ∧ PySem.Within mA (fs.map (·.1))
  | .own _ => ∃ o, h.get? a = some o
  | .xd fs => ∃ mA, h.Ns1 a mA ∧ ∀ f, RelO (fs.lookup f) (mA f)
  | .rng lo hi => ∃ t u v, h.get? a = some { cls := .type "range", data := .fields #[.int lo t, .int hi u, .int 1 v] }
  | .frz o u => h.get? a = some o ∧ ObjOk H h a u
  | .tbl ps => h.get? a = some { cls := .none, data := .fields ps }
  | .met f x => h.get? a = some (PySem.W.methodObj (.ref f) (.ref x))
  | .ext φ => φ h ∧ (∃ o, h.get? a = some o) ∧ ∀ h1 h2 : Heap, φ h1 → (∀ o, h1.get? a = some o → h2.get? a = some o) → φ h2
/-- the abstract heap is held -/
def HOk (H : Hp) (h : Heap) : Prop := ∀ a o, H a = some o → ObjOk P w H h a o
end
section
variable {P : Program} {w : World} {H H' : Hp} {h h' : Heap} {a : Addr} {o : HO}
theorem ObjOk.lt (x : ObjOk P w H h a o) : a < h.objs.size := by
  cases o with
  | lst xs => obtain ⟨_, _, _, _, e⟩ := x; exact Heap.lt_size e
  | tup xs => obtain ⟨_, _, _, p⟩ := x; exact p.lt
  | dK kvs => obtain ⟨_, _, _, _, o, _, _, e, _⟩ := x; exact Heap.lt_size e
  | dT kvs => obtain ⟨_, _, _, _, o, _, _, e, _⟩ := x; exact Heap.lt_size e
  | set S n => obtain ⟨o, _, _, _, e, _⟩ := x; exact Heap.lt_size e
  | ins C dx fs => obtain ⟨_, _, _, e, _⟩ := x; exact Heap.lt_size e
  | own y => obtain ⟨_, e⟩ := x; exact Heap.lt_size e
  | xd fs => obtain ⟨_, ⟨_, _, _, e, _⟩, _⟩ := x; exact Heap.lt_size e
  | rng lo hi => obtain ⟨_, _, _, e⟩ := x; exact Heap.lt_size e
  | frz ob u => obtain ⟨e, _⟩ := x; exact Heap.lt_size e
  | tbl ps => exact Heap.lt_size (show h.get? a = some _ from x)
  | met f y => exact Heap.lt_size (show h.get? a = some _ from x)
  | ext φ => obtain ⟨_, ⟨_, e⟩, _⟩ := x; exact Heap.lt_size e
theorem Paired.mapP {α β : Type} {F G : α → β → Prop} : ∀ {l₁ : List α} {l₂ : List β}, Paired F l₁ l₂ → (∀ a b, F a b → G a b) → Paired G l₁ l₂
  | _, _, .nil, _ => .nil
  | _, _, .cons r t, f => .cons (f _ _ r) (Paired.mapP t f)
/-- what an object's description leans on: its own object, its own dict, the tuples -/
theorem ObjOk.stay (x : ObjOk P w H h a o) (k : ∀ b u, (b = a ∨ H b = some (.own a)) → h.get? b = some u → h'.get? b = some u)
    (ho : ∀ b, H b = some (.own a) → H' b = some (.own a)) (ht : ∀ b xs, H b = some (.tup xs) → H' b = some (.tup xs)) : ObjOk P w H' h' a o := by
  induction o with
  | lst xs => obtain ⟨z, its, n, r, e⟩ := x; exact ⟨z, its, n, r, k _ _ (.inl rfl) e⟩
  | tup xs => obtain ⟨z, its, r, ob, e, c⟩ := x; exact ⟨z, its, r, ob, k _ _ (.inl rfl) e, c⟩
  | dK kvs => obtain ⟨z, y, vs, r, ob, es, ep, e, c⟩ := x; exact ⟨z, y, vs, r, ob, es, ep, k _ _ (.inl rfl) e, c⟩
  | dT kvs =>
    obtain ⟨z, y, xs, r, ob, es, ep, e, c⟩ := x
    exact ⟨z, y, xs, Paired.mapP r fun p q z => ⟨z.1, ht _ _ z.2.1, z.2.2⟩, ob, es, ep, k _ _ (.inl rfl) e, c⟩
  | set S n => obtain ⟨ob, es, ep, t, e, c⟩ := x; exact ⟨ob, es, ep, t, k _ _ (.inl rfl) e, c⟩
  | ins C dx fs =>
    obtain ⟨d, z, ne, e, mA, ⟨od, es, ep, e2, c⟩, r⟩ := x
    exact ⟨ho _ d, z, ne, k _ _ (.inl rfl) e, mA, ⟨od, es, ep, k _ _ (.inr d) e2, c⟩, r⟩
  | own y => obtain ⟨ob, e⟩ := x; exact ⟨ob, k _ _ (.inl rfl) e⟩
  | xd fs => obtain ⟨mA, ⟨od, es, ep, e, c⟩, r⟩ := x; exact ⟨mA, ⟨od, es, ep, k _ _ (.inl rfl) e, c⟩, r⟩
  | rng lo hi => obtain ⟨t, u, v, e⟩ := x; exact ⟨t, u, v, k _ _ (.inl rfl) e⟩
  | frz ob u ih => obtain ⟨e, q⟩ := x; exact ⟨k _ _ (.inl rfl) e, ih q⟩
  | tbl ps =>
    have e : h.get? a = some { cls := .none, data := .fields ps } := x
    show h'.get? a = some { cls := .none, data := .fields ps }
    exact k a _ (.inl rfl) e
  | met f y =>
    have e : h.get? a = some (PySem.W.methodObj (.ref f) (.ref y)) := x
    show h'.get? a = some (PySem.W.methodObj (.ref f) (.ref y))
    exact k a _ (.inl rfl) e
  | ext φ => obtain ⟨p, ⟨o, e⟩, st⟩ := x; exact ⟨st _ _ p fun o q => k _ _ (.inl rfl) q, ⟨o, k _ _ (.inl rfl) e⟩, st⟩
theorem HOk.lt (x : HOk P w H h) (e : H a = some o) : a < h.objs.size := (x a o e).lt
theorem HOk.fresh (x : HOk P w H h) (e : h.objs.size ≤ a) : H a = none := by
  cases q : H a with
  | none => rfl
  | some u => exact absurd (Nat.lt_of_lt_of_le (x.lt q) e) (Nat.lt_irrefl _)
/-- every object of the heap is kept -/
theorem HOk.kept (x : HOk P w H h) (k : ∀ b u, h.get? b = some u → h'.get? b = some u) : HOk P w H h' := fun a o e =>
  (x a o e).stay (fun b u _ q => k b u q) (fun _ q => q) fun _ _ q => q
/-- a new object is laid and tracked -/
theorem HOk.laid (x : HOk P w H h) (k : ∀ b u, h.get? b = some u → h'.get? b = some u) (hp : h.objs.size ≤ a) (new : ObjOk P w (upd H a o) h' a o) : HOk P w (upd H a o) h' := fun b u e => by
  have hn := x.fresh hp
  by_cases hb : b = a
  · subst hb; rw [upd_same] at e; cases e; exact new
  · rw [upd_ne hb] at e
    exact (x b u e).stay (fun c v _ q => k c v q) (fun c q => by rw [upd_ne (ne_of_none q hn)]; exact q) fun c xs q => by rw [upd_ne (ne_of_none q hn)]; exact q
end
/-- what may be read as u: it is u, or a known u -/
def Rd (H : Hp) (a : Addr) (u : HO) : Prop := H a = some u ∨ ∃ o, H a = some (.frz o u)
theorem Rd.of {H : Hp} {a : Addr} {u : HO} (h : H a = some u) : Rd H a u := .inl h
theorem Rd.ok {P : Program} {w : World} {H : Hp} {h : Heap} {a : Addr} {u : HO} (r : Rd H a u) (x : HOk P w H h) : ObjOk P w H h a u := by
  rcases r with r | ⟨o, r⟩
  · exact x a u r
  · obtain ⟨_, q⟩ := x a _ r
    exact q
/-- what may be written -/
def Mut : Option HO → Prop
  | some (.lst _) => True
  | some (.dK _) => True
  | some (.dT _) => True
  | some (.set _ _) => True
  | some (.ins _ _ _) => True
  | some (.ext _) => True
  | _ => False
section
variable {P : Program} {w : World} {H : Hp} {h h' : Heap} {x e : Addr} {o' : HO}
/-- the object at e is changed: x itself, or the dict of the instance x -/
theorem HOk.write (ok : HOk P w H h) (mu : Mut (H x)) (he : e = x ∨ H e = some (.own x)) (k : ∀ b u, b ≠ e → h.get? b = some u → h'.get? b = some u) (heo : ∃ u, h'.get? e = some u)
    (new : ObjOk P w (upd H x o') h' x o') : HOk P w (upd H x o') h' := fun b u q => by
  have nown : ∀ c y, H c = some (.own y) → c ≠ x := fun c y r z => by subst z; rw [r] at mu; exact mu
  have ntup : ∀ c xs, H c = some (.tup xs) → c ≠ x := fun c xs r z => by subst z; rw [r] at mu; exact mu
  by_cases hb : b = x
  · subst hb; rw [upd_same] at q; cases q; exact new
  · rw [upd_ne hb] at q
    by_cases hbe : b = e
    · have q' : H b = some (.own x) := by
        rcases he with z | z
        · exact absurd (hbe.trans z) hb
        · rw [hbe]; exact z
      rw [q] at q'; cases q'
      obtain ⟨v, hv⟩ := heo
      exact ⟨v, by rw [hbe]; exact hv⟩
    · refine (ok b u q).stay (fun c v hc r => k c v ?_ r) (fun c r => by rw [upd_ne (nown c b r)]; exact r) fun c xs r => by rw [upd_ne (ntup c xs r)]; exact r
      rcases hc with rfl | hc
      · exact hbe
      · rintro rfl
        rcases he with z | z
        · exact nown c b hc z
        · rw [hc] at z; cases z; exact hb rfl
end
structure Un (fs ex : List Addr) (H H' : Hp) (h h' : Heap) : Prop where
  keep : ∀ b o, h.get? b = some o → H b = none → b ∉ fs → b ∉ ex → h'.get? b = some o
  slot : ∀ b o, h.get? b = some o → H b = none → b ∈ fs → b ∉ ex → ∃ sl, h'.get? b = some { o with slots := sl }
  free : ∀ b o, h.get? b = some o → H b = none → b ∉ ex → H' b = none
  there : ∀ b o, h.get? b = some o → b ∉ ex → ∃ o', h'.get? b = some o'
  tups : ∀ b xs, H b = some (.tup xs) → H' b = some (.tup xs)
  frzs : ∀ b o u, H b = some (.frz o u) → H' b = some (.frz o u)
  tbls : ∀ b ps, H b = some (.tbl ps) → ∃ more, H' b = some (.tbl (ps ++ more))
section
variable {fs fs' ex ex' : List Addr} {H H1 H2 : Hp} {h h1 h2 h' : Heap} {a x e : Addr} {o : HO}
theorem Un.any (u : Un fs ex H H1 h h1) {b : Addr} {ob : Obj} (q : h.get? b = some ob) (n : H b = none) (hx : b ∉ ex) : ∃ sl, h1.get? b = some { ob with slots := sl } := by
  by_cases hb : b ∈ fs
  · exact u.slot b ob q n hb hx
  · exact ⟨ob.slots, u.keep b ob q n hb hx⟩
theorem Un.trans (a : Un fs ex H H1 h h1) (b : Un fs ex H1 H2 h1 h2) : Un fs ex H H2 h h2 where
  keep := fun c ob q n hc hx => b.keep c ob (a.keep c ob q n hc hx) (a.free c ob q n hx) hc hx
  slot := fun c ob q n hc hx => by
    obtain ⟨sl, e1⟩ := a.slot c ob q n hc hx
    obtain ⟨sl', e2⟩ := b.slot c _ e1 (a.free c ob q n hx) hc hx
    exact ⟨sl', e2⟩
  free := fun c ob q n hx => by
    obtain ⟨o', e1⟩ := a.there c ob q hx
    exact b.free c o' e1 (a.free c ob q n hx) hx
  there := fun c ob q hx => by
    obtain ⟨o', e1⟩ := a.there c ob q hx
    exact b.there c o' e1 hx
  tups := fun c xs q => b.tups c xs (a.tups c xs q)
  frzs := fun c ob xs q => b.frzs c ob xs (a.frzs c ob xs q)
  tbls := fun c ps q => by
    obtain ⟨m1, e1⟩ := a.tbls c ps q
    obtain ⟨m2, e2⟩ := b.tbls c _ e1
    exact ⟨m1 ++ m2, by rw [e2, Array.append_assoc]⟩
theorem Un.kept (k : ∀ b u, h.get? b = some u → h'.get? b = some u) : Un fs ex H H h h' :=
  ⟨fun b ob q _ _ _ => k b ob q, fun b ob q _ _ _ => ⟨ob.slots, k b ob q⟩, fun _ _ _ n _ => n, fun b ob q _ => ⟨ob, k b ob q⟩, fun _ _ q => q, fun _ _ _ q => q, fun _ ps q => ⟨#[], by rw [q]; simp⟩⟩
theorem Un.refl : Un fs ex H H h h := Un.kept fun _ _ q => q
theorem Un.laid (k : ∀ b u, h.get? b = some u → h'.get? b = some u) (hp : h.objs.size ≤ a) (hn : H a = none) : Un fs ex H (upd H a o) h h' where
  keep := fun b u q _ _ _ => k b u q
  slot := fun b u q _ _ _ => ⟨u.slots, k b u q⟩
  free := fun b u q n _ => by rw [upd_ne (Nat.ne_of_lt (Nat.lt_of_lt_of_le (Heap.lt_size q) hp))]; exact n
  there := fun b u q _ => ⟨u, k b u q⟩
  tups := fun b xs q => by rw [upd_ne (ne_of_none q hn)]; exact q
  frzs := fun b u xs q => by rw [upd_ne (ne_of_none q hn)]; exact q
  tbls := fun b ps q => ⟨#[], by rw [upd_ne (ne_of_none q hn), q]; simp⟩
theorem Un.write (mu : Mut (H x)) (he : e = x ∨ H e = some (.own x)) (k : ∀ b u, b ≠ e → h.get? b = some u → h'.get? b = some u) (heo : ∃ u, h'.get? e = some u) : Un fs ex H (upd H x o) h h' := by
  have hx : ∀ b, H b = none → b ≠ x := fun b n z => by subst z; rw [n] at mu; exact mu
  have hb : ∀ b, H b = none → b ≠ e := fun b n z => by
    subst z
    rcases he with r | r
    · exact hx b n r
    · rw [n] at r; cases r
  have hm : ∀ b u, H b = some u → ¬ Mut (some u) → b ≠ x := fun b u q nm z => by subst z; rw [q] at mu; exact nm mu
  refine ⟨fun b u q n _ _ => k b u (hb b n) q, fun b u q n _ _ => ⟨u.slots, k b u (hb b n) q⟩, fun b u q n _ => by rw [upd_ne (hx b n)]; exact n, fun b u q _ => ?_,
    fun b xs q => by rw [upd_ne (hm b _ q fun z => z)]; exact q, fun b u xs q => by rw [upd_ne (hm b _ q fun z => z)]; exact q, fun b ps q => ⟨#[], by rw [upd_ne (hm b _ q fun z => z), q]; simp⟩⟩
  by_cases hbe : b = e
  · subst hbe; exact heo
  · exact ⟨u, k b u hbe q⟩
theorem Un.mono (u : Un fs ex H H1 h h1) (hs : ∀ b ∈ fs, b ∈ fs') (hx : ∀ b ∈ ex, b ∈ ex') : Un fs' ex' H H1 h h1 :=
  ⟨fun b ob q n hb he => u.keep b ob q n (fun z => hb (hs b z)) fun z => he (hx b z), fun _ _ q n _ he => u.any q n fun z => he (hx _ z), fun b ob q n he => u.free b ob q n fun z => he (hx b z), fun b ob q he => u.there b ob q fun z => he (hx b z), u.tups, u.frzs, u.tbls⟩
end
def trk (h : Heap) (H : Hp) : List Addr := (List.range h.objs.size).filter fun a => (H a).isSome
def hidT (h : Heap) (H : Hp) : Heap := PySem.W.hideAll h (trk h H)
theorem hidT_size (h : Heap) (H : Hp) : (hidT h H).objs.size = h.objs.size := PySem.W.hideAll_size _ _
theorem hidT_get {h : Heap} {H : Hp} {b : Addr} {o : Obj} (e : h.get? b = some o) (n : H b = none) : (hidT h H).get? b = some o :=
  PySem.W.hideAll_get _ e fun hm => by
    have q : (H b).isSome = true := (List.mem_filter.mp hm).2
    rw [n] at q; simp at q
theorem of_hidT {h : Heap} {H : Hp} {b : Addr} {o : Obj} (e : (hidT h H).get? b = some o) : h.get? b = some o ∧ H b = none := by
  have e' : h.get? b = some o := PySem.W.of_hideAll (trk h H) e
  refine ⟨e', ?_⟩
  cases q : H b with
  | none => rfl
  | some x =>
    have hm : b ∈ trk h H := List.mem_filter.mpr ⟨List.mem_range.mpr (Heap.lt_size e'), by simp [q]⟩
    have z : (hidT h H).get? b = none := PySem.W.hideAll_none (trk h H) hm
    rw [z] at e; cases e
def allNews (g h : Heap) (L : Addr) : List (Addr × Obj) := (List.range h.objs.size).filterMap fun a => if a = L ∨ (g.get? a).isSome = true then none else (h.get? a).map fun o => (a, o)
def rest (g h : Heap) (L d : Addr) : List (Addr × Obj) := (allNews g h L).filter fun p => decide (p.1 ≠ d)
end L2
namespace L2
open PySem PySem.Spec PyProof.Rows
/-- the module's facts, over the base: the heap at the law's entry without what is tracked there -/
structure Mod (K : PySem.W.Frag) (mg : Str → Option Value) (base : Heap) : Prop where
  kin : K.In base
  glob : base.Ns mainGlobals mg
  blt : ∃ mb, base.Ns builtinsNs mb ∧ ∀ x : Str, x ≠ "__name__" → mb x = bootBuiltins x
  nolimit : base.NoLimit
/-- the context: a def's body (or a comprehension's block) running. base: fixed through the whole law; s₀, H₀: the entry; outer: the frames whose slots others may change (a def's callers); stack: all frames that run;
   ex: iterators that were made ahead of the entry and are walked here (a comprehension's); fn: the names whose cells were made at the entry (a def: all; a comprehension's block: its own); calm: not within an except suite; pn: pins that every state bears; xe: what is wanted of an exception that leaves the code -/
structure Cx where
  prog : Program
  w : World
  K : PySem.W.Frag
  mg : Str → Option Value
  base : Heap
  A : Around
  N : List Str
  s_0 : Shared
  H_0 : Hp
  env : Env
  outer : List Env
  stack : List Env
  ex : List Addr
  fn : Str → Bool
  calm : Bool
  pn : List (Addr × Obj)
  xe : Value → Shared → Prop
/-- the callers' frames -/
def frs (l : List Env) : List Addr := l.filterMap (·.frame)
abbrev Cx.fs (X : Cx) : List Addr := frs X.outer
def Vis (sc : Scope) (x : Str) : Prop := sc.names.lookup x = some .local ∨ sc.names.lookup x = some .cell ∨ sc.names.lookup x = some .free
def Loc (sc : Scope) (x : Str) : Prop := sc.names.lookup x = some .local ∨ sc.names.lookup x = some .cell
def Look (env : Env) (h : Heap) (m : Str → Option Value) (x : Str) (u : Value) : Prop :=
  (env.kindOf x = some .local ∧ m x = some u) ∨ ((env.kindOf x = some .cell ∨ env.kindOf x = some .free) ∧ ∃ c, env.cells.lookup x = some c ∧ h.IsCell c (some u))
structure Cx.Ok (X : Cx) : Prop where
  mod : Mod X.K X.mg X.base
  kind : X.env.scope.kind = .function
  glob : X.env.globals = mainGlobals
  blt : X.env.builtins = builtinsNs
  above : X.s_0.heap.objs.size ≤ X.env.locals
  inj : ∀ x y c, X.env.cells.lookup x = some c → X.env.cells.lookup y = some c → x = y
  has : ∀ x, (X.env.kindOf x = some .cell ∨ X.env.kindOf x = some .free) → ∃ c, X.env.cells.lookup x = some c
  cab : ∀ x c, X.fn x = true → X.env.cells.lookup x = some c → X.s_0.heap.objs.size ≤ c
  hd : X.calm = true → X.A.handled = none
  frames : X.A.frames = some X.stack
  stk : X.stack = X.outer ∨ (X.stack = X.env :: X.outer ∧ X.env.frame = some X.env.locals)
  exf : ∀ b ∈ X.ex, b ≠ X.env.locals ∧ ∀ x c, X.env.cells.lookup x = some c → c ≠ b
  bs : ∀ b o, X.base.get? b = some o → X.s_0.heap.get? b = some o ∧ X.H_0 b = none
  bsz : X.base.objs.size ≤ X.s_0.heap.objs.size
  noex : ∀ b o, X.base.get? b = some o → b ∉ X.ex
  exfs : ∀ b ∈ X.ex, b ∉ X.fs
  funs : X.s_0.heap.FunFrames X.base X.outer
  frf : ∀ b ∈ X.fs, X.H_0 b = none
structure Inv (X : Cx) (pins : List (Addr × Obj)) (σ : List (Option V)) (H : Hp) (s : Shared) : Prop where
  ok : X.Ok
  os : s.os = X.s_0.os
  bare : AllBare s.gens
  base : Un X.fs X.ex X.H_0 H X.s_0.heap s.heap
  loc : ∃ m, s.heap.Ns X.env.locals m ∧ ∀ (i : Nat) (x : Str) (v : V), X.N[i]? = some x → σ[i]? = some (some v) → Vis X.env.scope x → ∃ u, RelV v u ∧ Look X.env s.heap m x u
  cell : ∀ x c, X.env.cells.lookup x = some c → ∃ v, s.heap.IsCell c v
  free : H X.env.locals = none
  freeC : ∀ x c, X.env.cells.lookup x = some c → H c = none
  pin : ∀ p ∈ X.pn ++ pins, s.heap.get? p.1 = some p.2 ∧ H p.1 = none ∧ p.1 ≠ X.env.locals ∧ p.1 ∉ X.fs ∧ ∀ v, p.2.data ≠ .cell v
  hok : HOk X.prog X.w H s.heap
  len : σ.length = X.N.length
section
variable {X : Cx} {pins : List (Addr × Obj)} {σ : List (Option V)} {H H' : Hp} {s : Shared} {h' : Heap}
theorem Cx.Ok.nofr (ok : X.Ok) {b : Addr} {o : Obj} (e : X.base.get? b = some o) : b ∉ X.fs := fun hb => by
  have := (ok.funs.mem hb).1
  rw [e] at this; cases this
theorem Inv.bs (I : Inv X pins σ H s) : ∀ b o, X.base.get? b = some o → s.heap.get? b = some o ∧ H b = none := fun b o e =>
  ⟨I.base.keep b o (I.ok.bs b o e).1 (I.ok.bs b o e).2 (I.ok.nofr e) (I.ok.noex b o e), I.base.free b o (I.ok.bs b o e).1 (I.ok.bs b o e).2 (I.ok.noex b o e)⟩
theorem Inv.bk (I : Inv X pins σ H s) : ∀ b o, X.base.get? b = some o → s.heap.get? b = some o := fun b o e => (I.bs b o e).1
theorem Inv.mod (I : Inv X pins σ H s) : Mod X.K X.mg X.base := I.ok.mod
theorem Inv.kIn (I : Inv X pins σ H s) : X.K.In s.heap := I.ok.mod.kin.keeps I.bk
theorem Inv.nolimit (I : Inv X pins σ H s) : s.heap.NoLimit := I.ok.mod.nolimit.keeps I.bk
/-- the frame over the base: for OpenK's rules (K.In X.base is I.mod.kin) -/
theorem Inv.fr (I : Inv X pins σ H s) : ∃ m, Fr X.base X.env.locals s.heap m :=
  let ⟨m, hn, _⟩ := I.loc
  ⟨m, hn, I.bk, Nat.le_trans I.ok.bsz I.ok.above⟩
theorem Inv.lt (I : Inv X pins σ H s) : X.env.locals < s.heap.objs.size := let ⟨_, hn, _⟩ := I.loc; hn.lt
theorem Inv.sz (I : Inv X pins σ H s) : X.s_0.heap.objs.size ≤ s.heap.objs.size := Nat.le_trans I.ok.above (Nat.le_of_lt I.lt)
theorem Inv.nofs (I : Inv X pins σ H s) {a : Addr} (h : s.heap.objs.size ≤ a) : a ∉ X.fs := fun hb => by
  obtain ⟨_, o, ho, _⟩ := I.ok.funs.mem hb
  exact absurd (Nat.lt_of_lt_of_le (Heap.lt_size ho) (Nat.le_trans I.sz h)) (Nat.lt_irrefl _)
theorem Inv.cne (I : Inv X pins σ H s) : ∀ x c, X.env.cells.lookup x = some c → c ≠ X.env.locals := fun x c e z => by
  obtain ⟨v, o, ho, hd⟩ := I.cell x c e
  obtain ⟨m, ⟨o', es, ep, ho', hd', _⟩, _⟩ := I.loc
  rw [z, ho'] at ho; cases ho; rw [hd'] at hd; cases hd
theorem Inv.funs (I : Inv X pins σ H s) : s.heap.FunFrames X.base X.outer := by
  have all : ∀ (l : List Env), (∀ b ∈ frs l, b ∈ X.fs) → X.s_0.heap.FunFrames X.base l → s.heap.FunFrames X.base l := by
    intro l
    induction l with
    | nil => intro _ _; trivial
    | cons env r ih =>
      intro hs hl
      obtain ⟨hk, ⟨L, o, hf, hn, ho, hd⟩, hr⟩ := hl
      have hL : L ∈ X.fs := hs L (by unfold frs; rw [List.filterMap_cons, hf]; exact List.mem_cons_self)
      obtain ⟨sl, e⟩ := I.base.slot L o ho (I.ok.frf L hL) hL fun z => I.ok.exfs L z hL
      exact ⟨hk, ⟨L, _, hf, hn, e, hd⟩, ih (fun b hb => hs b (by unfold frs; rw [List.filterMap_cons, hf]; exact List.mem_cons_of_mem _ hb)) hr⟩
  exact all X.outer (fun _ hb => hb) I.ok.funs
/-- the frames that run, for a call -/
theorem Inv.stack (I : Inv X pins σ H s) : s.heap.FunFrames X.base X.stack := by
  rcases I.ok.stk with e | ⟨e, hf⟩
  · rw [e]; exact I.funs
  · rw [e]
    obtain ⟨m, hn, _⟩ := I.loc
    refine .cons (by rw [I.ok.kind]; decide) hf hn ?_ I.funs
    exact Heap.get?_none_of_le (Nat.le_trans I.ok.bsz I.ok.above)
theorem Inv.stkSub (I : Inv X pins σ H s) : ∀ b ∈ frs X.stack, b ∈ X.env.locals :: X.fs := fun b hb => by
  rcases I.ok.stk with e | ⟨e, hf⟩
  · rw [e] at hb; exact List.mem_cons_of_mem _ hb
  · rw [e] at hb
    unfold frs at hb
    rw [List.filterMap_cons, hf] at hb
    exact hb
theorem Inv.stkFree (I : Inv X pins σ H s) : ∀ b ∈ frs X.stack, H b = none := fun b hb => by
  rcases List.mem_cons.mp (I.stkSub b hb) with e | hb
  · rw [e]; exact I.free
  · obtain ⟨_, o, ho, _⟩ := I.ok.funs.mem hb
    exact I.base.free b o ho (I.ok.frf b hb) fun z => I.ok.exfs b z hb
/-- THE STEP: the untracked objects but the frame and the records at ch are kept (the callers' frames up to slots), the frame's map is kept, the new abstract heap is held -/
theorem Inv.step {g' : Array GenState} {t' : Nat} {d' : Drawn} {ch : List Addr} (I : Inv X pins σ H s)
    (hch : ∀ b ∈ ch, (b ∈ X.ex ∨ X.s_0.heap.objs.size ≤ b) ∧ b ≠ X.env.locals ∧ (∀ x c, X.env.cells.lookup x = some c → c ≠ b) ∧ ∀ p ∈ X.pn ++ pins, p.1 ≠ b)
    (keep : ∀ b o, b ≠ X.env.locals → b ∉ X.fs → b ∉ ch → s.heap.get? b = some o → H b = none → h'.get? b = some o)
    (slot : ∀ b o, b ≠ X.env.locals → b ∈ X.fs → b ∉ ch → s.heap.get? b = some o → H b = none → ∃ sl, h'.get? b = some { o with slots := sl }) (free : ∀ b o, b ∉ ch → s.heap.get? b = some o → H b = none → H' b = none)
    (there : ∀ b o, b ∉ ch → s.heap.get? b = some o → ∃ o', h'.get? b = some o')
    (tups : ∀ b xs, H b = some (.tup xs) → H' b = some (.tup xs)) (frzs : ∀ b o u, H b = some (.frz o u) → H' b = some (.frz o u)) (tbls : ∀ b ps, H b = some (.tbl ps) → ∃ more, H' b = some (.tbl (ps ++ more)))
    (ns : ∀ m, s.heap.Ns X.env.locals m → h'.Ns X.env.locals m) (hok : HOk X.prog X.w H' h') (hg : AllBare g') :
    Inv X pins σ H' { s with heap := h', gens := g', drawn := d', toks := t' } := by
  have neL : ∀ b o, X.s_0.heap.get? b = some o → b ≠ X.env.locals := fun b o e => Nat.ne_of_lt (Nat.lt_of_lt_of_le (Heap.lt_size e) I.ok.above)
  have neC : ∀ b o, X.s_0.heap.get? b = some o → b ∉ X.ex → b ∉ ch := fun b o e hx hb => by
    rcases (hch b hb).1 with z | z
    · exact hx z
    · exact absurd (Nat.lt_of_lt_of_le (Heap.lt_size e) z) (Nat.lt_irrefl _)
  have cellK : ∀ x c, X.env.cells.lookup x = some c → ∀ v, s.heap.IsCell c v → h'.IsCell c v := fun x c e v ⟨o, ho, hd⟩ => by
    have nch : c ∉ ch := fun z => (hch c z).2.2.1 x c e rfl
    by_cases hc : c ∈ X.fs
    · obtain ⟨sl, q⟩ := slot c o (I.cne x c e) hc nch ho (I.freeC x c e)
      exact ⟨_, q, hd⟩
    · exact ⟨o, keep c o (I.cne x c e) hc nch ho (I.freeC x c e), hd⟩
  refine ⟨I.ok, I.os, hg, ⟨fun b o e n hb hx => ?_, fun b o e n hb hx => ?_, fun b o e n hx => ?_, fun b o e hx => ?_, fun b xs e => tups b xs (I.base.tups b xs e), fun b o xs e => frzs b o xs (I.base.frzs b o xs e), fun b ps e => ?_⟩, ?_, fun x c e => ?_, ?_, fun x c e => ?_, fun p hp => ?_, hok, I.len⟩
  · exact keep b o (neL b o e) hb (neC b o e hx) (I.base.keep b o e n hb hx) (I.base.free b o e n hx)
  · obtain ⟨sl, e1⟩ := I.base.slot b o e n hb hx
    obtain ⟨sl', e2⟩ := slot b _ (neL b o e) hb (neC b o e hx) e1 (I.base.free b o e n hx)
    exact ⟨sl', e2⟩
  · obtain ⟨o', e1⟩ := I.base.there b o e hx
    exact free b o' (neC b o e hx) e1 (I.base.free b o e n hx)
  · obtain ⟨o', e1⟩ := I.base.there b o e hx
    exact there b o' (neC b o e hx) e1
  · obtain ⟨m1, e1⟩ := I.base.tbls b ps e
    obtain ⟨m2, e2⟩ := tbls b _ e1
    exact ⟨m1 ++ m2, by rw [e2, Array.append_assoc]⟩
  · obtain ⟨m, hn, hl⟩ := I.loc
    refine ⟨m, ns m hn, fun i x v e1 e2 e3 => ?_⟩
    obtain ⟨u, r, l⟩ := hl i x v e1 e2 e3
    refine ⟨u, r, ?_⟩
    rcases l with l | ⟨k, c, e, z⟩
    · exact .inl l
    · exact .inr ⟨k, c, e, cellK x c e _ z⟩
  · obtain ⟨v, z⟩ := I.cell x c e
    exact ⟨v, cellK x c e v z⟩
  · obtain ⟨m, ⟨o, _, _, ho, _⟩, _⟩ := I.loc
    exact free _ o (fun z => (hch _ z).2.1 rfl) ho I.free
  · obtain ⟨v, o, ho, hd⟩ := I.cell x c e
    exact free c o (fun z => (hch c z).2.2.1 x c e rfl) ho (I.freeC x c e)
  · obtain ⟨e, n, ne, nf, d⟩ := I.pin p hp
    have nch : p.1 ∉ ch := fun z => (hch p.1 z).2.2.2 p hp rfl
    exact ⟨keep p.1 p.2 ne nf nch e n, free p.1 p.2 nch e n, ne, nf, d⟩
/-- .. where the frame's own object is kept too -/
theorem Inv.un {t' : Nat} (I : Inv X pins σ H s) (u : Un X.fs [] H H' s.heap h') (hok : HOk X.prog X.w H' h') : Inv X pins σ H' { s with heap := h', toks := t' } := by
  obtain ⟨m, ⟨o, es, ep, ho, r⟩, _⟩ := id I.loc
  obtain ⟨sl, hL⟩ := u.any ho I.free (by simp)
  exact I.step (g' := s.gens) (d' := s.drawn) (ch := []) (fun _ z => nomatch z) (fun b o _ hb _ e n => u.keep b o e n hb (by simp)) (fun b o _ hb _ e n => u.slot b o e n hb (by simp)) (fun b o _ e n => u.free b o e n (by simp)) (fun b o _ e => u.there b o e (by simp)) u.tups u.frzs u.tbls (fun m' hm => by
    obtain ⟨o', es', ep', ho', r'⟩ := hm
    rw [ho] at ho'; cases ho'
    exact ⟨_, es', ep', hL, r'⟩) hok I.bare
/-- behind a call (or a comprehension's block): the slots of this frame may have changed too, the records at ch may have turned -/
theorem Inv.call {g' : Array GenState} {t' : Nat} {d' : Drawn} {ch : List Addr} (I : Inv X pins σ H s) (u : Un (frs X.stack) ch H H' s.heap h') (hok : HOk X.prog X.w H' h') (hg : AllBare g')
    (hch : ∀ b ∈ ch, (b ∈ X.ex ∨ X.s_0.heap.objs.size ≤ b) ∧ b ≠ X.env.locals ∧ (∀ x c, X.env.cells.lookup x = some c → c ≠ b) ∧ ∀ p ∈ X.pn ++ pins, p.1 ≠ b) :
    Inv X pins σ H' { s with heap := h', gens := g', drawn := d', toks := t' } := by
  obtain ⟨m, ⟨o, es, ep, ho, r⟩, _⟩ := id I.loc
  obtain ⟨sl, hL⟩ := u.any ho I.free fun z => (hch _ z).2.1 rfl
  exact I.step (ch := ch) hch (fun b o hL hb hc e n => u.keep b o e n (fun z => (List.mem_cons.mp (I.stkSub b z)).elim hL hb) hc) (fun b o _ _ hc e n => u.any e n hc) (fun b o hc e n => u.free b o e n hc) (fun b o hc e => u.there b o e hc) u.tups u.frzs u.tbls (fun m' hm => by
    obtain ⟨o', es', ep', ho', r'⟩ := hm
    rw [ho] at ho'; cases ho'
    exact ⟨_, es', ep', hL, r'⟩) hok hg
/-- an untracked record of ours (an iterator) has turned -/
theorem Inv.turned {t' : Nat} {it : Addr} (I : Inv X pins σ H s) (k : ∀ b o, b ≠ it → s.heap.get? b = some o → h'.get? b = some o) (hn : H it = none) (hL : it ≠ X.env.locals)
    (h1 : it ∈ X.ex ∨ X.s_0.heap.objs.size ≤ it) (h2 : ∀ x c, X.env.cells.lookup x = some c → c ≠ it) (h3 : ∀ p ∈ X.pn ++ pins, p.1 ≠ it) : Inv X pins σ H { s with heap := h', toks := t' } := by
  have nit : ∀ b u, H b = some u → b ≠ it := fun b u e z => by rw [z, hn] at e; cases e
  refine I.step (g' := s.gens) (d' := s.drawn) (ch := [it]) (fun b hb => ?_) (fun b o _ _ hc e _ => k b o (fun z => hc (by simp [z])) e) (fun b o _ _ hc e _ => ⟨o.slots, k b o (fun z => hc (by simp [z])) e⟩) (fun _ _ _ _ n => n)
    (fun b o hc e => ⟨o, k b o (fun z => hc (by simp [z])) e⟩) (fun _ _ e => e) (fun _ _ _ e => e) (fun b ps e => ⟨#[], by rw [e]; simp⟩) (fun m hm => ?_) (fun b u e => ?_) I.bare
  · have e : b = it := by simpa using hb
    subst e
    exact ⟨h1, hL, h2, h3⟩
  · obtain ⟨o, es, ep, ho, r⟩ := hm
    exact ⟨o, es, ep, k _ o (Ne.symm hL) ho, r⟩
  · refine (I.hok b u e).stay (fun c v hc q => k c v ?_ q) (fun _ q => q) fun _ _ q => q
    rcases hc with z | z
    · rw [z]; exact nit b u e
    · exact nit c _ z
theorem Inv.tok (I : Inv X pins σ H s) (t : Nat) : Inv X pins σ H { s with toks := t } := I.un (h' := s.heap) (t' := t) Un.refl I.hok
/-- all objects kept -/
theorem Inv.kept {t' : Nat} (I : Inv X pins σ H s) (k : ∀ b u, s.heap.get? b = some u → h'.get? b = some u) : Inv X pins σ H { s with heap := h', toks := t' } := I.un (Un.kept k) (I.hok.kept k)
/-- a new object laid and tracked -/
theorem Inv.laid {a : Addr} {o : HO} {t' : Nat} (I : Inv X pins σ H s) (k : ∀ b u, s.heap.get? b = some u → h'.get? b = some u) (hp : s.heap.objs.size ≤ a) (new : ObjOk X.prog X.w (upd H a o) h' a o) :
    Inv X pins σ (upd H a o) { s with heap := h', toks := t' } := I.un (Un.laid k hp (I.hok.fresh hp)) (I.hok.laid k hp new)
/-- an object written -/
theorem Inv.write {x e : Addr} {o : HO} {t' : Nat} (I : Inv X pins σ H s) (mu : Mut (H x)) (he : e = x ∨ H e = some (.own x)) (k : ∀ b u, b ≠ e → s.heap.get? b = some u → h'.get? b = some u) (heo : ∃ u, h'.get? e = some u)
    (new : ObjOk X.prog X.w (upd H x o) h' x o) : Inv X pins σ (upd H x o) { s with heap := h', toks := t' } := I.un (Un.write mu he k heo) (I.hok.write mu he k heo new)
/-- forgetting slots, pins -/
theorem Inv.weak {σ' : List (Option V)} (I : Inv X pins σ H s) (hl : σ'.length = σ.length) (w : ∀ (i : Nat) v, σ'[i]? = some (some v) → σ[i]? = some (some v)) : Inv X pins σ' H s :=
  ⟨I.ok, I.os, I.bare, I.base, let ⟨m, hn, hl'⟩ := I.loc; ⟨m, hn, fun i x v e1 e2 e3 => hl' i x v e1 (w i v e2) e3⟩, I.cell, I.free, I.freeC, I.pin, I.hok, hl.trans I.len⟩
theorem Inv.pins_of {pins' : List (Addr × Obj)} (I : Inv X pins σ H s) (h : ∀ p ∈ pins', s.heap.get? p.1 = some p.2 ∧ H p.1 = none ∧ p.1 ≠ X.env.locals ∧ p.1 ∉ X.fs ∧ ∀ v, p.2.data ≠ .cell v) : Inv X pins' σ H s :=
  ⟨I.ok, I.os, I.bare, I.base, I.loc, I.cell, I.free, I.freeC, fun p hp => (List.mem_append.mp hp).elim (fun z => I.pin p (List.mem_append_left _ z)) (h p), I.hok, I.len⟩
theorem nodup_ix {N : List Str} (hN : N.Nodup) {i j : Nat} {x : Str} (a : N[i]? = some x) (b : N[j]? = some x) : i = j := by
  obtain ⟨h1, e1⟩ := List.getElem?_eq_some_iff.mp a
  obtain ⟨h2, e2⟩ := List.getElem?_eq_some_iff.mp b
  exact (List.getElem_inj hN).mp (e1.trans e2.symm)
/-- a name is stored; what changed -/
theorem store_ok2 {M : Model} {A : Around} {E : Value → Shared → Prop} {i : Nat} {x : Str} {v : V} {u : Value} {Q : Unit → Shared → Prop} (I : Inv X pins σ H s) (hN : X.N.Nodup) (hi : X.N[i]? = some x) (hx : Loc X.env.scope x) (r : RelV v u)
    (h : ∀ s', Inv X pins (σ.set i (some v)) H s' → (∃ a, Heap.SameBut a s.heap s'.heap ∧ (a = X.env.locals ∨ X.env.cells.lookup x = some a)) → Q () s') (hf : X.fn x = true ∨ X.env.scope.names.lookup x = some .local := by first | exact .inl rfl | exact .inr rfl | assumption) : wpAny M A (storeName X.env x u) Q E s := by
  obtain ⟨m, hn, hl⟩ := id I.loc
  have hcls : (X.env.scope.kind == .class || (X.env.scope.kind == .module && X.env.locals != X.env.globals)) = false := by rw [I.ok.kind]; rfl
  have hiσ : i < σ.length := by rw [I.len]; exact (List.getElem?_eq_some_iff.mp hi).1
  have cne := I.cne
  have tracked : ∀ {a : Addr} {h' : Heap}, (∃ o, s.heap.get? a = some o ∧ H a = none) → Heap.SameBut a s.heap h' → HOk X.prog X.w H h' := fun {a h'} ha hs b ob e => by
    obtain ⟨_, _, hfree⟩ := ha
    refine (I.hok b ob e).stay (fun c w' hc q => (hs.2 c ?_).trans q) (fun _ q => q) fun _ _ q => q
    rintro rfl
    rcases hc with rfl | hc
    · rw [hfree] at e; cases e
    · rw [hfree] at hc; cases hc
  rcases hx with hk | hk
  · refine wpAny_storeName_local hk hn (fun h' hn' hs => ?_) hcls
    obtain ⟨oL, _, _, hoL, _⟩ := id hn
    refine h _ ⟨I.ok, I.os, I.bare, ⟨fun b o e n hb hx => ?_, fun b o e n hb hx => ?_, I.base.free, fun b o e hx => ?_, I.base.tups, I.base.frzs, I.base.tbls⟩, ⟨_, hn', fun j y v' e1 e2 e3 => ?_⟩, fun y c e => ?_, I.free, I.freeC, fun p hp => ?_, tracked ⟨oL, hoL, I.free⟩ hs, by simpa using I.len⟩ ⟨_, hs, .inl rfl⟩
    · exact (hs.2 b (Nat.ne_of_lt (Nat.lt_of_lt_of_le (Heap.lt_size e) I.ok.above))).trans (I.base.keep b o e n hb hx)
    · obtain ⟨sl, e1⟩ := I.base.slot b o e n hb hx
      exact ⟨sl, (hs.2 b (Nat.ne_of_lt (Nat.lt_of_lt_of_le (Heap.lt_size e) I.ok.above))).trans e1⟩
    · obtain ⟨o', e1⟩ := I.base.there b o e hx
      exact ⟨o', (hs.2 b (Nat.ne_of_lt (Nat.lt_of_lt_of_le (Heap.lt_size e) I.ok.above))).trans e1⟩
    · by_cases hj : j = i
      · subst hj
        rw [hi] at e1; cases e1
        rw [List.getElem?_set_self hiσ] at e2
        cases e2
        exact ⟨u, r, .inl ⟨hk, by simp⟩⟩
      · rw [List.getElem?_set_ne (Ne.symm hj)] at e2
        obtain ⟨u', r', q⟩ := hl j y v' e1 e2 e3
        refine ⟨u', r', ?_⟩
        rcases q with ⟨k, e⟩ | ⟨k, c, e, z⟩
        · refine .inl ⟨k, ?_⟩
          have : y ≠ x := fun e => hj (nodup_ix hN e1 (e ▸ hi))
          simp [this, e]
        · exact .inr ⟨k, c, e, z.sameBut hs (cne y c e)⟩
    · obtain ⟨w', z⟩ := I.cell y c e
      exact ⟨w', z.sameBut hs (cne y c e)⟩
    · obtain ⟨e, n, ne, nf, d⟩ := I.pin p hp
      exact ⟨(hs.2 p.1 ne).trans e, n, ne, nf, d⟩
  · have hfn : X.fn x = true := by
      rcases hf with z | z
      · exact z
      · rw [z] at hk; cases hk
    obtain ⟨c, hc⟩ := I.ok.has x (.inl hk)
    obtain ⟨w', z⟩ := I.cell x c hc
    refine wpAny_storeName_cell I.ok.kind hk hc z (fun h' hc' hs => ?_)
    obtain ⟨oc, hoc, hocd⟩ := id z
    refine h { s with heap := h' } ⟨I.ok, I.os, I.bare, ⟨fun b o e n hb hx => ?_, fun b o e n hb hx => ?_, I.base.free, fun b o e hx => ?_, I.base.tups, I.base.frzs, I.base.tbls⟩, ⟨m, hn.sameBut hs (Ne.symm (cne x c hc)), fun j y v' e1 e2 e3 => ?_⟩, fun y c' e => ?_, I.free, I.freeC, fun p hp => ?_, tracked ⟨oc, hoc, I.freeC x c hc⟩ hs, by simpa using I.len⟩ ⟨c, hs, .inr hc⟩
    · exact (hs.2 b (Nat.ne_of_lt (Nat.lt_of_lt_of_le (Heap.lt_size e) (I.ok.cab x c hfn hc)))).trans (I.base.keep b o e n hb hx)
    · obtain ⟨sl, e1⟩ := I.base.slot b o e n hb hx
      exact ⟨sl, (hs.2 b (Nat.ne_of_lt (Nat.lt_of_lt_of_le (Heap.lt_size e) (I.ok.cab x c hfn hc)))).trans e1⟩
    · obtain ⟨o', e1⟩ := I.base.there b o e hx
      exact ⟨o', (hs.2 b (Nat.ne_of_lt (Nat.lt_of_lt_of_le (Heap.lt_size e) (I.ok.cab x c hfn hc)))).trans e1⟩
    · by_cases hj : j = i
      · subst hj
        rw [hi] at e1; cases e1
        rw [List.getElem?_set_self hiσ] at e2
        cases e2
        exact ⟨u, r, .inr ⟨.inl hk, c, hc, hc'⟩⟩
      · rw [List.getElem?_set_ne (Ne.symm hj)] at e2
        obtain ⟨u', r', q⟩ := hl j y v' e1 e2 e3
        refine ⟨u', r', ?_⟩
        rcases q with q | ⟨k, c', e, z'⟩
        · exact .inl q
        · refine .inr ⟨k, c', e, z'.sameBut hs ?_⟩
          rintro rfl
          exact hj (nodup_ix hN e1 (I.ok.inj _ _ _ e hc ▸ hi))
    · by_cases hcc : c' = c
      · subst hcc; exact ⟨_, hc'⟩
      · obtain ⟨w2, z2⟩ := I.cell y c' e
        exact ⟨w2, z2.sameBut hs hcc⟩
    · obtain ⟨e, n, ne, nf, d⟩ := I.pin p hp
      refine ⟨(hs.2 p.1 ?_).trans e, n, ne, nf, d⟩
      intro q
      rw [q, hoc] at e
      have q' : oc = p.2 := Option.some.inj e
      exact d w' (by rw [← q']; exact hocd)
theorem store_ok {M : Model} {A : Around} {E : Value → Shared → Prop} {i : Nat} {x : Str} {v : V} {u : Value} {Q : Unit → Shared → Prop} (I : Inv X pins σ H s) (hN : X.N.Nodup) (hi : X.N[i]? = some x) (hx : Loc X.env.scope x) (r : RelV v u)
    (h : ∀ s', Inv X pins (σ.set i (some v)) H s' → Q () s') (hf : X.fn x = true ∨ X.env.scope.names.lookup x = some .local := by first | exact .inl rfl | exact .inr rfl | assumption) : wpAny M A (storeName X.env x u) Q E s :=
  store_ok2 I hN hi hx r (fun s' I' _ => h s' I') hf
/-- behind a call or a block, the state as it is -/
theorem Inv.call' {s' : Shared} {ch : List Addr} (I : Inv X pins σ H s) (ho : s'.os = s.os) (u : Un (frs X.stack) ch H H' s.heap s'.heap) (hok : HOk X.prog X.w H' s'.heap) (hg : AllBare s'.gens)
    (hch : ∀ b ∈ ch, (b ∈ X.ex ∨ X.s_0.heap.objs.size ≤ b) ∧ b ≠ X.env.locals ∧ (∀ x c, X.env.cells.lookup x = some c → c ≠ b) ∧ ∀ p ∈ X.pn ++ pins, p.1 ≠ b) : Inv X pins σ H' s' := by
  obtain ⟨h', g', d', t', o'⟩ := s'
  have e : o' = s.os := ho
  subst e
  exact I.call (g' := g') (t' := t') (d' := d') u hok hg hch
end
/-- an exception: its class, its own dict's address (where it has one), the abstract heap behind it -/
abbrev XK := Value → Option Addr → Hp → Prop
abbrev St := List (Option V)
abbrev VK := V → Hp → Prop
/-- an expression's reading; a test's; an argument list's -/
abbrev TE := St → Hp → VK → Prop
abbrev TT := St → Hp → (Bool → Hp → Prop) → Prop
abbrev TA := St → Hp → (List V → Hp → Prop) → Prop
/-- what is wanted behind a statement -/
structure Ends where
  nx : St → Hp → Prop
  rt : VK
  bk : St → Hp → Prop := fun _ _ => False
  ct : St → Hp → Prop := fun _ _ => False
abbrev TS := Ends → St → Hp → Prop
def EP (X : Cx) (pins : List (Addr × Obj)) (σ : St) (Q : VK) (u : Value) (s' : Shared) : Prop := ∃ v H', Inv X pins σ H' s' ∧ RelV v u ∧ Q v H'
def TP (X : Cx) (pins : List (Addr × Obj)) (σ : St) (Q : Bool → Hp → Prop) (b : Bool) (s' : Shared) : Prop := ∃ H', Inv X pins σ H' s' ∧ Q b H'
def AP (X : Cx) (pins : List (Addr × Obj)) (σ : St) (Q : List V → Hp → Prop) (us : List Value) (s' : Shared) : Prop := ∃ vs H', Inv X pins σ H' s' ∧ Vals vs us ∧ Q vs H'
def SP (X : Cx) (pins : List (Addr × Obj)) (D : Ends) (f : Flow) (s' : Shared) : Prop :=
  match f with
  | .next => ∃ σ' H', Inv X pins σ' H' s' ∧ D.nx σ' H'
  | .brk => ∃ σ' H', Inv X pins σ' H' s' ∧ D.bk σ' H'
  | .cont => ∃ σ' H', Inv X pins σ' H' s' ∧ D.ct σ' H'
  | .ret u => ∃ v σ' H', Inv X pins σ' H' s' ∧ RelV v u ∧ D.rt v H'
def PE (X : Cx) (e : Expr) (t : TE) : Prop :=
  ∀ (pins : List (Addr × Obj)) (s : Shared) (σ : St) (H : Hp) (Q : VK), Inv X pins σ H s → t σ H Q → wpAny (model X.prog X.w) X.A (eval e X.env) (EP X pins σ Q) X.xe s
def PT (X : Cx) (e : Expr) (t : TT) : Prop :=
  ∀ (pins : List (Addr × Obj)) (s : Shared) (σ : St) (H : Hp) (Q : Bool → Hp → Prop), Inv X pins σ H s → t σ H Q → wpAny (model X.prog X.w) X.A (isTrue e X.env (eval e X.env)) (TP X pins σ Q) X.xe s
/-- a test whatever its 'whole' is (and, or) -/
def PW (X : Cx) (e : Expr) (t : TT) : Prop :=
  ∀ (whole : Sem Value) (pins : List (Addr × Obj)) (s : Shared) (σ : St) (H : Hp) (Q : Bool → Hp → Prop), Inv X pins σ H s → t σ H Q → wpAny (model X.prog X.w) X.A (isTrue e X.env whole) (TP X pins σ Q) X.xe s
theorem PW.pt {X : Cx} {e : Expr} {t : TT} (h : PW X e t) : PT X e t := h _
/-- an argument list (no star), from the left -/
def PA (X : Cx) (es : List Expr) (t : TA) : Prop :=
  ∀ (pos : Pos) (pins : List (Addr × Obj)) (s : Shared) (σ : St) (H : Hp) (Q : List V → Hp → Prop), Inv X pins σ H s → t σ H Q → wpAny (model X.prog X.w) X.A (spliced (backTo pos (starEach es X.env))) (AP X pins σ Q) X.xe s
def PS (X : Cx) (st : Stmt) (t : TS) : Prop :=
  ∀ (pins : List (Addr × Obj)) (s : Shared) (σ : St) (H : Hp) (D : Ends), Inv X pins σ H s → t D σ H → wpAny (model X.prog X.w) X.A (exec st X.env) (SP X pins D) X.xe s
def PSs (X : Cx) (st : List Stmt) (t : TS) : Prop :=
  ∀ (pins : List (Addr × Obj)) (s : Shared) (σ : St) (H : Hp) (D : Ends), Inv X pins σ H s → t D σ H → wpAny (model X.prog X.w) X.A (execs st X.env) (SP X pins D) X.xe s
/-- weaken the end -/
theorem thn {α : Type} {t : Sem α} {Q Q' : α → Shared → Prop} {M : Model} {A : Around} {E : Value → Shared → Prop} {s : Shared} (h : wpAny M A t Q E s) (hQ : ∀ a s, Q a s → Q' a s) : wpAny M A t Q' E s := wpAny_mono h hQ fun _ _ x => x
end L2
namespace L2
open PySem PySem.Spec PyProof.Rows
section
variable {X : Cx}
def tVar (i : Nat) : TE := fun σ H Q => ∃ v, σ[i]? = some (some v) ∧ Q v H
def tC (v : V) : TE := fun _ H Q => Q v H
theorem pe_var {i : Nat} {x : Str} {pos : Pos} (hN : X.N[i]? = some x) (hv : Vis X.env.scope x) (hd : (x == ("__debug__" : Str)) = false := by decide) (hcd : (x == ("__classdict__" : Str)) = false := by decide) : PE X (.Name x pos) (tVar i) := by
  intro pins s σ H Q I h
  obtain ⟨v, e, h⟩ := h
  obtain ⟨m, hn, hl⟩ := I.loc
  obtain ⟨u, r, l⟩ := hl i x v hN e hv
  have fin : EP X pins σ Q u s := ⟨v, H, I, r, h⟩
  rcases l with ⟨hk, hm⟩ | ⟨hk, c, hc, hcell⟩
  · exact wpAny_Name (wpAny_loadName_local I.ok.kind hk hn hm fin) hd
  · rcases hk with hk | hk
    · exact wpAny_Name (wpAny_loadName_cell I.ok.kind hk hc hcell fin) hd
    · exact wpAny_Name (wpAny_loadName_free I.ok.kind hk hc hcell fin hcd) hd
theorem pe_int {i j pos} : PE X (.Constant (.int i) j pos) (tC (.int i)) := fun _ _ _ H _ I h => wpAny_Constant_int ⟨.int i, H, I.tok _, ⟨_, rfl⟩, h⟩
theorem pe_bl {b j pos} : PE X (.Constant (.bool b) j pos) (tC (.bl b)) := fun _ _ _ H _ I h => Constant_bool ⟨.bl b, H, I, rfl, h⟩
theorem pe_non {j pos} : PE X (.Constant .none j pos) (tC .non) := fun _ _ _ H _ I h => Constant_none ⟨.non, H, I, rfl, h⟩
theorem pe_str {x j pos} : PE X (.Constant (.str x) j pos) (tC (.str x)) := fun _ _ _ H _ I h => Calls.Constant_str ⟨.str x, H, I.tok _, ⟨_, rfl⟩, h⟩
/-- a global name of the def -/
def Gl (X : Cx) (x : Str) : Prop := X.env.kindOf x = some .globalImplicit
theorem ld_glob {E : Value → Shared → Prop} {pins : List (Addr × Obj)} {s : Shared} {σ : St} {H : Hp} {x : Str} {u : Value} {pos : Pos} {Q : Value → Shared → Prop} (I : Inv X pins σ H s) (hg : Gl X x) (hm : X.mg x = some u) (h : Q u s)
    (hd : (x == ("__debug__" : Str)) = false := by decide) : wpAny (model X.prog X.w) X.A (eval (.Name x pos) X.env) Q E s :=
  Calls.Name_function_global I.ok.kind hg (Calls.loadGlobal_global (by rw [I.ok.glob]; exact I.mod.glob.keeps I.bk) hm h) hd
theorem ld_blt {E : Value → Shared → Prop} {pins : List (Addr × Obj)} {s : Shared} {σ : St} {H : Hp} {x : Str} {u : Value} {pos : Pos} {Q : Value → Shared → Prop} (I : Inv X pins σ H s) (hg : Gl X x) (hm : X.mg x = none) (hv : bootBuiltins x = some u) (h : Q u s)
    (hn : x ≠ "__name__" := by decide) (hd : (x == ("__debug__" : Str)) = false := by decide) : wpAny (model X.prog X.w) X.A (eval (.Name x pos) X.env) Q E s := by
  obtain ⟨mb, h1, h2⟩ := I.mod.blt
  exact Calls.Name_function_global I.ok.kind hg (Calls.loadGlobal_builtin (by rw [I.ok.glob]; exact I.mod.glob.keeps I.bk) hm (by rw [I.ok.blt]; exact h1.keeps I.bk) ((h2 x hn).trans hv) h) hd
/-- a module's constant, a class, a function, as a value -/
theorem pe_glob {x : Str} {v : V} {u : Value} {pos : Pos} (hg : Gl X x) (hm : X.mg x = some u) (r : RelV v u) (hd : (x == ("__debug__" : Str)) = false := by decide) : PE X (.Name x pos) (tC v) :=
  fun _ _ _ H _ I h => ld_glob I hg hm ⟨v, H, I, r, h⟩ hd
theorem pe_bltn {x : Str} {v : V} {u : Value} {pos : Pos} (hg : Gl X x) (hm : X.mg x = none) (hv : bootBuiltins x = some u) (r : RelV v u) (hn : x ≠ "__name__" := by decide) (hd : (x == ("__debug__" : Str)) = false := by decide) : PE X (.Name x pos) (tC v) :=
  fun _ _ _ H _ I h => ld_blt I hg hm hv ⟨v, H, I, r, h⟩ hn hd
variable {a b : Expr} {ta tb : TE} {pos : Pos}
/-- a comparison as a value, as a test -/
def tB (t : TE) : TT := fun σ H Q => t σ H fun x H1 => ∃ c, x = .bl c ∧ Q c H1
/-- an expression whose value is a bool, as a test -/
theorem pt_val {e : Expr} {t : TE} (h : PE X e t) (he : ∀ whole, isTrue e X.env whole = (do let v ← whole; standAt e.pos; holding [v] (truthy v)) := by intro _; rfl) : PT X e (tB t) := by
  intro pins s σ H Q I hw
  refine isTrue_plain (thn (h pins s σ H _ I hw) fun v s1 ⟨x, H1, I1, r1, q1⟩ => ?_) (he _)
  obtain ⟨d, rfl, q⟩ := q1
  cases r1
  exact wpAny_truthy_bool ⟨H1, I1, q⟩
variable {tA tB' : TT} {rest : List Expr}
def tAnd (t u : TT) : TT := fun σ H Q => t σ H fun c H1 => if c = true then u σ H1 Q else Q false H1
def tOr (t u : TT) : TT := fun σ H Q => t σ H fun c H1 => if c = true then Q true H1 else u σ H1 Q
def tNot (t : TT) : TT := fun σ H Q => t σ H fun c H1 => Q (!c) H1
theorem pw_and1 (ha : PT X a tA) : PW X (.BoolOp .And [a] pos) tA := by
  intro wh pins s σ H Q I h
  refine isTrue_and (thn (ha pins s σ H Q I h) fun c s1 e => ?_)
  cases c with
  | true => exact isTrue_and_nil e
  | false => exact e
theorem pw_or1 (ha : PT X a tA) : PW X (.BoolOp .Or [a] pos) tA := by
  intro wh pins s σ H Q I h
  refine isTrue_or (thn (ha pins s σ H Q I h) fun c s1 e => ?_)
  cases c with
  | false => exact isTrue_or_nil e
  | true => exact e
theorem pw_and (ha : PT X a tA) (hb : PW X (.BoolOp .And (b :: rest) pos) tB') : PW X (.BoolOp .And (a :: b :: rest) pos) (tAnd tA tB') := by
  intro wh pins s σ H Q I h
  refine isTrue_and (thn (ha pins s σ H _ I h) fun c s1 ⟨H1, I1, q1⟩ => ?_)
  cases c with
  | true => exact hb wh pins s1 σ H1 Q I1 q1
  | false => exact ⟨H1, I1, q1⟩
theorem pw_or (ha : PT X a tA) (hb : PW X (.BoolOp .Or (b :: rest) pos) tB') : PW X (.BoolOp .Or (a :: b :: rest) pos) (tOr tA tB') := by
  intro wh pins s σ H Q I h
  refine isTrue_or (thn (ha pins s σ H _ I h) fun c s1 ⟨H1, I1, q1⟩ => ?_)
  cases c with
  | true => exact ⟨H1, I1, q1⟩
  | false => exact hb wh pins s1 σ H1 Q I1 q1
theorem pt_not (ha : PT X a tA) : PT X (.UnaryOp .Not a pos) (tNot tA) := by
  intro pins s σ H Q I h
  exact isTrue_not (ha pins s σ H (fun c H1 => Q (!c) H1) I h)
/-- .. as values (bools) -/
def tAndV (ta tb : TE) : TE := fun σ H Q => ta σ H fun x H1 => ∃ c, x = .bl c ∧ if c = true then tb σ H1 Q else Q (.bl false) H1
def tNotV (ta : TE) : TE := fun σ H Q => ta σ H fun x H1 => ∃ c, x = .bl c ∧ Q (.bl (!c)) H1
theorem pe_one {op} {t : TE} (h : PE X a t) : PE X (.BoolOp op [a] pos) t := fun pins s σ H Q I hw => BoolOp_one (h pins s σ H Q I hw)
theorem pe_and (ha : PE X a ta) (hb : PE X (.BoolOp .And (b :: rest) pos) tb) : PE X (.BoolOp .And (a :: b :: rest) pos) (tAndV ta tb) := by
  intro pins s σ H Q I h
  refine BoolOp_and (thn (ha pins s σ H _ I h) fun v s1 ⟨x, H1, I1, r1, q1⟩ => ?_)
  obtain ⟨c, rfl, q1⟩ := q1
  cases r1
  refine wpAny_truthy_bool ?_
  cases c with
  | true => exact hb pins s1 σ H1 Q I1 q1
  | false => exact ⟨.bl false, H1, I1, rfl, q1⟩
theorem pe_not (ha : PE X a ta) : PE X (.UnaryOp .Not a pos) (tNotV ta) := by
  intro pins s σ H Q I h
  refine UnaryOp_ (thn (ha pins s σ H _ I h) fun v s1 ⟨x, H1, I1, r1, q1⟩ => ?_)
  obtain ⟨c, rfl, q1⟩ := q1
  cases r1
  exact not_of (wpAny_truthy_bool ⟨.bl (!c), H1, I1, rfl, q1⟩)
/-- a if t else b -/
def tIf (t : TT) (ta tb : TE) : TE := fun σ H Q => t σ H fun c H1 => if c = true then ta σ H1 Q else tb σ H1 Q
theorem pe_ifExp {c : Expr} (hc : PT X c tA) (ha : PE X a ta) (hb : PE X b tb) : PE X (.IfExp c a b pos) (tIf tA ta tb) := by
  intro pins s σ H Q I h
  refine wpAny_IfExp (thn (hc pins s σ H _ I h) fun d s1 ⟨H1, I1, q1⟩ => ?_)
  cases d with
  | true => exact ha pins s1 σ H1 Q I1 q1
  | false => exact hb pins s1 σ H1 Q I1 q1
end
end L2
namespace L2
open PySem PySem.Spec PyProof.Rows
def SqL (K : PySem.W.Frag) (H : Hp) (a : Addr) (xs : List V) : Prop :=
  Rd H a (.lst xs) ∨
    ∃ (o : Obj) (its : Array Value) (n : Nat), K.lookup a = some o ∧ o.cls = .type "list" ∧ o.dict = none ∧ o.data = .seq its n ∧ its.size ≤ sizeLine ∧ Vals xs its.toList
def SqT (K : PySem.W.Frag) (H : Hp) (a : Addr) (xs : List V) : Prop :=
  Rd H a (.tup xs) ∨
    ∃ (o : Obj) (its : Array Value) (n : Nat), K.lookup a = some o ∧ o.cls = .type "tuple" ∧ o.data = .seq its n ∧ its.size ≤ sizeLine ∧ Vals xs its.toList ∧ o.dict = none
def absV : Value → Option V
  | .none => some .non
  | .bool b => some (.bl b)
  | .int i _ => some (.int i)
  | .str x _ => some (.str x)
  | .bytes b _ => some (.byt b)
  | .float b _ => some (.flt b)
  | .ref a => some (.ref a)
  | .type n => some (.ty n)
  | _ => none
theorem RelV.abs {x : V} {u : Value} (r : RelV x u) : absV u = some x := by
  cases x with
  | non => cases r; rfl
  | bl _ => cases r; rfl
  | int _ => obtain ⟨t, rfl⟩ := r; rfl
  | str _ => obtain ⟨t, rfl⟩ := r; rfl
  | byt _ => obtain ⟨t, rfl⟩ := r; rfl
  | flt _ => obtain ⟨t, rfl⟩ := r; rfl
  | ref _ => cases r; rfl
  | ty _ => cases r; rfl
theorem RelV.inj {x y : V} {u : Value} (r : RelV x u) (q : RelV y u) : x = y := Option.some.inj (r.abs.symm.trans q.abs)
theorem Vals.inj : ∀ {xs ys : List V} {us : List Value}, Vals xs us → Vals ys us → xs = ys
  | _, _, _, .nil, .nil => rfl
  | _, _, _, .cons r t, .cons r' t' => by rw [r.inj r', Vals.inj t t']
section
variable {X : Cx} {pins : List (Addr × Obj)} {σ : St} {H : Hp} {s : Shared} {a : Addr} {xs ys : List V}
theorem SqL.of {K : PySem.W.Frag} (h : H a = some (.lst xs)) : SqL K H a xs := .inl (.inl h)
theorem SqT.of {K : PySem.W.Frag} (h : H a = some (.tup xs)) : SqT K H a xs := .inl (.inl h)
theorem Inv.list (I : Inv X pins σ H s) (h : SqL X.K H a xs) : ∃ its : List Value, Vals xs its ∧ PlainL s.heap a its.toArray ∧ xs.length ≤ sizeLine := by
  rcases h with h | ⟨o, its, n, hk, hc, hd, hs, hz, r⟩
  · obtain ⟨z, its, n, r, e⟩ := h.ok I.hok
    exact ⟨its, r, ⟨_, n, e, rfl, rfl, rfl⟩, z⟩
  · refine ⟨its.toList, r, ⟨o, n, I.kIn a o hk, hc, hd, by simpa using hs⟩, ?_⟩
    have e := r.length
    simp only [Array.length_toList] at e
    omega
theorem Inv.tuple (I : Inv X pins σ H s) (h : SqT X.K H a xs) : ∃ its : List Value, Vals xs its ∧ IsTup s.heap a its.toArray ∧ xs.length ≤ sizeLine := by
  rcases h with h | ⟨o, its, n, hk, hc, hs, hz, r, _⟩
  · obtain ⟨z, its, r, p⟩ := h.ok I.hok
    exact ⟨its, r, p.tup, z⟩
  · refine ⟨its.toList, r, ⟨o, I.kIn a o hk, hc, n, by simpa using hs⟩, ?_⟩
    have e := r.length
    simp only [Array.length_toList] at e
    omega
theorem Inv.tupleD (I : Inv X pins σ H s) (h : SqT X.K H a xs) : ∃ its : List Value, Vals xs its ∧ IsTupD s.heap a its.toArray ∧ xs.length ≤ sizeLine := by
  rcases h with h | ⟨o, its, n, hk, hc, hs, hz, r, hd⟩
  · obtain ⟨z, its, r, p⟩ := h.ok I.hok
    exact ⟨its, r, p, z⟩
  · refine ⟨its.toList, r, ⟨o, I.kIn a o hk, ⟨hc, n, by simpa using hs⟩, hd⟩, ?_⟩
    have e := r.length
    simp only [Array.length_toList] at e
    omega
theorem Inv.list_inj (I : Inv X pins σ H s) (h : SqL X.K H a xs) (h' : SqL X.K H a ys) : xs = ys := by
  obtain ⟨its, r, ⟨o, n, e, _, _, d⟩, _⟩ := I.list h
  obtain ⟨its', r', ⟨o', n', e', _, _, d'⟩, _⟩ := I.list h'
  rw [e] at e'; cases e'
  rw [d] at d'
  injection d' with d1 _
  have : its = its' := by simpa using congrArg Array.toList d1
  subst this
  exact r.inj r'
theorem Inv.tuple_inj (I : Inv X pins σ H s) (h : SqT X.K H a xs) (h' : SqT X.K H a ys) : xs = ys := by
  obtain ⟨its, r, ⟨o, e, _, n, d⟩, _⟩ := I.tuple h
  obtain ⟨its', r', ⟨o', e', _, n', d'⟩, _⟩ := I.tuple h'
  rw [e] at e'; cases e'
  rw [d] at d'
  injection d' with d1 _
  have : its = its' := by simpa using congrArg Array.toList d1
  subst this
  exact r.inj r'
end
abbrev Cx.wish (X : Cx) (E : Value → Shared → Prop) : Cx := { X with xe := E }
/-- no exception leaves -/
abbrev Cx.nox (X : Cx) : Cx := X.wish fun _ _ => False
theorem Cx.Ok.wish {X : Cx} (ok : X.Ok) (E : Value → Shared → Prop) : (X.wish E).Ok :=
  ⟨ok.mod, ok.kind, ok.glob, ok.blt, ok.above, ok.inj, ok.has, ok.cab, ok.hd, ok.frames, ok.stk, ok.exf, ok.bs, ok.bsz, ok.noex, ok.exfs, ok.funs, ok.frf⟩
theorem Cx.Ok.unwish {X : Cx} {E : Value → Shared → Prop} (ok : (X.wish E).Ok) : X.Ok :=
  ⟨ok.mod, ok.kind, ok.glob, ok.blt, ok.above, ok.inj, ok.has, ok.cab, ok.hd, ok.frames, ok.stk, ok.exf, ok.bs, ok.bsz, ok.noex, ok.exfs, ok.funs, ok.frf⟩
section
variable {X : Cx} {pins : List (Addr × Obj)} {σ : St} {H : Hp} {s : Shared} {E : Value → Shared → Prop}
theorem Inv.wish (I : Inv X pins σ H s) (E : Value → Shared → Prop) : Inv (X.wish E) pins σ H s := ⟨I.ok.wish E, I.os, I.bare, I.base, I.loc, I.cell, I.free, I.freeC, I.pin, I.hok, I.len⟩
theorem Inv.unwish (I : Inv (X.wish E) pins σ H s) : Inv X pins σ H s := ⟨I.ok.unwish, I.os, I.bare, I.base, I.loc, I.cell, I.free, I.freeC, I.pin, I.hok, I.len⟩
theorem SP.unwish {D : Ends} {f : Flow} {s' : Shared} (h : SP (X.wish E) pins D f s') : SP X pins D f s' := by
  cases f with
  | next => obtain ⟨σ', H', I, q⟩ := h; exact ⟨σ', H', I.unwish, q⟩
  | brk => obtain ⟨σ', H', I, q⟩ := h; exact ⟨σ', H', I.unwish, q⟩
  | cont => obtain ⟨σ', H', I, q⟩ := h; exact ⟨σ', H', I.unwish, q⟩
  | ret u => obtain ⟨v, σ', H', I, r, q⟩ := h; exact ⟨v, σ', H', I.unwish, r, q⟩
theorem PE.nox {e : Expr} {t : TE} (h : PE X.nox e t) : PE X e t := fun pins s σ H Q I hw =>
  wpAny_mono (h pins s σ H Q (I.wish _) hw) (fun _ _ ⟨v, H', I', r, q⟩ => ⟨v, H', I'.unwish, r, q⟩) fun _ _ z => False.elim z
theorem PT.nox {e : Expr} {t : TT} (h : PT X.nox e t) : PT X e t := fun pins s σ H Q I hw =>
  wpAny_mono (h pins s σ H Q (I.wish _) hw) (fun _ _ ⟨H', I', q⟩ => ⟨H', I'.unwish, q⟩) fun _ _ z => False.elim z
theorem PSs.nox {st : List Stmt} {t : TS} (h : PSs X.nox st t) : PSs X st t := fun pins s σ H D I hw =>
  wpAny_mono (h pins s σ H D (I.wish _) hw) (fun _ _ q => q.unwish) fun _ _ z => False.elim z
end
section
variable {X : Cx} {st : Stmt} {rest : List Stmt} {t u : TS} {e : Expr} {te : TE} {pos : Pos}
def tNext : TS := fun D σ H => D.nx σ H
def tSeq (t u : TS) : TS := fun D σ H => t { D with nx := u D } σ H
theorem pss_nil : PSs X [] tNext := fun _ _ σ H _ I h => wpAny_execs_nil ⟨σ, H, I, h⟩
theorem pss_cons (h1 : PS X st t) (h2 : PSs X rest u) : PSs X (st :: rest) (tSeq t u) := by
  intro pins s σ H D I h
  refine wpAny_execs_cons (thn (h1 pins s σ H { D with nx := u D } I h) fun f s1 q => ?_)
  cases f with
  | next =>
    obtain ⟨σ', H', I', q⟩ := q
    exact h2 pins s1 σ' H' D I' q
  | ret v => exact q
  | brk => exact q
  | cont => exact q
theorem pss_one (h1 : PS X st t) : PSs X [st] t := by
  intro pins s σ H D I h
  refine wpAny_execs_cons (thn (h1 pins s σ H D I h) fun f s1 q => ?_)
  cases f with
  | next => exact wpAny_execs_nil q
  | ret v => exact q
  | brk => exact q
  | cont => exact q
/-- in a def's body nothing is shown -/
theorem Inv.quiet {pins : List (Addr × Obj)} {σ : St} {H : Hp} {s : Shared} (I : Inv X pins σ H s) : interactive X.env = false := by simp [interactive, I.ok.kind]
/-- an expression whose value is dropped -/
def tDrop (te : TE) : TS := fun D σ H => te σ H fun _ H1 => D.nx σ H1
theorem ps_expr (he : PE X e te) (hs : swapsWith e none pos.line X.env = pure false := by rfl) : PS X (.Expr e pos) (tDrop te) := by
  intro pins s σ H D I h
  exact wpAny_Expr_any (thn (he pins s σ H _ I h) fun v s1 ⟨x, H1, I1, r1, q1⟩ => ⟨σ, H1, I1, q1⟩) I.quiet hs
def tRet (te : TE) : TS := fun D σ H => te σ H D.rt
theorem ps_ret (he : PE X e te) : PS X (.Return (some e) pos) (tRet te) := by
  intro pins s σ H D I h
  exact wpAny_Return_some (thn (he pins s σ H _ I h) fun v s1 ⟨x, H1, I1, r1, q1⟩ => ⟨x, σ, H1, I1, r1, q1⟩)
def tIfS (c : TT) (t u : TS) : TS := fun D σ H => c σ H fun b H1 => if b = true then t D σ H1 else u D σ H1
theorem ps_if {c : Expr} {a b : List Stmt} {tc : TT} (hc : PT X c tc) (ha : PSs X a t) (hb : PSs X b u) : PS X (.If c a b pos) (tIfS tc t u) := by
  intro pins s σ H D I h
  refine wpAny_If (thn (hc pins s σ H _ I h) fun d s1 ⟨H1, I1, q1⟩ => ?_)
  cases d with
  | true => exact ha pins s1 σ H1 D I1 q1
  | false => exact hb pins s1 σ H1 D I1 q1
end
abbrev TG := V → St → Hp → (St → Hp → Prop) → Prop
abbrev TGs := List V → St → Hp → (St → Hp → Prop) → Prop
def PG (X : Cx) (target : Expr) (t : TG) : Prop :=
  ∀ (pins : List (Addr × Obj)) (s : Shared) (σ : St) (H : Hp) (v : V) (u : Value) (Q : St → Hp → Prop), Inv X pins σ H s → RelV v u → t v σ H Q →
    wpAny (model X.prog X.w) X.A (assign target X.env u) (fun _ s' => ∃ σ' H', Inv X pins σ' H' s' ∧ Q σ' H') X.xe s
/-- several targets, one after another -/
def PGs (X : Cx) (ts : List Expr) (t : TGs) : Prop :=
  ∀ (pins : List (Addr × Obj)) (s : Shared) (σ : St) (H : Hp) (vs : List V) (us : List Value) (Q : St → Hp → Prop), Inv X pins σ H s → Vals vs us → t vs σ H Q →
    wpAny (model X.prog X.w) X.A (assignInOrder ((assignEach ts X.env).map (·.2)) us) (fun _ s' => ∃ σ' H', Inv X pins σ' H' s' ∧ Q σ' H') X.xe s
section
variable {X : Cx} {pos : Pos}
def gName (i : Nat) : TG := fun v σ H Q => Q (σ.set i (some v)) H
theorem pg_name {i : Nat} {x : Str} (hN : X.N.Nodup) (hi : X.N[i]? = some x) (hx : Loc X.env.scope x) (hf : X.fn x = true ∨ X.env.scope.names.lookup x = some .local := by first | exact .inl rfl | exact .inr rfl | assumption) : PG X (.Name x pos) (gName i) := by
  intro pins s σ H v u Q I r h
  exact wpAny_assign_Name (store_ok I hN hi hx r (fun s' I' => ⟨_, H, I', h⟩) hf)
def gNil : TGs := fun vs σ H Q => vs = [] ∧ Q σ H
def gCons (t : TG) (u : TGs) : TGs := fun vs σ H Q => ∃ v r, vs = v :: r ∧ t v σ H fun σ' H' => u r σ' H' Q
theorem pgs_nil : PGs X [] gNil := by
  intro pins s σ H vs us Q I r h
  obtain ⟨e, h⟩ := h
  subst e
  cases r
  exact assignInOrder_nil ⟨σ, H, I, h⟩
theorem pgs_cons {e : Expr} {es : List Expr} {t : TG} {u : TGs} (h1 : PG X e t) (h2 : PGs X es u)
    (hs : (assignEach (e :: es) X.env).map (·.2) = assign e X.env :: (assignEach es X.env).map (·.2) := by rfl) : PGs X (e :: es) (gCons t u) := by
  intro pins s σ H vs us Q I r h
  obtain ⟨v, vr, e1, h⟩ := h
  subst e1
  cases r with
  | cons r rr =>
    rw [hs]
    refine assignInOrder_cons (thn (h1 pins s σ H _ _ _ I r h) fun _ s1 ⟨σ1, H1, I1, q1⟩ => ?_)
    exact h2 pins s1 σ1 H1 _ _ Q I1 rr q1
/-- (a, b, ..) = a tuple of that length -/
def gTup (K : PySem.W.Frag) (n : Nat) (t : TGs) : TG := fun v σ H Q => ∃ a xs, v = .ref a ∧ SqT K H a xs ∧ xs.length = n ∧ t xs σ H Q
theorem pg_tup {es : List Expr} {k : Nat} {t : TGs} {n : Nat} (hc : X.calm = true) (h : PGs X es t)
    (hn : (assignEach es X.env).length = n := by rfl) (hst : (assignEach es X.env).findIdx? (·.1) = none := by rfl) : PG X (.Tuple es k pos) (gTup X.K n t) := by
  intro pins s σ H v u Q I r hw
  obtain ⟨a, xs, e1, hq, hl, hw⟩ := hw
  subst e1
  cases r
  obtain ⟨its, rv, ht, hz⟩ := I.tuple hq
  refine assign_Tuple_tuple (I.ok.hd hc) ht (by simp [hn, ← hl, rv.length]) hst fun h' hx => ?_
  have I1 : Inv X pins σ H { s with heap := h' } := I.kept (t' := s.toks) fun b o e => hx b o (Nat.ne_of_lt (Heap.lt_size e)) e
  exact h pins _ σ H xs _ Q I1 (by simpa using rv) hw
/-- target = value -/
def tAsg (te : TE) (g : TG) : TS := fun D σ H => te σ H fun x H1 => g x σ H1 D.nx
theorem ps_asg {tg e : Expr} {te : TE} {g : TG} (he : PE X e te) (hg : PG X tg g) (hs : swapsWithSole [tg] e pos.line X.env = pure false := by rfl) (hw : swappedStores [tg] e X.env = pure none := by rfl)
    (h1 : (assignEach [tg] X.env).map (·.2) = [assign tg X.env] := by rfl) : PS X (.Assign [tg] e pos) (tAsg te g) := by
  intro pins s σ H D I h
  refine wpAny_Assign_stores (thn (he pins s σ H _ I h) fun v s1 ⟨x, H1, I1, r1, q1⟩ => ?_) hs hw
  rw [h1]
  exact thn (hg pins s1 σ H1 x v _ I1 r1 q1) fun _ s2 q => q
/-- name = value -/
theorem ps_set {i : Nat} {x : Str} {e : Expr} {te : TE} {pos' : Pos} (hN : X.N.Nodup) (hi : X.N[i]? = some x) (hx : Loc X.env.scope x) (he : PE X e te) (hs : swapsWith e (some (.Name x pos')) pos.line X.env = pure false := by rfl) (hf : X.fn x = true ∨ X.env.scope.names.lookup x = some .local := by first | exact .inl rfl | exact .inr rfl | assumption) :
    PS X (.Assign [.Name x pos'] e pos) (tAsg te (gName i)) := by
  intro pins s σ H D I h
  refine wpAny_Assign_Name (thn (he pins s σ H _ I h) fun v s1 ⟨y, H1, I1, r1, q1⟩ => ?_) hs
  exact store_ok I1 hN hi hx r1 (fun s2 I2 => ⟨_, H1, I2, q1⟩) hf
/-- a, b = x, y with plain local names: stored from the right; the pair itself is not tracked (the opening rows as in PyProof/Rows/TupAssign.lean:23) -/
def tPar (i j : Nat) (ta : TA) : TS := fun D σ H => ta σ H fun vs H1 => ∃ v w, vs = [v, w] ∧ D.nx ((σ.set i (some v)).set j (some w)) H1
theorem ps_par {i j : Nat} {x y : Str} {a b : Expr} {ta : TA} {px py pt : Pos} {kt k2 pt2} (hc : X.calm = true) (hN : X.N.Nodup) (hi : X.N[i]? = some x) (hj : X.N[j]? = some y) (hij : i ≠ j)
    (hx : X.env.scope.names.lookup x = some .local) (hy : X.env.scope.names.lookup y = some .local) (ha : PA X [a, b] ta)
    (hw : swappedStores [.Tuple [.Name x px, .Name y py] kt pt] (.Tuple [a, b] k2 pt2) X.env = pure (some [x, y]))
    (hs : swapsWithSole [.Tuple [.Name x px, .Name y py] kt pt] (.Tuple [a, b] k2 pt2) pos.line X.env = pure false := by rfl) :
    PS X (.Assign [.Tuple [.Name x px, .Name y py] kt pt] (.Tuple [a, b] k2 pt2) pos) (tPar i j ta) := by
  intro pins s σ H D I h
  rw [exec_Assign_arm]
  refine wpAny_bind (wpAny_standAt ?_)
  rw [hs]
  refine wpAny_bind (wpAny_pure ?_)
  rw [if_neg (by decide)]
  refine wpAny_bind (Tuple_ (thn (ha _ pins s σ H _ I h) fun us s1 ⟨vs, H1, I1, r1, q1⟩ => ?_))
  obtain ⟨v, w, e1, q1⟩ := q1
  subst e1
  obtain ⟨u1, u2, rfl, rv, rw'⟩ : ∃ u1 u2, us = [u1, u2] ∧ RelV v u1 ∧ RelV w u2 := by
    cases r1 with
    | cons p q =>
      cases q with
      | cons p' q' =>
        cases q'
        exact ⟨_, _, rfl, p, p'⟩
  refine wpAny_newObj_type ?_ (by show 2 ≤ sizeLine; decide)
  have I2 : Inv X pins σ H1 { s1 with heap := s1.heap.push { cls := .type "tuple", data := .seq [u1, u2].toArray } } := I1.kept (t' := s1.toks) fun b o e => Heap.get?_push_of_some _ e
  rw [hw]
  refine wpAny_bind (wpAny_pure ?_)
  show wpAny (model X.prog X.w) X.A (do rule "assign.swapped-stores"; let items ← unpackItems (.ref s1.heap.objs.size) 2 none; assignInOrder [fun v => bindName X.env y v, fun v => bindName X.env x v] items.reverse; pure Flow.next) _ _ _
  refine wpAny_bind (wpAny_rule (wpAny_bind (unpackItems_tuple (items := #[u1, u2]) (I.ok.hd hc) (IsTup.new s1.heap _) fun h' hx' => ?_)))
  have I3 := I2.kept (h' := h') (t' := s1.toks) fun b o e => hx' b o (Nat.ne_of_lt (Heap.lt_size e)) e
  show wpAny _ _ (assignInOrder [fun v => bindName X.env y v, fun v => bindName X.env x v] [u2, u1] >>= fun _ => pure Flow.next) _ _ _
  refine wpAny_bind (assignInOrder_cons (wpAny_bindName (store_ok I3 hN hj (.inl hy) rw' (fun s2 I4 => ?_) (.inr hy))))
  refine assignInOrder_cons (wpAny_bindName (store_ok I4 hN hi (.inl hx) rv (fun s3 I5 => assignInOrder_nil (wpAny_pure ?_)) (.inr hx)))
  rw [List.set_comm _ _ (Ne.symm hij)] at I5
  exact ⟨_, H1, I5, q1⟩
end
section
variable {X : Cx} {pos : Pos}
end
/-- at turn i: it yields x (the heap may grow), or it stops -/
structure It where
  go : Nat → Hp → Prop
  yld : Nat → Hp → V → Hp → Prop
  stop : Nat → Hp → Prop
/-- the iterator's own objects may turn: they are not the frame's, not pinned, younger than the entry (or a comprehension's own) -/
def FpOk (X : Cx) (pins : List (Addr × Obj)) (H : Hp) (b : Addr) : Prop :=
  H b = none ∧ b ≠ X.env.locals ∧ b ∉ X.fs ∧ (b ∈ X.ex ∨ X.s_0.heap.objs.size ≤ b) ∧ (∀ x c, X.env.cells.lookup x = some c → c ≠ b) ∧ ∀ p ∈ X.pn ++ pins, p.1 ≠ b
theorem Inv.fpOk {X : Cx} {pins : List (Addr × Obj)} {σ : St} {H H' : Hp} {s : Shared} {b : Addr} (I : Inv X pins σ H s) (hb : s.heap.objs.size ≤ b) (hn : H' b = none) : FpOk X pins H' b := by
  refine ⟨hn, Nat.ne_of_gt (Nat.lt_of_lt_of_le I.lt hb), I.nofs hb, .inr (Nat.le_trans I.sz hb), fun x c e z => ?_, fun p hp z => ?_⟩
  · obtain ⟨v, q⟩ := I.cell x c e
    exact absurd (Nat.lt_of_lt_of_le q.lt (by rw [z]; exact hb)) (Nat.lt_irrefl _)
  · exact absurd (Nat.lt_of_lt_of_le (Heap.lt_size (I.pin p hp).1) (by rw [z]; exact hb)) (Nat.lt_irrefl _)
structure Turn (P : Program) (w : World) (K : PySem.W.Frag) (tg : Expr) (J : It) (fp : List Addr) (it : Addr) (tn : Nat → Heap → Prop) : Prop where
  mem : it ∈ fp
  obj : ∀ i h, tn i h → ∀ b ∈ fp, ∃ o, h.get? b = some o ∧ ∀ v, o.data ≠ .cell v
  keep : ∀ i h h', tn i h → (∀ b ∈ fp, ∀ o, h.get? b = some o → h'.get? b = some o) → tn i h'
  item : ∀ (X : Cx), X.prog = P → X.w = w → X.K = K → X.calm = true → ∀ (i : Nat) (pins : List (Addr × Obj)) (s : Shared) (σ : St) (H : Hp) (E : Value → Shared → Prop), Inv X pins σ H s → (∀ b ∈ fp, FpOk X pins H b) → tn i s.heap → J.go i H →
    wpAny (model P w) X.A (pyNext (.ref it)) (fun r s1 => ∃ u, r = some u ∧
      wpAny (model P w) X.A (letOwnedTupleGo tg (.ref it) u) (fun _ s2 => ∃ x H', Inv X pins σ H' s2 ∧ RelV x u ∧ J.yld i H x H' ∧ tn (i + 1) s2.heap ∧ ∀ b ∈ fp, H' b = none) E s1) E s
  done : ∀ (X : Cx), X.prog = P → X.w = w → X.K = K → X.calm = true → ∀ (i : Nat) (pins : List (Addr × Obj)) (s : Shared) (σ : St) (H : Hp) (E : Value → Shared → Prop), Inv X pins σ H s → (∀ b ∈ fp, FpOk X pins H b) → tn i s.heap → J.stop i H →
    wpAny (model P w) X.A (pyNext (.ref it)) (fun r s1 => r = none ∧ Inv X pins σ H s1) E s
  self : ∀ (A : Around) (i : Nat) (s : Shared) (Q : Value → Shared → Prop) (E : Value → Shared → Prop), tn i s.heap → Q (.ref it) s → wpAny (model P w) A (pyIter (.ref it)) Q E s
abbrev TI := St → Hp → (It → Hp → Prop) → Prop
/-- an iterator has come -/
def PIE (X : Cx) (pins : List (Addr × Obj)) (σ : St) (tg : Expr) (R : It → Hp → Prop) (itv : Value) (s2 : Shared) : Prop :=
  ∃ (it : Addr) (fp : List Addr) (tn : Nat → Heap → Prop) (J : It) (H' : Hp), itv = .ref it ∧ Inv X pins σ H' s2 ∧ Turn X.prog X.w X.K tg J fp it tn ∧ tn 0 s2.heap ∧ (∀ b ∈ fp, FpOk X pins H' b) ∧ R J H'
def PI (X : Cx) (tg iter : Expr) (wi : TI) : Prop :=
  ∀ (pins : List (Addr × Obj)) (s : Shared) (σ : St) (H : Hp) (R : It → Hp → Prop), Inv X pins σ H s → wi σ H R →
    wpAny (model X.prog X.w) X.A (eval iter X.env) (fun v s1 => wpAny (model X.prog X.w) X.A (pyIter v) (PIE X pins σ tg R) X.xe s1) X.xe s
/-- the step ahead of the store is nothing for an iterator that keeps no tuple -/
theorem go_of {M : Model} {A : Around} {E : Value → Shared → Prop} {s : Shared} {tg : Expr} {it : Addr} {u : Value} {o : Obj} {n : String} {vs : Array Value} {Q : Unit → Shared → Prop} (ho : s.heap.get? it = some o) (hc : o.cls = .type n) (hd : o.data = .fields vs)
    (hn : ["enumerate", "zip", "dict_itemiterator", "dict_reverseitemiterator", "odict_iterator", "itertools.zip_longest", "itertools.pairwise"].contains n = false) (hQ : Q () s) : wpAny M A (letOwnedTupleGo tg (.ref it) u) Q E s := by
  unfold letOwnedTupleGo
  cases tg <;> first
    | exact wpAny_pure hQ
    | (cases u <;> first
        | exact wpAny_pure hQ
        | (refine wpAny_bind (wpAny_load ho ?_)
           rw [hc, hd]
           show wpAny M A (if (["enumerate", "zip", "dict_itemiterator", "dict_reverseitemiterator", "odict_iterator", "itertools.zip_longest", "itertools.pairwise"].contains n && vs[0]? == some (rawInt _)) = true then _ else _) Q E s
           rw [if_neg (by intro h; rw [hn, Bool.false_and] at h; cases h)]
           exact wpAny_pure hQ))
/-- the list at a, as it stands at each turn (a loop may append to it) -/
def Itl (K : PySem.W.Frag) (a : Addr) : It :=
  ⟨fun i H => ∃ xs x, SqL K H a xs ∧ xs[i]? = some x, fun i H x H' => H' = H ∧ ∀ xs, SqL K H a xs → xs[i]? = some x, fun i H => ∃ xs, SqL K H a xs ∧ xs.length ≤ i⟩
def Itt (K : PySem.W.Frag) (a : Addr) : It :=
  ⟨fun i H => ∃ xs x, SqT K H a xs ∧ xs[i]? = some x, fun i H x H' => H' = H ∧ ∀ xs, SqT K H a xs → xs[i]? = some x, fun i H => ∃ xs, SqT K H a xs ∧ xs.length ≤ i⟩
/-- lo, lo + 1, .. (n of them) -/
def Itr (lo : Int) (n : Nat) : It := ⟨fun i _ => i < n, fun i H x H' => H' = H ∧ x = .int (lo + i), fun i _ => n ≤ i⟩
theorem turn_list {P : Program} {w : World} {K : PySem.W.Frag} {tg : Expr} (a it : Addr) : Turn P w K tg (Itl K a) [it] it (fun i h => h.IsListIter it a i) where
  mem := by simp
  obj := fun i h st b hb => by
    have e : b = it := by simpa using hb
    subst e
    obtain ⟨o, e, c, d⟩ := st
    exact ⟨o, e, fun v z => by rw [d] at z; cases z⟩
  keep := fun i h h' st k => st.at fun o e => k it (by simp) o e
  item := by
    intro X hP hw hK hc i pins s σ H E I hf st hg
    subst hP hw hK
    obtain ⟨xs, x, hq, hx⟩ := hg
    obtain ⟨its, rv, p, hz⟩ := I.list hq
    obtain ⟨u, hu, ru⟩ := rv.get hx
    obtain ⟨f0, f1, f2, f3, f4, f5⟩ := hf it (by simp)
    refine wpAny_pyNext_list_item st p.isList (x := u) (by simpa using hu) fun h' st' sb => ?_
    have I1 : Inv X pins σ H { s with heap := h' } := I.turned (t' := s.toks) (fun b o hb e => (sb.2 b hb).trans e) f0 f1 f3 f4 f5
    obtain ⟨o, e, c, d⟩ := id st'
    exact ⟨u, rfl, go_of (s := { s with heap := h' }) e c d (by decide) ⟨x, H, I1, ru, ⟨rfl, fun ys hy => by rw [I.list_inj hy hq]; exact hx⟩, st', fun b hb => (hf b hb).1⟩⟩
  done := by
    intro X hP hw hK hc i pins s σ H E I hf st hg
    subst hP hw hK
    obtain ⟨xs, hq, hx⟩ := hg
    obtain ⟨its, rv, p, hz⟩ := I.list hq
    obtain ⟨f0, f1, f2, f3, f4, f5⟩ := hf it (by simp)
    have hl := rv.length
    exact wpAny_pyNext_list_end (I.ok.hd hc) st p.isList (by simp; omega) fun h' eb => ⟨rfl, I.turned (t' := s.toks) (fun b o hb e => eb b o hb e) f0 f1 f3 f4 f5⟩
  self := fun _ _ _ _ _ st h => wpAny_pyIter_listiter st h
theorem turn_tuple {P : Program} {w : World} {K : PySem.W.Frag} {tg : Expr} (a it : Addr) : Turn P w K tg (Itt K a) [it] it (fun i h => h.IsTupleIter it a i) where
  mem := by simp
  obj := fun i h st b hb => by
    have e : b = it := by simpa using hb
    subst e
    obtain ⟨o, e, c, d⟩ := st
    exact ⟨o, e, fun v z => by rw [d] at z; cases z⟩
  keep := fun i h h' st k => st.at fun o e => k it (by simp) o e
  item := by
    intro X hP hw hK hc i pins s σ H E I hf st hg
    subst hP hw hK
    obtain ⟨xs, x, hq, hx⟩ := hg
    obtain ⟨its, rv, p, hz⟩ := I.tuple hq
    obtain ⟨u, hu, ru⟩ := rv.get hx
    obtain ⟨f0, f1, f2, f3, f4, f5⟩ := hf it (by simp)
    refine wpAny_pyNext_tuple_item st (show s.heap.IsTuple a its.toArray from p) (x := u) (by simpa using hu) fun h' st' sb => ?_
    have I1 : Inv X pins σ H { s with heap := h' } := I.turned (t' := s.toks) (fun b o hb e => (sb.2 b hb).trans e) f0 f1 f3 f4 f5
    obtain ⟨o, e, c, d⟩ := id st'
    exact ⟨u, rfl, go_of (s := { s with heap := h' }) e c d (by decide) ⟨x, H, I1, ru, ⟨rfl, fun ys hy => by rw [I.tuple_inj hy hq]; exact hx⟩, st', fun b hb => (hf b hb).1⟩⟩
  done := by
    intro X hP hw hK hc i pins s σ H E I hf st hg
    subst hP hw hK
    obtain ⟨xs, hq, hx⟩ := hg
    obtain ⟨its, rv, p, hz⟩ := I.tuple hq
    obtain ⟨f0, f1, f2, f3, f4, f5⟩ := hf it (by simp)
    have hl := rv.length
    exact wpAny_pyNext_tuple_end (I.ok.hd hc) st (show s.heap.IsTuple a its.toArray from p) (by simp; omega) fun h' eb => ⟨rfl, I.turned (t' := s.toks) (fun b o hb e => eb b o hb e) f0 f1 f3 f4 f5⟩
  self := fun _ _ _ _ _ st h => wpAny_pyIter_tupleiter st h
theorem turn_range {P : Program} {w : World} {K : PySem.W.Frag} {tg : Expr} (it : Addr) (lo : Int) (n : Nat) : Turn P w K tg (Itr lo n) [it] it (fun i h => IsRangeIter h it (lo + (i : Nat) * 1) ((n : Int) - (i : Nat)) 1) where
  mem := by simp
  obj := fun i h st b hb => by
    have e : b = it := by simpa using hb
    subst e
    exact ⟨_, st, fun v z => by
      have z' : Data.fields _ = Data.cell v := z
      cases z'⟩
  keep := fun i h h' st k => k it (by simp) _ st
  item := by
    intro X hP hw hK hc i pins s σ H E I hf st hg
    subst hP hw hK
    obtain ⟨f0, f1, f2, f3, f4, f5⟩ := hf it (by simp)
    have W := Walks.range (prog := X.prog) (w := X.w) (I.ok.hd hc) it lo 1 n
    refine W.item i s _ _ hg st fun v h' tk hv st' kk => ?_
    obtain ⟨t, rfl⟩ := hv
    have I1 : Inv X pins σ H { s with heap := h', toks := tk } := I.turned (fun b o hb e => kk b o (by simpa using hb) e) f0 f1 f3 f4 f5
    refine ⟨_, rfl, go_of (s := { s with heap := h', toks := tk }) (n := "range_iterator") st' rfl rfl (by decide) ⟨.int (lo + i), H, I1, ⟨t, ?_⟩, ⟨rfl, rfl⟩, st', fun b hb => (hf b hb).1⟩⟩
    rw [Int.mul_one]
  done := by
    intro X hP hw hK hc i pins s σ H E I hf st hg
    subst hP hw hK
    obtain ⟨f0, f1, f2, f3, f4, f5⟩ := hf it (by simp)
    exact wpAny_pyNext_range_end (I.ok.hd hc) st (by have : n ≤ i := hg; omega) fun h' eb => ⟨rfl, I.turned (t' := s.toks) (fun b o hb e => eb b o hb e) f0 f1 f3 f4 f5⟩
  self := fun _ _ _ _ _ st h => wpAny_pyIter_rangeiter st h
end L2
namespace L2
open PySem PySem.Spec PyProof.Rows
section
variable {X : Cx} {tg : Expr}
def iList (K : PySem.W.Frag) (tl : TE) : TI := fun σ H R => tl σ H fun x H1 => ∃ a, x = .ref a ∧ (∃ xs, SqL K H1 a xs) ∧ R (Itl K a) H1
theorem pi_list {l : Expr} {tl : TE} (hl : PE X l tl) : PI X tg l (iList X.K tl) := by
  intro pins s σ H R I h
  refine thn (hl pins s σ H _ I h) fun v s1 ⟨x, H1, I1, r1, q1⟩ => ?_
  obtain ⟨a, e, ⟨xs, hq⟩, q⟩ := q1
  subst e
  cases r1
  obtain ⟨its, rv, p, hz⟩ := I1.list hq
  refine wpAny_pyIter_list p.isList ?_
  refine ⟨s1.heap.objs.size, [s1.heap.objs.size], _, _, H1, rfl, I1.kept (t' := s1.toks) fun b o e => Heap.get?_push_of_some _ e, turn_list a _, ⟨_, Heap.get?_push_size _ rfl, rfl, rfl⟩, fun b hb => ?_, q⟩
  have e : b = s1.heap.objs.size := by simpa using hb
  subst e
  exact I1.fpOk (Nat.le_refl _) (I1.hok.fresh (Nat.le_refl _))
/-- a range object just made, walked -/
theorem range_it {pins : List (Addr × Obj)} {σ : St} {H : Hp} {s : Shared} {R : It → Hp → Prop} {E : Value → Shared → Prop} {lo hi : Int} {t u v : Tok} {tk : Nat} (I : Inv X pins σ H s) (h1 : -(2 ^ 62) ≤ lo) (h2 : lo < 2 ^ 62) (h3 : -(2 ^ 62) ≤ hi) (h4 : hi < 2 ^ 62)
    (q : R (Itr lo (hi - lo).toNat) H) : wpAny (model X.prog X.w) X.A (pyIter (.ref s.heap.objs.size)) (PIE X pins σ tg R) E { s with heap := s.heap.push { cls := .type "range", data := .fields #[.int lo t, .int hi u, .int 1 v] }, toks := tk } := by
  refine wpAny_pyIter_range (IsRange.new ..) (small_one h1 h2 h3 h4) ?_
  have I1 : Inv X pins σ H { s with heap := s.heap.push { cls := .type "range", data := .fields #[.int lo t, .int hi u, .int 1 v] }, toks := tk } := I.kept fun b o e => Heap.get?_push_of_some _ e
  refine ⟨(s.heap.push { cls := .type "range", data := .fields #[.int lo t, .int hi u, .int 1 v] }).objs.size, [(s.heap.push { cls := .type "range", data := .fields #[.int lo t, .int hi u, .int 1 v] }).objs.size], _, _, H, rfl,
    I1.kept (t' := tk) fun b o e => Heap.get?_push_of_some _ e, turn_range _ lo (hi - lo).toNat, ?_, fun b hb => ?_, q⟩
  · have e1 : lo + ((0 : Nat) : Int) * 1 = lo := by simp
    have e2 : (((hi - lo).toNat : Nat) : Int) - ((0 : Nat) : Int) = Builtin.Range.rangeSize lo hi 1 := by rw [rangeSize_one]; split <;> omega
    show IsRangeIter _ _ (lo + ((0 : Nat) : Int) * 1) ((((hi - lo).toNat : Nat) : Int) - ((0 : Nat) : Int)) 1
    rw [e1, e2]
    exact Heap.get?_push_size _ rfl
  · have e : b = (s.heap.push { cls := .type "range", data := .fields #[.int lo t, .int hi u, .int 1 v] }).objs.size := by simpa using hb
    subst e
    exact I1.fpOk (Nat.le_refl _) (I1.hok.fresh (Nat.le_refl _))
def iRng1 (ta : TA) : TI := fun σ H R => ta σ H fun vs H1 => ∃ j : Int, vs = [.int j] ∧ -(2 ^ 62) ≤ j ∧ j < 2 ^ 62 ∧ R (Itr 0 j.toNat) H1
theorem pi_range1 {a : Expr} {ta : TA} {p pos : Pos} (hg : Gl X "range") (hm : X.mg "range" = none) (ha : PA X [a] ta) (hs : starEach [a] X.env = [(false, eval a X.env)] := by rfl) : PI X tg (.Call (.Name "range" p) [a] [] pos) (iRng1 ta) := by
  intro pins s σ H R I h
  refine Call_ (ld_blt I hg hm boot_range (PyProof.Rows.callWith_type1 (thn (ha pos pins s σ H _ I h) fun us s1 ⟨vs, H1, I1, r1, q1⟩ => ?_) hs rfl))
  obtain ⟨j, e, q1, q2, q⟩ := q1
  subst e
  cases r1 with
  | cons r rr =>
    cases rr
    obtain ⟨t, rfl⟩ := r
    exact call_range_1 (range_it I1 (by omega) (by omega) q1 q2 (by simpa using q))
/-- W: the invariant by the turn and a measure; N: what the body is to reach -/
def tFor (wi : TI) (g : TG) (tb : TS) : TS := fun D σ H => wi σ H fun J H1 => ∃ W : Nat → Nat → St → Hp → Prop, (∃ m, W 0 m σ H1) ∧ ∀ i m σ H, W i m σ H →
  (J.stop i H ∧ D.nx σ H) ∨ (J.go i H ∧ ∃ N : St → Hp → Prop, (∀ σ' H', N σ' H' → ∃ m', m' < m ∧ W (i + 1) m' σ' H') ∧ ∀ x H', J.yld i H x H' → g x σ H' fun σ2 H2 => tb { D with nx := N, ct := N, bk := D.nx } σ2 H2)
/-- the records at fp as they stand -/
def pinsAt (fp : List Addr) (h : Heap) : List (Addr × Obj) := fp.filterMap fun b => (h.get? b).map fun o => (b, o)
theorem mem_pinsAt {fp : List Addr} {h : Heap} {b : Addr} {o : Obj} (hb : b ∈ fp) (e : h.get? b = some o) : (b, o) ∈ pinsAt fp h := List.mem_filterMap.mpr ⟨b, hb, by rw [e]; rfl⟩
theorem of_pinsAt {fp : List Addr} {h : Heap} {p : Addr × Obj} (hp : p ∈ pinsAt fp h) : p.1 ∈ fp ∧ h.get? p.1 = some p.2 := by
  obtain ⟨b, hb, e⟩ := List.mem_filterMap.mp hp
  cases q : h.get? b with
  | none => rw [q] at e; cases e
  | some o =>
    rw [q] at e
    have e' : (b, o) = p := Option.some.inj e
    subst e'
    exact ⟨hb, q⟩
theorem Inv.pinned {pins : List (Addr × Obj)} {σ : St} {H : Hp} {s : Shared} {fp : List Addr} (I : Inv X pins σ H s) (hf : ∀ b ∈ fp, FpOk X pins H b) (ho : ∀ b ∈ fp, ∃ o, s.heap.get? b = some o ∧ ∀ v, o.data ≠ .cell v) : Inv X (pins ++ pinsAt fp s.heap) σ H s :=
  I.pins_of fun p hp => (List.mem_append.mp hp).elim (fun z => I.pin p (List.mem_append_right _ z)) fun z => by
    obtain ⟨hb, e⟩ := of_pinsAt z
    obtain ⟨f0, f1, f2, _⟩ := hf p.1 hb
    obtain ⟨o, e', d⟩ := ho p.1 hb
    rw [e] at e'; cases e'
    exact ⟨e, f0, f1, f2, d⟩
theorem Inv.unpinned {pins pl : List (Addr × Obj)} {σ : St} {H : Hp} {s : Shared} (I : Inv X (pins ++ pl) σ H s) : Inv X pins σ H s := I.pins_of fun p hp => I.pin p (List.mem_append_right _ (List.mem_append_left _ hp))
theorem ps_for {iter : Expr} {body : List Stmt} {wi : TI} {g : TG} {tb : TS} {pos : Pos} (hp : PassesOwn (model X.prog X.w) X.A X.env X.xe) (hc : X.calm = true) (hi : PI X tg iter wi) (hg : PG X tg g) (hb : PSs X body tb)
    (hs : ∀ x, foldedSetIterable iter X.env x = pure x := by intro _; rfl) : PS X (.For tg iter body [] pos) (tFor wi g tb) := by
  intro pins s σ H D I h
  refine wpAny_For (thn (hi pins s σ H _ I h) fun v s1 h1 => thn h1 fun itv s2 h2 => ?_) hs
  obtain ⟨it, fp, tn, J, H2, e, I2, T, st2, f2, W, ⟨m0, w0⟩, turn⟩ := h2
  subst e
  -- what stays true of the iterator's objects through the loop
  have stat : ∀ {H' : Hp}, (∀ b ∈ fp, H' b = none) → ∀ b ∈ fp, FpOk X pins H' b := fun hn b hb => ⟨hn b hb, (f2 b hb).2⟩
  refine codeAny_forLoop_any (fun n s' => ∃ i σ' H', Inv X pins σ' H' s' ∧ tn i s'.heap ∧ (∀ b ∈ fp, H' b = none) ∧ W i n σ' H') ?_ m0 ⟨0, σ, H2, I2, st2, fun b hb => (f2 b hb).1, w0⟩
  rintro n s3 ⟨i, σ3, H3, I3, st3, fr3, w3⟩
  rcases turn i n σ3 H3 w3 with ⟨stop, qn⟩ | ⟨go, N, hN, step⟩
  · refine wpAny_passesOwn hp (thn (T.done X rfl rfl rfl hc i pins s3 σ3 H3 X.xe I3 (stat fr3) st3 stop) fun r s4 ⟨hr, I4⟩ => ?_)
    subst hr
    exact wpAny_execs_nil ⟨σ3, H3, I4, qn⟩
  · refine wpAny_passesOwn hp (thn (T.item X rfl rfl rfl hc i pins s3 σ3 H3 X.xe I3 (stat fr3) st3 go) fun r s4 ⟨u, hr, h4⟩ => ?_)
    subst hr
    refine wpAny_passesOwn hp (thn h4 fun _ s5 ⟨x, H5, I5, r5, y5, st5, fr5⟩ => ?_)
    have I5' := I5.pinned (stat fr5) (T.obj _ _ st5)
    refine wpAny_passesOwn hp (thn (hg _ s5 σ3 H5 x u _ I5' r5 (step x H5 y5)) fun _ s6 ⟨σ6, H6, I6, q6⟩ => ?_)
    refine wpAny_passesOwn hp (thn (hb _ s6 σ6 H6 _ I6 q6) fun f s7 q7 => ?_)
    have again : ∀ {σ7 : St} {H7 : Hp}, Inv X (pins ++ pinsAt fp s5.heap) σ7 H7 s7 → N σ7 H7 → ∃ m, m < n ∧ ∃ i σ' H', Inv X pins σ' H' s7 ∧ tn i s7.heap ∧ (∀ b ∈ fp, H' b = none) ∧ W i m σ' H' := fun {σ7 H7} I7 n7 => by
      obtain ⟨m', hm, w7⟩ := hN σ7 H7 n7
      refine ⟨m', hm, i + 1, σ7, H7, I7.unpinned, T.keep _ _ _ st5 fun b hb o e => (I7.pin (b, o) (List.mem_append_right _ (List.mem_append_right _ (mem_pinsAt hb e)))).1, fun b hb => ?_, w7⟩
      obtain ⟨o, e, d⟩ := T.obj _ _ st5 b hb
      exact (I7.pin (b, o) (List.mem_append_right _ (List.mem_append_right _ (mem_pinsAt hb e)))).2.1
    cases f with
    | next => obtain ⟨σ7, H7, I7, n7⟩ := q7; exact again I7 n7
    | cont => obtain ⟨σ7, H7, I7, n7⟩ := q7; exact again I7 n7
    | brk => obtain ⟨σ7, H7, I7, q7⟩ := q7; exact ⟨σ7, H7, I7.unpinned, q7⟩
    | ret v => obtain ⟨x7, σ7, H7, I7, r7, q7⟩ := q7; exact ⟨x7, σ7, H7, I7.unpinned, r7, q7⟩
end
/-- over a list that the body leaves as it is -/
theorem for_list {K : PySem.W.Frag} {a : Addr} {xs : List V} {g : TG} {tb : TS} {D : Ends} {σ : St} {H : Hp} (Pv : Nat → St → Hp → Prop) (h0 : Pv 0 σ H) (hl : ∀ i σ H, i ≤ xs.length → Pv i σ H → SqL K H a xs)
    (hs : ∀ i x σ H, xs[i]? = some x → Pv i σ H → g x σ H fun σ2 H2 => tb { D with nx := Pv (i + 1), ct := Pv (i + 1), bk := D.nx } σ2 H2) (hd : ∀ σ H, Pv xs.length σ H → D.nx σ H) :
    ∃ W : Nat → Nat → St → Hp → Prop, (∃ m, W 0 m σ H) ∧ ∀ i m σ H, W i m σ H →
      ((Itl K a).stop i H ∧ D.nx σ H) ∨ ((Itl K a).go i H ∧ ∃ N : St → Hp → Prop, (∀ σ' H', N σ' H' → ∃ m', m' < m ∧ W (i + 1) m' σ' H') ∧ ∀ x H', (Itl K a).yld i H x H' → g x σ H' fun σ2 H2 => tb { D with nx := N, ct := N, bk := D.nx } σ2 H2) := by
  refine ⟨fun i m σ H => m = xs.length - i ∧ i ≤ xs.length ∧ Pv i σ H, ⟨xs.length, by simp, Nat.zero_le _, h0⟩, ?_⟩
  rintro i m σ H ⟨rfl, hi, p⟩
  have q := hl i σ H hi p
  by_cases hlt : i < xs.length
  · refine .inr ⟨⟨xs, xs[i], q, by simp [hlt]⟩, Pv (i + 1), fun σ' H' p' => ⟨xs.length - (i + 1), by omega, rfl, hlt, p'⟩, fun x H' y => ?_⟩
    obtain ⟨e, y⟩ := y
    subst e
    exact hs i x σ _ (y xs q) p
  · have e : i = xs.length := by omega
    subst e
    exact .inl ⟨⟨xs, q, Nat.le_refl _⟩, hd σ H p⟩
theorem for_range {lo : Int} {n : Nat} {g : TG} {tb : TS} {D : Ends} {σ : St} {H : Hp} (Pv : Nat → St → Hp → Prop) (h0 : Pv 0 σ H)
    (hs : ∀ i σ H, i < n → Pv i σ H → g (.int (lo + i)) σ H fun σ2 H2 => tb { D with nx := Pv (i + 1), ct := Pv (i + 1), bk := D.nx } σ2 H2) (hd : ∀ σ H, Pv n σ H → D.nx σ H) :
    ∃ W : Nat → Nat → St → Hp → Prop, (∃ m, W 0 m σ H) ∧ ∀ i m σ H, W i m σ H →
      ((Itr lo n).stop i H ∧ D.nx σ H) ∨ ((Itr lo n).go i H ∧ ∃ N : St → Hp → Prop, (∀ σ' H', N σ' H' → ∃ m', m' < m ∧ W (i + 1) m' σ' H') ∧ ∀ x H', (Itr lo n).yld i H x H' → g x σ H' fun σ2 H2 => tb { D with nx := N, ct := N, bk := D.nx } σ2 H2) := by
  refine ⟨fun i m σ H => m = n - i ∧ i ≤ n ∧ Pv i σ H, ⟨n, by simp, Nat.zero_le _, h0⟩, ?_⟩
  rintro i m σ H ⟨rfl, hi, p⟩
  by_cases hlt : i < n
  · refine .inr ⟨hlt, Pv (i + 1), fun σ' H' p' => ⟨n - (i + 1), by omega, rfl, hlt, p'⟩, fun x H' y => ?_⟩
    obtain ⟨e, y⟩ := y
    subst e y
    exact hs i σ _ hlt p
  · have e : i = n := by omega
    subst e
    exact .inl ⟨Nat.le_refl _, hd σ H p⟩
end L2
namespace L2
open PySem PySem.Spec PyProof.Rows
abbrev R2 := V → V → Hp → VK → Prop
/-- a two-place operation on values: f is binaryOp op, inplaceOp op or compareOp op -/
def OpR (X : Cx) (f : Value → Value → Sem Value) (r : R2) : Prop :=
  ∀ (pins : List (Addr × Obj)) (s : Shared) (σ : St) (H : Hp) (x y : V) (v u : Value) (Q : VK), Inv X pins σ H s → RelV x v → RelV y u → r x y H Q →
    wpAny (model X.prog X.w) X.A (f v u) (EP X pins σ Q) X.xe s
/-- a call of a value that is known (a builtin, a type) with values -/
def CallR (X : Cx) (f : Value) (r : List V → Hp → VK → Prop) : Prop :=
  ∀ (pins : List (Addr × Obj)) (s : Shared) (σ : St) (H : Hp) (xs : List V) (us : List Value) (Q : VK), Inv X pins σ H s → Vals xs us → r xs H Q →
    wpAny (model X.prog X.w) X.A (call f us) (EP X pins σ Q) X.xe s
def tOp (r : R2) (ta tb : TE) : TE := fun σ H Q => ta σ H fun x H1 => tb σ H1 fun y H2 => r x y H2 Q
/-- ints in, under C, and a value out -/
def rI (C : Int → Int → Prop) (g : Int → Int → V) : R2 := fun x y H Q => ∃ i j, x = .int i ∧ y = .int j ∧ C i j ∧ Q (g i j) H
def rI0 (g : Int → Int → V) : R2 := fun x y H Q => ∃ i j, x = .int i ∧ y = .int j ∧ Q (g i j) H
section
variable {X : Cx} {a b c : Expr} {ta tb tc : TE} {pos : Pos}
theorem binT (ha : PE X a ta) (hb : PE X b tb) {pins : List (Addr × Obj)} {s : Shared} {σ : St} {H : Hp} {R : V → V → Hp → Prop} (I : Inv X pins σ H s)
    (h : ta σ H fun x H1 => tb σ H1 fun y H2 => R x y H2) {Q : Value → Shared → Prop} {f : Value → Value → Sem Value}
    (hf : ∀ v u s2 x y H2, Inv X pins σ H2 s2 → RelV x v → RelV y u → R x y H2 → wpAny (model X.prog X.w) X.A (f v u) Q X.xe s2) :
    wpAny (model X.prog X.w) X.A (eval a X.env) (fun v s₁ => wpAny (model X.prog X.w) X.A (eval b X.env) (fun u s₂ => wpAny (model X.prog X.w) X.A (f v u) Q X.xe s₂) X.xe s₁) X.xe s := by
  refine thn (ha pins s σ H _ I h) fun v s1 ⟨x, H1, I1, r1, q1⟩ => ?_
  refine thn (hb pins s1 σ H1 _ I1 q1) fun u s2 ⟨y, H2, I2, r2, q2⟩ => ?_
  exact hf v u s2 x y H2 I2 r1 r2 q2
theorem pe_op {op : Operator} {r : R2} (ho : OpR X (binaryOp op) r) (ha : PE X a ta) (hb : PE X b tb) : PE X (.BinOp a op b pos) (tOp r ta tb) := by
  intro pins s σ H Q I h
  exact wpAny_BinOp (binT ha hb I h fun v u s2 x y H2 I2 rx ry q => ho pins s2 σ H2 x y v u Q I2 rx ry q)
theorem opI {f : Value → Value → Sem Value} {C : Int → Int → Prop} {g : Int → Int → Int}
    (rule : ∀ (i j : Int) (t u : Tok) (s : Shared) (Q : Value → Shared → Prop) (E : Value → Shared → Prop), C i j → Q (.int (g i j) s.toks) { s with toks := s.toks + 1 } → wpAny (model X.prog X.w) X.A (f (.int i t) (.int j u)) Q E s) :
    OpR X f (rI C fun i j => .int (g i j)) := by
  intro pins s σ H x y v u Q I rx ry h
  obtain ⟨i, j, rfl, rfl, hc, q⟩ := h
  obtain ⟨t, rfl⟩ := rx
  obtain ⟨t', rfl⟩ := ry
  exact rule i j t t' s _ _ hc ⟨.int (g i j), H, I.tok _, ⟨_, rfl⟩, q⟩
theorem opI0 {f : Value → Value → Sem Value} {g : Int → Int → Int}
    (rule : ∀ (i j : Int) (t u : Tok) (s : Shared) (Q : Value → Shared → Prop) (E : Value → Shared → Prop), Q (.int (g i j) s.toks) { s with toks := s.toks + 1 } → wpAny (model X.prog X.w) X.A (f (.int i t) (.int j u)) Q E s) :
    OpR X f (rI0 fun i j => .int (g i j)) := by
  intro pins s σ H x y v u Q I rx ry h
  obtain ⟨i, j, rfl, rfl, q⟩ := h
  obtain ⟨t, rfl⟩ := rx
  obtain ⟨t', rfl⟩ := ry
  exact rule i j t t' s _ _ ⟨.int (g i j), H, I.tok _, ⟨_, rfl⟩, q⟩
theorem opB0 {f : Value → Value → Sem Value} {g : Int → Int → Bool}
    (rule : ∀ (i j : Int) (t u : Tok) (s : Shared) (Q : Value → Shared → Prop) (E : Value → Shared → Prop), Q (.bool (g i j)) s → wpAny (model X.prog X.w) X.A (f (.int i t) (.int j u)) Q E s) :
    OpR X f (rI0 fun i j => .bl (g i j)) := by
  intro pins s σ H x y v u Q I rx ry h
  obtain ⟨i, j, rfl, rfl, q⟩ := h
  obtain ⟨t, rfl⟩ := rx
  obtain ⟨t', rfl⟩ := ry
  exact rule i j t t' s _ _ ⟨.bl (g i j), H, I, rfl, q⟩
def CPow (i j : Int) : Prop := 0 ≤ j ∧ j ≤ 1000000 ∧ i.natAbs < 2 ^ 64
def CMul (i j : Int) : Prop := (-(2 ^ 64) < i ∧ i < 2 ^ 64) ∨ (-(2 ^ 64) < j ∧ j < 2 ^ 64)
theorem CMul.ok {i j : Int} (h : CMul i j) : IntMulOk i j := by
  rcases h with ⟨h1, h2⟩ | ⟨h1, h2⟩
  · exact .of_left (intBits_le_64 h1 h2)
  · exact .of_right (intBits_le_64 h1 h2)
theorem op_add : OpR X (binaryOp .Add) (rI0 fun i j => .int (i + j)) := opI0 fun _ _ _ _ _ _ _ q => add_int q
theorem op_sub : OpR X (binaryOp .Sub) (rI0 fun i j => .int (i - j)) := opI0 fun _ _ _ _ _ _ _ q => sub_int q
theorem op_mul : OpR X (binaryOp .Mult) (rI CMul fun i j => .int (i * j)) := opI fun _ _ _ _ _ _ _ hc q => mul_int q hc.ok
/-- % by a positive divisor of any size -/
theorem op_mod : OpR X (binaryOp .Mod) (rI (fun _ j => 0 < j) fun i j => .int (i % j)) := opI fun i j _ _ _ _ _ hc q => by
  have h1 : (0 : Int) < j := hc
  exact mod_int' (by omega) (by rw [Int.fmod_eq_emod_of_nonneg i (by omega)]; exact q)
theorem op_pow : OpR X (binaryOp .Pow) (rI CPow fun i j => .int (i ^ j.toNat)) := opI fun _ _ _ _ _ _ _ hc q => pow_int_small hc.1 hc.2.1 hc.2.2 q
theorem op_xor : OpR X (binaryOp .BitXor) (rI0 fun i j => .int (Builtin.bitXor i j)) := opI0 fun _ _ _ _ _ _ _ q => xor_int q
end
/-- the scalars that == tells apart as data does -/
def scal : V → V → Bool
  | .non, .non => true | .non, .int _ => true | .int _, .non => true | .non, .bl _ => true | .bl _, .non => true | .non, .str _ => true | .str _, .non => true
  | .int _, .int _ => true | .bl _, .bl _ => true | .str _, .str _ => true | .byt _, .byt _ => true
  | .int _, .str _ => true | .str _, .int _ => true | .bl _, .str _ => true | .str _, .bl _ => true
  | _, _ => false
def rEq : R2 := fun x y H Q => scal x y = true ∧ Q (.bl (decide (x = y))) H
def rNe : R2 := fun x y H Q => scal x y = true ∧ Q (.bl (!decide (x = y))) H
theorem dec_int {i j : Int} : decide (V.int i = V.int j) = (i == j) := by
  rw [Bool.eq_iff_iff]
  simp
theorem dec_bl {i j : Bool} : decide (V.bl i = V.bl j) = (i == j) := by
  rw [Bool.eq_iff_iff]
  simp
theorem dec_str {i j : Str} : decide (V.str i = V.str j) = (i == j) := by
  rw [Bool.eq_iff_iff]
  simp
theorem dec_byt {i j : Array UInt8} : decide (V.byt i = V.byt j) = (i.toList == j.toList) := by
  rw [Bool.eq_iff_iff]
  cases i
  cases j
  simp
section
variable {X : Cx} {a b c : Expr} {ta tb tc : TE} {pos : Pos}
theorem fin_bl {pins : List (Addr × Obj)} {σ : St} {H : Hp} {s : Shared} {Q : VK} {k k' : Bool} (I : Inv X pins σ H s) (q : Q (.bl k) H) (e : k = k') : EP X pins σ Q (.bool k') s := by
  subst e
  exact ⟨.bl k, H, I, rfl, q⟩
theorem op_eq : OpR X (compareOp .Eq) rEq := by
  intro pins s σ H x y v u Q I rx ry h
  obtain ⟨hs, q⟩ := h
  cases x with
  | non =>
    cases rx
    cases y with
    | non => cases ry; exact PySem.EqNone.eq_none_none (fin_bl I q (by simp))
    | bl j => cases ry; exact PySem.EqNone.eq_none_bool (fin_bl I q (by simp))
    | int j => obtain ⟨t', rfl⟩ := ry; exact PySem.EqNone.eq_none_int (fin_bl I q (by simp))
    | str j => obtain ⟨t', rfl⟩ := ry; exact PySem.EqNone.eq_none_str (fin_bl I q (by simp))
    | _ => exact absurd (show false = true from hs) Bool.false_ne_true
  | bl i =>
    cases rx
    cases y with
    | non => cases ry; exact PySem.EqNone.eq_bool_none (fin_bl I q (by simp))
    | bl j => cases ry; exact eq_bool (fin_bl I q dec_bl)
    | str j => obtain ⟨t', rfl⟩ := ry; exact PySem.EqMixed.eq_bool_str (fin_bl I q (by simp))
    | _ => exact absurd (show false = true from hs) Bool.false_ne_true
  | int i =>
    obtain ⟨t, rfl⟩ := rx
    cases y with
    | non => cases ry; exact PySem.EqNone.eq_int_none (fin_bl I q (by simp))
    | int j => obtain ⟨t', rfl⟩ := ry; exact eq_int (fin_bl I q dec_int)
    | str j => obtain ⟨t', rfl⟩ := ry; exact PySem.EqMixed.eq_int_str (fin_bl I q (by simp))
    | _ => exact absurd (show false = true from hs) Bool.false_ne_true
  | str i =>
    obtain ⟨t, rfl⟩ := rx
    cases y with
    | non => cases ry; exact PySem.EqNone.eq_str_none (fin_bl I q (by simp))
    | bl j => cases ry; exact PySem.EqMixed.eq_str_bool (fin_bl I q (by simp))
    | int j => obtain ⟨t', rfl⟩ := ry; exact PySem.EqMixed.eq_str_int (fin_bl I q (by simp))
    | str j => obtain ⟨t', rfl⟩ := ry; exact eq_str (fin_bl I q dec_str)
    | _ => exact absurd (show false = true from hs) Bool.false_ne_true
  | byt i =>
    obtain ⟨t, rfl⟩ := rx
    cases y with
    | byt j => obtain ⟨t', rfl⟩ := ry; exact PySem.W.eq_bytes (fin_bl I q dec_byt)
    | _ => exact absurd (show false = true from hs) Bool.false_ne_true
  | _ => cases y <;> exact absurd (show false = true from hs) Bool.false_ne_true
theorem op_ne : OpR X (compareOp .NotEq) rNe := by
  intro pins s σ H x y v u Q I rx ry h
  obtain ⟨hs, q⟩ := h
  cases x with
  | non =>
    cases rx
    cases y with
    | non => cases ry; exact PySem.EqNone.ne_none_none (fin_bl I q (by simp))
    | bl j => cases ry; exact PySem.EqNone.ne_none_bool (fin_bl I q (by simp))
    | int j => obtain ⟨t', rfl⟩ := ry; exact PySem.EqNone.ne_none_int (fin_bl I q (by simp))
    | str j => obtain ⟨t', rfl⟩ := ry; exact PySem.EqNone.ne_none_str (fin_bl I q (by simp))
    | _ => exact absurd (show false = true from hs) Bool.false_ne_true
  | bl i =>
    cases rx
    cases y with
    | non => cases ry; exact PySem.EqNone.ne_bool_none (fin_bl I q (by simp))
    | bl j => cases ry; exact ne_bool (fin_bl I q (congrArg not dec_bl))
    | str j => obtain ⟨t', rfl⟩ := ry; exact PySem.EqMixed.ne_bool_str (fin_bl I q (by simp))
    | _ => exact absurd (show false = true from hs) Bool.false_ne_true
  | int i =>
    obtain ⟨t, rfl⟩ := rx
    cases y with
    | non => cases ry; exact PySem.EqNone.ne_int_none (fin_bl I q (by simp))
    | int j => obtain ⟨t', rfl⟩ := ry; exact ne_int (fin_bl I q (congrArg not dec_int))
    | str j => obtain ⟨t', rfl⟩ := ry; exact PySem.EqMixed.ne_int_str (fin_bl I q (by simp))
    | _ => exact absurd (show false = true from hs) Bool.false_ne_true
  | str i =>
    obtain ⟨t, rfl⟩ := rx
    cases y with
    | non => cases ry; exact PySem.EqNone.ne_str_none (fin_bl I q (by simp))
    | bl j => cases ry; exact PySem.EqMixed.ne_str_bool (fin_bl I q (by simp))
    | int j => obtain ⟨t', rfl⟩ := ry; exact PySem.EqMixed.ne_str_int (fin_bl I q (by simp))
    | str j => obtain ⟨t', rfl⟩ := ry; exact ne_str (fin_bl I q (congrArg not dec_str))
    | _ => exact absurd (show false = true from hs) Bool.false_ne_true
  | byt i =>
    obtain ⟨t, rfl⟩ := rx
    cases y with
    | byt j => obtain ⟨t', rfl⟩ := ry; exact PySem.W.ne_bytes (fin_bl I q (congrArg not dec_byt))
    | _ => exact absurd (show false = true from hs) Bool.false_ne_true
  | _ => cases y <;> exact absurd (show false = true from hs) Bool.false_ne_true
theorem op_lt : OpR X (compareOp .Lt) (rI0 fun i j => .bl (decide (i < j))) := opB0 fun _ _ _ _ _ _ _ q => lt_int q
theorem op_gt : OpR X (compareOp .Gt) (rI0 fun i j => .bl (decide (j < i))) := opB0 fun _ _ _ _ _ _ _ q => gt_int q
/-- is None, is not None: the right side a value none -/
theorem op_isN : OpR X (compareOp .Is) (fun x y H Q => y = .non ∧ Q (.bl (decide (x = .non))) H) := by
  intro pins s σ H x y v u Q I rx ry h
  obtain ⟨rfl, q⟩ := h
  cases ry
  refine is_none_gen (fin_bl I q ?_)
  cases x <;> first
    | (cases rx; rfl)
    | (obtain ⟨t, rfl⟩ := rx; rfl)
theorem op_notin_str : OpR X (compareOp .NotIn) (fun x y H Q => ∃ i j, x = .str i ∧ y = .str j ∧ Q (.bl (!(!(Builtin.Str.occurrences j i 0 j.length 1).isEmpty))) H) := by
  intro pins s σ H x y v u Q I rx ry h
  obtain ⟨i, j, rfl, rfl, q⟩ := h
  obtain ⟨t, rfl⟩ := rx
  obtain ⟨t', rfl⟩ := ry
  exact notIn_str (fin_bl I q rfl)
/-- is, is not of two objects that are tracked lists or instances -/
def isObj : HO → Bool
  | .lst _ => true
  | .ins _ _ _ => true
  | _ => false
theorem obj_there {pins : List (Addr × Obj)} {s : Shared} {σ : St} {H : Hp} {a : Addr} {o : HO} (I : Inv X pins σ H s) (h : H a = some o) (p : isObj o = true) : ∃ ob, s.heap.get? a = some ob ∧ ob.cls ≠ .type "tuple" := by
  cases o with
  | lst xs =>
    obtain ⟨_, its, n, _, e⟩ : xs.length ≤ sizeLine ∧ ∃ (its : List Value) (n : Nat), Vals xs its ∧ s.heap.get? a = some { cls := .type "list", data := .seq its.toArray n } := I.hok a _ h
    exact ⟨_, e, (by show Value.type "list" ≠ .type "tuple"; decide +kernel)⟩
  | ins C dx fs =>
    have x := I.hok a _ h
    obtain ⟨_, _, _, e, _⟩ := x
    exact ⟨_, e, (by show Value.ref C ≠ .type "tuple"; exact fun z => by cases z)⟩
  | _ => exact absurd (show false = true from p) Bool.false_ne_true
/-- two rules for one operation: by cases -/
theorem OpR.or {f : Value → Value → Sem Value} {r r' : R2} (h : OpR X f r) (h' : OpR X f r') : OpR X f (fun x y H Q => r x y H Q ∨ r' x y H Q) := by
  intro pins s σ H x y v u Q I rx ry q
  rcases q with q | q
  · exact h pins s σ H x y v u Q I rx ry q
  · exact h' pins s σ H x y v u Q I rx ry q
theorem nomark (b : Expr) {op : CmpOp} (h : op ≠ .In := by decide) (h2 : op ≠ .NotIn := by decide) : behindInMarks op b = false := by
  have e1 : (op == CmpOp.In) = false := by cases op <;> first | rfl | exact absurd rfl h
  have e2 : (op == CmpOp.NotIn) = false := by cases op <;> first | rfl | exact absurd rfl h2
  cases b <;> simp [behindInMarks, e1, e2]
/-- a comparison as a value; hm: nomark b, or (for in, not in) by with_unfolding_all rfl -/
theorem pe_cmpR {op : CmpOp} {r : R2} (ho : OpR X (compareOp op) r) (ha : PE X a ta) (hb : PE X b tb) (hm : behindInMarks op b = false) : PE X (.Compare a [op] [b] pos) (tOp r ta tb) := by
  intro pins s σ H Q I h
  exact wpAny_Compare1 (binT ha hb I h fun v u s2 x y H2 I2 rx ry q => ho pins s2 σ H2 x y v u Q I2 rx ry q) hm
/-- a reading of a value as a test -/
def tTest (t : TE) : TT := fun σ H Q => t σ H fun x H' => ∃ k, x = .bl k ∧ Q k H'
theorem pt_cmpR {op : CmpOp} {r : R2} (ho : OpR X (compareOp op) r) (ha : PE X a ta) (hb : PE X b tb) (hm : behindInMarks op b = false) : PT X (.Compare a [op] [b] pos) (tTest (tOp r ta tb)) := by
  intro pins s σ H Q I h
  refine wpAny_isTrue_Compare1 (thn (ha pins s σ H _ I h) fun v s1 ⟨x, H1, I1, r1, q1⟩ => thn (hb pins s1 σ H1 _ I1 q1) fun u s2 ⟨y, H2, I2, r2, q2⟩ =>
    thn (ho pins s2 σ H2 x y v u _ I2 r1 r2 q2) fun c s3 ⟨z, H3, I3, r3, k, e, q3⟩ => ?_) hm
  subst e
  cases r3
  exact wpAny_truthy_bool ⟨H3, I3, q3⟩
theorem line63 : (sizeLine : Nat) < 2 ^ 63 := by rw [sizeLine_eq]; decide
theorem op_add_str : OpR X (binaryOp .Add) (fun x y H Q => ∃ i j, x = .str i ∧ y = .str j ∧ i.length + j.length ≤ sizeLine ∧ Q (.str (i ++ j)) H) := by
  intro pins s σ H x y v u Q I rx ry h
  obtain ⟨i, j, rfl, rfl, hz, q⟩ := h
  obtain ⟨t, rfl⟩ := rx
  obtain ⟨t', rfl⟩ := ry
  exact add_str (fun t' tk => ⟨.str (i ++ j), H, I.tok _, ⟨_, rfl⟩, q⟩) hz
theorem vals1 {x : V} {us : List Value} (r : Vals [x] us) : ∃ u, us = [u] ∧ RelV x u := by
  cases r with
  | cons r1 r2 => cases r2; exact ⟨_, rfl, r1⟩
theorem call_int1 : CallR X (.type "int") (fun xs H Q => (∃ i, xs = [.int i] ∧ Q (.int i) H) ∨ ∃ k, xs = [.bl k] ∧ Q (.int (if k then 1 else 0)) H) := by
  intro pins s σ H xs us Q I r h
  rcases h with ⟨i, rfl, q⟩ | ⟨k, rfl, q⟩
  · obtain ⟨u, rfl, t, rfl⟩ := vals1 r
    exact call_int_int ⟨.int i, H, I, ⟨_, rfl⟩, q⟩
  · obtain ⟨u, rfl, r1⟩ := vals1 r
    cases r1
    exact call_int_bool ⟨.int (if k then 1 else 0), H, I.tok _, ⟨_, rfl⟩, q⟩
end
end L2
namespace L2
open PySem PySem.Spec PyProof.Rows
structure ObjM (h : Heap) (x dx C : Addr) (mA : Str → Option Value) : Prop where
  obj : h.get? x = some (PySem.W.instObj C dx)
  ns : h.Ns1 dx mA
  ne : dx ≠ x
theorem lookIn_ns {h : Heap} {dx : Addr} {mA : Str → Option Value} (n : h.Ns1 dx mA) : ∃ od, h.get? dx = some od ∧ ∀ name, PySem.W.lookIn name od = some (mA name) := by
  obtain ⟨o, es, ep, ho, hd, hk, _, hm⟩ := n
  refine ⟨o, ho, fun name => ?_⟩
  have e := hm name
  unfold nsFind findBy at e
  rw [← Array.find?_toList] at e
  unfold PySem.W.lookIn
  rw [hd]
  dsimp only
  split
  · rename_i y q
    rw [q] at e
    exact congrArg some e
  · rename_i q
    rw [q] at e
    have a : es.toList.any (·.refKey) = false := by
      rw [List.any_eq_false]
      intro y hy
      obtain ⟨z, t, hkey⟩ := hk y (Array.mem_toList_iff.mp hy)
      simp [DictEntry.refKey, hkey]
    have a' : ¬ es.toList.any (·.refKey) = true := by rw [a]; exact Bool.false_ne_true
    rw [if_neg a']
    exact congrArg some e
theorem ObjM.look {h : Heap} {x dx C : Addr} {mA : Str → Option Value} (I : ObjM h x dx C mA) : ∃ od, PySem.W.InstAt h x (PySem.W.instObj C dx) C (some od) ∧ ∀ name, PySem.W.lookIn name od = some (mA name) :=
  let ⟨od, ho, hl⟩ := lookIn_ns I.ns
  ⟨od, ⟨I.obj, rfl, rfl, ho⟩, hl⟩
section
variable {prog : Program} {w : World} {A : Around} {E : Value → Shared → Prop} {s : Shared} {K : PySem.W.Frag} {x dx C f : Addr} {mA : Str → Option Value} {name : Str} {v : Value}
end
theorem RelO.some_of {v : V} {o : Option Value} (r : RelO (some v) o) : ∃ u, o = some u ∧ RelV v u := by
  cases o with
  | none => exact (show False from r).elim
  | some u => exact ⟨u, rfl, r⟩
section
variable {P : Program} {w : World} {H H' : Hp} {h h' : Heap} {a C dx : Addr} {fs fs' : List (Str × V)}
theorem ins_get (hok : HOk P w H h) (e : H a = some (.ins C dx fs)) : ∃ mA, ObjM h a dx C mA ∧ (∀ f, RelO (fs.lookup f) (mA f)) ∧ PySem.Within mA (fs.map (·.1)) ∧ fs.length ≤ 1000 ∧ H dx = some (.own a) := by
  obtain ⟨d, z, ne, ob, mA, n, r, q⟩ := (show ObjOk P w H h a (.ins C dx fs) from hok a _ e)
  exact ⟨mA, ⟨ob, n, ne⟩, r, q, z, d⟩
end
structure Cls (K : PySem.W.Frag) (C : Addr) : Prop where
  pg : PySem.W.plainGet K C Str.empty = true
  hd : PySem.W.hasDictIn K C = true
  po : PySem.W.plainOver K C = true
  sa : PySem.W.findIn K (.ref C) "__setattr__" = some (some (.builtin "object.__setattr__"))
theorem Cls.get {K : PySem.W.Frag} {C : Addr} (c : Cls K C) (f : Str) : PySem.W.plainGet K C f = true := c.pg
section
variable {X : Cx} {pins : List (Addr × Obj)} {σ : St} {H : Hp} {s : Shared} {a C dx : Addr} {fs : List (Str × V)} {f : Str} {v : V} {A : Around} {E : Value → Shared → Prop}
/-- a new instance, tracked, without attributes -/
theorem Inv.made (I : Inv X pins σ H s) : Inv X pins σ (upd (upd H s.heap.objs.size (.own (s.heap.objs.size + 1))) (s.heap.objs.size + 1) (.ins C s.heap.objs.size []))
    { s with heap := (s.heap.push PySem.W.emptyDict).push (PySem.W.instObj C s.heap.objs.size) } := by
  have e1 : (s.heap.push PySem.W.emptyDict).get? s.heap.objs.size = some PySem.W.emptyDict := Heap.get?_push_size s.heap rfl
  have e2 : ((s.heap.push PySem.W.emptyDict).push (PySem.W.instObj C s.heap.objs.size)).get? (s.heap.objs.size + 1) = some (PySem.W.instObj C s.heap.objs.size) := by
    have := Heap.get?_push_size (s.heap.push PySem.W.emptyDict) (o := PySem.W.instObj C s.heap.objs.size) rfl
    rwa [Heap.size_push] at this
  have e3 : (s.heap.push PySem.W.emptyDict).Ns s.heap.objs.size (fun _ => none) := ⟨PySem.W.emptyDict, #[], _, e1, rfl, (fun e he => absurd he (by simp)), fun _ => rfl⟩
  have I1 := I.laid (a := s.heap.objs.size) (o := .own (s.heap.objs.size + 1)) (h' := s.heap.push PySem.W.emptyDict) (t' := s.toks) (fun b u q => Heap.get?_push_of_some _ q) (Nat.le_refl _) ⟨_, e1⟩
  refine I1.laid (a := s.heap.objs.size + 1) (o := .ins C s.heap.objs.size []) (t' := s.toks) (fun b u q => Heap.get?_push_of_some _ q) (Nat.le_of_eq (Heap.size_push _ _)) ?_
  have ne : s.heap.objs.size ≠ s.heap.objs.size + 1 := Nat.ne_of_lt (Nat.lt_succ_self _)
  refine ⟨by rw [upd_ne ne, upd_same], Nat.zero_le _, ne, e2, fun _ => none, (Heap.Ns1.of_empty e3).at fun o q => Heap.get?_push_of_some _ q, fun _ => True.intro, fun y hy => absurd rfl hy⟩
end
section
variable {X : Cx} {o e value : Expr} {f : Str} {pos pos' tpos : Pos} {ta tv : TE}
end
section
variable {X : Cx} {pins : List (Addr × Obj)} {σ : St} {H : Hp} {s : Shared} {A : Around} {E : Value → Shared → Prop} {Q : Value → Shared → Prop} {c : Value} {b : Bool}
/-- the type of a value, as the fragment's deciders take it; for an instance its class -/
inductive TyOf (K : PySem.W.Frag) (H : Hp) : V → Value → Prop where
  | non : TyOf K H .non (.type "NoneType")
  | bl (x : Bool) : TyOf K H (.bl x) (.type "bool")
  | int (i : Int) : TyOf K H (.int i) (.type "int")
  | str (x : Str) : TyOf K H (.str x) (.type "str")
  | flt (x : UInt64) : TyOf K H (.flt x) (.type "float")
  | lst {a : Addr} {xs : List V} (e : H a = some (.lst xs)) : TyOf K H (.ref a) (.type "list")
  | frz {a : Addr} {o : Obj} {xs : List V} (e : H a = some (.frz o (.lst xs))) : TyOf K H (.ref a) (.type "list")
  | tup {a : Addr} {xs : List V} (e : H a = some (.tup xs)) : TyOf K H (.ref a) (.type "tuple")
  | dK {a : Addr} {kvs : List (Key × V)} (e : H a = some (.dK kvs)) : TyOf K H (.ref a) (.type "dict")
  | dT {a : Addr} {kvs : List (List Key × V)} (e : H a = some (.dT kvs)) : TyOf K H (.ref a) (.type "dict")
  | ins {a C dx : Addr} {fs : List (Str × V)} (e : H a = some (.ins C dx fs)) (cl : Cls K C) (ha : PySem.W.findIn K (.ref C) "__class__" = some (some (.builtin "object.__class__")))
      (hn : PySem.W.specialIn K (.builtin "object.__class__") "__get__" = some (some (.builtin "getset_descriptor.__get__"))) (htk : PySem.W.takesIn K (.builtin "object.__class__") = some true)
      (hm : PySem.W.mroIn K C (.type "object") = some true) : TyOf K H (.ref a) (.ref C)
/-- isinstance(x, c) for one class c, a built-in or an own one: kitOne's answer -/
theorem isinst_ok {x : V} {u t : Value} (I : Inv X pins σ H s) (rx : RelV x u) (ty : TyOf X.K H x t) (e : PySem.W.kitOne X.K t c = some b) (h : ∀ tk, Q (.bool b) { s with toks := tk }) :
    wpAny (model X.prog X.w) A (call (.builtin "isinstance") [u, c]) Q E s := by
  cases ty with
  | non => cases (show u = Value.none from rx); exact PySem.W.kia_one PySem.W.kitx_none I.kIn True.intro e (fun z => nomatch z) h
  | bl y => cases (show u = Value.bool y from rx); exact PySem.W.kia_one PySem.W.kitx_bool I.kIn True.intro e (fun z => nomatch z) h
  | int i => obtain ⟨t, q⟩ := (show ∃ t, u = Value.int i t from rx); cases q; exact PySem.W.kia_one PySem.W.kitx_int I.kIn True.intro e (fun z => nomatch z) h
  | str y => obtain ⟨t, q⟩ := (show ∃ t, u = Value.str y t from rx); cases q; exact PySem.W.kia_one PySem.W.kitx_str I.kIn True.intro e (fun z => nomatch z) h
  | flt y => obtain ⟨t, q⟩ := (show ∃ t, u = Value.float y t from rx); cases q; exact PySem.W.kia_one PySem.W.kitx_float I.kIn True.intro e (fun z => nomatch z) h
  | @lst a xs ea =>
    cases (show u = Value.ref a from rx)
    obtain ⟨_, _, n, _, h1⟩ := (show ObjOk X.prog X.w H s.heap a (.lst xs) from I.hok a _ ea)
    exact PySem.W.kia_one PySem.W.kitx_list I.kIn ⟨_, h1, rfl⟩ e (fun z => nomatch z) h
  | @frz a ob xs ea =>
    cases (show u = Value.ref a from rx)
    obtain ⟨_, _, _, n, _, h1⟩ := (show ObjOk X.prog X.w H s.heap a (.frz ob (.lst xs)) from I.hok a _ ea)
    exact PySem.W.kia_one PySem.W.kitx_list I.kIn ⟨_, h1, rfl⟩ e (fun z => nomatch z) h
  | @tup a xs ea =>
    cases (show u = Value.ref a from rx)
    obtain ⟨_, _, _, p⟩ := (show ObjOk X.prog X.w H s.heap a (.tup xs) from I.hok a _ ea)
    obtain ⟨o, h1, h2, _⟩ := p
    exact PySem.W.kia_one PySem.W.kitx_tuple I.kIn ⟨o, h1, h2.1⟩ e (fun z => nomatch z) h
  | @dK a kvs ea =>
    cases (show u = Value.ref a from rx)
    obtain ⟨_, _, vs, _, p⟩ := (show ObjOk X.prog X.w H s.heap a (.dK kvs) from I.hok a _ ea)
    obtain ⟨o, es, ep, h1, h2, _⟩ := p
    exact PySem.W.kia_one PySem.W.kitx_dict I.kIn ⟨o, h1, h2.1⟩ e (fun z => nomatch z) h
  | @dT a kvs ea =>
    cases (show u = Value.ref a from rx)
    obtain ⟨_, _, xs, _, o, es, ep, h1, h2, _⟩ := (show ObjOk X.prog X.w H s.heap a (.dT kvs) from I.hok a _ ea)
    exact PySem.W.kia_one PySem.W.kitx_dict I.kIn ⟨o, h1, h2.1⟩ e (fun z => nomatch z) h
  | @ins a C dx fs ea cl ha hn htk hm =>
    cases (show u = Value.ref a from rx)
    obtain ⟨mA, O, _⟩ := ins_get I.hok ea
    obtain ⟨od, J, _⟩ := O.look
    exact PySem.W.kia_one (PySem.W.kitx_own (cl.get _) cl.hd ha hn htk hm) I.kIn J e (fun z => nomatch z) h
end
end L2
namespace L2
open PySem PySem.Spec PyProof.Rows
structure Room (k : Nat) (A : Around) : Prop where
  hd : A.handled = none
  dp : A.depth + 3 * k + 5 < recursionLimit
  un : A.units + 16 * k + 200 < cLine
theorem Room.mono {j k : Nat} {A : Around} (r : Room k A) (h : j ≤ k) : Room j A := ⟨r.hd, by have := r.dp; omega, by have := r.un; omega⟩
theorem Room.deeper {k : Nat} {A : Around} (r : Room (k + 1) A) (env : Env) : Room k (A.deeper env) :=
  ⟨r.hd, by have := r.dp; show A.depth + 1 + 3 * k + 5 < _; omega, by have := r.un; show A.units + 3 + 16 * k + 200 < _; omega⟩
theorem Room.in1 {k : Nat} {A : Around} (r : Room (k + 1) A) : Room k A.in1 :=
  ⟨r.hd, by have := r.dp; show A.depth + 3 * k + 5 < _; omega, by have := r.un; show A.units + 1 + 16 * k + 200 < _; omega⟩
theorem make_depth {A : Around} {C : Addr} {us : List Value} {kw : List (Str × Value)} : (A.under (.builtin "type.__call__" ⟨.ref C :: us, kw⟩)).depth = A.depth + 1 := by
  first | rfl | simp [Around.under, Code.weight, Code.isCreation, Code.isGuard, Code.isCaller, Code.frames, Code.isFrame, guardIds]
theorem make_units {A : Around} {C : Addr} {us : List Value} {kw : List (Str × Value)} : (A.under (.builtin "type.__call__" ⟨.ref C :: us, kw⟩)).units = A.units + 1 := by
  first | rfl | simp [Around.under, Code.cUnits, Code.frames, Code.isFrame]
theorem Room.make {k : Nat} {A : Around} (r : Room (k + 1) A) (C : Addr) (us : List Value) (kw : List (Str × Value)) : Room k (A.under (.builtin "type.__call__" ⟨.ref C :: us, kw⟩)) :=
  ⟨r.hd, by have := r.dp; rw [make_depth]; omega, by have := r.un; rw [make_units]; omega⟩
theorem Room.depth {k : Nat} {A : Around} (r : Room k A) : A.depth < recursionLimit := by have := r.dp; omega
theorem Room.units {k : Nat} {A : Around} (r : Room k A) : A.units + 64 < cLine := by have := r.un; omega
def tNil : TA := fun _ H Q => Q [] H
def tCons (ta : TE) (tr : TA) : TA := fun σ H Q => ta σ H fun x H1 => tr σ H1 fun xs H2 => Q (x :: xs) H2
section
variable {X : Cx} {e : Expr} {es : List Expr} {te : TE} {t : TA} {pos : Pos}
theorem pa_nil : PA X [] tNil := fun _ _ _ _ H Q I h => Calls.spliced_nil ⟨[], H, I, .nil, h⟩
theorem pa_cons (ha : PE X e te) (hr : PA X es t) (hs : starEach (e :: es) X.env = (false, eval e X.env) :: starEach es X.env := by rfl) : PA X (e :: es) (tCons te t) := by
  intro pos pins s σ H Q I h
  rw [hs]
  show wpAny _ _ (spliced ((false, eval e X.env) :: backTo pos (starEach es X.env))) _ _ s
  refine Calls.spliced_cons (thn (ha pins s σ H _ I h) fun u s1 ⟨x, H1, I1, r1, q1⟩ => ?_)
  exact thn (hr pos pins s1 σ H1 _ I1 q1) fun us s2 ⟨xs, H2, I2, r2, q2⟩ => ⟨x :: xs, H2, I2, .cons r1 r2, q2⟩
/-- a tuple, a list of written items -/
def tTup (t : TA) : TE := fun σ H Q => t σ H fun xs H1 => xs.length ≤ sizeLine ∧ ∀ p, H1 p = none → Q (.ref p) (upd H1 p (.tup xs))
def tLst (t : TA) : TE := fun σ H Q => t σ H fun xs H1 => xs.length ≤ sizeLine ∧ ∀ p, H1 p = none → Q (.ref p) (upd H1 p (.lst xs))
theorem pe_tup {x1} (h : PA X es t) : PE X (.Tuple es x1 pos) (tTup t) := by
  intro pins s σ H Q I hq
  refine wpAny_Tuple_spliced (thn (h pos pins s σ H _ I hq) fun us s1 ⟨xs, H1, I1, r, z, q⟩ => ⟨by rw [← r.length]; exact z, ?_⟩)
  have hf : H1 s1.heap.objs.size = none := I1.hok.fresh (Nat.le_refl _)
  refine ⟨.ref s1.heap.objs.size, upd H1 s1.heap.objs.size (.tup xs), I1.laid (t' := s1.toks) (fun b u e => Heap.get?_push_of_some _ e) (Nat.le_refl _) ?_, rfl, q _ hf⟩
  exact ⟨z, us, r, ⟨_, Heap.get?_push_size _ rfl, ⟨rfl, _, rfl⟩, rfl⟩⟩
theorem pe_lst (h : PA X es t) : PE X (.List es pos) (tLst t) := by
  intro pins s σ H Q I hq
  refine wpAny_List_spliced (thn (h pos pins s σ H _ I hq) fun us s1 ⟨xs, H1, I1, r, z, q⟩ => ⟨by rw [← r.length]; exact z, ?_⟩)
  have hf : H1 s1.heap.objs.size = none := I1.hok.fresh (Nat.le_refl _)
  refine ⟨.ref s1.heap.objs.size, upd H1 s1.heap.objs.size (.lst xs), I1.laid (t' := s1.toks) (fun b u e => Heap.get?_push_of_some _ e) (Nat.le_refl _) ?_, rfl, q _ hf⟩
  exact ⟨z, us, 0, r, Heap.get?_push_size _ rfl⟩
end
/-- a def's promise: the bound arguments in the parameters' order, the heap, the wanted end, the wanted exception -/
abbrev Sp := List V → Hp → VK → XK → Prop
/-- how an exception lies behind a call (file 08 gives it): the callers' frames, abstract heap and state ahead of the call, the wish, the exception, the state -/
abbrev CXT := List Env → Hp → Shared → XK → Value → Shared → Prop
/-- the state at a call -/
structure Env0 (P : Program) (w : World) (K : PySem.W.Frag) (mg : Str → Option Value) (base : Heap) (A : Around) (outer : List Env) (s : Shared) (H : Hp) : Prop where
  frames : A.frames = some outer
  mod : Mod K mg base
  bs : ∀ b o, base.get? b = some o → s.heap.get? b = some o ∧ H b = none
  bsz : base.objs.size ≤ s.heap.objs.size
  funs : s.heap.FunFrames base outer
  frf : ∀ b ∈ frs outer, H b = none
  hok : HOk P w H s.heap
  bare : AllBare s.gens
/-- a call's end -/
def CE (outer : List Env) (P : Program) (w : World) (H : Hp) (s : Shared) (Q : VK) (u : Value) (s' : Shared) : Prop :=
  ∃ v H', s'.os = s.os ∧ AllBare s'.gens ∧ Un (frs outer) [] H H' s.heap s'.heap ∧ HOk P w H' s'.heap ∧ RelV v u ∧ Q v H'
def CR (CX : CXT) (outer : List Env) (P : Program) (w : World) (H : Hp) (s : Shared) (Q : VK) (E : XK) (r : Result) (s' : Shared) : Prop :=
  match r with
  | .ok (.ret u) => CE outer P w H s Q u s'
  | .ok _ => False
  | .error e => CX outer H s E e s'
structure FnOk (P : Program) (w : World) (K : PySem.W.Frag) (mg : Str → Option Value) (base : Heap) (CX : CXT) (k : Nat) (f : Addr) (fd : FuncData) (ps : List Str) (sp : Sp) : Prop where
  len : ∀ vs H Q E, sp vs H Q E → vs.length = ps.length
  run : ∀ (A : Around) (outer : List Env) (s : Shared) (H : Hp) (args : Args) (us : List Value) (vs : List V) (Q : VK) (E : XK), Room k A → Env0 P w K mg base A outer s H → BindsTo s fd args (ps.zip us) → Vals vs us → sp vs H Q E →
    codeAny (model P w) A (.call (.ref f) args) (CR CX outer P w H s Q E) s
theorem FnOk.mono {P : Program} {w : World} {K : PySem.W.Frag} {mg : Str → Option Value} {base : Heap} {CX : CXT} {j k : Nat} {f : Addr} {fd : FuncData} {ps : List Str} {sp : Sp} (F : FnOk P w K mg base CX j f fd ps sp) (h : j ≤ k) :
    FnOk P w K mg base CX k f fd ps sp := ⟨F.len, fun A outer s H args us vs Q E hr => F.run A outer s H args us vs Q E (hr.mono h)⟩
/-- a weaker promise -/
theorem FnOk.imp {P : Program} {w : World} {K : PySem.W.Frag} {mg : Str → Option Value} {base : Heap} {CX : CXT} {k : Nat} {f : Addr} {fd : FuncData} {ps : List Str} {sp sp' : Sp} (F : FnOk P w K mg base CX k f fd ps sp)
    (h : ∀ vs H Q E, sp' vs H Q E → sp vs H Q E) : FnOk P w K mg base CX k f fd ps sp' :=
  ⟨fun vs H Q E q => F.len vs H Q E (h _ _ _ _ q), fun A outer s H args us vs Q E hr he hb hv hs => F.run A outer s H args us vs Q E hr he hb hv (h _ _ _ _ hs)⟩
theorem Env0.make {P : Program} {w : World} {K : PySem.W.Frag} {mg : Str → Option Value} {base : Heap} {A : Around} {outer : List Env} {s : Shared} {H : Hp} (e : Env0 P w K mg base A outer s H) (C : Addr) (us : List Value) (kw : List (Str × Value)) :
    Env0 P w K mg base (A.under (.builtin "type.__call__" ⟨.ref C :: us, kw⟩)) outer s H := ⟨by first | exact e.frames | (simpa [Around.under, Code.envs, Code.isFrame, pushEnvs] using e.frames), e.mod, e.bs, e.bsz, e.funs, e.frf, e.hok, e.bare⟩
theorem Env0.in1 {P : Program} {w : World} {K : PySem.W.Frag} {mg : Str → Option Value} {base : Heap} {A : Around} {outer : List Env} {s : Shared} {H : Hp} (e : Env0 P w K mg base A outer s H) :
    Env0 P w K mg base A.in1 outer s H := ⟨e.frames, e.mod, e.bs, e.bsz, e.funs, e.frf, e.hok, e.bare⟩
section
variable {X : Cx} {pins : List (Addr × Obj)} {σ : St} {H : Hp} {s s' : Shared}
/-- from a body: what a callee wants -/
theorem Inv.env0 (I : Inv X pins σ H s) : Env0 X.prog X.w X.K X.mg X.base X.A X.stack s H :=
  ⟨I.ok.frames, I.ok.mod, I.bs, Nat.le_trans I.ok.bsz I.sz, I.stack, I.stkFree, I.hok, I.bare⟩
/-- behind a call -/
theorem Inv.after {Q : VK} {u : Value} (I : Inv X pins σ H s) (h : CE X.stack X.prog X.w H s Q u s') : EP X pins σ Q u s' := by
  obtain ⟨v, H', os, bare, un, hok, r, q⟩ := h
  obtain ⟨hh, g, d, t, os'⟩ := s'
  obtain rfl : os' = s.os := os
  exact ⟨v, H', I.call (h' := hh) (g' := g) (d' := d) (t' := t) (ch := []) un hok bare (fun b z => absurd z (by simp)), r, q⟩
end
/-- f(..): the written arguments, then the defaults dvs; E: what is wanted of an exception -/
def tCall (sp : Sp) (dvs : List V) (E : XK) (t : TA) : TE := fun σ H Q => t σ H fun vs H1 => sp (vs ++ dvs) H1 Q E
/-- how the parameters are bound: us the positional arguments, kw the keywords' values by name, ds the defaults that fill up -/
def Binds (K : PySem.W.Frag) (fd : FuncData) (ps : List Str) (ds : List Value) : Prop :=
  ∀ (s : Shared) (us : List Value), K.In s.heap → (us ++ ds).length = ps.length → BindsTo s fd ⟨us, []⟩ (ps.zip (us ++ ds))
/-- every parameter is given -/
theorem Binds.all {K : PySem.W.Frag} {fd : FuncData} {ps : List Str} (h : ∀ us : List Value, us.length = ps.length → bindArgs fd ⟨us, []⟩ = pure (ps.zip us)) : Binds K fd ps [] := fun s us _ hl => by
  rw [List.append_nil] at hl ⊢
  exact .of_eq (h us hl)
/-- an exception of a callee reaches what this body wants of exceptions -/
def Passes (CX : CXT) (X : Cx) (E : XK) : Prop := ∀ (pins : List (Addr × Obj)) (σ : St) (H : Hp) (s : Shared) (e : Value) (s' : Shared), Inv X pins σ H s → CX X.stack H s E e s' → X.xe e s'
section
variable {X : Cx} {CX : CXT} {k : Nat} {f C : Addr} {fd : FuncData} {ps : List Str} {sp : Sp} {dvs : List V} {ds : List Value} {E : XK} {x m : Str} {p pos apos : Pos} {e o : Expr} {es : List Expr} {ta : TE} {t : TA}
/-- the callee runs -/
theorem run_fn {pins : List (Addr × Obj)} {σ : St} {H : Hp} {s : Shared} {Q : VK} {us : List Value} {vs : List V} (F : FnOk X.prog X.w X.K X.mg X.base CX k f fd ps sp) (hr : Room k X.A) (hb : Binds X.K fd ps ds) (hd : Vals dvs ds) (hx : Passes CX X E)
    (I : Inv X pins σ H s) (r : Vals vs us) (h : sp (vs ++ dvs) H Q E) : wpAny (model X.prog X.w) X.A (call (.ref f) us) (EP X pins σ Q) X.xe s := by
  have r2 : Vals (vs ++ dvs) (us ++ ds) := r.append hd
  have hl : (us ++ ds).length = ps.length := by rw [← r2.length]; exact F.len _ _ _ _ h
  refine wpAny_call (codeAny_mono (F.run X.A X.stack s H ⟨us, []⟩ (us ++ ds) (vs ++ dvs) Q E hr I.env0 (hb s us I.kIn hl) r2 h) fun r s' hq => ?_)
  cases r with
  | error e => exact hx pins σ H s e s' I hq
  | ok fl =>
    cases fl with
    | ret u => exact I.after hq
    | next => exact False.elim hq
    | brk => exact False.elim hq
    | cont => exact False.elim hq
theorem pe_call (F : FnOk X.prog X.w X.K X.mg X.base CX k f fd ps sp) (hr : Room k X.A) (hg : Gl X x) (hm : X.mg x = some (.ref f)) (hk : PySem.W.keepIn X.K (.ref f) = true) (hb : Binds X.K fd ps ds) (hd : Vals dvs ds) (hx : Passes CX X E)
    (ha : PA X (e :: es) t) (hdb : (x == ("__debug__" : Str)) = false := by decide) (he : starEach (e :: es) X.env = (false, eval e X.env) :: starEach es X.env := by rfl) (hpl : (backTo pos (starEach es X.env)).any (·.1) = false := by rfl) :
    PE X (.Call (.Name x p) (e :: es) [] pos) (tCall sp dvs E t) := by
  intro pins s σ H Q I h
  refine wpAny_Call_Name_kw (ld_glob I hg hm ?_ hdb)
  refine PySem.W.callWith_K (h₀ := X.base) I.ok.mod.kin hk (thn (ha pos pins s σ H _ I h) fun us s1 ⟨vs, H1, I1, r, q⟩ => ⟨I1.kIn, ?_⟩) he hpl
  exact run_fn F hr hb hd hx I1 r q
end
section
variable {X : Cx} {CX : CXT} {k : Nat} {f C : Addr} {fd : FuncData} {ps ks : List Str} {sp : Sp} {E : XK} {x m : Str} {p pos apos kpos : Pos} {e o : Expr} {es : List Expr} {kws : List Keyword} {te ta : TE} {t tk : TA} {nm : Option Str}
variable {g : List Value → List Value → List Value} {gV : List V → List V → List V}
end
/-- names: the parameters first -/
structure FnScope (N P : List Str) (sc : Scope) : Prop where
  kind : sc.kind = .function
  co : sc.isCoroutine = false
  gen : sc.isGenerator = false
  nd : N.Nodup
  pre : N.take P.length = P
  par : ∀ x ∈ P, sc.names.lookup x = some .local ∨ sc.names.lookup x = some .cell
  nofree : ∀ y ∈ sc.names, y.2 ≠ .free
theorem bindL_out {kindOf : Str → Option NameKind} {x : Str} : ∀ {binds : List (Str × Value)} {m : Str → Option Value}, (∀ v, (x, v) ∉ binds) → bindL kindOf binds m x = m x
  | [], _, _ => rfl
  | (n, v) :: r, m, h => by
    unfold bindL
    rw [bindL_out fun w hw => h w (List.mem_cons_of_mem _ hw)]
    split
    · have : x ≠ n := by rintro rfl; exact h v List.mem_cons_self
      simp [this]
    · rfl
theorem bindC_out {kindOf : Str → Option NameKind} {x : Str} : ∀ {binds : List (Str × Value)} {m : Str → Option Value}, (∀ v, (x, v) ∉ binds) → bindC kindOf binds m x = m x
  | [], _, _ => rfl
  | (n, v) :: r, m, h => by
    unfold bindC
    rw [bindC_out fun w hw => h w (List.mem_cons_of_mem _ hw)]
    split
    · rfl
    · have : x ≠ n := by rintro rfl; exact h v List.mem_cons_self
      simp [this]
theorem bindL_get {kindOf : Str → Option NameKind} {x : Str} {v : Value} : ∀ {P : List Str} {vs : List Value} {i : Nat} {m : Str → Option Value}, P.Nodup → P[i]? = some x → vs[i]? = some v → kindOf x = some .local →
    bindL kindOf (P.zip vs) m x = some v
  | [], _, _, _, _, h, _, _ => by simp at h
  | _ :: _, [], _, _, _, _, h, _ => by simp at h
  | p :: P, w :: vs, 0, m, nd, h1, h2, hk => by
    simp at h1 h2; subst h1; subst h2
    show bindL kindOf ((p, w) :: P.zip vs) m p = _
    unfold bindL
    rw [bindL_out fun v hv => (List.nodup_cons.mp nd).1 (List.of_mem_zip hv).1, if_pos hk]
    simp
  | p :: P, w :: vs, i + 1, m, nd, h1, h2, hk => by
    show bindL kindOf ((p, w) :: P.zip vs) m x = _
    unfold bindL
    exact bindL_get (i := i) (List.nodup_cons.mp nd).2 (by simpa using h1) (by simpa using h2) hk
theorem bindC_get {kindOf : Str → Option NameKind} {x : Str} {v : Value} : ∀ {P : List Str} {vs : List Value} {i : Nat} {m : Str → Option Value}, P.Nodup → P[i]? = some x → vs[i]? = some v → kindOf x ≠ some .local →
    bindC kindOf (P.zip vs) m x = some v
  | [], _, _, _, _, h, _, _ => by simp at h
  | _ :: _, [], _, _, _, _, h, _ => by simp at h
  | p :: P, w :: vs, 0, m, nd, h1, h2, hk => by
    simp at h1 h2; subst h1; subst h2
    show bindC kindOf ((p, w) :: P.zip vs) m p = _
    unfold bindC
    rw [bindC_out fun v hv => (List.nodup_cons.mp nd).1 (List.of_mem_zip hv).1, if_neg hk]
    simp
  | p :: P, w :: vs, i + 1, m, nd, h1, h2, hk => by
    show bindC kindOf ((p, w) :: P.zip vs) m x = _
    unfold bindC
    exact bindC_get (i := i) (List.nodup_cons.mp nd).2 (by simpa using h1) (by simpa using h2) hk
/-- the names' values at the entry -/
def start (N : List Str) (vs : List V) : St := vs.map some ++ List.replicate (N.length - vs.length) none
/-- the context of a def's body, at its entry; an exception leaves the frame, then lies as CX says -/
def cxOf (CX : CXT) (P : Program) (w : World) (K : PySem.W.Frag) (mg : Str → Option Value) (base : Heap) (N : List Str) (qual : Str) (scope : Scope) (f : Addr) (cd : Value) (A : Around) (outer : List Env) (s : Shared) (H : Hp) (E : XK) : Cx where
  prog := P
  w := w
  K := K
  mg := mg
  base := base
  A := A.deeper (envOfC qual scope s.heap.objs.size f cd)
  N := N
  s_0 := s
  H_0 := H
  env := envOfC qual scope s.heap.objs.size f cd
  outer := outer
  stack := envOfC qual scope s.heap.objs.size f cd :: outer
  ex := []
  calm := true
  fn := fun _ => true
  pn := []
  xe := fun e s' => wpAny (model P w) (A.deeper (envOfC qual scope s.heap.objs.size f cd)) (leaving (envOfC qual scope s.heap.objs.size f cd) e) (fun _ s'' => CX outer H s E e s'') (fun e' s'' => CX outer H s E e' s'') s'
theorem cell_has {sc : Scope} {n : Nat} {x : Str} (h : sc.names.lookup x = some .cell) : ∃ c, (cellsFrom n sc.names []).lookup x = some c := by
  have q := PySem.W.cellsFrom_some sc.names n [] (.inl h)
  exact Option.isSome_iff_exists.mp q
theorem inv_start {CX : CXT} {P : Program} {w : World} {K : PySem.W.Frag} {mg : Str → Option Value} {base : Heap} {N ps : List Str} {qual : Str} {scope : Scope} {f : Addr} {cd : Value} {A : Around} {outer : List Env} {s s1 : Shared} {H : Hp} {E : XK} {us : List Value} {vs : List V}
    (S : FnScope N ps scope) (hd : A.handled = none) (e0 : Env0 P w K mg base A outer s H) (hl : vs.length = ps.length) (r : Vals vs us)
    (x : InCallC s s.heap.objs.size (bindL (envOfC qual scope s.heap.objs.size f cd).kindOf (ps.zip us) fun _ => none) (cellsFrom (s.heap.objs.size + 1) scope.names []) (bindC (envOfC qual scope s.heap.objs.size f cd).kindOf (ps.zip us) fun _ => none) s1) :
    Inv (cxOf CX P w K mg base N qual scope f cd A outer s H E) [] (start N vs) H s1 := by
  have hpl : ps.length ≤ N.length := by have := congrArg List.length S.pre; rw [List.length_take] at this; omega
  obtain ⟨h1, tk, rfl, hk⟩ := x.done
  have noA : ∀ b : Addr, b ∉ (cxOf CX P w K mg base N qual scope f cd A outer s H E).ex := fun b z => absurd (show b ∈ ([] : List Addr) from z) (by simp)
  refine ⟨⟨e0.mod, S.kind, rfl, rfl, Nat.le_refl _, fun y z c h1 h2 => ?_, fun y hy => ?_, fun y c _ h => ?_, fun _ => hd, Around.frames_deeper e0.frames, .inr ⟨rfl, rfl⟩, fun b z => absurd z (noA b), e0.bs, e0.bsz, fun b _ _ => noA b, fun b z => absurd z (noA b), e0.funs, e0.frf⟩,
    rfl, e0.bare, Un.kept hk, ⟨_, x.toInCall.ns, fun i y v h1 h2 h3 => ?_⟩, fun y c h => ⟨_, x.cell y c h⟩, e0.hok.fresh (Nat.le_refl _), fun y c h => ?_, fun p hp => absurd (show p ∈ ([] : List (Addr × Obj)) from hp) (by simp), e0.hok.kept hk, ?_⟩
  · exact name_of_addr x.apart (PySem.mem_of_lookup h1) (PySem.mem_of_lookup h2)
  · have hy : scope.names.lookup y = some .cell ∨ scope.names.lookup y = some .free := hy
    rcases hy with hy | hy
    · exact cell_has hy
    · exact absurd rfl (S.nofree _ (PySem.mem_of_lookup hy))
  · exact Nat.le_of_lt (x.above y c (PySem.mem_of_lookup h))
  · have hi : i < vs.length := by
      unfold start at h2
      by_cases hi : i < vs.length
      · exact hi
      · rw [List.getElem?_append_right (by simpa using hi)] at h2
        rw [List.getElem?_replicate] at h2
        split at h2 <;> cases h2
    have ha : vs[i]? = some v := by
      unfold start at h2
      rw [List.getElem?_append_left (by simpa using hi), List.getElem?_map] at h2
      cases e : vs[i]? with
      | none => rw [e] at h2; cases h2
      | some a => rw [e] at h2; cases h2; rfl
    obtain ⟨u, hu, rv⟩ := r.get ha
    have hp : ps[i]? = some y := by
      rw [← S.pre, List.getElem?_take_of_lt (by omega)]; exact h1
    have ndP : ps.Nodup := by rw [← S.pre]; exact S.nd.sublist (List.take_sublist _ _)
    refine ⟨u, rv, ?_⟩
    rcases S.par y (List.mem_of_getElem? hp) with k | k
    · exact .inl ⟨k, bindL_get ndP hp hu k⟩
    · obtain ⟨c, e⟩ := cell_has (n := s.heap.objs.size + 1) k
      refine .inr ⟨.inl k, c, e, ?_⟩
      have q := x.cell y c e
      rw [bindC_get ndP hp hu (by show scope.names.lookup y ≠ _; rw [k]; decide)] at q
      exact q
  · exact e0.hok.fresh (Nat.le_of_lt (x.above y c (PySem.mem_of_lookup h)))
  · unfold start
    show _ = N.length
    rw [List.length_append, List.length_map, List.length_replicate]
    omega
/-- THE RULE: a def (or a method) of the text, by its body. The body's reading t is chosen for each entry; it is run at the parameters' values -/
theorem fn_of {CX : CXT} {P : Program} {w : World} {K : PySem.W.Frag} {mg : Str → Option Value} {base : Heap} {k : Nat} {f : Addr} {name qual : Str} {params : Arguments} {body : List Stmt} {scope : Scope} {dV kV doc pm cdv ct oc : Value} {an od : Option Addr}
    {osl : Array (Option Value)} {N ps : List Str} {sp : Sp} (lk : K.lookup f = some ⟨oc, od, .func (PySem.W.fnOf name qual params body scope dV kV doc pm an cdv ct), osl⟩) (hcd : PySem.W.codeIn K cdv qual = true) (S : FnScope N ps scope)
    (len : ∀ vs H Q E, sp vs H Q E → vs.length = ps.length)
    (hbody : ∀ (A : Around) (outer : List Env) (s : Shared) (H : Hp) (vs : List V) (Q : VK) (E : XK), Room k (A.deeper (envOfC qual scope s.heap.objs.size f cdv)) → sp vs H Q E →
      ∃ t, PSs (cxOf CX P w K mg base N qual scope f cdv A outer s H E) body t ∧ t { nx := fun _ H' => Q .non H', rt := Q } (start N vs) H) :
    FnOk P w K mg base CX (k + 1) f (PySem.W.fnOf name qual params body scope dV kV doc pm an cdv ct) ps sp := by
  refine ⟨len, fun A outer s H args us vs Q E hr e0 hb r hsp => ?_⟩
  have hl := len _ _ _ _ hsp
  have KX : K.In s.heap := e0.mod.kin.keeps fun b o e => (e0.bs b o e).1
  have lim : s.heap.NoLimit := e0.mod.nolimit.keeps fun b o e => (e0.bs b o e).1
  have hkind : ∀ y ∈ ps.zip us, scope.names.lookup y.1 = some .local ∨ (scope.names.lookup y.1 = some .cell ∧ ((cellsFrom (s.heap.objs.size + 1) scope.names []).lookup y.1).isSome = true) := fun ⟨n, v⟩ hy => by
    rcases S.par n (List.of_mem_zip hy).1 with q | q
    · exact .inl q
    · exact .inr ⟨q, PySem.W.cellsFrom_some _ _ _ (.inl q)⟩
  refine codeAny_call_function hr.depth (KX _ _ lk) rfl S.co S.gen rfl (PySem.W.codeRec_of KX hcd) (hb _ _ _ _ ?_)
  refine wpAny_newFunctionEnv_cells S.kind hkind fun env he s1 x => ?_
  subst he
  refine ⟨lim.keeps x.toInCall.keep, codeAny_func ?_⟩
  obtain ⟨t, ht, hq⟩ := hbody A outer s H vs Q E (hr.deeper _) hsp
  have I : Inv (cxOf CX P w K mg base N qual scope f cdv A outer s H E) [] (start N vs) H s1 := inv_start S hr.hd e0 hl r x
  refine wpAny_mono (ht [] s1 (start N vs) H _ I hq) (fun fl s' hs => ?_) fun e s' hs => hs
  have fin : ∀ {σ' : St} {H' : Hp} {v : V} {u : Value}, Inv (cxOf CX P w K mg base N qual scope f cdv A outer s H E) [] σ' H' s' → RelV v u → Q v H' → CE outer P w H s Q u s' :=
    fun {σ' H' v u} J rv q => ⟨v, H', J.os, J.bare, J.base, J.hok, rv, q⟩
  cases fl with
  | ret u =>
    obtain ⟨v, σ', H', J, rv, q⟩ := hs
    exact fin J rv q
  | next =>
    obtain ⟨σ', H', J, q⟩ := hs
    exact fin (v := V.non) (u := Value.none) J rfl q
  | brk =>
    obtain ⟨_, _, _, q⟩ := hs
    exact False.elim q
  | cont =>
    obtain ⟨_, _, _, q⟩ := hs
    exact False.elim q
end L2
namespace L2
open PySem PySem.Spec PyProof.Rows
section
variable {X : Cx} {x : Str} {p pos : Pos} {e : Expr} {es : List Expr} {t : TA} {id T : String} {r : List V → Hp → VK → Prop}
def tCB (r : List V → Hp → VK → Prop) (t : TA) : TE := fun σ H Q => t σ H fun vs H1 => r vs H1 Q
/-- f(e, ..), f a built-in function -/
theorem pe_callB (hc : CallR X (.builtin id) r) (hg : Gl X x) (hm : X.mg x = none) (hv : bootBuiltins x = some (.builtin id)) (ha : PA X (e :: es) t) (hn : x ≠ "__name__" := by decide) (hdb : (x == ("__debug__" : Str)) = false := by decide)
    (he : starEach (e :: es) X.env = (false, eval e X.env) :: starEach es X.env := by rfl) (hpl : (backTo pos (starEach es X.env)).any (·.1) = false := by rfl) : PE X (.Call (.Name x p) (e :: es) [] pos) (tCB r t) := by
  intro pins s σ H Q I h
  refine wpAny_Call_Name_kw (ld_blt I hg hm hv ?_ hn hdb)
  exact PyProof.Rows.callWith_builtin1 (thn (ha pos pins s σ H _ I h) fun us s1 ⟨vs, H1, I1, r1, q1⟩ => hc pins s1 σ H1 vs us Q I1 r1 q1) he hpl
/-- T(e, ..), T a built-in type -/
theorem pe_callTy (hc : CallR X (.type T) r) (hg : Gl X x) (hm : X.mg x = none) (hv : bootBuiltins x = some (.type T)) (ha : PA X (e :: es) t) (hn : x ≠ "__name__" := by decide) (hdb : (x == ("__debug__" : Str)) = false := by decide)
    (he : starEach (e :: es) X.env = (false, eval e X.env) :: starEach es X.env := by rfl) (hpl : (backTo pos (starEach es X.env)).any (·.1) = false := by rfl) : PE X (.Call (.Name x p) (e :: es) [] pos) (tCB r t) := by
  intro pins s σ H Q I h
  refine wpAny_Call_Name_kw (ld_blt I hg hm hv ?_ hn hdb)
  exact PyProof.Rows.callWith_type1 (thn (ha pos pins s σ H _ I h) fun us s1 ⟨vs, H1, I1, r1, q1⟩ => hc pins s1 σ H1 vs us Q I1 r1 q1) he hpl
end
end L2
namespace HT
open PySem PyProof.Rows
section
open PySem.SeqAt
open PySem.AutoSeq1 (wpAny_loadPart')
open PySem.MeetsSeq PySem.MeetsSeq2 PySem.MeetsSeq3
end
section
variable {prog : Program} {w : World} {A : Around} {E : Value → Shared → Prop} {s : Shared}
/-- t + u, t not empty -/
theorem cat_tup {t b : Addr} {vs ws : List Value} {Q : Value → Shared → Prop} (ht : IsTup s.heap t vs.toArray) (hb : IsTup s.heap b ws.toArray) (hv : vs ≠ [])
    (h1 : ws = [] → Q (.ref t) s) (h2 : ws ≠ [] → Q (.ref s.heap.objs.size) { s with heap := s.heap.push { cls := .type "tuple", data := .seq (vs ++ ws).toArray } })
    (hsz : vs.length + ws.length ≤ sizeLine) : wpAny (model prog w) A (binaryOp .Add (.ref t) (.ref b)) Q E s := by
  obtain ⟨⟨cls, dd, data, sl⟩, ho, hc, n, hd⟩ := id ht
  obtain ⟨⟨cls2, dd2, data2, sl2⟩, ho2, hc2, n2, hd2⟩ := id hb
  simp only at hc hd hc2 hd2
  subst hc hd hc2 hd2
  have e : vs.toArray ++ ws.toArray = (vs ++ ws).toArray := by simp
  by_cases hw : ws = []
  · exact concat_meets ⟨_, ho, rfl⟩ ⟨_, ho2, rfl⟩ noFill_tuple_add seq_tuple_add PySem.F.slot_tuple_add PySem.F.entry_tuple_add (PySem.F.args_tuple_add_2 _ _)
      (tuple_addW1 t b vs.toArray ws.toArray n n2 dd dd2 sl sl2 (by simpa using hv) (by simp [hw])) ⟨ho, ho2, h1 hw⟩
  · refine concat_meets ⟨_, ho, rfl⟩ ⟨_, ho2, rfl⟩ noFill_tuple_add seq_tuple_add PySem.F.slot_tuple_add PySem.F.entry_tuple_add (PySem.F.args_tuple_add_2 _ _)
      (tuple_addW2 t b vs.toArray ws.toArray n n2 dd dd2 sl sl2 (by simpa using hv) (by simpa using hw) (by rw [List.size_toArray, List.size_toArray]; exact hsz)) ⟨ho, ho2, ?_⟩
    rw [e]
    exact h2 hw
/-- a slice's bound as a place among n (d where it is left out) -/
def sIx (n d : Nat) : Option Int → Nat
  | none => d
  | some v => if v < 0 then (v + (n : Int)).toNat else min v.toNat n
theorem sIx_none (n d : Nat) : sIx n d none = d := rfl
theorem sIx_nat (n d k : Nat) : sIx n d (some (k : Int)) = min k n := by
  show (if (k : Int) < 0 then ((k : Int) + (n : Int)).toNat else min (k : Int).toNat n) = min k n
  rw [if_neg (by omega), Int.toNat_natCast]
end
end HT
namespace L2
open PySem PySem.Spec PyProof.Rows
abbrev TO := St → Hp → (Option Int → Hp → Prop) → Prop
/-- a slice's part (left out, or an int) -/
def PO (X : Cx) (e : Option Expr) (t : TO) : Prop :=
  ∀ (pins : List (Addr × Obj)) (s : Shared) (σ : St) (H : Hp) (Q : Option Int → Hp → Prop), Inv X pins σ H s → t σ H Q →
    wpAny (model X.prog X.w) X.A (evalPart e X.env) (fun u s' => ∃ o H', Inv X pins σ H' s' ∧ IsPart u o ∧ Q o H') X.xe s
def tNoPart : TO := fun _ H Q => Q none H
def tPart (t : TE) : TO := fun σ H Q => t σ H fun x H1 => ∃ i, x = .int i ∧ Q (some i) H1
section
variable {X : Cx} {e : Expr} {te : TE} {lo hi : Option Expr} {tl th : TO} {pos p2 : Pos}
theorem po_none : PO X none tNoPart := by
  intro pins s σ H Q I h
  rw [evalPart_none]
  exact wpAny_pure ⟨none, H, I, .none, h⟩
theorem po_some (h : PE X e te) : PO X (some e) (tPart te) := by
  intro pins s σ H Q I hw
  rw [evalPart_some]
  refine thn (h pins s σ H _ I hw) fun u s1 ⟨x, H1, I1, r1, q1⟩ => ?_
  obtain ⟨i, rfl, q⟩ := q1
  obtain ⟨t, rfl⟩ := r1
  exact ⟨some i, H1, I1, .int i t, q⟩
/-- what a slice of a value is, by values: the slice object stands at sl -/
def SlR (X : Cx) (r : V → Option Int → Option Int → Hp → VK → Prop) : Prop :=
  ∀ (pins : List (Addr × Obj)) (s : Shared) (σ : St) (H : Hp) (x : V) (v vl vu : Value) (lo hi : Option Int) (sl : Addr) (Q : VK), Inv X pins σ H s → RelV x v → s.heap.IsSliceOf sl vl vu .none → IsPart vl lo → IsPart vu hi → r x lo hi H Q →
    ∃ T id, typeLookup (.type T) "__getitem__" = pure (some (.builtin id)) ∧ s.TypeIs v T ∧ wpAny (model X.prog X.w) X.A (getItem v (.ref sl)) (EP X pins σ Q) X.xe s
theorem SlR.or {r r' : V → Option Int → Option Int → Hp → VK → Prop} (h : SlR X r) (h' : SlR X r') : SlR X (fun x lo hi H Q => r x lo hi H Q ∨ r' x lo hi H Q) := by
  intro pins s σ H x v vl vu lo hi sl Q I rx hs pl pu q
  rcases q with q | q
  · exact h pins s σ H x v vl vu lo hi sl Q I rx hs pl pu q
  · exact h' pins s σ H x v vl vu lo hi sl Q I rx hs pl pu q
def tSl (r : V → Option Int → Option Int → Hp → VK → Prop) (te : TE) (tl th : TO) : TE := fun σ H Q => te σ H fun x H1 => tl σ H1 fun l H2 => th σ H2 fun u H3 => r x l u H3 Q
/-- a[lo:hi], any a -/
theorem pe_slice {r : V → Option Int → Option Int → Hp → VK → Prop} (hr : SlR X r) (he : PE X e te) (hl : PO X lo tl) (hu : PO X hi th) : PE X (.Subscript e (.Slice lo hi none p2) pos) (tSl r te tl th) := by
  intro pins s σ H Q I h
  refine Subscript_ (thn (he pins s σ H _ I h) fun v s1 ⟨x, H1, I1, r1, q1⟩ => ?_)
  refine wpAny_Slice (thn (hl pins s1 σ H1 _ I1 q1) fun vl s2 ⟨l, H2, I2, pl, q2⟩ => thn (hu pins s2 σ H2 _ I2 q2) fun vu s3 ⟨u, H3, I3, pu, q3⟩ => ?_)
  rw [evalPart_none]
  refine wpAny_pure ?_
  have I4 : Inv X pins σ H3 { s3 with heap := s3.heap.push { cls := .type "slice", data := .fields #[vl, vu, .none] } } := I3.kept (t' := s3.toks) fun b ob q => Heap.get?_push_of_some _ q
  obtain ⟨T, id, hT, ht, hg⟩ := hr pins { s3 with heap := s3.heap.push { cls := .type "slice", data := .fields #[vl, vu, .none] } } σ H3 x v vl vu l u s3.heap.objs.size Q I4 r1 (Heap.IsSliceOf.new ..) pl pu q3
  show wpAny (model X.prog X.w) X.A (subscriptTail e (.Slice lo hi none p2) v (.ref s3.heap.objs.size)) (EP X pins σ Q) X.xe { s3 with heap := s3.heap.push { cls := .type "slice", data := .fields #[vl, vu, .none] } }
  exact tail_any (ops := [.ref s3.heap.objs.size, v]) ht hT hg (by with_unfolding_all rfl)
/-- the items of xs[lo:hi] -/
def cutV (xs : List V) (lo hi : Option Int) : List V := (xs.drop (HT.sIx xs.length 0 lo)).take (HT.sIx xs.length xs.length hi - HT.sIx xs.length 0 lo)
theorem cutV_length (xs : List V) (lo hi : Option Int) : (cutV xs lo hi).length ≤ xs.length := by
  unfold cutV
  rw [List.length_take, List.length_drop]
  omega
/-- t + u, t not empty: u empty gives t itself -/
def rCatT (K : PySem.W.Frag) : R2 := fun x y H Q => ∃ a b xs ys, x = .ref a ∧ y = .ref b ∧ SqT K H a xs ∧ SqT K H b ys ∧ xs ≠ [] ∧ xs.length + ys.length ≤ sizeLine ∧
  (ys = [] → Q (.ref a) H) ∧ (ys ≠ [] → ∀ p, H p = none → Q (.ref p) (upd H p (.tup (xs ++ ys))))
theorem Vals.nil_iff {xs : List V} {us : List Value} (r : Vals xs us) : us = [] ↔ xs = [] := by
  cases r with
  | nil => simp
  | cons _ _ => simp
theorem op_catT : OpR X (binaryOp .Add) (rCatT X.K) := by
  intro pins s σ H x y v u Q I rx ry h
  obtain ⟨a, b, xs, ys, rfl, rfl, ha, hb, hx, hz, q1, q2⟩ := h
  cases rx
  cases ry
  obtain ⟨its, r1, p1, _⟩ := I.tuple ha
  obtain ⟨its2, r2, p2, _⟩ := I.tuple hb
  refine HT.cat_tup p1 p2 (fun z => hx (r1.nil_iff.mp z)) (fun z => ⟨.ref a, H, I, rfl, q1 (r2.nil_iff.mp z)⟩) (fun z => ?_) (by rw [← r1.length, ← r2.length]; exact hz)
  refine ⟨.ref s.heap.objs.size, _, I.laid (t' := s.toks) (o := .tup (xs ++ ys)) (fun b ob q => Heap.get?_push_of_some _ q) (Nat.le_refl _) ?_, rfl, q2 (fun w => z (r2.nil_iff.mpr w)) _ (I.hok.fresh (Nat.le_refl _))⟩
  exact ⟨by rw [List.length_append]; exact hz, _, r1.append r2, IsTupD.new _ _⟩
end
end L2
namespace L2
open PySem PySem.Spec PyProof.Rows
/-- the place that an index of any sign means -/
def ixN (n : Nat) (i : Int) : Option Nat := if 0 ≤ i then (if i < n then some i.toNat else none) else if -(n : Int) ≤ i then some (i + n).toNat else none
def atI {α : Type} (xs : List α) (i : Int) : Option α := (ixN xs.length i).bind fun j => xs[j]?
theorem ixN_seq {n : Nat} {i : Int} {j : Nat} (h : ixN n i = some j) : seqIndex? i n = some j ∧ j < n ∧ -(n : Int) ≤ i ∧ i < n := by
  unfold ixN at h
  by_cases h0 : 0 ≤ i
  · rw [if_pos h0] at h
    by_cases h1 : i < n
    · rw [if_pos h1] at h
      have e : i.toNat = j := Option.some.inj h
      exact ⟨by rw [seqIndex_of h0 h1, e], by omega, by omega, h1⟩
    · rw [if_neg h1] at h; cases h
  · rw [if_neg h0] at h
    by_cases h1 : -(n : Int) ≤ i
    · rw [if_pos h1] at h
      have e : (i + n).toNat = j := Option.some.inj h
      exact ⟨by rw [seqIndex_neg (by omega) h1, e], by omega, h1, by omega⟩
    · rw [if_neg h1] at h; cases h
theorem atI_get {α : Type} {xs : List α} {i : Int} {v : α} (h : atI xs i = some v) : ∃ j, seqIndex? i xs.length = some j ∧ xs[j]? = some v ∧ j < xs.length ∧ -(xs.length : Int) ≤ i ∧ i < xs.length := by
  unfold atI at h
  cases e : ixN xs.length i with
  | none => rw [e] at h; cases h
  | some j =>
    rw [e] at h
    obtain ⟨h1, h2, h3, h4⟩ := ixN_seq e
    exact ⟨j, h1, h, h2, h3, h4⟩
theorem atI_nat {α : Type} {xs : List α} {j : Nat} {v : α} (h : xs[j]? = some v) : atI xs (j : Int) = some v := by
  have hj : j < xs.length := (List.getElem?_eq_some_iff.mp h).1
  have e : ixN xs.length (j : Int) = some j := by
    unfold ixN
    rw [if_pos (by omega), if_pos (by omega)]; simp
  unfold atI; rw [e]; exact h
/-- what stands as an index of a plain subscript -/
def PlainIx (b : Expr) : Prop := ∀ o i, subscripted b false o i = operate [o, i] (getItem o i)
/-- a subscript by values -/
def IxR (X : Cx) (r : R2) : Prop :=
  ∀ (value slice : Expr) (pins : List (Addr × Obj)) (s : Shared) (σ : St) (H : Hp) (x y : V) (v u : Value) (Q : VK), Inv X pins σ H s → RelV x v → RelV y u → r x y H Q →
    subscripted slice false v u = operate [v, u] (getItem v u) → wpAny (model X.prog X.w) X.A (subscriptTail value slice v u) (EP X pins σ Q) X.xe s
/-- a call of a builtin's method by values: the receiver, the arguments -/
def MtR (X : Cx) (id : String) (r : V → List V → Hp → VK → Prop) : Prop :=
  ∀ (pins : List (Addr × Obj)) (s : Shared) (σ : St) (H : Hp) (x : V) (xs : List V) (v : Value) (us : List Value) (Q : VK), Inv X pins σ H s → RelV x v → Vals xs us → r x xs H Q →
    wpAny (model X.prog X.w) X.A (call (.builtin id) (v :: us)) (EP X pins σ Q) X.xe s
section
variable {X : Cx} {a b : Expr} {ta tb : TE} {pos : Pos}
theorem IxR.or {r r' : R2} (h : IxR X r) (h' : IxR X r') : IxR X (fun x y H Q => r x y H Q ∨ r' x y H Q) := by
  intro value slice pins s σ H x y v u Q I rx ry q hs
  rcases q with q | q
  · exact h value slice pins s σ H x y v u Q I rx ry q hs
  · exact h' value slice pins s σ H x y v u Q I rx ry q hs
theorem MtR.or {id : String} {r r' : V → List V → Hp → VK → Prop} (h : MtR X id r) (h' : MtR X id r') : MtR X id (fun x xs H Q => r x xs H Q ∨ r' x xs H Q) := by
  intro pins s σ H x xs v us Q I rx rs q
  rcases q with q | q
  · exact h pins s σ H x xs v us Q I rx rs q
  · exact h' pins s σ H x xs v us Q I rx rs q
/-- a[b] -/
theorem pe_ix {r : R2} (hr : IxR X r) (ha : PE X a ta) (hb : PE X b tb) (hs : PlainIx b) : PE X (.Subscript a b pos) (tOp r ta tb) := by
  intro pins s σ H Q I h
  exact Subscript_ (binT ha hb I h fun v u s2 x y H2 I2 rx ry q => hr a b pins s2 σ H2 x y v u Q I2 rx ry q (hs _ _))
def rIxL (K : PySem.W.Frag) : R2 := fun x y H Q => ∃ p xs i v, x = .ref p ∧ y = .int i ∧ SqL K H p xs ∧ atI xs i = some v ∧ Q v H
def rIxT (K : PySem.W.Frag) : R2 := fun x y H Q => ∃ p xs i v, x = .ref p ∧ y = .int i ∧ SqT K H p xs ∧ atI xs i = some v ∧ Q v H
def rIxS : R2 := fun x y H Q => ∃ z i c, x = .str z ∧ y = .int i ∧ z.length ≤ sizeLine ∧ atI z.cps.toList i = some c ∧ Q (.str ⟨#[c]⟩) H
theorem ix_list : IxR X (rIxL X.K) := by
  intro value slice pins s σ H x y v u Q I rx ry h hs
  obtain ⟨p, xs, i, z, rfl, rfl, hq, he, q⟩ := h
  cases rx
  obtain ⟨t, rfl⟩ := ry
  obtain ⟨its, r, pl, hz⟩ := I.list hq
  obtain ⟨j, h1, h2, h3, h4, h5⟩ := atI_get he
  obtain ⟨w, ew, rw'⟩ := r.get h2
  have hl := r.length
  have hn := line63
  have fin : EP X pins σ Q w s := ⟨z, H, I, rw', q⟩
  by_cases h0 : 0 ≤ i
  · have hj : i.toNat = j := by
      rw [seqIndex_of h0 h5] at h1
      exact Option.some.inj h1
    exact item_listR pl.isList h0 (by omega) (by rw [hj]; simpa using ew) fin hs
  · have hj : (i + (its.toArray.size : Int)).toNat = j := by
      rw [seqIndex_neg (by omega) h4] at h1
      rw [List.size_toArray, ← hl]
      exact Option.some.inj h1
    exact subscriptTail_builtinR (x := w) pl.isList.typeIs slot_list_getitem.lookup
      (wpAny_getItem_list_neg (Q := fun r s' => r = w ∧ EP X pins σ Q r s') pl.isList (by omega) (by rw [List.size_toArray] <;> omega) (by omega) (by rw [hj]; simpa using ew) ⟨rfl, fin⟩) hs
theorem ix_tup : IxR X (rIxT X.K) := by
  intro value slice pins s σ H x y v u Q I rx ry h hs
  obtain ⟨p, xs, i, z, rfl, rfl, hq, he, q⟩ := h
  cases rx
  obtain ⟨t, rfl⟩ := ry
  obtain ⟨its, r, pl, hz⟩ := I.tuple hq
  obtain ⟨j, h1, h2, h3, h4, h5⟩ := atI_get he
  obtain ⟨w, ew, rw'⟩ := r.get h2
  have hl := r.length
  have hn := line63
  have fin : EP X pins σ Q w s := ⟨z, H, I, rw', q⟩
  exact subscriptTail_builtinR (x := w) pl.typeIs slot_tuple_getitem.lookup
    (getItem_tuple (j := j) (Q := fun r s' => r = w ∧ EP X pins σ Q r s') pl (by omega) (by omega) (by rw [List.size_toArray, ← hl]; exact h1) (by simpa using ew) ⟨rfl, fin⟩) hs
theorem ix_str : IxR X rIxS := by
  intro value slice pins s σ H x y v u Q I rx ry h hs
  obtain ⟨z, i, c, rfl, rfl, hz, he, q⟩ := h
  obtain ⟨t, rfl⟩ := rx
  obtain ⟨t', rfl⟩ := ry
  obtain ⟨j, h1, h2, h3, h4, h5⟩ := atI_get he
  have hl : z.cps.toList.length = z.length := by simp [Str.length]
  rw [hl] at h1 h4 h5
  have hn := line63
  exact tail_any (typeIs_str s z t) slot_str_getitem.lookup (getItem_str (c := c) (by
    have e1 : decide (i < -(2 ^ 63 : Int)) = false := decide_eq_false (by omega)
    have e2 : decide (i ≥ 2 ^ 63) = false := decide_eq_false (by omega)
    rw [e1, e2, Bool.or_false]) (by rw [h1]; simpa using h2) ⟨.str ⟨#[c]⟩, H, I.tok _, ⟨_, rfl⟩, q⟩) hs
/-- list, tuple or str -/
def rIx (K : PySem.W.Frag) : R2 := fun x y H Q => rIxL K x y H Q ∨ rIxT K x y H Q ∨ rIxS x y H Q
theorem ix_seq : IxR X (rIx X.K) := ix_list.or (ix_tup.or ix_str)
theorem Inv.lst {pins : List (Addr × Obj)} {σ : St} {H : Hp} {s : Shared} {p : Addr} {xs : List V} (I : Inv X pins σ H s) (h : H p = some (.lst xs)) :
    ∃ (its : List Value) (n : Nat), Vals xs its ∧ s.heap.get? p = some { cls := .type "list", data := .seq its.toArray n } ∧ xs.length ≤ sizeLine := by
  obtain ⟨z, its, n, r, e⟩ := I.hok p _ h
  exact ⟨its, n, r, e, z⟩
theorem slice_bounds (lo hi : Option Int) (n : Nat) : (sliceBounds lo hi none n).1 = ((HT.sIx n 0 lo : Nat) : Int) ∧ (sliceBounds lo hi none n).2.1 = ((HT.sIx n n hi : Nat) : Int) ∧ (sliceBounds lo hi none n).2.2 = 1 := by
  refine ⟨?_, ?_, rfl⟩
  · cases lo with
    | none => simp [sliceBounds, HT.sIx]
    | some i =>
      simp only [sliceBounds, HT.sIx, Option.getD_none, show (1 : Int) > 0 by decide, if_true]
      by_cases h : i < 0
      · simp only [h, if_true] <;> omega
      · simp only [h, if_false] <;> omega
  · cases hi with
    | none => simp [sliceBounds, HT.sIx]
    | some i =>
      simp only [sliceBounds, HT.sIx, Option.getD_none, show (1 : Int) > 0 by decide, if_true]
      by_cases h : i < 0
      · simp only [h, if_true] <;> omega
      · simp only [h, if_false] <;> omega
theorem slicePick_cut (its : List Value) (lo hi : Option Int) : slicePick its.toArray lo hi none = ((its.drop (HT.sIx its.length 0 lo)).take (HT.sIx its.length its.length hi - HT.sIx its.length 0 lo)).toArray := by
  obtain ⟨h1, h2, h3⟩ := slice_bounds lo hi its.toArray.size
  unfold slicePick
  rw [h1, h2, h3]
  simp only [sliceRange_one, pick_run, List.size_toArray] <;> rfl
/-- xs[lo:hi] of a list: a new list -/
def rSlL (K : PySem.W.Frag) : V → Option Int → Option Int → Hp → VK → Prop := fun x lo hi H Q => ∃ a xs, x = .ref a ∧ SqL K H a xs ∧ ∀ p, H p = none → Q (.ref p) (upd H p (.lst (cutV xs lo hi)))
theorem sl_list : SlR X (rSlL X.K) := by
  intro pins s σ H x v vl vu lo hi sl Q I rx hs pl pu h
  obtain ⟨a, xs, rfl, hx, q⟩ := h
  cases rx
  obtain ⟨its, r, ht, hz⟩ := I.list hx
  have hlen := r.length
  refine ⟨"list", _, slot_list_getitem.lookup, ht.isList.typeIs, ?_⟩
  refine wpAny_getItem_list_slice ht.isList hs pl pu .none (by simp) ?_ (by rw [List.size_toArray] <;> omega)
  rw [slicePick_cut, ← hlen]
  refine ⟨.ref s.heap.objs.size, _, I.laid (t' := s.toks) (o := .lst (cutV xs lo hi)) (fun b ob q => Heap.get?_push_of_some _ q) (Nat.le_refl _) ?_, rfl, q _ (I.hok.fresh (Nat.le_refl _))⟩
  exact ⟨Nat.le_trans (cutV_length xs lo hi) hz, _, 0, (r.drop (HT.sIx xs.length 0 lo)).take (HT.sIx xs.length xs.length hi - HT.sIx xs.length 0 lo), Heap.get?_push_size _ rfl⟩
def flatV : V → Bool
  | .non => true
  | .bl _ => true
  | .int _ => true
  | .str _ => true
  | _ => false
/-- == of flat values -/
def eqV : V → V → Bool
  | .non, .non => true
  | .bl a, .bl b => a == b
  | .bl a, .int b => (if a then 1 else 0) == b
  | .int a, .bl b => a == (if b then 1 else 0)
  | .int a, .int b => a == b
  | .str a, .str b => a == b
  | _, _ => false
theorem eqAt_V {A : Around} {s : Shared} {y x : V} {u v : Value} (ry : RelV y u) (rx : RelV x v) (fy : flatV y = true) (fx : flatV x = true) : SeqAt.EqAt A s u v (eqV y x) := by
  cases y with
  | non =>
    cases ry
    cases x with
    | non => cases rx; exact SeqAt.EqAt.same _
    | bl b => cases rx; exact SeqAt.EqAt.none_bool b
    | int b => obtain ⟨t, rfl⟩ := rx; exact SeqAt.EqAt.none_int b t
    | str b => obtain ⟨t, rfl⟩ := rx; exact SeqAt.EqAt.none_str b t
    | _ => exact absurd (show false = true from fx) Bool.false_ne_true
  | bl a =>
    cases ry
    cases x with
    | non => cases rx; exact SeqAt.EqAt.bool_none a
    | bl b => cases rx; exact SeqAt.EqAt.bool_bool a b
    | int b => obtain ⟨t, rfl⟩ := rx; exact SeqAt.EqAt.bool_int a b t
    | str b => obtain ⟨t, rfl⟩ := rx; exact SeqAt.EqAt.bool_str a b t
    | _ => exact absurd (show false = true from fx) Bool.false_ne_true
  | int a =>
    obtain ⟨t', rfl⟩ := ry
    cases x with
    | non => cases rx; exact SeqAt.EqAt.int_none a t'
    | bl b => cases rx; exact SeqAt.EqAt.int_bool a t' b
    | int b => obtain ⟨t, rfl⟩ := rx; exact SeqAt.EqAt.int_int a t' b t
    | str b => obtain ⟨t, rfl⟩ := rx; exact SeqAt.EqAt.int_str a t' b t
    | _ => exact absurd (show false = true from fx) Bool.false_ne_true
  | str a =>
    obtain ⟨t', rfl⟩ := ry
    cases x with
    | non => cases rx; exact SeqAt.EqAt.str_none a t'
    | bl b => cases rx; exact SeqAt.EqAt.str_bool a t' b
    | int b => obtain ⟨t, rfl⟩ := rx; exact SeqAt.EqAt.str_int a t' b t
    | str b => obtain ⟨t, rfl⟩ := rx; exact SeqAt.EqAt.str_str a t' b t
    | _ => exact absurd (show false = true from fx) Bool.false_ne_true
  | _ => exact absurd (show false = true from fy) Bool.false_ne_true
/-- the items' answers, read off the values (a value's own answer does not lean on its token) -/
def eqU (x : V) (u : Value) : Bool := match u with
  | .none => eqV .non x
  | .bool b => eqV (.bl b) x
  | .int i _ => eqV (.int i) x
  | .str z _ => eqV (.str z) x
  | _ => false
theorem eqU_of {x y : V} {u : Value} (r : RelV y u) (f : flatV y = true) : eqU x u = eqV y x := by
  cases y with
  | non => cases r; rfl
  | bl b => cases r; rfl
  | int i => obtain ⟨t, rfl⟩ := r; rfl
  | str z => obtain ⟨t, rfl⟩ := r; rfl
  | _ => exact absurd (show false = true from f) Bool.false_ne_true
theorem any_eqU {x : V} : ∀ {xs : List V} {us : List Value}, Vals xs us → xs.all flatV = true → us.any (eqU x) = xs.any fun y => eqV y x
  | _, _, .nil, _ => rfl
  | y :: xs, u :: us, .cons r t, f => by
    rw [List.all_cons, Bool.and_eq_true] at f
    rw [List.any_cons, List.any_cons, eqU_of r f.1, any_eqU t f.2]
theorem mem_eqAt {A : Around} {s : Shared} {x : V} {v : Value} (rx : RelV x v) (fx : flatV x = true) : ∀ {xs : List V} {us : List Value}, Vals xs us → xs.all flatV = true → ∀ u ∈ us, SeqAt.EqAt A s u v (eqU x u)
  | _, _, .nil, _ => fun u hu => by cases hu
  | y :: xs, u :: us, .cons r t, f => fun u' hu => by
    rw [List.all_cons, Bool.and_eq_true] at f
    rcases List.mem_cons.mp hu with rfl | hu
    · rw [eqU_of r f.1]; exact eqAt_V r rx f.1 fx
    · exact mem_eqAt rx fx t f.2 u' hu
def inV (x : V) (xs : List V) : Bool := xs.any fun y => eqV y x
/-- x in a list or tuple of flat items -/
def rIn (K : PySem.W.Frag) (neg : Bool) : R2 := fun x y H Q => ∃ p xs, y = .ref p ∧ (SqL K H p xs ∨ SqT K H p xs) ∧ flatV x = true ∧ xs.all flatV = true ∧ Q (.bl (if neg then !inV x xs else inV x xs)) H
theorem op_notIn_seq : OpR X (compareOp .NotIn) (rIn X.K true) := by
  intro pins s σ H x y v u Q I rx ry h
  obtain ⟨p, xs, rfl, hq, fx, fs, q⟩ := h
  cases ry
  rcases hq with hq | hq
  · obtain ⟨its, r, pl, hz⟩ := I.list hq
    refine SeqAt.notIn_listAt (eqU x) pl.isList (fun w hw => mem_eqAt rx fx r fs w (by simpa using hw)) ⟨.bl _, H, I, rfl, ?_⟩
    rw [show its.toArray.any (eqU x) = its.any (eqU x) by simp, any_eqU r fs]
    exact q
  · obtain ⟨its, r, pl, hz⟩ := I.tuple hq
    refine SeqAt.notIn_tupleAt (eqU x) pl (fun w hw => mem_eqAt rx fx r fs w (by simpa using hw)) ⟨.bl _, H, I, rfl, ?_⟩
    rw [show its.toArray.any (eqU x) = its.any (eqU x) by simp, any_eqU r fs]
    exact q
theorem call_len_seq : CallR X (.builtin "len") (fun xs H Q => ∃ p ys, xs = [.ref p] ∧ (SqL X.K H p ys ∨ SqT X.K H p ys) ∧ Q (.int ys.length) H) := by
  intro pins s σ H xs us Q I r h
  obtain ⟨p, ys, rfl, hq, q⟩ := h
  obtain ⟨u, rfl, rx⟩ := vals1 r
  cases rx
  have hn := line63
  rcases hq with hq | hq
  · obtain ⟨its, r', pl, hz⟩ := I.list hq
    have hlen := r'.length
    exact Calls.call_len_list pl.isList (by simp only [List.size_toArray] <;> omega) ⟨.int ys.length, H, I.tok _, ⟨s.toks + 1, by rw [List.size_toArray, hlen]⟩, q⟩
  · obtain ⟨its, r', pl, hz⟩ := I.tuple hq
    have hlen := r'.length
    exact len_tuple pl (by simp only [List.size_toArray] <;> omega) ⟨.int ys.length, H, I.tok _, ⟨s.toks + 1, by rw [List.size_toArray, hlen]⟩, q⟩
theorem call_len_str : CallR X (.builtin "len") (fun xs H Q => ∃ z, xs = [.str z] ∧ z.length ≤ sizeLine ∧ Q (.int z.length) H) := by
  intro pins s σ H xs us Q I r h
  obtain ⟨z, rfl, hz, q⟩ := h
  obtain ⟨u, rfl, t, rfl⟩ := vals1 r
  have hn := line63
  exact len_str (by omega) ⟨.int z.length, H, I.tok _, ⟨_, rfl⟩, q⟩
theorem CallR.or {f : Value} {r r' : List V → Hp → VK → Prop} (h : CallR X f r) (h' : CallR X f r') : CallR X f (fun xs H Q => r xs H Q ∨ r' xs H Q) := by
  intro pins s σ H xs us Q I rs q
  rcases q with q | q
  · exact h pins s σ H xs us Q I rs q
  · exact h' pins s σ H xs us Q I rs q
theorem call_list_of : CallR X (.type "list") (fun xs H Q => ∃ p ys, xs = [.ref p] ∧ (SqL X.K H p ys ∨ SqT X.K H p ys) ∧ ∀ l, H l = none → Q (.ref l) (upd H l (.lst ys))) := by
  intro pins s σ H xs us Q I r h
  obtain ⟨p, ys, rfl, hq, q⟩ := h
  obtain ⟨u, rfl, rx⟩ := vals1 r
  cases rx
  have fin : ∀ (its : List Value), Vals ys its → ys.length ≤ sizeLine → ∀ (h' : Heap) (c' : Nat), (∀ b o', s.heap.get? b = some o' → h'.get? b = some o') →
      h'.get? s.heap.objs.size = some { cls := .type "list", dict := none, data := .seq its.toArray c', slots := #[] } → EP X pins σ Q (.ref s.heap.objs.size) { s with heap := h' } := fun its r' hz h' c' kp e =>
    ⟨.ref s.heap.objs.size, _, I.laid (t' := s.toks) kp (Nat.le_refl _) (show ObjOk X.prog X.w _ h' _ (.lst ys) from ⟨hz, its, c', r', e⟩), rfl, q _ (I.hok.fresh (Nat.le_refl _))⟩
  rcases hq with hq | hq
  · obtain ⟨its, r', pl, hz⟩ := I.list hq
    have hlen := r'.length
    obtain ⟨o, ho, hc, n, hd⟩ := pl.isList
    exact call_list_seq p (.inl rfl) ho hc hd (fun h' c' kp e => fin its r' hz h' c' kp e) (by simp only [List.size_toArray] <;> omega)
  · obtain ⟨its, r', pl, hz⟩ := I.tuple hq
    have hlen := r'.length
    obtain ⟨o, ho, hc, n, hd⟩ := pl
    exact call_list_seq p (.inr rfl) ho hc hd (fun h' c' kp e => fin its r' hz h' c' kp e) (by simp only [List.size_toArray] <;> omega)
theorem call_tuple_of : CallR X (.type "tuple") (fun xs H Q => ∃ p ys, xs = [.ref p] ∧ ((SqL X.K H p ys ∧ ∀ l, H l = none → Q (.ref l) (upd H l (.tup ys))) ∨ (SqT X.K H p ys ∧ Q (.ref p) H))) := by
  intro pins s σ H xs us Q I r h
  obtain ⟨p, ys, rfl, h⟩ := h
  obtain ⟨u, rfl, rx⟩ := vals1 r
  cases rx
  rcases h with ⟨hq, q⟩ | ⟨hq, q⟩
  · obtain ⟨its, r', pl, hz⟩ := I.list hq
    have hlen := r'.length
    refine call_tuple_list pl.isList (fun h' kp => ?_) (by simp only [List.size_toArray] <;> omega)
    have I1 : Inv X pins σ H { s with heap := h' } := I.kept (t' := s.toks) kp
    have I2 : Inv X pins σ (upd H h'.objs.size (.tup ys)) { s with heap := h'.push { cls := .type "tuple", data := .seq its.toArray } } :=
      I1.laid (t' := s.toks) (fun b o e => Heap.get?_push_of_some _ e) (Nat.le_refl _) (show ObjOk X.prog X.w _ _ _ (.tup ys) from ⟨hz, its, r', IsTupD.new _ _⟩)
    exact ⟨.ref h'.objs.size, _, I2, rfl, q _ (I1.hok.fresh (Nat.le_refl _))⟩
  · obtain ⟨its, r', pl, hz⟩ := I.tuple hq
    exact call_tuple_same pl ⟨.ref p, H, I, rfl, q⟩
/-- the value is of that builtin type -/
def tyV (K : PySem.W.Frag) (T : String) (x : V) (H : Hp) : Prop := match x with
  | .str _ => T = "str"
  | .int _ => T = "int"
  | .ref p => (T = "list" ∧ ∃ xs, SqL K H p xs) ∨ (T = "tuple" ∧ ∃ xs, SqT K H p xs) ∨
      (T = "dict" ∧ ((∃ kvs, H p = some (.dK kvs)) ∨ ∃ kvs, H p = some (.dT kvs))) ∨ (T = "set" ∧ ∃ S n, H p = some (.set S n))
  | _ => False
theorem tyV_is {pins : List (Addr × Obj)} {σ : St} {H : Hp} {s : Shared} {T : String} {x : V} {v : Value} (I : Inv X pins σ H s) (r : RelV x v) (ty : tyV X.K T x H) :
    s.TypeIs v T ∧ ∀ a, v = .ref a → ∃ ob, s.heap.get? a = some ob ∧ ob.dict = none := by
  cases x with
  | str z =>
    obtain ⟨t, rfl⟩ := r
    cases (show T = "str" from ty)
    exact ⟨typeIs_str s z t, fun _ e => nomatch e⟩
  | int i =>
    obtain ⟨t, rfl⟩ := r
    cases (show T = "int" from ty)
    exact ⟨typeIs_int s i t, fun _ e => nomatch e⟩
  | ref p =>
    cases r
    rcases ty with ⟨rfl, xs, hq⟩ | ⟨rfl, xs, hq⟩ | ⟨rfl, hk⟩ | ⟨rfl, S, n, hk⟩
    · obtain ⟨its, _, pl, _⟩ := I.list hq
      refine ⟨pl.isList.typeIs, fun a e => ?_⟩
      cases e
      obtain ⟨o, n, e, c, hd, _⟩ := pl
      exact ⟨o, e, hd⟩
    · obtain ⟨its, _, ⟨o, e, c, hd⟩, _⟩ := I.tupleD hq
      refine ⟨⟨o, e, c.1⟩, fun a e2 => ?_⟩
      cases e2
      exact ⟨o, e, hd⟩
    · have z : ∃ o, s.heap.get? p = some o ∧ o.ExactDict := by
        rcases hk with ⟨kvs, hk⟩ | ⟨kvs, hk⟩
        · obtain ⟨_, _, _, _, o, _, _, e, ex, _⟩ := I.hok p _ hk
          exact ⟨o, e, ex⟩
        · obtain ⟨_, _, _, _, o, _, _, e, ex, _⟩ := I.hok p _ hk
          exact ⟨o, e, ex⟩
      obtain ⟨o, e, ex⟩ := z
      refine ⟨⟨o, e, ex.1⟩, fun a e2 => ?_⟩
      cases e2
      exact ⟨o, e, ex.2.1⟩
    · obtain ⟨o, _, _, _, e, ex, _⟩ := I.hok p _ hk
      refine ⟨⟨o, e, ex.1⟩, fun a e2 => ?_⟩
      cases e2
      exact ⟨o, e, ex.2.1⟩
  | _ => exact False.elim ty
def tBM0 (K : PySem.W.Frag) (T : String) (r : V → List V → Hp → VK → Prop) (to : TE) : TE := fun σ H Q => to σ H fun x H1 => tyV K T x H1 ∧ r x [] H1 Q
def tBM (K : PySem.W.Frag) (T : String) (r : V → List V → Hp → VK → Prop) (to : TE) (t : TA) : TE := fun σ H Q => to σ H fun x H1 => tyV K T x H1 ∧ t σ H1 fun xs H2 => r x xs H2 Q
variable {o e : Expr} {es : List Expr} {to : TE} {t : TA} {name : Str} {apos cpos : Pos} {T id : String} {r : V → List V → Hp → VK → Prop}
theorem pe_bm0 (pa : PlainAttrs T) (slot : Slot T name id) (hty : typeOf (.builtin id) = pure (.type "method_descriptor")) (hm : MtR X id r) (ho : PE X o to)
    (hbase : attributeBase o name X.env (eval o X.env) = eval o X.env := by rfl) (hline : (apos.endLine == cpos.line) = true := by rfl) : PE X (.Call (.Attribute o name apos) [] [] cpos) (tBM0 X.K T r to) := by
  intro pins s σ H Q I h
  refine wpAny_Call_method0_late hbase hline (thn (ho pins s σ H _ I h) fun v s1 ⟨x, H1, I1, r1, ty, q1⟩ => ?_)
  obtain ⟨h1, h2⟩ := tyV_is I1 r1 ty
  exact ⟨T, id, pa, slot, hty, h1, h2, Calls.callWith_builtin rfl (PySem.evalArgs_none (hm pins s1 σ H1 x [] v [] Q I1 r1 .nil q1))⟩
theorem pe_bm (pa : PlainAttrs T) (slot : Slot T name id) (hty : typeOf (.builtin id) = pure (.type "method_descriptor")) (hm : MtR X id r) (ho : PE X o to) (ha : PA X (e :: es) t)
    (hbase : attributeBase o name X.env (eval o X.env) = eval o X.env := by rfl)
    (hfew : ((backTo cpos (starEach (e :: es) X.env)).all (fun x => !x.1) && (backToKw cpos (keywordEach [] X.env)).all (fun x => x.1.isSome)
      && decide ((e :: es).length + ([] : List Keyword).length + (if ([] : List Keyword).isEmpty then 0 else 1) < 30)) = true := by rfl)
    (hline : (apos.endLine == cpos.line) = true := by rfl) (hs : starEach (e :: es) X.env = (false, eval e X.env) :: starEach es X.env := by rfl) (hplain : (backTo cpos (starEach es X.env)).any (·.1) = false := by rfl) :
    PE X (.Call (.Attribute o name apos) (e :: es) [] cpos) (tBM X.K T r to t) := by
  intro pins s σ H Q I h
  refine wpAny_Call_method_late hbase hfew hline rfl (thn (ho pins s σ H _ I h) fun v s1 ⟨x, H1, I1, r1, ty, q1⟩ => ?_)
  obtain ⟨h1, h2⟩ := tyV_is I1 r1 ty
  refine ⟨T, id, pa, slot, hty, h1, h2, ?_⟩
  have hA := ha cpos pins s1 σ H1 _ I1 q1
  rw [hs] at hA ⊢
  refine Calls.callWith_builtin (by show (false || (backTo cpos (starEach es X.env)).any (·.1)) = false; rw [hplain] <;> rfl) (Calls.evalArgs_plain ?_)
  exact thn hA fun us s2 ⟨vs, H2, I2, r2, q2⟩ => hm pins s2 σ H2 x vs v us Q I2 r1 r2 q2
end
end L2
namespace L2
open PySem PySem.Spec PyProof.Rows
def MtM (X : Cx) (id : String) (r : V → List V → Hp → VK → Prop) : Prop :=
  ∀ (pins : List (Addr × Obj)) (s : Shared) (σ : St) (H : Hp) (x : V) (xs : List V) (v : Value) (us : List Value) (Q : VK), Inv X pins σ H s → RelV x v → Vals xs us → r x xs H Q →
    wpAny (model X.prog X.w) X.A (call (.builtin id) (v :: us)) (EP X pins σ Q) X.xe s
theorem Vals.one : ∀ {x : V} {us : List Value}, Vals [x] us → ∃ u, us = [u] ∧ RelV x u
  | _, _, .cons r .nil => ⟨_, rfl, r⟩
theorem Vals.two : ∀ {x y : V} {us : List Value}, Vals [x, y] us → ∃ u v, us = [u, v] ∧ RelV x u ∧ RelV y v
  | _, _, _, .cons r (.cons q .nil) => ⟨_, _, rfl, r, q⟩
theorem Vals.zero : ∀ {us : List Value}, Vals [] us → us = []
  | _, .nil => rfl
theorem Vals.dropLast {xs : List V} {us : List Value} (h : Vals xs us) : Vals xs.dropLast us.dropLast := by
  induction h with
  | nil => exact .nil
  | cons r t ih =>
    cases t with
    | nil => exact .nil
    | cons q t' => exact .cons r ih
theorem Vals.eraseIdx : ∀ {xs : List V} {us : List Value} (i : Nat), Vals xs us → Vals (xs.eraseIdx i) (us.eraseIdx i)
  | _, _, _, .nil => .nil
  | _, _, 0, .cons _ t => t
  | _, _, i + 1, .cons r t => .cons r (Vals.eraseIdx i t)
theorem Vals.reverse {xs : List V} {us : List Value} (h : Vals xs us) : Vals xs.reverse us.reverse := by
  induction h with
  | nil => exact .nil
  | cons r t ih => rw [List.reverse_cons, List.reverse_cons]; exact Vals.append ih (.cons r .nil)
theorem Vals.rep {xs : List V} {us : List Value} (h : Vals xs us) : ∀ k : Nat, Vals (List.replicate k xs).flatten (List.replicate k us).flatten
  | 0 => .nil
  | k + 1 => by
    rw [List.replicate_succ, List.replicate_succ, List.flatten_cons, List.flatten_cons]
    exact Vals.append h (Vals.rep h k)
theorem erase_last {α : Type} (l : List α) : l.eraseIdx (l.length - 1) = l.dropLast := by
  induction l with
  | nil => rfl
  | cons a r ih =>
    cases r with
    | nil => rfl
    | cons b r =>
      have e : (a :: b :: r).length - 1 = ((b :: r).length - 1) + 1 := by
        have h1 : (a :: b :: r).length = r.length + 2 := rfl
        have h2 : (b :: r).length = r.length + 1 := rfl
        omega
      rw [e, List.eraseIdx_cons_succ, ih]
      all_goals rfl
theorem len_erase {α : Type} : ∀ (l : List α) (i : Nat), (l.eraseIdx i).length ≤ l.length
  | [], _ => Nat.le_refl _
  | _ :: _, 0 => Nat.le_succ _
  | _ :: r, i + 1 => Nat.succ_le_succ (len_erase r i)
theorem foldl_rep (its : List Value) : ∀ (k : Nat) (acc : List Value),
    List.foldl (fun x1 x2 => x1 ++ x2) acc.toArray (List.replicate k its.toArray) = (acc ++ (List.replicate k its).flatten).toArray
  | 0, acc => by simp
  | k + 1, acc => by
    have e : acc.toArray ++ its.toArray = (acc ++ its).toArray := by simp
    have e2 : (acc ++ its) ++ (List.replicate k its).flatten = acc ++ (List.replicate (k + 1) its).flatten := by
      rw [List.replicate_succ, List.flatten_cons, List.append_assoc]
    rw [← e2, ← foldl_rep its k (acc ++ its), ← e, List.replicate_succ, List.foldl_cons]
section
variable {X : Cx} {pins : List (Addr × Obj)} {σ : St} {H : Hp} {s : Shared} {l b : Addr} {xs ys zs : List V}
theorem Inv.lset {its its' : List Value} {n : Nat} {f : Array Value → Array Value} {t' : Nat} (I : Inv X pins σ H s) (hH : H l = some (.lst xs))
    (e : s.heap.get? l = some { cls := .type "list", data := .seq its.toArray n }) (hf : f its.toArray = its'.toArray) (hv : Vals ys its') (hz : ys.length ≤ sizeLine) :
    Inv X pins σ (upd H l (.lst ys)) { s with heap := s.heap.update l (Obj.mapSeq f), toks := t' } := by
  have q := PySem.IsL.update e f
  rw [hf] at q
  refine I.write (x := l) (e := l) (by rw [hH]; exact trivial) (.inl rfl) (fun b' u hb hu => (Heap.get?_update_other s.heap (Obj.mapSeq f) (Ne.symm hb)).trans hu) ⟨_, q⟩ ?_
  exact ⟨hz, its', _, hv, q⟩
theorem Inv.lnew {its : List Value} {t' : Nat} (I : Inv X pins σ H s) (hv : Vals ys its) (hz : ys.length ≤ sizeLine) :
    Inv X pins σ (upd H s.heap.objs.size (.lst ys)) { s with heap := s.heap.push { cls := .type "list", data := .seq its.toArray }, toks := t' } :=
  I.laid (fun _ _ q => Heap.get?_push_of_some _ q) (Nat.le_refl _) ⟨hz, its, 0, hv, Heap.get?_push_size _ rfl⟩
theorem Inv.fresh (I : Inv X pins σ H s) : H s.heap.objs.size = none := I.hok.fresh (Nat.le_refl _)
theorem Inv.lstM (I : Inv X pins σ H s) (hH : H l = some (.lst xs)) : xs.length ≤ sizeLine ∧ ∃ (its : List Value) (n : Nat), Vals xs its ∧ xs.length = its.length ∧ s.heap.get? l = some { cls := .type "list", data := .seq its.toArray n } := by
  obtain ⟨z, its, n, r, e⟩ := I.hok l _ hH
  exact ⟨z, its, n, r, r.length, e⟩
theorem notLongL {n : Nat} (h : n ≤ sizeLine) : Builtin.List.listTooLong n = false := by
  unfold Builtin.List.listTooLong
  exact decide_eq_false (by omega)
end
section
variable {X : Cx}
def rAppend : V → List V → Hp → VK → Prop := fun x vs H Q => ∃ l xs y, x = .ref l ∧ vs = [y] ∧ H l = some (.lst xs) ∧ xs.length < sizeLine ∧ Q .non (upd H l (.lst (xs ++ [y])))
theorem mt_append : MtM X "list.append" rAppend := by
  intro pins s σ H x vs v us Q I rx rv h
  obtain ⟨l, xs, y, rfl, rfl, hH, hz, q⟩ := h
  cases rx
  obtain ⟨u, rfl, ru⟩ := rv.one
  obtain ⟨z, its, n, r, hl, e⟩ := I.lstM hH
  refine call_meets F.slot_list_append ⟨_, e, rfl⟩ F.entry_list_append (F.args_list_append_2 _ _) (PySem.list_append l its.toArray n u (by rw [List.size_toArray]; omega)) ⟨e, ?_⟩
  refine ⟨.non, _, I.lset (its' := its ++ [u]) hH e (by simp) (r.append (.cons ru .nil)) ?_, rfl, q⟩
  rw [List.length_append, List.length_singleton]
  omega
def rPop : V → List V → Hp → VK → Prop := fun x vs H Q => ∃ l xs y, x = .ref l ∧ vs = [] ∧ H l = some (.lst xs) ∧ xs[xs.length - 1]? = some y ∧ Q y (upd H l (.lst xs.dropLast))
theorem mt_pop : MtM X "list.pop" rPop := by
  intro pins s σ H x vs v us Q I rx rv h
  obtain ⟨l, xs, y, rfl, rfl, hH, hy, q⟩ := h
  cases rx
  have hus := rv.zero
  subst hus
  obtain ⟨z, its, n, r, hl, e⟩ := I.lstM hH
  obtain ⟨u, hu, ru⟩ := r.get hy
  have hy' : its.toArray[its.toArray.size - 1]? = some u := by
    show its.toArray[its.length - 1]? = some u
    rw [← Array.getElem?_toList, ← hl]
    exact hu
  refine call_meets F.slot_list_pop ⟨_, e, rfl⟩ F.entry_list_pop (F.args_list_pop_1 _) (MeetsSeq.list_pop_last l its.toArray n u hy' (by rw [List.size_toArray]; omega)) ⟨e, ?_⟩
  refine ⟨y, _, I.lset (its' := its.dropLast) hH e ?_ r.dropLast ?_, ru, q⟩
  · show its.toArray.eraseIdxIfInBounds (its.toArray.size - 1) = its.dropLast.toArray
    rw [List.size_toArray, List.eraseIdxIfInBounds_toArray, erase_last]
  · rw [List.length_dropLast]
    omega
def rPopAt : V → List V → Hp → VK → Prop := fun x vs H Q => ∃ l xs i k y, x = .ref l ∧ vs = [.int i] ∧ H l = some (.lst xs) ∧ -(2 ^ 63) ≤ i ∧ i < 2 ^ 63 ∧ seqIndex? i xs.length = some k ∧ xs[k]? = some y ∧ Q y (upd H l (.lst (xs.eraseIdx k)))
theorem mt_popAt : MtM X "list.pop" rPopAt := by
  intro pins s σ H x vs v us Q I rx rv h
  obtain ⟨l, xs, i, k, y, rfl, rfl, hH, h1, h2, hk, hy, q⟩ := h
  cases rx
  obtain ⟨u, rfl, ru⟩ := rv.one
  obtain ⟨t, rfl⟩ := ru
  obtain ⟨z, its, n, r, hl, e⟩ := I.lstM hH
  obtain ⟨w, hw, rw'⟩ := r.get hy
  refine call_meets F.slot_list_pop ⟨_, e, rfl⟩ F.entry_list_pop (F.args_list_pop_2 _ _)
    (MeetsSeq.list_pop_at l its.toArray n i t k w (fitsIndex_both h1 h2) (by rw [List.size_toArray, ← hl]; exact hk) (by rw [← Array.getElem?_toList]; exact hw) (by rw [List.size_toArray]; omega)) ⟨e, ?_⟩
  refine ⟨y, _, I.lset (its' := its.eraseIdx k) hH e ?_ (r.eraseIdx k) ?_, rw', q⟩
  · show its.toArray.eraseIdxIfInBounds k = (its.eraseIdx k).toArray
    rw [List.eraseIdxIfInBounds_toArray]
  · have := len_erase xs k
    omega
def rCat : R2 := fun x y H Q => ∃ l b xs zs, x = .ref l ∧ y = .ref b ∧ H l = some (.lst xs) ∧ H b = some (.lst zs) ∧ xs.length + zs.length ≤ sizeLine ∧ ∀ p, H p = none → Q (.ref p) (upd H p (.lst (xs ++ zs)))
theorem op_cat : OpR X (binaryOp .Add) rCat := by
  intro pins s σ H x y v u Q I rx ry h
  obtain ⟨l, b, xs, zs, rfl, rfl, hH, hB, hz, q⟩ := h
  cases rx
  cases ry
  obtain ⟨z, its, n, r, hl, e⟩ := I.lstM hH
  obtain ⟨z2, its2, n2, r2, hl2, e2⟩ := I.lstM hB
  refine PySem.P.add_list e e2 ?_ (by rw [List.size_toArray, List.size_toArray]; omega)
  have ea : its.toArray ++ its2.toArray = (its ++ its2).toArray := by simp
  rw [ea]
  exact ⟨.ref _, _, I.lnew (t' := s.toks) (r.append r2) (by rw [List.length_append]; omega), rfl, q _ I.fresh⟩
/-- a list times an int (a negative one is nothing) -/
def rRep : R2 := fun x y H Q => ∃ l k xs, x = .ref l ∧ y = .int k ∧ H l = some (.lst xs) ∧ -(2 ^ 63) ≤ k ∧ k < 2 ^ 63 ∧ xs.length * k.toNat ≤ sizeLine ∧
  ∀ p, H p = none → Q (.ref p) (upd H p (.lst (List.replicate k.toNat xs).flatten))
theorem len_rep {α : Type} (xs : List α) (k : Nat) : (List.replicate k xs).flatten.length = k * xs.length := by
  induction k with
  | zero => simp
  | succ k ih => rw [List.replicate_succ, List.flatten_cons, List.length_append, ih, Nat.succ_mul, Nat.add_comm]
theorem op_rep : OpR X (binaryOp .Mult) rRep := by
  intro pins s σ H x y v u Q I rx ry h
  obtain ⟨l, k, xs, rfl, rfl, hH, h1, h2, hz, q⟩ := h
  cases rx
  obtain ⟨t, rfl⟩ := ry
  obtain ⟨z, its, n, r, hl, e⟩ := I.lstM hH
  have hlen : its.toArray.size * k.toNat ≤ sizeLine := by rw [List.size_toArray, ← hl]; exact hz
  have hcap : ¬ its.toArray.size * k.toNat > (2 ^ 63 - 1) / 8 := by
    have : (sizeLine : Nat) ≤ (2 ^ 63 - 1) / 8 := by decide
    omega
  have hfit : ¬ (!Builtin.List.listFitsIndex k) = true := by
    rw [fitsIndex_both h1 h2]
    exact Bool.false_ne_true
  have hlong : ¬ Builtin.List.listTooLong (its.toArray.size * k.toNat) = true := by
    rw [notLongL hlen]
    exact Bool.false_ne_true
  have hnew : List.foldl (fun x1 x2 => x1 ++ x2) #[] (List.replicate (if its.toArray.isEmpty = true then 0 else k.toNat) its.toArray) = (List.replicate k.toNat its).flatten.toArray := by
    have f0 : ∀ m : Nat, List.foldl (fun x1 x2 => x1 ++ x2) #[] (List.replicate m its.toArray) = (List.replicate m its).flatten.toArray := fun m => by
      have := foldl_rep its m []
      rw [List.nil_append] at this
      exact this
    rw [f0]
    cases its with
    | nil => simp
    | cons a r' => rw [if_neg (by simp)]
  refine wpAny_binaryOp_repeat_ref (T := "list") (U := "int") (by decide) ⟨_, e, rfl⟩ (fun s' => typeIs_int s' k t) noFill_list_mul F.fills_int_mul F.slot_int_rmul repeat_list F.slot_int_index.lookup
    (call_meets F.slot_int_rmul (typeIs_int s k t) F.entry_int_rmul (F.args_int_rmul_2 _ _) (int___rmul___int_list k t l its.toArray n)
      ⟨e, rfl, ⟨_, e, rfl⟩, call_meets F.slot_list_mul ⟨_, e, rfl⟩ F.entry_list_mul (F.args_list_mul_2 _ _) (AutoListH.list___mul___list_int_3 l its.toArray n k t hfit hcap hlong) ⟨e, ?_⟩⟩)
  rw [hnew]
  exact ⟨.ref _, _, I.lnew (t' := s.toks) (r.rep k.toNat) (by rw [len_rep, Nat.mul_comm]; exact hz), rfl, q _ I.fresh⟩
end
section
variable {prog : Program} {w : World} {A : Around} {E : Value → Shared → Prop} {s : Shared}
end
section
variable {X : Cx}
end
end L2
namespace L2
open PySem PySem.Spec PyProof.Rows
theorem Vals.ints : ∀ {ns : List Int} {us : List Value}, Vals (ns.map V.int) us → IntsAre us ns
  | [], us, h => by
    rw [List.map_nil] at h
    cases h
    exact IntsAre.nil
  | n :: ns, us, h => by
    rw [List.map_cons] at h
    cases h with
    | cons r t =>
      obtain ⟨k, rfl⟩ := r
      exact IntsAre.cons n k (Vals.ints t)
theorem Vals.bls : ∀ {bs : List Bool} {us : List Value}, Vals (bs.map V.bl) us → us = bs.map Value.bool
  | [], us, h => by
    rw [List.map_nil] at h
    cases h
    rfl
  | b :: bs, us, h => by
    rw [List.map_cons] at h
    cases h with
    | cons r t =>
      cases r
      rw [Vals.bls t, List.map_cons]
theorem Vals.ref1 {a : Addr} {us : List Value} (r : Vals [V.ref a] us) : us = [Value.ref a] := by
  cases r with
  | cons r t =>
    cases t
    cases r
    rfl
section
variable {prog : Program} {w : World} {A : Around} {E : Value → Shared → Prop} {s : Shared} {l : Addr} {its : List Value} {ns : List Int} {Q : Value → Shared → Prop}
theorem max_raw (hh : A.handled = none) (hl : s.heap.IsList l its.toArray) (hi : IntsAre its ns) (hne : 0 < ns.length)
    (h : ∀ h' tk M t', (∀ b o, s.heap.get? b = some o → h'.get? b = some o) → M ∈ ns → (∀ a, a ∈ ns → a ≤ M) → Q (.int M t') { s with heap := h', toks := tk }) : wpAny (model prog w) A (call (.builtin "max") [.ref l]) Q E s := by
  obtain ⟨xs, e⟩ := hi.allInts.items
  have hn : numsOf (intItems xs).toList = ns := by rw [← e]; exact hi.numsOf
  rw [nums_intItems] at hn
  subst hn
  rw [e] at hl
  have hsz : 0 < xs.size := by simpa using hne
  refine PySem.max_intList hh hl hsz fun v h' tk hv hk => ?_
  obtain ⟨t, rfl⟩ := intItems_at hv
  obtain ⟨h1, h2⟩ := argBest_gt (numAt xs) (xs.size - 1)
  refine h h' tk _ t hk ?_ fun a ha => ?_
  · rw [numAt_eq]; exact PySem.getD_mem (by rw [List.length_map, Array.length_toList]; omega)
  · obtain ⟨j, hj, rfl⟩ := mem_getD ha
    rw [List.length_map, Array.length_toList] at hj
    rw [← numAt_eq]; exact h2 j (by omega)
end
section
variable {X : Cx}
/-- max(xs), min(xs) of a list of ints -/
def rMax (K : PySem.W.Frag) : List V → Hp → VK → Prop := fun vs H Q => ∃ (a : Addr) (ns : List Int), vs = [V.ref a] ∧ SqL K H a (ns.map V.int) ∧ 0 < ns.length ∧ ∀ m, m ∈ ns → (∀ y, y ∈ ns → y ≤ m) → Q (.int m) H
theorem cr_max (hc : X.calm = true) : CallR X (.builtin "max") (rMax X.K) := by
  intro pins s σ H vs us Q I r h
  obtain ⟨a, ns, rfl, hs, hne, q⟩ := h
  obtain ⟨its, rv, hl, _⟩ := I.list hs
  rw [Vals.ref1 r]
  exact max_raw (I.ok.hd hc) hl.isList rv.ints hne fun h' tk m t' hk h1 h2 => ⟨.int _, H, I.kept hk, ⟨_, rfl⟩, q m h1 h2⟩
end
section
variable {X : Cx}
def rIndex (K : PySem.W.Frag) : V → List V → Hp → VK → Prop := fun x xs H Q => ∃ (a : Addr) (ys : List V) (y : V) (j : Nat) (z : V), x = V.ref a ∧ xs = [y] ∧ SqL K H a ys ∧ flatV y = true ∧ ys.all flatV = true ∧ ys[j]? = some z ∧ eqV z y = true ∧
  (∀ (m : Nat) (z' : V), m < j → ys[m]? = some z' → eqV z' y = false) ∧ Q (.int (j : Nat)) H
theorem flat_at {ys : List V} (f : ys.all flatV = true) {j : Nat} {z : V} (h : ys[j]? = some z) : flatV z = true := List.all_eq_true.mp f z (List.mem_of_getElem? h)
theorem mt_index : MtR X "list.index" (rIndex X.K) := by
  intro pins s σ H x xs v us Q I rx rxs h
  obtain ⟨a, ys, y, j, z, rfl, rfl, hs, fy, fys, hz, hzj, hno, q⟩ := h
  cases rx
  cases rxs with
  | cons ry rt =>
    rename_i uy ut
    cases rt
    obtain ⟨its, rv, ⟨⟨cls, dd, data, sl⟩, n, ho, hc, hdn, hd⟩, hlen⟩ := I.list hs
    simp only at hc hd
    subst hc hd
    obtain ⟨u, hu, ru⟩ := rv.get hz
    obtain ⟨hjl, hje⟩ := List.getElem?_eq_some_iff.mp hu
    have hvl := rv.length
    have hj : j < its.toArray.size := by simpa using hjl
    have hsl := sizeLine_eq
    refine call_meets PySem.F.slot_list_index ⟨_, ho, rfl⟩ PySem.F.entry_list_index (PySem.F.args_list_index_2 _ _)
      (SeqAt.list_indexAt a its.toArray n dd sl uy (eqU y) j hj (by omega) ?_ ?_) ⟨ho, fun u' hu' => mem_eqAt ry fy rv fys u' (by simpa using hu'), ?_⟩
    · have e1 : its.toArray[j] = u := by simpa using hje
      rw [e1, eqU_of ru (flat_at fys hz)]
      exact hzj
    · intro m hm hmj
      have hml : m < its.length := by simpa using hm
      have hmy : m < ys.length := by omega
      have hy' : ys[m]? = some ys[m] := List.getElem?_eq_getElem hmy
      obtain ⟨u2, hu2, ru2⟩ := rv.get hy'
      obtain ⟨_, hme⟩ := List.getElem?_eq_some_iff.mp hu2
      have e1 : its.toArray[m] = u2 := by simpa using hme
      rw [e1, eqU_of ru2 (flat_at fys hy')]
      exact hno m _ hmj hy'
    · exact ⟨.int (j : Nat), H, I.tok _, ⟨_, rfl⟩, q⟩
end
section
variable {X : Cx}
end
theorem iter_any {prog : Program} {w : World} {A : Around} {E : Value → Shared → Prop} {s : Shared} {l : Addr} {items : Array Value} {Q : Value → Shared → Prop} (hl : s.heap.IsList l items)
    (h : ∀ s₂ : Shared, s₂ = { s with heap := s.heap.push { cls := .type "list_iterator", data := .fields #[.ref l, .int 0 0] } } →
      (s₂.heap.IsListIter s.heap.objs.size l 0 ∧ s₂.heap.IsList l items) → l ≠ s.heap.objs.size → Q (.ref s.heap.objs.size) s₂) : wpAny (model prog w) A (pyIter (.ref l)) Q E s := by
  have hlt : l < s.heap.objs.size := by obtain ⟨_, e, _⟩ := hl; exact Heap.lt_size e
  exact wpAny_pyIter_list hl (h _ rfl ⟨⟨_, Heap.get?_push_size _ rfl, rfl, rfl⟩, hl.push _⟩ (Nat.ne_of_lt hlt))
theorem truth_bools {prog : Program} {w : World} {A : Around} {bs : List Bool} {its : List Value} (e : its = bs.map Value.bool) :
    TruthOf prog w A (fun i v => its.toArray[i]? = some v) (fun i => bs.getD i false) := fun i v s Q E hv hq => by
  have hv' : its[i]? = some v := by simpa using hv
  rw [e, List.getElem?_map] at hv'
  obtain ⟨b, hb, rfl⟩ := Option.map_eq_some_iff.mp hv'
  have hg : bs.getD i false = b := by rw [List.getD_eq_getElem?_getD, hb] <;> rfl
  have hq' : Q (bs.getD i false) s := hq
  rw [hg] at hq'
  exact wpAny_truthy_bool hq'
theorem all_range : ∀ bs : List Bool, (List.range bs.length).all (fun i => bs.getD i false) = bs.all id
  | [] => rfl
  | b :: bs => by
    rw [List.length_cons, List.range_succ_eq_map, List.all_cons, List.all_map, List.all_cons, ← all_range bs]
    all_goals rfl
section
variable {X : Cx}
def rAll (K : PySem.W.Frag) : List V → Hp → VK → Prop := fun vs H Q => ∃ (a : Addr) (bs : List Bool), vs = [V.ref a] ∧ SqL K H a (bs.map V.bl) ∧ Q (.bl (bs.all id)) H
theorem cr_all (hc : X.calm = true) : CallR X (.builtin "all") (rAll X.K) := by
  intro pins s σ H vs us Q I r h
  obtain ⟨a, bs, rfl, hs, q⟩ := h
  obtain ⟨its, rv, hl, _⟩ := I.list hs
  rw [Vals.ref1 r]
  have hb := rv.bls
  refine call_all_walk (iter_any hl.isList fun s₂ e2 st hne => ?_)
  subst e2
  refine ⟨_, _, _, _, _, _, _, rfl, Walks.list (A := X.A.in1) (I.ok.hd hc) _ a hne its.toArray, st, truth_bools hb, fun h' tk hk => ?_⟩
  refine ⟨.bl _, H, I.kept fun b o eo => hk b o (fun hmem => ?_) (Heap.get?_push_of_some _ eo), ?_, q⟩
  · rcases List.mem_cons.mp hmem with e1 | hmem
    · exact absurd (e1 ▸ Heap.lt_size eo) (Nat.lt_irrefl _)
    · cases hmem
  · show Value.bool _ = Value.bool _
    rw [← all_range, hb, List.size_toArray, List.length_map]
end
mutual
inductive Dp (K : PySem.W.Frag) (H : Hp) : V → PyData → Prop
  | non : Dp K H .non .none
  | bl (b : Bool) : Dp K H (.bl b) (.bool b)
  | int (i : Int) : Dp K H (.int i) (.int i)
  | str (x : Str) : Dp K H (.str x) (.str x)
  | lst {a : Addr} {xs : List V} {ds : List PyData} : SqL K H a xs → DpAll K H xs ds → Dp K H (.ref a) (.list ds)
  | tup {a : Addr} {xs : List V} {ds : List PyData} : SqT K H a xs → DpAll K H xs ds → Dp K H (.ref a) (.tuple ds)
inductive DpAll (K : PySem.W.Frag) (H : Hp) : List V → List PyData → Prop
  | nil : DpAll K H [] []
  | cons {v : V} {vs : List V} {d : PyData} {ds : List PyData} : Dp K H v d → DpAll K H vs ds → DpAll K H (v :: vs) (d :: ds)
end
section
variable {X : Cx} {pins : List (Addr × Obj)} {σ : St} {H : Hp} {s : Shared}
mutual
theorem Dp.reads (I : Inv X pins σ H s) : ∀ (d : PyData) (v : V) (u : Value), Dp X.K H v d → RelV v u → ∃ as, Reads s.heap u d as
  | .none, _, _, h, r => by
    cases h
    cases r
    exact ⟨_, Reads.none⟩
  | .bool b, _, _, h, r => by
    cases h
    cases r
    exact ⟨_, Reads.bool b⟩
  | .int i, _, _, h, r => by
    cases h
    obtain ⟨t, rfl⟩ := r
    exact ⟨_, Reads.int i t⟩
  | .str x, _, _, h, r => by
    cases h
    obtain ⟨t, rfl⟩ := r
    exact ⟨_, Reads.str x t⟩
  | .list ds, _, _, h, r => by
    cases h with
    | lst hs ha =>
      cases r
      obtain ⟨its, rv, ⟨o, n, ho, hc, _, hd⟩, _⟩ := I.list hs
      obtain ⟨as, hr⟩ := Dp.readsAll I ds _ its ha rv
      exact ⟨_, Reads.list ho hc hd hr⟩
  | .tuple ds, _, _, h, r => by
    cases h with
    | tup hs ha =>
      cases r
      obtain ⟨its, rv, ⟨o, ho, hc, n, hd⟩, _⟩ := I.tuple hs
      obtain ⟨as, hr⟩ := Dp.readsAll I ds _ its ha rv
      exact ⟨_, Reads.tuple ho hc hd hr⟩
  | .dict _, _, _, h, _ => by cases h
theorem Dp.readsAll (I : Inv X pins σ H s) : ∀ (ds : List PyData) (vs : List V) (us : List Value), DpAll X.K H vs ds → Vals vs us → ∃ as, ReadsAll s.heap us ds as
  | [], _, _, h, r => by
    cases h
    cases r
    exact ⟨_, ReadsAll.nil⟩
  | d :: ds, _, _, h, r => by
    cases h with
    | cons h1 h2 =>
      cases r with
      | cons r1 r2 =>
        obtain ⟨as, q1⟩ := Dp.reads I d _ _ h1 r1
        obtain ⟨bs, q2⟩ := Dp.readsAll I ds _ _ h2 r2
        exact ⟨_, ReadsAll.cons q1 q2⟩
end
end
section
variable {X : Cx}
def rEqD (K : PySem.W.Frag) : R2 := fun x y H Q => ∃ d e, Dp K H x d ∧ Dp K H y e ∧ SeqAt.shaped d = true ∧ SeqAt.shaped e = true ∧ Q (.bl (PyData.eqv d e)) H
def rNeD (K : PySem.W.Frag) : R2 := fun x y H Q => ∃ d e, Dp K H x d ∧ Dp K H y e ∧ SeqAt.shaped d = true ∧ SeqAt.shaped e = true ∧ Q (.bl (!PyData.eqv d e)) H
theorem op_eqD (hu : X.A.units + 64 < cLine) : OpR X (compareOp .Eq) (rEqD X.K) := by
  intro pins s σ H x y v u Q I rx ry h
  obtain ⟨d, e, hd, he, sd, se, q⟩ := h
  obtain ⟨as, r1⟩ := Dp.reads I d x v hd rx
  obtain ⟨bs, r2⟩ := Dp.reads I e y u he ry
  exact SeqAt.compareEq_shaped r1 r2 sd se hu ⟨.bl _, H, I, rfl, q⟩
theorem op_neD (hu : X.A.units + 64 < cLine) : OpR X (compareOp .NotEq) (rNeD X.K) := by
  intro pins s σ H x y v u Q I rx ry h
  obtain ⟨d, e, hd, he, sd, se, q⟩ := h
  obtain ⟨as, r1⟩ := Dp.reads I d x v hd rx
  obtain ⟨bs, r2⟩ := Dp.reads I e y u he ry
  exact SeqAt.compareNe_shaped r1 r2 sd se hu ⟨.bl _, H, I, rfl, q⟩
end
end L2
namespace L2
open PySem PySem.Spec PyProof.Rows
abbrev CellAt (h : Heap) (c : Addr) (v : Option Value) : Prop := h.IsCell c v
def relS (scope sc : Scope) : Scope :=
  { scope with names := scope.names.map fun (n, k) => if (k == .free && sc.kind == .function && sc.names.lookup n == some .cell) then (n, .cell) else (n, k) }
def cloFrom (cells : List (Str × Addr)) : List (Str × NameKind) → List (Str × Addr) → List (Str × Addr)
  | [], acc => acc
  | (n, k) :: r, acc => if k == .free then cloFrom cells r ((n, (cells.lookup n).getD 0) :: acc) else cloFrom cells r acc
theorem closure_loop (env : Env) (f : Str × NameKind → List (Str × Addr) → Sem (ForInStep (List (Str × Addr))))
    (hf : ∀ n k c, f (n, k) c = if k == .free then (do let a ← cellOf env n; pure (.yield ((n, a) :: c))) else pure (.yield c)) :
    ∀ (names : List (Str × NameKind)) (acc : List (Str × Addr)), (∀ y ∈ names, y.2 = .free → ∃ c, env.cells.lookup y.1 = some c) → forIn names acc f = pure (cloFrom env.cells names acc)
  | [], acc, _ => by rw [List.forIn_nil]; rfl
  | (n, k) :: r, acc, h => by
    rw [List.forIn_cons, hf]
    have ih := fun acc => closure_loop env f hf r acc fun y hy => h y (List.mem_cons_of_mem _ hy)
    unfold cloFrom
    by_cases hk : (k == NameKind.free) = true
    · rw [if_pos hk, if_pos hk]
      obtain ⟨c, hc⟩ := h (n, k) List.mem_cons_self (by simpa using hk)
      have e : cellOf env n = pure c := by unfold cellOf; rw [hc]
      rw [e]
      have e2 : (env.cells.lookup n).getD 0 = c := by rw [hc]; rfl
      rw [e2]
      exact ih _
    · rw [if_neg hk, if_neg hk]
      exact ih _
theorem closure_ok {scope : Scope} {env : Env} (h : ∀ y ∈ scope.names, y.2 = .free → ∃ c, env.cells.lookup y.1 = some c) : closureFor scope env = pure (cloFrom env.cells scope.names []) := by
  simp only [closureFor]
  rw [closure_loop env _ (fun n k c => rfl) scope.names [] h]
  rfl
theorem mem_lookup {α : Type} : ∀ {l : List (Str × α)} {n : Str} {c : α}, (n, c) ∈ l → ∃ c', l.lookup n = some c'
  | (k, v) :: r, n, c, h => by
    rw [List.lookup_cons]
    cases hb : n == k with
    | true => exact ⟨_, rfl⟩
    | false =>
      rcases List.mem_cons.mp h with e | h
      · cases e; simp at hb
      · exact mem_lookup h
theorem cloFrom_mem {cells : List (Str × Addr)} : ∀ {names : List (Str × NameKind)} {acc : List (Str × Addr)} {n : Str} {c : Addr}, (n, c) ∈ cloFrom cells names acc → (n, c) ∈ acc ∨ ((n, .free) ∈ names ∧ c = (cells.lookup n).getD 0)
  | [], _, _, _, h => .inl h
  | (m, k) :: r, acc, n, c, h => by
    unfold cloFrom at h
    split at h
    · rename_i hk
      have hk : k = .free := by simpa using hk
      rcases cloFrom_mem h with h | ⟨h1, h2⟩
      · rcases List.mem_cons.mp h with e | h
        · cases e; exact .inr ⟨hk ▸ List.mem_cons_self, rfl⟩
        · exact .inl h
      · exact .inr ⟨List.mem_cons_of_mem _ h1, h2⟩
    · rcases cloFrom_mem h with h | ⟨h1, h2⟩
      · exact .inl h
      · exact .inr ⟨List.mem_cons_of_mem _ h1, h2⟩
theorem cloFrom_acc {cells : List (Str × Addr)} : ∀ {names : List (Str × NameKind)} {acc : List (Str × Addr)} {p : Str × Addr}, p ∈ acc → p ∈ cloFrom cells names acc
  | [], _, _, h => h
  | (m, k) :: r, acc, p, h => by
    unfold cloFrom
    split
    · exact cloFrom_acc (List.mem_cons_of_mem _ h)
    · exact cloFrom_acc h
theorem cloFrom_has {cells : List (Str × Addr)} : ∀ {names : List (Str × NameKind)} {acc : List (Str × Addr)} {n : Str}, (n, .free) ∈ names → (n, (cells.lookup n).getD 0) ∈ cloFrom cells names acc
  | (m, k) :: r, acc, n, h => by
    unfold cloFrom
    rcases List.mem_cons.mp h with e | h
    · cases e
      exact cloFrom_acc List.mem_cons_self
    · split
      · exact cloFrom_has h
      · exact cloFrom_has h
theorem cells_mem : ∀ {names : List (Str × NameKind)} {h : Heap} {acc : List (Str × Addr)} {x : Str} {c : Addr}, (x, c) ∈ cellsFrom h.objs.size names acc →
    (x, c) ∈ acc ∨ ((x, .cell) ∈ names ∧ h.objs.size ≤ c ∧ CellAt (pushCells h names) c none)
  | [], _, _, _, _, h => .inl h
  | (n, k) :: r, h, acc, x, c, hm => by
    unfold cellsFrom at hm
    unfold pushCells
    split at hm
    · rename_i hk
      rw [if_pos hk]
      have hk : k = .cell := by simpa using hk
      rw [← Heap.size_push h { cls := .type "cell", data := .cell none }] at hm
      rcases cells_mem hm with hm | ⟨h1, h2, h3⟩
      · rcases List.mem_cons.mp hm with e | hm
        · cases e
          exact .inr ⟨hk ▸ List.mem_cons_self, Nat.le_refl _, _, pushCells_keeps r _ _ _ (Heap.get?_push_size _ rfl), rfl⟩
        · exact .inl hm
      · rw [Heap.size_push] at h2
        exact .inr ⟨List.mem_cons_of_mem _ h1, Nat.le_of_succ_le h2, h3⟩
    · rename_i hk
      rw [if_neg hk]
      rcases cells_mem hm with hm | ⟨h1, h2, h3⟩
      · exact .inl hm
      · exact .inr ⟨List.mem_cons_of_mem _ h1, h2, h3⟩
theorem cells_acc : ∀ {names : List (Str × NameKind)} {n : Nat} {acc : List (Str × Addr)} {p : Str × Addr}, p ∈ acc → p ∈ cellsFrom n names acc
  | [], _, _, _, h => h
  | (m, k) :: r, n, acc, p, h => by
    unfold cellsFrom
    split
    · exact cells_acc (List.mem_cons_of_mem _ h)
    · exact cells_acc h
theorem cells_has : ∀ {names : List (Str × NameKind)} {n : Nat} {acc : List (Str × Addr)} {x : Str}, (x, .cell) ∈ names → ∃ c, (x, c) ∈ cellsFrom n names acc
  | (m, k) :: r, n, acc, x, h => by
    unfold cellsFrom
    rcases List.mem_cons.mp h with e | h
    · cases e
      exact ⟨n, cells_acc List.mem_cons_self⟩
    · split
      · exact cells_has h
      · exact cells_has h
theorem cells_inj : ∀ {names : List (Str × NameKind)} {h : Heap} {acc : List (Str × Addr)} {x y : Str} {c : Addr}, (∀ p ∈ acc, p.2 < h.objs.size) → (∀ x y c, (x, c) ∈ acc → (y, c) ∈ acc → x = y) →
    (x, c) ∈ cellsFrom h.objs.size names acc → (y, c) ∈ cellsFrom h.objs.size names acc → x = y
  | [], _, _, _, _, _, _, hi, h1, h2 => hi _ _ _ h1 h2
  | (n, k) :: r, h, acc, x, y, c, hl, hi, h1, h2 => by
    unfold cellsFrom at h1 h2
    split at h1
    · rename_i hk
      rw [if_pos hk] at h2
      rw [← Heap.size_push h { cls := .type "cell", data := .cell none }] at h1 h2
      refine cells_inj (h := h.push _) (fun p hp => ?_) (fun x y c a b => ?_) h1 h2
      · rw [Heap.size_push]
        rcases List.mem_cons.mp hp with rfl | hp
        · exact Nat.lt_succ_self _
        · exact Nat.lt_succ_of_lt (hl p hp)
      · rcases List.mem_cons.mp a with e | a <;> rcases List.mem_cons.mp b with e' | b
        · cases e; cases e'; rfl
        · cases e; exact absurd (hl _ b) (Nat.lt_irrefl _)
        · cases e'; exact absurd (hl _ a) (Nat.lt_irrefl _)
        · exact hi _ _ _ a b
    · rename_i hk
      rw [if_neg hk] at h2
      exact cells_inj hl hi h1 h2
theorem newEnv_comp {M : Model} {A : Around} {E : Value → Shared → Prop} {s : Shared} {scope : Scope} {globals : Addr} {closure : List (Str × Addr)} {qual : Str} {func : Option Addr} {code : Value} {around : Env} {builtins : Addr} {Q : Env → Shared → Prop}
    (h : Q (newEnv scope s.heap.objs.size globals (cellsFrom (s.heap.objs.size + 1) scope.names closure) qual func code (some around) builtins)
      { s with heap := pushCells (s.heap.push { cls := .type "dict", data := .dict #[] }) scope.names }) :
    wpAny M A (newFunctionEnv scope globals closure [] qual func code (some around) builtins) Q E s := by
  simp only [newFunctionEnv, Option.isSome_some, if_true]
  refine wpAny_bind (wpAny_alloc ?_)
  refine wpAny_bind (wpAny_layCells _ (fun n k c => rfl) scope.names closure _ _ ?_)
  rw [show ({ s with heap := s.heap.push { cls := .type "dict", data := .dict #[] } } : Shared).heap.objs.size = s.heap.objs.size + 1 from Heap.size_push ..]
  rw [List.forIn_nil]
  exact wpAny_bind (wpAny_pure (wpAny_pure h))
/-- every name of the written scope, in the scope that runs -/
theorem lookup_relS {sc : Scope} : ∀ {names : List (Str × NameKind)} {x : Str} {k : NameKind},
    (names.map fun (n, k) => if (k == NameKind.free && sc.kind == .function && sc.names.lookup n == some .cell) then (n, NameKind.cell) else (n, k)).lookup x = some k →
    ∃ k', names.lookup x = some k' ∧ (k = k' ∨ (k' = .free ∧ k = .cell))
  | [], _, _, h => by simp at h
  | (n, k₀) :: r, x, k, h => by
    have ih := @lookup_relS sc r x k
    have h' : List.lookup x ((if (k₀ == NameKind.free && sc.kind == .function && sc.names.lookup n == some .cell) = true then (n, NameKind.cell) else (n, k₀)) :: (r.map _)) = some k := h
    cases hx : x == n with
    | true =>
      simp only [List.lookup_cons, hx]
      by_cases hc : (k₀ == NameKind.free && sc.kind == .function && sc.names.lookup n == some .cell) = true
      · rw [if_pos hc] at h'
        simp only [List.lookup_cons, hx] at h'
        cases h'
        simp only [Bool.and_eq_true, beq_iff_eq] at hc
        exact ⟨k₀, rfl, .inr ⟨hc.1.1, rfl⟩⟩
      · rw [if_neg hc] at h'
        simp only [List.lookup_cons, hx] at h'
        cases h'
        exact ⟨_, rfl, .inl rfl⟩
    | false =>
      simp only [List.lookup_cons, hx]
      by_cases hc : (k₀ == NameKind.free && sc.kind == .function && sc.names.lookup n == some .cell) = true
      · rw [if_pos hc] at h'
        simp only [List.lookup_cons, hx] at h'
        exact ih h'
      · rw [if_neg hc] at h'
        simp only [List.lookup_cons, hx] at h'
        exact ih h'
/-- the names of a comprehension's block: its own (with their places in N), or captured -/
structure BlkOk (N : List Str) (sc scope : Scope) (own : List (Str × Nat)) : Prop where
  kind : scope.kind = .function
  uniq : ∀ y ∈ scope.names, scope.names.lookup y.1 = some y.2
  ix : ∀ p ∈ own, N[p.2]? = some p.1
  free : ∀ y ∈ scope.names, y.2 = .free → sc.names.lookup y.1 = some .cell ∨ sc.names.lookup y.1 = some .free
  own : ∀ y ∈ scope.names, y.2 = .local ∨ y.2 = .cell → y.1 ∈ own.map (·.1) ∨ y.1 ∉ N
/-- the slots of the block's own names forgotten -/
def wipe (σ : St) : List Nat → St
  | [] => σ
  | v :: vs => (wipe σ vs).set v none
theorem wipe_length (σ : St) : ∀ vs : List Nat, (wipe σ vs).length = σ.length
  | [] => rfl
  | v :: vs => by unfold wipe; rw [List.length_set, wipe_length σ vs]
theorem wipe_some {σ : St} {i : Nat} {x : V} : ∀ {vs : List Nat}, (wipe σ vs)[i]? = some (some x) → σ[i]? = some (some x) ∧ i ∉ vs
  | [], h => ⟨h, by simp⟩
  | v :: vs, h => by
    unfold wipe at h
    by_cases hi : v = i
    · subst hi
      by_cases hv : v < (wipe σ vs).length
      · rw [List.getElem?_set_self hv] at h; cases h
      · rw [List.getElem?_eq_none (by simpa using hv)] at h; cases h
    · rw [List.getElem?_set_ne hi] at h
      obtain ⟨h1, h2⟩ := wipe_some h
      exact ⟨h1, by simp only [List.mem_cons, not_or]; exact ⟨fun e => hi e.symm, h2⟩⟩
/-- the context of a block that starts at s, its iterator's objects at fp -/
abbrev Cx.blk (X : Cx) (s : Shared) (H : Hp) (scope : Scope) (cenv : Env) (fp : List Addr) : Cx := { X with s_0 := s, H_0 := H, env := cenv, outer := X.stack, ex := fp, fn := fun x => scope.names.lookup x == some .cell, pn := [], xe := fun _ _ => False }
section
variable {X : Cx} {pins : List (Addr × Obj)} {σ : St} {H : Hp} {s : Shared}
theorem block_start {scope : Scope} {own : List (Str × Nat)} {fp : List Addr} (I : Inv X pins σ H s) (ok : BlkOk X.N X.env.scope scope own) (hN : X.N.Nodup) (hfp : ∀ b ∈ fp, FpOk X pins H b ∧ b < s.heap.objs.size) :
    Inv (X.blk s H scope (compEnvC scope (cellsFrom (s.heap.objs.size + 1) scope.names (cloFrom X.env.cells scope.names [])) s.heap.objs.size X.env) fp) [] (wipe σ (own.map (·.2))) H { s with heap := pushCells (s.heap.push { cls := .type "dict", data := .dict #[] }) scope.names } := by
  have hfree : ∀ y ∈ scope.names, y.2 = .free → ∃ c, X.env.cells.lookup y.1 = some c := fun y hy e => by
    rcases ok.free y hy e with k | k
    · exact I.ok.has _ (.inl k)
    · exact I.ok.has _ (.inr k)
  generalize hcenv : compEnvC scope (cellsFrom (s.heap.objs.size + 1) scope.names (cloFrom X.env.cells scope.names [])) s.heap.objs.size X.env = cenv
  have kp : ∀ b o, s.heap.get? b = some o → (pushCells (s.heap.push { cls := .type "dict", data := .dict #[] }) scope.names).get? b = some o := fun b o e => pushCells_keeps _ _ _ _ (Heap.get?_push_of_some _ e)
  have hL : cenv.locals = s.heap.objs.size := by rw [← hcenv]; rfl
  have hcl : cenv.cells = cellsFrom (s.heap.objs.size + 1) scope.names (cloFrom X.env.cells scope.names []) := by rw [← hcenv]; rfl
  have hsc : cenv.scope = relS scope X.env.scope := by rw [← hcenv]; rfl
  rw [← Heap.size_push s.heap { cls := .type "dict", data := .dict #[] }] at hcl
  have cm : ∀ {y c}, (y, c) ∈ cloFrom X.env.cells scope.names [] → X.env.cells.lookup y = some c ∧ c < s.heap.objs.size := fun {y c} hm => by
    rcases cloFrom_mem hm with hm | ⟨h1, rfl⟩
    · cases hm
    · obtain ⟨c, hc⟩ := hfree _ h1 rfl
      rw [hc]
      obtain ⟨w, z⟩ := I.cell _ _ hc
      exact ⟨rfl, z.lt⟩
  have mem : ∀ {y c}, cenv.cells.lookup y = some c → (X.env.cells.lookup y = some c ∧ c < s.heap.objs.size) ∨ (s.heap.objs.size + 1 ≤ c ∧ CellAt (pushCells (s.heap.push { cls := .type "dict", data := .dict #[] }) scope.names) c none) := fun {y c} e => by
    rw [hcl] at e
    rcases cells_mem (PySem.mem_of_lookup e) with hm | ⟨_, h2, h3⟩
    · exact .inl (cm hm)
    · rw [Heap.size_push] at h2; exact .inr ⟨h2, h3⟩
  have look : ∀ {y}, scope.names.lookup y = some .free → ∃ c, cenv.cells.lookup y = some c ∧ X.env.cells.lookup y = some c := fun {y} hl => by
    have hy : (y, NameKind.free) ∈ scope.names := PySem.mem_of_lookup hl
    obtain ⟨c', e'⟩ := mem_lookup (cells_acc (names := scope.names) (n := (s.heap.push { cls := .type "dict", data := .dict #[] }).objs.size) (cloFrom_has (cells := X.env.cells) (acc := []) hy))
    rw [← hcl] at e'
    refine ⟨c', e', ?_⟩
    rw [hcl] at e'
    rcases cells_mem (PySem.mem_of_lookup e') with hm | ⟨h1, _, _⟩
    · exact (cm hm).1
    · have := ok.uniq _ h1
      rw [hl] at this; cases this
  have okB : (X.blk s H scope cenv fp).Ok := by
    refine ⟨I.ok.mod, by show cenv.scope.kind = _; rw [hsc]; exact ok.kind, by show cenv.globals = _; rw [← hcenv]; exact I.ok.glob, by show cenv.builtins = _; rw [← hcenv]; exact I.ok.blt, by show s.heap.objs.size ≤ cenv.locals; rw [hL]; exact Nat.le_refl _,
      fun y z c e1 e2 => ?_, fun y hy => ?_, fun y c z e => ?_, I.ok.hd, I.ok.frames, .inl rfl, fun b hb => ⟨?_, fun y c e z => ?_⟩, I.bs, Nat.le_trans I.ok.bsz I.sz, fun b o e hb => ?_, fun b hb z => ?_, I.stack, I.stkFree⟩
    · have e1 : cenv.cells.lookup y = some c := e1
      have e2 : cenv.cells.lookup z = some c := e2
      rw [hcl] at e1 e2
      refine cells_inj (fun p hp => ?_) (fun y z c a b => I.ok.inj y z c (cm a).1 (cm b).1) (PySem.mem_of_lookup e1) (PySem.mem_of_lookup e2)
      rw [Heap.size_push]
      exact Nat.lt_succ_of_lt (cm (y := p.1) (c := p.2) hp).2
    · show ∃ c, cenv.cells.lookup y = some c
      have key : ∀ k, cenv.kindOf y = some k → (k = .cell ∨ k = .free) → ∃ c, cenv.cells.lookup y = some c := fun k hk hk' => by
        unfold Env.kindOf at hk
        rw [hsc] at hk
        obtain ⟨k', e, r⟩ := lookup_relS hk
        have : k' = .cell ∨ k' = .free := by
          rcases r with rfl | ⟨rfl, _⟩
          · exact hk'
          · exact .inr rfl
        rcases this with rfl | rfl
        · obtain ⟨c, hm⟩ := cells_has (n := (s.heap.push { cls := .type "dict", data := .dict #[] }).objs.size) (acc := cloFrom X.env.cells scope.names []) (PySem.mem_of_lookup e)
          obtain ⟨c', e'⟩ := mem_lookup hm
          exact ⟨c', by rw [hcl]; exact e'⟩
        · obtain ⟨c, h1, _⟩ := look e
          exact ⟨c, h1⟩
      rcases hy with hy | hy
      · exact key _ hy (.inl rfl)
      · exact key _ hy (.inr rfl)
    · have z : (scope.names.lookup y == some NameKind.cell) = true := z
      have z : scope.names.lookup y = some .cell := by simpa using z
      have e : cenv.cells.lookup y = some c := e
      rw [hcl] at e
      rcases cells_mem (PySem.mem_of_lookup e) with hm | ⟨_, h2, _⟩
      · rcases cloFrom_mem hm with hm | ⟨h1, _⟩
        · cases hm
        · have q := ok.uniq _ h1
          rw [z] at q; cases q
      · rw [Heap.size_push] at h2
        exact Nat.le_of_succ_le h2
    · show b ≠ cenv.locals
      rw [hL]; exact Nat.ne_of_lt (hfp b hb).2
    · have e : cenv.cells.lookup y = some c := e
      rcases mem e with ⟨h1, _⟩ | ⟨h1, _⟩
      · exact (hfp b hb).1.2.2.2.2.1 y c h1 z
      · have h2 : s.heap.objs.size + 1 ≤ b := by rw [← z]; exact h1
        exact absurd (Nat.lt_of_lt_of_le (hfp b hb).2 (Nat.le_of_succ_le h2)) (Nat.lt_irrefl _)
    · rcases (hfp b hb).1.2.2.2.1 with z | z
      · exact I.ok.noex b o e z
      · exact absurd (Nat.lt_of_lt_of_le (Heap.lt_size e) (Nat.le_trans I.ok.bsz z)) (Nat.lt_irrefl _)
    · rcases List.mem_cons.mp (I.stkSub b z) with z | z
      · exact (hfp b hb).1.2.1 z
      · exact (hfp b hb).1.2.2.1 z
  refine ⟨okB, rfl, I.bare, Un.kept kp, ⟨fun _ => none, ?_, fun i y av e1 e2 e3 => ?_⟩, fun y c e => ?_, ?_, fun y c e => ?_, fun p hp => ?_, I.hok.kept kp, by rw [wipe_length]; exact I.len⟩
  · show Heap.Ns _ cenv.locals _
    rw [hL]
    exact Heap.Ns.keeps (Heap.Ns.new ..) fun b o e => pushCells_keeps _ _ _ _ e
  · obtain ⟨e2, hne⟩ := wipe_some e2
    have hfr : scope.names.lookup y = some .free ∧ (cenv.kindOf y = some .cell ∨ cenv.kindOf y = some .free) := by
      have key : ∀ k, cenv.scope.names.lookup y = some k → k = .local ∨ k = .cell ∨ k = .free → scope.names.lookup y = some .free ∧ (cenv.kindOf y = some .cell ∨ cenv.kindOf y = some .free) := fun k hk hk' => by
        have hk0 := hk
        rw [hsc] at hk
        obtain ⟨k', e, r⟩ := lookup_relS hk
        have no : ¬ (k' = .local ∨ k' = .cell) := fun hh => by
          rcases ok.own _ (PySem.mem_of_lookup e) hh with e' | e'
          · obtain ⟨p, hp, hpy⟩ := List.mem_map.mp e'
            have e3 := ok.ix p hp
            have : p.1 = y := hpy
            rw [this] at e3
            exact hne (List.mem_map.mpr ⟨p, hp, nodup_ix hN e3 e1⟩)
          · exact e' (List.mem_of_getElem? e1)
        rcases r with rfl | ⟨rfl, rfl⟩
        · rcases hk' with rfl | rfl | rfl
          · exact absurd (.inl rfl) no
          · exact absurd (.inr rfl) no
          · exact ⟨e, .inr hk0⟩
        · exact ⟨e, .inl hk0⟩
      have e3 : Vis cenv.scope y := e3
      rcases e3 with e3 | e3 | e3
      · exact key _ e3 (.inl rfl)
      · exact key _ e3 (.inr (.inl rfl))
      · exact key _ e3 (.inr (.inr rfl))
    obtain ⟨m, hn, hl⟩ := I.loc
    have hvis : Vis X.env.scope y := (ok.free _ (PySem.mem_of_lookup hfr.1) rfl).elim (fun k => .inr (.inl k)) (fun k => .inr (.inr k))
    obtain ⟨w, r, q⟩ := hl i y av e1 e2 hvis
    refine ⟨w, r, .inr ⟨hfr.2, ?_⟩⟩
    obtain ⟨c, h1, h2⟩ := look hfr.1
    rcases q with ⟨k, _⟩ | ⟨_, c', e', z⟩
    · have k : X.env.scope.names.lookup y = some .local := k
      rcases ok.free _ (PySem.mem_of_lookup hfr.1) rfl with k' | k' <;> rw [show X.env.scope.names.lookup y = _ from k'] at k <;> cases k
    · rw [h2] at e'; cases e'
      exact ⟨c, h1, z.keeps kp⟩
  · have e : cenv.cells.lookup y = some c := e
    rcases mem e with ⟨h1, _⟩ | ⟨_, z⟩
    · obtain ⟨w, z⟩ := I.cell y c h1
      exact ⟨w, z.keeps kp⟩
    · exact ⟨_, z⟩
  · show H cenv.locals = none
    rw [hL]; exact I.hok.fresh (Nat.le_refl _)
  · have e : cenv.cells.lookup y = some c := e
    rcases mem e with ⟨h1, _⟩ | ⟨h1, _⟩
    · exact I.freeC y c h1
    · exact I.hok.fresh (Nat.le_of_succ_le h1)
  · exact absurd (show p ∈ ([] : List (Addr × Obj)) ++ [] from hp) (by simp)
/-- an item appended to a tracked list -/
theorem app_ok {E : Value → Shared → Prop} {D : Addr} {xs : List V} {y : V} {v : Value} {Q : Value → Shared → Prop} (I : Inv X pins σ H s) (hD : H D = some (.lst xs)) (hz : xs.length < sizeLine) (r : RelV y v)
    (h : ∀ s', Inv X pins σ (upd H D (.lst (xs ++ [y]))) s' → Q .none s') : wpAny (model X.prog X.w) X.A (call (.builtin "list.append") [.ref D, v]) Q E s := by
  obtain ⟨hz', its, n, ri, e⟩ := I.hok D _ hD
  have hl := ri.length
  refine append_at (hsz := by rw [List.size_toArray]; omega) e fun h' sb ho' => ?_
  refine h { s with heap := h' } (I.write (t' := s.toks) (by rw [hD]; trivial) (.inl rfl) (fun b u hb q => (sb.2 b hb).trans q) ⟨_, ho'⟩ ⟨by rw [List.length_append]; exact hz, its ++ [v], n + 1, ri.append (.cons r .nil), ?_⟩)
  rw [ho']
  simp
/-- a clause's tests -/
def PTs (X : Cx) (ifs : List Expr) (t : TT) : Prop :=
  ∀ (pins : List (Addr × Obj)) (s : Shared) (σ : St) (H : Hp) (Q : Bool → Hp → Prop), Inv X pins σ H s → t σ H Q →
    wpAny (model X.prog X.w) X.A (forIn ifs true fun c r => if r = true then do let ok ← isTrue c X.env (eval c X.env); pure (ForInStep.yield ok) else pure (ForInStep.yield r)) (TP X pins σ Q) X.xe s
def tYes : TT := fun _ H Q => Q true H
theorem pts_nil : PTs X [] tYes := fun _ _ _ H _ I h => wpAny_tests_nil ⟨H, I, h⟩
theorem pts_one {c : Expr} {t : TT} (h : PT X c t) : PTs X [c] t := fun pins s σ H Q I hw => wpAny_tests_one (h pins s σ H Q I hw)
end
theorem thnF {α : Type} {t : Sem α} {Q Q' : α → Shared → Prop} {M : Model} {A : Around} {E : Value → Shared → Prop} {s : Shared} (h : wpAny M A t Q (fun _ _ => False) s) (hQ : ∀ a s, Q a s → Q' a s) : wpAny M A t Q' E s := wpAny_mono h hQ fun _ _ z => False.elim z
/-- the loop of a list comprehension's block, the target of any form (codeAny_compLoop_tests asks a target that no tuple goes to; statement and proof follow it, PyProof/CompMap.lean:41-61, with the step letOwnedTupleGo kept) -/
theorem compLoop_any {prog : Program} {w : World} {A : Around} {R : Result → Shared → Prop} {s : Shared} {elt target iter : Expr} {ifs : List Expr} {scope : Scope} {pos : Pos} {it acc : Value} {env : Env} (I : Nat → Shared → Prop)
    (turn : ∀ n s, I n s → wpAny (model prog w) A (pyNext it) (fun r s₁ => match r with
      | none => R (.ok .next) s₁
      | some v => wpAny (model prog w) A (letOwnedTupleGo target it v) (fun _ s₁' => wpAny (model prog w) A (assign target env v) (fun _ s₂ =>
          wpAny (model prog w) A (forIn ifs true fun c r => if r = true then do let ok ← isTrue c env (eval c env); pure (ForInStep.yield ok) else pure (ForInStep.yield r)) (fun ok s₃ =>
            if ok = true then wpAny (model prog w) A (eval elt env) (fun x s₄ =>
              wpAny (model prog w) A (call (.builtin "list.append") [acc, x]) (fun _ s₅ => ∃ m, m < n ∧ I m s₅) (notedBy (model prog w) A env fun e s' => R (.error e) s') s₄) (notedBy (model prog w) A env fun e s' => R (.error e) s') s₃
            else ∃ m, m < n ∧ I m s₃) (notedBy (model prog w) A env fun e s' => R (.error e) s') s₂) (notedBy (model prog w) A env fun e s' => R (.error e) s') s₁') (notedBy (model prog w) A env fun e s' => R (.error e) s') s₁) (notedBy (model prog w) A env fun e s' => R (.error e) s') s)
    (n : Nat) (h : I n s) :
    codeAny (model prog w) A (.compLoop (.ListComp elt [⟨target, iter, ifs, 0⟩] scope pos) 0 it acc env) R s := by
  refine codeAny_loop rfl I (fun n s hI => ?_) n h
  show wpAny _ A ((compTurn (.ListComp elt [⟨target, iter, ifs, 0⟩] scope pos) 0 it acc env).onRaise (fun x => do noteFrame x env; theTreesLotGoes x)) _ _ s
  refine wpAny_noted ?_
  rw [compTurn_list]
  refine wpAny_bind (wpAny_standAt (wpAny_bind (wpAny_mono (turn n s hI) (fun r s₁ h₁ => ?_) fun _ _ h' => h')))
  cases r with
  | none => exact wpAny_pure h₁
  | some v =>
    refine wpAny_bind (wpAny_mono h₁ (fun _ s₁' h₁' => ?_) fun _ _ h' => h')
    refine wpAny_bind (wpAny_mono h₁' (fun _ s₂ h₂ => wpAny_bind (wpAny_mono h₂ (fun ok s₃ h₃ => ?_) fun _ _ h' => h')) fun _ _ h' => h')
    cases ok with
    | false => exact wpAny_pure ⟨rfl, h₃⟩
    | true =>
      exact wpAny_bind (wpAny_bind (wpAny_mono h₃ (fun x s₄ h₄ => wpAny_bind (wpAny_mono h₄ (fun _ s₅ h₅ => wpAny_pure (wpAny_pure ⟨rfl, h₅⟩)) fun _ _ h' => h')) fun _ _ h' => h'))
section
variable {X : Cx}
/-- [elt for target in iter if ..]: D the new list; W by the turn and a measure, Nx what a turn is to reach -/
def tLc (wi : TI) (g : TG) (tt : TT) (te : TE) (vs : List Nat) : TE := fun σ H Q => wi σ H fun J H1 => ∀ D, H1 D = none → ∃ W : Nat → Nat → Hp → Prop, (∃ m, W 0 m (upd H1 D (.lst []))) ∧ ∀ i m H, W i m H →
  (J.stop i H ∧ Q (.ref D) H) ∨ (J.go i H ∧ ∃ Nx : Hp → Prop, (∀ H', Nx H' → ∃ m', m' < m ∧ W (i + 1) m' H') ∧ ∀ x H', J.yld i H x H' → g x (wipe σ vs) H' fun σ2 H2 => wipe σ2 vs = wipe σ vs ∧ tt σ2 H2 fun b H3 =>
    if b = true then te σ2 H3 fun y H4 => ∃ acc, H4 D = some (.lst acc) ∧ acc.length < sizeLine ∧ Nx (upd H4 D (.lst (acc ++ [y]))) else Nx H3)
theorem lc_core {pins : List (Addr × Obj)} {s : Shared} {σ : St} {H : Hp} {Q : VK} {elt tg iter : Expr} {ifs : List Expr} {scope : Scope} {own : List (Str × Nat)} {pos pos' : Pos} {wi : TI} {g : TG} {tt : TT} {te : TE} {use : Option (Value → Sem Unit)} {Qf : Value → Shared → Prop}
    (hc : X.calm = true) (hN : X.N.Nodup) (I : Inv X pins σ H s) (hi : PI X tg iter wi) (ok : BlkOk X.N X.env.scope scope own)
    (hg : ∀ (s : Shared) (H : Hp) (C : Addr) (cl : List (Str × Addr)) (fp : List Addr), PG (X.blk s H scope (compEnvC scope cl C X.env) fp) tg g) (ht : ∀ (s : Shared) (H : Hp) (C : Addr) (cl : List (Str × Addr)) (fp : List Addr), PTs (X.blk s H scope (compEnvC scope cl C X.env) fp) ifs tt)
    (he : ∀ (s : Shared) (H : Hp) (C : Addr) (cl : List (Str × Addr)) (fp : List Addr), PE (X.blk s H scope (compEnvC scope cl C X.env) fp) elt te) (hs : ∀ x, foldedSetIterable iter X.env x = pure x)
    (h : tLc wi g tt te (own.map (·.2)) σ H Q)
    (hRR : ∀ D C s' m H', Inv X pins σ H' s' → Q (.ref D) H' → s'.heap.Ns C m → FpOk X pins H' C → compPost (model X.prog X.w) X.A X.xe use Qf (.ref D) C (.ok .next) s') :
    wpAny (model X.prog X.w) X.A (comprehension (.ListComp elt [⟨tg, iter, ifs, 0⟩] scope pos) scope X.env pos' (newList []) false (eval iter X.env) use) Qf X.xe s := by
  have hfree : ∀ y ∈ scope.names, y.2 = .free → ∃ c, X.env.cells.lookup y.1 = some c := fun y hy e => by
    rcases ok.free y hy e with k | k
    · exact I.ok.has _ (.inl k)
    · exact I.ok.has _ (.inr k)
  refine wpAny_comprehension_free (use := use) rfl hs (closure_ok hfree) ok.kind (fun y hy e => by rw [ok.uniq y hy, e])
    (thn (hi pins s σ H _ I h) fun xv s1 hx => thn hx fun itv s2 h2 => ?_)
  obtain ⟨it, fp, tn, J, H2, e, I2, T, st2, f2, q⟩ := h2
  subst e
  refine wpAny_newObj_type (newEnv_comp ?_) (by show 0 ≤ sizeLine; decide)
  generalize hD : s2.heap.objs.size = D
  have hDn : H2 D = none := I2.hok.fresh (Nat.le_of_eq hD)
  obtain ⟨W, ⟨m0, w0⟩, turn⟩ := q D hDn
  -- the new list
  generalize hs3 : ({ s2 with heap := s2.heap.push { cls := .type "list", data := .seq ([] : List Value).toArray } } : Shared) = s3
  have I3 : Inv X pins σ (upd H2 D (.lst [])) s3 := by
    rw [← hs3]
    refine I2.laid (t' := s2.toks) (fun b o e => Heap.get?_push_of_some _ e) (Nat.le_of_eq hD) ⟨Nat.zero_le _, [], 0, .nil, ?_⟩
    rw [← hD]
    exact Heap.get?_push_size _ rfl
  have h3 : s3.heap = s2.heap.push { cls := .type "list", data := .seq ([] : List Value).toArray } := by rw [← hs3]
  have sz : ∀ b ∈ fp, b < s2.heap.objs.size := fun b hb => by
    obtain ⟨o, e, _⟩ := T.obj _ _ st2 b hb
    exact Heap.lt_size e
  have f3 : ∀ b ∈ fp, FpOk X pins (upd H2 D (.lst [])) b ∧ b < s3.heap.objs.size := fun b hb => by
    have hlt := sz b hb
    refine ⟨⟨?_, (f2 b hb).2⟩, by rw [h3, Heap.size_push]; exact Nat.lt_succ_of_lt hlt⟩
    rw [upd_ne (by rw [← hD]; exact Nat.ne_of_lt hlt)]
    exact (f2 b hb).1
  have st3 : tn 0 s3.heap := T.keep _ _ _ st2 fun b _ o e => by rw [h3]; exact Heap.get?_push_of_some _ e
  have I4 := block_start I3 ok hN f3
  have pg := hg s3 (upd H2 D (.lst [])) s3.heap.objs.size (cellsFrom (s3.heap.objs.size + 1) scope.names (cloFrom X.env.cells scope.names [])) fp
  have pt := ht s3 (upd H2 D (.lst [])) s3.heap.objs.size (cellsFrom (s3.heap.objs.size + 1) scope.names (cloFrom X.env.cells scope.names [])) fp
  have pe := he s3 (upd H2 D (.lst [])) s3.heap.objs.size (cellsFrom (s3.heap.objs.size + 1) scope.names (cloFrom X.env.cells scope.names [])) fp
  show codeAny _ _ (.compStart (.ListComp elt [⟨tg, iter, ifs, 0⟩] scope pos) 0 (.ref it) (.ref D) (compEnvC scope (cellsFrom (s3.heap.objs.size + 1) scope.names (cloFrom X.env.cells scope.names [])) s3.heap.objs.size X.env)) (compPost (model X.prog X.w) X.A X.xe use Qf (.ref D) s3.heap.objs.size) { s3 with heap := pushCells (s3.heap.push { cls := .type "dict", data := .dict #[] }) scope.names }
  have nfp : ∀ b ∈ fp, (upd H2 D (.lst [])) b = none := fun b hb => (f3 b hb).1.1
  generalize hce : compEnvC scope (cellsFrom (s3.heap.objs.size + 1) scope.names (cloFrom X.env.cells scope.names [])) s3.heap.objs.size X.env = ce at I4 pg pt pe ⊢
  have cL : ce.locals = s3.heap.objs.size := by subst hce; rfl
  generalize hH3 : upd H2 D (.lst []) = H3 at I3 I4 pg pt pe w0 nfp f3
  generalize hs4 : ({ s3 with heap := pushCells (s3.heap.push { cls := .type "dict", data := .dict #[] }) scope.names } : Shared) = s4 at I4 ⊢
  have st4 : tn 0 s4.heap := T.keep _ _ _ st3 fun b _ o e => by rw [← hs4]; exact pushCells_keeps _ _ _ _ (Heap.get?_push_of_some _ e)
  have stat : ∀ {σ' : St} {H' : Hp} {s' : Shared}, Inv (X.blk s3 H3 scope ce fp) [] σ' H' s' → (∀ b ∈ fp, H' b = none) → ∀ b ∈ fp, FpOk (X.blk s3 H3 scope ce fp) [] H' b := fun {σ' H' s'} I' hn b hb =>
    ⟨hn b hb, (I'.ok.exf b hb).1, I'.ok.exfs b hb, .inl hb, fun x c e => (I'.ok.exf b hb).2 x c e, fun p hp => absurd (show p ∈ ([] : List (Addr × Obj)) ++ [] from hp) (by simp)⟩
  have loop : codeAny (model X.prog X.w) X.A (.compLoop (.ListComp elt [⟨tg, iter, ifs, 0⟩] scope pos) 0 (.ref it) (.ref D) ce) (compPost (model X.prog X.w) X.A X.xe use Qf (.ref D) s3.heap.objs.size) s4 := by
    refine compLoop_any (fun n s' => ∃ i H', Inv (X.blk s3 H3 scope ce fp) [] (wipe σ (own.map (·.2))) H' s' ∧ tn i s'.heap ∧ (∀ b ∈ fp, H' b = none) ∧ W i n H') ?_ m0 ⟨0, H3, I4, st4, nfp, w0⟩
    rintro n s5 ⟨i, H5, I5, st5, n5, w5⟩
    rcases turn i n H5 w5 with ⟨stop, qq⟩ | ⟨go, Nx, hNx, step⟩
    · have td := T.done (X.blk s3 H3 scope ce fp) rfl rfl rfl hc i [] s5 _ H5 (fun _ _ => False) I5 (stat I5 n5) st5 stop
      refine thnF td fun r s6 ⟨hr, I6⟩ => ?_
      subst hr
      -- back in the def's context
      have I7 : Inv X pins σ H5 s6 := I3.call' (ch := fp) I6.os I6.base I6.hok I6.bare fun b hb => ⟨(f3 b hb).1.2.2.2.1, (f3 b hb).1.2.1, (f3 b hb).1.2.2.2.2.1, (f3 b hb).1.2.2.2.2.2⟩
      have nC : H5 s3.heap.objs.size = none := by
        have z : H5 ce.locals = none := I6.free
        rw [cL] at z
        exact z
      obtain ⟨m, hn, _⟩ := I6.loc
      have hn : s6.heap.Ns ce.locals m := hn
      rw [cL] at hn
      exact hRR D s3.heap.objs.size s6 m H5 I7 qq hn (I3.fpOk (Nat.le_refl _) nC)
    · have ti := T.item (X.blk s3 H3 scope ce fp) rfl rfl rfl hc i [] s5 _ H5 (fun _ _ => False) I5 (stat I5 n5) st5 go
      refine thnF ti fun r s6 ⟨u, hr, h6⟩ => ?_
      subst hr
      refine thnF h6 fun _ s7 ⟨x, H7, I7, r7, y7, st7, n7⟩ => ?_
      have I7' := I7.pinned (stat I7 n7) (T.obj _ _ st7)
      refine thnF (pg _ s7 _ H7 x u _ I7' r7 (step x H7 y7)) fun _ s8 ⟨σ8, H8, I8, hw8, q8⟩ => ?_
      refine thnF (pt _ s8 σ8 H8 _ I8 q8) fun b s9 ⟨H9, I9, q9⟩ => ?_
      -- the turn's end
      have fin : ∀ {s' : Shared} {H' : Hp}, Inv (X.blk s3 H3 scope ce fp) ([] ++ pinsAt fp s7.heap) σ8 H' s' → Nx H' → ∃ m, m < n ∧ ∃ i H', Inv (X.blk s3 H3 scope ce fp) [] (wipe σ (own.map (·.2))) H' s' ∧ tn i s'.heap ∧ (∀ b ∈ fp, H' b = none) ∧ W i m H' := fun {s' H'} I' nx => by
        obtain ⟨m', hm, w'⟩ := hNx H' nx
        have pin' : ∀ b ∈ fp, ∀ o, s7.heap.get? b = some o → s'.heap.get? b = some o ∧ H' b = none := fun b hb o e =>
          let z := I'.pin (b, o) (List.mem_append_right _ (List.mem_append_right _ (mem_pinsAt hb e)))
          ⟨z.1, z.2.1⟩
        have hl : (wipe σ (own.map (·.2))).length = σ8.length := by rw [← hw8, wipe_length]
        refine ⟨m', hm, i + 1, H', (I'.unpinned (pins := [])).weak hl (fun j v e => ?_), T.keep _ _ _ st7 fun b hb o e => (pin' b hb o e).1, fun b hb => ?_, w'⟩
        · rw [← hw8] at e
          exact (wipe_some e).1
        · obtain ⟨o, e, _⟩ := T.obj _ _ st7 b hb
          exact (pin' b hb o e).2
      cases b with
      | false =>
        simp only [Bool.false_eq_true, if_false] at q9 ⊢
        exact fin I9 q9
      | true =>
        simp only [if_true] at q9 ⊢
        refine thnF (pe _ s9 σ8 H9 _ I9 q9) fun z s10 ⟨yv, H10, I10, r10, acc, hD10, hz10, nx⟩ => ?_
        exact app_ok (X := X.blk s3 H3 scope ce fp) I10 hD10 hz10 r10 fun s11 I11 => fin I11 nx
  exact codeAny_compStart_list loop (T.self X.A 0 _ _ _ st4 loop)
/-- as a value -/
theorem pe_lc {elt tg iter : Expr} {ifs : List Expr} {scope : Scope} {own : List (Str × Nat)} {pos : Pos} {wi : TI} {g : TG} {tt : TT} {te : TE} (hc : X.calm = true) (hN : X.N.Nodup) (hi : PI X tg iter wi) (ok : BlkOk X.N X.env.scope scope own)
    (hg : ∀ (s : Shared) (H : Hp) (C : Addr) (cl : List (Str × Addr)) (fp : List Addr), PG (X.blk s H scope (compEnvC scope cl C X.env) fp) tg g) (ht : ∀ (s : Shared) (H : Hp) (C : Addr) (cl : List (Str × Addr)) (fp : List Addr), PTs (X.blk s H scope (compEnvC scope cl C X.env) fp) ifs tt)
    (he : ∀ (s : Shared) (H : Hp) (C : Addr) (cl : List (Str × Addr)) (fp : List Addr), PE (X.blk s H scope (compEnvC scope cl C X.env) fp) elt te) (hs : ∀ x, foldedSetIterable iter X.env x = pure x := by intro _; rfl) :
    PE X (.ListComp elt [⟨tg, iter, ifs, 0⟩] scope pos) (tLc wi g tt te (own.map (·.2))) := by
  intro pins s σ H Q I h
  rw [eval_ListComp]
  refine lc_core hc hN I hi ok hg ht he hs h fun D C s' m H' I' q hn f => ⟨m, hn, fun h'' sb => ?_⟩
  obtain ⟨f0, f1, f2, f3, f4, f5⟩ := f
  exact ⟨.ref D, H', I'.turned (t' := s'.toks) (fun b o hb e => (sb.2 b hb).trans e) f0 f1 f3 f4 f5, rfl, q⟩
/-- name = [..] on one line, the name a local -/
theorem ps_setLc {i : Nat} {y : Str} {py : Pos} {elt tg iter : Expr} {ifs : List Expr} {scope : Scope} {own : List (Str × Nat)} {pos spos : Pos} {wi : TI} {g : TG} {tt : TT} {te : TE} (hc : X.calm = true) (hN : X.N.Nodup) (hy : X.N[i]? = some y) (hyl : X.env.scope.names.lookup y = some .local)
    (hsw : swapsWith (.ListComp elt [⟨tg, iter, ifs, 0⟩] scope pos) (some (.Name y py)) spos.line X.env = pure true) (hi : PI X tg iter wi) (ok : BlkOk X.N X.env.scope scope own)
    (hg : ∀ (s : Shared) (H : Hp) (C : Addr) (cl : List (Str × Addr)) (fp : List Addr), PG (X.blk s H scope (compEnvC scope cl C X.env) fp) tg g) (ht : ∀ (s : Shared) (H : Hp) (C : Addr) (cl : List (Str × Addr)) (fp : List Addr), PTs (X.blk s H scope (compEnvC scope cl C X.env) fp) ifs tt)
    (he : ∀ (s : Shared) (H : Hp) (C : Addr) (cl : List (Str × Addr)) (fp : List Addr), PE (X.blk s H scope (compEnvC scope cl C X.env) fp) elt te) (hs : ∀ x, foldedSetIterable iter X.env x = pure x := by intro _; rfl) :
    PS X (.Assign [.Name y py] (.ListComp elt [⟨tg, iter, ifs, 0⟩] scope pos) spos) (tAsg (tLc wi g tt te (own.map (·.2))) (gName i)) := by
  intro pins s σ H D I h
  rw [exec_Assign_Name_used _ _ _ _ hsw]
  refine wpAny_bind (wpAny_standAt (wpAny_bind ?_))
  show wpAny _ X.A (do let _ ← comprehension (.ListComp elt [⟨tg, iter, ifs, 0⟩] scope pos) scope X.env (firstIterPos [⟨tg, iter, ifs, 0⟩] pos) (newList []) false (eval iter X.env) (some (assign (.Name y py) X.env))) _ _ s
  have h : tLc wi g tt te (own.map (·.2)) σ H (fun x H1 => gName i x σ H1 D.nx) := h
  refine wpAny_bind (thn (lc_core (Qf := fun _ s' => SP X pins D .next s') hc hN I hi ok hg ht he hs h fun L C s' m H' I' q hn f => ?_) fun _ s' hq => wpAny_pure (wpAny_pure hq))
  show wpAny _ _ (assign (.Name y py) X.env (.ref L)) _ _ _
  refine wpAny_assign_Name (store_ok2 (v := V.ref L) I' hN hy (.inl hyl) rfl (fun s2 I2 ⟨a, sb, ha⟩ => ?_) (.inr hyl))
  obtain ⟨f0, f1, f2, f3, f4, f5⟩ := f
  have haC : C ≠ a := by
    rcases ha with z | z
    · rw [z]; exact f1
    · exact fun e => f4 y a z e.symm
  refine ⟨m, hn.sameBut sb haC, fun h3 sb3 => ?_⟩
  exact ⟨_, H', I2.turned (t' := s2.toks) (fun b o hb e => (sb3.2 b hb).trans e) f0 f1 f3 f4 f5, q⟩
theorem sw_true {elt : Expr} {gs : List Comprehension} {scope : Scope} {pos py : Pos} {y : Str} {l : Nat} {env : Env} (hk : env.scope.kind = .function) (hy : env.scope.names.lookup y = some .local) (hl : (py.line == pos.line) = true)
    (ha : (scope.names.any fun (n, k) => n == y && (k == .local || k == .cell)) = false) : swapsWith (.ListComp elt gs scope pos) (some (.Name y py)) l env = pure true := by
  have ky : env.kindOf y = some .local := hy
  have hb : env.blockKind = .function := by unfold Env.blockKind; rw [hk]; rfl
  unfold swapsWith
  simp only [hb, ky, ha, Expr.pos, hl]
  rfl
end
/-- over a range: Pv by the turn and the heap (the new list at D within) -/
theorem lc_range {lo : Int} {n : Nat} {g : TG} {tt : TT} {te : TE} {vs : List Nat} {σ : St} {H1 : Hp} {D : Addr} {Qd : Hp → Prop} (Pv : Nat → Hp → Prop) (h0 : Pv 0 (upd H1 D (.lst [])))
    (hs : ∀ i H, i < n → Pv i H → g (.int (lo + i)) (wipe σ vs) H fun σ2 H2 => wipe σ2 vs = wipe σ vs ∧ tt σ2 H2 fun b H3 =>
      if b = true then te σ2 H3 fun y H4 => ∃ acc, H4 D = some (.lst acc) ∧ acc.length < sizeLine ∧ Pv (i + 1) (upd H4 D (.lst (acc ++ [y]))) else Pv (i + 1) H3) (hd : ∀ H, Pv n H → Qd H) :
    ∃ W : Nat → Nat → Hp → Prop, (∃ m, W 0 m (upd H1 D (.lst []))) ∧ ∀ i m H, W i m H →
      ((Itr lo n).stop i H ∧ Qd H) ∨ ((Itr lo n).go i H ∧ ∃ Nx : Hp → Prop, (∀ H', Nx H' → ∃ m', m' < m ∧ W (i + 1) m' H') ∧ ∀ x H', (Itr lo n).yld i H x H' → g x (wipe σ vs) H' fun σ2 H2 => wipe σ2 vs = wipe σ vs ∧ tt σ2 H2 fun b H3 =>
        if b = true then te σ2 H3 fun y H4 => ∃ acc, H4 D = some (.lst acc) ∧ acc.length < sizeLine ∧ Nx (upd H4 D (.lst (acc ++ [y]))) else Nx H3) := by
  refine ⟨fun i m H => m = n - i ∧ i ≤ n ∧ Pv i H, ⟨n, by simp, Nat.zero_le _, h0⟩, ?_⟩
  rintro i m H ⟨rfl, hi, p⟩
  by_cases hlt : i < n
  · refine .inr ⟨hlt, Pv (i + 1), fun H' p' => ⟨n - (i + 1), by omega, rfl, hlt, p'⟩, fun x H' y => ?_⟩
    obtain ⟨e, y⟩ := y
    subst e y
    exact hs i _ hlt p
  · have e : i = n := by omega
    subst e
    exact .inl ⟨Nat.le_refl _, hd H p⟩
def blkC (N : List Str) (sc scope : Scope) (own : List (Str × Nat)) : Bool :=
  (match scope.kind with | .function => true | _ => false) && (scope.names.all fun y => decide (scope.names.lookup y.1 = some y.2)) && (own.all fun p => decide (N[p.2]? = some p.1)) &&
    (scope.names.all fun y => match y.2 with
      | .free => (match sc.names.lookup y.1 with | some .cell => true | some .free => true | _ => false)
      | .local => decide (y.1 ∈ own.map (·.1)) || decide (y.1 ∉ N)
      | .cell => decide (y.1 ∈ own.map (·.1)) || decide (y.1 ∉ N)
      | _ => true)
theorem blkOk_by {N : List Str} {sc scope : Scope} {own : List (Str × Nat)} (h : blkC N sc scope own = true) : BlkOk N sc scope own := by
  unfold blkC at h
  simp only [Bool.and_eq_true, List.all_eq_true, decide_eq_true_eq] at h
  obtain ⟨⟨⟨h1, h2⟩, h3⟩, h4⟩ := h
  refine ⟨?_, h2, h3, fun y hy e => ?_, fun y hy e => ?_⟩
  · split at h1
    · assumption
    · cases h1
  · have q := h4 y hy
    simp only [e] at q
    split at q <;> first | exact .inl (by assumption) | exact .inr (by assumption) | cases q
  · have q := h4 y hy
    rcases e with e | e <;> (simp only [e, Bool.or_eq_true, decide_eq_true_eq] at q; exact q)
end L2
namespace L2
open PySem PySem.Spec PyProof.Rows
section
variable {prog : Program} {w : World} {A : Around} {R : Result → Shared → Prop} {s : Shared} {elt t0 i0 t1 i1 : Expr} {ifs0 ifs1 : List Expr} {scope : Scope} {pos : Pos} {it acc : Value} {env : Env}
end
theorem wipe_out {σ : St} {i : Nat} : ∀ {vs : List Nat}, i ∉ vs → (wipe σ vs)[i]? = σ[i]?
  | [], _ => rfl
  | v :: vs, h => by
    have h1 : v ≠ i := fun e => h (by rw [e]; exact List.mem_cons_self)
    have h2 : i ∉ vs := fun m => h (List.mem_cons_of_mem _ m)
    unfold wipe
    rw [List.getElem?_set_ne h1]
    exact wipe_out h2
section
variable {X : Cx}
end
end L2
namespace L2
open PySem PySem.Spec PyProof.Rows
section
variable {κ : Type} [DecidableEq κ]
def valV (kvs : List (κ × V)) (k : κ) : Option V := (kvs.find? fun kv => decide (kv.1 = k)).map (·.2)
/-- in its place, or at the end -/
def putK (kvs : List (κ × V)) (k : κ) (v : V) : List (κ × V) :=
  if (kvs.any fun kv => decide (kv.1 = k)) = true then kvs.map (fun kv => if kv.1 = k then (kv.1, v) else kv) else kvs ++ [(k, v)]
def dropK (kvs : List (κ × V)) (k : κ) : List (κ × V) := kvs.filter fun kv => decide (kv.1 ≠ k)
theorem valV_pos {p : κ × V} {r : List (κ × V)} {k : κ} (e : p.1 = k) : valV (p :: r) k = some p.2 := by simp [valV, List.find?_cons, e]
theorem valV_neg {p : κ × V} {r : List (κ × V)} {k : κ} (e : ¬ p.1 = k) : valV (p :: r) k = valV r k := by simp [valV, List.find?_cons, e]
theorem valV_any (k : κ) : ∀ kvs : List (κ × V), (kvs.any fun kv => decide (kv.1 = k)) = (valV kvs k).isSome
  | [] => rfl
  | p :: r => by
    rw [List.any_cons]
    by_cases e : p.1 = k
    · simp only [valV_pos e, decide_eq_true e, Bool.true_or, Option.isSome_some]
    · rw [valV_neg e, decide_eq_false e, Bool.false_or]; exact valV_any k r
theorem length_putK (kvs : List (κ × V)) (k : κ) (v : V) : (putK kvs k v).length ≤ kvs.length + 1 := by
  unfold putK
  split
  · rw [List.length_map]; omega
  · rw [List.length_append, List.length_cons, List.length_nil]; omega
theorem RelO.isSome_eq {o : Option V} {u : Option Value} (r : RelO o u) : o.isSome = u.isSome := by
  cases o with
  | none => cases u with
    | none => rfl
    | some _ => exact (show False from r).elim
  | some _ => cases u with
    | none => exact (show False from r).elim
    | some _ => rfl
theorem RelO.getD {o : Option V} {u : Option Value} {d : V} {d' : Value} (r : RelO o u) (rd : RelV d d') : RelV (o.getD d) (u.getD d') := by
  cases o with
  | none => cases u with
    | none => exact rd
    | some _ => exact (show False from r).elim
  | some _ => cases u with
    | none => exact (show False from r).elim
    | some _ => exact r
/-- raw tables of the same keys -/
theorem KV.val {kvs : List (κ × V)} {vs : List (κ × Value)} (r : KV kvs vs) (k : κ) : RelO (valV kvs k) (valueAt vs k) := by
  unfold KV at r
  induction r with
  | nil => exact True.intro
  | @cons p q ps qs h t ih =>
    obtain ⟨h1, h2⟩ := h
    by_cases e : p.1 = k
    · have e' : q.1 = k := h1.symm.trans e
      have b : valueAt (q :: qs) k = some q.2 := by simp [valueAt, List.find?_cons, e']
      rw [valV_pos e, b]; exact h2
    · have e' : ¬ q.1 = k := fun z => e (h1.trans z)
      have b : valueAt (q :: qs) k = valueAt qs k := by simp [valueAt, List.find?_cons, e']
      rw [valV_neg e, b]; exact ih
theorem KV.any {kvs : List (κ × V)} {vs : List (κ × Value)} (r : KV kvs vs) (k : κ) : (kvs.any fun kv => decide (kv.1 = k)) = vs.any fun kv => decide (kv.1 = k) := by
  unfold KV at r
  induction r with
  | nil => rfl
  | cons h t ih => rw [List.any_cons, List.any_cons, ih, h.1]
theorem KV.repl {kvs : List (κ × V)} {vs : List (κ × Value)} (r : KV kvs vs) (k : κ) {y : V} {u : Value} (ry : RelV y u) :
    KV (kvs.map fun kv => if kv.1 = k then (kv.1, y) else kv) (vs.map fun kv => if kv.1 = k then (kv.1, u) else kv) := by
  unfold KV at r ⊢
  induction r with
  | nil => exact .nil
  | @cons p q ps qs h t ih =>
    rw [List.map_cons, List.map_cons]
    refine .cons ?_ ih
    obtain ⟨h1, h2⟩ := h
    by_cases e : p.1 = k
    · rw [if_pos e, if_pos (h1.symm.trans e)]; exact ⟨h1, ry⟩
    · rw [if_neg e, if_neg (fun z => e (h1.trans z))]; exact ⟨h1, h2⟩
theorem KV.put {kvs : List (κ × V)} {vs : List (κ × Value)} (r : KV kvs vs) (k : κ) {y : V} {u : Value} (ry : RelV y u) : KV (putK kvs k y) (stored vs k u) := by
  unfold putK stored
  rw [r.any k]
  by_cases e : (vs.any fun kv => decide (kv.1 = k)) = true
  · rw [if_pos e, if_pos e]; exact r.repl k ry
  · rw [if_neg e, if_neg e]; exact Paired.snoc r ⟨rfl, ry⟩
theorem KV.drop {kvs : List (κ × V)} {vs : List (κ × Value)} (r : KV kvs vs) (k : κ) : KV (dropK kvs k) (without vs k) := by
  unfold KV at r ⊢
  unfold dropK without
  induction r with
  | nil => exact .nil
  | @cons p q ps qs h t ih =>
    obtain ⟨h1, h2⟩ := h
    rw [List.filter_cons, List.filter_cons]
    by_cases e : p.1 = k
    · have a : ¬ decide (p.1 ≠ k) = true := by simp [e]
      have b : ¬ decide (q.1 ≠ k) = true := by simp [h1.symm.trans e]
      rw [if_neg a, if_neg b]; exact ih
    · have e' : ¬ q.1 = k := fun z => e (h1.trans z)
      have a : decide (p.1 ≠ k) = true := by simp [e]
      have b : decide (q.1 ≠ k) = true := by simp [e']
      rw [if_pos a, if_pos b]; exact .cons ⟨h1, h2⟩ ih
theorem KV.keys {kvs : List (κ × V)} {vs : List (κ × Value)} (r : KV kvs vs) : kvs.map (·.1) = vs.map (·.1) := by
  unfold KV at r
  induction r with
  | nil => rfl
  | cons h t ih => rw [List.map_cons, List.map_cons, ih, h.1]
theorem KV.length {kvs : List (κ × V)} {vs : List (κ × Value)} (r : KV kvs vs) : kvs.length = vs.length := Paired.length r
end
theorem kV_is {P : Program} {w : World} {k : Key} {u : Value} (r : RelV (kV k) u) : (mixKind P w).is k u = true := by
  cases k with
  | inl i => obtain ⟨t, e⟩ := (show ∃ t, u = Value.int i t from r); subst e; exact mixKind_int P w i t
  | inr x => obtain ⟨t, e⟩ := (show ∃ t, u = Value.str x t from r); subst e; exact mixKind_str P w x t
theorem items_are {P : Program} {w : World} : ∀ {ks : List Key} {us : List Value}, Vals (ks.map kV) us → ItemsAre (mixKind P w) ks us
  | [], _, r => by rw [List.map_nil] at r; cases r; exact .nil
  | k :: ks, _, r => by
    rw [List.map_cons] at r
    cases r with
    | cons h t => exact .cons (kV_is h) (items_are t)
/-- raw entries of a dict with tuple keys -/
abbrev KT (H : Hp) : List (List Key × V) → List (List Key × Addr × Value) → Prop := Paired fun p q => p.1 = q.1 ∧ H q.2.1 = some (.tup (p.1.map kV)) ∧ RelV p.2 q.2.2
theorem KT.val {H : Hp} {kvs : List (List Key × V)} {xs : List (List Key × Addr × Value)} (r : KT H kvs xs) (k : List Key) : RelO (valV kvs k) ((atKey xs k).map (·.2)) := by
  induction r with
  | nil => exact True.intro
  | @cons p q ps qs h t ih =>
    obtain ⟨h1, _, h2⟩ := h
    by_cases e : p.1 = k
    · have e' : q.1 = k := h1.symm.trans e
      have b : atKey (q :: qs) k = some q.2 := by simp [atKey, List.find?_cons, e']
      rw [valV_pos e, b]; exact h2
    · have e' : ¬ q.1 = k := fun z => e (h1.trans z)
      have b : atKey (q :: qs) k = atKey qs k := by simp [atKey, List.find?_cons, e']
      rw [valV_neg e, b]; exact ih
theorem KT.repl {H : Hp} {kvs : List (List Key × V)} {xs : List (List Key × Addr × Value)} (r : KT H kvs xs) (k : List Key) {y : V} {u : Value} (ry : RelV y u) :
    KT H (kvs.map fun kv => if kv.1 = k then (kv.1, y) else kv) (xs.map (putAt k u)) := by
  induction r with
  | nil => exact .nil
  | @cons p q ps qs h t ih =>
    rw [List.map_cons, List.map_cons]
    refine .cons ?_ ih
    obtain ⟨h1, h2, h3⟩ := h
    unfold putAt
    by_cases e : p.1 = k
    · rw [if_pos e, if_pos (h1.symm.trans e)]; exact ⟨h1, h2, ry⟩
    · rw [if_neg e, if_neg (fun z => e (h1.trans z))]; exact ⟨h1, h2, h3⟩
theorem KT.put {H : Hp} {kvs : List (List Key × V)} {xs : List (List Key × Addr × Value)} (r : KT H kvs xs) (k : List Key) {b : Addr} {y : V} {u : Value} (hb : H b = some (.tup (k.map kV))) (ry : RelV y u) :
    KT H (putK kvs k y) (storedH xs k b u) := by
  have e : (kvs.any fun kv => decide (kv.1 = k)) = (atKey xs k).isSome := by
    rw [valV_any, (r.val k).isSome_eq, Option.isSome_map]
  unfold putK storedH
  rw [e]
  by_cases q : (atKey xs k).isSome = true
  · rw [if_pos q, if_pos q]; exact r.repl k ry
  · rw [if_neg q, if_neg q]; exact Paired.snoc r ⟨rfl, hb, ry⟩
theorem KT.keeps {H H' : Hp} {kvs : List (List Key × V)} {xs : List (List Key × Addr × Value)} (r : KT H kvs xs) (ht : ∀ b ys, H b = some (.tup ys) → H' b = some (.tup ys)) : KT H' kvs xs :=
  Paired.mapP r fun _ _ z => ⟨z.1, ht _ _ z.2.1, z.2.2⟩
section
variable {P : Program} {w : World} {H : Hp} {h : Heap} {a : Addr}
theorem rd_of {u : HO} (ok : HOk P w H h) (e : Rd H a u) : ObjOk P w H h a u := e.ok ok
theorem dk_rd {kvs : List (Key × V)} (ok : HOk P w H h) (e : Rd H a (.dK kvs)) : kvs.length ≤ sizeLine ∧ (a == sysModules) = false ∧ ∃ vs, KV kvs vs ∧ h.DictOf (mixKind P w) a vs :=
  show ObjOk P w H h a (.dK kvs) from rd_of ok e
theorem dk_of {kvs : List (Key × V)} (ok : HOk P w H h) (e : H a = some (.dK kvs)) : kvs.length ≤ sizeLine ∧ (a == sysModules) = false ∧ ∃ vs, KV kvs vs ∧ h.DictOf (mixKind P w) a vs := dk_rd ok (.inl e)
/-- a tracked tuple of ints and texts is a key -/
theorem key_of {ks : List Key} (ok : HOk P w H h) (e : H a = some (.tup (ks.map kV))) : (tupleKind (mixKind P w)).is h ks a := by
  obtain ⟨_, its, r, o, h1, ⟨h2, n, h3⟩, _⟩ := (show ObjOk P w H h a (.tup (ks.map kV)) from ok a _ e)
  exact ⟨o, its.toArray, n, h1, h2, h3, by simpa using items_are r⟩
theorem dt_rd {kvs : List (List Key × V)} (ok : HOk P w H h) (e : Rd H a (.dT kvs)) : kvs.length ≤ sizeLine ∧ (a == sysModules) = false ∧
    ∃ xs, KT H kvs xs ∧ h.DictOfH (tupleKind (mixKind P w)) a xs := by
  obtain ⟨z, y, xs, r, o, es, ep, h1, h2, h3, h4, h5⟩ := (show ObjOk P w H h a (.dT kvs) from rd_of ok e)
  refine ⟨z, y, xs, r, o, es, ep, h1, h2, h3, h4, fun x hx => ?_, h5⟩
  have all : ∀ {l : List (List Key × V)} {m : List (List Key × Addr × Value)}, KT H l m → ∀ x ∈ m, (tupleKind (mixKind P w)).is h x.1 x.2.1 := by
    intro l m q
    induction q with
    | nil => intro x hx; exact nomatch hx
    | @cons p q ps qs hq t ih =>
      intro x hx
      rcases List.mem_cons.mp hx with e | hx
      · subst e
        exact key_of ok (by rw [← hq.1]; exact hq.2.1)
      · exact ih x hx
  exact all r x hx
theorem dt_of {kvs : List (List Key × V)} (ok : HOk P w H h) (e : H a = some (.dT kvs)) : kvs.length ≤ sizeLine ∧ (a == sysModules) = false ∧
    ∃ xs, KT H kvs xs ∧ h.DictOfH (tupleKind (mixKind P w)) a xs := dt_rd ok (.inl e)
end
/-- what the dict at a holds at the key y -/
def DGet (H : Hp) (a : Addr) (y : V) (r : Option V) : Prop :=
  (∃ kvs k, Rd H a (.dK kvs) ∧ y = kV k ∧ r = valV kvs k) ∨ ∃ kvs k b, Rd H a (.dT kvs) ∧ y = .ref b ∧ H b = some (.tup (k.map kV)) ∧ r = valV kvs k
/-- the heap behind a[y] = v -/
def DPut (H : Hp) (a : Addr) (y v : V) (H' : Hp) : Prop :=
  (∃ kvs k, H a = some (.dK kvs) ∧ y = kV k ∧ kvs.length < sizeLine ∧ H' = upd H a (.dK (putK kvs k v))) ∨
  ∃ kvs k b, H a = some (.dT kvs) ∧ y = .ref b ∧ H b = some (.tup (k.map kV)) ∧ kvs.length < sizeLine ∧ H' = upd H a (.dT (putK kvs k v))
theorem DGet.k {H : Hp} {a : Addr} {kvs : List (Key × V)} {k : Key} (e : H a = some (.dK kvs)) : DGet H a (kV k) (valV kvs k) := .inl ⟨kvs, k, .inl e, rfl, rfl⟩
theorem DGet.t {H : Hp} {a b : Addr} {kvs : List (List Key × V)} {k : List Key} (e : H a = some (.dT kvs)) (eb : H b = some (.tup (k.map kV))) : DGet H a (.ref b) (valV kvs k) := .inr ⟨kvs, k, b, .inl e, rfl, eb, rfl⟩
theorem DPut.k {H : Hp} {a : Addr} {kvs : List (Key × V)} {k : Key} {v : V} (e : H a = some (.dK kvs)) (hl : kvs.length < sizeLine) : DPut H a (kV k) v (upd H a (.dK (putK kvs k v))) := .inl ⟨kvs, k, e, rfl, hl, rfl⟩
theorem DPut.t {H : Hp} {a b : Addr} {kvs : List (List Key × V)} {k : List Key} {v : V} (e : H a = some (.dT kvs)) (eb : H b = some (.tup (k.map kV))) (hl : kvs.length < sizeLine) :
    DPut H a (.ref b) v (upd H a (.dT (putK kvs k v))) := .inr ⟨kvs, k, b, e, rfl, eb, hl, rfl⟩
section
variable {X : Cx} {pins : List (Addr × Obj)} {σ : St} {H : Hp} {s : Shared} {a : Addr} {y v : V} {u r : Value} {o : Option V} {A : Around} {E : Value → Shared → Prop}
theorem Inv.big (I : Inv X pins σ H s) : sysModules < s.heap.objs.size := by
  have h : mainGlobals < s.heap.objs.size := (I.mod.glob.keeps I.bk).lt
  exact Nat.lt_trans (by decide) h
/-- d[y], there -/
theorem d_getItem {Q : Value → Shared → Prop} (hu : A.units + 1 < cLine) (I : Inv X pins σ H s) (g : DGet H a y (some v)) (ry : RelV y u) (h : ∀ w' s', Inv X pins σ H s' → RelV v w' → Q w' s') :
    wpAny (model X.prog X.w) A (getItem (.ref a) u) Q E s := by
  rcases g with ⟨kvs, k, e, ey, l⟩ | ⟨kvs, k, b, e, ey, eb, l⟩
  · subst ey
    obtain ⟨z, hd, vs, rel, dd⟩ := dk_rd I.hok e
    obtain ⟨w', hw, rw'⟩ := RelO.some_of (v := v) (o := valueAt vs k) (by rw [l]; exact rel.val k)
    exact wpAny_getItem_of (kV_is ry) dd.mapOf hw (h w' _ (I.tok _) rw')
  · subst ey
    cases (show u = Value.ref b from ry)
    obtain ⟨z, hd, xs, rel, dd⟩ := dt_rd I.hok e
    obtain ⟨w', hw, rw'⟩ := RelO.some_of (v := v) (o := (atKey xs k).map (·.2)) (by rw [l]; exact rel.val k)
    obtain ⟨p, hp, hp2⟩ := Option.map_eq_some_iff.mp hw
    refine wpAny_getItem_heap (tupleKind_room_in1 hu) (key_of I.hok eb) dd hp ?_
    rw [hp2]
    exact h w' _ (I.tok _) rw'
theorem d_notIn {Q : Value → Shared → Prop} (hu : A.units + 1 < cLine) (I : Inv X pins σ H s) (g : DGet H a y o) (ry : RelV y u) (h : ∀ s', Inv X pins σ H s' → Q (.bool (!o.isSome)) s') :
    wpAny (model X.prog X.w) A (compareOp .NotIn u (.ref a)) Q E s := by
  rcases g with ⟨kvs, k, e, ey, l⟩ | ⟨kvs, k, b, e, ey, eb, l⟩
  · subst ey
    obtain ⟨z, hd, vs, rel, dd⟩ := dk_rd I.hok e
    refine wpAny_notIn_of (kV_is ry) hd dd.mapOf ?_
    rw [← (rel.val k).isSome_eq, ← l]
    exact h _ (I.tok _)
  · subst ey
    cases (show u = Value.ref b from ry)
    obtain ⟨z, hd, xs, rel, dd⟩ := dt_rd I.hok e
    refine wpAny_notIn_heap (tupleKind_room_in1 hu) (key_of I.hok eb) hd dd ?_
    have q := (rel.val k).isSome_eq
    rw [Option.isSome_map] at q
    rw [← q, ← l]
    exact h _ (I.tok _)
/-- a dict's object is replaced -/
theorem d_write {h' : Heap} {t' : Nat} {ob : HO} (I : Inv X pins σ H s) (mu : Mut (H a)) (hs : Heap.SameBut a s.heap h') (he : ∃ q, h'.get? a = some q) (new : ObjOk X.prog X.w (upd H a ob) h' a ob) :
    Inv X pins σ (upd H a ob) { s with heap := h', toks := t' } :=
  I.write (x := a) (e := a) mu (.inl rfl) (fun b q hb z => (hs.2 b hb).trans z) he new
theorem dk_new {P : Program} {w : World} {H' : Hp} {h' : Heap} {kvs : List (Key × V)} {vs : List (Key × Value)} (z : kvs.length ≤ sizeLine) (hd : (a == sysModules) = false) (rel : KV kvs vs) (dd : h'.DictOf (mixKind P w) a vs) :
    ObjOk P w H' h' a (.dK kvs) := ⟨z, hd, vs, rel, dd⟩
/-- d[y] = v -/
theorem d_setItem {H' : Hp} {Q : Unit → Shared → Prop} (hu : A.units + 1 < cLine) (I : Inv X pins σ H s) (g : DPut H a y v H') (ry : RelV y u) (rv : RelV v r) (h : ∀ s', Inv X pins σ H' s' → Q () s') :
    wpAny (model X.prog X.w) A (setItem (.ref a) u r) Q E s := by
  rcases g with ⟨kvs, k, e, ey, l, eH⟩ | ⟨kvs, k, b, e, ey, eb, l, eH⟩
  · subst ey eH
    obtain ⟨z, hd, vs, rel, dd⟩ := dk_of I.hok e
    have hz : vs.length ≤ sizeLine := by rw [← rel.length]; exact z
    have hl : (putK kvs k v).length ≤ sizeLine := by have := length_putK kvs k v; omega
    refine wpAny_setItem_pairs (hsz := hz) (kV_is ry) dd fun h' dd' hs => h _ ?_
    have he : ∃ q, h'.get? a = some q := let ⟨q, _, _, hq, _⟩ := dd'; ⟨q, hq⟩
    exact d_write I (by rw [e]; exact True.intro) hs he (dk_new hl hd (rel.put k rv) dd')
  · subst ey eH
    cases (show u = Value.ref b from ry)
    obtain ⟨z, hd, xs, rel, dd⟩ := dt_of I.hok e
    have hz : xs.length ≤ sizeLine := by rw [← Paired.length rel]; exact z
    have hl : (putK kvs k v).length ≤ sizeLine := by have := length_putK kvs k v; omega
    refine wpAny_setItem_heap (hsz := hz) (tupleKind_room_in1 hu) (key_of I.hok eb) dd fun h' dd' hs => h _ ?_
    obtain ⟨q, es, ep, hq, h2, h3, h4, _, h5⟩ := dd'
    refine d_write I (by rw [e]; exact True.intro) hs ⟨q, hq⟩ ⟨hl, hd, _, (rel.put k eb rv).keeps fun c ys ec => ?_, q, es, ep, hq, h2, h3, h4, h5⟩
    rw [upd_ne (ne_of ec e (fun z => nomatch z))]
    exact ec
end
section
variable {X : Cx} {pins : List (Addr × Obj)} {σ : St} {H : Hp} {s : Shared} {a : Addr} {kvs : List (Key × V)} {k : Key} {u : Value} {A : Around} {E : Value → Shared → Prop}
/-- len(d) -/
theorem d_len {Q : Value → Shared → Prop} (I : Inv X pins σ H s) (e : Rd H a (.dK kvs)) (h : ∀ t s', Inv X pins σ H s' → Q (.int kvs.length t) s') : wpAny (model X.prog X.w) A (call (.builtin "len") [.ref a]) Q E s := by
  obtain ⟨z, hd, vs, rel, dd⟩ := dk_rd I.hok e
  refine call_len_dict hd dd (by rw [← rel.length]; rw [sizeLine_eq] at z; omega) ?_
  rw [← rel.length]
  exact h _ _ (I.tok _)
end
/-- the element of a subscription, not a slice -/
def NoSl (i : Expr) : Prop := ∀ ov iv, subscripted i false ov iv = operate [ov, iv] (getItem ov iv)
theorem subD_of {prog : Program} {w : World} {A : Around} {E : Value → Shared → Prop} {s : Shared} {env : Env} {value slice : Expr} {pos : Pos} {T id : String} {Q : Value → Shared → Prop}
    (hl : typeLookup (.type T) "__getitem__" = pure (some (.builtin id))) (hs : NoSl slice)
    (h : wpAny (model prog w) A (eval value env) (fun o s₁ => wpAny (model prog w) A (eval slice env) (fun i s₂ => s₂.TypeIs o T ∧ wpAny (model prog w) A (getItem o i) Q E s₂) E s₁) E s) :
    wpAny (model prog w) A (eval (.Subscript value slice pos) env) Q E s := by
  refine Subscript_ (wpAny_mono h (fun o s₁ h₁ => wpAny_mono h₁ (fun i s₂ h₂ => ?_) fun _ _ x => x) fun _ _ x => x)
  obtain ⟨hT, h₂⟩ := h₂
  unfold subscriptTail
  refine wpAny_bind ?_
  rw [getitemInPython_of_ne hT.not_modules]
  refine wpAny_bind (wpAny_specialOf hT hl ?_)
  have fin : wpAny (model prog w) A (subscripted slice false o i) (fun r s₃ => wpAny (model prog w) A (letTemporaryGo value o r >>= fun _ => pure r) Q E s₃) E s₂ := by
    rw [hs o i]
    exact wpAny_operating (wpAny_mono h₂ (fun r s₃ h₃ => wpAny_bind (wpAny_letTemporaryGo (wpAny_pure h₃))) fun _ _ x => x)
  first
    | exact wpAny_pure (wpAny_bind fin)
    | exact wpAny_bind (wpAny_pure (wpAny_bind fin))
    | exact wpAny_bind fin
theorem dict_typeIs {X : Cx} {pins : List (Addr × Obj)} {σ : St} {H : Hp} {s : Shared} {a : Addr} {y : V} {o : Option V} (I : Inv X pins σ H s) (g : DGet H a y o) : s.TypeIs (.ref a) "dict" := by
  rcases g with ⟨kvs, k, e, _, _⟩ | ⟨kvs, k, b, e, _, _, _⟩
  · obtain ⟨_, _, vs, _, dd⟩ := dk_rd I.hok e
    exact dd.typeIs
  · obtain ⟨_, _, xs, _, dd⟩ := dt_rd I.hok e
    exact dd.typeIs
/-- d[y] -/
def tDGet (td ty : TE) : TE := fun σ H Q => td σ H fun x H1 => ty σ H1 fun y H2 => ∃ a v, x = .ref a ∧ DGet H2 a y (some v) ∧ Q v H2
/-- d[y] = v -/
def sDPut (td ty tv : TE) : TS := fun D σ H => tv σ H fun v H1 => td σ H1 fun x H2 => ty σ H2 fun y H3 => ∃ a H4, x = .ref a ∧ DPut H3 a y v H4 ∧ D.nx σ H4
section
variable {X : Cx} {o i e value : Expr} {pos pos' tpos : Pos} {td ty tv : TE}
theorem pe_dget (hu : X.A.units + 1 < cLine) (ho : PE X o td) (hi : PE X i ty) (hs : NoSl i) : PE X (.Subscript o i pos) (tDGet td ty) := by
  intro pins s σ H Q I h
  refine subD_of PySem.F.slot_dict_getitem.lookup hs (thn (ho pins s σ H _ I h) fun u s1 ⟨x, H1, I1, rx, q1⟩ => thn (hi pins s1 σ H1 _ I1 q1) fun iv s2 ⟨y, H2, I2, ry, a, v, ex, g, q2⟩ => ?_)
  subst ex
  obtain rfl : u = Value.ref a := rx
  exact ⟨dict_typeIs I2 g, d_getItem hu I2 g ry fun w' s3 I3 rw' => ⟨v, H2, I3, rw', q2⟩⟩
theorem ps_dput (hu : X.A.units + 1 < cLine) (ho : PE X o td) (hi : PE X i ty) (hv : PE X value tv) (hs : swapsWith value (some (.Subscript o i pos')) pos.line X.env = pure false) :
    PS X (.Assign [.Subscript o i pos'] value pos) (sDPut td ty tv) := by
  intro pins s σ H D I h
  refine wpAny_Assign_Subscript (thn (hv pins s σ H _ I h) fun r s1 ⟨v, H1, I1, rv, q1⟩ => thn (ho pins s1 σ H1 _ I1 q1) fun u s2 ⟨x, H2, I2, rx, q2⟩ => thn (hi pins s2 σ H2 _ I2 q2) fun iv s3 ⟨y, H3, I3, ry, a, H4, ex, g, q3⟩ => ?_) hs
  subst ex
  obtain rfl : u = Value.ref a := rx
  exact d_setItem hu I3 g ry rv fun s4 I4 => ⟨σ, H4, I4, q3⟩
end
theorem dk_empty {P : Program} {w : World} {H : Hp} (h : Heap) (hb : sysModules < h.objs.size) : ObjOk P w H (h.push { cls := .type "dict", data := .dict #[] }) h.objs.size (.dK []) :=
  ⟨Nat.zero_le _, beq_eq_false_iff_ne.mpr (Ne.symm (Nat.ne_of_lt hb)), [], .nil, Heap.DictOf.new h⟩
section
variable {X : Cx} {pos : Pos}
end
/-- the pairs of a display, from the left -/
def tPairs : List (TE × TE) → St → Hp → (List (V × V) → Hp → Prop) → Prop
  | [], _, H, Q => Q [] H
  | (tk, tv) :: r, σ, H, Q => tk σ H fun x H1 => tv σ H1 fun y H2 => tPairs r σ H2 fun ps H3 => Q ((x, y) :: ps) H3
abbrev VV : List (V × V) → List (Value × Value) → Prop := Paired fun p q => RelV p.1 q.1 ∧ RelV p.2 q.2
def PPs (X : Cx) (pos : Pos) (keys : List (Option Expr)) (values : List Expr) (trs : List (TE × TE)) : Prop :=
  ∀ (pins : List (Addr × Obj)) (s : Shared) (σ : St) (H : Hp) (Q : List (V × V) → Hp → Prop), Inv X pins σ H s → tPairs trs σ H Q →
    wpAny (model X.prog X.w) X.A (evalPairs (pairTrees keys values X.env pos)) (fun vs s' => ∃ ps H', Inv X pins σ H' s' ∧ VV ps vs ∧ Q ps H') X.xe s
theorem pps_nil {X : Cx} {pos : Pos} : PPs X pos [] [] [] := fun pins s σ H Q I h => pairTrees_nil_walk ⟨[], H, I, .nil, h⟩
theorem pps_cons {X : Cx} {pos : Pos} {k v : Expr} {ks : List (Option Expr)} {vs : List Expr} {tk tv : TE} {trs : List (TE × TE)} (hk : PE X k tk) (hv : PE X v tv) (hr : PPs X pos ks vs trs) :
    PPs X pos (some k :: ks) (v :: vs) ((tk, tv) :: trs) := fun pins s σ H Q I h =>
  pairTrees_cons_walk (thn (hk pins s σ H _ I h) fun u s1 ⟨x, H1, I1, rx, q1⟩ => thn (hv pins s1 σ H1 _ I1 q1) fun w2 s2 ⟨y, H2, I2, ry, q2⟩ =>
    thn (hr pins s2 σ H2 _ I2 q2) fun ws s3 ⟨ps, H3, I3, rel, q3⟩ => ⟨(x, y) :: ps, H3, I3, .cons ⟨rx, ry⟩ rel, q3⟩)
def mergeK (kvs more : List (Key × V)) : List (Key × V) := more.foldl (fun acc kv => putK acc kv.1 kv.2) kvs
theorem KV.merge : ∀ {more : List (Key × V)} {rs : List (Key × Value)} {kvs : List (Key × V)} {vs : List (Key × Value)}, KV more rs → KV kvs vs → KV (mergeK kvs more) (merged vs rs) := by
  intro more rs kvs vs r
  unfold KV at r
  induction r generalizing kvs vs with
  | nil => intro q; exact q
  | @cons p q ps qs h t ih =>
    intro r0
    have e : KV (putK kvs p.1 p.2) (stored vs q.1 q.2) := by
      have := r0.put p.1 h.2
      rw [← h.1]; exact this
    exact ih e
theorem length_mergeK : ∀ (more kvs : List (Key × V)), (mergeK kvs more).length ≤ kvs.length + more.length
  | [], kvs => by show kvs.length ≤ kvs.length + 0; omega
  | p :: r, kvs => by
    have h1 := length_mergeK r (putK kvs p.1 p.2)
    have h2 := length_putK kvs p.1 p.2
    show (mergeK (putK kvs p.1 p.2) r).length ≤ _
    rw [List.length_cons]; omega
theorem carries_of {P : Program} {w : World} : ∀ {kvs : List (Key × V)} {ws : List (Value × Value)}, VV (kvs.map fun kv => (kV kv.1, kv.2)) ws → ∃ rs, Carries (mixKind P w) ws rs ∧ KV kvs rs
  | [], _, r => by rw [List.map_nil] at r; cases r; exact ⟨[], True.intro, .nil⟩
  | p :: kvs, _, r => by
    rw [List.map_cons] at r
    cases r with
    | @cons a b as bs h t =>
      obtain ⟨rs, c, q⟩ := carries_of (P := P) (w := w) t
      obtain ⟨b1, b2⟩ := b
      exact ⟨(p.1, b2) :: rs, ⟨kV_is h.1, rfl, c⟩, .cons ⟨rfl, h.2⟩ q⟩
/-- {k: v, ..} with keys ints and texts; the new dict stands empty while the pairs are made -/
def tDisp (trs : List (TE × TE)) : TE := fun σ H Q => ∀ p, H p = none → tPairs trs σ (upd H p (.dK [])) fun ps H2 => H2 p = some (.dK []) ∧ ∃ kvs : List (Key × V), ps = kvs.map (fun kv => (kV kv.1, kv.2)) ∧ kvs.length ≤ 15 ∧ Q (.ref p) (upd H2 p (.dK (mergeK [] kvs)))
theorem pe_disp {X : Cx} {pos : Pos} {keys : List (Option Expr)} {values : List Expr} {trs : List (TE × TE)} (h : PPs X pos keys values trs) (hall : keys.all (·.isSome) = true) (hl : keys.length = values.length) (h0 : keys ≠ [])
    (h15 : keys.length ≤ 15) : PE X (.Dict keys values pos) (tDisp trs) := by
  intro pins s σ H Q I q
  have hn := I.hok.fresh (Nat.le_refl s.heap.objs.size)
  have I1 := I.laid (a := s.heap.objs.size) (o := .dK []) (h' := s.heap.push { cls := .type "dict", data := .dict #[] }) (t' := s.toks) (fun _ _ q => Heap.get?_push_of_some _ q) (Nat.le_refl _) (dk_empty s.heap I.big)
  refine wpAny_Dict_walk (knd := mixKind X.prog X.w) hall hl h0 h15 (thn (h pins _ σ _ _ I1 (q _ hn)) fun ws s2 ⟨ps, H2, I2, rel, e, kvs, ep, lk, q2⟩ => ?_)
  subst ep
  obtain ⟨rs, c, rk⟩ := carries_of (P := X.prog) (w := X.w) rel
  obtain ⟨z, hd, vs0, r0, dd⟩ := dk_of I2.hok e
  cases r0
  refine ⟨rs, c, dd, fun h' dd' hs => ⟨.ref s.heap.objs.size, _, ?_, rfl, q2⟩⟩
  have hz : (mergeK [] kvs).length ≤ sizeLine := by
    have h1 := length_mergeK kvs []
    rw [List.length_nil] at h1
    rw [sizeLine_eq]; omega
  have he : ∃ q, h'.get? s.heap.objs.size = some q := let ⟨q, _, _, hq, _⟩ := dd'; ⟨q, hq⟩
  exact d_write I2 (by rw [e]; exact True.intro) hs he (dk_new hz hd (rk.merge .nil) dd')
/-- a method call o.m(e) of a built-in, with one argument: what must be seen of the text -/
structure M1 (X : Cx) (o : Expr) (m : Str) (apos : Pos) (e : Expr) (cpos : Pos) : Prop where
  base : attributeBase o m X.env (eval o X.env) = eval o X.env
  few : ((backTo cpos (starEach [e] X.env)).all (fun x => !x.1) && (backToKw cpos (keywordEach [] X.env)).all (fun x => x.1.isSome)
    && decide (([e] : List Expr).length + ([] : List Keyword).length + (if ([] : List Keyword).isEmpty then 0 else 1) < 30)) = true
  line : (apos.endLine == cpos.line) = true
  trees : backTo cpos (starEach [e] X.env) = [(false, eval e X.env)]
structure M2 (X : Cx) (o : Expr) (m : Str) (apos : Pos) (e f : Expr) (cpos : Pos) : Prop where
  base : attributeBase o m X.env (eval o X.env) = eval o X.env
  few : ((backTo cpos (starEach [e, f] X.env)).all (fun x => !x.1) && (backToKw cpos (keywordEach [] X.env)).all (fun x => x.1.isSome)
    && decide (([e, f] : List Expr).length + ([] : List Keyword).length + (if ([] : List Keyword).isEmpty then 0 else 1) < 30)) = true
  line : (apos.endLine == cpos.line) = true
  trees : backTo cpos (starEach [e, f] X.env) = [(false, eval e X.env), (false, eval f X.env)]
section
variable {X : Cx} {pins : List (Addr × Obj)} {σ : St} {H : Hp} {s : Shared} {a : Addr} {y d : V} {u r : Value} {o : Option V} {A : Around} {E : Value → Shared → Prop}
end
section
variable {X : Cx} {o e f : Expr} {apos cpos : Pos} {td ty tx : TE}
end
section
variable {X : Cx} {pins : List (Addr × Obj)} {σ : St} {H : Hp} {s : Shared} {a : Addr} {kvs : List (Key × V)} {A : Around} {E : Value → Shared → Prop}
end
section
variable {X : Cx} {pins : List (Addr × Obj)} {σ : St} {H : Hp} {s : Shared} {a : Addr} {y : V} {u : Value} {A : Around} {E : Value → Shared → Prop}
end
end L2
namespace L2
open PySem PySem.Spec PyProof.Rows
section
variable {prog : Program} {w : World} {A : Around} {E : Value → Shared → Prop}
end
section
variable {X : Cx}
end
end L2
namespace L2
open PySem PySem.Spec PyProof.Rows
section
variable {X : Cx} {pins : List (Addr × Obj)} {σ : St} {H : Hp} {s : Shared} {h' : Heap}
/-- several records of ours have turned -/
theorem Inv.turnedL {t' : Nat} {ch : List Addr} (I : Inv X pins σ H s) (k : ∀ b o, b ∉ ch → s.heap.get? b = some o → h'.get? b = some o) (hf : ∀ b ∈ ch, FpOk X pins H b) : Inv X pins σ H { s with heap := h', toks := t' } := by
  have nit : ∀ b u, H b = some u → b ∉ ch := fun b u e z => by
    have q := (hf b z).1
    rw [q] at e; cases e
  refine I.step (g' := s.gens) (d' := s.drawn) (ch := ch) (fun b hb => ⟨(hf b hb).2.2.2.1, (hf b hb).2.1, (hf b hb).2.2.2.2.1, (hf b hb).2.2.2.2.2⟩) (fun b o _ _ hc e _ => k b o hc e) (fun b o _ _ hc e _ => ⟨o.slots, k b o hc e⟩)
    (fun _ _ _ _ n => n) (fun b o hc e => ⟨o, k b o hc e⟩) (fun _ _ e => e) (fun _ _ _ e => e) (fun b ps e => ⟨#[], by rw [e]; simp⟩) (fun m hm => ?_) (fun b u e => ?_) I.bare
  · obtain ⟨o, es, ep, ho, r⟩ := hm
    exact ⟨o, es, ep, k _ o (fun z => (hf _ z).2.1 rfl) ho, r⟩
  · refine (I.hok b u e).stay (fun c v hc q => k c v ?_ q) (fun _ q => q) fun _ _ q => q
    rcases hc with z | z
    · rw [z]; exact nit b u e
    · exact nit c _ z
/-- .. and one new object is laid -/
theorem Inv.turnedNew {t' : Nat} {ch : List Addr} {T : Addr} {ob : HO} (I : Inv X pins σ H s) (k : ∀ b o, b ∉ ch → s.heap.get? b = some o → h'.get? b = some o) (hf : ∀ b ∈ ch, FpOk X pins H b) (hT : s.heap.objs.size ≤ T)
    (new : ObjOk X.prog X.w (upd H T ob) h' T ob) : Inv X pins σ (upd H T ob) { s with heap := h', toks := t' } := by
  have hn : H T = none := I.hok.fresh hT
  have nit : ∀ b u, H b = some u → b ∉ ch := fun b u e z => by
    have q := (hf b z).1
    rw [q] at e; cases e
  refine I.step (g' := s.gens) (d' := s.drawn) (ch := ch) (fun b hb => ⟨(hf b hb).2.2.2.1, (hf b hb).2.1, (hf b hb).2.2.2.2.1, (hf b hb).2.2.2.2.2⟩) (fun b o _ _ hc e _ => k b o hc e) (fun b o _ _ hc e _ => ⟨o.slots, k b o hc e⟩)
    (fun b o _ e n => ?_) (fun b o hc e => ⟨o, k b o hc e⟩) (fun b xs e => ?_) (fun b o u e => ?_) (fun b ps e => ⟨#[], ?_⟩) (fun m hm => ?_) (fun b u e => ?_) I.bare
  · rw [upd_ne (Nat.ne_of_lt (Nat.lt_of_lt_of_le (Heap.lt_size e) hT))]; exact n
  · rw [upd_ne (ne_of_none e hn)]; exact e
  · rw [upd_ne (ne_of_none e hn)]; exact e
  · rw [upd_ne (ne_of_none e hn), e]; simp
  · obtain ⟨o, es, ep, ho, r⟩ := hm
    exact ⟨o, es, ep, k _ o (fun z => (hf _ z).2.1 rfl) ho, r⟩
  · by_cases hb : b = T
    · subst hb
      rw [upd_same] at e
      cases e
      exact new
    · rw [upd_ne hb] at e
      refine (I.hok b u e).stay (fun c v hc q => k c v ?_ q) (fun c q => by rw [upd_ne (ne_of_none q hn)]; exact q) fun c xs q => by rw [upd_ne (ne_of_none q hn)]; exact q
      rcases hc with z | z
      · rw [z]; exact nit b u e
      · exact nit c _ z
end
section
variable {X : Cx}
end
/-- range(i, j, c): small bounds, n items -/
def RgC (i j c : Int) (n : Nat) : Prop := c ≠ 0 ∧ c.natAbs < 1073741824 ∧ Builtin.Range.small i j c = true ∧ Builtin.Range.rangeSize i j c = n
theorem RgC.neg {i j : Int} (ha : -(2 ^ 62) ≤ i) (ha' : i < 2 ^ 62) (hb : -(2 ^ 62) ≤ j) (hb' : j < 2 ^ 62) : RgC i j (-1) (i - j).toNat :=
  ⟨by decide, by decide, PySem.W.small_down ha ha' hb hb', PySem.W.rangeSize_downNat i j⟩
section
variable {X : Cx} {tg : Expr}
end
section
variable {X : Cx} {tg : Expr}
end
section
variable {prog : Program} {w : World} {A : Around} {E : Value → Shared → Prop} {s : Shared}
end
section
variable {X : Cx} {pins : List (Addr × Obj)} {σ : St} {H : Hp} {s : Shared} {d : Addr} {o : Obj}
end
section
variable {P : Program} {w : World} {K : PySem.W.Frag} {tg : Expr} {d : Addr} {o : Obj} {es : Array DictEntry} {ep : Nat}
end
section
variable {X : Cx} {tg e : Expr} {td : TE} {apos cpos : Pos}
end
theorem boot_zip5 : bootBuiltins "zip" = some (.type "zip") := by decide +kernel
end L2
section 
namespace Bits
open PySem PyProof.Rows
theorem nat_xor_add_and (m : Nat) : ∀ n : Nat, (m ^^^ n) + 2 * (m &&& n) = m + n := by
  induction m using Nat.strongRecOn with
  | _ m ih =>
    intro n
    by_cases h0 : m = 0
    · subst h0
      simp
    · have ih' := ih (m / 2) (by omega) (n / 2)
      rw [← Nat.xor_div_two, ← Nat.and_div_two] at ih'
      have o1 := @Nat.xor_mod_two_eq_one m n
      have a1 := @Nat.and_mod_two_eq_one m n
      omega
theorem bitXor_pp {x y : Int} (hx : 0 ≤ x) (hy : 0 ≤ y) : Builtin.bitXor x y = ((x.toNat ^^^ y.toNat : Nat) : Int) := by
  have e := nat_xor_add_and x.toNat y.toNat
  rw [bitXor_and, bitAnd_pp hx hy]
  omega
end Bits
end 
section 
namespace TL
open PySem PySem.Builtin PySem.Builtin.Str PySem.StrLaws
abbrev tl (x : Str) : List Nat := x.cps.toList
/-- S stands at the head of l -/
def pre (S l : List Nat) : Bool := l.take S.length == S
/-- what stands before the first S, and behind it -/
def par (S : List Nat) : List Nat → List Nat → Option (List Nat × List Nat)
  | _, [] => none
  | acc, c :: r => if pre S (c :: r) = true then some (acc, (c :: r).drop S.length) else par S (acc ++ [c]) r
end TL
end 
namespace L2
open PySem PySem.Spec PyProof.Rows
section
variable {X : Cx} {pins : List (Addr × Obj)} {σ : St} {H : Hp} {s : Shared} {Q : VK}
end
section
variable {X : Cx}
end
section
variable {X : Cx} {o e : Expr} {to te : TE}
end
end L2
namespace L2
open PySem PySem.Spec PyProof.Rows
section
variable {X : Cx}
end
theorem IsPart.raw {v : Value} {o : Option Int} (p : IsPart v o) : ∃ l : Option (Int × Tok), v = partValue l ∧ l.map (·.1) = o := by
  cases p with
  | none => exact ⟨none, rfl, rfl⟩
  | int i t => exact ⟨some (i, t), rfl, rfl⟩
end L2
namespace Att
open PySem PySem.W PySem.Calls PyProof.Rows
theorem ints_of_wellAll {P : Params} {h : Heap} : ∀ (ns : List Int) (vs : List Value), WellAll P h vs (ns.map WData.int) → IntsAre vs ns := by
  intro ns
  induction ns with
  | nil =>
    intro vs w
    rw [List.map_nil] at w
    cases w
    exact .nil
  | cons n ns ih =>
    intro vs w
    rw [List.map_cons] at w
    cases w with
    | cons a b =>
      cases a
      exact .cons _ _ (ih _ b)
theorem script_of {l : OpenLaw} {n : Nat} (hn : l.most = some n) {P : Params} {h : Heap} {args : List WData} {vals : List Value}
    (hpre : l.row.toRowW.claim.pre args = true) (hwl : WellAll P h vals args) :
    ∃ a vs ns, vals = [Value.ref a] ∧ args = [WData.list (ns.map WData.int)] ∧ h.get? a = some { cls := .type "list", data := .seq vs.toArray } ∧ IntsAre vs ns ∧ ns.length ≤ n := by
  have hsh : WShape.hasAll [] args [.list .int] = true := (pre_splitW hpre).1
  have hc : l.pre.holds [] { args := args } = true := (pre_splitW hpre).2
  obtain ⟨d, r, rfl, h1, h2⟩ := hasAllW_cons hsh
  obtain rfl := hasAllW_nil h2
  obtain ⟨xs, rfl, h3⟩ := hasW_list h1
  obtain ⟨ns, rfl⟩ := items_int h3
  have hlen : ns.length ≤ n := by
    unfold OpenLaw.pre at hc
    have h4 : (WTm.not (.lt (.lit (.int (n : Int))) (.len (.arg 0)))).holds [] { args := [.list (ns.map .int)] } = true := by
      have h4 := (holds_andW hc).1
      rw [hn] at h4
      exact h4
    have h5 := condW_of h4 (w_not (w_lt w_lit (w_len_list (w_arg rfl))))
    rw [List.length_map] at h5
    refine Nat.le_of_not_lt fun q => ?_
    have q' : (n : Int) < ((ns.length : Nat) : Int) := by omega
    first
      | (rw [decide_eq_true q'] at h5; exact absurd h5 (by decide))
      | (simp at h5; omega)
  cases hwl with
  | cons w1 w2 =>
    cases w2
    cases w1 with
    | list ho hall => exact ⟨_, _, ns, rfl, rfl, ho, ints_of_wellAll ns _ hall, hlen⟩
theorem post_true (l : OpenLaw) (args : List WData) : l.row.toRowW.claim.post args (.bool true) args = true :=
  postW_of (r := l.row.toRowW) (X := (true == true))
    (show WShape.has [] (.bool true) .bool = true by first | rfl | decide | simp [WShape.has, WShape.arms, WShape.armsAll])
    (show (WTm.eq .res (.lit (.bool true))).value [] { args := args, res := some (.bool true), after := args } = some (.bool (true == true)) from w_eq_bool (w_res rfl) w_lit) rfl
/-- the same from a codeAny of the CALL (for a layer whose function contracts speak of calls) -/
theorem attach_call {l : OpenLaw} {n : Nat} {q : Program} {loose : List Str} {XP : (Str → Option Value) → Heap → Prop} {YP : World → Heap → Prop} {d : DefRec}
    (hn : l.most = some n) (hdf : d.params.defaults = [])
    (call : ∀ (w : World) (s₀ s₁ : Shared) (mg mb : Str → Option Value) (fa : Addr) (o : Obj) (pm cd doc : Value) (a : Addr) (vs : List Value) (ns : List Int),
      Ground q loose [] XP w s₀ mg mb s₁.heap → YP w s₁.heap →
      s₁.heap.get? fa = some o → o.data = .func (docDef d.name d.params d.body d.scope pm cd doc) → s₁.heap.CodeRec cd d.name → mg d.name = some (.ref fa) →
      s₁.heap.get? a = some { cls := .type "list", data := .seq vs.toArray } → IntsAre vs ns → ns.length ≤ n → s₁.gens = #[] →
      codeAny (model l.prog w) callerA (.call (.ref fa) ⟨[.ref a], []⟩) (fun r s' => r = .ok (.ret (.bool true)) ∧ OldK s₁.heap s'.heap ∧ s'.os = s₁.os ∧ AllBare s'.gens) s₁) :
    WalkO q loose XP YP l.row.toRowW d [] (fun f vs => PySem.call f vs) := by
  intro w s₀ s₁ mg mb G Y fa o pm cd doc dV kV ho hd hcd hD hmg hg args vals as hpre hlay hrd hwl hlo
  obtain rfl : dV = .none := Dflts.none hD hdf
  obtain rfl : kV = .none := Dflts.noKw hD
  obtain ⟨a, vs, ns, rfl, rfl, hobj, hints, hlen⟩ := script_of hn hpre hwl
  refine enter_call (codeAny_mono (call w s₀ s₁ mg mb fa o pm cd doc a vs ns G Y ho (fd_plain hd) hcd hmg hobj hints hlen hg) fun r s' hq => ?_)
  obtain ⟨rfl, h2, h3, h4⟩ := hq
  exact ⟨.inl ⟨.bool true, .bool true, [], rfl, fun _ => rfl, .bool true, post_true l _, fun _ => ⟨List.Pairwise.nil, fun _ hm => (nomatch hm)⟩⟩, h2, h3, h4⟩
section
variable {prog : Program} {w : World} {A : Around} {E : Value → Shared → Prop} {s : Shared} {K : Frag}
end
end Att
namespace L2
open PySem PySem.Spec PyProof.Rows
theorem vals_ints : ∀ {vs : List Value} {ns : List Int}, IntsAre vs ns → Vals (ns.map V.int) vs
  | _, _, .nil => .nil
  | _, _, .cons n t h => .cons ⟨t, rfl⟩ (vals_ints h)
end L2
namespace L2
open PySem PySem.Spec PyProof.Rows
end L2
namespace L2
open PySem PySem.Spec PyProof.Rows
def defArgs (s : Stmt) : Arguments := match s with
  | .FunctionDef _ a _ _ _ _ _ _ _ _ => a
  | _ => { posonlyargs := [], args := [], vararg := none, kwonlyargs := [], kw_defaults := [], kwarg := none, defaults := [] }
def defBody (s : Stmt) : List Stmt := match s with
  | .FunctionDef _ _ b _ _ _ _ _ _ _ => b
  | _ => []
def defScope (s : Stmt) : Scope := match s with
  | .FunctionDef _ _ _ _ _ _ sc _ _ _ => sc
  | _ => { kind := .function, names := [], isGenerator := false, isCoroutine := false }
abbrev CX0 : CXT := fun _ _ _ _ _ _ => False
abbrev E0 : XK := fun _ _ _ => False
theorem pass0 {X : Cx} : Passes CX0 X E0 := fun _ _ _ _ _ _ _ h => h.elim
structure Fun (K : PySem.W.Frag) (x qual : Str) (st : Stmt) (f : Addr) (fd : FuncData) : Prop where
  ex : ∃ (oc : Value) (od : Option Addr) (kV doc pm : Value) (an : Option Addr) (cdv ct : Value) (osl : Array (Option Value)),
    fd = PySem.W.fnOf x qual (defArgs st) (defBody st) (defScope st) .none kV doc pm an cdv ct ∧ K.lookup f = some ⟨oc, od, .func fd, osl⟩ ∧ PySem.W.codeIn K cdv qual = true
  kp : PySem.W.keepIn K (.ref f) = true
section
variable {P : Program} {w : World} {K : PySem.W.Frag} {mg : Str → Option Value} {base : Heap}
/-- THE RULE for a def: its body as a term of rules, and the reading of that term -/
theorem Fun.ok {x qual : Str} {st : Stmt} {f : Addr} {fd : FuncData} {N ps : List Str} {k : Nat} {sp : Sp} (F : Fun K x qual st f fd) (S : FnScope N ps (defScope st)) (len : ∀ vs H Q E, sp vs H Q E → vs.length = ps.length)
    (hbody : ∀ (cdv : Value) (A : Around) (outer : List Env) (s : Shared) (H : Hp) (vs : List V) (Q : VK) (E : XK), Room k (A.deeper (envOfC qual (defScope st) s.heap.objs.size f cdv)) → sp vs H Q E →
      ∃ t, PSs (cxOf CX0 P w K mg base N qual (defScope st) f cdv A outer s H E).nox (defBody st) t ∧ t { nx := fun _ H' => Q .non H', rt := Q } (start N vs) H) : FnOk P w K mg base CX0 (k + 1) f fd ps sp := by
  obtain ⟨oc, od, kV, doc, pm, an, cdv, ct, osl, rfl, lk, hcd⟩ := F.ex
  refine fn_of lk hcd S len fun A outer s H vs Q E hr hsp => ?_
  obtain ⟨t, h, q⟩ := hbody cdv A outer s H vs Q E hr hsp
  exact ⟨t, h.nox, q⟩
/-- how its arguments bind (no defaults): h is «fun _ _ _ _ _ _ us hl => match us, hl with | [_, _], _ => rfl», one _ a parameter -/
theorem Fun.binds {x qual : Str} {st : Stmt} {f : Addr} {fd : FuncData} {ps : List Str} (F : Fun K x qual st f fd)
    (h : ∀ (kV doc pm : Value) (an : Option Addr) (cdv ct : Value) (us : List Value), us.length = ps.length → bindArgs (PySem.W.fnOf x qual (defArgs st) (defBody st) (defScope st) .none kV doc pm an cdv ct) ⟨us, []⟩ = pure (ps.zip us)) : Binds K fd ps [] := by
  obtain ⟨oc, od, kV, doc, pm, an, cdv, ct, osl, rfl, lk, hcd⟩ := F.ex
  exact .all (h kV doc pm an cdv ct)
theorem fun_mk {x qual : Str} {st : Stmt} {f : Addr} {oc : Value} {od an : Option Addr} {osl : Array (Option Value)} {kV doc pm cdv ct : Value} (l : K.lookup f = some ⟨oc, od, .func (PySem.W.fnOf x qual (defArgs st) (defBody st) (defScope st) .none kV doc pm an cdv ct), osl⟩)
    (c : PySem.W.codeIn K cdv qual = true) (k : PySem.W.keepIn K (.ref f) = true) : Fun K x qual st f (PySem.W.fnOf x qual (defArgs st) (defBody st) (defScope st) .none kV doc pm an cdv ct) := ⟨⟨oc, od, kV, doc, pm, an, cdv, ct, osl, rfl, l, c⟩, k⟩
end
theorem hu_of {A : Around} {k : Nat} (hr : Room k A) : A.units + 1 < cLine := Nat.lt_of_le_of_lt (Nat.add_le_add_left (by decide : 1 ≤ 64) _) hr.units
theorem small1000 {n : Nat} (h : n ≤ 1000) : n < sizeLine := Nat.lt_of_le_of_lt h (by decide)
section
variable {X : Cx}
theorem pv (i : Nat) {x : Str} {pos : Pos} (hN : X.N[i]? = some x := by rfl) (hv : Vis X.env.scope x := by first | exact Or.inl rfl | exact Or.inr (Or.inl rfl) | exact Or.inr (Or.inr rfl)) (hd : (x == ("__debug__" : Str)) = false := by decide)
    (hcd : (x == ("__classdict__" : Str)) = false := by decide) : PE X (.Name x pos) (tVar i) := pe_var hN hv hd hcd
/-- len of a dict -/
theorem call_lenD : CallR X (.builtin "len") (fun xs H Q => ∃ a kvs, xs = [V.ref a] ∧ H a = some (.dK kvs) ∧ Q (.int kvs.length) H) := by
  intro pins s σ H xs us Q I r h
  obtain ⟨a, kvs, rfl, ha, q⟩ := h
  obtain ⟨u, rfl, ru⟩ := vals1 r
  cases ru
  exact d_len I (.inl ha) fun t s' I' => ⟨.int kvs.length, H, I', ⟨t, rfl⟩, q⟩
end
theorem iteF {A B : Prop} (h : B) : if false = true then A else B := by
  rw [if_neg Bool.false_ne_true]
  exact h
theorem iteT {A B : Prop} (h : A) : if true = true then A else B := by
  rw [if_pos rfl]
  exact h
theorem ite2 {c A B : Prop} [Decidable c] (h1 : c → A) (h2 : ¬ c → B) : if c then A else B := by
  by_cases h : c
  · rw [if_pos h]
    exact h1 h
  · rw [if_neg h]
    exact h2 h
/-- all that was tracked is as it was -/
def Same (H H' : Hp) : Prop := ∀ b o, H b = some o → H' b = some o
theorem Same.refl (H : Hp) : Same H H := fun _ _ h => h
theorem Same.trans {H H1 H2 : Hp} (a : Same H H1) (b : Same H1 H2) : Same H H2 := fun c o h => b c o (a c o h)
theorem Same.free {H H' : Hp} (e : Same H H') {l : Addr} (h : H' l = Option.none) : H l = Option.none := by
  cases q : H l with
  | none => rfl
  | some o =>
    rw [e l o q] at h
    cases h
theorem Same.seq {K : PySem.W.Frag} {H H' : Hp} {a : Addr} {xs : List V} (e : Same H H') (h : SqL K H a xs) : SqL K H' a xs := by
  rcases h with (h | ⟨o, h⟩) | h
  · exact .inl (.inl (e _ _ h))
  · exact .inl (.inr ⟨o, e _ _ h⟩)
  · exact .inr h
section
variable {κ : Type} [DecidableEq κ]
end
theorem at_of {xs : List V} {z : Int} {j : Nat} {v : V} (e : z = (j : Int)) (h : xs[j]? = some v) : atI xs z = some v := by
  rw [e]
  exact atI_nat h
/-- a new instance and its __init__ leave all that was tracked as it was -/
theorem Same.made {H H1 : Hp} {x dx C : Addr} (nx : H x = Option.none) (nd : H dx = Option.none) (k : ∀ b o, (upd (upd H dx (.own x)) x (.ins C dx [])) b = some o → b ≠ x → H1 b = some o) : Same H H1 := fun b o e =>
  k b o (by rw [upd_ne (ne_of_none e nx), upd_ne (ne_of_none e nd)]; exact e) (ne_of_none e nx)
end L2
set_option Elab.async false
set_option linter.all false
set_option maxRecDepth 100000
namespace L3
open PySem PySem.Spec PyProof.Rows L2
/-- the iterator's record over a list (false) or a tuple (true) -/
def SqI : Bool → Heap → Addr → Addr → Nat → Prop
  | true, h, it, l, i => h.IsTupleIter it l i
  | false, h, it, l, i => h.IsListIter it l i
def SqH : Bool → Heap → Addr → Array Value → Prop
  | true, h, l, xs => h.IsTuple l xs
  | false, h, l, xs => h.IsList l xs
def itN : Bool → String
  | true => "tuple_iterator"
  | false => "list_iterator"
def itO (k : Bool) (l : Addr) : Obj := { cls := .type (itN k), data := .fields #[.ref l, .int 0 0] }
theorem SqI.keep {k : Bool} {h h' : Heap} {it l : Addr} {i : Nat} (x : SqI k h it l i) (e : ∀ o, h.get? it = some o → h'.get? it = some o) : SqI k h' it l i := by
  cases k
  · obtain ⟨o, a, r⟩ := (show h.IsListIter it l i from x); exact ⟨o, e o a, r⟩
  · obtain ⟨o, a, r⟩ := (show h.IsTupleIter it l i from x); exact ⟨o, e o a, r⟩
theorem SqH.keep {k : Bool} {h h' : Heap} {l : Addr} {xs : Array Value} (x : SqH k h l xs) (e : ∀ o, h.get? l = some o → h'.get? l = some o) : SqH k h' l xs := by
  cases k
  · obtain ⟨o, a, r⟩ := (show h.IsList l xs from x); exact ⟨o, e o a, r⟩
  · obtain ⟨o, a, r⟩ := (show h.IsTuple l xs from x); exact ⟨o, e o a, r⟩
theorem SqI.obj {k : Bool} {h : Heap} {it l : Addr} {i : Nat} (x : SqI k h it l i) : ∃ o, h.get? it = some o ∧ ∀ v, o.data ≠ .cell v := by
  cases k
  · obtain ⟨o, a, _, d⟩ := (show h.IsListIter it l i from x); exact ⟨o, a, fun v q => by rw [d] at q; cases q⟩
  · obtain ⟨o, a, _, d⟩ := (show h.IsTupleIter it l i from x); exact ⟨o, a, fun v q => by rw [d] at q; cases q⟩
theorem SqI.lt {k : Bool} {h : Heap} {it l : Addr} {i : Nat} (x : SqI k h it l i) : it < h.objs.size := let ⟨_, e, _⟩ := x.obj; Heap.lt_size e
theorem SqH.lt {k : Bool} {h : Heap} {l : Addr} {xs : Array Value} (x : SqH k h l xs) : l < h.objs.size := by
  cases k
  · obtain ⟨o, a, r⟩ := (show h.IsList l xs from x); exact Heap.lt_size a
  · obtain ⟨o, a, r⟩ := (show h.IsTuple l xs from x); exact Heap.lt_size a
theorem SqI.new {k : Bool} {h : Heap} {it l : Addr} (e : h.get? it = some (itO k l)) : SqI k h it l 0 := by
  cases k
  · exact ⟨_, e, rfl, rfl⟩
  · exact ⟨_, e, rfl, rfl⟩
section
variable {prog : Program} {w : World} {A : Around} {E : Value → Shared → Prop} {s : Shared}
theorem sq_iter {k : Bool} {l : Addr} {xs : Array Value} {Q : Value → Shared → Prop} (h : SqH k s.heap l xs) (q : Q (.ref s.heap.objs.size) { s with heap := s.heap.push (itO k l) }) :
    wpAny (model prog w) A (pyIter (.ref l)) Q E s := by
  cases k
  · exact wpAny_pyIter_list (show s.heap.IsList l xs from h) q
  · exact wpAny_pyIter_tuple (show s.heap.IsTuple l xs from h) q
theorem tup_next {it t : Addr} {i : Nat} {xs : Array Value} {x : Value} {Q : Value → Shared → Prop} (hit : s.heap.IsTupleIter it t i) (ht : s.heap.IsTuple t xs) (hx : xs[i]? = some x)
    (q : ∀ h', h'.IsTupleIter it t (i + 1) → Heap.SameBut it s.heap h' → Q x { s with heap := h' }) : wpAny (model prog w) A (Builtin.SmallTypes.nextOf (.ref it)) Q E s := by
  have ⟨o, ho, hc, hd⟩ := hit
  have ⟨ot, hot, _, m, hdt⟩ := ht
  have body := F.entry_tuple_iterator_next
  unfold Builtin.SmallTypes.nextOf
  refine wpAny_bind (wpAny_callSpecial?_slot (name := Str.ofString "__next__") hit.typeIs F.slot_tuple_iterator_next (wpAny_call_entry F.slot_tuple_iterator_next hit.typeIs body ?_ (F.args_tuple_iterator_next_1 _)))
  refine wpAny_bind (m := field (.ref it) 0) (wpAny_field ho hd (x := .ref t) rfl ?_)
  refine wpAny_ite_false (c := (Value.ref t == Value.none)) rfl ?_
  refine wpAny_bind (m := field (.ref it) 1) (wpAny_field ho hd (x := .int i 0) rfl (wpAny_bind (m := seqItems? (.ref t)) (wpAny_seqItems hot hdt ?_)))
  simp only [hx, Int.toNat_natCast]
  refine wpAny_bind (wpAny_setField ho hd (by simp) (wpAny_pure ⟨x, rfl, wpAny_pure (q _ ⟨_, Heap.get?_update_self _ ho (Obj.isFreed_of_fields (Obj.data_mapFields hd _)), ?_, ?_⟩ (Heap.SameBut.update ..))⟩))
  · rw [Obj.cls_mapFields]; exact hc
  · rw [Obj.data_mapFields hd]; simp [rawInt]
theorem tup_next_end {it t : Addr} {i : Nat} {xs : Array Value} {Q : Value → Shared → Prop} (hh : A.handled = none) (hit : s.heap.IsTupleIter it t i) (ht : s.heap.IsTuple t xs) (hx : xs[i]? = none)
    (q : ∀ h' e, Heap.ExtBut it s.heap h' → (∃ o, h'.get? e = some o ∧ o.cls = .type "StopIteration") → E (.ref e) { s with heap := h' }) : wpAny (model prog w) A (Builtin.SmallTypes.nextOf (.ref it)) Q E s := by
  have ⟨o, ho, hc, hd⟩ := hit
  have ⟨ot, hot, _, m, hdt⟩ := ht
  have body := F.entry_tuple_iterator_next
  unfold Builtin.SmallTypes.nextOf
  refine wpAny_bind (wpAny_callSpecial?_slot (name := Str.ofString "__next__") hit.typeIs F.slot_tuple_iterator_next (wpAny_call_entry F.slot_tuple_iterator_next hit.typeIs body ?_ (F.args_tuple_iterator_next_1 _)))
  refine wpAny_bind (m := field (.ref it) 0) (wpAny_field ho hd (x := .ref t) rfl ?_)
  refine wpAny_ite_false (c := (Value.ref t == Value.none)) rfl ?_
  refine wpAny_bind (m := field (.ref it) 1) (wpAny_field ho hd (x := .int i 0) rfl (wpAny_bind (m := seqItems? (.ref t)) (wpAny_seqItems hot hdt ?_)))
  simp only [hx, Int.toNat_natCast]
  refine wpAny_bind (wpAny_rule (wpAny_bind (wpAny_setField ho hd (by simp) ?_)))
  refine wpAny_bind (m := newExc (.type "StopIteration") []) ?_
  unfold newExc newTuple
  refine wpAny_bind (wpAny_newObj_type (wpAny_bind (m := firstArgMember _ _) (wpAny_of_eq (a := Value.none) (by first | rfl | (simp only [firstArgMember]; rfl)) ?_)) (by size_fits))
  refine wpAny_newObj_type ?_ (by size_fits)
  unfold raiseNew
  refine wpAny_bind (wpAny_handled ?_)
  first | rw [show A.in1.handled = none from hh] | rw [hh]
  exact wpAny_bind (wpAny_pure (wpAny_throw (q _ _ (((Heap.SameBut.update ..).extBut.push _).push _) ⟨_, Heap.get?_push_size _ rfl, rfl⟩)))
theorem sq_next {k : Bool} {it l : Addr} {i : Nat} {xs : Array Value} {x : Value} {Q : Value → Shared → Prop} (hit : SqI k s.heap it l i) (hl : SqH k s.heap l xs) (hx : xs[i]? = some x)
    (q : ∀ h', SqI k h' it l (i + 1) → Heap.SameBut it s.heap h' → Q x { s with heap := h' }) : wpAny (model prog w) A (Builtin.SmallTypes.nextOf (.ref it)) Q E s := by
  cases k
  · exact wpAny_nextOf_list_item (show s.heap.IsListIter it l i from hit) hl hx q
  · exact tup_next (show s.heap.IsTupleIter it l i from hit) hl hx q
theorem sq_next_end {k : Bool} {it l : Addr} {i : Nat} {xs : Array Value} {Q : Value → Shared → Prop} (hh : A.handled = none) (hit : SqI k s.heap it l i) (hl : SqH k s.heap l xs) (hx : xs[i]? = none)
    (q : ∀ h' e, Heap.ExtBut it s.heap h' → (∃ o, h'.get? e = some o ∧ o.cls = .type "StopIteration") → E (.ref e) { s with heap := h' }) : wpAny (model prog w) A (Builtin.SmallTypes.nextOf (.ref it)) Q E s := by
  cases k
  · exact wpAny_nextOf_list_end hh (show s.heap.IsListIter it l i from hit) hl hx q
  · exact tup_next_end hh (show s.heap.IsTupleIter it l i from hit) hl hx q
end
end L3
set_option Elab.async false
set_option linter.all false
set_option maxRecDepth 100000
namespace L3
open PySem PySem.Spec PyProof.Rows L2
section
variable {X : Cx}
def CDivB (i j : Int) : Prop := 0 < j ∧ j < 10 ^ 60
theorem log2_lt {j : Int} (h1 : 0 < j) (h2 : j < 10 ^ 60) : j.natAbs.log2 < 9000 := by
  have h3 : j.natAbs ≠ 0 := by omega
  have h5 : j.natAbs < 2 ^ 200 := by omega
  have := (Nat.log2_lt h3).mpr h5
  omega
theorem op_fdivB : OpR X (binaryOp .FloorDiv) (rI CDivB fun i j => .int (i / j)) := opI fun i j _ _ _ _ _ hc q => by
  have h1 : (0 : Int) < j := hc.1
  exact floordiv_int (by omega) (by rw [Int.fdiv_eq_ediv_of_nonneg i (by omega)]; exact q) (.inl (PyProof.noPylong_of_log2 (log2_lt hc.1 hc.2)))
def rIsi (K : PySem.W.Frag) : List V → Hp → VK → Prop := fun xs H Q => ∃ x t n b, xs = [x, .ty n] ∧ TyOf K H x t ∧ PySem.W.kitOne K t (.type n) = some b ∧ Q (.bl b) H
theorem call_isi : CallR X (.builtin "isinstance") (rIsi X.K) := by
  intro pins s σ H xs us Q I r h
  obtain ⟨x, t, n, b, rfl, ty, e, q⟩ := h
  cases r with
  | cons r1 rr =>
    cases rr with
    | cons r2 rr =>
      cases rr
      cases r2
      exact isinst_ok I r1 ty e fun tk => ⟨.bl b, H, I.tok tk, rfl, q⟩
def rRng1 : List V → Hp → VK → Prop := fun xs H Q => ∃ j : Int, xs = [.int j] ∧ ∀ p, H p = none → Q (.ref p) (upd H p (.rng 0 j))
theorem call_rng1 : CallR X (.type "range") rRng1 := by
  intro pins s σ H xs us Q I r h
  obtain ⟨j, rfl, q⟩ := h
  obtain ⟨u, rfl, t, rfl⟩ := vals1 r
  refine call_range_1 ?_
  refine ⟨.ref s.heap.objs.size, _, I.laid (t' := s.toks + 1 + 1) (fun b o e => Heap.get?_push_of_some _ e) (Nat.le_refl _) (show ObjOk X.prog X.w _ _ _ (.rng 0 j) from ⟨_, _, _, Heap.get?_push_size _ rfl⟩), rfl, q _ (I.hok.fresh (Nat.le_refl _))⟩
def upto (n : Nat) : List V := (List.range n).map fun i => V.int (i : Nat)
theorem upto_length (n : Nat) : (upto n).length = n := by simp [upto]
theorem vals_from : ∀ (l : List Value) (k : Nat), (∀ (i : Nat) (v : Value), l[i]? = some v → ∃ t, v = Value.int (((k + i : Nat) : Int)) t) → Vals ((List.range' k l.length).map fun (i : Nat) => V.int (i : Int)) l
  | [], k, _ => .nil
  | x :: l, k, h => by
    refine .cons ?_ (vals_from l (k + 1) fun i v hi => ?_)
    · obtain ⟨t, ht⟩ := h 0 x rfl
      exact ⟨t, ht⟩
    · obtain ⟨t, ht⟩ := h (i + 1) v (by simpa using hi)
      exact ⟨t, by rw [ht, show k + 1 + i = k + (i + 1) by omega]⟩
theorem vals_of_items {n : Nat} {acc : Array Value} (h : ItemsOf (fun i v => ∃ t, v = Value.int (0 + (i : Nat) * 1) t) acc n) : Vals (upto n) acc.toList := by
  obtain ⟨hs, hv⟩ := h
  have e : upto n = (List.range' 0 acc.toList.length).map fun (i : Nat) => V.int (i : Int) := by
    rw [Array.length_toList, hs, ← List.range_eq_range']; rfl
  rw [e]
  refine vals_from _ 0 fun i v hi => ?_
  obtain ⟨t, ht⟩ := hv i v (by simpa using hi)
  exact ⟨t, by rw [ht]; simp⟩
def rListRng : List V → Hp → VK → Prop := fun xs H Q => ∃ p j, xs = [.ref p] ∧ H p = some (.rng 0 j) ∧ 0 ≤ j ∧ j ≤ 65536 ∧ ∀ l, H l = none → Q (.ref l) (upd H l (.lst (upto j.toNat)))
theorem small65536 : (65536 : Nat) ≤ sizeLine := by decide
theorem call_list_rng (hc : X.calm = true) : CallR X (.type "list") rListRng := by
  intro pins s σ H xs us Q I r h
  obtain ⟨p, j, rfl, hp, hj0, hj, q⟩ := h
  obtain ⟨u, rfl, rx⟩ := vals1 r
  cases rx
  obtain ⟨t, u, v, hr⟩ := I.hok p _ hp
  have hz : Builtin.Range.rangeSize 0 j 1 = (j.toNat : Int) := by rw [rangeSize_one]; split <;> omega
  refine call_list_range (I.ok.hd hc) hr (small_one (by decide) (by decide) (by omega) (by omega)) hz (by omega) fun h' tk acc c' kp e it => ?_
  refine ⟨.ref s.heap.objs.size, _, I.laid (t' := tk) kp (Nat.le_refl _) (show ObjOk X.prog X.w _ h' _ (.lst (upto j.toNat)) from ⟨?_, acc.toList, c', vals_of_items it, by simpa using e⟩), rfl, q _ (I.hok.fresh (Nat.le_refl _))⟩
  rw [upto_length]; have := small65536; omega
theorem collect_rng {prog : Program} {w : World} {A : Around} {E : Value → Shared → Prop} {s : Shared} {Q : List Value → Shared → Prop} {r : Addr} {b : Int} {t u v : Tok} {n : Nat} (hh : A.handled = none) (hr : IsRange s.heap r 0 b 1 t u v) (hsm : Builtin.Range.small 0 b 1 = true) (hn : Builtin.Range.rangeSize 0 b 1 = n) (hl : n ≤ 2 ^ 24)
    (q : ∀ (h' : Heap) (tk : Nat) (acc : Array Value), (∀ b o, s.heap.get? b = some o → h'.get? b = some o) → ItemsOf (fun i v => ∃ t, v = Value.int (0 + (i : Nat) * 1) t) acc n → Q acc.toList { s with heap := h', toks := tk }) :
    wpAny (model prog w) A (collect (.ref r)) Q E s := by
  unfold collect
  refine wpAny_bind (wpAny_runValue (codeAny_builtin F.entry_proto_collect ?_))
  rw [Around.under_plainId F.plain_proto_collect _]
  refine wpAny_bind (m := newList []) (wpAny_newObj_type (wpAny_pure ⟨plainId_quiet F.plain_list_iadd _, codeAny_builtin F.entry_list_iadd ?_⟩))
  rw [Around.under_plainId F.plain_list_iadd _]
  have hS : (s.heap.push { cls := .type "list", data := .seq ([] : List Value).toArray }).get? s.heap.objs.size = some { cls := .type "list", data := .seq #[] 0 } := Heap.get?_push_size _ rfl
  have last : ∀ h' tk acc' c', (∀ b o, b ≠ s.heap.objs.size → (s.heap.push { cls := .type "list", data := .seq ([] : List Value).toArray }).get? b = some o → h'.get? b = some o) → h'.get? s.heap.objs.size = some { cls := .type "list", dict := none, data := .seq acc' c', slots := #[] } →
      ItemsOf (fun i v => ∃ t, v = Value.int (0 + (i : Nat) * 1) t) acc' n → wpAny (model prog w) A (match Value.ref s.heap.objs.size with
      | Value.ref a => do
        match (← load a).data with
          | Data.seq xs _ => pure xs.toList
          | _ => unsupported "internal:collect"
      | _ => unsupported "internal:collect") Q E { s with heap := h', toks := tk } := fun h' tk acc' c' kp e it => by
    refine wpAny_bind (m := load s.heap.objs.size) (wpAny_load e (wpAny_pure ?_))
    exact q h' tk acc' (fun b o eb => kp b o (Nat.ne_of_lt (Heap.lt_size eb)) (Heap.get?_push_of_some _ eb)) it
  refine wpAny_mono (wpAny_extend_range (A := A) (R := fun r s' => r = .ok (.ret (.ref s.heap.objs.size)) ∧ wpAny (model prog w) A (match Value.ref s.heap.objs.size with
      | Value.ref a => do
        match (← load a).data with
          | Data.seq xs _ => pure xs.toList
          | _ => unsupported "internal:collect"
      | _ => unsupported "internal:collect") Q E s') (s := { s with heap := s.heap.push { cls := .type "list", data := .seq ([] : List Value).toArray } }) hh (Heap.get?_push_of_some _ hr) hsm hn hl _ (.ref s.heap.objs.size) 0 hS
      fun h' tk acc' c' kp e it => ⟨rfl, last h' tk acc' c' kp e it⟩) (fun fin s' h => ?_) (fun e s' h => ?_)
  · cases fin with
    | done f =>
      obtain ⟨e, h⟩ := h
      cases e
      exact h
    | again c' => exact ⟨h.1, codeAny_mono h.2 fun r s'' hr => by obtain ⟨e, h⟩ := hr; cases e; exact h⟩
  · exact absurd h.1 (by simp)
theorem meets_tuple_rng (r : Addr) (b : Int) (t u v : Tok) (n : Nat) (hsm : Builtin.Range.small 0 b 1 = true) (hn : Builtin.Range.rangeSize 0 b 1 = n) (hl : n ≤ 2 ^ 24) {prog : Program} {w : World} {A : Around} {Q : Value → Shared → Prop} {E : Value → Shared → Prop} {s : Shared} (hh : A.handled = none) (hr : IsRange s.heap r 0 b 1 t u v)
    (q : ∀ (h' : Heap) (tk : Nat) (acc : Array Value), (∀ b o, s.heap.get? b = some o → h'.get? b = some o) → ItemsOf (fun i v => ∃ t, v = Value.int (0 + (i : Nat) * 1) t) acc n → Q (.ref h'.objs.size) { s with heap := h'.push { cls := .type "tuple", data := .seq acc }, toks := tk }) :
    codeAny (model prog w) A (.call (.builtin "tuple.__new__") ⟨[.type "tuple", .ref r], []⟩) (wants Q E) s := by
  refine codeAny_of_tree ?_
  show wpAny _ A.in1 (do checkBuiltinCall "tuple.__new__" ⟨[.type "tuple", .ref r], []⟩; again (.builtin "tuple.__new__" ⟨[.type "tuple", .ref r], []⟩)) _ _ s
  refine wpAny_bind (wpAny_of_eq (F.newCall_tuple_1 _) (wpAny_pure ⟨plainId_quiet F.plain_tuple_new _, codeAny_builtin F.entry_tuple_new ?_⟩))
  rw [Around.under_plainId F.plain_tuple_new _]
  have hsub := sub_tuple_self
  have hinit := init_tuple_lookup
  have hmh := madeHere_tuple
  have hT : s.TypeIs (.ref r) "range" := ⟨_, hr, rfl⟩
  have hh1 : A.in1.handled = none := hh
  wp_walk using wpAny_typeOf hT, collect_rng hh1 hr hsm hn hl
  intro h' tk acc kp it
  show wpAny _ _ (Builtin.Tuple.tupleExact acc.toList.toArray >>= fun v => ret v) _ _ _
  unfold Builtin.Tuple.tupleExact
  have e : acc.toList.toArray = acc := by simp
  rw [e]
  refine wpAny_bind (wpAny_newObj_type (wpAny_pure (q h' tk acc kp it)) (by show acc.size ≤ sizeLine; rw [it.1]; exact hl))
theorem call_tuple_rng0 {r : Addr} {b : Int} {t u v : Tok} {n : Nat} (hsm : Builtin.Range.small 0 b 1 = true) (hn : Builtin.Range.rangeSize 0 b 1 = n) (hl : n ≤ 2 ^ 24) {prog : Program} {w : World} {A : Around} {Q : Value → Shared → Prop} {E : Value → Shared → Prop} {s : Shared} (hh : A.handled = none) (hr : IsRange s.heap r 0 b 1 t u v)
    (q : ∀ (h' : Heap) (tk : Nat) (acc : Array Value), (∀ b o, s.heap.get? b = some o → h'.get? b = some o) → ItemsOf (fun i v => ∃ t, v = Value.int (0 + (i : Nat) * 1) t) acc n → Q (.ref h'.objs.size) { s with heap := h'.push { cls := .type "tuple", data := .seq acc }, toks := tk }) :
    wpAny (model prog w) A (call (.type "tuple") [.ref r]) Q E s := by
  refine callType_codes (Q₁ := fun obj s₁ => s₁.TypeIs obj "tuple" ∧ Q obj s₁) F.called_tuple (F.typeCall_tuple_1 _) F.entry_object_init
    (meets_tuple_rng r b t u v n hsm hn hl hh hr fun h' tk acc kp it => ⟨⟨_, Heap.get?_push_size _ rfl, rfl⟩, q h' tk acc kp it⟩) fun obj s₁ h₁ => ?_
  exact ⟨h₁.1, F.args_object_init_2 obj _, object_init_meets F.called_tuple.init.lookup F.called_tuple.made (by decide) prog w A.in1 _ s₁ ⟨h₁.1, rfl, h₁.2⟩⟩
def rTupRng : List V → Hp → VK → Prop := fun xs H Q => ∃ p j, xs = [.ref p] ∧ H p = some (.rng 0 j) ∧ 0 ≤ j ∧ j ≤ 65536 ∧ ∀ l, H l = none → Q (.ref l) (upd H l (.tup (upto j.toNat)))
theorem call_tup_rng (hc : X.calm = true) : CallR X (.type "tuple") rTupRng := by
  intro pins s σ H xs us Q I r h
  obtain ⟨p, j, rfl, hp, hj0, hj, q⟩ := h
  obtain ⟨u, rfl, rx⟩ := vals1 r
  cases rx
  obtain ⟨t, u, v, hr⟩ := I.hok p _ hp
  have hz : Builtin.Range.rangeSize 0 j 1 = (j.toNat : Int) := by rw [rangeSize_one]; split <;> omega
  refine call_tuple_rng0 (small_one (by decide) (by decide) (by omega) (by omega)) hz (by omega) (I.ok.hd hc) hr fun h' tk acc kp it => ?_
  have I1 : Inv X pins σ H { s with heap := h', toks := tk } := I.kept kp
  have I2 : Inv X pins σ (upd H h'.objs.size (.tup (upto j.toNat))) { s with heap := h'.push { cls := .type "tuple", data := .seq acc }, toks := tk } :=
    I1.laid (t' := tk) (fun b o e => Heap.get?_push_of_some _ e) (Nat.le_refl _) (show ObjOk X.prog X.w _ _ _ (.tup (upto j.toNat)) from ⟨by rw [upto_length]; have := small65536; omega, acc.toList, vals_of_items it, by simpa using IsTupD.new h' acc⟩)
  exact ⟨.ref h'.objs.size, _, I2, rfl, q _ (I1.hok.fresh (Nat.le_refl _))⟩
end
end L3
set_option Elab.async false
set_option linter.all false
set_option maxRecDepth 100000
namespace L3
open PySem PySem.Spec PyProof.Rows L2
def SqX : Bool → PySem.W.Frag → Hp → Addr → List V → Prop
  | true, K, H, a, xs => SqT K H a xs
  | false, K, H, a, xs => SqL K H a xs
section
variable {X : Cx} {pins : List (Addr × Obj)} {σ : L2.St} {H : Hp} {s : Shared} {a : Addr} {xs : List V} {k : Bool}
theorem sqx (I : Inv X pins σ H s) (h : SqX k X.K H a xs) : ∃ its : List Value, Vals xs its ∧ SqH k s.heap a its.toArray ∧ xs.length ≤ sizeLine := by
  cases k
  · obtain ⟨its, r, p, z⟩ := I.list (show SqL X.K H a xs from h); exact ⟨its, r, p.isList, z⟩
  · obtain ⟨its, r, p, z⟩ := I.tuple (show SqT X.K H a xs from h); exact ⟨its, r, p, z⟩
theorem SqH.ne {h : Heap} {b : Addr} {o : Obj} {n : String} {its : Array Value} (x : SqH k h a its) (e : h.get? b = some o) (c : o.cls = .type n) (h1 : n ≠ "list") (h2 : n ≠ "tuple") : a ≠ b := by
  intro z
  subst z
  cases k
  · obtain ⟨o', e', c', _⟩ := (show h.IsList a its from x)
    rw [e] at e'; cases e'; rw [c] at c'; injection c' with q; exact h1 q
  · obtain ⟨o', e', c', _⟩ := (show h.IsTuple a its from x)
    rw [e] at e'; cases e'; rw [c] at c'; injection c' with q; exact h2 q
theorem SqI.cls {h : Heap} {it : Addr} {i : Nat} (x : SqI k h it a i) : ∃ o, h.get? it = some o ∧ o.cls = .type (itN k) := by
  cases k
  · obtain ⟨o, e, c, _⟩ := (show h.IsListIter it a i from x); exact ⟨o, e, c⟩
  · obtain ⟨o, e, c, _⟩ := (show h.IsTupleIter it a i from x); exact ⟨o, e, c⟩
end
end L3
set_option Elab.async false
set_option linter.all false
set_option maxRecDepth 100000
namespace L3
open PySem PySem.Spec PyProof.Rows L2
section
variable {prog : Program} {w : World} {A : Around} {E : Value → Shared → Prop} {s : Shared} {z TI TO i1 i2 a b : Addr} {k1 k2 : Bool} {n : Nat} {xs ys : Array Value}
theorem zipX_item {x y u v : Value} {Q : Value → Shared → Prop} (D : ZipApart z TI TO i1 i2 a b) (hz : IsZip s.heap z TI TO .none) (hTI : IsPair s.heap TI (.ref i1) (.ref i2)) (hTO : IsPair s.heap TO u v)
    (h1 : SqI k1 s.heap i1 a n) (h2 : SqI k2 s.heap i2 b n) (ha : SqH k1 s.heap a xs) (hb : SqH k2 s.heap b ys) (hx : xs[n]? = some x) (hy : ys[n]? = some y)
    (q : ∀ h', IsZip h' z TI TO (rawInt s.heap.objs.size) → IsPair h' TO x y → SqI k1 h' i1 a (n + 1) → SqI k2 h' i2 b (n + 1) → IsPair h' s.heap.objs.size x y →
      (∀ c o, c ≠ z → c ≠ TO → c ≠ i1 → c ≠ i2 → s.heap.get? c = some o → h'.get? c = some o) → Q (.ref s.heap.objs.size) { s with heap := h' }) :
    wpAny (model prog w) A (Builtin.«zip.__next__» ⟨[.ref z], []⟩) (fun fin s' => ∃ v, fin = .done (.ret v) ∧ Q v s') E s := by
  refine wpAny_bind (m := field (.ref z) 2) (wpAny_field hz rfl (x := .bool false) rfl ?_)
  refine wpAny_bind (m := field (.ref z) 3) (wpAny_field hz rfl (x := .ref TI) rfl (wpAny_bind (wpAny_seqItems hTI rfl ?_)))
  refine wpAny_bind (m := Builtin.SmallTypes.ownedTupleIsFree (.ref z)) ?_
  unfold Builtin.SmallTypes.ownedTupleIsFree
  refine wpAny_bind (wpAny_field hz rfl (x := .none) rfl (wpAny_pure ?_))
  simp only [if_true]
  refine wpAny_bind (wpAny_rule (wpAny_bind (wpAny_field hz rfl (x := .ref TO) rfl (wpAny_bind (wpAny_setField_rec hz (by simp) fun g1 z1 e1 => ?_)))))
  replace z1 : IsZip g1 z TI TO .ellipsis := z1
  refine wpAny_bind ?_
  simp only [List.zipIdx_cons, List.zipIdx_nil, List.forIn_cons, List.forIn_nil]
  -- the first one's item
  refine wpAny_bind (wpAny_bind (wpAny_onRaise (wpAny_bind (m := Builtin.SmallTypes.nextOf (.ref i1)) ?_)))
  refine sq_next (h1.keep fun o => e1.extBut _ o D.i1z) (ha.keep fun o => e1.extBut _ o D.l1z) hx fun g2 p2 e2 => wpAny_pure ?_
  have t2 : IsPair g2 TO u v := e2.extBut _ _ D.TOi1 (e1.extBut _ _ D.TOz hTO)
  refine wpAny_bind (wpAny_seqItems t2 rfl (wpAny_bind (wpAny_updateSeq_pair t2 fun g3 t3 e3 => wpAny_bind (wpAny_letGo (wpAny_pure ?_)))))
  replace t3 : IsPair g3 TO x v := t3
  -- the second one's
  refine wpAny_bind (wpAny_bind (wpAny_onRaise (wpAny_bind (m := Builtin.SmallTypes.nextOf (.ref i2)) ?_)))
  have up3 : ∀ c o, c ≠ z → c ≠ TO → c ≠ i1 → s.heap.get? c = some o → g3.get? c = some o := fun c o c1 c2 c3 e => e3.extBut _ _ c2 (e2.extBut _ _ c3 (e1.extBut _ _ c1 e))
  refine sq_next (h2.keep fun o => up3 _ o D.i2z D.TOi2.symm D.i12.symm) (hb.keep fun o => up3 _ o D.l2z D.l2TO D.l2i1) hy fun g4 p4 e4 => wpAny_pure ?_
  have t4 : IsPair g4 TO x v := e4.extBut _ _ D.TOi2 t3
  refine wpAny_bind (wpAny_seqItems t4 rfl (wpAny_bind (wpAny_updateSeq_pair t4 fun g5 t5 e5 => wpAny_bind (wpAny_letGo (wpAny_pure (wpAny_pure ?_))))))
  replace t5 : IsPair g5 TO x y := t5
  refine wpAny_bind (wpAny_seqItems t5 rfl (wpAny_bind (wpAny_newTuple ?_)))
  have sz : g5.objs.size = s.heap.objs.size := by rw [e5.1, e4.1, e3.1, e2.1, e1.1]
  have up5 : ∀ c o, c ≠ z → c ≠ TO → c ≠ i1 → c ≠ i2 → s.heap.get? c = some o → g5.get? c = some o := fun c o c1 c2 c3 c4 e => e5.extBut _ _ c2 (e4.extBut _ _ c4 (up3 c o c1 c2 c3 e))
  have z5 : IsZip g5 z TI TO .ellipsis := e5.extBut _ _ D.TOz.symm (e4.extBut _ _ D.i2z.symm (e3.extBut _ _ D.TOz.symm (e2.extBut _ _ D.i1z.symm z1)))
  have a5 : SqI k1 g5 i1 a (n + 1) := p2.keep fun o e => e5.extBut _ _ D.TOi1.symm (e4.extBut _ _ D.i12 (e3.extBut _ _ D.TOi1.symm e))
  have b5 : SqI k2 g5 i2 b (n + 1) := p4.keep fun o e => e5.extBut _ _ D.TOi2.symm e
  refine wpAny_bind (m := Builtin.SmallTypes.ownedTupleHandOut (.ref z) (.ref g5.objs.size)) ?_
  unfold Builtin.SmallTypes.ownedTupleHandOut
  have z6 : IsZip (g5.push { cls := .type "tuple", data := .seq #[x, y] }) z TI TO .ellipsis := Heap.get?_push_of_some _ z5
  refine wpAny_bind (wpAny_setField_rec z6 (by simp) fun g7 z7 e7 => ?_)
  replace z7 : IsZip g7 z TI TO (rawInt g5.objs.size) := z7
  refine wpAny_setField_rec z7 (by simp) fun g8 z8 e8 => ?_
  replace z8 : IsZip g8 z TI TO (rawInt g5.objs.size) := z8
  have up8 : ∀ c o, c ≠ z → g5.get? c = some o → g8.get? c = some o := fun c o c1 e => e8.extBut _ _ c1 (e7.extBut _ _ c1 (Heap.get?_push_of_some _ e))
  have zl : g5.objs.size ≠ z := Nat.ne_of_gt (Heap.lt_size z5)
  have t8 : IsPair g8 g5.objs.size x y := e8.extBut _ _ zl (e7.extBut _ _ zl (Heap.get?_push_size _ rfl))
  rw [sz] at z8 t8
  refine wpAny_pure ⟨_, rfl, ?_⟩
  show Q (.ref g5.objs.size) _
  rw [sz]
  exact q g8 z8 (up8 _ _ D.TOz t5) (a5.keep fun o => up8 _ o D.i1z) (b5.keep fun o => up8 _ o D.i2z) t8 fun c o c1 c2 c3 c4 e => up8 c o c1 (up5 c o c1 c2 c3 c4 e)
theorem zipX_end {u v : Value} {Q : Fin → Shared → Prop} (hh : A.handled = none) (D : ZipApart z TI TO i1 i2 a b) (hz : IsZip s.heap z TI TO .none) (hTI : IsPair s.heap TI (.ref i1) (.ref i2)) (hTO : IsPair s.heap TO u v)
    (h1 : SqI k1 s.heap i1 a n) (h2 : SqI k2 s.heap i2 b n) (ha : SqH k1 s.heap a xs) (hb : SqH k2 s.heap b ys) (hend : xs[n]? = none ∨ ys[n]? = none)
    (q : ∀ h' e, (∀ c o, c ≠ z → c ≠ TO → c ≠ i1 → c ≠ i2 → s.heap.get? c = some o → h'.get? c = some o) → (∃ o, h'.get? e = some o ∧ o.cls = .type "StopIteration") → E (.ref e) { s with heap := h' }) :
    wpAny (model prog w) A (Builtin.«zip.__next__» ⟨[.ref z], []⟩) Q E s := by
  refine wpAny_bind (m := field (.ref z) 2) (wpAny_field hz rfl (x := .bool false) rfl ?_)
  refine wpAny_bind (m := field (.ref z) 3) (wpAny_field hz rfl (x := .ref TI) rfl (wpAny_bind (wpAny_seqItems hTI rfl ?_)))
  refine wpAny_bind (m := Builtin.SmallTypes.ownedTupleIsFree (.ref z)) ?_
  unfold Builtin.SmallTypes.ownedTupleIsFree
  refine wpAny_bind (wpAny_field hz rfl (x := .none) rfl (wpAny_pure ?_))
  simp only [if_true]
  refine wpAny_bind (wpAny_rule (wpAny_bind (wpAny_field hz rfl (x := .ref TO) rfl (wpAny_bind (wpAny_setField_rec hz (by simp) fun g1 z1 e1 => ?_)))))
  replace z1 : IsZip g1 z TI TO .ellipsis := z1
  refine wpAny_bind ?_
  simp only [List.zipIdx_cons, List.zipIdx_nil, List.forIn_cons, List.forIn_nil]
  refine wpAny_bind (wpAny_bind (wpAny_onRaise (wpAny_bind (m := Builtin.SmallTypes.nextOf (.ref i1)) ?_)))
  have h1' := h1.keep fun o => e1.extBut _ o D.i1z
  have ha' := ha.keep fun o => e1.extBut _ o D.l1z
  -- what happens where an iterator is at its end: the zip's record is written once more
  have fin : ∀ (g : Heap) (e : Addr), IsZip g z TI TO .ellipsis → (∀ c o, c ≠ z → c ≠ TO → c ≠ i1 → c ≠ i2 → s.heap.get? c = some o → g.get? c = some o) → (∃ o, g.get? e = some o ∧ o.cls = .type "StopIteration") →
      wpAny (model prog w) A (setField (.ref z) 0 .none) (fun _ s' => E (.ref e) s') E { s with heap := g } := fun g e zg up he => by
    obtain ⟨oe, ho, hc⟩ := he
    have hez : e ≠ z := fun r => by subst r; rw [zg] at ho; cases ho; simp at hc
    exact wpAny_setField_rec zg (by simp) fun g' _ e' => q g' e (fun c o c1 c2 c3 c4 r => e'.extBut _ _ c1 (up c o c1 c2 c3 c4 r)) ⟨oe, e'.extBut _ _ hez ho, hc⟩
  cases hx : xs[n]? with
  | none =>
    refine sq_next_end hh h1' ha' hx fun g2 e e2 he => ?_
    exact fin g2 e (e2 _ _ D.i1z.symm z1) (fun c o c1 _ c3 _ r => e2 _ _ c3 (e1.extBut _ _ c1 r)) he
  | some x =>
    have hy : ys[n]? = none := by rcases hend with h | h; rw [hx] at h; cases h; exact h
    refine sq_next h1' ha' hx fun g2 p2 e2 => wpAny_pure ?_
    have t2 : IsPair g2 TO u v := e2.extBut _ _ D.TOi1 (e1.extBut _ _ D.TOz hTO)
    refine wpAny_bind (wpAny_seqItems t2 rfl (wpAny_bind (wpAny_updateSeq_pair t2 fun g3 t3 e3 => wpAny_bind (wpAny_letGo (wpAny_pure ?_)))))
    refine wpAny_bind (wpAny_bind (wpAny_onRaise (wpAny_bind (m := Builtin.SmallTypes.nextOf (.ref i2)) ?_)))
    have up3 : ∀ c o, c ≠ z → c ≠ TO → c ≠ i1 → s.heap.get? c = some o → g3.get? c = some o := fun c o c1 c2 c3 e => e3.extBut _ _ c2 (e2.extBut _ _ c3 (e1.extBut _ _ c1 e))
    refine sq_next_end hh (h2.keep fun o => up3 _ o D.i2z D.TOi2.symm D.i12.symm) (hb.keep fun o => up3 _ o D.l2z D.l2TO D.l2i1) hy fun g4 e e4 he => ?_
    exact fin g4 e (e4 _ _ D.i2z.symm (e3.extBut _ _ D.TOz.symm (e2.extBut _ _ D.i1z.symm z1))) (fun c o c1 c2 c3 c4 r => e4 _ _ c4 (up3 c o c1 c2 c3 r)) he
/-- the heap behind zip(a, b) -/
def zipHX (k1 k2 : Bool) (h : Heap) (a b : Addr) : Heap :=
  ((((h.push (itO k1 a)).push (itO k2 b)).push { cls := .type "tuple", data := .seq #[.ref h.objs.size, .ref (h.objs.size + 1)] }).push { cls := .type "tuple", data := .seq #[.none, .none] }).push
    { cls := .type "zip", data := .fields #[.none, .bool false, .bool false, .ref (h.objs.size + 2), .ref (h.objs.size + 3)] }
theorem meets_zipX (k1 k2 : Bool) (a b : Addr) (xs ys : Array Value) :
    Meets (Builtin.«zip.__new__» ⟨[.type "zip", .ref a, .ref b], []⟩) (fun _ R s => SqH k1 s.heap a xs ∧ SqH k2 s.heap b ys ∧ R (.ok (.ret (.ref (s.heap.objs.size + 4)))) { s with heap := zipHX k1 k2 s.heap a b }) :=
  .of_wp fun prog w A R s h => by
    obtain ⟨hp, g, d, tk, os⟩ := s
    obtain ⟨ha, hb, h⟩ := h
    have hsub := sub_zip
    have hA : SqH k1 (Shared.heap ⟨hp, g, d, tk, os⟩) a xs := ha
    have hB : SqH k2 (Shared.heap ⟨hp.push (itO k1 a), g, d, tk, os⟩) b ys := hb.keep fun o e => Heap.get?_push_of_some _ e
    wp_walk using sq_iter hA, sq_iter hB
    refine ⟨_, rfl, ?_⟩
    have s1 : (hp.push (itO k1 a)).objs.size = hp.objs.size + 1 := Heap.size_push ..
    have s2 : ((hp.push (itO k1 a)).push (itO k2 b)).objs.size = hp.objs.size + 2 := by rw [Heap.size_push, s1]
    simp only [Heap.size_push]
    exact h
theorem call_zipX {Q : Value → Shared → Prop} (ha : SqH k1 s.heap a xs) (hb : SqH k2 s.heap b ys)
    (h : ∀ h', IsZip h' (s.heap.objs.size + 4) (s.heap.objs.size + 2) (s.heap.objs.size + 3) .none → IsPair h' (s.heap.objs.size + 2) (.ref s.heap.objs.size) (.ref (s.heap.objs.size + 1)) → IsPair h' (s.heap.objs.size + 3) .none .none →
      SqI k1 h' s.heap.objs.size a 0 → SqI k2 h' (s.heap.objs.size + 1) b 0 → (∀ c o, s.heap.get? c = some o → h'.get? c = some o) → Q (.ref (s.heap.objs.size + 4)) { s with heap := h' }) :
    wpAny (model prog w) A (call (.type "zip") [.ref a, .ref b]) Q E s := by
  refine callType_new F.called_zip (by decide) (F.typeCall_zip_2 _ _) (F.newCall_zip_2 _ _) (fun obj => F.args_object_init_3 obj _ _) F.entry_zip_new (meets_zipX k1 k2 a b xs ys) ⟨ha, hb, ?_⟩
  have s1 : (s.heap.push (itO k1 a)).objs.size = s.heap.objs.size + 1 := Heap.size_push ..
  have s2 : ((s.heap.push (itO k1 a)).push (itO k2 b)).objs.size = s.heap.objs.size + 2 := by rw [Heap.size_push, s1]
  have s3 : (((s.heap.push (itO k1 a)).push (itO k2 b)).push { cls := .type "tuple", data := .seq #[.ref s.heap.objs.size, .ref (s.heap.objs.size + 1)] }).objs.size = s.heap.objs.size + 3 := by rw [Heap.size_push, s2]
  have s4 : ((((s.heap.push (itO k1 a)).push (itO k2 b)).push { cls := .type "tuple", data := .seq #[.ref s.heap.objs.size, .ref (s.heap.objs.size + 1)] }).push { cls := .type "tuple", data := .seq #[.none, .none] }).objs.size = s.heap.objs.size + 4 := by rw [Heap.size_push, s3]
  have g4 : IsZip (zipHX k1 k2 s.heap a b) (s.heap.objs.size + 4) (s.heap.objs.size + 2) (s.heap.objs.size + 3) .none := by
    have e := Heap.get?_push_size ((((s.heap.push (itO k1 a)).push (itO k2 b)).push { cls := .type "tuple", data := .seq #[.ref s.heap.objs.size, .ref (s.heap.objs.size + 1)] }).push { cls := .type "tuple", data := .seq #[.none, .none] }) (o := { cls := .type "zip", data := .fields #[.none, .bool false, .bool false, .ref (s.heap.objs.size + 2), .ref (s.heap.objs.size + 3)] }) rfl
    rw [s4] at e; exact e
  have g3 : IsPair (zipHX k1 k2 s.heap a b) (s.heap.objs.size + 3) .none .none := by
    have e := Heap.get?_push_of_some { cls := .type "zip", data := .fields #[.none, .bool false, .bool false, .ref (s.heap.objs.size + 2), .ref (s.heap.objs.size + 3)] } (Heap.get?_push_size (((s.heap.push (itO k1 a)).push (itO k2 b)).push { cls := .type "tuple", data := .seq #[.ref s.heap.objs.size, .ref (s.heap.objs.size + 1)] }) (o := { cls := .type "tuple", data := .seq #[.none, .none] }) rfl)
    rw [s3] at e; exact e
  have g2 : IsPair (zipHX k1 k2 s.heap a b) (s.heap.objs.size + 2) (.ref s.heap.objs.size) (.ref (s.heap.objs.size + 1)) := by
    have e := Heap.get?_push_of_some { cls := .type "zip", data := .fields #[.none, .bool false, .bool false, .ref (s.heap.objs.size + 2), .ref (s.heap.objs.size + 3)] } (Heap.get?_push_of_some { cls := .type "tuple", data := .seq #[.none, .none] } (Heap.get?_push_size ((s.heap.push (itO k1 a)).push (itO k2 b)) (o := { cls := .type "tuple", data := .seq #[.ref s.heap.objs.size, .ref (s.heap.objs.size + 1)] }) rfl))
    rw [s2] at e; exact e
  have g1 : (zipHX k1 k2 s.heap a b).get? (s.heap.objs.size + 1) = some (itO k2 b) := by
    have e := Heap.get?_push_size (s.heap.push (itO k1 a)) (o := itO k2 b) (by cases k2 <;> rfl)
    rw [s1] at e
    exact Heap.get?_push_of_some _ (Heap.get?_push_of_some _ (Heap.get?_push_of_some _ e))
  have g0 : (zipHX k1 k2 s.heap a b).get? s.heap.objs.size = some (itO k1 a) := Heap.get?_push_of_some _ (Heap.get?_push_of_some _ (Heap.get?_push_of_some _ (Heap.get?_push_of_some _ (Heap.get?_push_size _ (by cases k1 <;> rfl)))))
  exact ⟨⟨_, g4, rfl⟩, h _ g4 g2 g3 (SqI.new g0) (SqI.new g1) fun c o e => Heap.get?_push_of_some _ (Heap.get?_push_of_some _ (Heap.get?_push_of_some _ (Heap.get?_push_of_some _ (Heap.get?_push_of_some _ e))))⟩
end
def ItzX (k1 k2 : Bool) (K : PySem.W.Frag) (a b : Addr) (xs ys : List V) : It :=
  ⟨fun i H => SqX k1 K H a xs ∧ SqX k2 K H b ys ∧ i < xs.length ∧ i < ys.length, fun i H v H' => ∃ T x y, v = .ref T ∧ H T = none ∧ H' = upd H T (.tup [x, y]) ∧ xs[i]? = some x ∧ ys[i]? = some y,
    fun i H => SqX k1 K H a xs ∧ SqX k2 K H b ys ∧ (xs.length ≤ i ∨ ys.length ≤ i)⟩
theorem turn_zipX {P : Program} {w : World} {K : PySem.W.Frag} {elts : List Expr} {kk : Nat} {tpos : Pos} {k1 k2 : Bool} {a b z TI TO i1 i2 : Addr} (xs ys : List V) (D : ZipApart z TI TO i1 i2 a b) :
    Turn P w K (.Tuple elts kk tpos) (ItzX k1 k2 K a b xs ys) [z, TI, TO, i1, i2] z (fun i h => IsZip h z TI TO .none ∧ IsPair h TI (.ref i1) (.ref i2) ∧ (∃ x y, IsPair h TO x y) ∧ SqI k1 h i1 a i ∧ SqI k2 h i2 b i) where
  mem := by simp
  obj := fun i h st c hc => by
    obtain ⟨hz, hTI, ⟨x, y, hTO⟩, h1, h2⟩ := st
    have e' : c = z ∨ c = TI ∨ c = TO ∨ c = i1 ∨ c = i2 := by simpa using hc
    rcases e' with q | q | q | q | q
    · rw [q]; exact ⟨_, hz, fun v q => nomatch q⟩
    · rw [q]; exact ⟨_, hTI, fun v q => nomatch q⟩
    · rw [q]; exact ⟨_, hTO, fun v q => nomatch q⟩
    · rw [q]; exact h1.obj
    · rw [q]; exact h2.obj
  keep := fun i h h' st k => by
    obtain ⟨hz, hTI, ⟨x, y, hTO⟩, h1, h2⟩ := st
    exact ⟨k z (by simp) _ hz, k TI (by simp) _ hTI, ⟨x, y, k TO (by simp) _ hTO⟩, h1.keep fun o q => k i1 (by simp) o q, h2.keep fun o q => k i2 (by simp) o q⟩
  item := by
    intro X hP hw hK hc i pins s σ H E I hf st hg
    subst hP hw hK
    obtain ⟨hz, hTI, ⟨x0, y0, hTO⟩, h1, h2⟩ := st
    obtain ⟨hqx, hqy, lx, ly⟩ := hg
    obtain ⟨x, hx⟩ : ∃ x, xs[i]? = some x := ⟨xs[i], by simp [lx]⟩
    obtain ⟨y, hy⟩ : ∃ y, ys[i]? = some y := ⟨ys[i], by simp [ly]⟩
    obtain ⟨its, rv, p, _⟩ := sqx I hqx
    obtain ⟨its2, rv2, p2, _⟩ := sqx I hqy
    obtain ⟨u, hu, ru⟩ := rv.get hx
    obtain ⟨u2, hu2, ru2⟩ := rv2.get hy
    have hzl : z < s.heap.objs.size := Heap.lt_size hz
    have hTz : s.TypeIs (.ref z) "zip" := ⟨_, hz, rfl⟩
    unfold pyNext
    refine wpAny_bind (wpAny_attempt (wpAny_callSpecial?_slot (name := Str.ofString "__next__") hTz F.slot_zip_next (wpAny_call_entry F.slot_zip_next hTz F.entry_zip_next ?_ (F.args_zip_next_1 _))))
    refine zipX_item D hz hTI hTO h1 h2 p p2 (x := u) (y := u2) (by simpa using hu) (by simpa using hu2) fun h' z' TO' h1' h2' hT hk => wpAny_pure ?_
    refine ⟨_, rfl, wpAny_letOwnedTupleGo_zip (s := { s with heap := h' }) z' fun h'' z'' sb => ?_⟩
    have hT2 : h''.get? s.heap.objs.size = some { cls := .type "tuple", data := .seq #[u, u2] } := (sb.2 _ (Nat.ne_of_gt hzl)).trans hT
    have new : ObjOk X.prog X.w (upd H s.heap.objs.size (.tup [x, y])) h'' s.heap.objs.size (.tup [x, y]) :=
      ⟨by show 2 ≤ sizeLine; decide, [u, u2], .cons ru (.cons ru2 .nil), ⟨_, hT2, ⟨rfl, _, rfl⟩, rfl⟩⟩
    have I1 : Inv X pins σ (upd H s.heap.objs.size (.tup [x, y])) { s with heap := h'' } :=
      I.turnedNew (t' := s.toks) (ch := [z, TI, TO, i1, i2]) (fun c o hb q => (sb.2 c (fun q' => hb (by simp [q']))).trans (hk c o (fun q' => hb (by simp [q'])) (fun q' => hb (by simp [q'])) (fun q' => hb (by simp [q'])) (fun q' => hb (by simp [q'])) q)) hf (Nat.le_refl _) new
    refine ⟨.ref s.heap.objs.size, _, I1, rfl, ⟨_, x, y, rfl, I.hok.fresh (Nat.le_refl _), rfl, hx, hy⟩, ⟨z'', ?_, ⟨u, u2, ?_⟩, ?_, ?_⟩, fun c hcm => ?_⟩
    · exact (sb.2 _ D.TIz).trans (hk _ _ D.TIz D.TITO D.TIi1 D.TIi2 hTI)
    · exact (sb.2 _ D.TOz).trans TO'
    · exact h1'.keep fun o q => (sb.2 _ D.i1z).trans q
    · exact h2'.keep fun o q => (sb.2 _ D.i2z).trans q
    · have hlt : c < s.heap.objs.size := by
        have e' : c = z ∨ c = TI ∨ c = TO ∨ c = i1 ∨ c = i2 := by simpa using hcm
        rcases e' with q | q | q | q | q
        · rw [q]; exact hzl
        · rw [q]; exact Heap.lt_size hTI
        · rw [q]; exact Heap.lt_size hTO
        · rw [q]; exact h1.lt
        · rw [q]; exact h2.lt
      rw [upd_ne (Nat.ne_of_lt hlt)]
      exact (hf c hcm).1
  done := by
    intro X hP hw hK hc i pins s σ H E I hf st hg
    subst hP hw hK
    obtain ⟨hz, hTI, ⟨x0, y0, hTO⟩, h1, h2⟩ := st
    obtain ⟨hqx, hqy, hend⟩ := hg
    obtain ⟨its, rv, p, _⟩ := sqx I hqx
    obtain ⟨its2, rv2, p2, _⟩ := sqx I hqy
    have l1 := rv.length
    have l2 := rv2.length
    have he : its.toArray[i]? = none ∨ its2.toArray[i]? = none := by
      rcases hend with q | q
      · exact .inl (by simp; omega)
      · exact .inr (by simp; omega)
    have hTz : s.TypeIs (.ref z) "zip" := ⟨_, hz, rfl⟩
    have hh : X.A.in1.handled = none := I.ok.hd hc
    unfold pyNext
    refine wpAny_bind (wpAny_attempt (wpAny_callSpecial?_slot (name := Str.ofString "__next__") hTz F.slot_zip_next (wpAny_call_entry F.slot_zip_next hTz F.entry_zip_next ?_ (F.args_zip_next_1 _))))
    refine zipX_end hh D hz hTI hTO h1 h2 p p2 he fun h' e hk hx => ?_
    obtain ⟨o, ho, hcl⟩ := hx
    refine wpAny_bind (wpAny_isInstance (T := "StopIteration") (b := true) ⟨o, ho, hcl⟩ isSubtype_stop (wpAny_pure ⟨rfl, I.turnedL (t' := s.toks) (ch := [z, TI, TO, i1, i2]) (fun c o hb q =>
      hk c o (fun q' => hb (by simp [q'])) (fun q' => hb (by simp [q'])) (fun q' => hb (by simp [q'])) (fun q' => hb (by simp [q'])) q) hf⟩))
  self := fun A i s Q E st h => wpAny_pyIter_zip st.1 h
def iZipX (K : PySem.W.Frag) (ta : TA) : TI := fun σ H R => ta σ H fun vs H1 => ∃ k1 k2 a b xs ys, vs = [.ref a, .ref b] ∧ SqX k1 K H1 a xs ∧ SqX k2 K H1 b ys ∧ R (ItzX k1 k2 K a b xs ys) H1
theorem pi_zipX {X : Cx} {e e2 : Expr} {ta : TA} {p pos tpos : Pos} {elts : List Expr} {kk : Nat} (hg : Gl X "zip") (hm : X.mg "zip" = none) (ha : PA X [e, e2] ta)
    (hs : starEach [e, e2] X.env = (false, eval e X.env) :: starEach [e2] X.env := by rfl) (hpl : (backTo pos (starEach [e2] X.env)).any (·.1) = false := by rfl) :
    PI X (.Tuple elts kk tpos) (.Call (.Name "zip" p) [e, e2] [] pos) (iZipX X.K ta) := by
  intro pins s σ H R I h
  refine Call_ (ld_blt I hg hm boot_zip5 (PyProof.Rows.callWith_type1 (thn (ha pos pins s σ H _ I h) fun us s1 ⟨vs, H1, I1, r1, q1⟩ => ?_) hs hpl))
  obtain ⟨k1, k2, a, b, xs, ys, ex, hqx, hqy, q⟩ := q1
  subst ex
  cases r1 with
  | cons r rr =>
    cases rr with
    | cons r' rr =>
      cases rr
      cases r
      cases r'
      obtain ⟨its, rv, p1, _⟩ := sqx I1 hqx
      obtain ⟨its2, rv2, p2, _⟩ := sqx I1 hqy
      refine call_zipX p1 p2 fun h' hz hTI hTO h1 h2 hk => wpAny_pyIter_zip hz ?_
      have I2 : Inv X pins σ H1 { s1 with heap := h' } := I1.kept (t' := s1.toks) hk
      refine ⟨s1.heap.objs.size + 4, [s1.heap.objs.size + 4, s1.heap.objs.size + 2, s1.heap.objs.size + 3, s1.heap.objs.size, s1.heap.objs.size + 1], _, _, H1, rfl, I2, turn_zipX xs ys (PySem.W.ktu_apart s1.heap.objs.size a b p1.lt p2.lt), ⟨hz, hTI, ⟨_, _, hTO⟩, h1, h2⟩, fun c hcm => ?_, q⟩
      have e' : c = s1.heap.objs.size + 4 ∨ c = s1.heap.objs.size + 2 ∨ c = s1.heap.objs.size + 3 ∨ c = s1.heap.objs.size ∨ c = s1.heap.objs.size + 1 := by simpa using hcm
      have hle : s1.heap.objs.size ≤ c := by
        rcases e' with z | z | z | z | z <;> rw [z] <;> first | exact Nat.le_refl _ | exact Nat.le_add_right _ _
      exact I1.fpOk hle (I1.hok.fresh hle)
/-- a comprehension over a zip -/
theorem lc_zipX {K : PySem.W.Frag} {k1 k2 : Bool} {a b : Addr} {xs ys : List V} {g : TG} {tt : TT} {te : TE} {vs : List Nat} {σ : L2.St} {H1 : Hp} {D : Addr} {Qd : Hp → Prop} (n : Nat) (hn : n = min xs.length ys.length) (Pv : Nat → Hp → Prop) (h0 : Pv 0 (upd H1 D (.lst []))) (hl : ∀ i H, i ≤ n → Pv i H → SqX k1 K H a xs ∧ SqX k2 K H b ys)
    (hs : ∀ i x y T H, xs[i]? = some x → ys[i]? = some y → H T = none → Pv i H → g (.ref T) (wipe σ vs) (upd H T (.tup [x, y])) fun σ2 H2 => wipe σ2 vs = wipe σ vs ∧ tt σ2 H2 fun b H3 =>
      if b = true then te σ2 H3 fun y H4 => ∃ acc, H4 D = some (.lst acc) ∧ acc.length < sizeLine ∧ Pv (i + 1) (upd H4 D (.lst (acc ++ [y]))) else Pv (i + 1) H3) (hd : ∀ H, Pv n H → Qd H) :
    ∃ W : Nat → Nat → Hp → Prop, (∃ m, W 0 m (upd H1 D (.lst []))) ∧ ∀ i m H, W i m H →
      ((ItzX k1 k2 K a b xs ys).stop i H ∧ Qd H) ∨ ((ItzX k1 k2 K a b xs ys).go i H ∧ ∃ Nx : Hp → Prop, (∀ H', Nx H' → ∃ m', m' < m ∧ W (i + 1) m' H') ∧ ∀ x H', (ItzX k1 k2 K a b xs ys).yld i H x H' → g x (wipe σ vs) H' fun σ2 H2 => wipe σ2 vs = wipe σ vs ∧ tt σ2 H2 fun b H3 =>
        if b = true then te σ2 H3 fun y H4 => ∃ acc, H4 D = some (.lst acc) ∧ acc.length < sizeLine ∧ Nx (upd H4 D (.lst (acc ++ [y]))) else Nx H3) := by
  refine ⟨fun i m H => m = n - i ∧ i ≤ n ∧ Pv i H, ⟨n, by simp, Nat.zero_le _, h0⟩, ?_⟩
  rintro i m H ⟨rfl, hi, p⟩
  obtain ⟨q1, q2⟩ := hl i H hi p
  by_cases hlt : i < n
  · refine .inr ⟨⟨q1, q2, by omega, by omega⟩, Pv (i + 1), fun H' p' => ⟨n - (i + 1), by omega, rfl, hlt, p'⟩, fun v H' y => ?_⟩
    obtain ⟨T, x, y, rfl, hT, rfl, hx, hy⟩ := y
    exact hs i x y T H hx hy hT p
  · have e : i = n := by omega
    subst e
    exact .inl ⟨⟨q1, q2, by omega⟩, hd H p⟩
end L3
set_option Elab.async false
set_option linter.all false
set_option maxRecDepth 100000
namespace L3
open PySem PySem.Spec PyProof.Rows L2
theorem noFill_tuple_mul : fillsNumberSlot (.type "tuple") "mul" = pure false :=
  PySem.fillsNumberSlot_seq (id := "tuple.__mul__") (r := some (.builtin "tuple.__rmul__")) F.slot_tuple_mul.lookup (by decide +kernel) F.slot_tuple_rmul.lookup (by decide +kernel)
theorem repeat_tuple : seqRepeat? (.type "tuple") = pure (some (.builtin "tuple.__mul__")) := by
  unfold seqRepeat?
  rw [PySem.seqSlot_of (T := "tuple") (name := "__mul__") (id := "tuple.__mul__") F.slot_tuple_mul.lookup (by decide +kernel), PySem.seqSlot_of (T := "tuple") (name := "__rmul__") (id := "tuple.__rmul__") F.slot_tuple_rmul.lookup (by decide +kernel)]
  rfl
theorem int_rmul_tuple (a : Int) (t : Tok) (l : Addr) (items : Array Value) (n : Nat) (dct : Option Addr) (sl : Array (Option Value)) :
    Meets (Builtin.«int.__rmul__» ⟨[.int a t, .ref l], []⟩) (fun _ R s => s.heap.get? l = some { cls := .type "tuple", dict := dct, data := .seq items n, slots := sl } ∧ R (.ok (.ret Value.notImplemented)) s) :=
  .of_wp fun prog w A R s h => by
    obtain ⟨hp, g, d, tk, os⟩ := s
    obtain ⟨hl, h⟩ := h
    wp_walk using AutoSeq1.wpAny_loadPart' hl
    exact ⟨_, rfl, h⟩
theorem tup_items {prog : Program} {w : World} {A : Around} {E : Value → Shared → Prop} {s : Shared} {l : Addr} {items : Array Value} {Q : Array Value → Shared → Prop} (h : s.heap.IsTuple l items) (q : Q items s) : wpAny (model prog w) A (Builtin.Tuple.tupleItemsOf (.ref l)) Q E s := by
  obtain ⟨o, e, _, n, d⟩ := h
  unfold Builtin.Tuple.tupleItemsOf
  exact wpAny_bind (wpAny_seqItems e d (wpAny_pure q))
theorem tup_exact {prog : Program} {w : World} {A : Around} {E : Value → Shared → Prop} {s : Shared} {l : Addr} {items : Array Value} {Q : Bool → Shared → Prop} (h : s.heap.IsTuple l items) (q : Q true s) : wpAny (model prog w) A (Builtin.Tuple.tupleIsExact (.ref l)) Q E s := by
  unfold Builtin.Tuple.tupleIsExact
  refine wpAny_bind (wpAny_typeOf h.typeIs (wpAny_pure ?_))
  exact q
theorem tuple_mul (l : Addr) (items : Array Value) (x : Int) (u : Tok) (h1 : -(2 ^ 63) ≤ x) (h2 : x < 2 ^ 63) (hne : items.isEmpty = false) (hsz : items.size * x.toNat ≤ sizeLine) :
    Meets (Builtin.«tuple.__mul__» ⟨[.ref l, .int x u], []⟩) (fun _ R s => s.heap.IsTuple l items ∧ (x = 1 → R (.ok (.ret (.ref l))) s) ∧
      (x ≠ 1 → R (.ok (.ret (.ref s.heap.objs.size))) { s with heap := s.heap.push { cls := .type "tuple", data := .seq ((List.replicate x.toNat items).foldl (· ++ ·) #[]) } })) :=
  .of_wp fun prog w A R s h => by
    obtain ⟨hp, g, d, tk, os⟩ := s
    obtain ⟨hl, ha, hb⟩ := h
    have c0 : ¬ (decide (x < -(2 ^ 63)) || decide (x ≥ 2 ^ 63)) = true := by simp; omega
    by_cases e1 : x = 1
    · subst e1
      wp_walk using tup_items hl, tup_exact hl
      exact ⟨_, rfl, ha rfl⟩
    · have c1 : ¬ (items.isEmpty || x == 1) = true := by rw [hne]; simp; exact e1
      wp_walk using tup_items hl, tup_exact hl
      refine wpAny_ite_false (decide_eq_false c0) ?_
      wp_walk using tup_items hl, tup_exact hl
      by_cases e0 : x ≤ 0
      · have c2 : (decide (x ≤ 0) || items.isEmpty) = true := by simp [e0]
        have e : x.toNat = 0 := by omega
        have hb' := hb e1
        rw [e] at hb'
        refine wpAny_ite_true (decide_eq_true c2) ?_
        unfold Builtin.Tuple.tupleExact
        exact wpAny_bind (wpAny_newObj_type (wpAny_pure ⟨_, rfl, hb'⟩))
      · have c2 : ¬ (decide (x ≤ 0) || items.isEmpty) = true := by rw [hne]; simp; omega
        have e : ((items.size : Int) * x) = ((items.size * x.toNat : Nat) : Int) := by
          rw [Int.natCast_mul, Int.toNat_of_nonneg (by omega)]
        have sl : (sizeLine : Nat) ≤ (2 ^ 63 - 1) / 8 := by decide
        have c3 : ¬ ((items.size : Int) * x > (2 ^ 63 - 1) / 8) := by rw [e]; omega
        have c4 : ¬ Builtin.Tuple.tupleTooMany ((items.size : Int) * x) = true := by
          unfold Builtin.Tuple.tupleTooMany
          have hs2 : ((items.size * x.toNat : Nat) : Int) ≤ (sizeLine : Int) := Int.ofNat_le.mpr hsz
          rw [e]; intro hc; have := of_decide_eq_true hc; omega
        refine wpAny_ite_false (decide_eq_false c2) ?_
        refine wpAny_ite_false (decide_eq_false c3) ?_
        refine wpAny_ite_false (decide_eq_false c4) ?_
        unfold Builtin.Tuple.tupleExact
        refine wpAny_bind (wpAny_newObj_type (wpAny_pure ⟨_, rfl, hb e1⟩) ?_)
        have f0 : ∀ (m : Nat) (acc : Array Value), (List.foldl (fun x1 x2 => x1 ++ x2) acc (List.replicate m items)).size = acc.size + items.size * m := by
          intro m
          induction m with
          | zero => intro acc; simp
          | succ m ih => intro acc; rw [List.replicate_succ, List.foldl_cons, ih, Array.size_append, Nat.mul_succ]; omega
        show (List.foldl (fun x1 x2 => x1 ++ x2) #[] (List.replicate x.toNat items)).size ≤ sizeLine
        rw [f0]; simpa using hsz
theorem tuple_mul0 (l : Addr) (items : Array Value) (x : Int) (u : Tok) (h1 : -(2 ^ 63) ≤ x) (h2 : x < 2 ^ 63) (hne : items.isEmpty = true) :
    Meets (Builtin.«tuple.__mul__» ⟨[.ref l, .int x u], []⟩) (fun _ R s => s.heap.IsTuple l items ∧ R (.ok (.ret (.ref l))) s) :=
  .of_wp fun prog w A R s h => by
    obtain ⟨hp, g, d, tk, os⟩ := s
    obtain ⟨hl, ha⟩ := h
    have c0 : ¬ (decide (x < -(2 ^ 63)) || decide (x ≥ 2 ^ 63)) = true := by simp; omega
    have c1 : (items.isEmpty || x == 1) = true := by rw [hne]; rfl
    wp_walk using tup_items hl, tup_exact hl
    refine wpAny_ite_false (decide_eq_false c0) ?_
    wp_walk using tup_items hl, tup_exact hl
    exact ⟨_, rfl, ha⟩
section
variable {X : Cx}
/-- a tuple (not empty) times an int; times one it is itself -/
def rRepT (K : PySem.W.Frag) : R2 := fun x y H Q => ∃ l k xs, x = .ref l ∧ y = .int k ∧ SqT K H l xs ∧ xs ≠ [] ∧ -(2 ^ 63) ≤ k ∧ k < 2 ^ 63 ∧ xs.length * k.toNat ≤ sizeLine ∧ (k = 1 → Q (.ref l) H) ∧
  (k ≠ 1 → ∀ p, H p = none → Q (.ref p) (upd H p (.tup (List.replicate k.toNat xs).flatten)))
theorem op_repT : OpR X (binaryOp .Mult) (rRepT X.K) := by
  intro pins s σ H x y v u Q I rx ry h
  obtain ⟨l, k, xs, rfl, rfl, hq, hne, h1, h2, hz, q1, q2⟩ := h
  cases rx
  obtain ⟨t, rfl⟩ := ry
  obtain ⟨its, r, p, hsz⟩ := I.tuple hq
  have hlen := r.length
  have hni : its.toArray.isEmpty = false := by
    cases its with
    | nil => cases r; exact absurd rfl hne
    | cons _ _ => rfl
  obtain ⟨⟨c, dct, dt, sl⟩, e, hc, n, hd⟩ := id p
  replace hc : c = .type "tuple" := hc
  replace hd : dt = .seq its.toArray n := hd
  subst hc hd
  have hsz' : its.toArray.size * k.toNat ≤ sizeLine := by rw [List.size_toArray, ← hlen]; exact hz
  refine wpAny_binaryOp_repeat_ref (T := "tuple") (U := "int") (by decide) ⟨_, e, rfl⟩ (fun s' => typeIs_int s' k t) noFill_tuple_mul F.fills_int_mul F.slot_int_rmul repeat_tuple F.slot_int_index.lookup
    (call_meets F.slot_int_rmul (typeIs_int s k t) F.entry_int_rmul (F.args_int_rmul_2 _ _) (int_rmul_tuple k t l its.toArray n dct sl)
      ⟨e, rfl, ⟨_, e, rfl⟩, call_meets F.slot_tuple_mul ⟨_, e, rfl⟩ F.entry_tuple_mul (F.args_tuple_mul_2 _ _) (tuple_mul l its.toArray k t h1 h2 hni hsz') ⟨p, fun e1 => ?_, fun e1 => ?_⟩⟩)
  · exact ⟨.ref l, H, I, rfl, q1 e1⟩
  · have ef : List.foldl (fun x1 x2 => x1 ++ x2) #[] (List.replicate k.toNat its.toArray) = (List.replicate k.toNat its).flatten.toArray := by
      have := foldl_rep its k.toNat []
      rw [List.nil_append] at this
      exact this
    rw [ef]
    have I2 : Inv X pins σ (upd H s.heap.objs.size (.tup (List.replicate k.toNat xs).flatten)) { s with heap := s.heap.push { cls := .type "tuple", data := .seq (List.replicate k.toNat its).flatten.toArray } } :=
      I.laid (t' := s.toks) (fun b o e => Heap.get?_push_of_some _ e) (Nat.le_refl _) (show ObjOk X.prog X.w _ _ _ (.tup (List.replicate k.toNat xs).flatten) from ⟨by rw [len_rep, Nat.mul_comm]; exact hz, _, r.rep k.toNat, IsTupD.new _ _⟩)
    exact ⟨.ref s.heap.objs.size, _, I2, rfl, q2 e1 _ (I.hok.fresh (Nat.le_refl _))⟩
/-- the empty tuple times an int -/
def rRepT0 (K : PySem.W.Frag) : R2 := fun x y H Q => ∃ l k, x = .ref l ∧ y = .int k ∧ SqT K H l [] ∧ -(2 ^ 63) ≤ k ∧ k < 2 ^ 63 ∧ Q (.ref l) H
theorem op_repT0 : OpR X (binaryOp .Mult) (rRepT0 X.K) := by
  intro pins s σ H x y v u Q I rx ry h
  obtain ⟨l, k, rfl, rfl, hq, h1, h2, q⟩ := h
  cases rx
  obtain ⟨t, rfl⟩ := ry
  obtain ⟨its, r, p, hsz⟩ := I.tuple hq
  have hni : its.toArray.isEmpty = true := by
    cases r; rfl
  obtain ⟨⟨c, dct, dt, sl⟩, e, hc, n, hd⟩ := id p
  replace hc : c = .type "tuple" := hc
  replace hd : dt = .seq its.toArray n := hd
  subst hc hd
  refine wpAny_binaryOp_repeat_ref (T := "tuple") (U := "int") (by decide) ⟨_, e, rfl⟩ (fun s' => typeIs_int s' k t) noFill_tuple_mul F.fills_int_mul F.slot_int_rmul repeat_tuple F.slot_int_index.lookup
    (call_meets F.slot_int_rmul (typeIs_int s k t) F.entry_int_rmul (F.args_int_rmul_2 _ _) (int_rmul_tuple k t l its.toArray n dct sl)
      ⟨e, rfl, ⟨_, e, rfl⟩, call_meets F.slot_tuple_mul ⟨_, e, rfl⟩ F.entry_tuple_mul (F.args_tuple_mul_2 _ _) (tuple_mul0 l its.toArray k t h1 h2 hni) ⟨p, ?_⟩⟩)
  exact ⟨.ref l, H, I, rfl, q⟩
end
end L3
set_option Elab.async false
set_option linter.all false
set_option maxRecDepth 100000
namespace L3
open PySem PySem.Spec PyProof.Rows L2
structure Def (P : Program) (w : World) (K : PySem.W.Frag) (mg : Str → Option Value) (base : Heap) (x : Str) (k : Nat) (ps : List Str) (sp : Sp) : Prop where
  ex : ∃ (f : Addr) (fd : FuncData), FnOk P w K mg base CX0 k f fd ps sp ∧ mg x = some (.ref f) ∧ PySem.W.keepIn K (.ref f) = true ∧ Binds K fd ps []
theorem pe_def {X : Cx} {x : Str} {k : Nat} {ps : List Str} {sp : Sp} {e : Expr} {es : List Expr} {t : TA} {p pos : Pos} (D : Def X.prog X.w X.K X.mg X.base x k ps sp) (hr : Room k X.A) (hg : Gl X x) (ha : PA X (e :: es) t)
    (hdb : (x == ("__debug__" : Str)) = false := by decide) (he : starEach (e :: es) X.env = (false, eval e X.env) :: starEach es X.env := by rfl) (hpl : (backTo pos (starEach es X.env)).any (·.1) = false := by rfl) :
    PE X (.Call (.Name x p) (e :: es) [] pos) (tCall sp [] E0 t) := by
  obtain ⟨f, fd, F, m, kp, b⟩ := D.ex
  exact pe_call F hr hg m kp b .nil pass0 ha hdb he hpl
def tCut (t : TS) : TS := fun D σ H => ∃ R : L2.St → Hp → Prop, t { D with nx := R } σ H ∧ ∀ σ' H', R σ' H' → D.nx σ' H'
theorem ps_cut {X : Cx} {st : Stmt} {t : TS} (h : PS X st t) : PS X st (tCut t) := by
  intro pins s σ H D I hw
  obtain ⟨R, h1, h2⟩ := hw
  refine thn (h pins s σ H { D with nx := R } I h1) fun f s' q => ?_
  cases f with
  | next => obtain ⟨σ', H', I', r⟩ := q; exact ⟨σ', H', I', h2 _ _ r⟩
  | brk => exact q
  | cont => exact q
  | ret u => exact q
theorem iteB {b : Bool} {A B : Prop} (h : b = false) (q : B) : if b = true then A else B := by subst h; exact iteF q
theorem iteA {b : Bool} {A B : Prop} (h : b = true) (q : A) : if b = true then A else B := by subst h; exact iteT q
/-- the built-ins that no text has bound -/
structure Tn (mg : Str → Option Value) : Prop where
  list_ : mg "list" = none
  tuple_ : mg "tuple" = none
  range_ : mg "range" = none
  int_ : mg "int" = none
  bool_ : mg "bool" = none
  str_ : mg "str" = none
  len_ : mg "len" = none
  isinstance_ : mg "isinstance" = none
  all_ : mg "all" = none
  zip_ : mg "zip" = none
  enumerate_ : mg "enumerate" = none
  max_ : mg "max" = none
  min_ : mg "min" = none
  sorted_ : mg "sorted" = none
  set_ : mg "set" = none
  repr_ : mg "repr" = none
  sum_ : mg "sum" = none
  any_ : mg "any" = none
  abs_ : mg "abs" = none
  dict_ : mg "dict" = none
def Kp (j c : Addr) (H H' : Hp) : Prop := ∀ b o, H b = some o → b ≠ j → b ≠ c → H' b = some o
theorem Kp.refl {j c : Addr} (H : Hp) : Kp j c H H := fun _ _ h _ _ => h
theorem Kp.trans {j c : Addr} {H H1 H2 : Hp} (a : Kp j c H H1) (b : Kp j c H1 H2) : Kp j c H H2 := fun x o h h1 h2 => b x o (a x o h h1 h2) h1 h2
theorem Same.kp {j c : Addr} {H H' : Hp} (a : Same H H') : Kp j c H H' := fun x o h _ _ => a x o h
theorem same_upd {H : Hp} {p : Addr} {o : HO} (h : H p = none) : Same H (upd H p o) := fun b u e => by rw [upd_ne (ne_of_none e h)]; exact e
def kv (c : Addr) (r s t : Int) : List (Key × V) := [(Sum.inr "cells", .ref c), (Sum.inr "rest", .int r), (Sum.inr "seed", .int s), (Sum.inr "turn", .int t)]
theorem kv_made (c : Addr) (r s t : Int) : mergeK [] (kv c r s t) = kv c r s t := rfl
theorem jget_cells {H : Hp} {j c : Addr} {r s t : Int} (h : H j = some (.dK (kv c r s t))) : DGet H j (.str "cells") (some (.ref c)) := DGet.k (k := Sum.inr "cells") h
theorem jget_rest {H : Hp} {j c : Addr} {r s t : Int} (h : H j = some (.dK (kv c r s t))) : DGet H j (.str "rest") (some (.int r)) := DGet.k (k := Sum.inr "rest") h
theorem jget_seed {H : Hp} {j c : Addr} {r s t : Int} (h : H j = some (.dK (kv c r s t))) : DGet H j (.str "seed") (some (.int s)) := DGet.k (k := Sum.inr "seed") h
theorem jget_turn {H : Hp} {j c : Addr} {r s t : Int} (h : H j = some (.dK (kv c r s t))) : DGet H j (.str "turn") (some (.int t)) := DGet.k (k := Sum.inr "turn") h
theorem kv4 {c : Addr} {r s t : Int} : (kv c r s t).length < sizeLine := by show 4 < sizeLine; decide
theorem jput_rest {H : Hp} {j c : Addr} {r s t r' : Int} (h : H j = some (.dK (kv c r s t))) : DPut H j (.str "rest") (.int r') (upd H j (.dK (kv c r' s t))) := DPut.k (k := Sum.inr "rest") h kv4
theorem jput_seed {H : Hp} {j c : Addr} {r s t r' : Int} (h : H j = some (.dK (kv c r s t))) : DPut H j (.str "seed") (.int r') (upd H j (.dK (kv c r r' t))) := DPut.k (k := Sum.inr "seed") h kv4
theorem jput_turn {H : Hp} {j c : Addr} {r s t r' : Int} (h : H j = some (.dK (kv c r s t))) : DPut H j (.str "turn") (.int r') (upd H j (.dK (kv c r s r'))) := DPut.k (k := Sum.inr "turn") h kv4
theorem dpAll_ints {K : PySem.W.Frag} {H : Hp} : ∀ ns : List Int, DpAll K H (ns.map V.int) (ns.map PyData.int)
  | [] => .nil
  | n :: ns => .cons (.int n) (dpAll_ints ns)
structure Jar (H : Hp) (j c : Addr) : Prop where
  ex : ∃ (cells : List Int) (r s t : Int), H j = some (.dK (kv c r s t)) ∧ H c = some (.lst (cells.map V.int)) ∧ cells.length ≤ 63
end L3
set_option Elab.async false
set_option linter.all false
set_option maxRecDepth 100000
namespace L3
open PySem PySem.Spec PyProof.Rows L2
section
variable {X : Cx} {K : PySem.W.Frag}
theorem call_len_seq' (h : X.K = K) : CallR X (.builtin "len") (fun xs H Q => ∃ p ys, xs = [.ref p] ∧ (SqL K H p ys ∨ SqT K H p ys) ∧ Q (.int ys.length) H) := h ▸ call_len_seq
variable {o e : Expr} {es : List Expr} {to : TE} {t : TA} {name : Str} {apos cpos : Pos} {T id : String} {r : V → List V → Hp → VK → Prop}
theorem pe_bm' (h : X.K = K) (pa : PlainAttrs T) (slot : Slot T name id) (hty : typeOf (.builtin id) = pure (.type "method_descriptor")) (hm : MtR X id r) (ho : PE X o to) (ha : PA X (e :: es) t)
    (hbase : attributeBase o name X.env (eval o X.env) = eval o X.env := by rfl)
    (hfew : ((backTo cpos (starEach (e :: es) X.env)).all (fun x => !x.1) && (backToKw cpos (keywordEach [] X.env)).all (fun x => x.1.isSome)
      && decide ((e :: es).length + ([] : List Keyword).length + (if ([] : List Keyword).isEmpty then 0 else 1) < 30)) = true := by rfl)
    (hline : (apos.endLine == cpos.line) = true := by rfl) (hs : starEach (e :: es) X.env = (false, eval e X.env) :: starEach es X.env := by rfl) (hplain : (backTo cpos (starEach es X.env)).any (·.1) = false := by rfl) :
    PE X (.Call (.Attribute o name apos) (e :: es) [] cpos) (tBM K T r to t) := h ▸ pe_bm pa slot hty hm ho ha hbase hfew hline hs hplain
variable {tg : Expr}
theorem pg_tup' {es : List Expr} {k : Nat} {t : TGs} {n : Nat} {pos : Pos} (h : X.K = K) (hc : X.calm = true) (hg : PGs X es t)
    (hn : (assignEach es X.env).length = n := by rfl) (hst : (assignEach es X.env).findIdx? (·.1) = none := by rfl) : PG X (.Tuple es k pos) (gTup K n t) := h ▸ pg_tup hc hg hn hst
end
end L3
set_option Elab.async false
set_option linter.all false
set_option maxRecDepth 100000
namespace L3
open PySem PySem.Spec PyProof.Rows L2
section
variable {prog : Program} {w : World} {A : Around} {E : Value → Shared → Prop} {s : Shared}
end
section
variable {X : Cx} {e c : Expr} {te : TE} {pos p2 : Pos}
end
end L3
set_option Elab.async false
set_option linter.all false
set_option maxRecDepth 100000
namespace L3
open PySem PySem.Spec PyProof.Rows L2
end L3
set_option Elab.async false
set_option linter.all false
set_option maxRecDepth 100000
namespace L3
open PySem PySem.Spec PyProof.Rows L2
theorem tuple_add0 (l : Addr) (items : Array Value) (n : Nat) (d1 : Option Addr) (s1 : Array (Option Value)) (b : Addr) (items2 : Array Value) (n2 : Nat) (d2 : Option Addr) (s2 : Array (Option Value)) (hc : items.isEmpty = true) :
    Meets (Builtin.«tuple.__add__» ⟨[.ref l, .ref b], []⟩) (fun _ R s => s.heap.get? l = some { cls := .type "tuple", dict := d1, data := .seq items n, slots := s1 } ∧ s.heap.get? b = some { cls := .type "tuple", dict := d2, data := .seq items2 n2, slots := s2 } ∧ R (.ok (.ret (.ref b))) s) :=
  .of_wp fun prog w A R s h => by
    obtain ⟨hp, g, d, tk, os⟩ := s
    obtain ⟨h1, h2, h⟩ := h
    have hsub := sub_tuple_self
    wp_walk using AutoSeq1.wpAny_loadPart' h1, AutoSeq1.wpAny_loadPart' h2
    exact ⟨_, rfl, h⟩
section
variable {X : Cx}
def rCatG (K : PySem.W.Frag) : R2 := fun x y H Q => ∃ a b xs ys, x = .ref a ∧ y = .ref b ∧ SqT K H a xs ∧ SqT K H b ys ∧ xs.length + ys.length ≤ sizeLine ∧ (xs = [] → Q (.ref b) H) ∧ (xs ≠ [] → ys = [] → Q (.ref a) H) ∧
  (xs ≠ [] → ys ≠ [] → ∀ p, H p = none → Q (.ref p) (upd H p (.tup (xs ++ ys))))
theorem op_catG : OpR X (binaryOp .Add) (rCatG X.K) := by
  intro pins s σ H x y v u Q I rx ry h
  obtain ⟨a, b, xs, ys, rfl, rfl, ha, hb, hz, q0, q1, q2⟩ := h
  by_cases hx : xs = []
  · cases rx
    cases ry
    obtain ⟨its, r1, p1, _⟩ := I.tuple ha
    obtain ⟨its2, r2, p2, _⟩ := I.tuple hb
    have e0 : its = [] := r1.nil_iff.mpr hx
    obtain ⟨⟨cls, dd, data, sl⟩, ho, hc, n, hd⟩ := id p1
    obtain ⟨⟨cls2, dd2, data2, sl2⟩, ho2, hc2, n2, hd2⟩ := id p2
    simp only at hc hd hc2 hd2
    subst hc hd hc2 hd2
    exact concat_meets ⟨_, ho, rfl⟩ ⟨_, ho2, rfl⟩ noFill_tuple_add seq_tuple_add PySem.F.slot_tuple_add PySem.F.entry_tuple_add (PySem.F.args_tuple_add_2 _ _)
      (tuple_add0 a its.toArray n dd sl b its2.toArray n2 dd2 sl2 (by rw [e0]; rfl)) ⟨ho, ho2, ⟨.ref b, H, I, rfl, q0 hx⟩⟩
  · exact op_catT pins s σ H _ _ v u Q I rx ry ⟨a, b, xs, ys, rfl, rfl, ha, hb, hx, hz, q1 hx, q2 hx⟩
end
end L3
set_option Elab.async false
set_option linter.all false
set_option maxRecDepth 100000
namespace L3
open PySem PySem.Spec PyProof.Rows L2
section
variable {X : Cx}
theorem op_isB : OpR X (compareOp .Is) (fun x y H Q => ∃ c d, x = .bl c ∧ y = .bl d ∧ Q (.bl (c == d)) H) := by
  intro pins s σ H x y v u Q I rx ry h
  obtain ⟨c, d, rfl, rfl, q⟩ := h
  cases rx
  cases ry
  exact is_bool (fin_bl I q rfl)
end
theorem RgC.pos {n c : Int} (h0 : 0 ≤ n) (h1 : n < 1000) (c1 : 1 ≤ c) (c2 : c < 1000) : RgC 0 n c ((n + c - 1) / c).toNat := by
  have e := rangeSize_pos c1 h0
  have e0 : 0 ≤ (n + c - 1) / c := Int.ediv_nonneg (by omega) (by omega)
  refine ⟨by omega, by omega, ?_, by rw [e]; omega⟩
  have e1 : (n + c - 1) / c ≤ n + c - 1 := Int.ediv_le_self _ (by omega)
  have e2 : (n + c - 1) / c * c ≤ n + c - 1 := Int.ediv_mul_le _ (by omega)
  unfold Builtin.Range.small
  rw [e]
  simp only [Builtin.Range.rangeFitsLong, Bool.and_eq_true, Bool.or_eq_true, decide_eq_true_eq, beq_iff_eq, show c > 0 by omega, if_true]
  generalize (n + c - 1) / c = q at *
  omega
end L3
set_option Elab.async false
set_option linter.all false
set_option maxRecDepth 100000
namespace L3
open PySem PySem.Spec PyProof.Rows L2
structure CodeK (K : PySem.W.Frag) (cd : Value) (PT : Addr) : Prop where
  ex : ∃ (c : Addr) (od : Option Addr) (vs : Array Value) (sl : Array (Option Value)) (file : Str) (tf : Tok) (flags : Int) (tg : Tok) (inF : Bool) (text : Int) (tt : Tok), cd = .ref c ∧ K.lookup c = some ⟨.type "code", od, .fields vs, sl⟩ ∧
    vs.getD 11 .none = .ref PT ∧ vs[11]? = some (.ref PT) ∧ vs.getD 18 .none = .str file tf ∧ vs.getD 7 .none = .int flags tg ∧ vs.getD 9 .none = .bool inF ∧ vs.getD 10 .none = .int text tt ∧ c ≠ PT
theorem CodeK.at {K : PySem.W.Frag} {cd : Value} {PT : Addr} (C : CodeK K cd PT) : ∃ c, cd = .ref c ∧ c ≠ PT ∧ ∀ (h : Heap) (ps : Array Value), K.In h → h.get? PT = some { cls := .none, data := .fields ps } → TriplesOk ps.toList → h.IsCode c PT ps ∧ h.TableAt c PT ps := by
  obtain ⟨c, od, vs, sl, file, tf, flags, tg, inF, text, tt, rfl, lk, a1, a2, a3, a4, a5, a6, ne⟩ := C.ex
  exact ⟨c, rfl, ne, fun h ps X t tr => ⟨⟨_, vs, file, tf, flags, tg, inF, text, tt, _, X _ _ lk, rfl, a1, a3, a4, a5, a6, t, rfl, tr, ne⟩, ⟨_, vs, X _ _ lk, rfl, rfl, a2⟩, t⟩⟩
section
variable {X : Cx}
/-- the table has grown, everything else is kept -/
theorem Inv.grown {pins : List (Addr × Obj)} {σ : L2.St} {H : Hp} {s : Shared} {PT : Addr} {ps more : Array Value} {h' : Heap} {g' : Array GenState} {d' : Drawn} {t' : Nat} (I : Inv X pins σ H s) (hP : H PT = some (.tbl ps))
    (k : ∀ b o, b ≠ PT → s.heap.get? b = some o → h'.get? b = some o) (hT : h'.get? PT = some { cls := .none, data := .fields (ps ++ more) }) (hg : AllBare g') :
    Inv X pins σ (upd H PT (.tbl (ps ++ more))) { s with heap := h', gens := g', drawn := d', toks := t' } := by
  have ne : ∀ b, H b = none → b ≠ PT := fun b e z => by rw [z, hP] at e; cases e
  refine I.step (ch := []) (fun _ z => nomatch z) (fun b o _ _ _ e n => k b o (ne b n) e) (fun b o _ _ _ e n => ⟨o.slots, k b o (ne b n) e⟩) (fun b o _ e n => by rw [upd_ne (ne b n)]; exact n) (fun b o _ e => ?_) (fun b xs e => ?_) (fun b o u e => ?_) (fun b qs e => ?_) (fun m hm => ?_) (fun b u e => ?_) hg
  · by_cases z : b = PT
    · exact ⟨_, by rw [z]; exact hT⟩
    · exact ⟨o, k b o z e⟩
  · rw [upd_ne (ne_of e hP (by intro z; cases z))]; exact e
  · rw [upd_ne (ne_of e hP (by intro z; cases z))]; exact e
  · by_cases z : b = PT
    · subst z
      rw [hP] at e; cases e
      exact ⟨more, upd_same⟩
    · exact ⟨#[], by rw [upd_ne z, e]; simp⟩
  · obtain ⟨o, es, ep, ho, r⟩ := hm
    exact ⟨o, es, ep, k _ o (ne _ I.free) ho, r⟩
  · by_cases z : b = PT
    · subst z
      rw [upd_same] at e; cases e
      exact hT
    · rw [upd_ne z] at e
      refine (I.hok b u e).stay (fun c v hc q => k c v ?_ q) (fun c q => ?_) fun c xs q => ?_
      · rcases hc with hc | hc
        · rw [hc]; exact z
        · exact ne_of hc hP (by intro z; cases z)
      · rw [upd_ne (ne_of q hP (by intro z; cases z))]; exact q
      · rw [upd_ne (ne_of q hP (by intro z; cases z))]; exact q
end
end L3
set_option Elab.async false
set_option linter.all false
set_option maxRecDepth 100000
namespace L3
open PySem PySem.Spec PyProof.Rows L2
structure TabAt (K : PySem.W.Frag) (h : Heap) (P : Addr) : Prop where
  tab : h.get? P = some { cls := .none, data := .fields #[] }
  out : K.lookup P = none
  is : isCodeTable h P
/-- what is tracked at first -/
def OnlyT (Ts : List Addr) (H : Hp) : Prop := ∀ b, H b = none ∨ (∃ o xs, H b = some (.frz o (.lst xs))) ∨ (b ∈ Ts ∧ H b = some (.tbl #[]))
end L3
set_option Elab.async false
set_option linter.all false
set_option maxRecDepth 100000
namespace L3
open PySem PySem.Spec PyProof.Rows L2
section
variable {X : Cx}
end
end L3
set_option Elab.async false
set_option linter.all false
set_option maxRecDepth 100000
namespace L3
open PySem PySem.Spec PyProof.Rows L2
end L3
set_option Elab.async false
set_option linter.all false
set_option maxRecDepth 100000
namespace L3
open PySem PySem.Spec PyProof.Rows L2 HT
section
variable {X : Cx}
end
end L3
set_option Elab.async false
set_option linter.all false
set_option maxRecDepth 100000
namespace L3
open PySem PySem.Spec PyProof.Rows L2
section
variable {prog : Program} {w : World} {A : Around} {E : Value → Shared → Prop} {s : Shared} {l : Addr} {xs : Array (Int × Tok)} {Q : Value → Shared → Prop}
theorem max_intTup (hh : A.handled = none) (hl : s.heap.IsTuple l (intItems xs)) (hne : 0 < xs.size)
    (h : ∀ v h' tk, (intItems xs)[argBest (fun i j => decide (numAt xs i > numAt xs j)) (xs.size - 1)]? = some v → (∀ b o, s.heap.get? b = some o → h'.get? b = some o) → Q v { s with heap := h', toks := tk }) :
    wpAny (model prog w) A (call (.builtin "max") [.ref l]) Q E s := by
  have hlt : l < s.heap.objs.size := by obtain ⟨_, e, _⟩ := hl; exact Heap.lt_size e
  refine call_max_walk (wpAny_pyIter_tuple hl ?_)
  refine ⟨_, _, _, _, _, _, _, rfl, Walks.tuple (A := A.in1) hh s.heap.objs.size l (Nat.ne_of_lt hlt) (intItems xs), ⟨⟨_, Heap.get?_push_size _ rfl, rfl, rfl⟩, hl.push _⟩, ?_, by simpa [intItems] using hne, CmpOf.ints_gt (numAt xs) (fun _ _ => intItems_at), fun v h' tk hP hk => ?_⟩
  · intro b hb
    show b < (s.heap.push _).objs.size
    rw [Heap.size_push]
    rcases List.mem_cons.mp hb with rfl | hb
    · exact Nat.lt_succ_self _
    · rcases List.mem_cons.mp hb with rfl | hb
      · exact Nat.lt_succ_of_lt hlt
      · cases hb
  · exact h v h' tk (by simpa [intItems] using hP) (fun b o e => hk b o (fun hm => by
      rcases List.mem_cons.mp hm with e1 | hm
      · exact absurd (e1 ▸ Heap.lt_size e) (Nat.lt_irrefl _)
      · cases hm) (Heap.get?_push_of_some _ e))
end
section
variable {X : Cx} {K : PySem.W.Frag}
def rMaxT (K : PySem.W.Frag) : List V → Hp → VK → Prop := fun vs H Q => ∃ (a : Addr) (ns : List Int), vs = [V.ref a] ∧ SqT K H a (ns.map V.int) ∧ 0 < ns.length ∧ ∀ m, m ∈ ns → (∀ y, y ∈ ns → y ≤ m) → Q (.int m) H
theorem cr_maxT (hc : X.calm = true) : CallR X (.builtin "max") (rMaxT X.K) := by
  intro pins s σ H vs us Q I r h
  obtain ⟨a, ns, rfl, hs, hne, q⟩ := h
  obtain ⟨its, rv, hl, _⟩ := I.tuple hs
  rw [Vals.ref1 r]
  have hi := rv.ints
  obtain ⟨xs, e⟩ := hi.allInts.items
  have hn : numsOf (intItems xs).toList = ns := by rw [← e]; exact hi.numsOf
  rw [nums_intItems] at hn
  subst hn
  have hl' : s.heap.IsTuple a (intItems xs) := by rw [← e]; exact hl
  have hsz : 0 < xs.size := by simpa using hne
  refine max_intTup (I.ok.hd hc) hl' hsz fun v h' tk hv hk => ?_
  obtain ⟨t, rfl⟩ := intItems_at hv
  obtain ⟨h1, h2⟩ := argBest_gt (numAt xs) (xs.size - 1)
  refine ⟨.int _, H, I.kept hk, ⟨_, rfl⟩, q _ ?_ fun y hy => ?_⟩
  · rw [numAt_eq]; exact PySem.getD_mem (by rw [List.length_map, Array.length_toList]; omega)
  · obtain ⟨j, hj, rfl⟩ := mem_getD hy
    rw [List.length_map, Array.length_toList] at hj
    rw [← numAt_eq]; exact h2 j (by omega)
end
end L3
set_option Elab.async false
set_option linter.all false
set_option maxRecDepth 100000
namespace L3
open PySem PySem.Spec PyProof.Rows L2
def evL {α : Type} (xs : List α) (a : Nat) : List α := (List.range ((xs.length + 1 - a) / 2)).filterMap fun k => xs[a + 2 * k]?
section
variable {X : Cx} {e c : Expr} {te : TE} {pos p2 : Pos} {lo : Option Expr} {tl : TO}
theorem Vals.evL : ∀ {xs : List V} {us : List Value} (a : Nat), Vals xs us → Vals (L3.evL xs a) (L3.evL us a) := by
  intro xs us a r
  have ln := r.length
  unfold L3.evL
  rw [ln]
  generalize (us.length + 1 - a) / 2 = n
  induction n with
  | zero => exact .nil
  | succ n ih =>
    rw [List.range_succ, List.filterMap_append, List.filterMap_append]
    refine ih.append ?_
    cases hx : xs[a + 2 * n]? with
    | none =>
      have : us[a + 2 * n]? = none := by
        rw [List.getElem?_eq_none_iff] at hx ⊢; omega
      simp [hx, this]; exact .nil
    | some v =>
      obtain ⟨u, hu, rv⟩ := r.get hx
      simp [hx, hu]; exact .cons rv .nil
end
end L3
set_option Elab.async false
set_option linter.all false
set_option maxRecDepth 100000
namespace L3
open PySem PySem.Spec PyProof.Rows L2
def IsZ2 (h : Heap) (z TI TO a0 : Addr) (f1 : Bool) : Prop := h.get? z = some { cls := .type "zip", data := .fields #[rawInt (a0 : Nat), .bool f1, .bool false, .ref TI, .ref TO] }
section
variable {prog : Program} {w : World} {A : Around} {E : Value → Shared → Prop} {s : Shared} {z TI TO i1 i2 a b : Addr} {k1 k2 : Bool} {n : Nat} {xs ys : Array Value}
end
/-- the zip between two items of a list's making -/
structure ZS (h : Heap) (z TI TO i1 i2 a b : Addr) (i : Nat) : Prop where
  rc : (i = 0 ∧ IsZip h z TI TO .none) ∨ ∃ a0 f1, IsZ2 h z TI TO a0 f1 ∧ ∃ o, h.get? a0 = some o
  pI : IsPair h TI (.ref i1) (.ref i2)
  pO : ∃ x y, IsPair h TO x y
  s1 : SqI false h i1 a i
  s2 : SqI false h i2 b i
theorem ZS.zip {h : Heap} {z TI TO i1 i2 a b : Addr} {i : Nat} (Z : ZS h z TI TO i1 i2 a b i) : ∃ o, h.get? z = some o ∧ o.cls = .type "zip" := by
  rcases Z.rc with ⟨_, e⟩ | ⟨a0, f1, e, _⟩
  · exact ⟨_, e, rfl⟩
  · exact ⟨_, e, rfl⟩
section
variable {X : Cx} {pins : List (Addr × Obj)} {σ : L2.St} {A : Around} {R : Result → Shared → Prop} {z TI TO i1 i2 a b : Addr} {xs ys : List V}
end
end L3
set_option Elab.async false
set_option linter.all false
set_option maxRecDepth 100000
namespace L3
open PySem PySem.Spec PyProof.Rows L2
section
variable {X : Cx} {e e2 : Expr} {ta : TA} {p p2 pos pos2 : Pos}
end
end L3
set_option Elab.async false
set_option linter.all false
set_option maxRecDepth 100000
namespace L3
open PySem PySem.Spec PyProof.Rows L2
structure Pen (H : Hp) (p c : Addr) (n : Nat) : Prop where
  ex : ∃ (cells : List Int) (at_ : Nat) (r : Int), H p = some (.lst [.ref c, .int (at_ : Int), .int r]) ∧ H c = some (.lst (cells.map V.int)) ∧ cells.length ≤ 63 ∧ at_ ≤ n ∧ p ≠ c
/-- all but the pen stays -/
def Kq (p : Addr) (H H' : Hp) : Prop := ∀ b o, H b = some o → b ≠ p → H' b = some o
theorem Kq.refl {p : Addr} (H : Hp) : Kq p H H := fun _ _ h _ => h
theorem Kq.trans {p : Addr} {H H1 H2 : Hp} (a : Kq p H H1) (b : Kq p H1 H2) : Kq p H H2 := fun x o h h1 => b x o (a x o h h1) h1
theorem Pen.mono {H : Hp} {p c : Addr} {n m : Nat} (h : Pen H p c n) (e : n ≤ m) : Pen H p c m := by
  obtain ⟨cells, a, r, h1, h2, h3, h4, h5⟩ := h.ex
  exact ⟨cells, a, r, h1, h2, h3, by omega, h5⟩
theorem Pen.keep {H H' : Hp} {p c : Addr} {n : Nat} (h : Pen H p c n) (hp : ∀ o, H p = some o → H' p = some o) (hc : ∀ o, H c = some o → H' c = some o) : Pen H' p c n := by
  obtain ⟨cells, a, r, h1, h2, h3, h4, h5⟩ := h.ex
  exact ⟨cells, a, r, hp _ h1, hc _ h2, h3, h4, h5⟩
theorem Pen.same {H H' : Hp} {p c : Addr} {n : Nat} (h : Pen H p c n) (s : Same H H') : Pen H' p c n := h.keep (fun o => s p o) (fun o => s c o)
theorem Pen.nep {H : Hp} {p c S : Addr} {n : Nat} (h : Pen H p c n) (e : H S = none) : S ≠ p := by
  obtain ⟨cells, a, r, h1, h2, _⟩ := h.ex
  exact (ne_of_none h1 e).symm
theorem Pen.nec {H : Hp} {p c S : Addr} {n : Nat} (h : Pen H p c n) (e : H S = none) : S ≠ c := by
  obtain ⟨cells, a, r, h1, h2, _⟩ := h.ex
  exact (ne_of_none h2 e).symm
theorem Pen.upd {H : Hp} {p c S : Addr} {n : Nat} {o : HO} (h : Pen H p c n) (h1 : S ≠ p) (h2 : S ≠ c) : Pen (upd H S o) p c n := h.keep (fun u e => by rw [upd_ne h1.symm]; exact e) (fun u e => by rw [upd_ne h2.symm]; exact e)
theorem Kq.free {p c : Addr} {H H' : Hp} {S : Addr} {n : Nat} (k : Kq p H H') (J : Pen H' p c n) (h : H' S = none) : H S = none := by
  cases q : H S with
  | none => rfl
  | some o =>
    rw [k S o q (J.nep h)] at h
    cases h
end L3
set_option Elab.async false
set_option linter.all false
set_option maxRecDepth 100000
namespace L3
open PySem PySem.Spec PyProof.Rows L2
/-- a frame is noted at an exception: frames change in their slots, the exception in its record, a new record stands there -/
structure NoteEff (F : List Addr) (e : Addr) (C : Value) (dx : Option Addr) (fl : Value) (h h' : Heap) : Prop where
  keep : ∀ b o, h.get? b = some o → b ≠ e → b ∉ F → h'.get? b = some o
  slot : ∀ b o, h.get? b = some o → b ≠ e → ∃ sl, h'.get? b = some { o with slots := sl }
  obj : ∃ oe vs T oT ts, h'.get? e = some oe ∧ oe.cls = C ∧ oe.dict = dx ∧ oe.data = .fields vs ∧ vs[1]? = some (.ref T) ∧ T ≠ e ∧ h.objs.size ≤ T ∧ h'.get? T = some oT ∧ oT.data = .fields ts ∧ ts[3]? = some fl
section
variable {M : Model} {A : Around} {E : Value → Shared → Prop} {s : Shared}
theorem note_entry {base : Heap} {env : Env} {outer : List Env} {L e : Addr} {oe : Obj} {vs : Array Value} {head : Value} {had : Bool} {Q : Unit → Shared → Prop}
    (fr : A.frames = some (env :: outer)) (ff : s.heap.FunFrames base (env :: outer)) (fl : env.frame = some L)
    (ge : s.heap.get? e = some oe) (gd : oe.data = .fields vs) (sz : 1 < vs.size)
    (q : ∀ h', NoteEff (frs (env :: outer)) e oe.cls oe.dict (rawInt L) s.heap h' → Q () { s with heap := h' }) :
    wpAny M A (do let a ← frameOf env; let pl ← entryPlaceOf L had; let b ← EntryCells.newEntry head a .none (rawInt L) .none pl; setField (.ref e) 1 b) Q E s := by
  have nF : e ∉ frs (env :: outer) := fun z => by
    obtain ⟨_, o, ho, nf⟩ := ff.mem z
    rw [ge] at ho; cases ho; exact nf vs gd
  refine wpAny_bind (wpAny_frameOf_fun fr ff fl fun h1 s1 => ?_)
  refine wpAny_bind (wpAny_entryPlaceOf fun pl hpl => ?_)
  unfold EntryCells.newEntry newFields
  refine wpAny_bind (wpAny_newObj_type ?_ (hpl.sizeOk5 _ _ _ _ _))
  have g1 : h1.get? e = some oe := (s1.2.1 e nF).trans ge
  obtain ⟨oT, eT⟩ : ∃ oT : Obj, oT = { cls := .type "traceback", dict := none, data := .fields ([head, .ref L, .none, rawInt L, .none] ++ (if pl.isEmpty then List.replicate 6 Value.none else pl)).toArray } := ⟨_, rfl⟩
  have dT : ∃ ts, oT.data = .fields ts ∧ ts[3]? = some (rawInt L) := by
    rw [eT]
    refine ⟨_, rfl, ?_⟩
    rcases hpl with rfl | ⟨_, _, _, _, _, _, _, rfl⟩ <;> simp
  rw [← eT]
  have nfT : oT.isFreed = false := by rw [eT]; rfl
  have g2 := Heap.get?_push_of_some (h := h1) oT g1
  refine wpAny_setField g2 gd sz (q _ ?_)
  have ne : h1.objs.size ≠ e := Nat.ne_of_gt (Heap.lt_size g1)
  have d3 := Obj.data_mapFields gd (·.setIfInBounds 1 (Value.ref h1.objs.size))
  have g3 := Heap.get?_update_self (Obj.mapFields (·.setIfInBounds 1 (Value.ref h1.objs.size))) g2 (Obj.isFreed_of_fields d3)
  have gT := (Heap.get?_update_other (h1.push oT) (Obj.mapFields (·.setIfInBounds 1 (Value.ref h1.objs.size))) (Ne.symm ne)).trans (Heap.get?_push_size h1 nfT)
  have kp : ∀ b o, b ≠ e → h1.get? b = some o → ((h1.push oT).update e (Obj.mapFields (·.setIfInBounds 1 (Value.ref h1.objs.size)))).get? b = some o := fun b o hb g => by
    rw [Heap.get?_update_other _ _ (Ne.symm hb)]
    exact Heap.get?_push_of_some _ g
  obtain ⟨ts, t1, t2⟩ := dT
  refine ⟨fun b o g hb hF => kp b o hb ((s1.2.1 b hF).trans g), fun b o g hb => ?_, _, _, h1.objs.size, oT, ts, g3, Obj.cls_mapFields _ _, by unfold Obj.mapFields; split <;> rfl, d3, by simp [sz], ne, by rw [s1.1]; exact Nat.le_refl _, gT, t1, t2⟩
  obtain ⟨sl, g'⟩ := s1.2.2 b o g
  exact ⟨sl, kp b _ hb g'⟩
/-- an exception's own object -/
def ExcO (a : Addr) (C : Value) (dx : Option Addr) : Heap → Prop := fun h => ∃ o, h.get? a = some o ∧ o.cls = C ∧ o.dict = dx ∧ ∃ vs, o.data = .fields vs
/-- an exception that flies: it is new, nobody tracks it, its record has a head or none -/
def Flies (h0 : Heap) (H : Hp) (h : Heap) (e : Addr) (C : Value) (dx : Option Addr) (tb : Option Value) : Prop :=
  h0.get? e = none ∧ H e = none ∧ ∃ oe vs, h.get? e = some oe ∧ oe.cls = C ∧ oe.dict = dx ∧ oe.data = .fields vs ∧ 1 < vs.size ∧
    match tb with
    | none => vs[1]? = some .none
    | some fl => ∃ T oT ts, vs[1]? = some (.ref T) ∧ T ≠ e ∧ h0.get? T = none ∧ H T = none ∧ h.get? T = some oT ∧ oT.data = .fields ts ∧ ts[3]? = some fl
/-- what was there ahead, and what is tracked, is kept, frames up to their slots -/
structure Chg (F : List Addr) (h0 : Heap) (H : Hp) (h h' : Heap) : Prop where
  keep : ∀ b o, h.get? b = some o → (h0.get? b ≠ none ∨ H b ≠ none) → b ∉ F → h'.get? b = some o
  slot : ∀ b o, h.get? b = some o → (h0.get? b ≠ none ∨ H b ≠ none) → ∃ sl, h'.get? b = some { o with slots := sl }
theorem Chg.trans {F : List Addr} {h0 h h1 h2 : Heap} {H : Hp} (a : Chg F h0 H h h1) (b : Chg F h0 H h1 h2) : Chg F h0 H h h2 :=
  ⟨fun c o g n hF => b.keep c o (a.keep c o g n hF) n hF, fun c o g n => by
    obtain ⟨sl, g1⟩ := a.slot c o g n
    obtain ⟨sl2, g2⟩ := b.slot c _ g1 n
    exact ⟨sl2, g2⟩⟩
variable {P : Program} {w : World} {h0 : Heap} {H : Hp} {e : Addr} {C : Value} {dx : Option Addr}
theorem note_fly {base : Heap} {env : Env} {outer : List Env} {L : Addr} {tb : Option Value} {Q : Unit → Shared → Prop}
    (fr : A.frames = some (env :: outer)) (ff : s.heap.FunFrames base (env :: outer)) (fl : env.frame = some L) (f : Flies h0 H s.heap e C dx tb) (ht : tb = none ∨ tb = some .none)
    (hin : ∀ b o, h0.get? b = some o → ∃ o', s.heap.get? b = some o') (hok : HOk P w H s.heap)
    (q : ∀ h', Flies h0 H h' e C dx (some (rawInt L)) → Chg (frs (env :: outer)) h0 H s.heap h' → Q () { s with heap := h' }) : wpAny M A (noteFrame (.ref e) env) Q E s := by
  obtain ⟨n0, nH, oe, vs, ge, gc, gx, gd, sz, g1⟩ := f
  have ne : ∀ b, (h0.get? b ≠ none ∨ H b ≠ none) → b ≠ e := fun b hb z => by
    subst z; exact hb.elim (fun x => x n0) (fun x => x nH)
  have big : ∀ T, s.heap.objs.size ≤ T → h0.get? T = none ∧ H T = none := fun T hT => by
    refine ⟨?_, hok.fresh hT⟩
    cases c : h0.get? T with
    | none => rfl
    | some o =>
      obtain ⟨o', z⟩ := hin T o c
      exact absurd (Nat.lt_of_lt_of_le (Heap.lt_size z) hT) (Nat.lt_irrefl _)
  unfold noteFrame
  simp only [fl]
  rcases ht with rfl | rfl
  · refine wpAny_bind (wpAny_field ge gd g1 ?_)
    rw [if_neg (by decide)]
    refine note_entry fr ff fl ge gd sz fun h' n => q h' ⟨n0, nH, ?_⟩ ⟨fun b o g hb hF => n.keep b o g (ne b hb) hF, fun b o g hb => n.slot b o g (ne b hb)⟩
    obtain ⟨oe', vs', T, oT, ts, a1, a2, a3, a4, a5, a6, a7, a8, a9, a10⟩ := n.obj
    exact ⟨oe', vs', a1, a2.trans gc, a3.trans gx, a4, (Array.getElem?_eq_some_iff.mp a5).1, T, oT, ts, a5, a6, (big T a7).1, (big T a7).2, a8, a9, a10⟩
  · obtain ⟨T, oT, ts, b1, b2, b3, b4, b5, b6, b7⟩ := g1
    refine wpAny_bind (wpAny_field ge gd b1 ?_)
    rw [if_pos (show (Value.ref T != Value.none) = true from by simp)]
    refine wpAny_bind (wpAny_field b5 b6 b7 ?_)
    rw [if_neg (show ¬ ((Value.none == rawInt L) = true) from by simp [rawInt])]
    refine wpAny_bind (wpAny_setField b5 b6 (Array.getElem?_eq_some_iff.mp b7).1 ?_)
    have neT : ∀ b, (h0.get? b ≠ none ∨ H b ≠ none) → b ≠ T := fun b hb z => by
      subst z; exact hb.elim (fun x => x b3) (fun x => x b4)
    have oth : ∀ b, b ≠ T → (s.heap.update T (Obj.mapFields (·.setIfInBounds 3 Value.none))).get? b = s.heap.get? b := fun b hb => Heap.get?_update_other _ _ (Ne.symm hb)
    have nfr : ∀ b o, s.heap.get? b = some o → (∀ vs, o.data ≠ .fields vs) → b ≠ T := fun b o hb nf z => by
      rw [z, b5] at hb; cases hb; exact nf ts b6
    refine note_entry (s := { s with heap := s.heap.update T (Obj.mapFields (·.setIfInBounds 3 Value.none)) }) fr (ff.of_keeps fun b o hb nf => ⟨o, (oth b (nfr b o hb nf)).trans hb, rfl⟩) fl ((oth e (Ne.symm b2)).trans ge) gd sz fun h' n => q h' ⟨n0, nH, ?_⟩ ⟨fun b o g hb hF => n.keep b o ((oth b (neT b hb)).trans g) (ne b hb) hF, fun b o g hb => n.slot b o ((oth b (neT b hb)).trans g) (ne b hb)⟩
    obtain ⟨oe', vs', T', oT', ts', a1, a2, a3, a4, a5, a6, a7, a8, a9, a10⟩ := n.obj
    have a7' : s.heap.objs.size ≤ T' := by
      have : (s.heap.update T (Obj.mapFields (·.setIfInBounds 3 Value.none))).objs.size = s.heap.objs.size := Heap.size_after_update ..
      rw [← this]; exact a7
    exact ⟨oe', vs', a1, a2.trans gc, a3.trans gx, a4, (Array.getElem?_eq_some_iff.mp a5).1, T', oT', ts', a5, a6, (big T' a7').1, (big T' a7').2, a8, a9, a10⟩
theorem land_fly {fl : Value} {Q : Unit → Shared → Prop} (f : Flies h0 H s.heap e C dx (some fl))
    (q : ∀ h', Flies h0 H h' e C dx (some .none) → Chg [] h0 H s.heap h' → Q () { s with heap := h' }) : wpAny M A (setFlight (.ref e) none) Q E s := by
  obtain ⟨n0, nH, oe, vs, ge, gc, gx, gd, sz, T, oT, ts, b1, b2, b3, b4, b5, b6, b7⟩ := f
  have neT : ∀ b, (h0.get? b ≠ none ∨ H b ≠ none) → b ≠ T := fun b hb z => by
    subst z; exact hb.elim (fun x => x b3) (fun x => x b4)
  have z3 : 3 < ts.size := (Array.getElem?_eq_some_iff.mp b7).1
  have oth : ∀ b, b ≠ T → (s.heap.update T (Obj.mapFields (·.setIfInBounds 3 Value.none))).get? b = s.heap.get? b := fun b hb => Heap.get?_update_other _ _ (Ne.symm hb)
  unfold setFlight
  refine wpAny_bind (wpAny_field ge gd b1 ?_)
  rw [if_pos (show (Value.ref T != Value.none) = true from by simp)]
  refine wpAny_setField b5 b6 z3 (q _ ⟨n0, nH, oe, vs, (oth e (Ne.symm b2)).trans ge, gc, gx, gd, sz, T, _, _, b1, b2, b3, b4, Heap.get?_update_self _ b5 (Obj.isFreed_of_fields (Obj.data_mapFields b6 _)), Obj.data_mapFields b6 _, by simp [z3]⟩ ⟨fun b o g hb _ => (oth b (neT b hb)).trans g, fun b o g hb => ⟨o.slots, (oth b (neT b hb)).trans g⟩⟩)
end
end L3
set_option Elab.async false
set_option linter.all false
set_option maxRecDepth 100000
namespace L4
open PySem PySem.Spec PyProof.Rows L2 L3
inductive PV where
  | non | bl (b : Bool) | int (i : Int) | str (x : Str) | ty (n : String) | glb (a : Addr)
  | tup (xs : List PV) | ref (i : Nat) | scr (ns : List Int)
inductive Ob where
  | lst (xs : List PV) | dct (kvs : List (Key × PV)) | ins (C : Addr) (fs : List (Str × PV)) | jar | frd (o : Obj) (us : List (Key × V)) (kvs : List (Key × PV)) | pen (n : Nat) | exc (C : Addr) (fs : List (Str × Int))
abbrev Sto := List Ob
structure Map where
  m : Nat → Addr
  q : Nat → Addr
def Scr (K : PySem.W.Frag) (H : Hp) (a : Addr) (ns : List Int) : Prop :=
  (∃ o, H a = some (.frz o (.lst (ns.map V.int)))) ∨
    ∃ (o : Obj) (its : Array Value) (n : Nat), K.lookup a = some o ∧ o.cls = .type "list" ∧ o.dict = none ∧ o.data = .seq its n ∧ its.size ≤ sizeLine ∧ Vals (ns.map V.int) its.toList
theorem Scr.sql {K : PySem.W.Frag} {H : Hp} {a : Addr} {ns : List Int} (h : Scr K H a ns) : SqL K H a (ns.map V.int) := by
  rcases h with ⟨o, h⟩ | h
  · exact .inl (.inr ⟨o, h⟩)
  · exact .inr h
mutual
inductive RP (K : PySem.W.Frag) (M : Map) (n : Nat) (H : Hp) : PV → V → Prop
  | non : RP K M n H .non .non
  | bl (b : Bool) : RP K M n H (.bl b) (.bl b)
  | int (i : Int) : RP K M n H (.int i) (.int i)
  | str (x : Str) : RP K M n H (.str x) (.str x)
  | ty (x : String) : RP K M n H (.ty x) (.ty x)
  | glb (a : Addr) : RP K M n H (.glb a) (.ref a)
  | tup {xs : List PV} {us : List V} {a : Addr} : SqT K H a us → RPs K M n H xs us → RP K M n H (.tup xs) (.ref a)
  | ref {i : Nat} : i < n → RP K M n H (.ref i) (.ref (M.m i))
  | scr {ns : List Int} {a : Addr} : Scr K H a ns → RP K M n H (.scr ns) (.ref a)
inductive RPs (K : PySem.W.Frag) (M : Map) (n : Nat) (H : Hp) : List PV → List V → Prop
  | nil : RPs K M n H [] []
  | cons {x : PV} {u : V} {xs : List PV} {us : List V} : RP K M n H x u → RPs K M n H xs us → RPs K M n H (x :: xs) (u :: us)
end
/-- an address of a thing of the store -/
def Own (M : Map) (n : Nat) (a : Addr) : Prop := ∃ i, i < n ∧ (a = M.m i ∨ a = M.q i)
structure Stp (Ts : List Addr) (K : PySem.W.Frag) (M : Map) (n : Nat) (H : Hp) (M' : Map) (n' : Nat) (H' : Hp) : Prop where
  le : n ≤ n'
  m : ∀ i, i < n → M'.m i = M.m i
  q : ∀ i, i < n → M'.q i = M.q i
  tup : ∀ a us, SqT K H a us → SqT K H' a us
  scr : ∀ a ns, Scr K H a ns → Scr K H' a ns
  fr : ∀ a o, H a = some o → ¬ Own M n a → a ∉ Ts → H' a = some o
  grow : ∀ a, H' a = none → H a = none
  new : ∀ i, n ≤ i → i < n' → H (M'.m i) = none ∧ H (M'.q i) = none
theorem Stp.refl {Ts : List Addr} (K : PySem.W.Frag) (M : Map) (n : Nat) (H : Hp) : Stp Ts K M n H M n H := ⟨Nat.le_refl _, fun _ _ => rfl, fun _ _ => rfl, fun _ _ h => h, fun _ _ h => h, fun _ _ h _ _ => h, fun _ h => h, fun i h1 h2 => by omega⟩
theorem Stp.trans {K : PySem.W.Frag} {M M1 M2 : Map} {n n1 n2 : Nat} {H H1 H2 : Hp} (a : Stp Ts K M n H M1 n1 H1) (b : Stp Ts K M1 n1 H1 M2 n2 H2) : Stp Ts K M n H M2 n2 H2 where
  le := Nat.le_trans a.le b.le
  m := fun i h => (b.m i (Nat.lt_of_lt_of_le h a.le)).trans (a.m i h)
  q := fun i h => (b.q i (Nat.lt_of_lt_of_le h a.le)).trans (a.q i h)
  tup := fun x us h => b.tup x us (a.tup x us h)
  scr := fun x us h => b.scr x us (a.scr x us h)
  fr := fun x o h h1 h2 => by
    refine b.fr x o (a.fr x o h h1 h2) ?_ h2
    rintro ⟨i, hi, hx⟩
    by_cases c : i < n
    · refine h1 ⟨i, c, ?_⟩
      rw [a.m i c, a.q i c] at hx; exact hx
    · obtain ⟨p, q⟩ := a.new i (by omega) hi
      rcases hx with rfl | rfl
      · rw [p] at h; cases h
      · rw [q] at h; cases h
  grow := fun x h => a.grow x (b.grow x h)
  new := fun i h1 h2 => by
    by_cases c : i < n1
    · rw [b.m i c, b.q i c]; exact a.new i h1 c
    · obtain ⟨p, q⟩ := b.new i (by omega) h2
      exact ⟨a.grow _ p, a.grow _ q⟩
mutual
theorem RP.mono {K : PySem.W.Frag} {M M' : Map} {n n' : Nat} {H H' : Hp} (hle : n ≤ n') (hm : ∀ i, i < n → M'.m i = M.m i) (ht : ∀ a us, SqT K H a us → SqT K H' a us) (hs : ∀ a ns, Scr K H a ns → Scr K H' a ns) : ∀ {v : PV} {u : V}, RP K M n H v u → RP K M' n' H' v u
  | _, _, .non => .non
  | _, _, .bl b => .bl b
  | _, _, .int i => .int i
  | _, _, .str x => .str x
  | _, _, .ty x => .ty x
  | _, _, .glb a => .glb a
  | _, _, .tup a b => .tup (ht _ _ a) (RPs.mono hle hm ht hs b)
  | _, _, .ref (i := i) h => by rw [← hm i h]; exact .ref (Nat.lt_of_lt_of_le h hle)
  | _, _, .scr h => .scr (hs _ _ h)
theorem RPs.mono {K : PySem.W.Frag} {M M' : Map} {n n' : Nat} {H H' : Hp} (hle : n ≤ n') (hm : ∀ i, i < n → M'.m i = M.m i) (ht : ∀ a us, SqT K H a us → SqT K H' a us) (hs : ∀ a ns, Scr K H a ns → Scr K H' a ns) : ∀ {v : List PV} {u : List V}, RPs K M n H v u → RPs K M' n' H' v u
  | _, _, .nil => .nil
  | _, _, .cons a b => .cons (RP.mono hle hm ht hs a) (RPs.mono hle hm ht hs b)
end
theorem RP.stp {K : PySem.W.Frag} {M M' : Map} {n n' : Nat} {H H' : Hp} {v : PV} {u : V} (h : RP K M n H v u) (s : Stp Ts K M n H M' n' H') : RP K M' n' H' v u := h.mono s.le s.m s.tup s.scr
theorem RPs.stp {K : PySem.W.Frag} {M M' : Map} {n n' : Nat} {H H' : Hp} {v : List PV} {u : List V} (h : RPs K M n H v u) (s : Stp Ts K M n H M' n' H') : RPs K M' n' H' v u := h.mono s.le s.m s.tup s.scr
section
variable {K : PySem.W.Frag} {M : Map} {n : Nat} {H : Hp}
theorem RPs.length : ∀ {xs : List PV} {us : List V}, RPs K M n H xs us → xs.length = us.length
  | _, _, .nil => rfl
  | _, _, .cons _ t => by simp [RPs.length t]
theorem RPs.get : ∀ {xs : List PV} {us : List V} {i : Nat} {x : PV}, RPs K M n H xs us → xs[i]? = some x → ∃ u, us[i]? = some u ∧ RP K M n H x u
  | _, _, _, _, .nil, e => by simp at e
  | _, _, 0, _, .cons r _, e => by simp at e; subst e; exact ⟨_, rfl, r⟩
  | _, _, i + 1, x, .cons _ t, e => by
    obtain ⟨u, h1, h2⟩ := RPs.get (i := i) (x := x) t (by simpa using e)
    exact ⟨u, by simpa using h1, h2⟩
theorem RPs.get' : ∀ {xs : List PV} {us : List V} {i : Nat} {u : V}, RPs K M n H xs us → us[i]? = some u → ∃ x, xs[i]? = some x ∧ RP K M n H x u
  | _, _, _, _, .nil, e => by simp at e
  | _, _, 0, _, .cons r _, e => by simp at e; subst e; exact ⟨_, rfl, r⟩
  | _, _, i + 1, x, .cons _ t, e => by
    obtain ⟨u, h1, h2⟩ := RPs.get' (i := i) (u := x) t (by simpa using e)
    exact ⟨u, by simpa using h1, h2⟩
theorem RPs.set {x : PV} {u : V} (r : RP K M n H x u) : ∀ {xs : List PV} {us : List V} (i : Nat), RPs K M n H xs us → RPs K M n H (xs.set i x) (us.set i u)
  | _, _, _, .nil => .nil
  | _, _, 0, .cons _ t => .cons r t
  | _, _, i + 1, .cons q t => .cons q (RPs.set r i t)
theorem RPs.append : ∀ {xs ys : List PV} {us ws : List V}, RPs K M n H xs us → RPs K M n H ys ws → RPs K M n H (xs ++ ys) (us ++ ws)
  | _, _, _, _, .nil, s => s
  | _, _, _, _, .cons r t, s => .cons r (RPs.append t s)
theorem RPs.take : ∀ {xs : List PV} {us : List V} (k : Nat), RPs K M n H xs us → RPs K M n H (xs.take k) (us.take k)
  | _, _, 0, _ => .nil
  | _, _, _ + 1, .nil => .nil
  | _, _, k + 1, .cons r t => .cons r (RPs.take k t)
theorem RPs.drop : ∀ {xs : List PV} {us : List V} (k : Nat), RPs K M n H xs us → RPs K M n H (xs.drop k) (us.drop k)
  | _, _, 0, r => r
  | _, _, _ + 1, .nil => .nil
  | _, _, k + 1, .cons _ t => RPs.drop k t
theorem RPs.reverse : ∀ {xs : List PV} {us : List V}, RPs K M n H xs us → RPs K M n H xs.reverse us.reverse
  | _, _, .nil => .nil
  | _, _, .cons r t => by rw [List.reverse_cons, List.reverse_cons]; exact t.reverse.append (.cons r .nil)
theorem RPs.ints : ∀ ns : List Int, RPs K M n H (ns.map PV.int) (ns.map V.int)
  | [] => .nil
  | k :: ns => .cons (.int k) (RPs.ints ns)
theorem RPs.bls : ∀ ns : List Bool, RPs K M n H (ns.map PV.bl) (ns.map V.bl)
  | [] => .nil
  | k :: ns => .cons (.bl k) (RPs.bls ns)
theorem RPs.of_ints : ∀ {ns : List Int} {us : List V}, RPs K M n H (ns.map PV.int) us → us = ns.map V.int
  | [], _, h => by cases h; rfl
  | k :: ns, _, h => by
    cases h with
    | cons r t => cases r; rw [List.map_cons, RPs.of_ints t]
theorem RPs.of_bls : ∀ {ns : List Bool} {us : List V}, RPs K M n H (ns.map PV.bl) us → us = ns.map V.bl
  | [], _, h => by cases h; rfl
  | k :: ns, _, h => by
    cases h with
    | cons r t => cases r; rw [List.map_cons, RPs.of_bls t]
end
/-- what reading wants of a later state -/
structure Stw (K : PySem.W.Frag) (M : Map) (n : Nat) (H : Hp) (M' : Map) (n' : Nat) (H' : Hp) : Prop where
  le : n ≤ n'
  m : ∀ i, i < n → M'.m i = M.m i
  tup : ∀ a us, SqT K H a us → SqT K H' a us
  scr : ∀ a ns, Scr K H a ns → Scr K H' a ns
theorem Stp.w {Ts : List Addr} {K : PySem.W.Frag} {M M' : Map} {n n' : Nat} {H H' : Hp} (s : Stp Ts K M n H M' n' H') : Stw K M n H M' n' H' := ⟨s.le, s.m, s.tup, s.scr⟩
theorem Stw.trans {K : PySem.W.Frag} {M M1 M2 : Map} {n n1 n2 : Nat} {H H1 H2 : Hp} (a : Stw K M n H M1 n1 H1) (b : Stw K M1 n1 H1 M2 n2 H2) : Stw K M n H M2 n2 H2 :=
  ⟨Nat.le_trans a.le b.le, fun i h => (b.m i (Nat.lt_of_lt_of_le h a.le)).trans (a.m i h), fun x us h => b.tup x us (a.tup x us h), fun x us h => b.scr x us (a.scr x us h)⟩
theorem RP.stw {K : PySem.W.Frag} {M M' : Map} {n n' : Nat} {H H' : Hp} {v : PV} {u : V} (h : RP K M n H v u) (s : Stw K M n H M' n' H') : RP K M' n' H' v u := h.mono s.le s.m s.tup s.scr
/-- pairs of a key and a value -/
inductive KR {κ : Type} (K : PySem.W.Frag) (M : Map) (n : Nat) (H : Hp) : List (κ × PV) → List (κ × V) → Prop
  | nil : KR K M n H [] []
  | cons {k : κ} {x : PV} {u : V} {xs : List (κ × PV)} {us : List (κ × V)} : RP K M n H x u → KR K M n H xs us → KR K M n H ((k, x) :: xs) ((k, u) :: us)
theorem KR.mono {κ : Type} {K : PySem.W.Frag} {M M' : Map} {n n' : Nat} {H H' : Hp} (hle : n ≤ n') (hm : ∀ i, i < n → M'.m i = M.m i) (ht : ∀ a us, SqT K H a us → SqT K H' a us) (hs : ∀ a ns, Scr K H a ns → Scr K H' a ns) : ∀ {v : List (κ × PV)} {u : List (κ × V)}, KR K M n H v u → KR K M' n' H' v u
  | _, _, .nil => .nil
  | _, _, .cons a b => .cons (a.mono hle hm ht hs) (KR.mono hle hm ht hs b)
def ObR (K : PySem.W.Frag) (M : Map) (n : Nat) (H : Hp) : Ob → Addr → Addr → Prop
  | .lst xs, a, b => b = a ∧ ∃ us, H a = some (.lst us) ∧ RPs K M n H xs us
  | .dct kvs, a, b => b = a ∧ ∃ us, H a = some (.dK us) ∧ KR K M n H kvs us
  | .ins C fs, a, b => ∃ us, H a = some (.ins C b us) ∧ H b = some (.own a) ∧ KR K M n H fs us
  | .jar, a, b => Jar H a b
  | .frd o us kvs, a, b => b = a ∧ H a = some (.frz o (.dK us)) ∧ KR K M n H kvs us
  | .pen m, a, b => Pen H a b m
  | .exc c fs, a, b => (fs = [] ∧ b = a ∧ H a = some (.ext (ExcO a (.ref c) none))) ∨ (fs ≠ [] ∧ H a = some (.ext (ExcO a (.ref c) (some b))) ∧ H b = some (.xd (fs.map fun f => (f.1, V.int f.2))))
theorem ObR.mono {K : PySem.W.Frag} {M M' : Map} {n n' : Nat} {H H' : Hp} {o : Ob} {a b : Addr} (h : ObR K M n H o a b) (hle : n ≤ n') (hm : ∀ i, i < n → M'.m i = M.m i) (ht : ∀ a us, SqT K H a us → SqT K H' a us) (hs : ∀ a ns, Scr K H a ns → Scr K H' a ns) (ha : H' a = H a) (hb : H' b = H b) : ObR K M' n' H' o a b := by
  cases o with
  | lst xs =>
    obtain ⟨e, us, h1, h2⟩ := h
    exact ⟨e, us, by rw [ha]; exact h1, h2.mono hle hm ht hs⟩
  | dct kvs =>
    obtain ⟨e, us, h1, h2⟩ := h
    exact ⟨e, us, by rw [ha]; exact h1, h2.mono hle hm ht hs⟩
  | ins C fs =>
    obtain ⟨us, h1, h2, h3⟩ := h
    exact ⟨us, by rw [ha]; exact h1, by rw [hb]; exact h2, h3.mono hle hm ht hs⟩
  | jar =>
    obtain ⟨cs, r, s, t, h1, h2, h3⟩ := (show Jar H a b from h).ex
    exact ⟨cs, r, s, t, by rw [ha]; exact h1, by rw [hb]; exact h2, h3⟩
  | frd o us kvs =>
    obtain ⟨e, h1, h2⟩ := h
    exact ⟨e, by rw [ha]; exact h1, h2.mono hle hm ht hs⟩
  | pen m => exact (show Pen H a b m from h).keep (fun o e => by rw [ha]; exact e) (fun o e => by rw [hb]; exact e)
  | exc c fs =>
    rcases h with ⟨e, e2, h1⟩ | ⟨e, h1, h2⟩
    · exact .inl ⟨e, e2, by rw [ha]; exact h1⟩
    · exact .inr ⟨e, by rw [ha]; exact h1, by rw [hb]; exact h2⟩
/-- what stands at a thing's addresses -/
def muts : HO → Prop
  | .lst _ => True
  | .dK _ => True
  | .ins _ _ _ => True
  | .own _ => True
  | .frz _ (.dK _) => True
  | .ext _ => True
  | .xd _ => True
  | _ => False
theorem ObR.at {K : PySem.W.Frag} {M : Map} {n : Nat} {H : Hp} {o : Ob} {a b : Addr} (h : ObR K M n H o a b) : (∃ x, H a = some x ∧ muts x) ∧ ∃ x, H b = some x ∧ muts x := by
  cases o with
  | lst xs => obtain ⟨rfl, us, h1, _⟩ := h; exact ⟨⟨_, h1, trivial⟩, _, h1, trivial⟩
  | dct kvs => obtain ⟨rfl, us, h1, _⟩ := h; exact ⟨⟨_, h1, trivial⟩, _, h1, trivial⟩
  | ins C fs => obtain ⟨us, h1, h2, _⟩ := h; exact ⟨⟨_, h1, trivial⟩, _, h2, trivial⟩
  | jar => obtain ⟨cs, r, s, t, h1, h2, h3⟩ := (show Jar H a b from h).ex; exact ⟨⟨_, h1, trivial⟩, _, h2, trivial⟩
  | frd o us kvs => obtain ⟨rfl, h1, _⟩ := h; exact ⟨⟨_, h1, trivial⟩, _, h1, trivial⟩
  | pen m => obtain ⟨cs, r, s, h1, h2, _⟩ := (show Pen H a b m from h).ex; exact ⟨⟨_, h1, trivial⟩, _, h2, trivial⟩
  | exc c fs =>
    rcases h with ⟨_, rfl, h1⟩ | ⟨_, h1, h2⟩
    · exact ⟨⟨_, h1, trivial⟩, _, h1, trivial⟩
    · exact ⟨⟨_, h1, trivial⟩, _, h2, trivial⟩
structure Sim (Ts : List Addr) (K : PySem.W.Frag) (M : Map) (S : Sto) (H : Hp) : Prop where
  ob : ∀ (i : Nat) (o : Ob), S[i]? = some o → ObR K M S.length H o (M.m i) (M.q i)
  sep : ∀ i j, i < S.length → j < S.length → i ≠ j → M.m i ≠ M.m j ∧ M.m i ≠ M.q j ∧ M.q i ≠ M.q j
  tab : ∀ P ∈ Ts, ∃ ps, H P = some (.tbl ps) ∧ TriplesOk ps.toList
section
variable {K : PySem.W.Frag} {M : Map} {S : Sto} {H : Hp}
theorem Sim.own (s : Sim Ts K M S H) {a : Addr} (h : Own M S.length a) : ∃ x, H a = some x ∧ muts x := by
  obtain ⟨i, hi, e⟩ := h
  obtain ⟨o, ho⟩ : ∃ o, S[i]? = some o := ⟨S[i], by simp [hi]⟩
  obtain ⟨h1, h2⟩ := (s.ob i o ho).at
  rcases e with rfl | rfl
  · exact h1
  · exact h2
theorem Sim.notOwn (s : Sim Ts K M S H) {a : Addr} {o : HO} (h : H a = some o) (n : ¬ muts o) : ¬ Own M S.length a := fun z => by
  obtain ⟨x, h1, h2⟩ := s.own z
  rw [h] at h1; cases h1
  exact n h2
theorem Sim.free (s : Sim Ts K M S H) {a : Addr} (h : H a = none) : ¬ Own M S.length a ∧ a ∉ Ts := by
  refine ⟨fun z => ?_, fun z => ?_⟩
  · obtain ⟨x, h1, h2⟩ := s.own z
    rw [h] at h1; cases h1
  · obtain ⟨ps, h1, _⟩ := s.tab a z
    rw [h] at h1; cases h1
/-- reading is kept where nothing but things of the store, or new ones, is written -/
theorem sqt_upd {a : Addr} {us : List V} {p : Addr} {o : HO} (h : SqT K H a us) (hp : ∀ x, H p = some x → muts x) : SqT K (upd H p o) a us := by
  rcases h with (h | ⟨ob, h⟩) | h
  · refine .inl (.inl ?_)
    rw [upd_ne]; exact h
    rintro rfl; exact hp _ h
  · refine .inl (.inr ⟨ob, ?_⟩)
    rw [upd_ne]; exact h
    rintro rfl; exact hp _ h
  · exact .inr h
theorem scr_upd {a : Addr} {us : List Int} {p : Addr} {o : HO} (h : Scr K H a us) (hp : ∀ x, H p = some x → muts x) : Scr K (upd H p o) a us := by
  rcases h with ⟨ob, h⟩ | h
  · refine .inl ⟨ob, ?_⟩
    rw [upd_ne]; exact h
    rintro rfl; exact hp _ h
  · exact .inr h
theorem none_upd {p a : Addr} {o : HO} (h : upd H p o a = none) : H a = none := by
  unfold upd at h
  split at h
  · cases h
  · exact h
/-- a new thing beside the store -/
theorem Sim.beside (s : Sim Ts K M S H) {p : Addr} {o : HO} (hp : H p = none) : Sim Ts K M S (upd H p o) ∧ Stp Ts K M S.length H M S.length (upd H p o) := by
  have hm : ∀ x, H p = some x → muts x := fun x h => by rw [hp] at h; cases h
  have hf := s.free hp
  refine ⟨⟨fun i ob h => ?_, s.sep, fun P hP => ?_⟩, ⟨Nat.le_refl _, fun _ _ => rfl, fun _ _ => rfl, fun a us h => sqt_upd h hm, fun a us h => scr_upd h hm, fun a u h h1 h2 => ?_, fun a h => none_upd h, fun i h1 h2 => by omega⟩⟩
  · have hi := (List.getElem?_eq_some_iff.mp h).1
    refine (s.ob i ob h).mono (Nat.le_refl _) (fun _ _ => rfl) (fun a us h => sqt_upd h hm) (fun a us h => scr_upd h hm) (upd_ne ?_) (upd_ne ?_)
    · rintro rfl; exact hf.1 ⟨i, hi, .inl rfl⟩
    · rintro rfl; exact hf.1 ⟨i, hi, .inr rfl⟩
  · obtain ⟨ps, h, tok⟩ := s.tab P hP
    refine ⟨ps, ?_, tok⟩
    rw [upd_ne]; exact h
    rintro rfl; rw [hp] at h; cases h
  · rw [upd_ne]; exact h
    rintro rfl; rw [hp] at h; cases h
def Map.add (M : Map) (n : Nat) (p q : Addr) : Map := ⟨fun i => if i = n then p else M.m i, fun i => if i = n then q else M.q i⟩
theorem Map.add_m (M : Map) (n : Nat) (p q : Addr) : (M.add n p q).m n = p := if_pos rfl
theorem Map.add_q (M : Map) (n : Nat) (p q : Addr) : (M.add n p q).q n = q := if_pos rfl
theorem Map.add_m' (M : Map) {n i : Nat} {p q : Addr} (h : i < n) : (M.add n p q).m i = M.m i := if_neg (by omega)
theorem Map.add_q' (M : Map) {n i : Nat} {p q : Addr} (h : i < n) : (M.add n p q).q i = M.q i := if_neg (by omega)
/-- what stands beside the store becomes its newest thing: from H0, where p and q were free -/
theorem Sim.take (s : Sim Ts K M S H) {ob : Ob} {p q : Addr} (hp : ¬ Own M S.length p) (hq : ¬ Own M S.length q) (ho : ObR K (M.add S.length p q) (S.length + 1) H ob p q) : Sim Ts K (M.add S.length p q) (S ++ [ob]) H := by
  refine ⟨fun i o h => ?_, fun i j hi hj ne => ?_, s.tab⟩
  · rw [List.length_append, List.length_singleton]
    by_cases c : i < S.length
    · rw [List.getElem?_append_left c] at h
      rw [M.add_m' c, M.add_q' c]
      exact (s.ob i o h).mono (by omega) (fun j hj => M.add_m' hj) (fun _ _ h => h) (fun _ _ h => h) rfl rfl
    · rw [List.getElem?_append_right (by omega)] at h
      have : i = S.length := by
        have := (List.getElem?_eq_some_iff.mp h).1
        simp at this; omega
      subst this
      rw [Nat.sub_self] at h
      cases h
      rw [M.add_m, M.add_q]; exact ho
  · rw [List.length_append, List.length_singleton] at hi hj
    by_cases c : i < S.length
    · by_cases d : j < S.length
      · rw [M.add_m' c, M.add_m' d, M.add_q' c, M.add_q' d]; exact s.sep i j c d ne
      · have : j = S.length := by omega
        subst this
        rw [M.add_m' c, M.add_q' c, M.add_m, M.add_q]
        exact ⟨fun e => hp ⟨i, c, .inl e.symm⟩, fun e => hq ⟨i, c, .inl e.symm⟩, fun e => hq ⟨i, c, .inr e.symm⟩⟩
    · have : i = S.length := by omega
      subst this
      have d : j < S.length := by omega
      rw [M.add_m' d, M.add_q' d, M.add_m, M.add_q]
      exact ⟨fun e => hp ⟨j, d, .inl e⟩, fun e => hp ⟨j, d, .inr e⟩, fun e => hq ⟨j, d, .inr e⟩⟩
theorem Stp.take {M1 : Map} {n n1 : Nat} {H0 : Hp} (s : Stp Ts K M n H0 M1 n1 H) {p q : Addr} (hp : H0 p = none) (hq : H0 q = none) : Stp Ts K M n H0 (M1.add n1 p q) (n1 + 1) H where
  le := Nat.le_succ_of_le s.le
  m := fun i h => (M1.add_m' (Nat.lt_of_lt_of_le h s.le)).trans (s.m i h)
  q := fun i h => (M1.add_q' (Nat.lt_of_lt_of_le h s.le)).trans (s.q i h)
  tup := s.tup
  scr := s.scr
  fr := s.fr
  grow := s.grow
  new := fun i h1 h2 => by
    by_cases c : i < n1
    · rw [M1.add_m' c, M1.add_q' c]; exact s.new i h1 c
    · have : i = n1 := by omega
      subst this
      rw [M1.add_m, M1.add_q]; exact ⟨hp, hq⟩
/-- a new thing of the store: a list or a dict -/
theorem Sim.alloc (s : Sim Ts K M S H) {p : Addr} {o : HO} {ob : Ob} (hp : H p = none) (ho : ∀ M' H', Stp Ts K M S.length H M' S.length H' → H' p = some o → ObR K M' S.length H' ob p p) :
    Sim Ts K (M.add S.length p p) (S ++ [ob]) (upd H p o) ∧ Stp Ts K M S.length H (M.add S.length p p) (S ++ [ob]).length (upd H p o) := by
  obtain ⟨s1, t1⟩ := s.beside (o := o) hp
  have hf := s.free hp
  refine ⟨s1.take hf.1 hf.1 ?_, ?_⟩
  · exact (ho M _ t1 upd_same).mono (by omega) (fun j hj => M.add_m' hj) (fun _ _ h => h) (fun _ _ h => h) rfl rfl
  · rw [List.length_append, List.length_singleton]
    exact t1.take hp hp
/-- a thing of the store is written -/
theorem Sim.put (s : Sim Ts K M S H) {i : Nat} {ob new : Ob} {o : HO} (hi : S[i]? = some ob) (ho : ∀ H', Stp Ts K M S.length H M S.length H' → H' (M.m i) = some o → (M.q i ≠ M.m i → H' (M.q i) = H (M.q i)) → ObR K M S.length H' new (M.m i) (M.q i)) :
    Sim Ts K M (S.set i new) (upd H (M.m i) o) ∧ Stp Ts K M S.length H M (S.set i new).length (upd H (M.m i) o) := by
  have hl := (List.getElem?_eq_some_iff.mp hi).1
  have hm : ∀ x, H (M.m i) = some x → muts x := fun x h => by
    obtain ⟨y, h1, h2⟩ := s.own ⟨i, hl, .inl rfl⟩
    rw [h] at h1; cases h1; exact h2
  have hs : H (M.m i) ≠ none := by
    obtain ⟨y, h1, h2⟩ := s.own ⟨i, hl, .inl rfl⟩
    rw [h1]; simp
  have t : Stp Ts K M S.length H M S.length (upd H (M.m i) o) := ⟨Nat.le_refl _, fun _ _ => rfl, fun _ _ => rfl, fun a us h => sqt_upd h hm, fun a us h => scr_upd h hm, fun a u h h1 h2 => by
    rw [upd_ne]; exact h
    rintro rfl; exact h1 ⟨i, hl, .inl rfl⟩, fun a h => none_upd h, fun i h1 h2 => by omega⟩
  refine ⟨⟨fun j oj h => ?_, fun j k hj hk => ?_, fun P hP => ?_⟩, by rw [List.length_set]; exact t⟩
  · rw [List.length_set]
    by_cases c : j = i
    · subst c
      rw [List.getElem?_set_self hl] at h
      cases h
      exact ho _ t upd_same fun z => upd_ne z
    · rw [List.getElem?_set_ne (fun z => c z.symm)] at h
      have hj := (List.getElem?_eq_some_iff.mp h).1
      have hsp := s.sep i j hl hj (fun z => c z.symm)
      have hsp2 := s.sep j i hj hl c
      refine (s.ob j oj h).mono (Nat.le_refl _) (fun _ _ => rfl) (fun a us h => sqt_upd h hm) (fun a us h => scr_upd h hm) (upd_ne hsp2.1) (upd_ne ?_)
      exact fun e => hsp.2.1 e.symm
  · rw [List.length_set] at hj hk
    exact s.sep j k hj hk
  · obtain ⟨ps, h, tok⟩ := s.tab P hP
    refine ⟨ps, ?_, tok⟩
    rw [upd_ne]; exact h
    rintro rfl
    exact hm _ h
end
mutual
def PV.Cl (n : Nat) : PV → Prop
  | .tup xs => Cls n xs
  | .ref i => i < n
  | .non => True
  | .bl _ => True
  | .int _ => True
  | .str _ => True
  | .ty _ => True
  | .glb _ => True
  | .scr _ => True
def Cls (n : Nat) : List PV → Prop
  | [] => True
  | x :: xs => x.Cl n ∧ Cls n xs
end
def Ob.Cl (n : Nat) : Ob → Prop
  | .lst xs => Cls n xs
  | .dct kvs => Cls n (kvs.map (·.2))
  | .ins _ fs => Cls n (fs.map (·.2))
  | .jar => True
  | .frd _ _ kvs => Cls n (kvs.map (·.2))
  | .pen _ => True
  | .exc _ _ => True
def Closed (n : Nat) (S : Sto) : Prop := ∀ (i : Nat) (o : Ob), S[i]? = some o → o.Cl n
section
variable {K : PySem.W.Frag} {M : Map} {n k : Nat} {H : Hp}
mutual
theorem RP.cl : ∀ {v : PV} {u : V}, RP K M n H v u → v.Cl n
  | _, _, .non => by simp [PV.Cl]
  | _, _, .bl b => by simp [PV.Cl]
  | _, _, .int i => by simp [PV.Cl]
  | _, _, .str x => by simp [PV.Cl]
  | _, _, .ty x => by simp [PV.Cl]
  | _, _, .glb a => by simp [PV.Cl]
  | _, _, .tup a b => by unfold PV.Cl; exact RPs.cl b
  | _, _, .ref (i := i) h => by unfold PV.Cl; exact h
  | _, _, .scr h => by simp [PV.Cl]
theorem RPs.cl : ∀ {v : List PV} {u : List V}, RPs K M n H v u → Cls n v
  | _, _, .nil => by simp [Cls]
  | _, _, .cons a b => by unfold Cls; exact ⟨RP.cl a, RPs.cl b⟩
end
mutual
theorem RP.cut : ∀ {v : PV} {u : V}, RP K M n H v u → v.Cl k → RP K M k H v u
  | _, _, .non, _ => .non
  | _, _, .bl b, _ => .bl b
  | _, _, .int i, _ => .int i
  | _, _, .str x, _ => .str x
  | _, _, .ty x, _ => .ty x
  | _, _, .glb a, _ => .glb a
  | _, _, .tup a b, c => .tup a (RPs.cut b (by unfold PV.Cl at c; exact c))
  | _, _, .ref (i := i) h, c => .ref (by unfold PV.Cl at c; exact c)
  | _, _, .scr h, _ => .scr h
theorem RPs.cut : ∀ {v : List PV} {u : List V}, RPs K M n H v u → Cls k v → RPs K M k H v u
  | _, _, .nil, _ => .nil
  | _, _, .cons a b, c => by unfold Cls at c; exact .cons (RP.cut a c.1) (RPs.cut b c.2)
end
theorem KR.cl {κ : Type} : ∀ {v : List (κ × PV)} {u : List (κ × V)}, KR K M n H v u → Cls n (v.map (·.2))
  | _, _, .nil => by simp [Cls]
  | _, _, .cons a b => by rw [List.map_cons]; unfold Cls; exact ⟨a.cl, KR.cl b⟩
theorem KR.cut {κ : Type} : ∀ {v : List (κ × PV)} {u : List (κ × V)}, KR K M n H v u → Cls k (v.map (·.2)) → KR K M k H v u
  | _, _, .nil, _ => .nil
  | _, _, .cons a b, c => by rw [List.map_cons] at c; unfold Cls at c; exact .cons (a.cut c.1) (KR.cut b c.2)
theorem ObR.cl {o : Ob} {a b : Addr} (h : ObR K M n H o a b) : o.Cl n := by
  cases o with
  | lst xs => obtain ⟨_, _, _, r⟩ := h; exact r.cl
  | dct xs => obtain ⟨_, _, _, r⟩ := h; exact r.cl
  | ins C fs => obtain ⟨_, _, _, r⟩ := h; exact r.cl
  | jar => exact True.intro
  | frd o us kvs => obtain ⟨_, _, r⟩ := h; exact r.cl
  | pen m => exact True.intro
  | exc c fs => exact True.intro
theorem ObR.cut {o : Ob} {a b : Addr} (h : ObR K M n H o a b) (c : o.Cl k) : ObR K M k H o a b := by
  cases o with
  | lst xs => obtain ⟨e, us, p, r⟩ := h; exact ⟨e, us, p, r.cut c⟩
  | dct xs => obtain ⟨e, us, p, r⟩ := h; exact ⟨e, us, p, r.cut c⟩
  | ins C fs => obtain ⟨us, p, q, r⟩ := h; exact ⟨us, p, q, r.cut c⟩
  | jar => exact h
  | frd o us kvs => obtain ⟨e, p, r⟩ := h; exact ⟨e, p, r.cut c⟩
  | pen m => exact h
  | exc c fs => exact h
end
section
variable {K : PySem.W.Frag} {M : Map} {S : Sto} {H : Hp}
theorem Sim.closed (s : Sim Ts K M S H) : Closed S.length S := fun i o h => (s.ob i o h).cl
/-- the newest things are forgotten -/
theorem Sim.forget {G : Sto} (s : Sim Ts K M (S ++ G) H) (c : Closed S.length S) : Sim Ts K M S H := by
  refine ⟨fun i o h => ?_, fun i j hi hj => s.sep i j (by rw [List.length_append]; omega) (by rw [List.length_append]; omega), s.tab⟩
  have hi := (List.getElem?_eq_some_iff.mp h).1
  exact (s.ob i o (by rw [List.getElem?_append_left hi]; exact h)).cut (c i o h)
theorem Stp.forget {M0 : Map} {n : Nat} {H0 : Hp} {k k' : Nat} (t : Stp Ts K M0 n H0 M k H) (h1 : n ≤ k') (h2 : k' ≤ k) : Stp Ts K M0 n H0 M k' H :=
  ⟨h1, t.m, t.q, t.tup, t.scr, t.fr, t.grow, fun i a b => t.new i a (by omega)⟩
end
abbrev Ev := List (Option PV)
structure StR (K : PySem.W.Frag) (M : Map) (n : Nat) (H : Hp) (τ : Ev) (σ : L2.St) : Prop where
  len : τ.length = σ.length
  get : ∀ (i : Nat) (v : PV), τ[i]? = some (some v) → ∃ u, σ[i]? = some (some u) ∧ RP K M n H v u
section
variable {K : PySem.W.Frag} {M M' : Map} {n n' : Nat} {H H' : Hp} {τ : Ev} {σ : L2.St}
theorem StR.stp (r : StR K M n H τ σ) (s : Stp Ts K M n H M' n' H') : StR K M' n' H' τ σ := ⟨r.len, fun i v h => let ⟨u, h1, h2⟩ := r.get i v h; ⟨u, h1, h2.stp s⟩⟩
theorem StR.set (r : StR K M n H τ σ) {v : PV} {u : V} (h : RP K M n H v u) (i : Nat) : StR K M n H (τ.set i (some v)) (σ.set i (some u)) := by
  refine ⟨by rw [List.length_set, List.length_set, r.len], fun j x hj => ?_⟩
  by_cases c : i = j
  · subst c
    have hl : i < τ.length := by
      have := (List.getElem?_eq_some_iff.mp hj).1
      rw [List.length_set] at this; exact this
    rw [List.getElem?_set_self hl] at hj
    cases hj
    exact ⟨u, by rw [List.getElem?_set_self (by rw [← r.len]; exact hl)], h⟩
  · rw [List.getElem?_set_ne c] at hj ⊢
    exact r.get j x hj
def wipeW (τ : Ev) : List Nat → Ev
  | [] => τ
  | v :: vs => (wipeW τ vs).set v none
theorem StR.none (r : StR K M n H τ σ) (i : Nat) : StR K M n H (τ.set i .none) (σ.set i .none) := by
  refine ⟨by rw [List.length_set, List.length_set, r.len], fun j x hj => ?_⟩
  by_cases c : i = j
  · subst c
    by_cases hl : i < τ.length
    · rw [List.getElem?_set_self hl] at hj; cases hj
    · rw [List.getElem?_eq_none (by rw [List.length_set]; omega)] at hj; cases hj
  · rw [List.getElem?_set_ne c] at hj ⊢
    exact r.get j x hj
theorem StR.wipe (r : StR K M n H τ σ) : ∀ vs : List Nat, StR K M n H (wipeW τ vs) (wipe σ vs)
  | [] => r
  | v :: vs => (StR.wipe r vs).none v
def startW (k : Nat) (vs : List PV) : Ev := vs.map some ++ List.replicate (k - vs.length) none
theorem RPs.start {N : List Str} {vs : List PV} {us : List V} (r : RPs K M n H vs us) : StR K M n H (startW N.length vs) (start N us) := by
  have e := r.length
  refine ⟨by simp [startW, L2.start, e], fun i v h => ?_⟩
  unfold startW at h
  unfold L2.start
  by_cases c : i < vs.length
  · rw [List.getElem?_append_left (by simpa using c), List.getElem?_map] at h
    cases q : vs[i]? with
    | none => rw [q] at h; cases h
    | some y =>
      rw [q] at h
      cases h
      obtain ⟨u, h1, h2⟩ := r.get q
      exact ⟨u, by rw [List.getElem?_append_left (by simp; omega), List.getElem?_map, h1]; rfl, h2⟩
  · rw [List.getElem?_append_right (by simp; omega)] at h
    rw [List.getElem?_replicate] at h
    split at h
    · cases h
    · cases h
end
end L4
set_option Elab.async false
set_option linter.all false
set_option maxRecDepth 100000
namespace L4
open PySem PySem.Spec PyProof.Rows L2 L3
abbrev WQ := PV → Sto → Prop
abbrev WE := Ev → Sto → WQ → Prop
abbrev WT := Ev → Sto → (Bool → Sto → Prop) → Prop
abbrev WA := Ev → Sto → (List PV → Sto → Prop) → Prop
section
variable (Ts : List Addr) (K : PySem.W.Frag) (M : Map) (n : Nat) (H : Hp)
def upQ (Q : VK) : WQ := fun v S => ∀ M' H' u, Stp Ts K M n H M' S.length H' → Sim Ts K M' S H' → RP K M' S.length H' v u → Q u H'
def upB (Q : Bool → Hp → Prop) : Bool → Sto → Prop := fun b S => ∀ M' H', Stp Ts K M n H M' S.length H' → Sim Ts K M' S H' → Q b H'
def upL (Q : List V → Hp → Prop) : List PV → Sto → Prop := fun v S => ∀ M' H' u, Stp Ts K M n H M' S.length H' → Sim Ts K M' S H' → RPs K M' S.length H' v u → Q u H'
end
def upE (Ts : List Addr) (K : PySem.W.Frag) (w : WE) : TE := fun σ H Q => ∃ M S τ, Sim Ts K M S H ∧ StR K M S.length H τ σ ∧ w τ S (upQ Ts K M S.length H Q)
def upT (Ts : List Addr) (K : PySem.W.Frag) (w : WT) : TT := fun σ H Q => ∃ M S τ, Sim Ts K M S H ∧ StR K M S.length H τ σ ∧ w τ S (upB Ts K M S.length H Q)
def upA (Ts : List Addr) (K : PySem.W.Frag) (w : WA) : TA := fun σ H Q => ∃ M S τ, Sim Ts K M S H ∧ StR K M S.length H τ σ ∧ w τ S (upL Ts K M S.length H Q)
abbrev MoE (w : WE) : Prop := ∀ (τ : Ev) (S : Sto) (Q Q' : WQ), w τ S Q → (∀ v S', Q v S' → Q' v S') → w τ S Q'
abbrev MoT (w : WT) : Prop := ∀ (τ : Ev) (S : Sto) (Q Q' : Bool → Sto → Prop), w τ S Q → (∀ v S', Q v S' → Q' v S') → w τ S Q'
abbrev MoA (w : WA) : Prop := ∀ (τ : Ev) (S : Sto) (Q Q' : List PV → Sto → Prop), w τ S Q → (∀ v S', Q v S' → Q' v S') → w τ S Q'
structure SE (Ts : List Addr) (X : Cx) (e : Expr) (w : WE) : Prop where
  pe : PE X e (upE Ts X.K w)
  mo : MoE w
structure ST (Ts : List Addr) (X : Cx) (e : Expr) (w : WT) : Prop where
  pt : PT X e (upT Ts X.K w)
  mo : MoT w
structure SW (Ts : List Addr) (X : Cx) (e : Expr) (w : WT) : Prop where
  pw : PW X e (upT Ts X.K w)
  mo : MoT w
structure SA (Ts : List Addr) (X : Cx) (es : List Expr) (w : WA) : Prop where
  pa : PA X es (upA Ts X.K w)
  mo : MoA w
theorem pe_imp {X : Cx} {e : Expr} {t t' : TE} (h : PE X e t) (k : ∀ σ H Q, t' σ H Q → t σ H Q) : PE X e t' := fun pins s σ H Q I q => h pins s σ H Q I (k _ _ _ q)
theorem pt_imp {X : Cx} {e : Expr} {t t' : TT} (h : PT X e t) (k : ∀ σ H Q, t' σ H Q → t σ H Q) : PT X e t' := fun pins s σ H Q I q => h pins s σ H Q I (k _ _ _ q)
theorem pw_imp {X : Cx} {e : Expr} {t t' : TT} (h : PW X e t) (k : ∀ σ H Q, t' σ H Q → t σ H Q) : PW X e t' := fun wh pins s σ H Q I q => h wh pins s σ H Q I (k _ _ _ q)
theorem pa_imp {X : Cx} {e : List Expr} {t t' : TA} (h : PA X e t) (k : ∀ σ H Q, t' σ H Q → t σ H Q) : PA X e t' := fun po pins s σ H Q I q => h po pins s σ H Q I (k _ _ _ q)
section
variable {K : PySem.W.Frag} {M : Map} {S : Sto} {H : Hp} {τ : Ev} {σ : L2.St}
theorem runE {w : WE} (mo : MoE w) (s : Sim Ts K M S H) (r : StR K M S.length H τ σ) {F : WQ} (hw : w τ S F) {Q : VK} (k : ∀ v S1 M1 H1 u, F v S1 → Stp Ts K M S.length H M1 S1.length H1 → Sim Ts K M1 S1 H1 → RP K M1 S1.length H1 v u → Q u H1) : upE Ts K w σ H Q :=
  ⟨M, S, τ, s, r, mo _ _ _ _ hw fun v S1 f M1 H1 u t s r => k v S1 M1 H1 u f t s r⟩
theorem runT {w : WT} (mo : MoT w) (s : Sim Ts K M S H) (r : StR K M S.length H τ σ) {F : Bool → Sto → Prop} (hw : w τ S F) {Q : Bool → Hp → Prop} (k : ∀ v S1 M1 H1, F v S1 → Stp Ts K M S.length H M1 S1.length H1 → Sim Ts K M1 S1 H1 → Q v H1) : upT Ts K w σ H Q :=
  ⟨M, S, τ, s, r, mo _ _ _ _ hw fun v S1 f M1 H1 t s => k v S1 M1 H1 f t s⟩
theorem runA {w : WA} (mo : MoA w) (s : Sim Ts K M S H) (r : StR K M S.length H τ σ) {F : List PV → Sto → Prop} (hw : w τ S F) {Q : List V → Hp → Prop} (k : ∀ v S1 M1 H1 u, F v S1 → Stp Ts K M S.length H M1 S1.length H1 → Sim Ts K M1 S1 H1 → RPs K M1 S1.length H1 v u → Q u H1) : upA Ts K w σ H Q :=
  ⟨M, S, τ, s, r, mo _ _ _ _ hw fun v S1 f M1 H1 u t s r => k v S1 M1 H1 u f t s r⟩
theorem upQ.go {n : Nat} {Q : VK} {v : PV} {M1 : Map} {H1 : Hp} {S1 : Sto} {u : V} (h : upQ Ts K M n H Q v S1) (t : Stp Ts K M n H M1 S1.length H1) (s : Sim Ts K M1 S1 H1) (r : RP K M1 S1.length H1 v u) : Q u H1 := h M1 H1 u t s r
theorem upQ.base {n n2 : Nat} {Q : VK} {v : PV} {M2 : Map} {H2 : Hp} {S1 : Sto} (h : upQ Ts K M n H Q v S1) (t : Stp Ts K M n H M2 n2 H2) : upQ Ts K M2 n2 H2 Q v S1 := fun M' H' u t' s r => h M' H' u (t.trans t') s r
theorem upQ.here {Q : VK} {v : PV} {u : V} (h : upQ Ts K M S.length H Q v S) (s : Sim Ts K M S H) (r : RP K M S.length H v u) : Q u H := h M H u (.refl _ _ _ _) s r
theorem upQ.tup {Q : VK} {xs : List PV} {us : List V} (h : upQ Ts K M S.length H Q (.tup xs) S) (s : Sim Ts K M S H) (r : RPs K M S.length H xs us) : ∀ p, H p = none → Q (.ref p) (upd H p (.tup us)) := fun p hp =>
  let ⟨s1, t1⟩ := s.beside (o := .tup us) hp
  h M _ _ t1 s1 (.tup (SqT.of upd_same) (r.stp t1))
theorem upQ.lst {Q : VK} {xs : List PV} {us : List V} (h : upQ Ts K M S.length H Q (.ref S.length) (S ++ [.lst xs])) (s : Sim Ts K M S H) (r : RPs K M S.length H xs us) : ∀ p, H p = none → Q (.ref p) (upd H p (.lst us)) := fun p hp => by
  obtain ⟨s1, t1⟩ := s.alloc (o := .lst us) (ob := .lst xs) hp (fun M' H' t e => ⟨rfl, us, e, r.stp t⟩)
  refine h _ _ _ t1 s1 ?_
  have := RP.ref (K := K) (M := M.add S.length p p) (n := (S ++ [Ob.lst xs]).length) (H := upd H p (.lst us)) (i := S.length) (by simp)
  rw [M.add_m] at this
  exact this
theorem upQ.put {Q : VK} {v : PV} {u : V} {i : Nat} {old xs : List PV} {us : List V} (h : upQ Ts K M S.length H Q v (S.set i (.lst xs))) (s : Sim Ts K M S H) (hi : S[i]? = some (.lst old)) (r : RPs K M S.length H xs us) (rv : RP K M S.length H v u) : Q u (upd H (M.m i) (.lst us)) := by
  have e := (s.ob i _ hi).1
  obtain ⟨s1, t1⟩ := s.put (new := .lst xs) (o := .lst us) hi (fun H' t e1 _ => ⟨e, us, e1, r.stp t⟩)
  exact h _ _ _ t1 s1 (rv.stp t1)
theorem Sim.lst (s : Sim Ts K M S H) {i : Nat} {xs : List PV} (h : S[i]? = some (.lst xs)) : ∃ us, H (M.m i) = some (.lst us) ∧ RPs K M S.length H xs us := (s.ob i _ h).2
theorem Sim.dct (s : Sim Ts K M S H) {i : Nat} {xs : List (Key × PV)} (h : S[i]? = some (.dct xs)) : ∃ us, H (M.m i) = some (.dK us) ∧ KR K M S.length H xs us := (s.ob i _ h).2
end
def seqW (S : Sto) : PV → Option (Bool × List PV)
  | .tup xs => some (true, xs)
  | .ref i => match S[i]? with
    | some (.lst xs) => some (false, xs)
    | _ => none
  | .scr ns => some (false, ns.map .int)
  | _ => none
theorem seqW_tup (S : Sto) (xs : List PV) : seqW S (.tup xs) = some (true, xs) := rfl
theorem seqW_ref {S : Sto} {i : Nat} {xs : List PV} (h : S[i]? = some (.lst xs)) : seqW S (.ref i) = some (false, xs) := by simp only [seqW, h]
section
variable {K : PySem.W.Frag} {M : Map} {S : Sto} {H : Hp}
theorem Sim.seq (s : Sim Ts K M S H) {x : PV} {u : V} {k : Bool} {xs : List PV} (h : seqW S x = some (k, xs)) (r : RP K M S.length H x u) : ∃ a us, u = .ref a ∧ SqX k K H a us ∧ RPs K M S.length H xs us := by
  cases r with
  | tup h1 h2 => cases h; exact ⟨_, _, rfl, h1, h2⟩
  | @ref i hi =>
    cases q : S[i]? with
    | none => simp only [seqW, q] at h; cases h
    | some o =>
      simp only [seqW, q] at h
      cases o with
      | lst ys =>
        cases h
        obtain ⟨us, h1, h2⟩ := s.lst q
        exact ⟨_, us, rfl, SqL.of h1, h2⟩
      | dct _ => cases h
      | ins _ _ => cases h
      | jar => cases h
      | frd _ _ _ => cases h
      | pen _ => cases h
      | exc _ _ => cases h
  | scr h1 => cases h; exact ⟨_, _, rfl, h1.sql, .ints _⟩
  | _ => cases h
end
abbrev W2 := PV → PV → Sto → WQ → Prop
def Snd2 (Ts : List Addr) (K : PySem.W.Frag) (R : R2) (r : W2) : Prop := ∀ (M : Map) (S : Sto) (H : Hp) (x y : PV) (a b : V) (Q : VK), Sim Ts K M S H → RP K M S.length H x a → RP K M S.length H y b → r x y S (upQ Ts K M S.length H Q) → R a b H Q
abbrev Mo2 (r : W2) : Prop := ∀ (x y : PV) (S : Sto) (Q Q' : WQ), r x y S Q → (∀ v S', Q v S' → Q' v S') → r x y S Q'
structure S2 (Ts : List Addr) (X : Cx) (f : Value → Value → Sem Value) (r : W2) : Prop where
  ex : ∃ R, OpR X f R ∧ Snd2 Ts X.K R r
  mo : Mo2 r
def wOp (r : W2) (wa wb : WE) : WE := fun τ S Q => wa τ S fun x S1 => wb τ S1 fun y S2 => r x y S2 Q
theorem opR_or {X : Cx} {f : Value → Value → Sem Value} {r r' : R2} (h : OpR X f r) (h' : OpR X f r') : OpR X f (fun x y H Q => r x y H Q ∨ r' x y H Q) := fun pins s σ H x y v u Q I rx ry q => q.elim (h pins s σ H x y v u Q I rx ry) (h' pins s σ H x y v u Q I rx ry)
section
variable {X : Cx} {a b c : Expr} {wa wb wc : WE} {pos : Pos}
theorem mo_op {r : W2} (h : Mo2 r) (ha : MoE wa) (hb : MoE wb) : MoE (wOp r wa wb) := fun τ S Q Q' h0 k => ha _ _ _ _ h0 fun v S1 h1 => hb _ _ _ _ h1 fun u S2 h2 => h _ _ _ _ _ h2 k
theorem op_bind {K : PySem.W.Frag} {R : R2} {r : W2} (hs : Snd2 Ts K R r) (hm : Mo2 r) (ha : MoE wa) (hb : MoE wb) {σ : L2.St} {H : Hp} {Q : VK} (h : upE Ts K (wOp r wa wb) σ H Q) : tOp R (upE Ts K wa) (upE Ts K wb) σ H Q := by
  obtain ⟨M, S, τ, s, st, h⟩ := h
  refine runE ha s st h fun v S1 M1 H1 u f t1 s1 r1 => ?_
  refine runE hb s1 (st.stp t1) f fun v2 S2 M2 H2 u2 f2 t2 s2 r2 => ?_
  exact hs M2 S2 H2 v v2 u u2 Q s2 (r1.stp t2) r2 (hm _ _ _ _ _ f2 fun w S3 h3 => h3.base (t1.trans t2))
theorem se_op {op : Operator} {r : W2} (ho : S2 Ts X (binaryOp op) r) (ha : SE Ts X a wa) (hb : SE Ts X b wb) : SE Ts X (.BinOp a op b pos) (wOp r wa wb) :=
  let ⟨_, o, s⟩ := ho.ex
  ⟨pe_imp (pe_op o ha.pe hb.pe) fun _ _ _ h => op_bind s ho.mo ha.mo hb.mo h, mo_op ho.mo ha.mo hb.mo⟩
theorem se_cmp {op : CmpOp} {r : W2} (ho : S2 Ts X (compareOp op) r) (ha : SE Ts X a wa) (hb : SE Ts X b wb) (hm : behindInMarks op b = false) : SE Ts X (.Compare a [op] [b] pos) (wOp r wa wb) :=
  let ⟨_, o, s⟩ := ho.ex
  ⟨pe_imp (pe_cmpR o ha.pe hb.pe hm) fun _ _ _ h => op_bind s ho.mo ha.mo hb.mo h, mo_op ho.mo ha.mo hb.mo⟩
/-- a truth as a test -/
def wTest (w : WE) : WT := fun τ S Q => w τ S fun v S1 => ∃ b, v = .bl b ∧ Q b S1
theorem mo_test (ha : MoE wa) : MoT (wTest wa) := fun τ S Q Q' h0 k => ha _ _ _ _ h0 fun v S1 ⟨b, e, q⟩ => ⟨b, e, k _ _ q⟩
theorem test_bind {K : PySem.W.Frag} (ha : MoE wa) {σ : L2.St} {H : Hp} {Q : Bool → Hp → Prop} (h : upT Ts K (wTest wa) σ H Q) : tB (upE Ts K wa) σ H Q := by
  obtain ⟨M, S, τ, s, st, h⟩ := h
  refine runE ha s st h fun v S1 M1 H1 u f t1 s1 r1 => ?_
  obtain ⟨b, rfl, q⟩ := f
  cases r1
  exact ⟨b, rfl, q M1 H1 t1 s1⟩
theorem st_val (ha : SE Ts X a wa) (he : ∀ whole, isTrue a X.env whole = (do let v ← whole; standAt a.pos; holding [v] (truthy v)) := by intro _; rfl) : ST Ts X a (wTest wa) :=
  ⟨pt_imp (pt_val ha.pe he) fun _ _ _ h => test_bind ha.mo h, mo_test ha.mo⟩
theorem st_cmp {op : CmpOp} {r : W2} (ho : S2 Ts X (compareOp op) r) (ha : SE Ts X a wa) (hb : SE Ts X b wb) (hm : behindInMarks op b = false) : ST Ts X (.Compare a [op] [b] pos) (wTest (wOp r wa wb)) := by
  obtain ⟨R, o, s⟩ := ho.ex
  refine ⟨pt_imp (pt_cmpR o ha.pe hb.pe hm) fun σ H Q h => ?_, mo_test (mo_op ho.mo ha.mo hb.mo)⟩
  obtain ⟨M, S, τ, s0, st, h⟩ := h
  refine op_bind s ho.mo ha.mo hb.mo ⟨M, S, τ, s0, st, mo_op ho.mo ha.mo hb.mo _ _ _ _ h fun v S1 ⟨b, e, q⟩ M1 H1 u t1 s1 r1 => ?_⟩
  subst e
  cases r1
  exact ⟨b, rfl, q M1 H1 t1 s1⟩
def wVar (i : Nat) : WE := fun τ S Q => ∃ v, τ[i]? = some (some v) ∧ Q v S
def wC (v : PV) : WE := fun _ S Q => Q v S
theorem se_var {i : Nat} {x : Str} (hN : X.N[i]? = some x) (hv : Vis X.env.scope x) (hd : (x == ("__debug__" : Str)) = false := by decide) (hcd : (x == ("__classdict__" : Str)) = false := by decide) : SE Ts X (.Name x pos) (wVar i) := by
  refine ⟨pe_imp (pe_var hN hv hd hcd) fun σ H Q h => ?_, fun τ S Q Q' ⟨v, e, q⟩ k => ⟨v, e, k _ _ q⟩⟩
  obtain ⟨M, S, τ, s, st, v, e, h⟩ := h
  obtain ⟨u, e1, r⟩ := st.get i v e
  exact ⟨u, e1, h.here s r⟩
theorem se_c {e : Expr} {v : PV} {u : V} (h : PE X e (tC u)) (r : ∀ M n H, RP X.K M n H v u) : SE Ts X e (wC v) := by
  refine ⟨pe_imp h fun σ H Q h => ?_, fun τ S Q Q' q k => k _ _ q⟩
  obtain ⟨M, S, τ, s, st, h⟩ := h
  exact upQ.here h s (r _ _ _)
theorem se_int {i j} : SE Ts X (.Constant (.int i) j pos) (wC (.int i)) := se_c pe_int fun _ _ _ => .int _
theorem se_bl {b j} : SE Ts X (.Constant (.bool b) j pos) (wC (.bl b)) := se_c pe_bl fun _ _ _ => .bl _
theorem se_non {j} : SE Ts X (.Constant .none j pos) (wC .non) := se_c pe_non fun _ _ _ => .non
theorem se_str {x j} : SE Ts X (.Constant (.str x) j pos) (wC (.str x)) := se_c pe_str fun _ _ _ => .str _
def wAnd (u v : WT) : WT := fun τ S Q => u τ S fun c S1 => if c = true then v τ S1 Q else Q false S1
def wOr (u v : WT) : WT := fun τ S Q => u τ S fun c S1 => if c = true then Q true S1 else v τ S1 Q
def wNot (u : WT) : WT := fun τ S Q => u τ S fun c S1 => Q (!c) S1
theorem upB.base {K : PySem.W.Frag} {M M2 : Map} {n n2 : Nat} {H H2 : Hp} {Q : Bool → Hp → Prop} {b : Bool} {S : Sto} (t : Stp Ts K M n H M2 n2 H2) (h : upB Ts K M n H Q b S) : upB Ts K M2 n2 H2 Q b S := fun M' H' t' s => h M' H' (t.trans t') s
theorem ite_imp {c : Bool} {A B A' B' : Prop} (h : if c = true then A else B) (ha : A → A') (hb : B → B') : if c = true then A' else B' := by
  cases c
  · exact hb h
  · exact ha h
theorem sw_or1 {wt : WT} (ha : ST Ts X a wt) : SW Ts X (.BoolOp .Or [a] pos) wt := ⟨pw_or1 ha.pt, ha.mo⟩
theorem sw_or {rest : List Expr} {wt wu : WT} (ha : ST Ts X a wt) (hb : SW Ts X (.BoolOp .Or (b :: rest) pos) wu) : SW Ts X (.BoolOp .Or (a :: b :: rest) pos) (wOr wt wu) := by
  refine ⟨pw_imp (pw_or ha.pt hb.pw) fun σ H Q h => ?_, fun τ S Q Q' h0 k => ha.mo _ _ _ _ h0 fun v S1 h1 => ite_imp h1 (fun h => k _ _ h) (fun h => hb.mo _ _ _ _ h k)⟩
  obtain ⟨M, S, τ, s, st, h⟩ := h
  refine runT ha.mo s st h fun c S1 M1 H1 f t1 s1 => ite_imp f (fun f => f M1 H1 t1 s1) fun f => ?_
  exact runT hb.mo s1 (st.stp t1) f fun d S2 M2 H2 f2 t2 s2 => f2 M2 H2 (t1.trans t2) s2
theorem SW.st {wt : WT} (h : SW Ts X a wt) : ST Ts X a wt := ⟨h.pw.pt, h.mo⟩
theorem st_not {wt : WT} (ha : ST Ts X a wt) : ST Ts X (.UnaryOp .Not a pos) (wNot wt) := by
  refine ⟨pt_imp (pt_not ha.pt) fun σ H Q h => ?_, fun τ S Q Q' h0 k => ha.mo _ _ _ _ h0 fun v S1 h1 => k _ _ h1⟩
  obtain ⟨M, S, τ, s, st, h⟩ := h
  exact runT ha.mo s st h fun c S1 M1 H1 f t1 s1 => f M1 H1 t1 s1
def wAndV (u v : WE) : WE := fun τ S Q => u τ S fun x S1 => ∃ c, x = .bl c ∧ if c = true then v τ S1 Q else Q (.bl false) S1
def wOrV (u v : WE) : WE := fun τ S Q => u τ S fun x S1 => ∃ c, x = .bl c ∧ if c = true then Q (.bl true) S1 else v τ S1 Q
def wNotV (u : WE) : WE := fun τ S Q => u τ S fun x S1 => ∃ c, x = .bl c ∧ Q (.bl (!c)) S1
theorem se_one {op} (h : SE Ts X a wa) : SE Ts X (.BoolOp op [a] pos) wa := ⟨pe_one h.pe, h.mo⟩
theorem se_and {rest : List Expr} (ha : SE Ts X a wa) (hb : SE Ts X (.BoolOp .And (b :: rest) pos) wb) : SE Ts X (.BoolOp .And (a :: b :: rest) pos) (wAndV wa wb) := by
  refine ⟨pe_imp (pe_and ha.pe hb.pe) fun σ H Q h => ?_, fun τ S Q Q' h0 k => ha.mo _ _ _ _ h0 fun v S1 ⟨c, e, h1⟩ => ⟨c, e, ite_imp h1 (fun h => hb.mo _ _ _ _ h k) (fun h => k _ _ h)⟩⟩
  obtain ⟨M, S, τ, s, st, h⟩ := h
  refine runE ha.mo s st h fun v S1 M1 H1 u f t1 s1 r1 => ?_
  obtain ⟨c, rfl, f⟩ := f
  cases r1
  refine ⟨c, rfl, ite_imp f (fun f => ?_) fun f => f M1 H1 _ t1 s1 (.bl _)⟩
  exact runE hb.mo s1 (st.stp t1) f fun d S2 M2 H2 u f2 t2 s2 r2 => f2 M2 H2 u (t1.trans t2) s2 r2
theorem se_not (ha : SE Ts X a wa) : SE Ts X (.UnaryOp .Not a pos) (wNotV wa) := by
  refine ⟨pe_imp (pe_not ha.pe) fun σ H Q h => ?_, fun τ S Q Q' h0 k => ha.mo _ _ _ _ h0 fun v S1 ⟨c, e, h1⟩ => ⟨c, e, k _ _ h1⟩⟩
  obtain ⟨M, S, τ, s, st, h⟩ := h
  refine runE ha.mo s st h fun v S1 M1 H1 u f t1 s1 r1 => ?_
  obtain ⟨c, rfl, f⟩ := f
  cases r1
  exact ⟨c, rfl, f M1 H1 _ t1 s1 (.bl _)⟩
def wIf (c : WT) (u v : WE) : WE := fun τ S Q => c τ S fun b S1 => if b = true then u τ S1 Q else v τ S1 Q
theorem se_ifExp {wt : WT} (hc : ST Ts X c wt) (ha : SE Ts X a wa) (hb : SE Ts X b wb) : SE Ts X (.IfExp c a b pos) (wIf wt wa wb) := by
  refine ⟨pe_imp (pe_ifExp hc.pt ha.pe hb.pe) fun σ H Q h => ?_, fun τ S Q Q' h0 k => hc.mo _ _ _ _ h0 fun v S1 h1 => ite_imp h1 (fun h => ha.mo _ _ _ _ h k) (fun h => hb.mo _ _ _ _ h k)⟩
  obtain ⟨M, S, τ, s, st, h⟩ := h
  refine runT hc.mo s st h fun v S1 M1 H1 f t1 s1 => ite_imp f (fun f => ?_) (fun f => ?_)
  · exact runE ha.mo s1 (st.stp t1) f fun d S2 M2 H2 u f2 t2 s2 r2 => f2 M2 H2 u (t1.trans t2) s2 r2
  · exact runE hb.mo s1 (st.stp t1) f fun d S2 M2 H2 u f2 t2 s2 r2 => f2 M2 H2 u (t1.trans t2) s2 r2
def wNil : WA := fun _ S Q => Q [] S
def wCons (wa : WE) (wr : WA) : WA := fun τ S Q => wa τ S fun x S1 => wr τ S1 fun xs S2 => Q (x :: xs) S2
theorem sa_nil : SA Ts X [] wNil := by
  refine ⟨pa_imp pa_nil fun σ H Q h => ?_, fun τ S Q Q' h0 k => k _ _ h0⟩
  obtain ⟨M, S, τ, s, st, h⟩ := h
  exact h M H [] (.refl _ _ _ _) s .nil
theorem sa_cons {es : List Expr} {wr : WA} (ha : SE Ts X a wa) (hr : SA Ts X es wr) (hs : starEach (a :: es) X.env = (false, eval a X.env) :: starEach es X.env := by rfl) : SA Ts X (a :: es) (wCons wa wr) := by
  refine ⟨pa_imp (pa_cons ha.pe hr.pa hs) fun σ H Q h => ?_, fun τ S Q Q' h0 k => ha.mo _ _ _ _ h0 fun v S1 h1 => hr.mo _ _ _ _ h1 fun vs S2 h2 => k _ _ h2⟩
  obtain ⟨M, S, τ, s, st, h⟩ := h
  refine runE ha.mo s st h fun v S1 M1 H1 u f t1 s1 r1 => ?_
  exact runA hr.mo s1 (st.stp t1) f fun d S2 M2 H2 us f2 t2 s2 r2 => f2 M2 H2 _ (t1.trans t2) s2 (.cons (r1.stp t2) r2)
def wTup (w : WA) : WE := fun τ S Q => w τ S fun xs S1 => xs.length ≤ 16777216 ∧ Q (.tup xs) S1
def wLst (w : WA) : WE := fun τ S Q => w τ S fun xs S1 => xs.length ≤ 16777216 ∧ Q (.ref S1.length) (S1 ++ [.lst xs])
theorem se_tup {es : List Expr} {w : WA} {x1} (h : SA Ts X es w) : SE Ts X (.Tuple es x1 pos) (wTup w) := by
  refine ⟨pe_imp (pe_tup h.pa) fun σ H Q q => ?_, fun τ S Q Q' h0 k => h.mo _ _ _ _ h0 fun v S1 h1 => ⟨h1.1, k _ _ h1.2⟩⟩
  obtain ⟨M, S, τ, s, st, q⟩ := q
  refine runA h.mo s st q fun v S1 M1 H1 us f t1 s1 r1 => ⟨by rw [← r1.length, sizeLine_eq]; exact f.1, (f.2.base t1).tup s1 r1⟩
theorem se_lst {es : List Expr} {w : WA} (h : SA Ts X es w) : SE Ts X (.List es pos) (wLst w) := by
  refine ⟨pe_imp (pe_lst h.pa) fun σ H Q q => ?_, fun τ S Q Q' h0 k => h.mo _ _ _ _ h0 fun v S1 h1 => ⟨h1.1, k _ _ h1.2⟩⟩
  obtain ⟨M, S, τ, s, st, q⟩ := q
  refine runA h.mo s st q fun v S1 M1 H1 us f t1 s1 r1 => ⟨by rw [← r1.length, sizeLine_eq]; exact f.1, (f.2.base t1).lst s1 r1⟩
end
end L4
set_option Elab.async false
set_option linter.all false
set_option maxRecDepth 100000
namespace L4
open PySem PySem.Spec PyProof.Rows L2 L3
section
variable {X : Cx}
def rAddW : W2
  | .int i, .int j, S, Q => Q (.int (i + j)) S
  | .str i, .str j, S, Q => i.length + j.length ≤ 16777216 ∧ Q (.str (i ++ j)) S
  | .tup xs, .tup ys, S, Q => xs.length + ys.length ≤ 16777216 ∧ Q (.tup (xs ++ ys)) S
  | .ref i, .ref j, S, Q => ∃ xs ys, S[i]? = some (.lst xs) ∧ S[j]? = some (.lst ys) ∧ xs.length + ys.length ≤ 16777216 ∧ Q (.ref S.length) (S ++ [.lst (xs ++ ys)])
  | _, _, _, _ => False
theorem s_add : S2 Ts X (binaryOp .Add) rAddW := by
  refine ⟨⟨_, opR_or op_add (opR_or op_add_str (opR_or op_catG op_cat)), fun M S H x y a b Q s rx ry h => ?_⟩, fun x y S Q Q' h k => ?_⟩
  · cases rx <;> cases ry <;> try exact False.elim h
    case int.int => exact .inl ⟨_, _, rfl, rfl, upQ.here h s (.int _)⟩
    case str.str => exact .inr (.inl ⟨_, _, rfl, rfl, by rw [sizeLine_eq]; exact h.1, h.2.here s (.str _)⟩)
    case tup.tup h1 r1 _ _ _ h2 r2 =>
      refine .inr (.inr (.inl ⟨_, _, _, _, rfl, rfl, h1, h2, by rw [sizeLine_eq, ← r1.length, ← r2.length]; exact h.1, fun e => ?_, fun _ e => ?_, fun _ _ => ?_⟩))
      · subst e; cases r1
        exact h.2.here s (.tup h2 r2)
      · subst e; cases r2
        have q := h.2
        rw [List.append_nil] at q
        exact q.here s (.tup h1 r1)
      · exact h.2.tup s (r1.append r2)
    case ref.ref i hi j hj =>
      obtain ⟨xs, ys, e1, e2, hl, q⟩ := h
      obtain ⟨us, p1, r1⟩ := s.lst e1
      obtain ⟨ws, p2, r2⟩ := s.lst e2
      exact .inr (.inr (.inr ⟨_, _, _, _, rfl, rfl, p1, p2, by rw [sizeLine_eq, ← r1.length, ← r2.length]; exact hl, q.lst s (r1.append r2)⟩))
  · cases x <;> cases y <;> try exact False.elim h
    case int.int => exact k _ _ h
    case str.str => exact ⟨h.1, k _ _ h.2⟩
    case tup.tup => exact ⟨h.1, k _ _ h.2⟩
    case ref.ref =>
      obtain ⟨xs, ys, e1, e2, hl, q⟩ := h
      exact ⟨xs, ys, e1, e2, hl, k _ _ q⟩
/-- whole numbers -/
def rIW (C : Int → Int → Prop) (g : Int → Int → PV) : W2
  | .int i, .int j, S, Q => C i j ∧ Q (g i j) S
  | _, _, _, _ => False
def rI0W (g : Int → Int → PV) : W2
  | .int i, .int j, S, Q => Q (g i j) S
  | _, _, _, _ => False
theorem s_int0b {f : Value → Value → Sem Value} {g : Int → Int → Bool} (h : OpR X f (rI0 fun i j => .bl (g i j))) : S2 Ts X f (rI0W fun i j => .bl (g i j)) := by
  refine ⟨⟨_, h, fun M S H x y a b Q s rx ry h => ?_⟩, fun x y S Q Q' h k => ?_⟩
  · cases rx <;> cases ry <;> try exact False.elim h
    exact ⟨_, _, rfl, rfl, upQ.here h s (.bl _)⟩
  · cases x <;> cases y <;> try exact False.elim h
    exact k _ _ h
theorem s_lt : S2 Ts X (compareOp .Lt) (rI0W fun i j => .bl (decide (i < j))) := s_int0b op_lt
theorem s_gt : S2 Ts X (compareOp .Gt) (rI0W fun i j => .bl (decide (j < i))) := s_int0b op_gt
theorem RPs.rep {K : PySem.W.Frag} {M : Map} {n : Nat} {H : Hp} {xs : List PV} {us : List V} (r : RPs K M n H xs us) : ∀ k : Nat, RPs K M n H (List.replicate k xs).flatten (List.replicate k us).flatten
  | 0 => .nil
  | k + 1 => by rw [List.replicate_succ, List.replicate_succ, List.flatten_cons, List.flatten_cons]; exact r.append (RPs.rep r k)
theorem flat_nils {α : Type} : ∀ k : Nat, (List.replicate k ([] : List α)).flatten = []
  | 0 => rfl
  | k + 1 => by rw [List.replicate_succ, List.flatten_cons, flat_nils k]; rfl
def rMulW : W2
  | .int i, .int j, S, Q => CMul i j ∧ Q (.int (i * j)) S
  | .tup xs, .int k, S, Q => -9223372036854775808 ≤ k ∧ k < 9223372036854775808 ∧ xs.length * k.toNat ≤ 16777216 ∧ Q (.tup (List.replicate k.toNat xs).flatten) S
  | .ref i, .int k, S, Q => ∃ xs, S[i]? = some (.lst xs) ∧ -9223372036854775808 ≤ k ∧ k < 9223372036854775808 ∧ xs.length * k.toNat ≤ 16777216 ∧ Q (.ref S.length) (S ++ [.lst (List.replicate k.toNat xs).flatten])
  | _, _, _, _ => False
theorem s_mul : S2 Ts X (binaryOp .Mult) rMulW := by
  refine ⟨⟨_, opR_or op_mul (opR_or op_repT (opR_or op_rep op_repT0)), fun M S H x y a b Q s rx ry h => ?_⟩, fun x y S Q Q' h k => ?_⟩
  · cases rx <;> cases ry <;> try exact False.elim h
    case int.int => exact .inl ⟨_, _, rfl, rfl, h.1, h.2.here s (.int _)⟩
    case tup.int h1 r1 k =>
      obtain ⟨h2, h3, h4, q⟩ := h
      rename_i xs us a
      by_cases e : us = []
      · subst e
        cases r1
        refine .inr (.inr (.inr ⟨_, _, rfl, rfl, h1, by omega, by omega, ?_⟩))
        refine q.here s ?_
        rw [flat_nils]
        exact .tup h1 .nil
      refine .inr (.inl ⟨_, _, _, rfl, rfl, h1, e, by omega, by omega, by rw [sizeLine_eq, ← r1.length]; exact h4, fun z => ?_, fun z => ?_⟩)
      · subst z
        refine q.here s ?_
        simp [List.replicate]
        exact .tup h1 r1
      · exact q.tup s (r1.rep _)
    case ref.int i hi k =>
      obtain ⟨xs, e1, h2, h3, h4, q⟩ := h
      obtain ⟨us, p1, r1⟩ := s.lst e1
      exact .inr (.inr (.inl ⟨_, _, _, rfl, rfl, p1, by omega, by omega, by rw [sizeLine_eq, ← r1.length]; exact h4, q.lst s (r1.rep _)⟩))
  · cases x <;> cases y <;> try exact False.elim h
    case int.int => exact ⟨h.1, k _ _ h.2⟩
    case tup.int =>
      obtain ⟨h2, h3, h4, q⟩ := h
      exact ⟨h2, h3, h4, k _ _ q⟩
    case ref.int =>
      obtain ⟨xs, e1, h2, h3, h4, q⟩ := h
      exact ⟨xs, e1, h2, h3, h4, k _ _ q⟩
mutual
inductive DV (S : Sto) : PV → PyData → Prop
  | non : DV S .non .none
  | bl (b : Bool) : DV S (.bl b) (.bool b)
  | int (i : Int) : DV S (.int i) (.int i)
  | str (x : Str) : DV S (.str x) (.str x)
  | lst {i : Nat} {xs : List PV} {ds : List PyData} : S[i]? = some (.lst xs) → DVs S xs ds → DV S (.ref i) (.list ds)
  | tup {xs : List PV} {ds : List PyData} : DVs S xs ds → DV S (.tup xs) (.tuple ds)
inductive DVs (S : Sto) : List PV → List PyData → Prop
  | nil : DVs S [] []
  | cons {v : PV} {vs : List PV} {d : PyData} {ds : List PyData} : DV S v d → DVs S vs ds → DVs S (v :: vs) (d :: ds)
end
section
variable {K : PySem.W.Frag} {M : Map} {S : Sto} {H : Hp}
mutual
theorem DV.dp (s : Sim Ts K M S H) : ∀ {x : PV} {d : PyData} {a : V}, DV S x d → RP K M S.length H x a → Dp K H a d
  | _, _, _, .non, r => by cases r; exact .non
  | _, _, _, .bl b, r => by cases r; exact .bl b
  | _, _, _, .int b, r => by cases r; exact .int b
  | _, _, _, .str b, r => by cases r; exact .str b
  | _, _, _, .lst e h, r => by
    cases r
    obtain ⟨us, p1, r1⟩ := s.lst e
    exact .lst (SqL.of p1) (DVs.dp s h r1)
  | _, _, _, .tup h, r => by
    cases r with
    | tup h1 r1 => exact .tup h1 (DVs.dp s h r1)
theorem DVs.dp (s : Sim Ts K M S H) : ∀ {x : List PV} {d : List PyData} {a : List V}, DVs S x d → RPs K M S.length H x a → DpAll K H a d
  | _, _, _, .nil, r => by cases r; exact .nil
  | _, _, _, .cons h1 h2, r => by
    cases r with
    | cons r1 r2 => exact .cons (DV.dp s h1 r1) (DVs.dp s h2 r2)
end
end
def rEqW (neg : Bool) : W2
  | .int i, .int j, S, Q => Q (.bl (neg ^^ decide (i = j))) S
  | .bl i, .bl j, S, Q => Q (.bl (neg ^^ decide (i = j))) S
  | .str i, .str j, S, Q => Q (.bl (neg ^^ decide (i = j))) S
  | x, y, S, Q => ∃ d e, DV S x d ∧ DV S y e ∧ SeqAt.shaped d = true ∧ SeqAt.shaped e = true ∧ Q (.bl (neg ^^ PyData.eqv d e)) S
theorem mo_eq (neg : Bool) : Mo2 (rEqW neg) := fun x y S Q Q' h k => by
  cases x <;> cases y <;> first
    | exact k _ _ h
    | exact (let ⟨d, e, h1, h2, h3, h4, q⟩ := h; ⟨d, e, h1, h2, h3, h4, k _ _ q⟩)
theorem s_eq (hu : X.A.units + 64 < cLine) : S2 Ts X (compareOp .Eq) (rEqW false) := by
  refine ⟨⟨_, opR_or op_eq (op_eqD hu), fun M S H x y a b Q s rx ry h => ?_⟩, mo_eq _⟩
  have D : (∃ d e, DV S x d ∧ DV S y e ∧ SeqAt.shaped d = true ∧ SeqAt.shaped e = true ∧ upQ Ts X.K M S.length H Q (.bl (false ^^ PyData.eqv d e)) S) → rEq a b H Q ∨ rEqD X.K a b H Q := fun ⟨d, e, h1, h2, h3, h4, q⟩ =>
    .inr ⟨d, e, h1.dp s rx, h2.dp s ry, h3, h4, by have := upQ.here q s (.bl _); simpa using this⟩
  cases rx <;> cases ry <;> first
    | exact D h
    | exact .inl ⟨rfl, by have := upQ.here h s (.bl _); simpa [rEqW] using this⟩
theorem s_ne (hu : X.A.units + 64 < cLine) : S2 Ts X (compareOp .NotEq) (rEqW true) := by
  refine ⟨⟨_, opR_or op_ne (op_neD hu), fun M S H x y a b Q s rx ry h => ?_⟩, mo_eq _⟩
  have D : (∃ d e, DV S x d ∧ DV S y e ∧ SeqAt.shaped d = true ∧ SeqAt.shaped e = true ∧ upQ Ts X.K M S.length H Q (.bl (true ^^ PyData.eqv d e)) S) → rNe a b H Q ∨ rNeD X.K a b H Q := fun ⟨d, e, h1, h2, h3, h4, q⟩ =>
    .inr ⟨d, e, h1.dp s rx, h2.dp s ry, h3, h4, by have := upQ.here q s (.bl _); simpa using this⟩
  cases rx <;> cases ry <;> first
    | exact D h
    | exact .inl ⟨rfl, by have := upQ.here h s (.bl _); simpa [rEqW] using this⟩
def isNonP : PV → Bool
  | .non => true
  | _ => false
def rIsW (neg : Bool) : W2
  | x, .non, S, Q => Q (.bl (neg ^^ isNonP x)) S
  | .bl i, .bl j, S, Q => Q (.bl (neg ^^ (i == j))) S
  | _, _, _, _ => False
theorem mo_is (neg : Bool) : Mo2 (rIsW neg) := fun x y S Q Q' h k => by
  cases x <;> cases y <;> first
    | exact k _ _ h
    | exact False.elim h
theorem s_is : S2 Ts X (compareOp .Is) (rIsW false) := by
  refine ⟨⟨_, opR_or op_isN op_isB, fun M S H x y a b Q s rx ry h => ?_⟩, mo_is _⟩
  cases rx <;> cases ry <;> first
    | exact False.elim h
    | exact .inr ⟨_, _, rfl, rfl, by have := upQ.here h s (.bl _); simpa [rIsW] using this⟩
    | exact .inl ⟨rfl, by have := upQ.here h s (.bl _); simpa [rIsW, isNonP] using this⟩
def flatP : PV → Bool
  | .non => true
  | .bl _ => true
  | .int _ => true
  | .str _ => true
  | _ => false
def flV : PV → V
  | .non => .non
  | .bl b => .bl b
  | .int i => .int i
  | .str x => .str x
  | _ => .non
theorem flat_rp {K : PySem.W.Frag} {M : Map} {n : Nat} {H : Hp} {x : PV} {u : V} (r : RP K M n H x u) (h : flatP x = true) : u = flV x ∧ flatV u = true := by
  cases r <;> first | exact ⟨rfl, rfl⟩ | cases h
theorem flat_rps {K : PySem.W.Frag} {M : Map} {n : Nat} {H : Hp} : ∀ {x : List PV} {u : List V}, RPs K M n H x u → x.all flatP = true → u = x.map flV ∧ u.all flatV = true
  | _, _, .nil, _ => ⟨rfl, rfl⟩
  | _, _, .cons r t, h => by
    rw [List.all_cons, Bool.and_eq_true] at h
    obtain ⟨e, f⟩ := flat_rp r h.1
    obtain ⟨es, fs⟩ := flat_rps t h.2
    refine ⟨by rw [List.map_cons, ← e, ← es], ?_⟩
    rw [List.all_cons, f, fs]; rfl
def inP (x : PV) (xs : List PV) : Bool := inV (flV x) (xs.map flV)
def keyW : PV → Option Key
  | .int i => some (.inl i)
  | .str x => some (.inr x)
  | _ => none
def valP {κ : Type} [DecidableEq κ] (kvs : List (κ × PV)) (k : κ) : Option PV := (kvs.find? fun kv => decide (kv.1 = k)).map (·.2)
theorem KR.val {κ : Type} [DecidableEq κ] {K : PySem.W.Frag} {M : Map} {n : Nat} {H : Hp} (k : κ) : ∀ {v : List (κ × PV)} {u : List (κ × V)}, KR K M n H v u → (valP v k = none ∧ valV u k = none) ∨ ∃ x y, valP v k = some x ∧ valV u k = some y ∧ RP K M n H x y
  | _, _, .nil => .inl ⟨rfl, rfl⟩
  | _, _, .cons (k := j) (xs := xs) (us := us) r t => by
    by_cases e : j = k
    · refine .inr ⟨_, _, ?_, ?_, r⟩
      · simp [valP, e]
      · simp [valV, e]
    · have h1 : ∀ z : PV, valP ((j, z) :: xs) k = valP xs k := fun z => by simp [valP, e]
      have h2 : ∀ z : V, valV ((j, z) :: us) k = valV us k := fun z => by simp [valV, e]
      rw [h1, h2]
      exact KR.val k t
theorem key_rp {K : PySem.W.Frag} {M : Map} {n : Nat} {H : Hp} {x : PV} {u : V} {k : Key} (r : RP K M n H x u) (h : keyW x = some k) : u = kV k := by
  cases r <;> first | (cases h; rfl) | cases h
theorem op_dnotin (hu : X.A.units + 1 < cLine) : OpR X (compareOp .NotIn) (fun y x H Q => ∃ a o, x = .ref a ∧ DGet H a y o ∧ Q (.bl (!o.isSome)) H) := by
  intro pins s σ H y x v u Q I ry rx ⟨a, ov, ex, g, q⟩
  subst ex
  obtain rfl : u = Value.ref a := rx
  exact d_notIn hu I g ry fun s3 I3 => ⟨.bl (!ov.isSome), H, I3, rfl, q⟩
/-- x in y: a sequence of flat things, a dict, a text -/
def rInW (neg : Bool) : W2 := fun x y S Q => (∃ k xs, seqW S y = some (k, xs) ∧ flatP x = true ∧ xs.all flatP = true ∧ Q (.bl (neg ^^ inP x xs)) S) ∨
  (∃ i kvs k, y = .ref i ∧ S[i]? = some (.dct kvs) ∧ keyW x = some k ∧ Q (.bl (neg ^^ (valP kvs k).isSome)) S) ∨
  ∃ a b, x = .str a ∧ y = .str b ∧ Q (.bl (neg ^^ !(Builtin.Str.occurrences b a 0 b.length 1).isEmpty)) S
theorem mo_in (neg : Bool) : Mo2 (rInW neg) := fun x y S Q Q' h k => by
  rcases h with ⟨b, xs, h1, h2, h3, q⟩ | ⟨i, kvs, c, h1, h2, h3, q⟩ | ⟨a, b, h1, h2, q⟩
  · exact .inl ⟨b, xs, h1, h2, h3, k _ _ q⟩
  · exact .inr (.inl ⟨i, kvs, c, h1, h2, h3, k _ _ q⟩)
  · exact .inr (.inr ⟨a, b, h1, h2, k _ _ q⟩)
theorem s_notin (hu : X.A.units + 1 < cLine) : S2 Ts X (compareOp .NotIn) (rInW true) := by
  refine ⟨⟨_, opR_or op_notIn_seq (opR_or (op_dnotin hu) op_notin_str), fun M S H x y a b Q s rx ry h => ?_⟩, mo_in _⟩
  rcases h with ⟨k, xs, h1, h2, h3, q⟩ | ⟨i, kvs, c, rfl, h2, h3, q⟩ | ⟨i, j, rfl, rfl, q⟩
  · obtain ⟨p, us, rfl, h4, r4⟩ := s.seq h1 ry
    obtain ⟨e1, f1⟩ := flat_rp rx h2
    obtain ⟨e2, f2⟩ := flat_rps r4 h3
    refine .inl ⟨p, us, rfl, ?_, f1, f2, ?_⟩
    · cases k
      · exact .inl h4
      · exact .inr h4
    · have := upQ.here q s (.bl _)
      rw [e1, e2]
      simpa [inP] using this
  · cases ry
    obtain ⟨us, p1, r1⟩ := s.dct h2
    obtain rfl := key_rp rx h3
    refine .inr (.inl ⟨_, _, rfl, DGet.k p1, ?_⟩)
    have := upQ.here q s (.bl _)
    rcases r1.val c with ⟨e1, e2⟩ | ⟨v, u, e1, e2, _⟩
    · rw [e1] at this; rw [e2]; simpa using this
    · rw [e1] at this; rw [e2]; simpa using this
  · cases rx; cases ry
    refine .inr (.inr ⟨_, _, rfl, rfl, ?_⟩)
    have := upQ.here q s (.bl _)
    simpa using this
end
end L4
set_option Elab.async false
set_option linter.all false
set_option maxRecDepth 100000
namespace L4
open PySem PySem.Spec PyProof.Rows L2 L3
section
variable {X : Cx} {a b c e : Expr} {wa wb wc : WE} {pos : Pos}
theorem atI_rp {K : PySem.W.Frag} {M : Map} {n : Nat} {H : Hp} {xs : List PV} {us : List V} {i : Int} {v : PV} (r : RPs K M n H xs us) (h : atI xs i = some v) : ∃ u, atI us i = some u ∧ RP K M n H v u := by
  unfold atI at h ⊢
  rw [← r.length]
  cases q : ixN xs.length i with
  | none => rw [q] at h; cases h
  | some j =>
    rw [q] at h
    exact r.get h
theorem ix_dict (hu : X.A.units + 1 < cLine) : IxR X (fun x y H Q => ∃ a v, x = .ref a ∧ DGet H a y (some v) ∧ Q v H) := by
  intro value slice pins s σ H x y v u Q I rx ry h hs
  obtain ⟨a, w, rfl, g, q⟩ := h
  obtain rfl : v = Value.ref a := rx
  have hT := dict_typeIs I g
  unfold subscriptTail
  refine wpAny_bind ?_
  rw [getitemInPython_of_ne hT.not_modules]
  refine wpAny_bind (wpAny_specialOf hT PySem.F.slot_dict_getitem.lookup ?_)
  have fin : wpAny (model X.prog X.w) X.A (subscripted slice false (.ref a) u) (fun r s₃ => wpAny (model X.prog X.w) X.A (letTemporaryGo value (.ref a) r >>= fun _ => pure r) (EP X pins σ Q) X.xe s₃) X.xe s := by
    rw [hs]
    exact wpAny_operating (wpAny_mono (d_getItem hu I g ry fun w' s3 I3 rw' => (⟨w, H, I3, rw', q⟩ : EP X pins σ Q w' s3)) (fun r s₃ h₃ => wpAny_bind (wpAny_letTemporaryGo (wpAny_pure h₃))) fun _ _ x => x)
  first
    | exact wpAny_pure (wpAny_bind fin)
    | exact wpAny_bind (wpAny_pure (wpAny_bind fin))
    | exact wpAny_bind fin
def rIxW : W2 := fun x y S Q => (∃ k xs i v, seqW S x = some (k, xs) ∧ y = .int i ∧ atI xs i = some v ∧ Q v S) ∨ (∃ i kvs k v, x = .ref i ∧ S[i]? = some (.dct kvs) ∧ keyW y = some k ∧ valP kvs k = some v ∧ Q v S) ∨
  ∃ z i c, x = .str z ∧ y = .int i ∧ z.length ≤ 16777216 ∧ atI z.cps.toList i = some c ∧ Q (.str ⟨#[c]⟩) S
theorem mo_ix : Mo2 rIxW := fun x y S Q Q' h k => by
  rcases h with ⟨b, xs, i, v, h1, h2, h3, q⟩ | ⟨i, kvs, c, v, h1, h2, h3, h4, q⟩ | ⟨z, i, c, h1, h2, h3, h4, q⟩
  · exact .inl ⟨b, xs, i, v, h1, h2, h3, k _ _ q⟩
  · exact .inr (.inl ⟨i, kvs, c, v, h1, h2, h3, h4, k _ _ q⟩)
  · exact .inr (.inr ⟨z, i, c, h1, h2, h3, h4, k _ _ q⟩)
theorem se_ix (hu : X.A.units + 1 < cLine) (ha : SE Ts X a wa) (hb : SE Ts X b wb) (hs : PlainIx b) : SE Ts X (.Subscript a b pos) (wOp rIxW wa wb) := by
  refine ⟨pe_imp (pe_ix (ix_seq.or (ix_dict hu)) ha.pe hb.pe hs) fun σ H Q h => op_bind (fun M S H x y a b Q s rx ry h => ?_) mo_ix ha.mo hb.mo h, mo_op mo_ix ha.mo hb.mo⟩
  rcases h with ⟨k, xs, i, v, h1, rfl, h3, q⟩ | ⟨i, kvs, c, v, rfl, h2, h3, h4, q⟩ | ⟨z, i, c, rfl, rfl, h3, h4, q⟩
  · obtain ⟨p, us, rfl, h4, r4⟩ := s.seq h1 rx
    cases ry
    obtain ⟨u, h5, r5⟩ := atI_rp r4 h3
    cases k
    · exact .inl (.inl ⟨p, us, i, u, rfl, rfl, h4, h5, q.here s r5⟩)
    · exact .inl (.inr (.inl ⟨p, us, i, u, rfl, rfl, h4, h5, q.here s r5⟩))
  · cases rx
    obtain ⟨us, p1, r1⟩ := s.dct h2
    obtain rfl := key_rp ry h3
    rcases r1.val c with ⟨e1, e2⟩ | ⟨x, u, e1, e2, r2⟩
    · rw [h4] at e1; cases e1
    · rw [h4] at e1; cases e1
      exact .inr ⟨_, u, rfl, by rw [← e2]; exact DGet.k p1, q.here s r2⟩
  · cases rx; cases ry
    exact .inl (.inr (.inr ⟨z, i, c, rfl, rfl, by rw [sizeLine_eq]; exact h3, h4, q.here s (.str _)⟩))
abbrev WO := Ev → Sto → (Option Int → Sto → Prop) → Prop
def wNoPart : WO := fun _ S Q => Q none S
def wPart (w : WE) : WO := fun τ S Q => w τ S fun x S1 => ∃ i, x = .int i ∧ Q (some i) S1
def cutP {α : Type} (xs : List α) (lo hi : Option Int) : List α := (xs.drop (HT.sIx xs.length 0 lo)).take (HT.sIx xs.length xs.length hi - HT.sIx xs.length 0 lo)
/-- x[lo:hi]: of a tuple, of a list, of a text -/
def rSlW (x : PV) (lo hi : Option Int) (S : Sto) (Q : WQ) : Prop := (∃ xs, x = .tup xs ∧ Q (.tup (cutP xs lo hi)) S) ∨ ∃ xs, seqW S x = some (false, xs) ∧ Q (.ref S.length) (S ++ [.lst (cutP xs lo hi)])
def wSl (we : WE) (wl wh : WO) : WE := fun τ S Q => we τ S fun x S1 => wl τ S1 fun l S2 => wh τ S2 fun h S3 => rSlW x l h S3 Q
abbrev WC := List PV → Sto → WQ → Prop
structure SC (Ts : List Addr) (X : Cx) (f : Value) (r : WC) : Prop where
  ex : ∃ R, CallR X f R ∧ ∀ (M : Map) (S : Sto) (H : Hp) (xs : List PV) (us : List V) (Q : VK), Sim Ts X.K M S H → RPs X.K M S.length H xs us → r xs S (upQ Ts X.K M S.length H Q) → R us H Q
  mo : ∀ (xs : List PV) (S : Sto) (Q Q' : WQ), r xs S Q → (∀ v S', Q v S' → Q' v S') → r xs S Q'
def wCall (r : WC) (w : WA) : WE := fun τ S Q => w τ S fun xs S1 => r xs S1 Q
theorem callR_or {f : Value} {r r' : List V → Hp → VK → Prop} (h : CallR X f r) (h' : CallR X f r') : CallR X f (fun xs H Q => r xs H Q ∨ r' xs H Q) := fun pins s σ H x v Q I rx q => q.elim (h pins s σ H x v Q I rx) (h' pins s σ H x v Q I rx)
theorem call_bind {R : List V → Hp → VK → Prop} {r : WC} {w : WA} (hs : ∀ (M : Map) (S : Sto) (H : Hp) (xs : List PV) (us : List V) (Q : VK), Sim Ts X.K M S H → RPs X.K M S.length H xs us → r xs S (upQ Ts X.K M S.length H Q) → R us H Q)
    (hm : ∀ (xs : List PV) (S : Sto) (Q Q' : WQ), r xs S Q → (∀ v S', Q v S' → Q' v S') → r xs S Q') (ha : MoA w) {σ : L2.St} {H : Hp} {Q : VK} (h : upE Ts X.K (wCall r w) σ H Q) : tCB R (upA Ts X.K w) σ H Q := by
  obtain ⟨M, S, τ, s, st, h⟩ := h
  refine runA ha s st h fun v S1 M1 H1 u f t1 s1 r1 => hs M1 S1 H1 v u Q s1 r1 (hm _ _ _ _ f fun w S3 h3 => h3.base t1)
theorem mo_call {r : WC} {w : WA} (hm : ∀ (xs : List PV) (S : Sto) (Q Q' : WQ), r xs S Q → (∀ v S', Q v S' → Q' v S') → r xs S Q') (ha : MoA w) : MoE (wCall r w) := fun τ S Q Q' q k => ha _ _ _ _ q fun v S1 q => hm _ _ _ _ q k
theorem se_callB {id : String} {r : WC} {x : Str} {es : List Expr} {w : WA} {p : Pos} (hc : SC Ts X (.builtin id) r) (hg : Gl X x) (hm : X.mg x = none) (hv : bootBuiltins x = some (.builtin id)) (ha : SA Ts X (e :: es) w) (hn : x ≠ "__name__" := by decide) (hdb : (x == ("__debug__" : Str)) = false := by decide)
    (he : starEach (e :: es) X.env = (false, eval e X.env) :: starEach es X.env := by rfl) (hpl : (backTo pos (starEach es X.env)).any (·.1) = false := by rfl) : SE Ts X (.Call (.Name x p) (e :: es) [] pos) (wCall r w) :=
  let ⟨_, o, s⟩ := hc.ex
  ⟨pe_imp (pe_callB o hg hm hv ha.pa hn hdb he hpl) fun _ _ _ h => call_bind s hc.mo ha.mo h, mo_call hc.mo ha.mo⟩
theorem se_callTy {T : String} {r : WC} {x : Str} {es : List Expr} {w : WA} {p : Pos} (hc : SC Ts X (.type T) r) (hg : Gl X x) (hm : X.mg x = none) (hv : bootBuiltins x = some (.type T)) (ha : SA Ts X (e :: es) w) (hn : x ≠ "__name__" := by decide) (hdb : (x == ("__debug__" : Str)) = false := by decide)
    (he : starEach (e :: es) X.env = (false, eval e X.env) :: starEach es X.env := by rfl) (hpl : (backTo pos (starEach es X.env)).any (·.1) = false := by rfl) : SE Ts X (.Call (.Name x p) (e :: es) [] pos) (wCall r w) :=
  let ⟨_, o, s⟩ := hc.ex
  ⟨pe_imp (pe_callTy o hg hm hv ha.pa hn hdb he hpl) fun _ _ _ h => call_bind s hc.mo ha.mo h, mo_call hc.mo ha.mo⟩
theorem RPs.one {K : PySem.W.Frag} {M : Map} {n : Nat} {H : Hp} {x : PV} {us : List V} (r : RPs K M n H [x] us) : ∃ u, us = [u] ∧ RP K M n H x u := by
  cases r with
  | cons r t => cases t; exact ⟨_, rfl, r⟩
theorem RPs.two {K : PySem.W.Frag} {M : Map} {n : Nat} {H : Hp} {x y : PV} {us : List V} (r : RPs K M n H [x, y] us) : ∃ u v, us = [u, v] ∧ RP K M n H x u ∧ RP K M n H y v := by
  cases r with
  | cons r t =>
    cases t with
    | cons r2 t => cases t; exact ⟨_, _, rfl, r, r2⟩
/-- len -/
def rLenW : WC := fun xs S Q => ∃ x, xs = [x] ∧ ((∃ k ys, seqW S x = some (k, ys) ∧ Q (.int ys.length) S) ∨ (∃ z, x = .str z ∧ z.length ≤ 16777216 ∧ Q (.int z.length) S) ∨ ∃ i kvs, x = .ref i ∧ S[i]? = some (.dct kvs) ∧ Q (.int kvs.length) S)
theorem KR.length {κ : Type} {K : PySem.W.Frag} {M : Map} {n : Nat} {H : Hp} : ∀ {v : List (κ × PV)} {u : List (κ × V)}, KR K M n H v u → v.length = u.length
  | _, _, .nil => rfl
  | _, _, .cons _ t => by rw [List.length_cons, List.length_cons, KR.length t]
theorem c_len : SC Ts X (.builtin "len") rLenW := by
  refine ⟨⟨_, callR_or call_len_seq (callR_or call_len_str call_lenD), fun M S H xs us Q s r h => ?_⟩, fun xs S Q Q' h k => ?_⟩
  · obtain ⟨x, rfl, h⟩ := h
    obtain ⟨u, rfl, r0⟩ := r.one
    rcases h with ⟨k, ys, h1, q⟩ | ⟨z, rfl, h1, q⟩ | ⟨i, kvs, rfl, h1, q⟩
    · obtain ⟨p, us, rfl, h4, r4⟩ := s.seq h1 r0
      refine .inl ⟨p, us, rfl, ?_, ?_⟩
      · cases k
        · exact .inl h4
        · exact .inr h4
      · rw [← r4.length]; exact q.here s (.int _)
    · cases r0
      exact .inr (.inl ⟨z, rfl, by rw [sizeLine_eq]; exact h1, q.here s (.int _)⟩)
    · cases r0
      obtain ⟨us, p1, r1⟩ := s.dct h1
      exact .inr (.inr ⟨_, us, rfl, p1, by rw [← r1.length]; exact q.here s (.int _)⟩)
  · obtain ⟨x, rfl, h⟩ := h
    rcases h with ⟨b, ys, h1, q⟩ | ⟨z, rfl, h1, q⟩ | ⟨i, kvs, rfl, h1, q⟩
    · exact ⟨x, rfl, .inl ⟨b, ys, h1, k _ _ q⟩⟩
    · exact ⟨_, rfl, .inr (.inl ⟨z, rfl, h1, k _ _ q⟩)⟩
    · exact ⟨_, rfl, .inr (.inr ⟨i, kvs, rfl, h1, k _ _ q⟩)⟩
/-- list(xs), tuple(xs) -/
def rListW : WC := fun xs S Q => ∃ x k ys, xs = [x] ∧ seqW S x = some (k, ys) ∧ Q (.ref S.length) (S ++ [.lst ys])
def rTupleW : WC := fun xs S Q => ∃ x k ys, xs = [x] ∧ seqW S x = some (k, ys) ∧ Q (.tup ys) S
theorem c_list : SC Ts X (.type "list") rListW := by
  refine ⟨⟨_, call_list_of, fun M S H xs us Q s r h => ?_⟩, fun xs S Q Q' ⟨x, b, ys, e, h, q⟩ k => ⟨x, b, ys, e, h, k _ _ q⟩⟩
  obtain ⟨x, k, ys, rfl, h1, q⟩ := h
  obtain ⟨u, rfl, r0⟩ := r.one
  obtain ⟨p, us, rfl, h4, r4⟩ := s.seq h1 r0
  refine ⟨p, us, rfl, ?_, q.lst s r4⟩
  cases k
  · exact .inl h4
  · exact .inr h4
theorem c_tuple : SC Ts X (.type "tuple") rTupleW := by
  refine ⟨⟨_, call_tuple_of, fun M S H xs us Q s r h => ?_⟩, fun xs S Q Q' ⟨x, b, ys, e, h, q⟩ k => ⟨x, b, ys, e, h, k _ _ q⟩⟩
  obtain ⟨x, k, ys, rfl, h1, q⟩ := h
  obtain ⟨u, rfl, r0⟩ := r.one
  cases k
  · obtain ⟨p, us, rfl, h4, r4⟩ := s.seq h1 r0
    exact ⟨p, us, rfl, .inl ⟨h4, q.tup s r4⟩⟩
  · obtain ⟨p, us, rfl, h4, r4⟩ := s.seq h1 r0
    exact ⟨p, us, rfl, .inr ⟨h4, q.here s (.tup h4 r4)⟩⟩
/-- int(x) of a number or a truth -/
def rIntW : WC := fun xs S Q => match xs with
  | [.int i] => Q (.int i) S
  | [.bl b] => Q (.int (if b then 1 else 0)) S
  | _ => False
/-- max(i, j), min(i, j) -/
def rMax2W : WC := fun xs S Q => match xs with
  | [.int i, .int j] => Q (.int (if j > i then j else i)) S
  | _ => False
def rMin2W : WC := fun xs S Q => match xs with
  | [.int i, .int j] => Q (.int (if j < i then j else i)) S
  | _ => False
def rMaxW : WC := fun xs S Q => ∃ (x : PV) (k : Bool) (ns : List Int), xs = [x] ∧ seqW S x = some (k, ns.map PV.int) ∧ 0 < ns.length ∧ ∀ m, m ∈ ns → (∀ y, y ∈ ns → y ≤ m) → Q (.int m) S
theorem c_max (hc : X.calm = true) : SC Ts X (.builtin "max") rMaxW := by
  refine ⟨⟨_, callR_or (cr_max hc) (cr_maxT hc), fun M S H xs us Q s r h => ?_⟩, fun xs S Q Q' ⟨x, b, ns, e, h, l, q⟩ k => ⟨x, b, ns, e, h, l, fun m h1 h2 => k _ _ (q m h1 h2)⟩⟩
  obtain ⟨x, k, ns, rfl, h1, l, q⟩ := h
  obtain ⟨u, rfl, r0⟩ := r.one
  obtain ⟨p, us, rfl, h4, r4⟩ := s.seq h1 r0
  have e := r4.of_ints
  subst e
  cases k
  · exact .inl ⟨p, ns, rfl, h4, l, fun m h1 h2 => (q m h1 h2).here s (.int _)⟩
  · exact .inr ⟨p, ns, rfl, h4, l, fun m h1 h2 => (q m h1 h2).here s (.int _)⟩
end
end L4
set_option Elab.async false
set_option linter.all false
set_option maxRecDepth 100000
namespace L4
open PySem PySem.Spec PyProof.Rows L2 L3
section
variable {X : Cx} {a b c e o : Expr} {wa wb wc wo : WE} {pos : Pos}
abbrev WM := PV → List PV → Sto → WQ → Prop
structure SM (Ts : List Addr) (X : Cx) (id : String) (r : WM) : Prop where
  ex : ∃ R, MtR X id R ∧ ∀ (M : Map) (S : Sto) (H : Hp) (x : PV) (xs : List PV) (u : V) (us : List V) (Q : VK), Sim Ts X.K M S H → RP X.K M S.length H x u → RPs X.K M S.length H xs us → r x xs S (upQ Ts X.K M S.length H Q) → R u us H Q
  mo : ∀ (x : PV) (xs : List PV) (S : Sto) (Q Q' : WQ), r x xs S Q → (∀ v S', Q v S' → Q' v S') → r x xs S Q'
def tyW (S : Sto) (T : String) (x : PV) : Prop := (T = "list" ∧ ∃ ys, seqW S x = some (false, ys)) ∨ (T = "str" ∧ ∃ z, x = .str z) ∨ (T = "dict" ∧ ∃ i kvs, x = .ref i ∧ S[i]? = some (.dct kvs)) ∨ (T = "tuple" ∧ ∃ ys, x = .tup ys)
theorem ty_rp {K : PySem.W.Frag} {M : Map} {S : Sto} {H : Hp} {T : String} {x : PV} {u : V} (s : Sim Ts K M S H) (r : RP K M S.length H x u) (h : tyW S T x) : tyV K T u H := by
  rcases h with ⟨rfl, ys, h⟩ | ⟨rfl, z, rfl⟩ | ⟨rfl, i, kvs, rfl, h⟩ | ⟨rfl, ys, rfl⟩
  · obtain ⟨p, us, rfl, h4, r4⟩ := s.seq h r
    exact .inl ⟨rfl, us, h4⟩
  · cases r; exact rfl
  · cases r
    obtain ⟨us, p1, _⟩ := s.dct h
    exact .inr (.inr (.inl ⟨rfl, .inl ⟨us, p1⟩⟩))
  · obtain ⟨p, us, rfl, h4, r4⟩ := s.seq rfl r
    exact .inr (.inl ⟨rfl, us, h4⟩)
def wMeth (T : String) (r : WM) (wo : WE) (w : WA) : WE := fun τ S Q => wo τ S fun x S1 => tyW S1 T x ∧ w τ S1 fun xs S2 => r x xs S2 Q
theorem mo_meth {T : String} {r : WM} {w : WA} (hm : ∀ (x : PV) (xs : List PV) (S : Sto) (Q Q' : WQ), r x xs S Q → (∀ v S', Q v S' → Q' v S') → r x xs S Q') (ho : MoE wo) (ha : MoA w) : MoE (wMeth T r wo w) := fun τ S Q Q' q k => ho _ _ _ _ q fun v S1 q => ⟨q.1, ha _ _ _ _ q.2 fun xs S2 q => hm _ _ _ _ _ q k⟩
theorem se_bm {T id : String} {name : Str} {r : WM} {es : List Expr} {w : WA} {apos cpos : Pos} (pa : PlainAttrs T) (slot : Slot T name id) (hty : typeOf (.builtin id) = pure (.type "method_descriptor")) (hm : SM Ts X id r) (ho : SE Ts X o wo) (ha : SA Ts X (e :: es) w)
    (hbase : attributeBase o name X.env (eval o X.env) = eval o X.env := by rfl)
    (hfew : ((backTo cpos (starEach (e :: es) X.env)).all (fun x => !x.1) && (backToKw cpos (keywordEach [] X.env)).all (fun x => x.1.isSome)
      && decide ((e :: es).length + ([] : List Keyword).length + (if ([] : List Keyword).isEmpty then 0 else 1) < 30)) = true := by rfl)
    (hline : (apos.endLine == cpos.line) = true := by rfl) (hs : starEach (e :: es) X.env = (false, eval e X.env) :: starEach es X.env := by rfl) (hplain : (backTo cpos (starEach es X.env)).any (·.1) = false := by rfl) :
    SE Ts X (.Call (.Attribute o name apos) (e :: es) [] cpos) (wMeth T r wo w) := by
  obtain ⟨R, m, s⟩ := hm.ex
  refine ⟨pe_imp (pe_bm pa slot hty m ho.pe ha.pa hbase hfew hline hs hplain) fun σ H Q h => ?_, mo_meth hm.mo ho.mo ha.mo⟩
  obtain ⟨M, S, τ, s0, st, h⟩ := h
  refine runE ho.mo s0 st h fun v S1 M1 H1 u f t1 s1 r1 => ⟨ty_rp s1 r1 f.1, ?_⟩
  exact runA ha.mo s1 (st.stp t1) f.2 fun d S2 M2 H2 us f2 t2 s2 r2 => s M2 S2 H2 v d u us Q s2 (r1.stp t2) r2 (hm.mo _ _ _ _ _ f2 fun w S3 h3 => h3.base (t1.trans t2))
def rAppendW : WM := fun x xs S Q => ∃ i y ys, x = .ref i ∧ xs = [y] ∧ S[i]? = some (.lst ys) ∧ ys.length < 16777216 ∧ Q .non (S.set i (.lst (ys ++ [y])))
theorem m_append : SM Ts X "list.append" rAppendW := by
  refine ⟨⟨_, mt_append, fun M S H x xs u us Q s r rs h => ?_⟩, fun x xs S Q Q' ⟨i, y, ys, h1, h2, h3, h4, q⟩ k => ⟨i, y, ys, h1, h2, h3, h4, k _ _ q⟩⟩
  obtain ⟨i, y, ys, rfl, rfl, h3, h4, q⟩ := h
  cases r
  obtain ⟨v, rfl, r1⟩ := rs.one
  obtain ⟨ws, p1, r2⟩ := s.lst h3
  exact ⟨_, ws, v, rfl, rfl, p1, by rw [sizeLine_eq, ← r2.length]; exact h4, q.put s h3 (r2.append (.cons r1 .nil)) .non⟩
theorem RPs.dropLast {K : PySem.W.Frag} {M : Map} {n : Nat} {H : Hp} {xs : List PV} {us : List V} (r : RPs K M n H xs us) : RPs K M n H xs.dropLast us.dropLast := by
  rw [List.dropLast_eq_take, List.dropLast_eq_take, r.length]
  exact r.take _
theorem RPs.eraseIdx {K : PySem.W.Frag} {M : Map} {n : Nat} {H : Hp} {xs : List PV} {us : List V} (r : RPs K M n H xs us) (k : Nat) : RPs K M n H (xs.eraseIdx k) (us.eraseIdx k) := by
  rw [List.eraseIdx_eq_take_drop_succ, List.eraseIdx_eq_take_drop_succ]
  exact (r.take _).append (r.drop _)
/-- xs.index(y) of flat things -/
def eqP (x y : PV) : Bool := eqV (flV x) (flV y)
def rIndexW : WM := fun x xs S Q => ∃ y ys j z, xs = [y] ∧ seqW S x = some (false, ys) ∧ flatP y = true ∧ ys.all flatP = true ∧ ys[j]? = some z ∧ eqP z y = true ∧ (∀ (m : Nat) (z' : PV), m < j → ys[m]? = some z' → eqP z' y = false) ∧ Q (.int (j : Nat)) S
theorem m_index : SM Ts X "list.index" rIndexW := by
  refine ⟨⟨_, mt_index, fun M S H x xs u us Q s r rs h => ?_⟩, fun x xs S Q Q' ⟨y, ys, j, z, h1, h2, h3, h4, h5, h6, h7, q⟩ k => ⟨y, ys, j, z, h1, h2, h3, h4, h5, h6, h7, k _ _ q⟩⟩
  obtain ⟨y, ys, j, z, rfl, h2, h3, h4, h5, h6, h7, q⟩ := h
  obtain ⟨v, rfl, r1⟩ := rs.one
  obtain ⟨p, ws, rfl, h8, r8⟩ := s.seq h2 r
  obtain ⟨e1, f1⟩ := flat_rp r1 h3
  obtain ⟨e2, f2⟩ := flat_rps r8 h4
  obtain ⟨v2, h9, r9⟩ := r8.get h5
  have hz : flatP z = true := List.all_eq_true.mp h4 z (List.mem_of_getElem? h5)
  obtain ⟨e3, f3⟩ := flat_rp r9 hz
  refine ⟨p, ws, v, j, v2, rfl, rfl, h8, f1, f2, h9, by rw [e3, e1]; exact h6, fun m z' hm hz' => ?_, q.here s (.int _)⟩
  obtain ⟨z2, h10, r10⟩ := r8.get' hz'
  obtain ⟨e4, f4⟩ := flat_rp r10 (List.all_eq_true.mp h4 z2 (List.mem_of_getElem? h10))
  rw [e4, e1]
  exact h7 m z2 hm h10
def tyP (S : Sto) : PV → Option String
  | .non => some "NoneType"
  | .bl _ => some "bool"
  | .int _ => some "int"
  | .str _ => some "str"
  | .tup _ => some "tuple"
  | .scr _ => some "list"
  | .ref i => match S[i]? with
    | some (.lst _) => some "list"
    | some (.dct _) => some "dict"
    | _ => none
  | _ => none
def isiB (t n : String) : Option Bool :=
  if n = "int" then some (t == "int" || t == "bool") else if n = "bool" then some (t == "bool") else if n = "str" then some (t == "str") else if n = "list" then some (t == "list") else if n = "tuple" then some (t == "tuple") else if n = "dict" then some (t == "dict") else none
def rIsiX (K : PySem.W.Frag) : List V → Hp → VK → Prop := fun xs H Q => ∃ x t n b, xs = [x, .ty n] ∧ (TyOf K H x (.type t) ∨ (t = "tuple" ∧ ∃ a us, x = .ref a ∧ SqT K H a us) ∨ (t = "list" ∧ ∃ a us, x = .ref a ∧ SqL K H a us)) ∧ PySem.W.kitOne K (.type t) (.type n) = some b ∧ Q (.bl b) H
theorem call_isiX : CallR X (.builtin "isinstance") (rIsiX X.K) := by
  intro pins s σ H xs us Q I r h
  obtain ⟨x, t, n, b, rfl, ty, e, q⟩ := h
  cases r with
  | cons r1 rr =>
    cases rr with
    | cons r2 rr =>
      cases rr
      cases r2
      rcases ty with ty | ⟨rfl, a, us, rfl, hq⟩ | ⟨rfl, a, us, rfl, hq⟩
      · exact isinst_ok I r1 ty e fun tk => ⟨.bl b, H, I.tok tk, rfl, q⟩
      · cases r1
        obtain ⟨_, _, ⟨o, h1, h2, _⟩, _⟩ := I.tuple hq
        exact PySem.W.kia_one PySem.W.kitx_tuple I.kIn ⟨o, h1, h2⟩ e (fun z => nomatch z) fun tk => ⟨.bl b, H, I.tok tk, rfl, q⟩
      · cases r1
        obtain ⟨_, _, ⟨o, n, h1, h2, _⟩, _⟩ := I.list hq
        exact PySem.W.kia_one PySem.W.kitx_list I.kIn ⟨o, h1, h2⟩ e (fun z => nomatch z) fun tk => ⟨.bl b, H, I.tok tk, rfl, q⟩
theorem kit_all (K : PySem.W.Frag) {t n : String} {b : Bool} (ht : t = "NoneType" ∨ t = "bool" ∨ t = "int" ∨ t = "str" ∨ t = "tuple" ∨ t = "list" ∨ t = "dict") (h : isiB t n = some b) : PySem.W.kitOne K (.type t) (.type n) = some b := by
  have hn : n = "int" ∨ n = "bool" ∨ n = "str" ∨ n = "list" ∨ n = "tuple" ∨ n = "dict" := by
    unfold isiB at h
    repeat' split at h
    all_goals first | (cases h; done) | simp_all
  rcases ht with rfl | rfl | rfl | rfl | rfl | rfl | rfl <;> rcases hn with rfl | rfl | rfl | rfl | rfl | rfl <;> (revert h; simp only [isiB]; intro h; rw [← h]; rfl)
def rIsiW : WC := fun xs S Q => ∃ x n t b, xs = [x, .ty n] ∧ tyP S x = some t ∧ isiB t n = some b ∧ Q (.bl b) S
theorem c_isi : SC Ts X (.builtin "isinstance") rIsiW := by
  refine ⟨⟨_, call_isiX, fun M S H xs us Q s r h => ?_⟩, fun xs S Q Q' ⟨x, n, t, b, e, h1, h2, q⟩ k => ⟨x, n, t, b, e, h1, h2, k _ _ q⟩⟩
  obtain ⟨x, n, t, b, rfl, h1, h2, q⟩ := h
  obtain ⟨u, v, rfl, r1, r2⟩ := r.two
  cases r2
  cases r1 with
  | non => cases h1; exact ⟨_, _, _, b, rfl, .inl .non, kit_all _ (by simp) h2, q.here s (.bl _)⟩
  | bl x => cases h1; exact ⟨_, _, _, b, rfl, .inl (.bl x), kit_all _ (by simp) h2, q.here s (.bl _)⟩
  | int x => cases h1; exact ⟨_, _, _, b, rfl, .inl (.int x), kit_all _ (by simp) h2, q.here s (.bl _)⟩
  | str x => cases h1; exact ⟨_, _, _, b, rfl, .inl (.str x), kit_all _ (by simp) h2, q.here s (.bl _)⟩
  | ty x => cases h1
  | glb x => cases h1
  | tup h3 h4 => cases h1; exact ⟨_, _, _, b, rfl, .inr (.inl ⟨rfl, _, _, rfl, h3⟩), kit_all _ (by simp) h2, q.here s (.bl _)⟩
  | scr h3 => cases h1; exact ⟨_, _, _, b, rfl, .inr (.inr ⟨rfl, _, _, rfl, h3.sql⟩), kit_all _ (by simp) h2, q.here s (.bl _)⟩
  | @ref i hi =>
    cases z : S[i]? with
    | none => simp only [tyP, z] at h1; cases h1
    | some o =>
      cases o with
      | lst ys =>
        simp only [tyP, z] at h1; cases h1
        obtain ⟨ws, p1, _⟩ := s.lst z
        exact ⟨_, _, _, b, rfl, .inl (.lst p1), kit_all _ (by simp) h2, q.here s (.bl _)⟩
      | dct ys =>
        simp only [tyP, z] at h1; cases h1
        obtain ⟨ws, p1, _⟩ := s.dct z
        exact ⟨_, _, _, b, rfl, .inl (.dK p1), kit_all _ (by simp) h2, q.here s (.bl _)⟩
      | ins _ _ => simp only [tyP, z] at h1; cases h1
      | jar => simp only [tyP, z] at h1; cases h1
      | frd _ _ _ => simp only [tyP, z] at h1; cases h1
      | pen _ => simp only [tyP, z] at h1; cases h1
      | exc _ _ => simp only [tyP, z] at h1; cases h1
def uptoP (n : Nat) : List PV := (List.range n).map fun (i : Nat) => PV.int (i : Int)
theorem upto_rps {K : PySem.W.Frag} {M : Map} {n : Nat} {H : Hp} (k : Nat) : RPs K M n H (uptoP k) (upto k) := by
  have h := RPs.ints (K := K) (M := M) (n := n) (H := H) ((List.range k).map fun (i : Nat) => (i : Int))
  unfold uptoP upto
  rw [List.map_map, List.map_map] at h
  exact h
def wRngL (w : WE) : WE := fun τ S Q => w τ S fun x S1 => ∃ j, x = .int j ∧ 0 ≤ j ∧ j ≤ 65536 ∧ Q (.ref S1.length) (S1 ++ [.lst (uptoP j.toNat)])
def wRngT (w : WE) : WE := fun τ S Q => w τ S fun x S1 => ∃ j, x = .int j ∧ 0 ≤ j ∧ j ≤ 65536 ∧ Q (.tup (uptoP j.toNat)) S1
theorem se_rngT {p1 p2 pos2 : Pos} (hc : X.calm = true) (hg1 : Gl X "tuple") (hm1 : X.mg "tuple" = none) (hg2 : Gl X "range") (hm2 : X.mg "range" = none) (ha : SE Ts X a wa) (hs : starEach [a] X.env = (false, eval a X.env) :: starEach [] X.env := by rfl)
    (hs2 : starEach [Expr.Call (.Name "range" p2) [a] [] pos2] X.env = (false, eval (Expr.Call (.Name "range" p2) [a] [] pos2) X.env) :: starEach [] X.env := by rfl) :
    SE Ts X (.Call (.Name "tuple" p1) [.Call (.Name "range" p2) [a] [] pos2] [] pos) (wRngT wa) := by
  refine ⟨pe_imp (pe_callTy (call_tup_rng hc) hg1 hm1 (by decide +kernel) (pa_cons (pe_callTy call_rng1 hg2 hm2 (by decide +kernel) (pa_cons ha.pe pa_nil hs) (by decide) (by decide) hs (by rfl)) pa_nil hs2) (by decide) (by decide) hs2 (by rfl)) fun σ H Q h => ?_, fun τ S Q Q' q k => ha.mo _ _ _ _ q fun v S1 ⟨j, h1, h2, h3, q⟩ => ⟨j, h1, h2, h3, k _ _ q⟩⟩
  obtain ⟨M, S, τ, s, st, h⟩ := h
  refine runE ha.mo s st h fun v S1 M1 H1 u f t1 s1 r1 => ?_
  obtain ⟨j, rfl, h2, h3, q⟩ := f
  cases r1
  refine ⟨j, rfl, fun p hp => ?_⟩
  obtain ⟨s2, t2⟩ := s1.beside (o := .rng 0 j) hp
  exact ⟨p, j, rfl, upd_same, h2, h3, (q.base (t1.trans t2)).tup s2 (upto_rps _)⟩
def wNeg (w : WE) : WE := fun τ S Q => w τ S fun x S1 => ∃ i, x = .int i ∧ Q (.int (-i)) S1
def wChain (r r' : W2) (wa wb wc : WE) : WE := fun τ S Q => wa τ S fun x S1 => wb τ S1 fun y S2 => r x y S2 fun z S3 => ∃ k, z = .bl k ∧ if k = true then wc τ S3 fun v S4 => r' y v S4 Q else Q (.bl false) S3
end
end L4
set_option Elab.async false
set_option linter.all false
set_option maxRecDepth 100000
namespace L4
open PySem PySem.Spec PyProof.Rows L2 L3
section
variable {X : Cx} {a b c e o : Expr} {wa wb wc wo : WE} {pos : Pos}
end
abbrev WG := PV → Ev → (Ev → Prop) → Prop
abbrev WGs := List PV → Ev → (Ev → Prop) → Prop
def GR (K : PySem.W.Frag) (g : TG) (wg : WG) (vs : List Nat) : Prop := ∀ (M : Map) (n : Nat) (H : Hp) (τ : Ev) (σ : L2.St) (pv : PV) (v : V) (R : Ev → Prop) (Q : L2.St → Hp → Prop), StR K M n H τ σ → RP K M n H pv v → wg pv τ R → (∀ τ2 σ2, R τ2 → StR K M n H τ2 σ2 → wipe σ2 vs = wipe σ vs → Q σ2 H) → g v σ H Q
def GRs (K : PySem.W.Frag) (g : TGs) (wg : WGs) (vs : List Nat) : Prop := ∀ (M : Map) (n : Nat) (H : Hp) (τ : Ev) (σ : L2.St) (pv : List PV) (v : List V) (R : Ev → Prop) (Q : L2.St → Hp → Prop), StR K M n H τ σ → RPs K M n H pv v → wg pv τ R → (∀ τ2 σ2, R τ2 → StR K M n H τ2 σ2 → wipe σ2 vs = wipe σ vs → Q σ2 H) → g v σ H Q
def wgName (i : Nat) : WG := fun v τ R => R (τ.set i (some v))
def wgNil : WGs := fun vs τ R => vs = [] ∧ R τ
def wgCons (g : WG) (gs : WGs) : WGs := fun vs τ R => ∃ v r, vs = v :: r ∧ g v τ fun τ' => gs r τ' R
def wgTup (n : Nat) (gs : WGs) : WG := fun v τ R => ∃ xs, v = .tup xs ∧ xs.length = n ∧ gs xs τ R
theorem wipe_in {σ : L2.St} {i : Nat} : ∀ {vs : List Nat}, i ∈ vs → (wipe σ vs)[i]? = if i < σ.length then some none else none
  | v :: vs, h => by
    unfold wipe
    by_cases e : v = i
    · subst e
      by_cases l : v < σ.length
      · rw [List.getElem?_set_self (by rw [wipe_length]; exact l), if_pos l]
      · rw [if_neg l, List.getElem?_eq_none (by rw [List.length_set, wipe_length]; omega)]
    · rw [List.getElem?_set_ne e]
      exact wipe_in (by
        rcases List.mem_cons.mp h with z | z
        · exact absurd z.symm e
        · exact z)
theorem wipe_set {σ : L2.St} {i : Nat} {x : Option V} {vs : List Nat} (h : i ∈ vs) : wipe (σ.set i x) vs = wipe σ vs := by
  apply List.ext_getElem?
  intro j
  by_cases m : j ∈ vs
  · rw [wipe_in m, wipe_in m, List.length_set]
  · rw [wipe_out m, wipe_out m, List.getElem?_set_ne (by rintro rfl; exact m h)]
section
variable {K : PySem.W.Frag} {vs : List Nat}
theorem gr_name {i : Nat} (h : i ∈ vs) : GR K (gName i) (wgName i) vs := fun M n H τ σ pv v R Q st r w k => k _ _ w (st.set r i) (wipe_set h)
theorem gr_nil : GRs K gNil wgNil vs := fun M n H τ σ pv v R Q st r w k => by
  obtain ⟨rfl, w⟩ := w
  cases r
  exact ⟨rfl, k _ _ w st rfl⟩
theorem gr_cons {g : TG} {gs : TGs} {wg : WG} {ws : WGs} (h1 : GR K g wg vs) (h2 : GRs K gs ws vs) : GRs K (gCons g gs) (wgCons wg ws) vs := fun M n H τ σ pv v R Q st r w k => by
  obtain ⟨x, xs, rfl, w⟩ := w
  cases r with
  | cons r1 r2 => exact ⟨_, _, rfl, h1 M n H τ σ x _ _ _ st r1 w fun τ2 σ2 w2 st2 e2 => h2 M n H τ2 σ2 xs _ R Q st2 r2 w2 fun τ3 σ3 w3 st3 e3 => k τ3 σ3 w3 st3 (e3.trans e2)⟩
theorem gr_tup {n : Nat} {gs : TGs} {ws : WGs} (h : GRs K gs ws vs) : GR K (gTup K n gs) (wgTup n ws) vs := fun M m H τ σ pv v R Q st r w k => by
  obtain ⟨xs, rfl, hl, w⟩ := w
  cases r with
  | tup r1 r2 => exact ⟨_, _, rfl, r1, by rw [← r2.length]; exact hl, h M m H τ σ xs _ R Q st r2 w k⟩
end
abbrev MoG (w : WG) : Prop := ∀ (v : PV) (τ : Ev) (R R' : Ev → Prop), w v τ R → (∀ τ', R τ' → R' τ') → w v τ R'
abbrev MoGs (w : WGs) : Prop := ∀ (v : List PV) (τ : Ev) (R R' : Ev → Prop), w v τ R → (∀ τ', R τ' → R' τ') → w v τ R'
theorem mg_name (i : Nat) : MoG (wgName i) := fun v τ R R' h k => k _ h
theorem mg_nil : MoGs wgNil := fun v τ R R' h k => ⟨h.1, k _ h.2⟩
theorem mg_cons {g : WG} {gs : WGs} (h1 : MoG g) (h2 : MoGs gs) : MoGs (wgCons g gs) := fun v τ R R' ⟨x, r, e, h⟩ k => ⟨x, r, e, h1 _ _ _ _ h fun τ' h => h2 _ _ _ _ h k⟩
theorem mg_tup {n : Nat} {gs : WGs} (h : MoGs gs) : MoG (wgTup n gs) := fun v τ R R' ⟨x, e, l, q⟩ k => ⟨x, e, l, h _ _ _ _ q k⟩
structure WEnds where
  nx : Ev → Sto → Prop
  rt : WQ
  bk : Ev → Sto → Prop
  ct : Ev → Sto → Prop
abbrev WS := WEnds → Ev → Sto → Prop
structure WEnds.le (D D' : WEnds) : Prop where
  nx : ∀ τ S, D.nx τ S → D'.nx τ S
  rt : ∀ v S, D.rt v S → D'.rt v S
  bk : ∀ τ S, D.bk τ S → D'.bk τ S
  ct : ∀ τ S, D.ct τ S → D'.ct τ S
theorem WEnds.le.refl (D : WEnds) : D.le D := ⟨fun _ _ h => h, fun _ _ h => h, fun _ _ h => h, fun _ _ h => h⟩
abbrev MoS (w : WS) : Prop := ∀ (D D' : WEnds) (τ : Ev) (S : Sto), w D τ S → D.le D' → w D' τ S
def upN (Ts : List Addr) (K : PySem.W.Frag) (M : Map) (n : Nat) (H : Hp) (N : L2.St → Hp → Prop) : Ev → Sto → Prop := fun τ S => ∀ M' H' σ', Stp Ts K M n H M' S.length H' → Sim Ts K M' S H' → StR K M' S.length H' τ σ' → N σ' H'
def dn (Ts : List Addr) (K : PySem.W.Frag) (M : Map) (n : Nat) (H : Hp) (D : Ends) : WEnds := ⟨upN Ts K M n H D.nx, upQ Ts K M n H D.rt, upN Ts K M n H D.bk, upN Ts K M n H D.ct⟩
theorem upN.base {K : PySem.W.Frag} {M M2 : Map} {n n2 : Nat} {H H2 : Hp} {N : L2.St → Hp → Prop} {τ : Ev} {S : Sto} (h : upN Ts K M n H N τ S) (t : Stp Ts K M n H M2 n2 H2) : upN Ts K M2 n2 H2 N τ S := fun M' H' σ' t' s st => h M' H' σ' (t.trans t') s st
theorem dn_base {K : PySem.W.Frag} {M M2 : Map} {n n2 : Nat} {H H2 : Hp} (D : Ends) (t : Stp Ts K M n H M2 n2 H2) : (dn Ts K M n H D).le (dn Ts K M2 n2 H2 D) := ⟨fun _ _ h => h.base t, fun _ _ h => h.base t, fun _ _ h => h.base t, fun _ _ h => h.base t⟩
def upS (Ts : List Addr) (K : PySem.W.Frag) (w : WS) : TS := fun D σ H => ∃ M S τ, Sim Ts K M S H ∧ StR K M S.length H τ σ ∧ w (dn Ts K M S.length H D) τ S
structure SS (Ts : List Addr) (X : Cx) (st : Stmt) (w : WS) : Prop where
  ps : PS X st (upS Ts X.K w)
  mo : MoS w
structure SSs (Ts : List Addr) (X : Cx) (st : List Stmt) (w : WS) : Prop where
  ps : PSs X st (upS Ts X.K w)
  mo : MoS w
theorem ps_imp {X : Cx} {e : Stmt} {t t' : TS} (h : PS X e t) (k : ∀ D σ H, t' D σ H → t D σ H) : PS X e t' := fun pins s σ H D I q => h pins s σ H D I (k _ _ _ q)
theorem pss_imp {X : Cx} {e : List Stmt} {t t' : TS} (h : PSs X e t) (k : ∀ D σ H, t' D σ H → t D σ H) : PSs X e t' := fun pins s σ H D I q => h pins s σ H D I (k _ _ _ q)
def wNext : WS := fun D τ S => D.nx τ S
def wSeq (t u : WS) : WS := fun D τ S => t { D with nx := u D } τ S
section
variable {X : Cx} {a b c e o : Expr} {wa wb wc wo : WE} {pos : Pos}
theorem sss_nil : SSs Ts X [] wNext := ⟨pss_imp pss_nil fun D σ H ⟨M, S, τ, s, st, h⟩ => h M H σ (.refl _ _ _ _) s st, fun D D' τ S h k => k.nx _ _ h⟩
theorem sss_one {st : Stmt} {w : WS} (h : SS Ts X st w) : SSs Ts X [st] w := ⟨pss_one h.ps, h.mo⟩
theorem le_seq {D D' : WEnds} {u : WS} (mo : MoS u) (h : D.le D') : ({ D with nx := u D } : WEnds).le { D' with nx := u D' } := ⟨fun _ _ q => mo _ _ _ _ q h, h.rt, h.bk, h.ct⟩
theorem sss_cons {st : Stmt} {rest : List Stmt} {t u : WS} (h1 : SS Ts X st t) (h2 : SSs Ts X rest u) : SSs Ts X (st :: rest) (wSeq t u) := by
  refine ⟨pss_imp (pss_cons h1.ps h2.ps) fun D σ H h => ?_, fun D D' τ S h k => h1.mo _ _ _ _ h (le_seq h2.mo k)⟩
  obtain ⟨M, S, τ, s, st, h⟩ := h
  refine ⟨M, S, τ, s, st, h1.mo _ _ _ _ h ⟨fun τ1 S1 q M1 H1 σ1 t1 s1 st1 => ?_, fun _ _ q => q, fun _ _ q => q, fun _ _ q => q⟩⟩
  exact ⟨M1, S1, τ1, s1, st1, h2.mo _ _ _ _ q (dn_base D t1)⟩
def wRet (w : WE) : WS := fun D τ S => w τ S D.rt
def wRetN : WS := fun D _ S => D.rt .non S
theorem ss_ret (h : SE Ts X a wa) : SS Ts X (.Return (some a) pos) (wRet wa) := ⟨ps_imp (ps_ret h.pe) fun D σ H h => h, fun D D' τ S q k => h.mo _ _ _ _ q k.rt⟩
def wDrop (w : WE) : WS := fun D τ S => w τ S fun _ S1 => D.nx τ S1
theorem ss_expr (h : SE Ts X a wa) (hs : swapsWith a none pos.line X.env = pure false := by rfl) : SS Ts X (.Expr a pos) (wDrop wa) := by
  refine ⟨ps_imp (ps_expr h.pe hs) fun D σ H q => ?_, fun D D' τ S q k => h.mo _ _ _ _ q fun _ S1 q => k.nx _ _ q⟩
  obtain ⟨M, S, τ, s, st, q⟩ := q
  exact runE h.mo s st q fun v S1 M1 H1 u f t1 s1 r1 => f M1 H1 σ t1 s1 (st.stp t1)
def wIfS (c : WT) (t u : WS) : WS := fun D τ S => c τ S fun b S1 => if b = true then t D τ S1 else u D τ S1
theorem ss_if {as bs : List Stmt} {wt : WT} {t u : WS} (hc : ST Ts X c wt) (ha : SSs Ts X as t) (hb : SSs Ts X bs u) : SS Ts X (.If c as bs pos) (wIfS wt t u) := by
  refine ⟨ps_imp (ps_if hc.pt ha.ps hb.ps) fun D σ H q => ?_, fun D D' τ S q k => hc.mo _ _ _ _ q fun b S1 q => ite_imp q (fun q => ha.mo _ _ _ _ q k) fun q => hb.mo _ _ _ _ q k⟩
  obtain ⟨M, S, τ, s, st, q⟩ := q
  refine runT hc.mo s st q fun v S1 M1 H1 f t1 s1 => ite_imp f (fun f => ?_) fun f => ?_
  · exact ⟨M1, S1, τ, s1, st.stp t1, ha.mo _ _ _ _ f (dn_base D t1)⟩
  · exact ⟨M1, S1, τ, s1, st.stp t1, hb.mo _ _ _ _ f (dn_base D t1)⟩
/-- x = e, (x, y) = e -/
def wAsg (w : WE) (g : WG) : WS := fun D τ S => w τ S fun v S1 => g v τ fun τ1 => D.nx τ1 S1
theorem mo_asg {g : WG} (h : MoE wa) (hg : MoG g) : MoS (wAsg wa g) := fun D D' τ S q k => h _ _ _ _ q fun v S1 q => hg _ _ _ _ q fun τ1 q => k.nx _ _ q
theorem asg_bind {K : PySem.W.Frag} {g : TG} {wg : WG} {vs : List Nat} (h : MoE wa) (hg : GR K g wg vs) {D : Ends} {σ : L2.St} {H : Hp} (q : upS Ts K (wAsg wa wg) D σ H) : tAsg (upE Ts K wa) g D σ H := by
  obtain ⟨M, S, τ, s, st, q⟩ := q
  exact runE h s st q fun v S1 M1 H1 u f t1 s1 r1 => hg M1 _ H1 τ σ v u _ _ (st.stp t1) r1 f fun τ2 σ2 w2 st2 _ => w2 M1 H1 σ2 t1 s1 st2
theorem ss_set {i : Nat} {x : Str} {pos' : Pos} (hN : X.N.Nodup) (hi : X.N[i]? = some x) (hx : Loc X.env.scope x) (he : SE Ts X e wa) (hs : swapsWith e (some (.Name x pos')) pos.line X.env = pure false := by rfl) (hf : X.fn x = true ∨ X.env.scope.names.lookup x = some .local := by first | exact .inl rfl | exact .inr rfl | assumption) :
    SS Ts X (.Assign [.Name x pos'] e pos) (wAsg wa (wgName i)) := ⟨ps_imp (ps_set hN hi hx he.pe hs hf) fun D σ H q => asg_bind he.mo (gr_name (vs := [i]) (by simp)) q, mo_asg he.mo (mg_name i)⟩
theorem ss_asg {tg : Expr} {g : TG} {wg : WG} {vs : List Nat} (he : SE Ts X e wa) (hg : PG X tg g) (gr : GR X.K g wg vs) (mg : MoG wg) (hs : swapsWithSole [tg] e pos.line X.env = pure false := by rfl) (hw : swappedStores [tg] e X.env = pure none := by rfl)
    (h1 : (assignEach [tg] X.env).map (·.2) = [assign tg X.env] := by rfl) : SS Ts X (.Assign [tg] e pos) (wAsg wa wg) := ⟨ps_imp (ps_asg he.pe hg hs hw h1) fun D σ H q => asg_bind he.mo gr q, mo_asg he.mo mg⟩
/-- x, y = e1, e2 -/
def wPar (i j : Nat) (w : WA) : WS := fun D τ S => w τ S fun vs S1 => ∃ x y, vs = [x, y] ∧ D.nx ((τ.set i (some x)).set j (some y)) S1
end
end L4
set_option Elab.async false
set_option linter.all false
set_option maxRecDepth 100000
namespace L4
open PySem PySem.Spec PyProof.Rows L2 L3
def putP {κ : Type} [DecidableEq κ] (kvs : List (κ × PV)) (k : κ) (v : PV) : List (κ × PV) :=
  if (kvs.any fun kv => decide (kv.1 = k)) = true then kvs.map (fun kv => if kv.1 = k then (kv.1, v) else kv) else kvs ++ [(k, v)]
def dropP {κ : Type} [DecidableEq κ] (kvs : List (κ × PV)) (k : κ) : List (κ × PV) := kvs.filter fun kv => decide (kv.1 ≠ k)
section
variable {κ : Type} [DecidableEq κ] {K : PySem.W.Frag} {M : Map} {n : Nat} {H : Hp}
theorem KR.any (k : κ) : ∀ {v : List (κ × PV)} {u : List (κ × V)}, KR K M n H v u → (v.any fun kv => decide (kv.1 = k)) = (u.any fun kv => decide (kv.1 = k))
  | _, _, .nil => rfl
  | _, _, .cons _ t => by rw [List.any_cons, List.any_cons, KR.any k t]
theorem KR.append : ∀ {v v' : List (κ × PV)} {u u' : List (κ × V)}, KR K M n H v u → KR K M n H v' u' → KR K M n H (v ++ v') (u ++ u')
  | _, _, _, _, .nil, s => s
  | _, _, _, _, .cons r t, s => .cons r (KR.append t s)
theorem KR.over {x : PV} {y : V} (r : RP K M n H x y) (k : κ) : ∀ {v : List (κ × PV)} {u : List (κ × V)}, KR K M n H v u → KR K M n H (v.map (fun kv => if kv.1 = k then (kv.1, x) else kv)) (u.map (fun kv => if kv.1 = k then (kv.1, y) else kv))
  | _, _, .nil => .nil
  | _, _, .cons (k := j) q t => by
    rw [List.map_cons, List.map_cons]
    by_cases e : j = k
    · rw [if_pos e, if_pos e]; exact .cons r (KR.over r k t)
    · rw [if_neg e, if_neg e]; exact .cons q (KR.over r k t)
theorem KR.put {x : PV} {y : V} (r : RP K M n H x y) (k : κ) {v : List (κ × PV)} {u : List (κ × V)} (h : KR K M n H v u) : KR K M n H (putP v k x) (putK u k y) := by
  unfold putP putK
  rw [h.any k]
  split
  · exact h.over r k
  · exact h.append (.cons r .nil)
theorem KR.drop (k : κ) : ∀ {v : List (κ × PV)} {u : List (κ × V)}, KR K M n H v u → KR K M n H (dropP v k) (dropK u k)
  | _, _, .nil => .nil
  | _, _, .cons (k := j) q t => by
    unfold dropP dropK
    rw [List.filter_cons, List.filter_cons]
    by_cases e : j = k
    · simp only [e, ne_eq, not_true, decide_false]; exact KR.drop k t
    · simp only [ne_eq, e, not_false_eq_true, decide_true]; exact .cons q (KR.drop k t)
end
section
variable {K : PySem.W.Frag} {M : Map} {S : Sto} {H : Hp}
end
def rSetW (x i v : PV) (S : Sto) (Q : Sto → Prop) : Prop := (∃ k xs j n, x = .ref k ∧ i = .int j ∧ S[k]? = some (.lst xs) ∧ ixN xs.length j = some n ∧ Q (S.set k (.lst (xs.set n v)))) ∨ ∃ k kvs y, x = .ref k ∧ S[k]? = some (.dct kvs) ∧ keyW i = some y ∧ kvs.length < 16777216 ∧ Q (S.set k (.dct (putP kvs y v)))
section
variable {X : Cx} {a b c e o i : Expr} {wa wb wc wo wi : WE} {pos : Pos}
def wPut (wo wi wv : WE) : WS := fun D τ S => wv τ S fun v S1 => wo τ S1 fun x S2 => wi τ S2 fun i S3 => rSetW x i v S3 fun S4 => D.nx τ S4
def wAug (i : Nat) (w : WE) (r : W2) : WS := fun D τ S => ∃ x, τ[i]? = some (some x) ∧ w τ S fun y S1 => r x y S1 fun z S2 => D.nx (τ.set i (some z)) S2
abbrev WI := Ev → Sto → (List PV → (Sto → Prop) → Sto → Prop) → Prop
def ItR (Ts : List Addr) (K : PySem.W.Frag) (J : It) (xs : List PV) (G : Sto → Prop) (M : Map) (n : Nat) (H : Hp) : Prop := ∀ (M' : Map) (S' : Sto) (H' : Hp), Stw K M n H M' S'.length H' → Sim Ts K M' S' H' → G S' →
  (∀ (i : Nat) (x : PV), xs[i]? = some x → J.go i H' ∧ ∀ u H2, J.yld i H' u H2 → Stp Ts K M' S'.length H' M' S'.length H2 ∧ Sim Ts K M' S' H2 ∧ RP K M' S'.length H2 x u) ∧ ∀ i, xs.length ≤ i → J.stop i H'
def upI (Ts : List Addr) (K : PySem.W.Frag) (w : WI) : TI := fun σ H R => ∃ M S τ, Sim Ts K M S H ∧ StR K M S.length H τ σ ∧ w τ S fun xs G S1 => ∀ M1 H1 J, Stp Ts K M S.length H M1 S1.length H1 → Sim Ts K M1 S1 H1 → ItR Ts K J xs G M1 S1.length H1 → R J H1
abbrev MoI (w : WI) : Prop := ∀ (τ : Ev) (S : Sto) (R R' : List PV → (Sto → Prop) → Sto → Prop), w τ S R → (∀ xs G S', R xs G S' → R' xs G S') → w τ S R'
structure SI (Ts : List Addr) (X : Cx) (tg iter : Expr) (w : WI) : Prop where
  pi : PI X tg iter (upI Ts X.K w)
  mo : MoI w
theorem pi_imp {X : Cx} {tg e : Expr} {t t' : TI} (h : PI X tg e t) (k : ∀ σ H R, t' σ H R → t σ H R) : PI X tg e t' := fun pins s σ H R I q => h pins s σ H R I (k _ _ _ q)
def wLoop (g : WG) (t : WS) (G : Sto → Prop) : List PV → WS
  | [] => fun D τ S => G S ∧ D.nx τ S
  | x :: xs => fun D τ S => G S ∧ g x τ fun τ1 => t { nx := wLoop g t G xs D, rt := D.rt, bk := D.nx, ct := wLoop g t G xs D } τ1 S
def wFor (wi : WI) (g : WG) (t : WS) : WS := fun D τ S => wi τ S fun xs G S1 => wLoop g t G xs D τ S1
theorem mo_loop {g : WG} {t : WS} {G : Sto → Prop} (hg : MoG g) (ht : MoS t) : ∀ xs, MoS (wLoop g t G xs)
  | [] => fun D D' τ S h k => ⟨h.1, k.nx _ _ h.2⟩
  | x :: xs => fun D D' τ S h k => ⟨h.1, hg _ _ _ _ h.2 fun τ1 h => ht _ _ _ _ h ⟨fun _ _ h => mo_loop hg ht xs _ _ _ _ h k, k.rt, k.nx, fun _ _ h => mo_loop hg ht xs _ _ _ _ h k⟩⟩
theorem ss_for {tg iter : Expr} {body : List Stmt} {wi : WI} {g : TG} {wg : WG} {t : WS} {vs : List Nat} (hp : PassesOwn (model X.prog X.w) X.A X.env X.xe) (hc : X.calm = true) (hi : SI Ts X tg iter wi) (hg : PG X tg g) (gr : GR X.K g wg vs) (mg : MoG wg) (hb : SSs Ts X body t)
    (hs : ∀ x, foldedSetIterable iter X.env x = pure x := by intro _; rfl) : SS Ts X (.For tg iter body [] pos) (wFor wi wg t) := by
  refine ⟨ps_imp (ps_for hp hc hi.pi hg hb.ps hs) fun D σ H q => ?_, fun D D' τ S q k => hi.mo _ _ _ _ q fun xs G S1 q => mo_loop mg hb.mo xs _ _ _ _ q k⟩
  obtain ⟨M, S, τ, s, st, q⟩ := q
  refine ⟨M, S, τ, s, st, hi.mo _ _ _ _ q fun xs G S1 q M1 H1 J t1 s1 it => ?_⟩
  refine ⟨fun i m σ' H' => m = xs.length - i ∧ i ≤ xs.length ∧ ∃ M' S' τ', Stp Ts X.K M1 S1.length H1 M' S'.length H' ∧ Sim Ts X.K M' S' H' ∧ StR X.K M' S'.length H' τ' σ' ∧ wLoop wg t G (xs.drop i) (dn Ts X.K M S.length H D) τ' S', ⟨_, rfl, Nat.zero_le _, M1, S1, τ, .refl _ _ _ _, s1, st.stp t1, q⟩, ?_⟩
  rintro i m σ2 H2 ⟨rfl, hil, M2, S2, τ2, t2, s2, st2, q2⟩
  by_cases hl : i < xs.length
  · obtain ⟨x, hx⟩ : ∃ x, xs[i]? = some x := ⟨xs[i], by simp [hl]⟩
    have ed : xs.drop i = x :: xs.drop (i + 1) := by
      rw [List.drop_eq_getElem_cons hl]
      have := List.getElem?_eq_getElem hl
      rw [hx] at this
      rw [Option.some.inj this]
    rw [ed] at q2
    obtain ⟨hG, q2⟩ := q2
    obtain ⟨h1, _⟩ := it M2 S2 H2 t2.w s2 hG
    obtain ⟨hgo, hy⟩ := h1 i x hx
    refine .inr ⟨hgo, fun σ' H' => ∃ M' S' τ', Stp Ts X.K M1 S1.length H1 M' S'.length H' ∧ Sim Ts X.K M' S' H' ∧ StR X.K M' S'.length H' τ' σ' ∧ wLoop wg t G (xs.drop (i + 1)) (dn Ts X.K M S.length H D) τ' S', fun σ' H' h => ⟨_, ?_, rfl, hl, h⟩, fun u H3 yl => ?_⟩
    · omega
    · obtain ⟨t3, s3, r3⟩ := hy u H3 yl
      refine gr M2 S2.length H3 τ2 σ2 x u _ _ (st2.stp t3) r3 q2 fun τ4 σ4 q4 st4 _ => ?_
      have tt := (t1.trans t2).trans t3
      refine ⟨M2, S2, τ4, s3, st4, hb.mo _ _ _ _ q4 ⟨?_, ?_, ?_, ?_⟩⟩
      · exact fun τ5 S5 h M5 H5 σ5 t5 s5 st5 => ⟨M5, S5, τ5, (t2.trans t3).trans t5, s5, st5, h⟩
      · exact fun v S5 h => h.base tt
      · exact fun τ5 S5 h => h.base tt
      · exact fun τ5 S5 h M5 H5 σ5 t5 s5 st5 => ⟨M5, S5, τ5, (t2.trans t3).trans t5, s5, st5, h⟩
  · have : i = xs.length := by omega
    subst this
    rw [List.drop_length] at q2
    obtain ⟨hG, q2⟩ := q2
    obtain ⟨_, h1⟩ := it M2 S2 H2 t2.w s2 hG
    exact .inl ⟨h1 _ (Nat.le_refl _), q2 M2 H2 σ2 (t1.trans t2) s2 st2⟩
end
end L4
set_option Elab.async false
set_option linter.all false
set_option maxRecDepth 100000
namespace L4
open PySem PySem.Spec PyProof.Rows L2 L3
section
variable {X : Cx} {a b c e o i tg : Expr} {wa wb wc wo : WE} {pos : Pos}
theorem pi_seqX {l : Expr} {tl : TE} (hl : PE X l tl) : PI X tg l (fun σ H R => tl σ H fun x H1 => ∃ k a xs, x = .ref a ∧ SqX k X.K H1 a xs ∧ R (match k with | true => Itt X.K a | false => Itl X.K a) H1) := by
  intro pins s σ H R I h
  refine thn (hl pins s σ H _ I h) fun v s1 ⟨x, H1, I1, r1, q1⟩ => ?_
  obtain ⟨k, a, xs, e, hq, q⟩ := q1
  subst e
  cases r1
  cases k
  · obtain ⟨its, rv, p, hz⟩ := I1.list hq
    refine wpAny_pyIter_list p.isList ?_
    refine ⟨s1.heap.objs.size, [s1.heap.objs.size], _, _, H1, rfl, I1.kept (t' := s1.toks) fun b o e => Heap.get?_push_of_some _ e, turn_list a _, ⟨_, Heap.get?_push_size _ rfl, rfl, rfl⟩, fun b hb => ?_, q⟩
    have e : b = s1.heap.objs.size := by simpa using hb
    subst e
    exact I1.fpOk (Nat.le_refl _) (I1.hok.fresh (Nat.le_refl _))
  · obtain ⟨its, rv, p, hz⟩ := I1.tuple hq
    refine wpAny_pyIter_tuple (show s1.heap.IsTuple a its.toArray from p) ?_
    refine ⟨s1.heap.objs.size, [s1.heap.objs.size], _, _, H1, rfl, I1.kept (t' := s1.toks) fun b o e => Heap.get?_push_of_some _ e, turn_tuple a _, ⟨_, Heap.get?_push_size _ rfl, rfl, rfl⟩, fun b hb => ?_, q⟩
    have e : b = s1.heap.objs.size := by simpa using hb
    subst e
    exact I1.fpOk (Nat.le_refl _) (I1.hok.fresh (Nat.le_refl _))
def wSq (w : WE) : WI := fun τ S R => w τ S fun x S1 => ∃ k xs, seqW S1 x = some (k, xs) ∧ R xs (fun S' => seqW S' x = some (k, xs)) S1
/-- the same value at a later state -/
theorem seq_later {K : PySem.W.Frag} {M M' : Map} {S S' : Sto} {H H' : Hp} {x : PV} {k : Bool} {ys : List PV} {a : Addr} (r : RP K M S.length H x (.ref a)) (t : Stw K M S.length H M' S'.length H') (s' : Sim Ts K M' S' H') (h : seqW S' x = some (k, ys)) : ∃ us, SqX k K H' a us ∧ RPs K M' S'.length H' ys us := by
  obtain ⟨p, us, e, h4, r4⟩ := s'.seq h (r.stw t)
  cases e
  exact ⟨us, h4, r4⟩
theorem RPs.none {K : PySem.W.Frag} {M : Map} {n : Nat} {H : Hp} {xs : List PV} {us : List V} (r : RPs K M n H xs us) {i : Nat} (h : xs.length ≤ i) : us.length ≤ i := by rw [← r.length]; exact h
theorem si_seq (h : SE Ts X a wa) : SI Ts X tg a (wSq wa) := by
  refine ⟨pi_imp (pi_seqX h.pe) fun σ H R q => ?_, fun τ S R R' q k => h.mo _ _ _ _ q fun x S1 ⟨b, xs, e, q⟩ => ⟨b, xs, e, k _ _ _ q⟩⟩
  obtain ⟨M, S, τ, s, st, q⟩ := q
  refine runE h.mo s st q fun v S1 M1 H1 u f t1 s1 r1 => ?_
  obtain ⟨k, xs, e1, f⟩ := f
  obtain ⟨p, us, rfl, h4, r4⟩ := s1.seq e1 r1
  refine ⟨k, p, us, rfl, h4, f M1 H1 _ t1 s1 fun M2 S2 H2 t2 s2 hG => ?_⟩
  obtain ⟨ws, h5, r5⟩ := seq_later r1 t2 s2 hG (ys := xs)
  cases k
  · refine ⟨fun i x hx => ?_, fun i hi => ⟨ws, h5, r5.none hi⟩⟩
    obtain ⟨u, h6, r6⟩ := r5.get hx
    refine ⟨⟨ws, u, h5, h6⟩, fun u2 H3 yl => ?_⟩
    obtain ⟨rfl, y2⟩ := yl
    have := y2 ws h5
    rw [h6] at this
    cases this
    exact ⟨.refl _ _ _ _, s2, r6⟩
  · refine ⟨fun i x hx => ?_, fun i hi => ⟨ws, h5, r5.none hi⟩⟩
    obtain ⟨u, h6, r6⟩ := r5.get hx
    refine ⟨⟨ws, u, h5, h6⟩, fun u2 H3 yl => ?_⟩
    obtain ⟨rfl, y2⟩ := yl
    have := y2 ws h5
    rw [h6] at this
    cases this
    exact ⟨.refl _ _ _ _, s2, r6⟩
def rngP (lo : Int) (n : Nat) : List PV := (List.range n).map fun (i : Nat) => PV.int (lo + (i : Int))
theorem rngP_length (lo : Int) (n : Nat) : (rngP lo n).length = n := by simp [rngP]
theorem rngP_get {lo : Int} {n i : Nat} {x : PV} (h : (rngP lo n)[i]? = some x) : i < n ∧ x = .int (lo + (i : Int)) := by
  unfold rngP at h
  rw [List.getElem?_map] at h
  by_cases c : i < n
  · rw [List.getElem?_range c] at h
    cases h
    exact ⟨c, rfl⟩
  · rw [List.getElem?_eq_none (by simpa using c)] at h
    cases h
theorem it_rng {K : PySem.W.Frag} {lo : Int} {n k : Nat} {M : Map} {H : Hp} : ItR Ts K (Itr lo n) (rngP lo n) (fun _ => True) M k H := fun M2 S2 H2 t2 s2 _ => by
  refine ⟨fun i x hx => ?_, fun i hi => by rw [rngP_length] at hi; exact hi⟩
  obtain ⟨h1, rfl⟩ := rngP_get hx
  exact ⟨h1, fun u H3 ⟨h2, h3⟩ => by subst h2 h3; exact ⟨.refl _ _ _ _, s2, .int _⟩⟩
def wRng1 (w : WA) : WI := fun τ S R => w τ S fun vs S1 => ∃ j : Int, vs = [.int j] ∧ -4611686018427387904 ≤ j ∧ j < 4611686018427387904 ∧ R (rngP 0 j.toNat) (fun _ => True) S1
def wRng2 (w : WA) : WI := fun τ S R => w τ S fun vs S1 => ∃ i j : Int, vs = [.int i, .int j] ∧ (-4611686018427387904 ≤ i ∧ i < 4611686018427387904 ∧ -4611686018427387904 ≤ j ∧ j < 4611686018427387904) ∧ R (rngP i (j - i).toNat) (fun _ => True) S1
theorem si_range1 {w : WA} {p : Pos} (hg : Gl X "range") (hm : X.mg "range" = none) (ha : SA Ts X [a] w) (hs : starEach [a] X.env = [(false, eval a X.env)] := by rfl) : SI Ts X tg (.Call (.Name "range" p) [a] [] pos) (wRng1 w) := by
  refine ⟨pi_imp (pi_range1 hg hm ha.pa hs) fun σ H R q => ?_, fun τ S R R' q k => ha.mo _ _ _ _ q fun x S1 ⟨j, e, h1, h2, q⟩ => ⟨j, e, h1, h2, k _ _ _ q⟩⟩
  obtain ⟨M, S, τ, s, st, q⟩ := q
  refine runA ha.mo s st q fun v S1 M1 H1 u f t1 s1 r1 => ?_
  obtain ⟨j, rfl, h1, h2, f⟩ := f
  obtain ⟨u1, rfl, r2⟩ := r1.one
  cases r2
  exact ⟨j, rfl, by omega, by omega, f M1 H1 _ t1 s1 it_rng⟩
end
theorem sqx_inj {X : Cx} {pins : List (Addr × Obj)} {σ : L2.St} {H : Hp} {s : Shared} {k : Bool} {a : Addr} {xs ys : List V} (I : Inv X pins σ H s) (h : SqX k X.K H a xs) (h' : SqX k X.K H a ys) : xs = ys := by
  cases k
  · exact I.list_inj h h'
  · exact I.tuple_inj h h'
def ItzY (k1 k2 : Bool) (K : PySem.W.Frag) (a b : Addr) : It :=
  ⟨fun i H => ∃ xs ys, SqX k1 K H a xs ∧ SqX k2 K H b ys ∧ i < xs.length ∧ i < ys.length, fun i H v H' => ∃ T x y, v = .ref T ∧ H T = none ∧ H' = upd H T (.tup [x, y]) ∧ (∀ xs, SqX k1 K H a xs → xs[i]? = some x) ∧ ∀ ys, SqX k2 K H b ys → ys[i]? = some y,
    fun i H => ∃ xs ys, SqX k1 K H a xs ∧ SqX k2 K H b ys ∧ (xs.length ≤ i ∨ ys.length ≤ i)⟩
theorem turn_zipY {P : Program} {w : World} {K : PySem.W.Frag} {elts : List Expr} {kk : Nat} {tpos : Pos} {k1 k2 : Bool} {a b z TI TO i1 i2 : Addr} (D : ZipApart z TI TO i1 i2 a b) :
    Turn P w K (.Tuple elts kk tpos) (ItzY k1 k2 K a b) [z, TI, TO, i1, i2] z (fun i h => IsZip h z TI TO .none ∧ IsPair h TI (.ref i1) (.ref i2) ∧ (∃ x y, IsPair h TO x y) ∧ SqI k1 h i1 a i ∧ SqI k2 h i2 b i) where
  mem := (turn_zipX (P := P) (w := w) (K := K) (elts := elts) (kk := kk) (tpos := tpos) (k1 := k1) (k2 := k2) [] [] D).mem
  obj := (turn_zipX (P := P) (w := w) (K := K) (elts := elts) (kk := kk) (tpos := tpos) (k1 := k1) (k2 := k2) [] [] D).obj
  keep := (turn_zipX (P := P) (w := w) (K := K) (elts := elts) (kk := kk) (tpos := tpos) (k1 := k1) (k2 := k2) [] [] D).keep
  item := fun X h1 h2 h3 h4 i pins s σ H E I hf tn ⟨xs, ys, hq, hq2, hl⟩ => by
    refine thn ((turn_zipX xs ys D).item X h1 h2 h3 h4 i pins s σ H E I hf tn ⟨hq, hq2, hl⟩) fun r s1 ⟨u, e1, q⟩ => ⟨u, e1, thn q fun _ s2 ⟨x, H', I2, rx, ⟨T, y, y2, e2, e3, e4, e5, e6⟩, tn2, hb⟩ => ⟨x, H', I2, rx, ⟨T, y, y2, e2, e3, e4, fun zs hzs => ?_, fun zs hzs => ?_⟩, tn2, hb⟩⟩
    · subst h3
      rw [sqx_inj I hzs hq]; exact e5
    · subst h3
      rw [sqx_inj I hzs hq2]; exact e6
  done := fun X h1 h2 h3 h4 i pins s σ H E I hf tn ⟨xs, ys, hq, hq2, hl⟩ => (turn_zipX (elts := elts) (kk := kk) (tpos := tpos) xs ys D).done X h1 h2 h3 h4 i pins s σ H E I hf tn ⟨hq, hq2, hl⟩
  self := (turn_zipX (P := P) (w := w) (K := K) (elts := elts) (kk := kk) (tpos := tpos) (k1 := k1) (k2 := k2) [] [] D).self
def iZipY (K : PySem.W.Frag) (ta : TA) : TI := fun σ H R => ta σ H fun vs H1 => ∃ k1 k2 a b xs ys, vs = [.ref a, .ref b] ∧ SqX k1 K H1 a xs ∧ SqX k2 K H1 b ys ∧ R (ItzY k1 k2 K a b) H1
theorem pi_zipY {X : Cx} {e e2 : Expr} {ta : TA} {p pos tpos : Pos} {elts : List Expr} {kk : Nat} (hg : Gl X "zip") (hm : X.mg "zip" = none) (ha : PA X [e, e2] ta)
    (hs : starEach [e, e2] X.env = (false, eval e X.env) :: starEach [e2] X.env := by rfl) (hpl : (backTo pos (starEach [e2] X.env)).any (·.1) = false := by rfl) :
    PI X (.Tuple elts kk tpos) (.Call (.Name "zip" p) [e, e2] [] pos) (iZipY X.K ta) := by
  intro pins s σ H R I h
  refine Call_ (ld_blt I hg hm boot_zip5 (PyProof.Rows.callWith_type1 (thn (ha pos pins s σ H _ I h) fun us s1 ⟨vs, H1, I1, r1, q1⟩ => ?_) hs hpl))
  obtain ⟨k1, k2, a, b, xs, ys, ex, hqx, hqy, q⟩ := q1
  subst ex
  cases r1 with
  | cons r rr =>
    cases rr with
    | cons r' rr =>
      cases rr
      cases r
      cases r'
      obtain ⟨its, rv, p1, _⟩ := sqx I1 hqx
      obtain ⟨its2, rv2, p2, _⟩ := sqx I1 hqy
      refine call_zipX p1 p2 fun h' hz hTI hTO h1 h2 hk => wpAny_pyIter_zip hz ?_
      have I2 : Inv X pins σ H1 { s1 with heap := h' } := I1.kept (t' := s1.toks) hk
      refine ⟨s1.heap.objs.size + 4, [s1.heap.objs.size + 4, s1.heap.objs.size + 2, s1.heap.objs.size + 3, s1.heap.objs.size, s1.heap.objs.size + 1], _, _, H1, rfl, I2, turn_zipY (PySem.W.ktu_apart s1.heap.objs.size a b p1.lt p2.lt), ⟨hz, hTI, ⟨_, _, hTO⟩, h1, h2⟩, fun c hcm => ?_, q⟩
      have e' : c = s1.heap.objs.size + 4 ∨ c = s1.heap.objs.size + 2 ∨ c = s1.heap.objs.size + 3 ∨ c = s1.heap.objs.size ∨ c = s1.heap.objs.size + 1 := by simpa using hcm
      have hle : s1.heap.objs.size ≤ c := by
        rcases e' with z | z | z | z | z <;> rw [z] <;> first | exact Nat.le_refl _ | exact Nat.le_add_right _ _
      exact I1.fpOk hle (I1.hok.fresh hle)
section
variable {X : Cx} {a b c e o i tg : Expr} {wa wb wc wo : WE} {pos : Pos}
/-- enumerate(xs) -/
def enumP (xs : List PV) : List PV := xs.zipIdx.map fun p => PV.tup [.int (p.2 : Nat), p.1]
def wEnum (w : WA) : WI := fun τ S R => w τ S fun vs S1 => ∃ x k xs, vs = [x] ∧ seqW S1 x = some (k, xs) ∧ R (enumP xs) (fun S' => seqW S' x = some (k, xs)) S1
/-- zip(xs, ys) -/
def zipP (xs ys : List PV) : List PV := (xs.zip ys).map fun p => PV.tup [p.1, p.2]
theorem zipP_length (xs ys : List PV) : (zipP xs ys).length = min xs.length ys.length := by simp [zipP]
theorem zipP_get {xs ys : List PV} {i : Nat} {x : PV} (h : (zipP xs ys)[i]? = some x) : ∃ y z, xs[i]? = some y ∧ ys[i]? = some z ∧ x = .tup [y, z] := by
  unfold zipP at h
  rw [List.getElem?_map] at h
  cases q : (xs.zip ys)[i]? with
  | none => rw [q] at h; cases h
  | some y =>
    rw [q] at h
    cases h
    obtain ⟨h1, h2⟩ := List.getElem?_zip_eq_some.mp q
    exact ⟨_, _, h1, h2, rfl⟩
def wZip (w : WA) : WI := fun τ S R => w τ S fun vs S1 => ∃ x y k xs l ys, vs = [x, y] ∧ seqW S1 x = some (k, xs) ∧ seqW S1 y = some (l, ys) ∧ R (zipP xs ys) (fun S' => seqW S' x = some (k, xs) ∧ seqW S' y = some (l, ys)) S1
theorem si_zip {w : WA} {p tpos : Pos} {elts : List Expr} {kk : Nat} (hg : Gl X "zip") (hm : X.mg "zip" = none) (ha : SA Ts X [a, b] w)
    (hs : starEach [a, b] X.env = (false, eval a X.env) :: starEach [b] X.env := by rfl) (hpl : (backTo pos (starEach [b] X.env)).any (·.1) = false := by rfl) : SI Ts X (.Tuple elts kk tpos) (.Call (.Name "zip" p) [a, b] [] pos) (wZip w) := by
  refine ⟨pi_imp (pi_zipY hg hm ha.pa hs hpl) fun σ H R q => ?_, fun τ S R R' q k => ha.mo _ _ _ _ q fun x S1 ⟨v, v2, b, xs, b2, ys, e, h1, h2, q⟩ => ⟨v, v2, b, xs, b2, ys, e, h1, h2, k _ _ _ q⟩⟩
  obtain ⟨M, S, τ, s, st, q⟩ := q
  refine runA ha.mo s st q fun v S1 M1 H1 u f t1 s1 r1 => ?_
  obtain ⟨x, y, k, xs, l, ys, rfl, h1, h1', f⟩ := f
  obtain ⟨u1, u2, rfl, r2, r3⟩ := r1.two
  obtain ⟨p, us, rfl, h4, r4⟩ := s1.seq h1 r2
  obtain ⟨p2, us2, rfl, h4', r4'⟩ := s1.seq h1' r3
  refine ⟨k, l, p, p2, us, us2, rfl, h4, h4', f M1 H1 _ t1 s1 fun M2 S2 H2 t2 s2 hG => ?_⟩
  obtain ⟨ws, h5, r5⟩ := seq_later r2 t2 s2 hG.1
  obtain ⟨ws2, h5', r5'⟩ := seq_later r3 t2 s2 hG.2
  refine ⟨fun i x hx => ?_, fun i hi => ⟨ws, ws2, h5, h5', ?_⟩⟩
  · obtain ⟨y, z, hy, hz, rfl⟩ := zipP_get hx
    obtain ⟨u, h6, r6⟩ := r5.get hy
    obtain ⟨u', h6', r6'⟩ := r5'.get hz
    refine ⟨⟨ws, ws2, h5, h5', (List.getElem?_eq_some_iff.mp h6).1, (List.getElem?_eq_some_iff.mp h6').1⟩, fun u2 H3 yl => ?_⟩
    obtain ⟨T, x2, y2, rfl, h7, rfl, h8, h8'⟩ := yl
    have h9 := h8 ws h5
    have h9' := h8' ws2 h5'
    rw [h6] at h9
    rw [h6'] at h9'
    cases h9; cases h9'
    obtain ⟨s3, t3⟩ := s2.beside (o := .tup [u, u']) h7
    exact ⟨t3, s3, .tup (SqT.of upd_same) (.cons (r6.stp t3) (.cons (r6'.stp t3) .nil))⟩
  · rw [zipP_length] at hi
    rw [← r5.length, ← r5'.length]
    omega
end
end L4
set_option Elab.async false
set_option linter.all false
set_option maxRecDepth 100000
namespace L4
open PySem PySem.Spec PyProof.Rows L2 L3
section
variable {K : PySem.W.Frag} {M M' : Map} {S : Sto} {n n' : Nat} {H H' H0 : Hp} {D : Addr} {o : HO} {us us' : List V}
theorem Stp.notOwn (t : Stp Ts K M n H M' n' H') (h : ¬ Own M n D) (hd : H D = some o) : ¬ Own M' n' D := by
  rintro ⟨i, hi, e⟩
  by_cases c : i < n
  · rw [t.m i c, t.q i c] at e
    exact h ⟨i, c, e⟩
  · obtain ⟨p, q⟩ := t.new i (by omega) hi
    rcases e with rfl | rfl
    · rw [p] at hd; cases hd
    · rw [q] at hd; cases hd
theorem Sim.notT (s : Sim Ts K M S H) (hd : H D = some (.lst us)) : D ∉ Ts := fun z => by
  obtain ⟨ps, e, _⟩ := s.tab D z
  rw [hd] at e; cases e
theorem muts_lst (hd : H D = some (.lst us)) : ∀ x, H D = some x → muts x := fun x e => by rw [hd] at e; cases e; trivial
theorem Sim.side (s : Sim Ts K M S H) (h : ¬ Own M S.length D) (hd : H D = some (.lst us)) : Sim Ts K M S (upd H D (.lst us')) := by
  refine ⟨fun i ob hi => ?_, s.sep, fun P hP => ?_⟩
  · have hl := (List.getElem?_eq_some_iff.mp hi).1
    refine (s.ob i ob hi).mono (Nat.le_refl _) (fun _ _ => rfl) (fun a us h => sqt_upd h (muts_lst hd)) (fun a us h => scr_upd h (muts_lst hd)) (upd_ne ?_) (upd_ne ?_)
    · rintro rfl; exact h ⟨i, hl, .inl rfl⟩
    · rintro rfl; exact h ⟨i, hl, .inr rfl⟩
  · obtain ⟨ps, e, tok⟩ := s.tab P hP
    refine ⟨ps, ?_, tok⟩
    rw [upd_ne]; exact e
    rintro rfl; rw [hd] at e; cases e
theorem Stp.side (t : Stp Ts K M n H0 M' n' H) (h0 : H0 D = none) (hd : H D = some (.lst us)) : Stp Ts K M n H0 M' n' (upd H D (.lst us')) where
  le := t.le
  m := t.m
  q := t.q
  tup := fun a us h => sqt_upd (t.tup a us h) (muts_lst hd)
  scr := fun a us h => scr_upd (t.scr a us h) (muts_lst hd)
  fr := fun a u h h1 h2 => by
    rw [upd_ne]; exact t.fr a u h h1 h2
    rintro rfl; rw [h0] at h; cases h
  grow := fun a h => t.grow a (none_upd h)
  new := t.new
theorem RPs.side {xs : List PV} {ws : List V} (r : RPs K M n H xs ws) (hd : H D = some (.lst us)) : RPs K M n (upd H D (.lst us')) xs ws := r.mono (Nat.le_refl _) (fun _ _ => rfl) (fun a us h => sqt_upd h (muts_lst hd)) (fun a us h => scr_upd h (muts_lst hd))
theorem StR.side {τ : Ev} {σ : L2.St} (r : StR K M n H τ σ) (hd : H D = some (.lst us)) : StR K M n (upd H D (.lst us')) τ σ := ⟨r.len, fun i v h => let ⟨u, h1, h2⟩ := r.get i v h; ⟨u, h1, h2.mono (Nat.le_refl _) (fun _ _ => rfl) (fun a us h => sqt_upd h (muts_lst hd)) (fun a us h => scr_upd h (muts_lst hd))⟩⟩
end
theorem wipe_twice (σ : L2.St) (vs : List Nat) : wipe (wipe σ vs) vs = wipe σ vs := by
  apply List.ext_getElem?
  intro j
  by_cases m : j ∈ vs
  · rw [wipe_in m, wipe_in m, wipe_length]
  · rw [wipe_out m]
def wYes : WT := fun _ S Q => Q true S
def wLcGo (g : WG) (wt : WT) (we : WE) (τ : Ev) (G : Sto → Prop) : List PV → List PV → Sto → (List PV → Sto → Prop) → Prop
  | [], acc, S, F => G S ∧ F acc S
  | x :: xs, acc, S, F => G S ∧ g x τ fun τ2 => wt τ2 S fun b S3 => if b = true then we τ2 S3 fun y S4 => wLcGo g wt we τ G xs (acc ++ [y]) S4 F else wLcGo g wt we τ G xs acc S3 F
theorem mo_lcGo {g : WG} {wt : WT} {we : WE} {τ : Ev} {G : Sto → Prop} (mg : MoG g) (mt : MoT wt) (me : MoE we) : ∀ (xs acc : List PV) (S : Sto) (F F' : List PV → Sto → Prop), wLcGo g wt we τ G xs acc S F → (∀ ys S', F ys S' → F' ys S') → wLcGo g wt we τ G xs acc S F'
  | [], acc, S, F, F', h, k => ⟨h.1, k _ _ h.2⟩
  | x :: xs, acc, S, F, F', h, k => ⟨h.1, mg _ _ _ _ h.2 fun τ2 h => mt _ _ _ _ h fun b S3 h => ite_imp h (fun h => me _ _ _ _ h fun y S4 h => mo_lcGo mg mt me xs _ _ _ _ h k) fun h => mo_lcGo mg mt me xs _ _ _ _ h k⟩
def wLcV (wi : WI) (g : WG) (wt : WT) (we : WE) (vs : List Nat) : WA := fun τ S F => wi τ S fun xs G S1 => xs.length ≤ 16777216 ∧ wLcGo g wt we (wipeW τ vs) G xs [] S1 F
theorem mo_lcV {wi : WI} {g : WG} {wt : WT} {we : WE} {vs : List Nat} (mi : MoI wi) (mg : MoG g) (mt : MoT wt) (me : MoE we) : MoA (wLcV wi g wt we vs) := fun τ S F F' h k => mi _ _ _ _ h fun xs G S1 h => ⟨h.1, mo_lcGo mg mt me _ _ _ _ _ h.2 k⟩
/-- a list that was made beside the store -/
def LcQ (Ts : List Addr) (K : PySem.W.Frag) (M : Map) (n : Nat) (H : Hp) (Q : VK) : List PV → Sto → Prop := fun ys S2 => ys.length ≤ 16777216 → ∀ M2 H2 D us, Stp Ts K M n H M2 S2.length H2 → Sim Ts K M2 S2 H2 → ¬ Own M2 S2.length D → H D = none → H2 D = some (.lst us) → RPs K M2 S2.length H2 ys us → Q (.ref D) H2
theorem lc_sound {K : PySem.W.Frag} {wi : WI} {g : TG} {wg : WG} {wt : WT} {we : WE} {vs : List Nat} (mi : MoI wi) (gr : GR K g wg vs) (mg : MoG wg) (mt : MoT wt) (me : MoE we) {M : Map} {S : Sto} {τ : Ev} {σ : L2.St} {H : Hp} {Q : VK} (s : Sim Ts K M S H) (st : StR K M S.length H τ σ)
    (h : wLcV wi wg wt we vs τ S (LcQ Ts K M S.length H Q)) : tLc (upI Ts K wi) g (upT Ts K wt) (upE Ts K we) vs σ H Q := by
  refine ⟨M, S, τ, s, st, mi _ _ _ _ h fun xs G S1 ⟨hlen, f⟩ M1 H1 J t1 s1 it D hD => ?_⟩
  obtain ⟨s1', t1'⟩ := s1.beside (o := .lst []) hD
  have hf := s1.free hD
  refine ⟨fun i m H2 => m = xs.length - i ∧ i ≤ xs.length ∧ ∃ M2 S2 acc us, Stp Ts K M1 S1.length H1 M2 S2.length H2 ∧ Sim Ts K M2 S2 H2 ∧ ¬ Own M2 S2.length D ∧ H2 D = some (.lst us) ∧ RPs K M2 S2.length H2 acc us ∧ acc.length ≤ i ∧ wLcGo wg wt we (wipeW τ vs) G (xs.drop i) acc S2 (LcQ Ts K M S.length H Q),
    ⟨_, rfl, Nat.zero_le _, M1, S1, [], [], t1', s1', hf.1, upd_same, .nil, Nat.le_refl _, f⟩, ?_⟩
  rintro i m H2 ⟨rfl, hil, M2, S2, acc, us, t2, s2, no, hD2, ra, hal, q2⟩
  by_cases hl : i < xs.length
  · obtain ⟨x, hx⟩ : ∃ x, xs[i]? = some x := ⟨xs[i], by simp [hl]⟩
    have ed : xs.drop i = x :: xs.drop (i + 1) := by
      rw [List.drop_eq_getElem_cons hl]
      have := List.getElem?_eq_getElem hl
      rw [hx] at this
      rw [Option.some.inj this]
    rw [ed] at q2
    obtain ⟨hG, q2⟩ := q2
    obtain ⟨h1, _⟩ := it M2 S2 H2 t2.w s2 hG
    obtain ⟨hgo, hy⟩ := h1 i x hx
    refine .inr ⟨hgo, fun H3 => ∃ M2 S2 acc us, Stp Ts K M1 S1.length H1 M2 S2.length H3 ∧ Sim Ts K M2 S2 H3 ∧ ¬ Own M2 S2.length D ∧ H3 D = some (.lst us) ∧ RPs K M2 S2.length H3 acc us ∧ acc.length ≤ i + 1 ∧ wLcGo wg wt we (wipeW τ vs) G (xs.drop (i + 1)) acc S2 (LcQ Ts K M S.length H Q), fun H3 h => ⟨_, ?_, rfl, hl, h⟩, fun u H3 yl => ?_⟩
    · omega
    · obtain ⟨t3, s3, r3⟩ := hy u H3 yl
      have hD3 := t3.fr D _ hD2 no (s2.notT hD2)
      have st3 : StR K M2 S2.length H3 (wipeW τ vs) (wipe σ vs) := (((st.stp t1).stp t2).stp t3).wipe vs
      refine gr M2 S2.length H3 _ _ x u _ _ st3 r3 q2 fun τ4 σ4 q4 st4 e4 => ⟨by rw [e4]; exact wipe_twice σ vs, ?_⟩
      refine runT mt s3 st4 q4 fun b S5 M5 H5 f5 t5 s5 => ?_
      have no5 := t5.notOwn no hD3
      have hD5 := t5.fr D _ hD3 no (s3.notT hD3)
      refine ite_imp f5 (fun f5 => ?_) fun f5 => ⟨M5, S5, acc, us, (t2.trans t3).trans t5, s5, no5, hD5, (ra.stp t3).stp t5, by omega, f5⟩
      refine runE me s5 (st4.stp t5) f5 fun y S6 M6 H6 uy f6 t6 s6 r6 => ?_
      have no6 := t6.notOwn no5 hD5
      have hD6 := t6.fr D _ hD5 no5 (s5.notT hD5)
      have ra6 := ((ra.stp t3).stp t5).stp t6
      have el := ra6.length
      refine ⟨us, hD6, by rw [sizeLine_eq, ← el]; omega, M6, S6, acc ++ [y], us ++ [uy], (((t2.trans t3).trans t5).trans t6).side hD hD6, s6.side no6 hD6, no6, upd_same, ?_, by rw [List.length_append, List.length_singleton]; omega, f6⟩
      exact (ra6.append (.cons r6 .nil)).side hD6
  · have : i = xs.length := by omega
    subst this
    rw [List.drop_length] at q2
    obtain ⟨hG, q2⟩ := q2
    obtain ⟨_, h1⟩ := it M2 S2 H2 t2.w s2 hG
    exact .inl ⟨h1 _ (Nat.le_refl _), q2 (by omega) M2 H2 D us (t1.trans t2) s2 no (t1.grow D hD) hD2 ra⟩
end L4
set_option Elab.async false
set_option linter.all false
set_option maxRecDepth 100000
namespace L4
open PySem PySem.Spec PyProof.Rows L2 L3
section
variable {X : Cx} {a b c e elt iter tg : Expr} {ifs : List Expr} {scope : Scope} {own : List (Str × Nat)} {pos : Pos} {wi : WI} {g : TG} {wg : WG} {wt : WT} {we : WE}
structure STs (Ts : List Addr) (X : Cx) (ifs : List Expr) (w : WT) : Prop where
  pt : PTs X ifs (upT Ts X.K w)
  mo : MoT w
theorem sts_nil : STs Ts X [] wYes := ⟨fun pins s σ H Q I ⟨M, S, τ, s0, st, h⟩ => pts_nil pins s σ H Q I (h M H (.refl _ _ _ _) s0), fun τ S Q Q' h k => k _ _ h⟩
theorem sts_one (h : ST Ts X c wt) : STs Ts X [c] wt := ⟨pts_one h.pt, h.mo⟩
theorem mo_of {Y : Shared → Hp → Addr → List (Str × Addr) → List Addr → Cx} {elt : Expr} {we : WE} (X : Cx) (he : ∀ s H C cl fp, SE Ts (Y s H C cl fp) elt we) : MoE we := (he X.s_0 X.H_0 0 [] []).mo
theorem mt_of {Y : Shared → Hp → Addr → List (Str × Addr) → List Addr → Cx} {ifs : List Expr} {wt : WT} (X : Cx) (he : ∀ s H C cl fp, STs Ts (Y s H C cl fp) ifs wt) : MoT wt := (he X.s_0 X.H_0 0 [] []).mo
/-- the list, then what is done with it -/
def wLc (wi : WI) (g : WG) (wt : WT) (we : WE) (vs : List Nat) : WE := fun τ S Q => wLcV wi g wt we vs τ S fun ys S2 => Q (.ref S2.length) (S2 ++ [.lst ys])
theorem lc_take {K : PySem.W.Frag} {M : Map} {n : Nat} {H : Hp} {Q : VK} {ys : List PV} {S2 : Sto} (h : upQ Ts K M n H Q (.ref S2.length) (S2 ++ [.lst ys])) : LcQ Ts K M n H Q ys S2 := fun _ M2 H2 D us t s no h0 hD r => by
  have s' : Sim Ts K (M2.add S2.length D D) (S2 ++ [.lst ys]) H2 := s.take no no ⟨rfl, us, hD, r.mono (by omega) (fun j hj => M2.add_m' hj) (fun _ _ h => h) (fun _ _ h => h)⟩
  have t' : Stp Ts K M n H (M2.add S2.length D D) (S2 ++ [Ob.lst ys]).length H2 := by
    rw [List.length_append, List.length_singleton]
    exact t.take h0 h0
  refine h _ _ _ t' s' ?_
  have := RP.ref (K := K) (M := M2.add S2.length D D) (n := (S2 ++ [Ob.lst ys]).length) (H := H2) (i := S2.length) (by simp)
  rw [M2.add_m] at this
  exact this
theorem se_lc (hc : X.calm = true) (hN : X.N.Nodup) (hi : SI Ts X tg iter wi) (ok : BlkOk X.N X.env.scope scope own)
    (hg : ∀ (s : Shared) (H : Hp) (C : Addr) (cl : List (Str × Addr)) (fp : List Addr), PG (X.blk s H scope (compEnvC scope cl C X.env) fp) tg g) (gr : GR X.K g wg (own.map (·.2))) (mg : MoG wg)
    (ht : ∀ (s : Shared) (H : Hp) (C : Addr) (cl : List (Str × Addr)) (fp : List Addr), STs Ts (X.blk s H scope (compEnvC scope cl C X.env) fp) ifs wt)
    (he : ∀ (s : Shared) (H : Hp) (C : Addr) (cl : List (Str × Addr)) (fp : List Addr), SE Ts (X.blk s H scope (compEnvC scope cl C X.env) fp) elt we) (hs : ∀ x, foldedSetIterable iter X.env x = pure x := by intro _; rfl) :
    SE Ts X (.ListComp elt [⟨tg, iter, ifs, 0⟩] scope pos) (wLc wi wg wt we (own.map (·.2))) := by
  have mt := mt_of X ht
  have me := mo_of X he
  refine ⟨pe_imp (pe_lc (te := upE Ts X.K we) (tt := upT Ts X.K wt) hc hN hi.pi ok hg (fun s H C cl fp => (ht s H C cl fp).pt) (fun s H C cl fp => (he s H C cl fp).pe) hs) fun σ H Q h => ?_, fun τ S Q Q' h k => mo_lcV hi.mo mg mt me _ _ _ _ h fun ys S2 h => k _ _ h⟩
  obtain ⟨M, S, τ, s, st, h⟩ := h
  exact lc_sound hi.mo gr mg mt me s st (mo_lcV hi.mo mg mt me _ _ _ _ h fun ys S2 h => lc_take h)
/-- name = [..] -/
theorem ss_setLc {i : Nat} {y : Str} {py spos : Pos} (hc : X.calm = true) (hN : X.N.Nodup) (hy : X.N[i]? = some y) (hyl : X.env.scope.names.lookup y = some .local)
    (hsw : swapsWith (.ListComp elt [⟨tg, iter, ifs, 0⟩] scope pos) (some (.Name y py)) spos.line X.env = pure true) (hi : SI Ts X tg iter wi) (ok : BlkOk X.N X.env.scope scope own)
    (hg : ∀ (s : Shared) (H : Hp) (C : Addr) (cl : List (Str × Addr)) (fp : List Addr), PG (X.blk s H scope (compEnvC scope cl C X.env) fp) tg g) (gr : GR X.K g wg (own.map (·.2))) (mg : MoG wg)
    (ht : ∀ (s : Shared) (H : Hp) (C : Addr) (cl : List (Str × Addr)) (fp : List Addr), STs Ts (X.blk s H scope (compEnvC scope cl C X.env) fp) ifs wt)
    (he : ∀ (s : Shared) (H : Hp) (C : Addr) (cl : List (Str × Addr)) (fp : List Addr), SE Ts (X.blk s H scope (compEnvC scope cl C X.env) fp) elt we) (hs : ∀ x, foldedSetIterable iter X.env x = pure x := by intro _; rfl) :
    SS Ts X (.Assign [.Name y py] (.ListComp elt [⟨tg, iter, ifs, 0⟩] scope pos) spos) (wAsg (wLc wi wg wt we (own.map (·.2))) (wgName i)) := by
  have mt := mt_of X ht
  have me := mo_of X he
  have mw : MoE (wLc wi wg wt we (own.map (·.2))) := fun τ S Q Q' h k => mo_lcV hi.mo mg mt me _ _ _ _ h fun ys S2 h => k _ _ h
  refine ⟨ps_imp (ps_setLc (te := upE Ts X.K we) (tt := upT Ts X.K wt) hc hN hy hyl hsw hi.pi ok hg (fun s H C cl fp => (ht s H C cl fp).pt) (fun s H C cl fp => (he s H C cl fp).pe) hs) fun D σ H h => ?_, mo_asg mw (mg_name i)⟩
  obtain ⟨M, S, τ, s, st, h⟩ := h
  refine lc_sound hi.mo gr mg mt me s st (mo_lcV hi.mo mg mt me _ _ _ _ h fun ys S2 h => lc_take fun M1 H1 u t1 s1 r1 => ?_)
  exact h M1 H1 _ t1 s1 ((st.stp t1).set r1 i)
structure SCL (Ts : List Addr) (X : Cx) (f : Value) (r : WC) : Prop where
  ex : ∃ R, CallR X f R ∧ ∀ (M : Map) (S : Sto) (H : Hp) (ys : List PV) (us : List V) (D : Addr) (Q : VK), Sim Ts X.K M S H → H D = some (.lst us) → ys.length ≤ 16777216 → RPs X.K M S.length H ys us → r ys S (upQ Ts X.K M S.length H Q) → R [.ref D] H Q
  mo : ∀ (xs : List PV) (S : Sto) (Q Q' : WQ), r xs S Q → (∀ v S', Q v S' → Q' v S') → r xs S Q'
def wLcU (r : WC) (wi : WI) (g : WG) (wt : WT) (we : WE) (vs : List Nat) : WE := fun τ S Q => wLcV wi g wt we vs τ S fun ys S2 => r ys S2 Q
section
variable {f : Value} {r : WC} {x : Str} {p lpos : Pos}
theorem lcu_core {R : List V → Hp → VK → Prop} {t : TE} (hm : ∀ (xs : List PV) (S : Sto) (Q Q' : WQ), r xs S Q → (∀ v S', Q v S' → Q' v S') → r xs S Q')
    (snd : ∀ (M : Map) (S : Sto) (H : Hp) (ys : List PV) (us : List V) (D : Addr) (Q : VK), Sim Ts X.K M S H → H D = some (.lst us) → ys.length ≤ 16777216 → RPs X.K M S.length H ys us → r ys S (upQ Ts X.K M S.length H Q) → R [.ref D] H Q)
    {M : Map} {S : Sto} {H : Hp} {Q : VK} {ys : List PV} {S2 : Sto} (h : r ys S2 (upQ Ts X.K M S.length H Q)) : LcQ Ts X.K M S.length H (fun v H' => R [v] H' Q) ys S2 :=
  fun hl M2 H2 D us t s no h0 hD rr => snd M2 S2 H2 ys us D Q s hD hl rr (hm _ _ _ _ h fun v S3 h => h.base t)
theorem se_lcTy {T : String} (hcl : SCL Ts X (.type T) r) (hgx : Gl X x) (hm : X.mg x = none) (hv : bootBuiltins x = some (.type T)) (hc : X.calm = true) (hN : X.N.Nodup) (hi : SI Ts X tg iter wi) (ok : BlkOk X.N X.env.scope scope own)
    (hg : ∀ (s : Shared) (H : Hp) (C : Addr) (cl : List (Str × Addr)) (fp : List Addr), PG (X.blk s H scope (compEnvC scope cl C X.env) fp) tg g) (gr : GR X.K g wg (own.map (·.2))) (mg : MoG wg)
    (ht : ∀ (s : Shared) (H : Hp) (C : Addr) (cl : List (Str × Addr)) (fp : List Addr), STs Ts (X.blk s H scope (compEnvC scope cl C X.env) fp) ifs wt)
    (he : ∀ (s : Shared) (H : Hp) (C : Addr) (cl : List (Str × Addr)) (fp : List Addr), SE Ts (X.blk s H scope (compEnvC scope cl C X.env) fp) elt we) (hs : ∀ x, foldedSetIterable iter X.env x = pure x := by intro _; rfl)
    (hn : x ≠ "__name__" := by decide) (hdb : (x == ("__debug__" : Str)) = false := by decide)
    (hst : starEach [Expr.ListComp elt [⟨tg, iter, ifs, 0⟩] scope lpos] X.env = (false, eval (Expr.ListComp elt [⟨tg, iter, ifs, 0⟩] scope lpos) X.env) :: starEach [] X.env := by rfl) :
    SE Ts X (.Call (.Name x p) [.ListComp elt [⟨tg, iter, ifs, 0⟩] scope lpos] [] pos) (wLcU r wi wg wt we (own.map (·.2))) := by
  obtain ⟨R, o, snd⟩ := hcl.ex
  have mt := mt_of X ht
  have me := mo_of X he
  refine ⟨pe_imp (pe_callTy o hgx hm hv (pa_cons (pe_lc (te := upE Ts X.K we) (tt := upT Ts X.K wt) hc hN hi.pi ok hg (fun s H C cl fp => (ht s H C cl fp).pt) (fun s H C cl fp => (he s H C cl fp).pe) hs) pa_nil hst) hn hdb hst (by rfl)) fun σ H Q h => ?_, fun τ S Q Q' h k => mo_lcV hi.mo mg mt me _ _ _ _ h fun ys S2 h => hcl.mo _ _ _ _ h k⟩
  obtain ⟨M, S, τ, s, st, h⟩ := h
  exact lc_sound hi.mo gr mg mt me s st (mo_lcV hi.mo mg mt me _ _ _ _ h fun ys S2 h => lcu_core (t := upE Ts X.K we) hcl.mo snd h)
theorem se_lcB {id : String} (hcl : SCL Ts X (.builtin id) r) (hgx : Gl X x) (hm : X.mg x = none) (hv : bootBuiltins x = some (.builtin id)) (hc : X.calm = true) (hN : X.N.Nodup) (hi : SI Ts X tg iter wi) (ok : BlkOk X.N X.env.scope scope own)
    (hg : ∀ (s : Shared) (H : Hp) (C : Addr) (cl : List (Str × Addr)) (fp : List Addr), PG (X.blk s H scope (compEnvC scope cl C X.env) fp) tg g) (gr : GR X.K g wg (own.map (·.2))) (mg : MoG wg)
    (ht : ∀ (s : Shared) (H : Hp) (C : Addr) (cl : List (Str × Addr)) (fp : List Addr), STs Ts (X.blk s H scope (compEnvC scope cl C X.env) fp) ifs wt)
    (he : ∀ (s : Shared) (H : Hp) (C : Addr) (cl : List (Str × Addr)) (fp : List Addr), SE Ts (X.blk s H scope (compEnvC scope cl C X.env) fp) elt we) (hs : ∀ x, foldedSetIterable iter X.env x = pure x := by intro _; rfl)
    (hn : x ≠ "__name__" := by decide) (hdb : (x == ("__debug__" : Str)) = false := by decide)
    (hst : starEach [Expr.ListComp elt [⟨tg, iter, ifs, 0⟩] scope lpos] X.env = (false, eval (Expr.ListComp elt [⟨tg, iter, ifs, 0⟩] scope lpos) X.env) :: starEach [] X.env := by rfl) :
    SE Ts X (.Call (.Name x p) [.ListComp elt [⟨tg, iter, ifs, 0⟩] scope lpos] [] pos) (wLcU r wi wg wt we (own.map (·.2))) := by
  obtain ⟨R, o, snd⟩ := hcl.ex
  have mt := mt_of X ht
  have me := mo_of X he
  refine ⟨pe_imp (pe_callB o hgx hm hv (pa_cons (pe_lc (te := upE Ts X.K we) (tt := upT Ts X.K wt) hc hN hi.pi ok hg (fun s H C cl fp => (ht s H C cl fp).pt) (fun s H C cl fp => (he s H C cl fp).pe) hs) pa_nil hst) hn hdb hst (by rfl)) fun σ H Q h => ?_, fun τ S Q Q' h k => mo_lcV hi.mo mg mt me _ _ _ _ h fun ys S2 h => hcl.mo _ _ _ _ h k⟩
  obtain ⟨M, S, τ, s, st, h⟩ := h
  exact lc_sound hi.mo gr mg mt me s st (mo_lcV hi.mo mg mt me _ _ _ _ h fun ys S2 h => lcu_core (t := upE Ts X.K we) hcl.mo snd h)
end
def uTuple : WC := fun ys S Q => Q (.tup ys) S
theorem u_tuple : SCL Ts X (.type "tuple") uTuple := ⟨⟨_, call_tuple_of, fun M S H ys us D Q s hD hl r h => ⟨D, us, rfl, .inl ⟨SqL.of hD, upQ.tup h s r⟩⟩⟩, fun xs S Q Q' h k => k _ _ h⟩
def uAll : WC := fun ys S Q => ∃ bs : List Bool, ys = bs.map PV.bl ∧ Q (.bl (bs.all id)) S
def uAny : WC := fun ys S Q => ∃ bs : List Bool, ys = bs.map PV.bl ∧ Q (.bl (bs.any id)) S
theorem u_all (hc : X.calm = true) : SCL Ts X (.builtin "all") uAll := ⟨⟨_, cr_all hc, fun M S H ys us D Q s hD hl r ⟨bs, e, h⟩ => by
  subst e
  exact ⟨D, bs, rfl, by rw [← r.of_bls]; exact SqL.of hD, h.here s (.bl _)⟩⟩, fun xs S Q Q' ⟨bs, e, h⟩ k => ⟨bs, e, k _ _ h⟩⟩
def uSum : WC := fun ys S Q => ∃ ns : List Int, ys = ns.map PV.int ∧ Q (.int ns.sum) S
end
end L4
set_option Elab.async false
set_option linter.all false
set_option maxRecDepth 100000
namespace L4
open PySem PySem.Spec PyProof.Rows L2 L3
def spW (Ts : List Addr) (K : PySem.W.Frag) (wf : WC) : Sp := fun vs H Q _ => ∃ M S pvs, Sim Ts K M S H ∧ RPs K M S.length H pvs vs ∧ wf pvs S (upQ Ts K M S.length H Q)
abbrev MoC (wf : WC) : Prop := ∀ (xs : List PV) (S : Sto) (Q Q' : WQ), wf xs S Q → (∀ v S', Q v S' → Q' v S') → wf xs S Q'
structure DefW (Ts : List Addr) (P : Program) (w : World) (K : PySem.W.Frag) (mg : Str → Option Value) (base : Heap) (x : Str) (k : Nat) (ps : List Str) (wf : WC) : Prop where
  d : Def P w K mg base x k ps (spW Ts K wf)
  mo : MoC wf
section
variable {X : Cx} {e : Expr} {es : List Expr} {w : WA} {pos p : Pos}
theorem se_def {x : Str} {k : Nat} {ps : List Str} {wf : WC} (D : DefW Ts X.prog X.w X.K X.mg X.base x k ps wf) (hr : Room k X.A) (hg : Gl X x) (ha : SA Ts X (e :: es) w)
    (hdb : (x == ("__debug__" : Str)) = false := by decide) (he : starEach (e :: es) X.env = (false, eval e X.env) :: starEach es X.env := by rfl) (hpl : (backTo pos (starEach es X.env)).any (·.1) = false := by rfl) : SE Ts X (.Call (.Name x p) (e :: es) [] pos) (wCall wf w) := by
  refine ⟨pe_imp (pe_def D.d hr hg ha.pa hdb he hpl) fun σ H Q h => ?_, mo_call D.mo ha.mo⟩
  obtain ⟨M, S, τ, s, st, h⟩ := h
  refine runA ha.mo s st h fun vs S1 M1 H1 us f t1 s1 r1 => ?_
  show spW Ts X.K wf (us ++ []) H1 Q _
  rw [List.append_nil]
  exact ⟨M1, S1, vs, s1, r1, D.mo _ _ _ _ f fun v S2 h => h.base t1⟩
end
/-- the newest things may be forgotten at the end -/
def Fg (n : Nat) (Q : WQ) : WQ := fun v S => Q v S ∨ ∃ k, n ≤ k ∧ k ≤ S.length ∧ v.Cl k ∧ Closed k (S.take k) ∧ Q v (S.take k)
theorem fg_here {n : Nat} {Q : WQ} {v : PV} {S : Sto} (h : Q v S) : Fg n Q v S := .inl h
def endsW (n : Nat) (Q : WQ) : WEnds := ⟨fun _ S => Fg n Q .non S, Fg n Q, fun _ _ => False, fun _ _ => False⟩
theorem fg_use {K : PySem.W.Frag} {M : Map} {S S1 : Sto} {H : Hp} {Q : VK} {v : PV} (h : Fg S.length (upQ Ts K M S.length H Q) v S1) {M1 : Map} {H1 : Hp} {u : V} (t : Stp Ts K M S.length H M1 S1.length H1) (s : Sim Ts K M1 S1 H1) (r : RP K M1 S1.length H1 v u) : Q u H1 := by
  rcases h with h | ⟨k, h1, h2, h3, h4, h⟩
  · exact h M1 H1 u t s r
  · have hl : (S1.take k).length = k := by rw [List.length_take]; omega
    have e : S1 = S1.take k ++ S1.drop k := (List.take_append_drop k S1).symm
    rw [e] at s
    have s' := Sim.forget s (by rw [hl]; exact h4)
    refine h M1 H1 u ?_ s' ?_
    · rw [hl]; exact t.forget h1 h2
    · rw [hl]; exact r.cut h3
theorem ok_body {P : Program} {w : World} {K : PySem.W.Frag} {mg : Str → Option Value} {base : Heap} {x qual : Str} {st : Stmt} {f : Addr} {fd : FuncData} {N ps : List Str} {k : Nat} {wf : WC} (F : Fun K x qual st f fd) (Sc : FnScope N ps (defScope st)) (len : ∀ pvs S Q, wf pvs S Q → pvs.length = ps.length)
    (hb : ∀ (cdv : Value) (A : Around) (outer : List Env) (s : Shared) (H : Hp) (E : XK), Room k (A.deeper (envOfC qual (defScope st) s.heap.objs.size f cdv)) →
      ∃ wb : WS, SSs Ts (cxOf CX0 P w K mg base N qual (defScope st) f cdv A outer s H E).nox (defBody st) wb ∧ ∀ pvs S Q, Closed S.length S → Cls S.length pvs → wf pvs S Q → wb (endsW S.length Q) (startW N.length pvs) S) :
    FnOk P w K mg base CX0 (k + 1) f fd ps (spW Ts K wf) := by
  refine F.ok Sc (fun vs H Q E h => ?_) (fun cdv A outer s H vs Q E hr h => ?_)
  · obtain ⟨M, S, pvs, sm, r, h⟩ := h
    rw [← r.length]; exact len _ _ _ h
  · obtain ⟨M, S, pvs, sm, r, h⟩ := h
    obtain ⟨wb, hwb, k⟩ := hb cdv A outer s H E hr
    refine ⟨_, hwb.ps, M, S, startW N.length pvs, sm, r.start, ?_⟩
    refine hwb.mo _ _ _ _ (k pvs S _ sm.closed r.cl h) ⟨?_, ?_, ?_, ?_⟩
    · exact fun τ1 S1 q M1 H1 σ1 t1 s1 st1 => fg_use q t1 s1 .non
    · exact fun v S1 q M1 H1 u t1 s1 r1 => fg_use q t1 s1 r1
    · exact fun τ1 S1 q => q.elim
    · exact fun τ1 S1 q => q.elim
theorem law_callW {P : Program} {w : World} {K : PySem.W.Frag} {mg mb : Str → Option Value} {CX : CXT} {k : Nat} {fa a : Addr} {fd : FuncData} {x : Str} {sp : Sp} {s₁ : Shared} {vs : List Value} {ns : List Int} {Ts : List Addr}
    (KX : K.In s₁.heap) (hns : s₁.heap.Ns mainGlobals mg) (hb : s₁.heap.Ns builtinsNs mb) (hbb : ∀ x : Str, x ≠ "__name__" → mb x = bootBuiltins x) (hlim : s₁.heap.NoLimit) (hg : s₁.gens = #[])
    (ha : s₁.heap.get? a = some { cls := .type "list", data := .seq vs.toArray }) (hi : IntsAre vs ns) (hl : ns.length ≤ sizeLine) (hr : Room k callerA)
    (hT : ∀ P ∈ Ts, TabAt K s₁.heap P) (hM : ∃ bm ob, BMod s₁.heap mainGlobals mg bm ob)
    (F : ∀ base : Heap, K.In base → base.Ns mainGlobals mg → (∃ bm ob, BMod base mainGlobals mg bm ob) → FnOk P w K mg base CX k fa fd [x] sp) (hbind : ∀ (s : Shared) (u : Value), BindsTo s fd ⟨[u], []⟩ [(x, u)])
    (hsp : ∀ H : Hp, (∀ P ∈ Ts, H P = some (.tbl #[])) → Scr K H a ns → sp [.ref a] H (fun v _ => v = .bl true) fun _ _ _ => False)
    (hCX : ∀ H e s', CX [] H s₁ (fun _ _ _ => False) e s' → False) :
    codeAny (model P w) callerA (.call (.ref fa) ⟨[.ref a], []⟩) (fun r s' => r = .ok (.ret (.bool true)) ∧ OldK s₁.heap s'.heap ∧ s'.os = s₁.os ∧ AllBare s'.gens) s₁ := by
  have rv := vals_ints hi
  have lenV := hi.length
  have nTa : a ∉ Ts := fun z => by
    have := (hT a z).tab
    rw [ha] at this; cases this
  have core : ∀ H : Hp, OnlyT Ts H → (∀ P ∈ Ts, H P = some (.tbl #[])) → Scr K H a ns → HOk P w H s₁.heap → (∀ b, H b ≠ none → b = a ∨ b ∈ Ts) → (H a ≠ none → K.lookup a = none) →
      codeAny (model P w) callerA (.call (.ref fa) ⟨[.ref a], []⟩) (fun r s' => r = .ok (.ret (.bool true)) ∧ OldK s₁.heap s'.heap ∧ s'.os = s₁.os ∧ AllBare s'.gens) s₁ := by
    intro H hO hTs hS hok hA hK
    have base_of : ∀ {b : Addr} {o : Obj}, s₁.heap.get? b = some o → H b = none → (hidT s₁.heap H).get? b = some o := fun e n => hidT_get e n
    have noA : ∀ {b : Addr} {o : Obj}, s₁.heap.get? b = some o → ((∃ es ep, o.data = .dict es ep) ∨ o.data = .plain) → H b = none := fun {b o} e d => by
      cases q : H b with
      | none => rfl
      | some u =>
        rcases hA b (by rw [q]; simp) with e' | e'
        · subst e'
          rw [ha] at e; cases e
          rcases d with ⟨es, ep, d⟩ | d
          · have d' : Data.seq vs.toArray _ = Data.dict es ep := d
            cases d'
          · have d' : Data.seq vs.toArray _ = Data.plain := d
            cases d'
        · rw [(hT b e').tab] at e; cases e
          rcases d with ⟨es, ep, d⟩ | d
          · have d' : Data.fields #[] = Data.dict es ep := d
            cases d'
          · have d' : Data.fields #[] = Data.plain := d
            cases d'
    have nsK : ∀ {b : Addr} {m : Str → Option Value}, s₁.heap.Ns b m → (hidT s₁.heap H).Ns b m := fun {b m} ⟨o, es, ep, e, d, r⟩ => ⟨o, es, ep, base_of e (noA e (.inl ⟨es, ep, d⟩)), d, r⟩
    have hKb : K.In (hidT s₁.heap H) := fun b o e => base_of (KX b o e) (by
      cases q : H b with
      | none => rfl
      | some u =>
        rcases hA b (by rw [q]; simp) with e' | e'
        · subst e'
          rw [hK (by rw [q]; simp)] at e; cases e
        · rw [(hT b e').out] at e; cases e)
    have hMb : ∃ bm ob, BMod (hidT s₁.heap H) mainGlobals mg bm ob := by
      obtain ⟨bm, ob, B⟩ := hM
      exact ⟨bm, ob, nsK B.ns, B.name, B.ne, base_of B.obj (noA B.obj (.inr B.data)), B.cls, B.dict, B.data⟩
    have hMd : Mod K mg (hidT s₁.heap H) := ⟨hKb, nsK hns, ⟨mb, nsK hb, hbb⟩, let ⟨mc, h1, h2⟩ := hlim; ⟨mc, nsK h1, h2⟩⟩
    have e0 : Env0 P w K mg (hidT s₁.heap H) callerA [] s₁ H := ⟨rfl, hMd, fun b o e => of_hidT e, Nat.le_of_eq (hidT_size _ _), trivial, fun b hb => absurd (show b ∈ ([] : List Addr) from hb) (by simp), hok, .of_eq hg⟩
    refine codeAny_mono ((F _ hKb (nsK hns) hMb).run callerA [] s₁ H ⟨[.ref a], []⟩ [.ref a] [.ref a] _ _ hr e0 (hbind s₁ (.ref a)) (.cons rfl .nil) (hsp H hTs hS)) fun r s' h => ?_
    cases r with
    | error e => exact (hCX H e s' h).elim
    | ok fl =>
      cases fl with
      | next => exact False.elim h
      | brk => exact False.elim h
      | cont => exact False.elim h
      | ret u =>
        obtain ⟨v, H', os, bare, un, hok', r', q⟩ := h
        have q' : v = .bl true := q
        subst q'
        obtain rfl : u = Value.bool true := r'
        have what : ∀ b o, s₁.heap.get? b = some o → asItWas s₁.heap s'.heap b o ∧ ∃ o', s'.heap.get? b = some o' := fun b o e => by
          rcases hO b with z | ⟨ob, xs, z⟩ | ⟨hm, z⟩
          · have := un.keep b o e z (by intro z; exact absurd (show b ∈ ([] : List Addr) from z) (by simp)) (by simp)
            exact ⟨.inl this, _, this⟩
          · have z2 := un.frzs b ob _ z
            obtain ⟨e1, _⟩ := hok b _ z
            obtain ⟨e2, _⟩ := hok' b _ z2
            rw [e] at e1; cases e1
            exact ⟨.inl e2, _, e2⟩
          · obtain ⟨more, z2⟩ := un.tbls b _ z
            have e2 : s'.heap.get? b = some { cls := .none, data := .fields (#[] ++ more) } := hok' b _ z2
            rw [(hT b hm).tab] at e; cases e
            exact ⟨.inr (.inl ⟨(hT b hm).is, rfl, #[], more, rfl, e2⟩), _, e2⟩
        exact ⟨rfl, ⟨fun b o e => (what b o e).1, fun b o e => (what b o e).2⟩, os, bare⟩
  cases hk : K.lookup a with
  | some o =>
    have e := KX a o hk
    rw [ha] at e
    cases e
    refine core (fun b => if b ∈ Ts then some (.tbl #[]) else none) (fun b => ?_) (fun P hP => if_pos hP) (.inr ⟨_, vs.toArray, _, hk, rfl, rfl, rfl, by rw [List.size_toArray, lenV]; exact hl, by simpa using rv⟩) (fun b u z => ?_) (fun b z => ?_) fun z => absurd (if_neg nTa) z
    · by_cases hb : b ∈ Ts
      · exact .inr (.inr ⟨hb, if_pos hb⟩)
      · exact .inl (if_neg hb)
    · by_cases hb : b ∈ Ts
      · have z' := (if_pos hb).symm.trans z
        cases z'
        exact (hT b hb).tab
      · have z' := (if_neg hb).symm.trans z
        cases z'
    · by_cases hb : b ∈ Ts
      · exact .inr hb
      · exact absurd (if_neg hb) z
  | none =>
    have neTs : ∀ P ∈ Ts, P ≠ a := fun P hP e => nTa (e ▸ hP)
    refine core (fun b => if b = a then some (.frz { cls := .type "list", data := .seq vs.toArray } (.lst (ns.map V.int))) else if b ∈ Ts then some (.tbl #[]) else none) (fun b => ?_) (fun P hP => ?_) (.inl ⟨{ cls := .type "list", data := .seq vs.toArray }, if_pos rfl⟩) (fun b u z => ?_) (fun b z => ?_) fun _ => hk
    · by_cases hb : b = a
      · exact .inr (.inl ⟨_, _, if_pos hb⟩)
      · by_cases hT' : b ∈ Ts
        · exact .inr (.inr ⟨hT', (if_neg hb).trans (if_pos hT')⟩)
        · exact .inl ((if_neg hb).trans (if_neg hT'))
    · exact (if_neg (neTs P hP)).trans (if_pos hP)
    · by_cases hb : b = a
      · have z' := (if_pos hb).symm.trans z
        cases z'
        subst hb
        exact ⟨ha, by rw [List.length_map]; exact hl, vs, _, rv, ha⟩
      · by_cases hT' : b ∈ Ts
        · have z' : some (HO.tbl #[]) = some u := ((if_neg hb).trans (if_pos hT')).symm.trans z
          cases z'
          exact (hT b hT').tab
        · have z' : none = some u := ((if_neg hb).trans (if_neg hT')).symm.trans z
          cases z'
    · by_cases hb : b = a
      · exact .inl hb
      · by_cases hT' : b ∈ Ts
        · exact .inr hT'
        · exact absurd ((if_neg hb).trans (if_neg hT')) z
theorem walk_ofW {l : PySem.W.OpenLaw} {n k : Nat} {q : Program} {loose : List Str} {XP : (Str → Option Value) → Heap → Prop} {YP : World → Heap → Prop} {d : DefRec} {K : Params → PySem.W.Frag} {CX : World → CXT} {sp : World → List Addr → Sp} {x : Str}
    (hn : l.most = some n) (hn2 : n ≤ sizeLine) (hdf : d.params.defaults = []) (hr : Room k callerA)
    (hY : ∀ (w : World) (h : Heap), YP w h → (K w.params).In h)
    (F : ∀ (w : World) (mg : Str → Option Value) (fa : Addr) (h : Heap), (K w.params).In h → h.Ns mainGlobals mg → mg d.name = some (.ref fa) →
      (∀ d ∈ recsOf q, ∃ a o fd c P, mg d.name = some (.ref a) ∧ h.get? a = some o ∧ o.data = .func fd ∧ fd.code = .ref c ∧ h.IsCode c P #[] ∧ h.TableAt c P #[]) →
      ∃ (Ts : List Addr) (fd : FuncData), (∀ P ∈ Ts, TabAt (K w.params) h P) ∧ (∀ (s : Shared) (u : Value), BindsTo s fd ⟨[u], []⟩ [(x, u)]) ∧
        ∀ base : Heap, (K w.params).In base → base.Ns mainGlobals mg → (∃ bm ob, BMod base mainGlobals mg bm ob) → FnOk l.prog w (K w.params) mg base (CX w) k fa fd [x] (sp w Ts))
    (hsp : ∀ (w : World) (Ts : List Addr) (H : Hp) (a : Addr) (ns : List Int), ns.length ≤ n → (∀ P ∈ Ts, H P = some (.tbl #[])) → Scr (K w.params) H a ns → sp w Ts [.ref a] H (fun v _ => v = .bl true) fun _ _ _ => False)
    (hCX : ∀ (w : World) (H : Hp) (s : Shared) (e : Value) (s' : Shared), CX w [] H s (fun _ _ _ => False) e s' → False) :
    PySem.W.WalkO q loose XP YP l.row.toRowW d [] (fun f vs => PySem.call f vs) := by
  refine Att.attach_call hn hdf fun w s₀ s₁ mg mb fa o pm cd doc a vs ns G Y ho hd hcd hmg hobj hints hlen hg => ?_
  have KX := hY w _ Y
  obtain ⟨Ts, fd, hT, hb, hF⟩ := F w mg fa _ KX G.T.g hmg G.T.tab
  obtain ⟨bm, ob, b1, b2, b3, b4, b5, b6⟩ := G.T.bmain
  exact law_callW KX G.T.g G.T.b G.T.builtins G.T.nolimit hg hobj hints (Nat.le_trans hlen hn2) hr hT ⟨bm, ob, G.T.g, b1, b2, b3, b4, b5, b6⟩ hF hb (fun H hO hS => hsp w Ts H a ns hlen hO hS) fun H e s' => hCX w H s₁ e s'
def wLaw : WC := fun vs S Q => ∃ ns : List Int, vs = [.scr ns] ∧ ns.length ≤ 63 ∧ S = [] ∧ ∀ S', Q (.bl true) S'
theorem walkW {l : PySem.W.OpenLaw} {k : Nat} {q : Program} {loose : List Str} {XP : (Str → Option Value) → Heap → Prop} {YP : World → Heap → Prop} {d : DefRec} {K : Params → PySem.W.Frag} (hr : Room k callerA) (hn : l.most = some 63) (hdf : d.params.defaults = [])
    (hY : ∀ (w : World) (h : Heap), YP w h → (K w.params).In h)
    (F : ∀ (w : World) (mg : Str → Option Value) (fa : Addr) (h : Heap), (K w.params).In h → h.Ns mainGlobals mg → mg d.name = some (.ref fa) →
      (∀ d ∈ recsOf q, ∃ a o fd c P, mg d.name = some (.ref a) ∧ h.get? a = some o ∧ o.data = .func fd ∧ fd.code = .ref c ∧ h.IsCode c P #[] ∧ h.TableAt c P #[]) →
      ∃ (Ts : List Addr) (fd : FuncData), (∀ P ∈ Ts, TabAt (K w.params) h P) ∧ (∀ (s : Shared) (u : Value), BindsTo s fd ⟨[u], []⟩ [("script", u)]) ∧
        ∀ base : Heap, (K w.params).In base → base.Ns mainGlobals mg → (∃ bm ob, BMod base mainGlobals mg bm ob) → FnOk l.prog w (K w.params) mg base CX0 k fa fd ["script"] (spW Ts (K w.params) wLaw)) :
    PySem.W.WalkO q loose XP YP l.row.toRowW d [] (fun f vs => PySem.call f vs) :=
  walk_ofW (n := 63) (k := k) (x := "script") (CX := fun _ => CX0) (sp := fun w Ts => spW Ts (K w.params) wLaw) hn (by decide) hdf hr hY F (fun w Ts H a ns hl hT hS => ⟨⟨fun _ => 0, fun _ => 0⟩, [], [.scr ns], ⟨fun i o h => (by simp at h), fun i j h => (by simp at h), fun P hP => ⟨_, hT P hP, trivial⟩⟩, .cons (.scr hS) .nil, ns, rfl, hl, rfl, fun S' M' H' u t s r => by cases r; rfl⟩) fun _ _ _ _ _ z => z
end L4
set_option Elab.async false
set_option linter.all false
set_option maxRecDepth 100000
namespace L4
open PySem PySem.Spec PyProof.Rows L2 L3
theorem sv {X : Cx} (i : Nat) {x : Str} {pos : Pos} (hN : X.N[i]? = some x := by rfl) (hv : Vis X.env.scope x := by first | exact Or.inl rfl | exact Or.inr (Or.inl rfl) | exact Or.inr (Or.inr rfl)) (hd : (x == ("__debug__" : Str)) = false := by decide)
    (hcd : (x == ("__classdict__" : Str)) = false := by decide) : SE Ts X (.Name x pos) (wVar i) := se_var hN hv hd hcd
theorem se_ty {X : Cx} {x : Str} {n : String} {pos : Pos} (hg : Gl X x) (hm : X.mg x = none) (hv : bootBuiltins x = some (.type n)) (hn : x ≠ "__name__" := by decide) (hd : (x == ("__debug__" : Str)) = false := by decide) : SE Ts X (.Name x pos) (wC (.ty n)) := se_c (pe_bltn hg hm hv (v := .ty n) rfl hn hd) fun _ _ _ => .ty n
theorem se_gint {X : Cx} {x : Str} {i : Int} {t : Tok} {pos : Pos} (hg : Gl X x) (hm : X.mg x = some (.int i t)) (hd : (x == ("__debug__" : Str)) = false := by decide) : SE Ts X (.Name x pos) (wC (.int i)) := se_c (pe_glob hg hm (v := .int i) ⟨_, rfl⟩ hd) fun _ _ _ => .int i
/-- a value of trees -/
def ctrF {α : Type} (enc : α → List PV) (pre : α → Sto → Prop) (f : α → PV) : WC := fun vs S Q => ∃ a, vs = enc a ∧ pre a S ∧ Q (f a) S
theorem mo_ctrF {α : Type} {enc : α → List PV} {pre : α → Sto → Prop} {f : α → PV} : MoC (ctrF enc pre f) := fun xs S Q Q' ⟨a, e, p, q⟩ k => ⟨a, e, p, k _ _ q⟩
section
variable {K : PySem.W.Frag} {M : Map} {S : Sto} {H H' : Hp}
theorem Sim.jarKp (s : Sim Ts K M S H) {j : Nat} (hj : S[j]? = some .jar) (h1 : Jar H' (M.m j) (M.q j)) (h2 : Kp (M.m j) (M.q j) H H') : Sim Ts K M S H' ∧ Stp Ts K M S.length H M S.length H' := by
  have hl := (List.getElem?_eq_some_iff.mp hj).1
  obtain ⟨cs, r, sd, t, e1, e2, e3⟩ := (show Jar H (M.m j) (M.q j) from s.ob j _ hj).ex
  obtain ⟨cs', r', sd', t', e1', e2', e3'⟩ := h1.ex
  have ht : ∀ a us, SqT K H a us → SqT K H' a us := fun a us h => by
    rcases h with (h | ⟨ob, h⟩) | h
    · exact .inl (.inl (h2 _ _ h (ne_of h e1 (by intro z; cases z)) (ne_of h e2 (by intro z; cases z))))
    · exact .inl (.inr ⟨ob, h2 _ _ h (ne_of h e1 (by intro z; cases z)) (ne_of h e2 (by intro z; cases z))⟩)
    · exact .inr h
  have hs : ∀ a us, Scr K H a us → Scr K H' a us := fun a us h => by
    rcases h with ⟨ob, h⟩ | h
    · exact .inl ⟨ob, h2 _ _ h (ne_of h e1 (by intro z; cases z)) (ne_of h e2 (by intro z; cases z))⟩
    · exact .inr h
  refine ⟨⟨fun i o hi => ?_, s.sep, fun P hP => ?_⟩, ⟨Nat.le_refl _, fun _ _ => rfl, fun _ _ => rfl, ht, hs, fun a o h n1 n2 => ?_, fun a h => ?_, fun i h1 h2 => by omega⟩⟩
  · have hil := (List.getElem?_eq_some_iff.mp hi).1
    by_cases c : i = j
    · subst c
      rw [hj] at hi; cases hi
      exact h1
    · have sp := s.sep i j hil hl c
      have sp2 := s.sep j i hl hil (fun z => c z.symm)
      obtain ⟨⟨x, h3, _⟩, y, h4, _⟩ := (s.ob i o hi).at
      refine (s.ob i o hi).mono (Nat.le_refl _) (fun _ _ => rfl) ht hs ?_ ?_
      · rw [h3]; exact h2 _ _ h3 sp.1 sp.2.1
      · rw [h4]; exact h2 _ _ h4 (fun z => sp2.2.1 z.symm) sp.2.2
  · obtain ⟨ps, h, tok⟩ := s.tab P hP
    exact ⟨ps, h2 _ _ h (ne_of h e1 (by intro z; cases z)) (ne_of h e2 (by intro z; cases z)), tok⟩
  · exact h2 a o h (fun z => n1 ⟨j, hl, .inl z⟩) (fun z => n1 ⟨j, hl, .inr z⟩)
  · by_cases c1 : a = M.m j
    · subst c1; rw [e1'] at h; cases h
    · by_cases c2 : a = M.q j
      · subst c2; rw [e2'] at h; cases h
      · cases q : H a with
        | none => rfl
        | some o => rw [h2 _ _ q c1 c2] at h; cases h
theorem Sim.ext (s : Sim Ts K M S H) (h : Same H H') : Sim Ts K M S H' ∧ Stp Ts K M S.length H M S.length H' := by
  have ht : ∀ a us, SqT K H a us → SqT K H' a us := fun a us e => by
    rcases e with (e | ⟨ob, e⟩) | e
    · exact .inl (.inl (h _ _ e))
    · exact .inl (.inr ⟨ob, h _ _ e⟩)
    · exact .inr e
  have hs : ∀ a us, Scr K H a us → Scr K H' a us := fun a us e => by
    rcases e with ⟨ob, e⟩ | e
    · exact .inl ⟨ob, h _ _ e⟩
    · exact .inr e
  refine ⟨⟨fun i o hi => ?_, s.sep, fun P hP => ?_⟩, ⟨Nat.le_refl _, fun _ _ => rfl, fun _ _ => rfl, ht, hs, fun a o e _ _ => h _ _ e, fun a e => ?_, fun i h1 h2 => by omega⟩⟩
  · obtain ⟨⟨x, h3, _⟩, y, h4, _⟩ := (s.ob i o hi).at
    exact (s.ob i o hi).mono (Nat.le_refl _) (fun _ _ => rfl) ht hs (by rw [h3]; exact h _ _ h3) (by rw [h4]; exact h _ _ h4)
  · obtain ⟨ps, e, tok⟩ := s.tab P hP
    exact ⟨ps, h _ _ e, tok⟩
  · cases q : H a with
    | none => rfl
    | some o => rw [h _ _ q] at e; cases e
end
/-- a number is drawn -/
def wPick : WC := fun vs S Q => ∃ (j : Nat) (n : Int), vs = [.ref j, .int n] ∧ S[j]? = some .jar ∧ 0 < n ∧ n < 10 ^ 60 ∧ ∀ f : Int, 0 ≤ f → f < n → Q (.int f) S
def wJar : WC := fun vs S Q => ∃ ns : List Int, vs = [.scr ns] ∧ Q (.ref S.length) (S ++ [.jar])
theorem mo_pick : MoC wPick := fun xs S Q Q' ⟨j, n, e, h1, h2, h3, q⟩ k => ⟨j, n, e, h1, h2, h3, fun f a b => k _ _ (q f a b)⟩
theorem mo_jar : MoC wJar := fun xs S Q Q' ⟨ns, e, q⟩ k => ⟨ns, e, k _ _ q⟩
theorem pick_imp {K : PySem.W.Frag} {spP : Sp} (h : ∀ vs H Q E, (∃ (j c : Addr) (n : Int), vs = [.ref j, .int n] ∧ Jar H j c ∧ 0 < n ∧ n < 10 ^ 60 ∧ ∀ (f : Int) (H' : Hp), 0 ≤ f → f < n → Jar H' j c → Kp j c H H' → Q (.int f) H') → spP vs H Q E) : ∀ vs H Q E, spW Ts K wPick vs H Q E → spP vs H Q E := fun vs H Q E q => by
  obtain ⟨M, S, pvs, s, r, j, n, rfl, hj, h1, h2, q⟩ := q
  obtain ⟨u, v, rfl, r1, r2⟩ := r.two
  cases r1; cases r2
  refine h _ _ _ _ ⟨_, _, n, rfl, s.ob j _ hj, h1, h2, fun f H' a b J k => ?_⟩
  obtain ⟨s', t'⟩ := s.jarKp hj J k
  exact q f a b M H' _ t' s' (.int f)
theorem jar_imp {K : PySem.W.Frag} {spJ : Sp} (h : ∀ vs H Q E, (∃ (a : Addr) (ns : List Int), vs = [.ref a] ∧ SqL K H a (ns.map V.int) ∧ ∀ (j c : Addr) (H' : Hp), H j = none → H c = none → Same H H' → Jar H' j c → Q (.ref j) H') → spJ vs H Q E) : ∀ vs H Q E, spW Ts K wJar vs H Q E → spJ vs H Q E := fun vs H Q E q => by
  obtain ⟨M, S, pvs, s, r, ns, rfl, q⟩ := q
  obtain ⟨u, rfl, r1⟩ := r.one
  cases r1 with
  | scr r1 =>
    refine h _ _ _ _ ⟨_, ns, rfl, r1.sql, fun j c H' hj hc hs J => ?_⟩
    obtain ⟨s1, t1⟩ := s.ext hs
    have s2 : Sim Ts K (M.add S.length j c) (S ++ [.jar]) H' := s1.take (s.free hj).1 (s.free hc).1 J
    have t2 : Stp Ts K M S.length H (M.add S.length j c) (S ++ [Ob.jar]).length H' := by
      rw [List.length_append, List.length_singleton]; exact t1.take hj hc
    refine q _ _ _ t2 s2 ?_
    have := RP.ref (K := K) (M := M.add S.length j c) (n := (S ++ [Ob.jar]).length) (H := H') (i := S.length) (by simp)
    rw [M.add_m] at this
    exact this
end L4
set_option Elab.async false
set_option linter.all false
set_option maxRecDepth 100000
namespace L4
open PySem PySem.Spec PyProof.Rows L2 L3
theorem rSlW_tup {xs : List PV} {lo hi : Option Int} {S : Sto} {Q : WQ} : rSlW (.tup xs) lo hi S Q = Q (.tup (cutP xs lo hi)) S := by
  unfold rSlW
  simp [seqW]
theorem cutP_map {α β : Type} (f : α → β) (xs : List α) (lo hi : Option Int) : cutP (xs.map f) lo hi = (cutP xs lo hi).map f := by
  unfold cutP
  rw [List.length_map, List.map_take, List.map_drop]
theorem cutP_from {α : Type} (xs : List α) (k : Nat) : cutP xs (some (k : Int)) none = xs.drop k := by
  unfold cutP
  rw [HT.sIx_nat, HT.sIx_none]
  by_cases h : k ≤ xs.length
  · rw [Nat.min_eq_left h, List.take_of_length_le (by rw [List.length_drop]; omega)]
  · rw [Nat.min_eq_right (by omega), List.drop_eq_nil_of_le (Nat.le_refl _), List.drop_eq_nil_of_le (by omega), List.take_nil]
theorem cutP_0 {α : Type} (xs : List α) : cutP xs (some 0) none = xs := cutP_from xs 0
theorem cutP_1 {α : Type} (xs : List α) : cutP xs (some 1) none = xs.drop 1 := cutP_from xs 1
theorem cutP_2 {α : Type} (xs : List α) : cutP xs (some 2) none = xs.drop 2 := cutP_from xs 2
theorem cutP_all {α : Type} (xs : List α) : cutP xs none none = xs := by
  unfold cutP
  rw [HT.sIx_none, HT.sIx_none, List.drop_zero, Nat.sub_zero, List.take_length]
theorem rngP_map (lo : Int) (n : Nat) : rngP lo n = (List.range n).map fun (i : Nat) => PV.int (lo + (i : Int)) := rfl
section
variable {g : WG} {wt : WT} {we : WE} {τ : Ev} {G : Sto → Prop} {F : List PV → Sto → Prop} {S : Sto} {acc : List PV} {α : Type}
theorem lc_map {e : α → PV} (f : α → PV) : ∀ {l : List α} {acc : List PV}, G S → (∀ a ∈ l, ∀ R : WQ, R (f a) S → g (e a) τ fun τ2 => we τ2 S R) → F (acc ++ l.map f) S → wLcGo g wYes we τ G (l.map e) acc S F
  | [], acc, hG, h, hF => ⟨hG, by simpa using hF⟩
  | a :: l, acc, hG, h, hF => by
    refine ⟨hG, h a List.mem_cons_self _ ?_⟩
    exact lc_map f hG (fun b hb => h b (List.mem_cons_of_mem _ hb)) (by simpa using hF)
theorem lc_filter {e : α → PV} (p : α → Bool) (f : α → PV) : ∀ {l : List α} {acc : List PV}, G S → (∀ a ∈ l, ∀ (R R' : Sto → Prop) (R2 : WQ), (p a = true → R2 (f a) S) → (p a = false → R' S) → g (e a) τ fun τ2 => wt τ2 S fun b S3 => if b = true then we τ2 S3 R2 else R' S3) → F (acc ++ (l.filter p).map f) S → wLcGo g wt we τ G (l.map e) acc S F
  | [], acc, hG, h, hF => ⟨hG, by simpa using hF⟩
  | a :: l, acc, hG, h, hF => by
    refine ⟨hG, h a List.mem_cons_self (fun _ => True) _ _ (fun hp => ?_) (fun hp => ?_)⟩
    · exact lc_filter p f hG (fun b hb => h b (List.mem_cons_of_mem _ hb)) (by rw [List.filter_cons, if_pos hp] at hF; simpa using hF)
    · exact lc_filter p f hG (fun b hb => h b (List.mem_cons_of_mem _ hb)) (by rw [List.filter_cons, if_neg (by rw [hp]; simp)] at hF; simpa using hF)
end
theorem loop_inv {g : WG} {t : WS} {G : Sto → Prop} {xs : List PV} {D : WEnds} {τ : Ev} {S : Sto} (I : Nat → Ev → Sto → Prop) (h0 : I 0 τ S)
    (step : ∀ i x τ S (N : Ev → Sto → Prop), xs[i]? = some x → I i τ S → (∀ τ' S', I (i + 1) τ' S' → N τ' S') → G S ∧ g x τ fun τ1 => t ⟨N, D.rt, D.nx, N⟩ τ1 S)
    (fin : ∀ τ S, I xs.length τ S → G S ∧ D.nx τ S) : wLoop g t G xs D τ S := by
  have main : ∀ (ys : List PV) (k : Nat) (τ : Ev) (S : Sto), xs.drop k = ys → k ≤ xs.length → I k τ S → wLoop g t G ys D τ S := by
    intro ys
    induction ys with
    | nil =>
      intro k τ S e hk hI
      have : k = xs.length := by
        have := List.drop_eq_nil_iff.mp e
        omega
      subst this
      exact fin τ S hI
    | cons x ys ih =>
      intro k τ S e hk hI
      have hl : k < xs.length := by
        have h1 := congrArg List.length e
        rw [List.length_drop, List.length_cons] at h1
        omega
      have hx : xs[k]? = some x := by
        have h1 := congrArg (·[0]?) e
        simpa using h1
      have hd : xs.drop (k + 1) = ys := by
        rw [← List.drop_drop, e]; rfl
      exact step k x τ S _ hx hI fun τ' S' hI' => ih (k + 1) τ' S' hd hl hI'
  exact main xs 0 τ S rfl (Nat.zero_le _) h0
/-- the items are a mapped list -/
theorem loop_map {α : Type} {e : α → PV} {g : WG} {t : WS} {G : Sto → Prop} {l : List α} {D : WEnds} {τ : Ev} {S : Sto} (I : Nat → Ev → Sto → Prop) (h0 : I 0 τ S)
    (step : ∀ i a τ S (N : Ev → Sto → Prop), l[i]? = some a → I i τ S → (∀ τ' S', I (i + 1) τ' S' → N τ' S') → G S ∧ g (e a) τ fun τ1 => t ⟨N, D.rt, D.nx, N⟩ τ1 S)
    (fin : ∀ τ S, I l.length τ S → G S ∧ D.nx τ S) : wLoop g t G (l.map e) D τ S := by
  refine loop_inv I h0 (fun i x τ S N hx hI hN => ?_) (fun τ S hI => fin τ S (by rw [List.length_map] at hI; exact hI))
  rw [List.getElem?_map] at hx
  cases q : l[i]? with
  | none => rw [q] at hx; cases hx
  | some a =>
    rw [q] at hx
    cases hx
    exact step i a τ S N q hI hN
def wCut (w : WS) : WS := fun D τ S => ∃ R : Ev → Sto → Prop, w { D with nx := R } τ S ∧ ∀ τ' S', R τ' S' → D.nx τ' S'
theorem ss_cut {X : Cx} {st : Stmt} {w : WS} (h : SS Ts X st w) : SS Ts X st (wCut w) := by
  refine ⟨ps_imp h.ps fun D σ H ⟨M, S, τ, s, st, R, q, k⟩ => ⟨M, S, τ, s, st, h.mo _ _ _ _ q ⟨fun τ1 S1 r => k _ _ r, fun _ _ r => r, fun _ _ r => r, fun _ _ r => r⟩⟩, fun D D' τ S ⟨R, q, k⟩ l => ⟨R, h.mo _ _ _ _ q ⟨fun _ _ r => r, l.rt, l.bk, l.ct⟩, fun τ1 S1 r => l.nx _ _ (k _ _ r)⟩⟩
theorem get_new (S : Sto) (o : Ob) (G : Sto) : (S ++ o :: G)[S.length]? = some o := by
  rw [List.getElem?_append_right (Nat.le_refl _), Nat.sub_self]; rfl
theorem get_new1 (S : Sto) (o : Ob) : (S ++ [o])[S.length]? = some o := get_new S o []
def natP (n : Nat) : PV := .int (n : Int)
def natsP (l : List Nat) : PV := .tup (l.map natP)
def swP (s : Nat × Nat) : PV := .tup [natP s.1, natP s.2]
def intsP (ns : List Int) : PV := .tup (ns.map .int)
theorem cls_iff {n : Nat} : ∀ {xs : List PV}, Cls n xs ↔ ∀ x ∈ xs, x.Cl n
  | [] => by simp [Cls]
  | x :: xs => by simp only [Cls, List.mem_cons, cls_iff (xs := xs)]; constructor
                  · rintro ⟨a, b⟩ y (rfl | h); exact a; exact b y h
                  · intro h; exact ⟨h x (.inl rfl), fun y hy => h y (.inr hy)⟩
theorem cl_int {n : Nat} {i : Int} : (PV.int i).Cl n := by simp [PV.Cl]
theorem cl_tup {n : Nat} {xs : List PV} (h : ∀ x ∈ xs, x.Cl n) : (PV.tup xs).Cl n := by simp only [PV.Cl]; exact cls_iff.mpr h
end L4
set_option Elab.async false
set_option linter.all false
set_option maxRecDepth 100000
namespace L4
open PySem PySem.Spec PyProof.Rows L2 L3
theorem rIxW_tup {xs : List PV} {i : Int} {S : Sto} {Q : WQ} : rIxW (.tup xs) (.int i) S Q = ∃ v, atI xs i = some v ∧ Q v S := by
  unfold rIxW
  simp [seqW]
theorem rIxW_lst {k : Nat} {xs : List PV} {i : Int} {S : Sto} {Q : WQ} (h : S[k]? = some (.lst xs)) : rIxW (.ref k) (.int i) S Q = ∃ v, atI xs i = some v ∧ Q v S := by
  unfold rIxW
  simp [seqW, h]
theorem rLenW_tup {xs : List PV} {S : Sto} {Q : WQ} : rLenW [.tup xs] S Q = Q (.int xs.length) S := by
  unfold rLenW
  simp [seqW]
theorem rLenW_lst {k : Nat} {xs : List PV} {S : Sto} {Q : WQ} (h : S[k]? = some (.lst xs)) : rLenW [.ref k] S Q = Q (.int xs.length) S := by
  unfold rLenW
  simp [seqW, h]
theorem rTupleW_lst {k : Nat} {xs : List PV} {S : Sto} {Q : WQ} (h : S[k]? = some (.lst xs)) : rTupleW [.ref k] S Q = Q (.tup xs) S := by
  unfold rTupleW
  simp [seqW, h]
theorem rListW_tup {xs : List PV} {S : Sto} {Q : WQ} : rListW [.tup xs] S Q = Q (.ref S.length) (S ++ [.lst xs]) := by
  unfold rListW
  simp [seqW]
theorem rAppendW_lst {k : Nat} {xs : List PV} {y : PV} {S : Sto} {Q : WQ} (h : S[k]? = some (.lst xs)) : rAppendW (.ref k) [y] S Q = (xs.length < 16777216 ∧ Q .non (S.set k (.lst (xs ++ [y])))) := by
  unfold rAppendW
  simp [h]
theorem tyW_lst {k : Nat} {xs : List PV} {S : Sto} (h : S[k]? = some (.lst xs)) : tyW S "list" (.ref k) = True := by
  unfold tyW
  simp [seqW, h]
theorem atI_nat' {α : Type} {xs : List α} {i : Nat} {v : α} (h : xs[i]? = some v) : atI xs (i : Int) = some v := by
  have hl := (List.getElem?_eq_some_iff.mp h).1
  unfold atI ixN
  rw [if_pos (by omega), if_pos (by omega)]
  simpa using h
theorem atI_nats {xs : List Nat} {i : Nat} (h : i < xs.length) : atI (xs.map natP) (i : Int) = some (natP (xs.getD i 0)) := by
  refine atI_nat' ?_
  rw [List.getElem?_map]
  simp [List.getD_eq_getElem?_getD, h]
theorem atI_0 {α : Type} {x : α} {xs : List α} : atI (x :: xs) 0 = some x := by
  unfold atI ixN; rw [if_pos (by omega), if_pos (by first | (simp; done) | (simp; omega))]; rfl
theorem atI_1 {α : Type} {x y : α} {xs : List α} : atI (x :: y :: xs) 1 = some y := by
  unfold atI ixN; rw [if_pos (by omega), if_pos (by first | (simp; done) | (simp; omega))]; rfl
theorem atI_2 {α : Type} {x y z : α} {xs : List α} : atI (x :: y :: z :: xs) 2 = some z := by
  unfold atI ixN; rw [if_pos (by omega), if_pos (by first | (simp; done) | (simp; omega))]; rfl
theorem atI_3 {α : Type} {x y z u : α} {xs : List α} : atI (x :: y :: z :: u :: xs) 3 = some u := by
  unfold atI ixN; rw [if_pos (by omega), if_pos (by first | (simp; done) | (simp; omega))]; rfl
theorem rIsiW_eq {x : PV} {n : String} {S : Sto} {Q : WQ} : rIsiW [x, .ty n] S Q = ∃ t, tyP S x = some t ∧ ∃ b, isiB t n = some b ∧ Q (.bl b) S := by
  unfold rIsiW
  apply propext
  constructor
  · rintro ⟨x', n', t', b, e, h1, h2, q⟩
    cases e
    exact ⟨_, h1, b, h2, q⟩
  · rintro ⟨t, h1, b, h2, q⟩
    exact ⟨x, n, t, b, rfl, h1, h2, q⟩
theorem tyP_non {S : Sto} : tyP S .non = some "NoneType" := rfl
theorem tyP_bl {S : Sto} {b : Bool} : tyP S (.bl b) = some "bool" := rfl
theorem tyP_int {S : Sto} {i : Int} : tyP S (.int i) = some "int" := rfl
theorem tyP_str {S : Sto} {x : Str} : tyP S (.str x) = some "str" := rfl
theorem tyP_tup {S : Sto} {xs : List PV} : tyP S (.tup xs) = some "tuple" := rfl
theorem tyP_lst {S : Sto} {i : Nat} {xs : List PV} (h : S[i]? = some (.lst xs)) : tyP S (.ref i) = some "list" := by simp only [tyP, h]
theorem isi_NoneType_int : isiB "NoneType" "int" = some false := rfl
theorem isi_NoneType_bool : isiB "NoneType" "bool" = some false := rfl
theorem isi_NoneType_str : isiB "NoneType" "str" = some false := rfl
theorem isi_NoneType_list : isiB "NoneType" "list" = some false := rfl
theorem isi_NoneType_tuple : isiB "NoneType" "tuple" = some false := rfl
theorem isi_NoneType_dict : isiB "NoneType" "dict" = some false := rfl
theorem isi_bool_int : isiB "bool" "int" = some true := rfl
theorem isi_bool_bool : isiB "bool" "bool" = some true := rfl
theorem isi_bool_str : isiB "bool" "str" = some false := rfl
theorem isi_bool_list : isiB "bool" "list" = some false := rfl
theorem isi_bool_tuple : isiB "bool" "tuple" = some false := rfl
theorem isi_bool_dict : isiB "bool" "dict" = some false := rfl
theorem isi_int_int : isiB "int" "int" = some true := rfl
theorem isi_int_bool : isiB "int" "bool" = some false := rfl
theorem isi_int_str : isiB "int" "str" = some false := rfl
theorem isi_int_list : isiB "int" "list" = some false := rfl
theorem isi_int_tuple : isiB "int" "tuple" = some false := rfl
theorem isi_int_dict : isiB "int" "dict" = some false := rfl
theorem isi_str_int : isiB "str" "int" = some false := rfl
theorem isi_str_bool : isiB "str" "bool" = some false := rfl
theorem isi_str_str : isiB "str" "str" = some true := rfl
theorem isi_str_list : isiB "str" "list" = some false := rfl
theorem isi_str_tuple : isiB "str" "tuple" = some false := rfl
theorem isi_str_dict : isiB "str" "dict" = some false := rfl
theorem isi_tuple_int : isiB "tuple" "int" = some false := rfl
theorem isi_tuple_bool : isiB "tuple" "bool" = some false := rfl
theorem isi_tuple_str : isiB "tuple" "str" = some false := rfl
theorem isi_tuple_list : isiB "tuple" "list" = some false := rfl
theorem isi_tuple_tuple : isiB "tuple" "tuple" = some true := rfl
theorem isi_tuple_dict : isiB "tuple" "dict" = some false := rfl
theorem isi_list_int : isiB "list" "int" = some false := rfl
theorem isi_list_bool : isiB "list" "bool" = some false := rfl
theorem isi_list_str : isiB "list" "str" = some false := rfl
theorem isi_list_list : isiB "list" "list" = some true := rfl
theorem isi_list_tuple : isiB "list" "tuple" = some false := rfl
theorem isi_list_dict : isiB "list" "dict" = some false := rfl
theorem isi_dict_int : isiB "dict" "int" = some false := rfl
theorem isi_dict_bool : isiB "dict" "bool" = some false := rfl
theorem isi_dict_str : isiB "dict" "str" = some false := rfl
theorem isi_dict_list : isiB "dict" "list" = some false := rfl
theorem isi_dict_tuple : isiB "dict" "tuple" = some false := rfl
theorem isi_dict_dict : isiB "dict" "dict" = some true := rfl
end L4
set_option Elab.async false
set_option linter.all false
set_option maxRecDepth 100000
namespace L3
open PySem PySem.Spec PyProof.Rows L2
section
variable {prog : Program} {w : World} {A : Around} {E : Value → Shared → Prop} {s : Shared}
end
section
variable {X : Cx} {e c : Expr} {te : TE} {pos p2 : Pos} {lo : Option Expr} {tl : TO}
end
end L3
set_option Elab.async false
set_option linter.all false
set_option maxRecDepth 100000
namespace L3
open PySem PySem.Spec PyProof.Rows L2
section
variable {prog : Program} {w : World} {A : Around} {E : Value → Shared → Prop} {s : Shared} {z TI TO i1 i2 a b : Addr} {k1 k2 : Bool} {n : Nat} {xs ys : Array Value}
end
structure ZSX (k1 k2 : Bool) (h : Heap) (z TI TO i1 i2 a b : Addr) (i : Nat) : Prop where
  rc : IsZip h z TI TO .none ∨ ∃ a0 f1, IsZ2 h z TI TO a0 f1
  pI : IsPair h TI (.ref i1) (.ref i2)
  pO : ∃ x y, IsPair h TO x y
  s1 : SqI k1 h i1 a i
  s2 : SqI k2 h i2 b i
theorem ZSX.zip {k1 k2 : Bool} {h : Heap} {z TI TO i1 i2 a b : Addr} {i : Nat} (Z : ZSX k1 k2 h z TI TO i1 i2 a b i) : ∃ o, h.get? z = some o ∧ o.cls = .type "zip" ∧ ∀ v, o.data ≠ .cell v := by
  rcases Z.rc with e | ⟨a0, f1, e⟩
  · exact ⟨_, e, rfl, fun v q => nomatch q⟩
  · exact ⟨_, e, rfl, fun v q => nomatch q⟩
section
variable {X : Cx} {pins : List (Addr × Obj)} {σ : L2.St} {A : Around} {z TI TO i1 i2 a b : Addr} {xs ys : List V} {k1 k2 : Bool} {E : Value → Shared → Prop}
end
end L3
set_option Elab.async false
set_option linter.all false
set_option maxRecDepth 100000
namespace L3
open PySem PySem.Spec PyProof.Rows L2
section
variable {K : PySem.W.Frag} {H : Hp} {k : Bool} {a p : Addr} {xs : List V} {o : HO}
end
section
variable {X : Cx} {pins : List (Addr × Obj)} {σ : L2.St} {A : Around} {R : Result → Shared → Prop} {z TI TO i1 i2 a b : Addr} {xs ys : List V} {k1 k2 : Bool}
end
end L3
set_option Elab.async false
set_option linter.all false
set_option maxRecDepth 100000
namespace L3
open PySem PySem.Spec PyProof.Rows L2
section
variable {X : Cx} {e e2 : Expr} {ta : TA} {p p2 pos pos2 : Pos}
end
end L3
set_option Elab.async false
set_option linter.all false
set_option maxRecDepth 100000
namespace L3
open PySem PySem.Spec PyProof.Rows L2
section
variable {X : Cx} {pins : List (Addr × Obj)} {σ : L2.St} {A : Around} {z TI TO i1 i2 a b : Addr} {xs ys : List V} {k1 k2 : Bool} {E : Value → Shared → Prop}
end
section
variable {X : Cx} {e e2 : Expr} {ta : TA} {p p2 pos pos2 : Pos}
end
end L3
set_option Elab.async false
set_option linter.all false
set_option maxRecDepth 100000
namespace L4
open PySem PySem.Spec PyProof.Rows L2 L3
def wLcGo2 (g : WG) (wt : WT) (wi1 : WI) (g1 : WG) (wt1 : WT) (we : WE) (τ : Ev) (vs1 : List Nat) (G : Sto → Prop) : List PV → List PV → Sto → (List PV → Sto → Prop) → Prop
  | [], acc, S, F => G S ∧ F acc S
  | x :: xs, acc, S, F => G S ∧ g x τ fun τ2 => wt τ2 S fun b S3 => if b = true then wi1 τ2 S3 fun ys G1 S4 => acc.length + ys.length ≤ 16777216 ∧ wLcGo g1 wt1 we (wipeW τ2 vs1) G1 ys acc S4 fun acc' S5 => wLcGo2 g wt wi1 g1 wt1 we τ vs1 G xs acc' S5 F
      else wLcGo2 g wt wi1 g1 wt1 we τ vs1 G xs acc S3 F
def wLcV2 (wi : WI) (g : WG) (wt : WT) (wi1 : WI) (g1 : WG) (wt1 : WT) (we : WE) (vs vs1 : List Nat) : WA := fun τ S F => wi τ S fun xs G S1 => wLcGo2 g wt wi1 g1 wt1 we (wipeW τ vs) vs1 G xs [] S1 F
end L4
set_option Elab.async false
set_option linter.all false
set_option maxRecDepth 100000
namespace L4
open PySem PySem.Spec PyProof.Rows L2 L3
section
variable {X : Cx} {a b c e elt iter tg iter1 tg1 : Expr} {ifs ifs1 : List Expr} {scope : Scope} {own : List (Str × Nat)} {pos : Pos} {wi wi1 : WI} {g g1 : TG} {wg wg1 : WG} {wt wt1 : WT} {wa we : WE} {vs1 : List Nat}
def wLcU2 (r : WC) (wi : WI) (g : WG) (wt : WT) (wi1 : WI) (g1 : WG) (wt1 : WT) (we : WE) (vs vs1 : List Nat) : WE := fun τ S Q => wLcV2 wi g wt wi1 g1 wt1 we vs vs1 τ S fun ys S2 => r ys S2 Q
def wRev (w : WE) : WE := fun τ S Q => w τ S fun x S1 => (∃ xs, x = .tup xs ∧ Q (.tup xs.reverse) S1) ∨ ∃ xs, seqW S1 x = some (false, xs) ∧ Q (.ref S1.length) (S1 ++ [.lst xs.reverse])
theorem RPs.evL {K : PySem.W.Frag} {M : Map} {n : Nat} {H : Hp} {xs : List PV} {us : List V} (r : RPs K M n H xs us) (st : Nat) : RPs K M n H (L3.evL xs st) (L3.evL us st) := by
  unfold L3.evL
  rw [r.length]
  generalize (us.length + 1 - st) / 2 = m
  induction m with
  | zero => exact .nil
  | succ m ih =>
    rw [List.range_succ, List.filterMap_append, List.filterMap_append]
    refine ih.append ?_
    cases hx : xs[st + 2 * m]? with
    | none =>
      have : us[st + 2 * m]? = Option.none := by
        have := r.length
        rw [List.getElem?_eq_none_iff] at hx ⊢; omega
      simp [hx, this]; exact .nil
    | some v =>
      obtain ⟨u, hu, rv⟩ := r.get hx
      simp [hx, hu]; exact .cons rv .nil
def wStep (w : WE) (wl : WO) : WE := fun τ S Q => w τ S fun x S1 => wl τ S1 fun l S2 => ∃ k xs, seqW S2 x = some (k, xs) ∧ ∃ st : Nat, ((l = none ∧ st = 0) ∨ l = some (st : Int)) ∧ st ≤ xs.length ∧ (if k = true then Q (.tup (L3.evL xs st)) S2 else Q (.ref S2.length) (S2 ++ [.lst (L3.evL xs st)]))
def wTupZip (w : WA) : WE := fun τ S Q => w τ S fun vs S1 => ∃ x y k xs l ys, vs = [x, y] ∧ seqW S1 x = some (k, xs) ∧ seqW S1 y = some (l, ys) ∧ xs.length = ys.length ∧ Q (.tup (zipP xs ys)) S1
/-- for x in zip(a, b) -/
def wZipN (w : WA) : WI := fun τ S R => w τ S fun vs S1 => ∃ x y k xs l ys, vs = [x, y] ∧ seqW S1 x = some (k, xs) ∧ seqW S1 y = some (l, ys) ∧ xs.length = ys.length ∧ R (zipP xs ys) (fun S' => seqW S' x = some (k, xs) ∧ seqW S' y = some (l, ys)) S1
def wMaxD (w wd : WE) : WE := fun τ S Q => w τ S fun x S1 => wd τ S1 fun _ S2 => ∃ ns : List Int, x = intsP ns ∧ 0 < ns.length ∧ ∀ m, m ∈ ns → (∀ y, y ∈ ns → y ≤ m) → Q (.int m) S2
def wMinD (w wd : WE) : WE := fun τ S Q => w τ S fun x S1 => wd τ S1 fun _ S2 => ∃ ns : List Int, x = intsP ns ∧ 0 < ns.length ∧ ∀ m, m ∈ ns → (∀ y, y ∈ ns → m ≤ y) → Q (.int m) S2
end
theorem inP_int (i : Int) (ns : List Int) : inP (.int i) (ns.map .int) = decide (i ∈ ns) := by
  unfold inP inV
  rw [List.map_map, List.any_map]
  induction ns with
  | nil => rfl
  | cons n ns ih =>
    rw [List.any_cons, ih]
    simp only [Function.comp_apply, flV, eqV, List.mem_cons, Bool.decide_or]
    congr 1
    exact Bool.eq_iff_iff.mpr ⟨fun h => decide_eq_true (by simpa using (beq_iff_eq.mp h).symm), fun h => beq_iff_eq.mpr (by simpa using (of_decide_eq_true h).symm)⟩
theorem all_flat_int (ns : List Int) : (ns.map PV.int).all flatP = true := by
  rw [List.all_map]
  exact List.all_eq_true.mpr fun _ _ => rfl
theorem rInW_ints {neg : Bool} {i : Int} {ns : List Int} {S : Sto} {Q : WQ} : rInW neg (.int i) (.tup (ns.map .int)) S Q = Q (.bl (neg ^^ decide (i ∈ ns))) S := by
  unfold rInW
  apply propext
  constructor
  · rintro (⟨k, xs, e, _, _, q⟩ | ⟨j, kvs, k, e, _⟩ | ⟨a, b, e, _⟩)
    · cases e; rw [inP_int] at q; exact q
    · cases e
    · cases e
  · intro q
    exact .inl ⟨true, _, rfl, rfl, all_flat_int ns, by rw [inP_int]; exact q⟩
theorem rInW_lints {neg : Bool} {i : Int} {ns : List Int} {k : Nat} {S : Sto} {Q : WQ} (h : S[k]? = some (.lst (ns.map .int))) : rInW neg (.int i) (.ref k) S Q = Q (.bl (neg ^^ decide (i ∈ ns))) S := by
  unfold rInW
  apply propext
  constructor
  · rintro (⟨k, xs, e, _, _, q⟩ | ⟨j, kvs, k, e, e2, _⟩ | ⟨a, b, e, _⟩)
    · rw [seqW_ref h] at e; cases e; rw [inP_int] at q; exact q
    · cases e; rw [h] at e2; cases e2
    · cases e
  · intro q
    exact .inl ⟨false, _, seqW_ref h, rfl, all_flat_int ns, by rw [inP_int]; exact q⟩
end L4
set_option Elab.async false
set_option linter.all false
namespace L4
end L4
set_option Elab.async false
set_option linter.all false
set_option maxRecDepth 100000
namespace L3
open PySem PySem.Spec PyProof.Rows L2
def top (i : Nat) : Stmt := PySem.Challenge.pw_turnfork_k30_beside_and_behind.main.body.getD i (.Pass ⟨0, 0, 0, 0⟩)
section
variable {P : Program} {w : World} {K : PySem.W.Frag} {mg : Str → Option Value} {base : Heap}
def spMix : Sp := fun vs H Q _ => ∃ n : Int, vs = [.int n] ∧ 0 ≤ n ∧ n < 2 ^ 64 ∧ ∀ m : Int, 0 ≤ m → m < 2 ^ 64 → Q (.int m) H
theorem xor_lt {x y : Int} (hx : 0 ≤ x) (hy : 0 ≤ y) (hx2 : x < 2 ^ 64) (hy2 : y < 2 ^ 64) : 0 ≤ Builtin.bitXor x y ∧ Builtin.bitXor x y < 2 ^ 64 := by
  rw [Bits.bitXor_pp hx hy]
  have h : x.toNat ^^^ y.toNat < 2 ^ 64 := Nat.xor_lt_two_pow (by omega) (by omega)
  omega
abbrev s_law_mix : Stmt := top 18
theorem sc_law_mix : FnScope ["one"] ["one"] (defScope s_law_mix) := ⟨rfl, rfl, rfl, by decide +kernel, rfl, by decide +kernel, by decide +kernel⟩
theorem ok_law_mix {f : Addr} {fd : FuncData} (F : Fun K "_law_mix" "_law_mix" s_law_mix f fd) : FnOk P w K mg base CX0 1 f fd ["one"] spMix := by
  refine F.ok sc_law_mix (fun vs H Q E h => ?_) (fun cdv A outer s H vs Q E hr h => ?_)
  · obtain ⟨n, rfl, _⟩ := h
    rfl
  · obtain ⟨n, rfl, h0, h1, k⟩ := h
    refine ⟨_, (pss_cons (ps_set (i := 0) sc_law_mix.nd rfl (by first | exact Or.inl rfl | exact Or.inr rfl) (pe_op op_mod (pe_op op_mul (pe_op op_xor (pv 0) (pe_op op_fdivB (pv 0) pe_int)) pe_int) pe_int))
      (pss_cons (ps_set (i := 0) sc_law_mix.nd rfl (by first | exact Or.inl rfl | exact Or.inr rfl) (pe_op op_mod (pe_op op_mul (pe_op op_xor (pv 0) (pe_op op_fdivB (pv 0) pe_int)) pe_int) pe_int))
      (pss_one (ps_ret (pe_op op_xor (pv 0) (pe_op op_fdivB (pv 0) pe_int)))))), ?_⟩
    refine ⟨_, rfl, _, rfl, _, _, rfl, rfl, ⟨by decide, by decide⟩, _, _, rfl, rfl, _, _, rfl, rfl, .inr ⟨by decide, by decide⟩, _, _, rfl, rfl, (by show (0 : Int) < 18446744073709551616; decide), ?_⟩
    refine ⟨_, rfl, _, rfl, _, _, rfl, rfl, ⟨by decide, by decide⟩, _, _, rfl, rfl, _, _, rfl, rfl, .inr ⟨by decide, by decide⟩, _, _, rfl, rfl, (by show (0 : Int) < 18446744073709551616; decide), ?_⟩
    refine ⟨_, rfl, _, rfl, _, _, rfl, rfl, ⟨by decide, by decide⟩, _, _, rfl, rfl, ?_⟩
    generalize hz : Builtin.bitXor _ _ * 10723151780598845931 % 18446744073709551616 = z
    have z0 : 0 ≤ z := by rw [← hz]; exact Int.emod_nonneg _ (by decide)
    have z1 : z < 2 ^ 64 := by rw [← hz]; exact Int.emod_lt_of_pos _ (by decide)
    have q := xor_lt z0 (y := z / 2147483648) (by omega) z1 (by omega)
    exact k _ q.1 q.2
end
end L3
set_option Elab.async false
set_option linter.all false
set_option maxRecDepth 100000
namespace L3
open PySem PySem.Spec PyProof.Rows L2
theorem shaped_ints (ns : List Int) : SeqAt.shaped (.list (ns.map PyData.int)) = true := by
  have h1 : ∀ l : List Int, PyData.canLayAll0 (l.map PyData.int) = true := fun l => by
    induction l with
    | nil => rfl
    | cons _ _ ih => exact ih
  have h2 : ∀ l : List Int, PyData.depthAll (l.map PyData.int) = 0 := fun l => by
    induction l with
    | nil => rfl
    | cons _ _ ih => show max 0 (PyData.depthAll _) = 0; rw [ih]; rfl
  have h3 : PyData.depth (.list (ns.map PyData.int)) = 1 := by show PyData.depthAll _ + 1 = 1; rw [h2]
  show (PyData.canLayAll0 _ && decide (PyData.depth _ ≤ 64)) = true
  rw [h1, h3]; rfl
theorem cut63 (ns : List Int) : cutV (ns.map V.int) none (some 63) = (ns.take 63).map V.int := by
  unfold cutV
  rw [show HT.sIx (ns.map V.int).length (ns.map V.int).length (some 63) = min 63 (ns.map V.int).length from HT.sIx_nat _ _ 63]
  show ((ns.map V.int).drop 0).take (min 63 (ns.map V.int).length - 0) = _
  rw [List.drop_zero, Nat.sub_zero, List.map_take]
  simp [List.take_eq_take_iff]
theorem get_int {ns : List Int} {i : Nat} {y : V} (h : (ns.map V.int)[i]? = some y) : ∃ z, y = V.int z ∧ ns[i]? = some z := by
  rw [List.getElem?_map] at h
  cases e : ns[i]? with
  | none => rw [e] at h; cases h
  | some z => rw [e] at h; exact ⟨z, (Option.some.inj h).symm, rfl⟩
section
variable {P : Program} {w : World} {K : PySem.W.Frag} {mg : Str → Option Value} {base : Heap}
def spJar (K : PySem.W.Frag) : Sp := fun vs H Q _ => ∃ (a : Addr) (ns : List Int), vs = [.ref a] ∧ SqL K H a (ns.map V.int) ∧ ∀ (j c : Addr) (H' : Hp), H j = none → H c = none → Same H H' → Jar H' j c → Q (.ref j) H'
abbrev s_law_jar : Stmt := top 19
theorem sc_law_jar : FnScope ["script", "seed", "cell"] ["script"] (defScope s_law_jar) := ⟨rfl, rfl, rfl, by decide +kernel, rfl, by decide +kernel, by decide +kernel⟩
theorem ok_law_jar {f : Addr} {fd : FuncData} (F : Fun K "_law_jar" "_law_jar" s_law_jar f fd) (T : Tn mg) (D_law_mix : Def P w K mg base "_law_mix" 1 ["one"] spMix) : FnOk P w K mg base CX0 2 f fd ["script"] (spJar K) := by
  refine F.ok sc_law_jar (fun vs H Q E h => ?_) (fun cdv A outer s H vs Q E hr h => ?_)
  · obtain ⟨a, ns, rfl, _⟩ := h
    rfl
  · obtain ⟨a, ns, rfl, hS, k⟩ := h
    have hu := hu_of hr
    refine ⟨_, (pss_cons (ps_set (i := 1) sc_law_jar.nd rfl (by first | exact Or.inl rfl | exact Or.inr rfl) pe_int)
      (pss_cons (ps_for PassesOwn.never rfl (pi_list (pe_slice sl_list (pv 0) po_none (po_some pe_int))) (pg_name (i := 2) sc_law_jar.nd rfl (by first | exact Or.inl rfl | exact Or.inr rfl)) (pss_one (ps_set (i := 1) sc_law_jar.nd rfl (by first | exact Or.inl rfl | exact Or.inr rfl) (pe_def D_law_mix (hr.mono (by first | decide | omega)) (by rfl) (pa_cons (pe_op op_mod (pe_op op_add (pe_op op_mul (pv 1) pe_int) (pv 2)) pe_int) pa_nil)))))
      (pss_one (ps_ret (pe_disp (pps_cons pe_str (pe_callTy call_list_of (by rfl) T.list_ (by decide +kernel) (pa_cons (pe_slice sl_list (pv 0) po_none (po_some pe_int)) pa_nil)) (pps_cons pe_str pe_int (pps_cons pe_str (pv 1) (pps_cons pe_str pe_int pps_nil)))) (by rfl) (by rfl) (fun z => by cases z) (by decide)))))), ?_⟩
    refine ⟨_, rfl, _, rfl, a, _, rfl, hS, fun p hp => ⟨p, rfl, ⟨_, SqL.of upd_same⟩, ?_⟩⟩
    have s1 : Same H (upd H p (.lst (cutV (ns.map V.int) none (some 63)))) := same_upd hp
    refine for_list (K := K) (a := p) (xs := cutV (ns.map V.int) none (some 63)) (fun i σ H2 => ∃ (z : Int) (v : Option V), σ = [some (.ref a), some (.int z), v] ∧ Same (upd H p (.lst (cutV (ns.map V.int) none (some 63)))) H2) ⟨_, none, rfl, Same.refl _⟩ (fun i σ H2 _ ⟨_, _, _, s2⟩ => SqL.of (s2 _ _ upd_same)) ?_ ?_
    · rintro i y σ H2 hi ⟨z, v, rfl, s2⟩
      rw [cut63] at hi
      obtain ⟨n, rfl, _⟩ := get_int hi
      refine ⟨_, rfl, _, _, rfl, rfl, .inr ⟨by decide, by decide⟩, _, rfl, _, _, rfl, rfl, _, _, rfl, rfl, (by show (0 : Int) < 18446744073709551616; decide), _, rfl, Int.emod_nonneg _ (by decide), Int.emod_lt_of_pos _ (by decide), fun m m0 m1 => ?_⟩
      exact ⟨m, _, rfl, s2⟩
    · rintro σ H2 ⟨z, v, rfl, s2⟩
      have hS2 : SqL K H2 a (ns.map V.int) := s2.seq (s1.seq hS)
      intro j hj
      refine ⟨_, rfl, _, rfl, a, _, rfl, (same_upd hj).seq hS2, fun p2 hp2 => ⟨p2, _, rfl, .inl (SqL.of upd_same), fun c hc => ?_⟩⟩
      have e1 : upd H2 j (.dK []) j = some (.dK []) := upd_same
      have nj2 : j ≠ p2 := ne_of_none e1 hp2
      have e2 : upd (upd H2 j (.dK [])) p2 (.lst (cutV (ns.map V.int) none (some 63))) j = some (.dK []) := by rw [upd_ne nj2]; exact e1
      have njc : j ≠ c := ne_of_none e2 hc
      refine ⟨_, rfl, ⟨by rw [upd_ne njc]; exact e2, kv c 0 z 0, rfl, (by show 4 ≤ 15; decide), ?_⟩⟩
      have hcH : H c = none := by
        have := (same_upd hp2).free hc
        exact (s1.trans (s2.trans (same_upd hj))).free this
      have hjH : H j = none := (s1.trans s2).free hj
      refine k j c _ hjH hcH ?_ ⟨(ns.take 63), 0, z, 0, by rw [kv_made]; exact upd_same, ?_, by rw [List.length_take]; omega⟩
      · intro b o e
        have b1 : b ≠ j := ne_of_none e hjH
        have b2 : b ≠ c := ne_of_none e hcH
        have b3 : b ≠ p2 := ne_of_none ((s1.trans (s2.trans (same_upd hj))) b o e) hp2
        rw [upd_ne b1, upd_ne b2, upd_ne b3, upd_ne b1]
        exact s2 _ _ (s1 _ _ e)
      · rw [upd_ne njc.symm, upd_same, cut63]
end
end L3
set_option Elab.async false
set_option linter.all false
set_option maxRecDepth 100000
namespace L3
open PySem PySem.Spec PyProof.Rows L2
section
variable {P : Program} {w : World} {K : PySem.W.Frag} {mg : Str → Option Value} {base : Heap}
def spPick : Sp := fun vs H Q _ => ∃ (j c : Addr) (n : Int), vs = [.ref j, .int n] ∧ Jar H j c ∧ 0 < n ∧ n < 10 ^ 60 ∧ ∀ (f : Int) (H' : Hp), 0 ≤ f → f < n → Jar H' j c → Kp j c H H' → Q (.int f) H'
abbrev s_law_pick : Stmt := top 20
theorem sc_law_pick : FnScope ["jar", "many", "cell", "turned", "one", "found"] ["jar", "many"] (defScope s_law_pick) := ⟨rfl, rfl, rfl, by decide +kernel, rfl, by decide +kernel, by decide +kernel⟩
theorem ok_law_pick {f : Addr} {fd : FuncData} (F : Fun K "_law_pick" "_law_pick" s_law_pick f fd) (D_law_mix : Def P w K mg base "_law_mix" 1 ["one"] spMix) : FnOk P w K mg base CX0 2 f fd ["jar", "many"] spPick := by
  refine F.ok sc_law_pick (fun vs H Q E h => ?_) (fun cdv A outer s H vs Q E hr h => ?_)
  · obtain ⟨j, c, n, rfl, _⟩ := h
    rfl
  · obtain ⟨j, c, n, rfl, J, n0, n1, k⟩ := h
    have hu := hu_of hr
    obtain ⟨cells, r, sd, t, hj, hc, hl⟩ := J.ex
    have njc : j ≠ c := ne_of hj hc (by intro z; cases z)
    refine ⟨_, (pss_cons (ps_cut (ps_if (pt_cmpR op_lt (pe_dget hu (pv 0) pe_str (fun _ _ => rfl)) (pv 1) (nomark _)) (pss_cons (ps_dput hu (pv 0) pe_str (pe_op op_add (pe_dget hu (pv 0) pe_str (fun _ _ => rfl)) pe_int) rfl)
      (pss_one (ps_if (pt_cmpR (op_neD hr.units) (pe_dget hu (pv 0) pe_str (fun _ _ => rfl)) (pe_lst pa_nil) (nomark _)) (pss_cons (ps_set (i := 2) sc_law_pick.nd rfl (by first | exact Or.inl rfl | exact Or.inr rfl) (pe_bm PySem.F.plainAttrs_list PySem.F.slot_list_pop PySem.F.type_list_pop mt_popAt (pe_dget hu (pv 0) pe_str (fun _ _ => rfl)) (pa_cons pe_int pa_nil)))
      (pss_cons (ps_dput hu (pv 0) pe_str (pv 2) rfl)
      (pss_one (ps_if (pt_cmpR op_lt (pv 2) (pe_op op_pow pe_int pe_int) (nomark _)) (pss_cons (ps_set (i := 3) sc_law_pick.nd rfl (by first | exact Or.inl rfl | exact Or.inr rfl) (pe_op op_add (pe_op op_mul (pv 2) pe_int) (pe_op op_mul (pe_dget hu (pv 0) pe_str (fun _ _ => rfl)) pe_int)))
      (pss_cons (ps_set (i := 4) sc_law_pick.nd rfl (by first | exact Or.inl rfl | exact Or.inr rfl) (pe_def D_law_mix (hr.mono (by first | decide | omega)) (by rfl) (pa_cons (pe_op op_mod (pv 3) pe_int) pa_nil)))
      (pss_one (ps_dput hu (pv 0) pe_str (pe_op op_add (pe_op op_mul (pv 4) pe_int) (pe_def D_law_mix (hr.mono (by first | decide | omega)) (by rfl) (pa_cons (pe_op op_xor (pv 4) pe_int) pa_nil))) rfl)))) pss_nil)))) (pss_cons (ps_dput hu (pv 0) pe_str (pe_def D_law_mix (hr.mono (by first | decide | omega)) (by rfl) (pa_cons (pe_op op_mod (pe_op op_add (pe_dget hu (pv 0) pe_str (fun _ _ => rfl)) pe_int) pe_int) pa_nil)) rfl)
      (pss_one (ps_dput hu (pv 0) pe_str (pe_dget hu (pv 0) pe_str (fun _ _ => rfl)) rfl)))))) pss_nil))
      (pss_cons (ps_set (i := 5) sc_law_pick.nd rfl (by first | exact Or.inl rfl | exact Or.inr rfl) (pe_op op_mod (pe_dget hu (pv 0) pe_str (fun _ _ => rfl)) (pv 1)))
      (pss_cons (ps_dput hu (pv 0) pe_str (pe_op op_fdivB (pe_dget hu (pv 0) pe_str (fun _ _ => rfl)) (pv 1)) rfl)
      (pss_one (ps_ret (pv 5)))))), ?_⟩
    refine ⟨fun σ H1 => (∃ x y z, σ = [some (.ref j), some (.int n), x, y, z, none]) ∧ Jar H1 j c ∧ Kp j c H H1, ?_, ?_⟩
    · refine ⟨_, rfl, j, _, rfl, jget_rest hj, _, rfl, _, _, rfl, rfl, _, rfl, ?_⟩
      refine ite2 (fun _ => ?_) (fun _ => ⟨⟨_, _, _, rfl⟩, J, Kp.refl _⟩)
      -- jar['turn'] = jar['turn'] + 1
      refine ⟨_, rfl, j, _, rfl, jget_turn hj, _, _, rfl, rfl, _, rfl, j, _, rfl, jput_turn hj, ?_⟩
      -- if jar['cells'] != []
      have hj1 : upd H j (.dK (kv c r sd (t + 1))) j = some (.dK (kv c r sd (t + 1))) := upd_same
      refine ⟨_, rfl, j, _, rfl, jget_cells hj1, Nat.zero_le _, fun l hl0 => ?_⟩
      have njl : j ≠ l := ne_of_none hj1 hl0
      have hc1 : upd H j (.dK (kv c r sd (t + 1))) c = some (.lst (cells.map V.int)) := by rw [upd_ne njc.symm]; exact hc
      have ncl : c ≠ l := ne_of_none hc1 hl0
      have hlH : H l = none := by rw [upd_ne njl.symm] at hl0; exact hl0
      have hj2 : upd (upd H j (.dK (kv c r sd (t + 1)))) l (.lst []) j = some (.dK (kv c r sd (t + 1))) := by rw [upd_ne njl]; exact hj1
      have hc2 : upd (upd H j (.dK (kv c r sd (t + 1)))) l (.lst []) c = some (.lst (cells.map V.int)) := by rw [upd_ne ncl]; exact hc1
      have kp2 : Kp j c H (upd (upd H j (.dK (kv c r sd (t + 1)))) l (.lst [])) := fun b o e b1 b2 => by
        rw [upd_ne (ne_of_none e hlH), upd_ne b1]; exact e
      have hl2 : upd (upd H j (.dK (kv c r sd (t + 1)))) l (.lst []) l = some (.lst []) := upd_same
      generalize upd (upd H j (.dK (kv c r sd (t + 1)))) l (.lst []) = H2 at hj2 hc2 hl2 kp2 ⊢
      cases cells with
      | nil =>
        refine ⟨.list [], .list [], .lst (SqL.of hc2) .nil, .lst (SqL.of hl2) .nil, rfl, rfl, _, rfl, iteB (by decide) ?_⟩
        refine ⟨_, rfl, j, _, rfl, jget_seed hj2, _, _, rfl, rfl, _, _, rfl, rfl, (by show (0 : Int) < 18446744073709551616; decide), _, rfl, Int.emod_nonneg _ (by decide), Int.emod_lt_of_pos _ (by decide), fun m m0 m1 => ?_⟩
        refine ⟨_, rfl, j, _, rfl, jput_seed hj2, ?_⟩
        refine ⟨_, rfl, j, _, rfl, jget_seed upd_same, _, rfl, j, _, rfl, jput_rest upd_same, ⟨_, _, _, rfl⟩, ⟨[], _, _, _, upd_same, ?_, Nat.zero_le _⟩, fun b o e b1 b2 => ?_⟩
        · rw [upd_ne njc.symm, upd_ne njc.symm]; exact hc2
        · rw [upd_ne b1, upd_ne b1]; exact kp2 b o e b1 b2
      | cons z zs =>
        refine ⟨.list ((z :: zs).map PyData.int), .list [], .lst (SqL.of hc2) (dpAll_ints _), .lst (SqL.of hl2) .nil, shaped_ints _, rfl, _, rfl, iteA rfl ?_⟩
        -- cell = jar['cells'].pop(0)
        have hz : ((z :: zs).map V.int)[0]? = some (V.int z) := rfl
        refine ⟨_, rfl, j, _, rfl, jget_cells hj2, .inl ⟨rfl, _, SqL.of hc2⟩, c, _, 0, 0, V.int z, rfl, rfl, hc2, by decide, by decide, seqIndex_of (by decide) (by simp), hz, ?_⟩
        have hj3 : upd H2 c (.lst (((z :: zs).map V.int).eraseIdx 0)) j = some (.dK (kv c r sd (t + 1))) := by rw [upd_ne njc]; exact hj2
        have hc3 : upd H2 c (.lst (((z :: zs).map V.int).eraseIdx 0)) c = some (.lst (zs.map V.int)) := upd_same
        have kp3 : Kp j c H (upd H2 c (.lst (((z :: zs).map V.int).eraseIdx 0))) := fun b o e b1 b2 => by rw [upd_ne b2]; exact kp2 b o e b1 b2
        generalize upd H2 c (.lst (((z :: zs).map V.int).eraseIdx 0)) = H3 at hj3 hc3 kp3 ⊢
        have hlz : zs.length ≤ 63 := by simp at hl; omega
        -- jar['rest'] = cell
        refine ⟨_, rfl, _, rfl, j, _, rfl, jput_rest hj3, ?_⟩
        have hj4 : upd H3 j (.dK (kv c z sd (t + 1))) j = some (.dK (kv c z sd (t + 1))) := upd_same
        have hc4 : upd H3 j (.dK (kv c z sd (t + 1))) c = some (.lst (zs.map V.int)) := by rw [upd_ne njc.symm]; exact hc3
        have kp4 : Kp j c H (upd H3 j (.dK (kv c z sd (t + 1)))) := fun b o e b1 b2 => by rw [upd_ne b1]; exact kp3 b o e b1 b2
        generalize upd H3 j (.dK (kv c z sd (t + 1))) = H4 at hj4 hc4 kp4 ⊢
        refine ⟨_, rfl, _, _, rfl, rfl, ⟨by decide, by decide, by decide⟩, _, _, rfl, rfl, _, rfl, ?_⟩
        refine ite2 (fun _ => ?_) (fun _ => ⟨⟨_, _, _, rfl⟩, ⟨zs, _, _, _, hj4, hc4, hlz⟩, kp4⟩)
        refine ⟨_, rfl, _, _, rfl, rfl, .inr ⟨by decide, by decide⟩, _, rfl, j, _, rfl, jget_turn hj4, _, _, rfl, rfl, .inr ⟨by decide, by decide⟩, _, _, rfl, rfl, ?_⟩
        refine ⟨_, rfl, _, _, rfl, rfl, (by show (0 : Int) < 18446744073709551616; decide), _, rfl, Int.emod_nonneg _ (by decide), Int.emod_lt_of_pos _ (by decide), fun m m0 m1 => ?_⟩
        have q := xor_lt m0 (y := 91) (by decide) m1 (by decide)
        refine ⟨_, rfl, _, _, rfl, rfl, .inl ⟨by omega, m1⟩, _, rfl, _, _, rfl, rfl, _, rfl, q.1, q.2, fun m' m0' m1' => ?_⟩
        refine ⟨_, _, rfl, rfl, _, rfl, j, _, rfl, jput_rest hj4, ⟨_, _, _, rfl⟩, ⟨zs, _, _, _, upd_same, ?_, hlz⟩, fun b o e b1 b2 => ?_⟩
        · rw [upd_ne njc.symm]; exact hc4
        · rw [upd_ne b1]; exact kp4 b o e b1 b2
    · rintro σ H1 ⟨⟨x, y, z, rfl⟩, J1, kp⟩
      obtain ⟨cells1, r1, sd1, t1, hj1, hc1, hl1⟩ := J1.ex
      refine ⟨_, rfl, j, _, rfl, jget_rest hj1, _, rfl, _, _, rfl, rfl, n0, ?_⟩
      refine ⟨_, rfl, j, _, rfl, jget_rest hj1, _, rfl, _, _, rfl, rfl, ⟨n0, n1⟩, _, rfl, j, _, rfl, jput_rest hj1, ?_⟩
      refine ⟨_, rfl, k _ _ (Int.emod_nonneg _ (by omega)) (Int.emod_lt_of_pos _ n0) ⟨cells1, _, sd1, t1, upd_same, by rw [upd_ne njc.symm]; exact hc1, hl1⟩ fun b o e b1 b2 => ?_⟩
      rw [upd_ne b1]; exact kp b o e b1 b2
end
end L3
set_option Elab.async false
set_option linter.all false
set_option maxRecDepth 100000
namespace L3
open PySem PySem.Spec PyProof.Rows L2
abbrev nV : Nat → V := fun i => V.int (i : Int)
theorem perm_erase : ∀ {rest : List Nat} {k y : Nat}, rest[k]? = some y → (y :: rest.eraseIdx k).Perm rest
  | [], k, y, h => by simp at h
  | x :: r, 0, y, h => by
    have e : x = y := Option.some.inj h
    subst e
    exact List.Perm.refl _
  | x :: r, k + 1, y, h => by
    have q := perm_erase (rest := r) (k := k) (y := y) h
    exact (List.Perm.swap x y _).trans (List.Perm.cons x q)
theorem perm_pop {acc rest all : List Nat} {k y : Nat} (h : (acc ++ rest).Perm all) (hk : rest[k]? = some y) : (acc ++ [y] ++ rest.eraseIdx k).Perm all := by
  rw [List.append_assoc]
  exact (List.Perm.append_left acc (perm_erase hk)).trans h
theorem erase_map : ∀ (l : List Nat) (k : Nat), (l.map nV).eraseIdx k = (l.eraseIdx k).map nV
  | [], _ => rfl
  | _ :: _, 0 => rfl
  | x :: r, k + 1 => by
    show nV x :: (r.map nV).eraseIdx k = nV x :: (r.eraseIdx k).map nV
    rw [erase_map r k]
section
variable {P : Program} {w : World} {K : PySem.W.Frag} {mg : Str → Option Value} {base : Heap}
def spOrder : Sp := fun vs H Q _ => ∃ (j c : Addr) (n : Nat), vs = [.ref j, nV n] ∧ Jar H j c ∧ n ≤ 1000 ∧ ∀ (l : Addr) (xs : List Nat) (H' : Hp), H l = none → H' l = some (.lst (xs.map nV)) → xs.Perm (List.range n) → Jar H' j c → Kp j c H H' → Q (.ref l) H'
abbrev s_law_order : Stmt := top 21
theorem sc_law_order : FnScope ["jar", "many", "left", "thing"] ["jar", "many"] (defScope s_law_order) := ⟨rfl, rfl, rfl, by decide +kernel, rfl, by decide +kernel, by decide +kernel⟩
theorem ok_law_order {f : Addr} {fd : FuncData} (F : Fun K "_law_order" "_law_order" s_law_order f fd) (T : Tn mg) (D_law_pick : Def P w K mg base "_law_pick" 2 ["jar", "many"] spPick) : FnOk P w K mg base CX0 3 f fd ["jar", "many"] spOrder := by
  refine F.ok sc_law_order (fun vs H Q E h => ?_) (fun cdv A outer s H vs Q E hr h => ?_)
  · obtain ⟨j, c, n, rfl, _⟩ := h
    rfl
  · obtain ⟨j, c, n, rfl, J, n1, k⟩ := h
    refine ⟨_, (pss_cons (ps_set (i := 2) sc_law_order.nd rfl (by first | exact Or.inl rfl | exact Or.inr rfl) (pe_callTy (call_list_rng rfl) (by rfl) T.list_ (by decide +kernel) (pa_cons (pe_callTy call_rng1 (by rfl) T.range_ (by decide +kernel) (pa_cons (pv 1) pa_nil)) pa_nil)))
      (pss_one (ps_ret (pe_lc (own := [("thing", 3)]) (g := (gName 3)) (by rfl) sc_law_order.nd (pi_range1 (by rfl) T.range_ (pa_cons (pv 1) pa_nil)) (blkOk_by (own := [("thing", 3)]) (N := ["jar", "many", "left", "thing"]) (sc := defScope s_law_order) (by decide +kernel)) (fun _ _ _ _ _ => (pg_name (i := 3) sc_law_order.nd rfl (by first | exact Or.inl rfl | exact Or.inr rfl))) (fun _ _ _ _ _ => pts_nil) (fun _ _ _ _ _ => (pe_bm' (K := K) rfl PySem.F.plainAttrs_list PySem.F.slot_list_pop PySem.F.type_list_pop mt_popAt (pv 2) (pa_cons (pe_def D_law_pick (hr.mono (by first | decide | omega)) (by rfl) (pa_cons (pv 0) (pa_cons (pe_callB (call_len_seq' (K := K) rfl) (by rfl) T.len_ (by decide +kernel) (pa_cons (pv 2) pa_nil)) pa_nil))) pa_nil))))))), ?_⟩
    refine ⟨_, rfl, _, rfl, fun p hp => ⟨p, _, rfl, upd_same, by omega, by omega, fun L hL => ?_⟩⟩
    refine ⟨_, rfl, _, rfl, by omega, by omega, fun D hD => ?_⟩
    have J0 := J
    obtain ⟨cells, r, sd, t, hj, hc, hl⟩ := J0.ex
    have hL0 : upd (upd H p (.rng 0 (n : Int))) L (.lst (upto (n : Int).toNat)) L = some (.lst (upto (n : Int).toNat)) := upd_same
    have sm : Same H (upd (upd H p (.rng 0 (n : Int))) L (.lst (upto (n : Int).toNat))) := (same_upd hp).trans (same_upd hL)
    have nLD : L ≠ D := ne_of_none hL0 hD
    have hLH : H L = none := (same_upd hp).free hL
    have hDH : H D = none := sm.free hD
    have nLj : L ≠ j := (ne_of_none hj hLH).symm
    have nLc : L ≠ c := (ne_of_none hc hLH).symm
    have nDj : D ≠ j := (ne_of_none hj hDH).symm
    have nDc : D ≠ c := (ne_of_none hc hDH).symm
    have en : (n : Int).toNat = n := by omega
    refine lc_range (lo := 0) (n := (n : Int).toNat) (fun i H1 => ∃ (acc rest : List Nat), H1 D = some (.lst (acc.map nV)) ∧ H1 L = some (.lst (rest.map nV)) ∧ (acc ++ rest).Perm (List.range n) ∧ acc.length = i ∧ Jar H1 j c ∧ Kp j c H H1) ?_ ?_ ?_
    · refine ⟨[], List.range n, upd_same, ?_, List.Perm.refl _, rfl, ⟨cells, r, sd, t, ?_, ?_, hl⟩, fun b o e b1 b2 => ?_⟩
      · rw [upd_ne nLD, hL0, en]; rfl
      · rw [upd_ne nDj.symm]; exact sm _ _ hj
      · rw [upd_ne nDc.symm]; exact sm _ _ hc
      · rw [upd_ne (ne_of_none e hDH)]; exact sm _ _ e
    · rintro i H2 hi ⟨acc, rest, hD2, hL2, pm, hal, J2, kp2⟩
      have hlen : acc.length + rest.length = n := by
        have := pm.length_eq
        rw [List.length_append, List.length_range] at this
        exact this
      refine ⟨rfl, ?_⟩
      refine ⟨_, rfl, .inl ⟨rfl, _, SqL.of hL2⟩, _, rfl, _, rfl, L, _, rfl, .inl (SqL.of hL2), j, c, _, rfl, J2, ?_, ?_, fun f H3 f0 f1 J3 kp3 => ?_⟩
      · rw [List.length_map]; omega
      · rw [List.length_map]; omega
      · rw [List.length_map] at f1
        have hL3 : H3 L = some (.lst (rest.map nV)) := kp3 _ _ hL2 nLj nLc
        have hD3 : H3 D = some (.lst (acc.map nV)) := kp3 _ _ hD2 nDj nDc
        have hfl : f.toNat < rest.length := by omega
        have hy : rest[f.toNat]? = some rest[f.toNat] := by simp [hfl]
        obtain ⟨cells3, r3, sd3, t3, hj3, hc3, hl3⟩ := J3.ex
        refine ⟨L, _, f, f.toNat, nV rest[f.toNat], rfl, rfl, hL3, by omega, by omega, seqIndex_of f0 (by rw [List.length_map]; omega), by rw [List.getElem?_map, hy]; rfl, ?_⟩
        refine ⟨_, by rw [upd_ne nLD.symm]; exact hD3, small1000 (by rw [List.length_map]; omega), acc ++ [rest[f.toNat]], rest.eraseIdx f.toNat, ?_, ?_, perm_pop pm hy, by rw [List.length_append, hal]; rfl, ⟨cells3, r3, sd3, t3, ?_, ?_, hl3⟩, fun b o e b1 b2 => ?_⟩
        · rw [upd_same, List.map_append]; rfl
        · rw [upd_ne nLD, upd_same, erase_map]
        · rw [upd_ne nDj.symm, upd_ne nLj.symm]; exact hj3
        · rw [upd_ne nDc.symm, upd_ne nLc.symm]; exact hc3
        · rw [upd_ne (ne_of_none e hDH), upd_ne (ne_of_none e hLH)]; exact kp3 b o (kp2 b o e b1 b2) b1 b2
    · rintro H2 ⟨acc, rest, hD2, hL2, pm, hal, J2, kp2⟩
      have hlen : acc.length + rest.length = n := by
        have := pm.length_eq
        rw [List.length_append, List.length_range] at this
        exact this
      have hr0 : rest = [] := List.eq_nil_of_length_eq_zero (by omega)
      subst hr0
      rw [List.append_nil] at pm
      exact k D acc H2 hDH hD2 pm J2 kp2
end
end L3
set_option Elab.async false
set_option linter.all false
set_option maxRecDepth 100000
namespace L3
open PySem PySem.Spec PyProof.Rows L2
structure Net where
  w : Nat
  sw : List (Nat × Nat)
  ord : List Nat
structure Net.Ok (N : Net) : Prop where
  w1 : 1 ≤ N.w
  w16 : N.w ≤ 16
  sw : ∀ p ∈ N.sw, p.1 < N.w ∧ p.2 < N.w ∧ p.1 ≠ p.2
  ord : N.ord.Perm (List.range N.w)
def PairsAt (H : Hp) (as : List Addr) (sw : List (Nat × Nat)) : Prop := as.length = sw.length ∧ ∀ (i : Nat) (a : Addr) (p : Nat × Nat), as[i]? = some a → sw[i]? = some p → H a = some (.tup [nV p.1, nV p.2])
structure NetAt (H : Hp) (p : Addr) (N : Net) : Prop where
  ex : ∃ (ps po : Addr) (as : List Addr), H p = some (.tup [nV N.w, .ref ps, .ref po]) ∧ H ps = some (.tup (as.map V.ref)) ∧ PairsAt H as N.sw ∧ H po = some (.tup (N.ord.map nV))
/-- tuples stay -/
def Tk (H H' : Hp) : Prop := ∀ b xs, H b = some (.tup xs) → H' b = some (.tup xs)
theorem Tk.refl (H : Hp) : Tk H H := fun _ _ h => h
theorem Tk.trans {H H1 H2 : Hp} (a : Tk H H1) (b : Tk H1 H2) : Tk H H2 := fun x o h => b x o (a x o h)
theorem tk_same {H H' : Hp} (s : Same H H') : Tk H H' := fun b xs h => s b _ h
theorem tk_new {H : Hp} {p : Addr} {o : HO} (h : H p = none) : Tk H (upd H p o) := tk_same (same_upd h)
theorem tk_upd {H : Hp} {p : Addr} {o u : HO} (h : H p = some u) (hu : ∀ xs, u ≠ .tup xs) : Tk H (upd H p o) := fun b xs e => by
  rw [upd_ne (ne_of e h (fun z => hu xs z.symm))]; exact e
theorem Kp.tk {j c : Addr} {H H' : Hp} (k : Kp j c H H') (J : Jar H j c) : Tk H H' := fun b xs e => by
  obtain ⟨_, _, _, _, hj, hc, _⟩ := J.ex
  exact k b _ e (ne_of e hj (by intro z; cases z)) (ne_of e hc (by intro z; cases z))
theorem PairsAt.tk {H H' : Hp} {as : List Addr} {sw : List (Nat × Nat)} (h : PairsAt H as sw) (t : Tk H H') : PairsAt H' as sw := ⟨h.1, fun i a p ha hp => t _ _ (h.2 i a p ha hp)⟩
theorem NetAt.tk {H H' : Hp} {p : Addr} {N : Net} (h : NetAt H p N) (t : Tk H H') : NetAt H' p N := by
  obtain ⟨ps, po, as, h1, h2, h3, h4⟩ := h.ex
  exact ⟨ps, po, as, t _ _ h1, t _ _ h2, h3.tk t, t _ _ h4⟩
theorem PairsAt.snoc {H : Hp} {as : List Addr} {sw : List (Nat × Nat)} {a : Addr} {p : Nat × Nat} (h : PairsAt H as sw) (e : H a = some (.tup [nV p.1, nV p.2])) : PairsAt H (as ++ [a]) (sw ++ [p]) := by
  refine ⟨by simp [h.1], fun i b q hb hq => ?_⟩
  by_cases hi : i < as.length
  · rw [List.getElem?_append_left hi] at hb
    rw [List.getElem?_append_left (by rw [← h.1]; exact hi)] at hq
    exact h.2 i b q hb hq
  · rw [List.getElem?_append_right (by omega)] at hb
    rw [List.getElem?_append_right (by rw [← h.1]; omega)] at hq
    have e0 : i - as.length = 0 := by
      have := (List.getElem?_eq_some_iff.mp hb).1
      simp at this; omega
    rw [e0] at hb
    rw [← h.1, e0] at hq
    cases (Option.some.inj hb)
    cases (Option.some.inj hq)
    exact e
theorem dec_eq {a b : Int} (h : decide (V.int a = V.int b) = true) : a = b := by
  have := of_decide_eq_true h
  injection this
theorem dec_ne {a b : Int} (h : ¬ decide (V.int a = V.int b) = true) : a ≠ b := fun e => h (by rw [e]; exact decide_eq_true rfl)
/-- between two turns of the net's loop -/
structure NetSt (H0 : Hp) (j c S : Addr) (w : Nat) (Lf : Addr) (lf : List Nat) (as : List Addr) (sw : List (Nat × Nat)) (H1 : Hp) : Prop where
  hS : H1 S = some (.lst (as.map V.ref))
  hP : PairsAt H1 as sw
  val : ∀ p ∈ sw, p.1 < w ∧ p.2 < w ∧ p.1 ≠ p.2
  hL : H1 Lf = some (.lst (lf.map nV))
  nd : lf.Nodup
  lt : ∀ x ∈ lf, x < w
  J : Jar H1 j c
  kp : Kp j c H0 H1
  nSL : S ≠ Lf
  S0 : H0 S = none
  L0 : H0 Lf = none
theorem Kp.free {j c : Addr} {H H' : Hp} {S : Addr} (k : Kp j c H H') (J' : Jar H' j c) (h : H' S = none) : H S = none := by
  obtain ⟨_, _, _, _, hj, hc, _⟩ := J'.ex
  cases q : H S with
  | none => rfl
  | some o =>
    rw [k S o q (ne_of_none hj h).symm (ne_of_none hc h).symm] at h
    cases h
theorem Jar.nej {j c S : Addr} {H : Hp} (J : Jar H j c) (h : H S = none) : S ≠ j := by
  obtain ⟨_, _, _, _, hj, hc, _⟩ := J.ex
  exact (ne_of_none hj h).symm
theorem Jar.nec {j c S : Addr} {H : Hp} (J : Jar H j c) (h : H S = none) : S ≠ c := by
  obtain ⟨_, _, _, _, hj, hc, _⟩ := J.ex
  exact (ne_of_none hc h).symm
theorem Jar.keep {j c : Addr} {H H' : Hp} (J : Jar H j c) (h1 : ∀ o, H j = some o → H' j = some o) (h2 : ∀ o, H c = some o → H' c = some o) : Jar H' j c := by
  obtain ⟨a, b, d, e, hj, hc, hl⟩ := J.ex
  exact ⟨a, b, d, e, h1 _ hj, h2 _ hc, hl⟩
theorem Jar.same {j c : Addr} {H H' : Hp} (J : Jar H j c) (s : Same H H') : Jar H' j c := J.keep (fun o => s j o) (fun o => s c o)
/-- a list of ours is written: the jar stays -/
theorem Jar.upd {j c S : Addr} {H : Hp} {o : HO} (J : Jar H j c) (h1 : S ≠ j) (h2 : S ≠ c) : Jar (upd H S o) j c := J.keep (fun u e => by rw [upd_ne h1.symm]; exact e) (fun u e => by rw [upd_ne h2.symm]; exact e)
section
variable {H0 H1 H2 : Hp} {j c S : Addr} {w : Nat} {Lf : Addr} {lf : List Nat} {as : List Addr} {sw : List (Nat × Nat)}
theorem NetSt.pick (N : NetSt H0 j c S w Lf lf as sw H1) (J0 : Jar H0 j c) (k : Kp j c H1 H2) (J2 : Jar H2 j c) : NetSt H0 j c S w Lf lf as sw H2 :=
  ⟨k _ _ N.hS (J0.nej N.S0) (J0.nec N.S0), N.hP.tk (k.tk N.J), N.val, k _ _ N.hL (J0.nej N.L0) (J0.nec N.L0), N.nd, N.lt, J2, N.kp.trans k, N.nSL, N.S0, N.L0⟩
/-- another list at left -/
theorem NetSt.left {L2 : Addr} {l2 : List Nat} (N : NetSt H0 j c S w Lf lf as sw H1) (h : H1 L2 = some (.lst (l2.map nV))) (nd : l2.Nodup) (lt : ∀ x ∈ l2, x < w) (n : S ≠ L2) (h0 : H0 L2 = none) : NetSt H0 j c S w L2 l2 as sw H1 :=
  ⟨N.hS, N.hP, N.val, h, nd, lt, N.J, N.kp, n, N.S0, h0⟩
/-- the last one popped off left -/
theorem NetSt.pop (N : NetSt H0 j c S w Lf lf as sw H1) (J0 : Jar H0 j c) : NetSt H0 j c S w Lf lf.dropLast as sw (upd H1 Lf (.lst (lf.map nV).dropLast)) := by
  refine ⟨by rw [upd_ne N.nSL]; exact N.hS, N.hP.tk (tk_upd N.hL (by intro xs z; cases z)), N.val, ?_, N.nd.sublist (List.dropLast_sublist _), fun x hx => N.lt x ((List.dropLast_sublist _).subset hx), N.J.upd (J0.nej N.L0) (J0.nec N.L0), fun b o e b1 b2 => ?_, N.nSL, N.S0, N.L0⟩
  · rw [upd_same, List.map_dropLast]
  · rw [upd_ne (ne_of_none e N.L0)]; exact N.kp b o e b1 b2
/-- a new switch -/
theorem NetSt.more {a : Addr} {p : Nat × Nat} (N : NetSt H0 j c S w Lf lf as sw H1) (J0 : Jar H0 j c) (ha : H1 a = none) (hp : p.1 < w ∧ p.2 < w ∧ p.1 ≠ p.2) :
    NetSt H0 j c S w Lf lf (as ++ [a]) (sw ++ [p]) (upd (upd H1 a (.tup [nV p.1, nV p.2])) S (.lst (as.map V.ref ++ [.ref a]))) := by
  have nSa : S ≠ a := ne_of_none N.hS ha
  have nLa : Lf ≠ a := ne_of_none N.hL ha
  have hS1 : upd H1 a (.tup [nV p.1, nV p.2]) S = some (.lst (as.map V.ref)) := by rw [upd_ne nSa]; exact N.hS
  have t : Tk (upd H1 a (.tup [nV p.1, nV p.2])) (upd (upd H1 a (.tup [nV p.1, nV p.2])) S (.lst (as.map V.ref ++ [.ref a]))) := tk_upd hS1 (by intro xs z; cases z)
  refine ⟨by rw [upd_same, List.map_append]; rfl, (((N.hP.tk (tk_new ha)).snoc (p := p) upd_same).tk t), fun q hq => ?_, by rw [upd_ne N.nSL.symm, upd_ne nLa]; exact N.hL, N.nd, N.lt, ?_, fun b o e b1 b2 => ?_, N.nSL, N.S0, N.L0⟩
  · rcases List.mem_append.mp hq with h | h
    · exact N.val q h
    · rw [List.mem_singleton.mp h]; exact hp
  · exact (N.J.same (same_upd ha)).upd (J0.nej N.S0) (J0.nec N.S0)
  · have e1 := N.kp b o e b1 b2
    rw [upd_ne (ne_of_none e N.S0), upd_ne (ne_of_none e1 ha)]; exact e1
end
theorem two_last {l : List Nat} (h : 2 ≤ l.length) : ∃ l0 y x, l = l0 ++ [y] ++ [x] := by
  obtain ⟨l1, x, rfl⟩ : ∃ l1 x, l = l1 ++ [x] := ⟨l.dropLast, l.getLast (by intro z; subst z; simp at h), (List.dropLast_concat_getLast _).symm⟩
  obtain ⟨l0, y, rfl⟩ : ∃ l0 y, l1 = l0 ++ [y] := ⟨l1.dropLast, l1.getLast (by intro z; subst z; simp at h), (List.dropLast_concat_getLast _).symm⟩
  exact ⟨l0, y, x, rfl⟩
theorem perm_lt {xs : List Nat} {n : Nat} (h : xs.Perm (List.range n)) : xs.Nodup ∧ ∀ x ∈ xs, x < n := ⟨h.nodup_iff.mpr List.nodup_range, fun x hx => List.mem_range.mp (h.mem_iff.mp hx)⟩
section
variable {P : Program} {w : World} {K : PySem.W.Frag} {mg : Str → Option Value} {base : Heap}
def spNet : Sp := fun vs H Q _ => ∃ (j c : Addr) (wd mo : Nat), vs = [.ref j, nV wd, nV mo] ∧ Jar H j c ∧ 1 ≤ wd ∧ wd ≤ 16 ∧ mo ≤ 160 ∧
  ∀ (p : Addr) (N : Net) (H' : Hp), N.Ok → N.w ≤ wd → N.sw.length ≤ mo → NetAt H' p N → Jar H' j c → Kp j c H H' → Q (.ref p) H'
abbrev s_law_net : Stmt := top 22
theorem sc_law_net : FnScope ["jar", "widest", "most", "width", "form", "many", "switches", "left", "k", "a", "step", "b", "order"] ["jar", "widest", "most"] (defScope s_law_net) := ⟨rfl, rfl, rfl, by decide +kernel, rfl, by decide +kernel, by decide +kernel⟩
set_option maxHeartbeats 1000000 in
theorem ok_law_net {f : Addr} {fd : FuncData} (F : Fun K "_law_net" "_law_net" s_law_net f fd) (T : Tn mg) (D_law_pick : Def P w K mg base "_law_pick" 2 ["jar", "many"] spPick) (D_law_order : Def P w K mg base "_law_order" 3 ["jar", "many"] spOrder) : FnOk P w K mg base CX0 4 f fd ["jar", "widest", "most"] spNet := by
  refine F.ok sc_law_net (fun vs H Q E h => ?_) (fun cdv A outer s H vs Q E hr h => ?_)
  · obtain ⟨j, c, wd, mo, rfl, _⟩ := h
    rfl
  · obtain ⟨j, c, wd, mo, rfl, J, wd1, wd16, mo1, k⟩ := h
    refine ⟨_, (pss_cons (ps_set (i := 3) sc_law_net.nd rfl (by first | exact Or.inl rfl | exact Or.inr rfl) (pe_op op_add pe_int (pe_def D_law_pick (hr.mono (by first | decide | omega)) (by rfl) (pa_cons (pv 0) (pa_cons (pv 1) pa_nil)))))
      (pss_cons (ps_set (i := 4) sc_law_net.nd rfl (by first | exact Or.inl rfl | exact Or.inr rfl) (pe_def D_law_pick (hr.mono (by first | decide | omega)) (by rfl) (pa_cons (pv 0) (pa_cons pe_int pa_nil))))
      (pss_cons (ps_set (i := 5) sc_law_net.nd rfl (by first | exact Or.inl rfl | exact Or.inr rfl) (pe_op op_mul (pe_def D_law_pick (hr.mono (by first | decide | omega)) (by rfl) (pa_cons (pv 0) (pa_cons (pe_op op_add (pv 2) pe_int) pa_nil))) (pe_callTy call_int1 (by rfl) T.int_ (by decide +kernel) (pa_cons (pe_cmpR op_gt (pv 3) pe_int (nomark _)) pa_nil))))
      (pss_cons (ps_set (i := 6) sc_law_net.nd rfl (by first | exact Or.inl rfl | exact Or.inr rfl) (pe_lst pa_nil))
      (pss_cons (ps_set (i := 7) sc_law_net.nd rfl (by first | exact Or.inl rfl | exact Or.inr rfl) (pe_lst pa_nil))
      (pss_cons (ps_for PassesOwn.never rfl (pi_range1 (by rfl) T.range_ (pa_cons (pv 5) pa_nil)) (pg_name (i := 8) sc_law_net.nd rfl (by first | exact Or.inl rfl | exact Or.inr rfl)) (pss_cons (ps_set (i := 9) sc_law_net.nd rfl (by first | exact Or.inl rfl | exact Or.inr rfl) (pe_def D_law_pick (hr.mono (by first | decide | omega)) (by rfl) (pa_cons (pv 0) (pa_cons (pv 3) pa_nil))))
      (pss_cons (ps_set (i := 10) sc_law_net.nd rfl (by first | exact Or.inl rfl | exact Or.inr rfl) (pe_op op_add pe_int (pe_def D_law_pick (hr.mono (by first | decide | omega)) (by rfl) (pa_cons (pv 0) (pa_cons (pe_op op_sub (pv 3) pe_int) pa_nil)))))
      (pss_cons (ps_cut (ps_if (pt_cmpR op_eq (pv 4) pe_int (nomark _)) (pss_one (ps_set (i := 10) sc_law_net.nd rfl (by first | exact Or.inl rfl | exact Or.inr rfl) pe_int)) pss_nil))
      (pss_cons (ps_cut (ps_if (pt_cmpR op_eq (pv 4) pe_int (nomark _)) (pss_one (ps_set (i := 9) sc_law_net.nd rfl (by first | exact Or.inl rfl | exact Or.inr rfl) pe_int)) pss_nil))
      (pss_cons (ps_cut (ps_if (PW.pt (pw_and (pt_cmpR op_eq (pv 4) pe_int (nomark _)) (pw_and1 (pt_cmpR op_lt (pe_callB call_len_seq (by rfl) T.len_ (by decide +kernel) (pa_cons (pv 7) pa_nil)) pe_int (nomark _))))) (pss_one (ps_set (i := 7) sc_law_net.nd rfl (by first | exact Or.inl rfl | exact Or.inr rfl) (pe_def D_law_order (hr.mono (by first | decide | omega)) (by rfl) (pa_cons (pv 0) (pa_cons (pv 3) pa_nil))))) pss_nil))
      (pss_cons (ps_cut (ps_if (PW.pt (pw_and (pt_cmpR op_eq (pv 4) pe_int (nomark _)) (pw_and1 (pt_cmpR op_gt (pv 8) pe_int (nomark _))))) (pss_one (ps_par (i := 9) (j := 10) (by rfl) sc_law_net.nd rfl rfl (by decide) rfl rfl (pa_cons (pe_ix ix_tup (pe_ix ix_list (pv 6) pe_int (fun _ _ => rfl)) pe_int (fun _ _ => rfl)) (pa_cons (pe_op op_sub (pe_ix ix_tup (pe_ix ix_list (pv 6) pe_int (fun _ _ => rfl)) pe_int (fun _ _ => rfl)) (pe_ix ix_tup (pe_ix ix_list (pv 6) pe_int (fun _ _ => rfl)) pe_int (fun _ _ => rfl))) pa_nil)) (by rfl))) pss_nil))
      (pss_cons (ps_set (i := 11) sc_law_net.nd rfl (by first | exact Or.inl rfl | exact Or.inr rfl) (pe_op op_mod (pe_op op_add (pv 9) (pv 10)) (pv 3)))
      (pss_cons (ps_cut (ps_if (pt_cmpR op_eq (pv 4) pe_int (nomark _)) (pss_cons (ps_set (i := 9) sc_law_net.nd rfl (by first | exact Or.inl rfl | exact Or.inr rfl) (pe_bm0 PySem.F.plainAttrs_list PySem.F.slot_list_pop PySem.F.type_list_pop mt_pop (pv 7)))
      (pss_one (ps_set (i := 11) sc_law_net.nd rfl (by first | exact Or.inl rfl | exact Or.inr rfl) (pe_bm0 PySem.F.plainAttrs_list PySem.F.slot_list_pop PySem.F.type_list_pop mt_pop (pv 7))))) pss_nil))
      (pss_one (ps_expr (pe_bm PySem.F.plainAttrs_list PySem.F.slot_list_append PySem.F.type_list_append mt_append (pv 6) (pa_cons (pe_tup (pa_cons (pv 9) (pa_cons (pv 11) pa_nil))) pa_nil)))))))))))))
      (pss_cons (ps_set (i := 12) sc_law_net.nd rfl (by first | exact Or.inl rfl | exact Or.inr rfl) (pe_callTy (call_tup_rng rfl) (by rfl) T.tuple_ (by decide +kernel) (pa_cons (pe_callTy call_rng1 (by rfl) T.range_ (by decide +kernel) (pa_cons (pv 3) pa_nil)) pa_nil)))
      (pss_cons (ps_cut (ps_if (pt_cmpR op_eq (pe_def D_law_pick (hr.mono (by first | decide | omega)) (by rfl) (pa_cons (pv 0) (pa_cons pe_int pa_nil))) pe_int (nomark _)) (pss_one (ps_set (i := 12) sc_law_net.nd rfl (by first | exact Or.inl rfl | exact Or.inr rfl) (pe_callTy call_tuple_of (by rfl) T.tuple_ (by decide +kernel) (pa_cons (pe_def D_law_order (hr.mono (by first | decide | omega)) (by rfl) (pa_cons (pv 0) (pa_cons (pv 3) pa_nil))) pa_nil)))) pss_nil))
      (pss_one (ps_ret (pe_tup (pa_cons (pv 3) (pa_cons (pe_callTy call_tuple_of (by rfl) T.tuple_ (by decide +kernel) (pa_cons (pv 6) pa_nil)) (pa_cons (pv 12) pa_nil)))))))))))))), ?_⟩
    -- width, form, many
    refine ⟨_, rfl, _, rfl, j, c, _, rfl, J, by omega, by omega, fun f1 H1 f1a f1b J1 kp1 => ⟨_, _, rfl, rfl, ?_⟩⟩
    obtain ⟨wn, rfl⟩ : ∃ wn : Nat, f1 = (wn : Int) := ⟨f1.toNat, by omega⟩
    refine ⟨_, rfl, j, c, _, rfl, J1, by decide, by decide, fun f2 H2 f2a f2b J2 kp2 => ?_⟩
    refine ⟨_, rfl, _, rfl, _, _, rfl, rfl, j, c, _, rfl, J2, by omega, by omega, fun f3 H3 f3a f3b J3 kp3 => ?_⟩
    refine ⟨_, rfl, _, _, rfl, rfl, .inr ⟨_, rfl, _, _, rfl, rfl, .inr ⟨by split <;> decide, by split <;> decide⟩, ?_⟩⟩
    -- switches = [], left = []
    refine ⟨Nat.zero_le _, fun S hS => ⟨Nat.zero_le _, fun L hL => ?_⟩⟩
    have nSL : S ≠ L := ne_of_none (upd_same (o := .lst [])) hL
    have kpa : Kp j c H H3 := (kp1.trans kp2).trans kp3
    have hS0 : H S = none := kpa.free J3 hS
    have hL3 : H3 L = none := (same_upd hS).free hL
    have hL0 : H L = none := kpa.free J3 hL3
    have sm : Same H3 (upd (upd H3 S (.lst [])) L (.lst [])) := (same_upd hS).trans (same_upd hL)
    have N0 : NetSt H j c S (1 + wn) L [] [] [] (upd (upd H3 S (.lst [])) L (.lst [])) :=
      ⟨by rw [upd_ne nSL]; exact upd_same, ⟨rfl, fun i a p h => by simp at h⟩, fun p h => by simp at h, upd_same, List.nodup_nil, fun x h => by simp at h, J3.same sm, kpa.trans (Same.kp sm), nSL, hS0, hL0⟩
    generalize upd (upd H3 S (.lst [])) L (.lst []) = H4 at N0 ⊢
    dsimp only
    generalize hm : (f3 * if decide (1 < 1 + (wn : Int)) = true then 1 else 0) = m
    have m0 : 0 ≤ m ∧ m ≤ mo ∧ (0 < m → 1 ≤ wn) := by
      rw [← hm]; split
      · rename_i h
        have := of_decide_eq_true h
        omega
      · omega
    refine ⟨_, rfl, m, rfl, by omega, by omega, ?_⟩
    refine for_range (lo := 0) (n := m.toNat) (fun i σ H1 => ∃ (Lf : Addr) (lf : List Nat) (as : List Addr) (sw : List (Nat × Nat)) (x8 x9 x10 x11 : Option V), σ = [some (.ref j), some (nV wd), some (nV mo), some (.int (1 + (wn : Int))), some (.int f2), some (.int m), some (.ref S), some (.ref Lf), x8, x9, x10, x11, none] ∧
      NetSt H j c S (1 + wn) Lf lf as sw H1 ∧ sw.length = i) ⟨L, [], [], [], _, _, _, _, rfl, N0, rfl⟩ ?_ ?_
    · rintro i σ H5 hi ⟨Lf, lf, as, sw, x8, x9, x10, x11, rfl, N5, hlen⟩
      have wn1 : 1 ≤ wn := m0.2.2 (by omega)
      -- a, step
      refine ⟨_, rfl, _, rfl, j, c, _, rfl, N5.J, by omega, by omega, fun a H6 a0 a1 J6 kp6 => ?_⟩
      have N6 := N5.pick J kp6 J6
      refine ⟨_, rfl, _, rfl, _, _, rfl, rfl, j, c, _, rfl, J6, by omega, by omega, fun st H7 st0 st1 J7 kp7 => ⟨_, _, rfl, rfl, ?_⟩⟩
      have N7 := N6.pick J kp7 J7
      -- if form == 1
      refine ⟨fun σ H' => ∃ st' : Int, 1 ≤ st' ∧ st' ≤ wn ∧ H7 = H' ∧ σ = [some (.ref j), some (nV wd), some (nV mo), some (.int (1 + (wn : Int))), some (.int f2), some (.int m), some (.ref S), some (.ref Lf), some (.int (0 + (i : Int))), some (.int a), some (.int st'), x11, none], ?_, ?_⟩
      · refine ⟨_, rfl, rfl, _, rfl, ite2 (fun _ => ⟨1, by omega, by omega, rfl, rfl⟩) (fun _ => ⟨1 + st, by omega, by omega, rfl, rfl⟩)⟩
      rintro _ _ ⟨st', s1, s2, rfl, rfl⟩
      -- if form == 2
      refine ⟨fun σ H'' => ∃ a' : Int, 0 ≤ a' ∧ a' ≤ wn ∧ H7 = H'' ∧ σ = [some (.ref j), some (nV wd), some (nV mo), some (.int (1 + (wn : Int))), some (.int f2), some (.int m), some (.ref S), some (.ref Lf), some (.int (0 + (i : Int))), some (.int a'), some (.int st'), x11, none], ?_, ?_⟩
      · refine ⟨_, rfl, rfl, _, rfl, ite2 (fun _ => ⟨0, by omega, by omega, rfl, rfl⟩) (fun _ => ⟨a, by omega, by omega, rfl, rfl⟩)⟩
      rintro _ _ ⟨a', a2, a3, rfl, rfl⟩
      -- if form == 3 and len(left) < 2
      refine ⟨fun σ H'' => ∃ (Lg : Addr) (lg : List Nat), NetSt H j c S (1 + wn) Lg lg as sw H'' ∧ (f2 = 3 → 2 ≤ lg.length) ∧ σ = [some (.ref j), some (nV wd), some (nV mo), some (.int (1 + (wn : Int))), some (.int f2), some (.int m), some (.ref S), some (.ref Lg), some (.int (0 + (i : Int))), some (.int a'), some (.int st'), x11, none], ?_, ?_⟩
      · refine ⟨_, rfl, rfl, _, rfl, ite2 (fun e3 => ?_) (fun e3 => ?_)⟩
        · refine ⟨_, rfl, Lf, _, rfl, .inl (SqL.of N7.hL), _, _, rfl, rfl, _, rfl, ite2 (fun e2 => ?_) (fun e2 => ?_)⟩
          · refine ⟨_, rfl, _, rfl, j, c, 1 + wn, rfl, J7, by omega, fun Lg lg H8 h8 hg pm J8 kp8 => ?_⟩
            have N8 := N7.pick J kp8 J8
            have q := perm_lt pm
            exact ⟨Lg, lg, N8.left hg q.1 q.2 (ne_of_none N7.hS h8) (N7.kp.free J7 h8), fun _ => by rw [pm.length_eq, List.length_range]; omega, rfl⟩
          · refine ⟨Lf, lf, N7, fun _ => ?_, rfl⟩
            have : ¬ ((lf.map nV).length : Int) < 2 := fun z => e2 (decide_eq_true z)
            rw [List.length_map] at this
            omega
        · exact ⟨Lf, lf, N7, fun z => absurd z (dec_ne e3), rfl⟩
      rintro _ H8 ⟨Lg, lg, N8, hlg, rfl⟩
      -- if form == 4 and k > 0
      refine ⟨fun σ H'' => ∃ a'' st'' : Int, 0 ≤ a'' ∧ a'' ≤ wn ∧ (a'' + st'') % (1 + (wn : Int)) ≠ a'' ∧ H8 = H'' ∧ σ = [some (.ref j), some (nV wd), some (nV mo), some (.int (1 + (wn : Int))), some (.int f2), some (.int m), some (.ref S), some (.ref Lg), some (.int (0 + (i : Int))), some (.int a''), some (.int st''), x11, none], ?_, ?_⟩
      · have plain : (a' + st') % (1 + (wn : Int)) ≠ a' := by
          by_cases hlt : a' + st' < 1 + (wn : Int)
          · rw [Int.emod_eq_of_lt (by omega) hlt]; omega
          · rw [← Int.sub_emod_right, Int.emod_eq_of_lt (by omega) (by omega)]; omega
        refine ⟨_, rfl, rfl, _, rfl, ite2 (fun e4 => ?_) (fun e4 => ⟨a', st', a2, a3, plain, rfl, rfl⟩)⟩
        refine ⟨_, rfl, _, _, rfl, rfl, _, rfl, ite2 (fun e5 => ?_) (fun e5 => ⟨a', st', a2, a3, plain, rfl, rfl⟩)⟩
        have i0 : 0 < i := by have := of_decide_eq_true e5; omega
        have hs0 : 0 < sw.length := by omega
        have ha0 : 0 < as.length := by rw [N8.hP.1]; omega
        obtain ⟨p, hp⟩ : ∃ p, sw[0]? = some p := ⟨sw[0], by simp [hs0]⟩
        obtain ⟨b, hb⟩ : ∃ b, as[0]? = some b := ⟨as[0], by simp [ha0]⟩
        have hpb := N8.hP.2 0 b p hb hp
        have hv := N8.val p (List.mem_of_getElem? hp)
        have hbV : (as.map V.ref)[0]? = some (V.ref b) := by rw [List.getElem?_map, hb]; rfl
        have g0 : atI ([nV p.1, nV p.2] : List V) 0 = some (nV p.1) := rfl
        have g1 : atI ([nV p.1, nV p.2] : List V) 1 = some (nV p.2) := rfl
        refine ⟨_, rfl, S, _, _, _, rfl, rfl, SqL.of N8.hS, at_of (j := 0) rfl hbV, b, _, _, _, rfl, rfl, SqT.of hpb, g0, _, rfl, S, _, _, _, rfl, rfl, SqL.of N8.hS, at_of (j := 0) rfl hbV, b, _, _, _, rfl, rfl, SqT.of hpb, g1, _, rfl, S, _, _, _, rfl, rfl, SqL.of N8.hS, at_of (j := 0) rfl hbV, b, _, _, _, rfl, rfl, SqT.of hpb, g0, _, _, rfl, rfl, _, _, rfl, (p.1 : Int), (p.2 : Int) - (p.1 : Int), by omega, by omega, ?_, rfl, rfl⟩
        have e : (p.1 : Int) + ((p.2 : Int) - (p.1 : Int)) = (p.2 : Int) := by omega
        rw [e, Int.emod_eq_of_lt (by omega) (by omega)]
        omega
      rintro _ _ ⟨a'', st'', c1, c2, c3, rfl, rfl⟩
      -- b
      refine ⟨_, rfl, _, rfl, _, _, rfl, rfl, _, rfl, _, _, rfl, rfl, (by show (0 : Int) < 1 + (wn : Int); omega), ?_⟩
      -- if form == 3
      refine ⟨fun σ H'' => ∃ (x y : Nat) (lh : List Nat), x < 1 + wn ∧ y < 1 + wn ∧ x ≠ y ∧ NetSt H j c S (1 + wn) Lg lh as sw H'' ∧ ∃ x10 : Option V, σ = [some (.ref j), some (nV wd), some (nV mo), some (.int (1 + (wn : Int))), some (.int f2), some (.int m), some (.ref S), some (.ref Lg), some (.int (0 + (i : Int))), some (nV x), x10, some (nV y), none], ?_, ?_⟩
      · refine ⟨_, rfl, rfl, _, rfl, ite2 (fun e3 => ?_) (fun e3 => ?_)⟩
        · obtain ⟨l0, y, x, rfl⟩ := two_last (hlg (dec_eq e3))
          have d1 : (l0 ++ [y] ++ [x]).dropLast = l0 ++ [y] := List.dropLast_concat
          have d2 : (l0 ++ [y]).dropLast = l0 := List.dropLast_concat
          have N9 := N8.pop J
          rw [d1] at N9
          have N10 := N9.pop J
          rw [d2] at N10
          refine ⟨_, rfl, .inl ⟨rfl, _, SqL.of N8.hL⟩, Lg, _, nV x, rfl, rfl, N8.hL, by simp, ?_⟩
          refine ⟨_, rfl, .inl ⟨rfl, _, SqL.of N9.hL⟩, Lg, _, nV y, rfl, rfl, N9.hL, by simp, ?_⟩
          refine ⟨x, y, l0, N8.lt x (by simp), N8.lt y (by simp), ?_, N10, some (.int st''), rfl⟩
          have nd := N8.nd
          rw [List.nodup_append] at nd
          exact fun e => nd.2.2 y (by simp) x (by simp) e.symm
        · have b0 := Int.emod_nonneg (a'' + st'') (show (1 + (wn : Int)) ≠ 0 by omega)
          have b1 := Int.emod_lt_of_pos (a'' + st'') (show 0 < (1 + (wn : Int)) by omega)
          refine ⟨a''.toNat, ((a'' + st'') % (1 + (wn : Int))).toNat, lg, by omega, by omega, by omega, N8, some (.int st''), ?_⟩
          have ea : nV a''.toNat = V.int a'' := congrArg V.int (by omega)
          have eb : nV ((a'' + st'') % (1 + (wn : Int))).toNat = V.int ((a'' + st'') % (1 + (wn : Int))) := congrArg V.int (by omega)
          rw [ea, eb]; rfl
      rintro _ H9 ⟨x, y, lh, hx, hy, hxy, N9, x10', rfl⟩
      -- switches.append((a, b))
      refine ⟨_, rfl, .inl ⟨rfl, _, SqL.of N9.hS⟩, _, rfl, _, rfl, (by show 2 ≤ sizeLine; decide), fun q hq => ⟨S, _, _, rfl, rfl, (by rw [upd_ne (ne_of_none N9.hS hq)]; exact N9.hS), small1000 (by rw [List.length_map, N9.hP.1]; omega), ?_⟩⟩
      exact ⟨Lg, lh, as ++ [q], sw ++ [(x, y)], _, _, _, _, rfl, N9.more J hq ⟨hx, hy, hxy⟩, by rw [List.length_append, hlen]; rfl⟩
    · rintro σ H5 ⟨Lf, lf, as, sw, x8, x9, x10, x11, rfl, N5, hlen⟩
      have hlm : sw.length ≤ mo := by omega
      -- order = tuple(range(width))
      refine ⟨_, rfl, _, rfl, fun p hp => ⟨p, _, rfl, upd_same, by omega, by omega, fun q hq => ?_⟩⟩
      have sm : Same H5 (upd (upd H5 p (.rng 0 (1 + (wn : Int)))) q (.tup (upto (1 + (wn : Int)).toNat))) := (same_upd hp).trans (same_upd hq)
      have hq1 : upd (upd H5 p (.rng 0 (1 + (wn : Int)))) q (.tup (upto (1 + (wn : Int)).toNat)) q = some (.tup ((List.range (1 + wn)).map nV)) := by
        rw [upd_same, show (1 + (wn : Int)).toNat = 1 + wn by omega]; rfl
      have N6 := N5.pick J (Same.kp sm) (N5.J.same sm)
      generalize upd (upd H5 p (.rng 0 (1 + (wn : Int)))) q (.tup (upto (1 + (wn : Int)).toNat)) = H6 at N6 hq1 ⊢
      refine ⟨fun σ H'' => ∃ (po : Addr) (ord : List Nat), NetSt H j c S (1 + wn) Lf lf as sw H'' ∧ H'' po = some (.tup (ord.map nV)) ∧ ord.Perm (List.range (1 + wn)) ∧ σ = [some (.ref j), some (nV wd), some (nV mo), some (.int (1 + (wn : Int))), some (.int f2), some (.int m), some (.ref S), some (.ref Lf), x8, x9, x10, x11, some (.ref po)], ?_, ?_⟩
      · refine ⟨_, rfl, j, c, _, rfl, N6.J, by decide, by decide, fun z H7 z0 z1 J7 kp7 => ⟨rfl, _, rfl, ?_⟩⟩
        have N7 := N6.pick J kp7 J7
        refine ite2 (fun _ => ?_) (fun _ => ⟨q, _, N7, kp7.tk N6.J _ _ hq1, List.Perm.refl _, rfl⟩)
        refine ⟨_, rfl, _, rfl, j, c, 1 + wn, rfl, J7, by omega, fun l xs H8 h8 hl pm J8 kp8 => ⟨l, _, rfl, .inl ⟨SqL.of hl, fun r hr => ?_⟩⟩⟩
        have N8 := N7.pick J kp8 J8
        have N9 := N8.pick J (Same.kp (same_upd (o := .tup (xs.map nV)) hr)) (N8.J.same (same_upd hr))
        exact ⟨r, xs, N9, upd_same, pm, rfl⟩
      rintro _ H7 ⟨po, ord, N7, hpo, pm, rfl⟩
      refine ⟨_, rfl, _, rfl, S, _, rfl, .inl ⟨SqL.of N7.hS, fun ps hps => ⟨_, rfl, (by show 3 ≤ sizeLine; decide), fun pp hpp => ?_⟩⟩⟩
      have t1 : Same H7 (upd (upd H7 ps (.tup (as.map V.ref))) pp (.tup [.int (1 + (wn : Int)), .ref ps, .ref po])) := (same_upd hps).trans (same_upd hpp)
      refine k pp ⟨1 + wn, sw, ord⟩ _ ⟨by show 1 ≤ 1 + wn; omega, by show 1 + wn ≤ 16; omega, N7.val, pm⟩ (by show 1 + wn ≤ wd; omega) hlm ⟨ps, po, as, upd_same, ?_, N7.hP.tk (tk_same t1), t1 _ _ hpo⟩ (N7.J.same t1) (N7.kp.trans (Same.kp t1))
      exact (same_upd hpp) _ _ upd_same
end
end L3
set_option Elab.async false
set_option linter.all false
set_option maxRecDepth 100000
namespace L3
open PySem PySem.Spec PyProof.Rows L2
section
variable {K : PySem.W.Frag}
theorem kit_bb : PySem.W.kitOne K (.type "bool") (.type "bool") = some true := rfl
theorem kit_ib : PySem.W.kitOne K (.type "int") (.type "bool") = some false := by rfl
theorem kit_ii : PySem.W.kitOne K (.type "int") (.type "int") = some true := by rfl
theorem kit_sb : PySem.W.kitOne K (.type "str") (.type "bool") = some false := by rfl
theorem kit_si : PySem.W.kitOne K (.type "str") (.type "int") = some false := by rfl
theorem kit_ss : PySem.W.kitOne K (.type "str") (.type "str") = some true := by rfl
theorem kit_tb : PySem.W.kitOne K (.type "tuple") (.type "bool") = some false := by rfl
theorem kit_ti : PySem.W.kitOne K (.type "tuple") (.type "int") = some false := by rfl
theorem kit_ts : PySem.W.kitOne K (.type "tuple") (.type "str") = some false := by rfl
theorem kit_tt : PySem.W.kitOne K (.type "tuple") (.type "tuple") = some true := by rfl
theorem kit_tl : PySem.W.kitOne K (.type "tuple") (.type "list") = some false := by rfl
theorem kit_lb : PySem.W.kitOne K (.type "list") (.type "bool") = some false := by rfl
theorem kit_li : PySem.W.kitOne K (.type "list") (.type "int") = some false := by rfl
theorem kit_ls : PySem.W.kitOne K (.type "list") (.type "str") = some false := by rfl
theorem kit_lt : PySem.W.kitOne K (.type "list") (.type "tuple") = some false := by rfl
theorem kit_ll : PySem.W.kitOne K (.type "list") (.type "list") = some true := by rfl
end
def sq : Bool → List V → HO
  | true, xs => .tup xs
  | false, xs => .lst xs
inductive Flat : V → Prop where
  | int (i : Int) : Flat (.int i)
  | bl (b : Bool) : Flat (.bl b)
  | str (x : Str) : Flat (.str x)
  | non : Flat .non
/-- the same data, of a depth below n -/
def EqS : Nat → Hp → V → V → Prop
  | 0, _, _, _ => False
  | n + 1, H, x, y => (x = y ∧ Flat x) ∨ ∃ (t : Bool) (a b : Addr) (xs ys : List V), x = .ref a ∧ y = .ref b ∧ H a = some (sq t xs) ∧ H b = some (sq t ys) ∧ xs.length = ys.length ∧ xs.length ≤ 1000 ∧
      ∀ (i : Nat) (u v : V), xs[i]? = some u → ys[i]? = some v → EqS n H u v
theorem sqx_of {K : PySem.W.Frag} {H : Hp} {t : Bool} {a : Addr} {xs : List V} (h : H a = some (sq t xs)) : SqX t K H a xs := by
  cases t
  · exact SqL.of h
  · exact SqT.of h
theorem EqS.same {H H' : Hp} (s : Same H H') : ∀ {n : Nat} {x y : V}, EqS n H x y → EqS n H' x y
  | 0, _, _, h => h
  | n + 1, x, y, h => by
    rcases h with h | ⟨t, a, b, xs, ys, e1, e2, h1, h2, h3, h4, h5⟩
    · exact .inl h
    · exact .inr ⟨t, a, b, xs, ys, e1, e2, s _ _ h1, s _ _ h2, h3, h4, fun i u v hu hv => EqS.same s (h5 i u v hu hv)⟩
section
variable {P : Program} {w : World} {K : PySem.W.Frag} {mg : Str → Option Value} {base : Heap}
def spSame (n : Nat) : Sp := fun vs H Q _ => ∃ (x y : V), vs = [x, y] ∧ EqS n H x y ∧ ∀ H', Same H H' → Q (.bl true) H'
abbrev s_law_same : Stmt := top 23
theorem sc_law_same : FnScope ["found", "due", "one", "other"] ["found", "due"] (defScope s_law_same) := ⟨rfl, rfl, rfl, by decide +kernel, rfl, by decide +kernel, by decide +kernel⟩
theorem reps (i : Nat) : (List.replicate i true).all id = true := by
  induction i with
  | zero => rfl
  | succ i ih => rw [List.replicate_succ]; exact ih
set_option maxHeartbeats 1000000 in
theorem ok_law_same {f : Addr} {fd : FuncData} (F : Fun K "_law_same" "_law_same" s_law_same f fd) (T : Tn mg) (hm : mg "_law_same" = some (.ref f)) (hb : Binds K fd ["found", "due"] []) : ∀ n : Nat, FnOk P w K mg base CX0 n f fd ["found", "due"] (spSame n)
  | 0 => ⟨fun vs H Q E h => by obtain ⟨x, y, rfl, _⟩ := h; rfl, fun A outer s H args us vs Q E hr e0 hbd hv h => by obtain ⟨x, y, _, h, _⟩ := h; exact False.elim h⟩
  | n + 1 => by
    have D_law_same : Def P w K mg base "_law_same" n ["found", "due"] (spSame n) := ⟨f, fd, ok_law_same F T hm hb n, hm, F.kp, hb⟩
    refine F.ok sc_law_same (fun vs H Q E h => ?_) (fun cdv A outer s H vs Q E hr h => ?_)
    · obtain ⟨x, y, rfl, _⟩ := h
      rfl
    · obtain ⟨x, y, rfl, e, k⟩ := h
      refine ⟨_, (pss_cons (ps_if (pt_cmpR op_isN (pv 1) pe_non (nomark _)) (pss_one (ps_ret (pe_cmpR op_isN (pv 0) pe_non (nomark _)))) pss_nil)
      (pss_cons (ps_if (pt_val (pe_callB call_isi (by rfl) T.isinstance_ (by decide +kernel) (pa_cons (pv 1) (pa_cons (pe_bltn (v := V.ty "bool") (by rfl) T.bool_ (by decide +kernel) rfl) pa_nil)))) (pss_one (ps_ret (pe_and (pe_callB call_isi (by rfl) T.isinstance_ (by decide +kernel) (pa_cons (pv 0) (pa_cons (pe_bltn (v := V.ty "bool") (by rfl) T.bool_ (by decide +kernel) rfl) pa_nil))) (pe_one (pe_cmpR op_eq (pv 0) (pv 1) (nomark _)))))) pss_nil)
      (pss_cons (ps_if (pt_val (pe_callB call_isi (by rfl) T.isinstance_ (by decide +kernel) (pa_cons (pv 1) (pa_cons (pe_bltn (v := V.ty "int") (by rfl) T.int_ (by decide +kernel) rfl) pa_nil)))) (pss_one (ps_ret (pe_and (pe_callB call_isi (by rfl) T.isinstance_ (by decide +kernel) (pa_cons (pv 0) (pa_cons (pe_bltn (v := V.ty "int") (by rfl) T.int_ (by decide +kernel) rfl) pa_nil))) (pe_and (pe_not (pe_callB call_isi (by rfl) T.isinstance_ (by decide +kernel) (pa_cons (pv 0) (pa_cons (pe_bltn (v := V.ty "bool") (by rfl) T.bool_ (by decide +kernel) rfl) pa_nil)))) (pe_one (pe_cmpR op_eq (pv 0) (pv 1) (nomark _))))))) pss_nil)
      (pss_cons (ps_if (pt_val (pe_callB call_isi (by rfl) T.isinstance_ (by decide +kernel) (pa_cons (pv 1) (pa_cons (pe_bltn (v := V.ty "str") (by rfl) T.str_ (by decide +kernel) rfl) pa_nil)))) (pss_one (ps_ret (pe_and (pe_callB call_isi (by rfl) T.isinstance_ (by decide +kernel) (pa_cons (pv 0) (pa_cons (pe_bltn (v := V.ty "str") (by rfl) T.str_ (by decide +kernel) rfl) pa_nil))) (pe_one (pe_cmpR op_eq (pv 0) (pv 1) (nomark _)))))) pss_nil)
      (pss_cons (ps_if (PW.pt (pw_or (pt_cmpR op_ne (pe_callB call_isi (by rfl) T.isinstance_ (by decide +kernel) (pa_cons (pv 1) (pa_cons (pe_bltn (v := V.ty "tuple") (by rfl) T.tuple_ (by decide +kernel) rfl) pa_nil))) (pe_callB call_isi (by rfl) T.isinstance_ (by decide +kernel) (pa_cons (pv 0) (pa_cons (pe_bltn (v := V.ty "tuple") (by rfl) T.tuple_ (by decide +kernel) rfl) pa_nil))) (nomark _)) (pw_or1 (pt_cmpR op_ne (pe_callB call_isi (by rfl) T.isinstance_ (by decide +kernel) (pa_cons (pv 1) (pa_cons (pe_bltn (v := V.ty "list") (by rfl) T.list_ (by decide +kernel) rfl) pa_nil))) (pe_callB call_isi (by rfl) T.isinstance_ (by decide +kernel) (pa_cons (pv 0) (pa_cons (pe_bltn (v := V.ty "list") (by rfl) T.list_ (by decide +kernel) rfl) pa_nil))) (nomark _))))) (pss_one (ps_ret pe_bl)) pss_nil)
      (pss_cons (ps_if (pt_cmpR op_ne (pe_callB call_len_seq (by rfl) T.len_ (by decide +kernel) (pa_cons (pv 0) pa_nil)) (pe_callB call_len_seq (by rfl) T.len_ (by decide +kernel) (pa_cons (pv 1) pa_nil)) (nomark _)) (pss_one (ps_ret pe_bl)) pss_nil)
      (pss_one (ps_ret (pe_callB (cr_all rfl) (by rfl) T.all_ (by decide +kernel) (pa_cons (pe_lc (own := [("one", 2), ("other", 3)]) (g := (gTup K 2 (gCons (gName 2) (gCons (gName 3) gNil)))) (by rfl) sc_law_same.nd (pi_zipX (by rfl) T.zip_ (pa_cons (pv 0) (pa_cons (pv 1) pa_nil))) (blkOk_by (own := [("one", 2), ("other", 3)]) (N := ["found", "due", "one", "other"]) (sc := defScope s_law_same) (by decide +kernel)) (fun _ _ _ _ _ => (pg_tup' (n := 2) (K := K) rfl rfl (pgs_cons (pg_name (i := 2) sc_law_same.nd rfl (by first | exact Or.inl rfl | exact Or.inr rfl)) (pgs_cons (pg_name (i := 3) sc_law_same.nd rfl (by first | exact Or.inl rfl | exact Or.inr rfl)) pgs_nil)))) (fun _ _ _ _ _ => pts_nil) (fun _ _ _ _ _ => (pe_def D_law_same (hr.mono (by first | decide | omega)) (by rfl) (pa_cons (pv 2) (pa_cons (pv 3) pa_nil))))) pa_nil)))))))))), ?_⟩
      rcases e with ⟨rfl, fl⟩ | ⟨t, a, b, xs, ys, rfl, rfl, ha, hb', hl, hl2, hi⟩
      · cases fl with
        | non => exact ⟨_, rfl, rfl, _, rfl, iteA rfl ⟨_, rfl, rfl, k _ (Same.refl _)⟩⟩
        | bl c =>
          refine ⟨_, rfl, rfl, _, rfl, iteB rfl ?_⟩
          refine ⟨_, rfl, _, _, _, _, rfl, .bl c, kit_bb, _, rfl, iteA rfl ?_⟩
          refine ⟨_, rfl, _, _, _, _, rfl, .bl c, kit_bb, _, rfl, iteA rfl ⟨_, rfl, _, rfl, rfl, ?_⟩⟩
          rw [decide_eq_true (rfl : V.bl c = V.bl c)]
          exact k _ (Same.refl _)
        | int i =>
          refine ⟨_, rfl, rfl, _, rfl, iteB rfl ?_⟩
          refine ⟨_, rfl, _, _, _, _, rfl, .int i, kit_ib, _, rfl, iteB rfl ?_⟩
          refine ⟨_, rfl, _, _, _, _, rfl, .int i, kit_ii, _, rfl, iteA rfl ?_⟩
          refine ⟨_, rfl, _, _, _, _, rfl, .int i, kit_ii, _, rfl, iteA rfl ⟨_, rfl, _, _, _, _, rfl, .int i, kit_ib, _, rfl, _, rfl, iteA rfl ⟨_, rfl, _, rfl, rfl, ?_⟩⟩⟩
          rw [decide_eq_true (rfl : V.int i = V.int i)]
          exact k _ (Same.refl _)
        | str z =>
          refine ⟨_, rfl, rfl, _, rfl, iteB rfl ?_⟩
          refine ⟨_, rfl, _, _, _, _, rfl, .str z, kit_sb, _, rfl, iteB rfl ?_⟩
          refine ⟨_, rfl, _, _, _, _, rfl, .str z, kit_si, _, rfl, iteB rfl ?_⟩
          refine ⟨_, rfl, _, _, _, _, rfl, .str z, kit_ss, _, rfl, iteA rfl ?_⟩
          refine ⟨_, rfl, _, _, _, _, rfl, .str z, kit_ss, _, rfl, iteA rfl ⟨_, rfl, _, rfl, rfl, ?_⟩⟩
          rw [decide_eq_true (rfl : V.str z = V.str z)]
          exact k _ (Same.refl _)
      · have el : (!decide (V.int (xs.length : Int) = V.int (ys.length : Int))) = false := by rw [hl]; simp
        -- the items, at the end of both ways
        have fin : ∀ (H1 : Hp) (D : Addr), H = H1 → H1 D = none → ∃ W : Nat → Nat → Hp → Prop, (∃ m, W 0 m (upd H1 D (.lst []))) ∧ ∀ i m H2, W i m H2 →
            ((ItzX t t K a b xs ys).stop i H2 ∧ (∃ (a : Addr) (bs : List Bool), [V.ref D] = [V.ref a] ∧ SqL K H2 a (bs.map V.bl) ∧ Q (.bl (bs.all id)) H2)) ∨ ((ItzX t t K a b xs ys).go i H2 ∧ ∃ Nx : Hp → Prop, (∀ H', Nx H' → ∃ m', m' < m ∧ W (i + 1) m' H') ∧ ∀ x H', (ItzX t t K a b xs ys).yld i H2 x H' →
              gTup K 2 (gCons (gName 2) (gCons (gName 3) gNil)) x (wipe [some (.ref a), some (.ref b), none, none] [2, 3]) H' fun σ2 H2 => wipe σ2 [2, 3] = wipe [some (.ref a), some (.ref b), none, none] [2, 3] ∧ tYes σ2 H2 fun b H3 =>
              if b = true then tCall (spSame n) [] E0 (tCons (tVar 2) (tCons (tVar 3) tNil)) σ2 H3 fun y H4 => ∃ acc, H4 D = some (.lst acc) ∧ acc.length < sizeLine ∧ Nx (upd H4 D (.lst (acc ++ [y]))) else Nx H3) := by
          rintro _ D rfl hD
          refine lc_zipX xs.length (by omega) (fun i H2 => Same H H2 ∧ H2 D = some (.lst ((List.replicate i true).map V.bl)) ∧ i ≤ 1000) ⟨same_upd hD, upd_same, Nat.zero_le _⟩ (fun i H2 _ hp => ⟨sqx_of (hp.1 _ _ ha), sqx_of (hp.1 _ _ hb')⟩) ?_ ?_
          · rintro i u v T' H2 hu hv hT ⟨sm, hD2, _⟩
            have hi2 : i < xs.length := (List.getElem?_eq_some_iff.mp hu).1
            refine ⟨T', _, rfl, SqT.of upd_same, rfl, _, _, rfl, _, _, rfl, rfl, rfl, ?_⟩
            refine ⟨_, rfl, _, rfl, u, v, rfl, (hi i u v hu hv).same (sm.trans (same_upd hT)), fun H3 s3 => ?_⟩
            have nDT : D ≠ T' := ne_of_none hD2 hT
            have hD3 : H3 D = some (.lst ((List.replicate i true).map V.bl)) := s3 _ _ (by rw [upd_ne nDT]; exact hD2)
            refine ⟨_, hD3, small1000 (by simp; omega), fun c o e => ?_, ?_, by omega⟩
            · rw [upd_ne (ne_of_none e hD)]
              exact s3 _ _ ((same_upd hT) _ _ (sm _ _ e))
            · rw [upd_same, List.replicate_succ', List.map_append]; rfl
          · rintro H2 ⟨sm, hD2, _⟩
            refine ⟨D, _, rfl, SqL.of hD2, ?_⟩
            rw [reps]
            exact k H2 sm
        cases t with
        | true =>
          refine ⟨_, rfl, rfl, _, rfl, iteB rfl ?_⟩
          refine ⟨_, rfl, _, _, _, _, rfl, .tup hb', kit_tb, _, rfl, iteB rfl ?_⟩
          refine ⟨_, rfl, _, _, _, _, rfl, .tup hb', kit_ti, _, rfl, iteB rfl ?_⟩
          refine ⟨_, rfl, _, _, _, _, rfl, .tup hb', kit_ts, _, rfl, iteB rfl ?_⟩
          refine ⟨_, rfl, _, _, _, _, rfl, .tup hb', kit_tt, _, rfl, _, _, _, _, rfl, .tup ha, kit_tt, rfl, _, rfl, iteB rfl ?_⟩
          refine ⟨_, rfl, _, _, _, _, rfl, .tup hb', kit_tl, _, rfl, _, _, _, _, rfl, .tup ha, kit_tl, rfl, _, rfl, iteB rfl ?_⟩
          refine ⟨_, rfl, a, _, rfl, .inr (SqT.of ha), _, rfl, b, _, rfl, .inr (SqT.of hb'), rfl, _, rfl, iteB el ?_⟩
          exact ⟨_, rfl, _, rfl, true, true, a, b, xs, ys, rfl, SqT.of ha, SqT.of hb', fun D hD => fin _ D rfl hD⟩
        | false =>
          refine ⟨_, rfl, rfl, _, rfl, iteB rfl ?_⟩
          refine ⟨_, rfl, _, _, _, _, rfl, .lst hb', kit_lb, _, rfl, iteB rfl ?_⟩
          refine ⟨_, rfl, _, _, _, _, rfl, .lst hb', kit_li, _, rfl, iteB rfl ?_⟩
          refine ⟨_, rfl, _, _, _, _, rfl, .lst hb', kit_ls, _, rfl, iteB rfl ?_⟩
          refine ⟨_, rfl, _, _, _, _, rfl, .lst hb', kit_lt, _, rfl, _, _, _, _, rfl, .lst ha, kit_lt, rfl, _, rfl, iteB rfl ?_⟩
          refine ⟨_, rfl, _, _, _, _, rfl, .lst hb', kit_ll, _, rfl, _, _, _, _, rfl, .lst ha, kit_ll, rfl, _, rfl, iteB rfl ?_⟩
          refine ⟨_, rfl, a, _, rfl, .inl (SqL.of ha), _, rfl, b, _, rfl, .inl (SqL.of hb'), rfl, _, rfl, iteB el ?_⟩
          exact ⟨_, rfl, _, rfl, false, false, a, b, xs, ys, rfl, SqL.of ha, SqL.of hb', fun D hD => fin _ D rfl hD⟩
end
end L3
set_option Elab.async false
set_option linter.all false
set_option maxRecDepth 100000
namespace L3
open PySem PySem.Spec PyProof.Rows L2
section
variable {P : Program} {w : World} {K : PySem.W.Frag} {mg : Str → Option Value} {base : Heap}
/-- the list at L grows, or is written in, beside the jar -/
structure ListSt (H0 : Hp) (j c L : Addr) (cs : List Int) (H1 : Hp) : Prop where
  hL : H1 L = some (.lst (cs.map V.int))
  J : Jar H1 j c
  kp : Kp j c H0 H1
  L0 : H0 L = none
theorem ListSt.pick {H0 H1 H2 : Hp} {j c L : Addr} {cs : List Int} (S : ListSt H0 j c L cs H1) (J0 : Jar H0 j c) (k : Kp j c H1 H2) (J2 : Jar H2 j c) : ListSt H0 j c L cs H2 :=
  ⟨k _ _ S.hL (J0.nej S.L0) (J0.nec S.L0), J2, S.kp.trans k, S.L0⟩
theorem ListSt.put {H0 H1 : Hp} {j c L : Addr} {cs : List Int} (S : ListSt H0 j c L cs H1) (J0 : Jar H0 j c) (ds : List Int) (vs : List V) (e : vs = ds.map V.int) : ListSt H0 j c L ds (upd H1 L (.lst vs)) :=
  ⟨by rw [upd_same, e], S.J.upd (J0.nej S.L0) (J0.nec S.L0), fun b o h b1 b2 => by rw [upd_ne (ne_of_none h S.L0)]; exact S.kp b o h b1 b2, S.L0⟩
end
end L3
set_option Elab.async false
set_option linter.all false
set_option maxRecDepth 100000
namespace L4
open PySem PySem.Spec PyProof.Rows L2 L3
theorem rp_nats {K : PySem.W.Frag} {M : Map} {n : Nat} {H : Hp} : ∀ l : List Nat, RPs K M n H (l.map natP) (l.map nV)
  | [] => .nil
  | x :: l => .cons (.int _) (rp_nats l)
theorem rp_pairs {K : PySem.W.Frag} {M : Map} {n : Nat} {H : Hp} : ∀ {as : List Addr} {sw : List (Nat × Nat)}, PairsAt H as sw → RPs K M n H (sw.map swP) (as.map V.ref)
  | [], [], _ => .nil
  | a :: as, p :: sw, h => .cons (.tup (SqT.of (h.2 0 a p rfl rfl)) (.cons (.int _) (.cons (.int _) .nil))) (rp_pairs ⟨by simpa using h.1, fun i b q hb hq => h.2 (i + 1) b q (by simpa using hb) (by simpa using hq)⟩)
  | [], _ :: _, h => by have := h.1; simp at this
  | _ :: _, [], h => by have := h.1; simp at this
def netP (N : Net) : PV := .tup [natP N.w, .tup (N.sw.map swP), natsP N.ord]
theorem rp_net {K : PySem.W.Frag} {M : Map} {n : Nat} {H : Hp} {p : Addr} {N : Net} (h : NetAt H p N) : RP K M n H (netP N) (.ref p) := by
  obtain ⟨ps, po, as, h1, h2, h3, h4⟩ := h.ex
  exact .tup (SqT.of h1) (.cons (.int _) (.cons (.tup (SqT.of h2) (rp_pairs h3)) (.cons (.tup (SqT.of h4) (rp_nats _)) .nil)))
def wOrder : WC := fun vs S Q => ∃ (j n : Nat), vs = [.ref j, natP n] ∧ S[j]? = some .jar ∧ n ≤ 1000 ∧ ∀ xs : List Nat, xs.Perm (List.range n) → Q (.ref S.length) (S ++ [.lst (xs.map natP)])
theorem mo_order : MoC wOrder := fun xs S Q Q' ⟨j, n, e, h1, h2, q⟩ k => ⟨j, n, e, h1, h2, fun xs h => k _ _ (q xs h)⟩
theorem order_imp {K : PySem.W.Frag} : ∀ vs H Q E, spW Ts K wOrder vs H Q E → spOrder vs H Q E := fun vs H Q E q => by
  obtain ⟨M, S, pvs, s, r, j, n, rfl, hj, h1, q⟩ := q
  obtain ⟨u, v, rfl, r1, r2⟩ := r.two
  cases r1; cases r2
  refine ⟨_, _, n, rfl, s.ob j _ hj, h1, fun l xs H' hl hl' hp J k => ?_⟩
  obtain ⟨s1, t1⟩ := s.jarKp hj J k
  have no := (s.free hl).1
  have s2 : Sim Ts K (M.add S.length l l) (S ++ [.lst (xs.map natP)]) H' := s1.take no no ⟨rfl, _, hl', rp_nats _⟩
  have t2 : Stp Ts K M S.length H (M.add S.length l l) (S ++ [Ob.lst (xs.map natP)]).length H' := by
    rw [List.length_append, List.length_singleton]; exact t1.take hl hl
  refine q xs hp _ _ _ t2 s2 ?_
  have := RP.ref (K := K) (M := M.add S.length l l) (n := (S ++ [Ob.lst (xs.map natP)]).length) (H := H') (i := S.length) (by simp)
  rw [M.add_m] at this
  exact this
def wNet : WC := fun vs S Q => ∃ (j wd mo : Nat), vs = [.ref j, natP wd, natP mo] ∧ S[j]? = some .jar ∧ 1 ≤ wd ∧ wd ≤ 16 ∧ mo ≤ 160 ∧ ∀ N : Net, N.Ok → N.w ≤ wd → N.sw.length ≤ mo → Q (netP N) S
theorem mo_net : MoC wNet := fun xs S Q Q' ⟨j, wd, m, e, h1, h2, h3, h4, q⟩ k => ⟨j, wd, m, e, h1, h2, h3, h4, fun N a b c => k _ _ (q N a b c)⟩
theorem net_imp {K : PySem.W.Frag} : ∀ vs H Q E, spW Ts K wNet vs H Q E → spNet vs H Q E := fun vs H Q E q => by
  obtain ⟨M, S, pvs, s, r, j, wd, m, rfl, hj, h1, h2, h3, q⟩ := q
  cases r with
  | cons r1 rr =>
    obtain ⟨u, v, rfl, r2, r3⟩ := rr.two
    cases r1; cases r2; cases r3
    refine ⟨_, _, wd, m, rfl, s.ob j _ hj, h1, h2, h3, fun p N H' a b c d J k => ?_⟩
    obtain ⟨s1, t1⟩ := s.jarKp hj J k
    exact q N a b c M H' _ t1 s1 (rp_net d)
end L4
set_option Elab.async false
set_option linter.all false
set_option maxRecDepth 100000
namespace L4
open PySem PySem.Spec PyProof.Rows L2 L3
section
variable {P : Program} {w : World} {K : PySem.W.Frag} {mg : Str → Option Value} {base : Heap}
mutual
inductive EqW (S : Sto) : Nat → PV → PV → Prop
  | non {n : Nat} : EqW S (n + 1) .non .non
  | bl {n : Nat} (b : Bool) : EqW S (n + 1) (.bl b) (.bl b)
  | int {n : Nat} (i : Int) : EqW S (n + 1) (.int i) (.int i)
  | str {n : Nat} (x : Str) : EqW S (n + 1) (.str x) (.str x)
  | tup {n : Nat} {xs ys : List PV} : EqWs S n xs ys → xs.length ≤ 100000 → EqW S (n + 1) (.tup xs) (.tup ys)
  | lst {n : Nat} {i j : Nat} {xs ys : List PV} : S[i]? = some (.lst xs) → S[j]? = some (.lst ys) → EqWs S n xs ys → xs.length ≤ 100000 → EqW S (n + 1) (.ref i) (.ref j)
inductive EqWs (S : Sto) : Nat → List PV → List PV → Prop
  | nil {n : Nat} : EqWs S n [] []
  | cons {n : Nat} {x y : PV} {xs ys : List PV} : EqW S n x y → EqWs S n xs ys → EqWs S n (x :: xs) (y :: ys)
end
theorem EqWs.length {S : Sto} {n : Nat} : ∀ {xs ys : List PV}, EqWs S n xs ys → xs.length = ys.length
  | _, _, .nil => rfl
  | _, _, .cons _ t => by rw [List.length_cons, List.length_cons, EqWs.length t]
theorem EqWs.mem {S : Sto} {n : Nat} : ∀ {xs ys : List PV}, EqWs S n xs ys → ∀ p ∈ xs.zip ys, EqW S n p.1 p.2
  | _, _, .nil, p, h => by simp at h
  | _, _, .cons a t, p, h => by
    rw [List.zip_cons_cons] at h
    rcases List.mem_cons.mp h with rfl | h
    · exact a
    · exact EqWs.mem t p h
theorem EqWs.map {α : Type} {S : Sto} {n : Nat} (f : α → PV) : ∀ {l : List α}, (∀ a ∈ l, EqW S n (f a) (f a)) → EqWs S n (l.map f) (l.map f)
  | [], _ => .nil
  | a :: l, h => .cons (h a List.mem_cons_self) (EqWs.map f fun b hb => h b (List.mem_cons_of_mem _ hb))
def wSame (n : Nat) : WC := ctrF (fun p : PV × PV => [p.1, p.2]) (fun p S => EqW S n p.1 p.2) (fun _ => .bl true)
theorem mo_same (n : Nat) : MoC (wSame n) := mo_ctrF
theorem emp_same (pvs : List PV) (S : Sto) (Q : WQ) : ¬ wSame 0 pvs S Q := fun ⟨a, _, h, _⟩ => by cases h
abbrev s_law_same : Stmt := top 23
theorem sc_law_same : FnScope ["found", "due", "one", "other"] ["found", "due"] (defScope s_law_same) := ⟨rfl, rfl, rfl, by decide +kernel, rfl, by decide +kernel, by decide +kernel⟩
set_option maxHeartbeats 1000000 in
theorem ok_law_same {f : Addr} {fd : FuncData} (F : Fun K "_law_same" "_law_same" s_law_same f fd) (T : Tn mg) (hm : mg "_law_same" = some (.ref f)) (hb : Binds K fd ["found", "due"] [])  : ∀ n : Nat, FnOk P w K mg base CX0 (n + 1) f fd ["found", "due"] (spW Ts K (wSame n))
  | 0 => ⟨fun vs H Q E h => by obtain ⟨M, S, pvs, _, _, h⟩ := h; exact absurd h (emp_same _ _ _), fun A outer s H args us vs Q E _ _ _ _ h => by obtain ⟨M, S, pvs, _, _, h⟩ := h; exact absurd h (emp_same _ _ _)⟩
  | n + 1 => by
    have D_self : DefW Ts P w K mg base "_law_same" (n + 1) ["found", "due"] (wSame n) := ⟨⟨f, fd, ok_law_same F T hm hb  n, hm, F.kp, hb⟩, mo_same n⟩
    have e : n + 1 + 1 = n + 1 + 1 := by omega
    rw [e]
    refine ok_body (k := n + 1) F sc_law_same (fun pvs S Q h => by obtain ⟨a, rfl, _⟩ := h; rfl) (fun cdv A outer s H E hr => ?_)
    have hu := hu_of hr
    refine ⟨_, (sss_cons (ss_if (st_cmp s_is (sv 1) se_non (nomark _)) (sss_one (ss_ret (se_cmp s_is (sv 0) se_non (nomark _)))) sss_nil)
      (sss_cons (ss_if (st_val (se_callB c_isi (by rfl) T.isinstance_ (by decide +kernel) (sa_cons (sv 1) (sa_cons (se_ty (n := "bool") (by rfl) T.bool_ (by decide +kernel)) sa_nil)))) (sss_one (ss_ret (se_and (se_callB c_isi (by rfl) T.isinstance_ (by decide +kernel) (sa_cons (sv 0) (sa_cons (se_ty (n := "bool") (by rfl) T.bool_ (by decide +kernel)) sa_nil))) (se_one (se_cmp (s_eq hr.units) (sv 0) (sv 1) (nomark _)))))) sss_nil)
      (sss_cons (ss_if (st_val (se_callB c_isi (by rfl) T.isinstance_ (by decide +kernel) (sa_cons (sv 1) (sa_cons (se_ty (n := "int") (by rfl) T.int_ (by decide +kernel)) sa_nil)))) (sss_one (ss_ret (se_and (se_callB c_isi (by rfl) T.isinstance_ (by decide +kernel) (sa_cons (sv 0) (sa_cons (se_ty (n := "int") (by rfl) T.int_ (by decide +kernel)) sa_nil))) (se_and (se_not (se_callB c_isi (by rfl) T.isinstance_ (by decide +kernel) (sa_cons (sv 0) (sa_cons (se_ty (n := "bool") (by rfl) T.bool_ (by decide +kernel)) sa_nil)))) (se_one (se_cmp (s_eq hr.units) (sv 0) (sv 1) (nomark _))))))) sss_nil)
      (sss_cons (ss_if (st_val (se_callB c_isi (by rfl) T.isinstance_ (by decide +kernel) (sa_cons (sv 1) (sa_cons (se_ty (n := "str") (by rfl) T.str_ (by decide +kernel)) sa_nil)))) (sss_one (ss_ret (se_and (se_callB c_isi (by rfl) T.isinstance_ (by decide +kernel) (sa_cons (sv 0) (sa_cons (se_ty (n := "str") (by rfl) T.str_ (by decide +kernel)) sa_nil))) (se_one (se_cmp (s_eq hr.units) (sv 0) (sv 1) (nomark _)))))) sss_nil)
      (sss_cons (ss_if (SW.st (sw_or (st_cmp (s_ne hr.units) (se_callB c_isi (by rfl) T.isinstance_ (by decide +kernel) (sa_cons (sv 1) (sa_cons (se_ty (n := "tuple") (by rfl) T.tuple_ (by decide +kernel)) sa_nil))) (se_callB c_isi (by rfl) T.isinstance_ (by decide +kernel) (sa_cons (sv 0) (sa_cons (se_ty (n := "tuple") (by rfl) T.tuple_ (by decide +kernel)) sa_nil))) (nomark _)) (sw_or1 (st_cmp (s_ne hr.units) (se_callB c_isi (by rfl) T.isinstance_ (by decide +kernel) (sa_cons (sv 1) (sa_cons (se_ty (n := "list") (by rfl) T.list_ (by decide +kernel)) sa_nil))) (se_callB c_isi (by rfl) T.isinstance_ (by decide +kernel) (sa_cons (sv 0) (sa_cons (se_ty (n := "list") (by rfl) T.list_ (by decide +kernel)) sa_nil))) (nomark _))))) (sss_one (ss_ret se_bl)) sss_nil)
      (sss_cons (ss_if (st_cmp (s_ne hr.units) (se_callB c_len (by rfl) T.len_ (by decide +kernel) (sa_cons (sv 0) sa_nil)) (se_callB c_len (by rfl) T.len_ (by decide +kernel) (sa_cons (sv 1) sa_nil)) (nomark _)) (sss_one (ss_ret se_bl)) sss_nil)
      (sss_one (ss_ret (se_lcB (own := [("one", 2), ("other", 3)]) (g := (gTup K 2 (gCons (gName 2) (gCons (gName 3) gNil)))) (u_all rfl) (by rfl) T.all_ (by decide +kernel) rfl sc_law_same.nd (si_zip (by rfl) T.zip_ (sa_cons (sv 0) (sa_cons (sv 1) sa_nil))) (blkOk_by (own := [("one", 2), ("other", 3)]) (N := ["found", "due", "one", "other"]) (sc := defScope s_law_same) (by decide +kernel)) (fun _ _ _ _ _ => (pg_tup' (n := 2) (K := K) rfl rfl (pgs_cons (pg_name (i := 2) sc_law_same.nd rfl (by first | exact Or.inl rfl | exact Or.inr rfl)) (pgs_cons (pg_name (i := 3) sc_law_same.nd rfl (by first | exact Or.inl rfl | exact Or.inr rfl)) pgs_nil)))) (gr_tup (gr_cons (gr_name (i := 2) (by decide)) (gr_cons (gr_name (i := 3) (by decide)) gr_nil))) (mg_tup (mg_cons (mg_name _) (mg_cons (mg_name _) mg_nil))) (fun _ _ _ _ _ => sts_nil) (fun _ _ _ _ _ => (se_def D_self (hr.mono (by first | decide | omega)) (by rfl) (sa_cons (sv 2) (sa_cons (sv 3) sa_nil))))))))))))), fun pvs S Q hcl hca h => ?_⟩
    obtain ⟨⟨x, y⟩, rfl, hE, h⟩ := h
    have key : ∀ (k : Bool) (xs ys : List PV) (G : Sto → Prop), G S → EqWs S n xs ys → wLcGo (wgTup 2 (wgCons (wgName 2) (wgCons (wgName 3) wgNil))) wYes (wCall (wSame n) (wCons (wVar 2) (wCons (wVar 3) wNil))) [some x, some y, none, none] G (zipP xs ys) [] S (fun zs S2 => ∃ bs : List Bool, zs = bs.map PV.bl ∧ Fg S.length Q (.bl (bs.all id)) S2) := by
      intro k xs ys G hG hq
      refine lc_map (e := fun p : PV × PV => PV.tup [p.1, p.2]) (fun _ => PV.bl true) hG (fun p hp R hR => ?_) ?_
      · simp only [wSeq, wAsg, wRet, wRetN, wDrop, wIfS, wVar, wC, wOp, wCall, wCons, wNil, wTup, wTest, wAnd, wOr, wNot, wAndV, wOrV, wNotV, wIf, wNext, wgName, wgTup, wgCons, wgNil, wFor, wSq, wYes, wLcU, wLcV, wLc, uTuple, uAll, uAny, uSum, wNeg, wSl, wPart, wNoPart, rSlW_tup, rAddW, rI0W, rIW, rMulW, rEqW, rIsW, isNonP, seqW_tup, wLst, wipeW, wPar, wPut, wAug, wZip, wEnum, wRng1, wRng2, wChain, List.getElem?_cons_zero, List.getElem?_cons_succ, List.set_cons_zero, List.set_cons_succ, Option.some.injEq, exists_eq_left', exists_eq_left, exists_and_left, exists_eq_right, exists_eq_right', and_assoc, true_and, and_true, List.cons.injEq, and_self, if_true, if_false, Bool.false_eq_true, PV.int.injEq, PV.bl.injEq, PV.tup.injEq, PV.ref.injEq, PV.str.injEq, Bool.false_xor, Bool.true_xor, List.length_cons, List.length_nil, Nat.reduceAdd, Nat.reduceLeDiff, Nat.reduceEqDiff, Prod.mk.injEq, cutP_map, cutP_0, cutP_1, cutP_2, cutP_all, decide_eq_true_eq, startW, endsW, List.map_cons, List.map_nil, List.cons_append, List.nil_append, List.replicate, Nat.reduceSub, rIxW_tup, rLenW_tup, rListW_tup, wMeth, wRngL, wRngT, rIsiW_eq, tyP_non, tyP_bl, tyP_int, tyP_str, tyP_tup, isi_NoneType_int, isi_NoneType_bool, isi_NoneType_str, isi_NoneType_list, isi_NoneType_tuple, isi_NoneType_dict, isi_bool_int, isi_bool_bool, isi_bool_str, isi_bool_list, isi_bool_tuple, isi_bool_dict, isi_int_int, isi_int_bool, isi_int_str, isi_int_list, isi_int_tuple, isi_int_dict, isi_str_int, isi_str_bool, isi_str_str, isi_str_list, isi_str_tuple, isi_str_dict, isi_tuple_int, isi_tuple_bool, isi_tuple_str, isi_tuple_list, isi_tuple_tuple, isi_tuple_dict, isi_list_int, isi_list_bool, isi_list_str, isi_list_list, isi_list_tuple, isi_list_dict, isi_dict_int, isi_dict_bool, isi_dict_str, isi_dict_list, isi_dict_tuple, isi_dict_dict, decide_true, decide_false, Bool.not_true, Bool.not_false, Bool.not_eq_true', decide_eq_false_iff_not, ite_not, natP, swP, natsP, intsP, atI_0, atI_1, atI_2, atI_3, wLcU2, wLcV2, wTupZip, wZipN, wStep, wRev, wMaxD, wMinD, rInW_ints]
        exact ⟨(p.1, p.2), rfl, hq.mem p hp, hR⟩
      · refine ⟨(xs.zip ys).map fun _ => true, by simp, ?_⟩
        have e : ((xs.zip ys).map fun _ => true).all id = true := by simp
        rw [e]
        exact fg_here h
    cases hE with
    | non => simp only [wSeq, wAsg, wRet, wRetN, wDrop, wIfS, wVar, wC, wOp, wCall, wCons, wNil, wTup, wTest, wAnd, wOr, wNot, wAndV, wOrV, wNotV, wIf, wNext, wgName, wgTup, wgCons, wgNil, wFor, wSq, wYes, wLcU, wLcV, wLc, uTuple, uAll, uAny, uSum, wNeg, wSl, wPart, wNoPart, rSlW_tup, rAddW, rI0W, rIW, rMulW, rEqW, rIsW, isNonP, seqW_tup, wLst, wipeW, wPar, wPut, wAug, wZip, wEnum, wRng1, wRng2, wChain, List.getElem?_cons_zero, List.getElem?_cons_succ, List.set_cons_zero, List.set_cons_succ, Option.some.injEq, exists_eq_left', exists_eq_left, exists_and_left, exists_eq_right, exists_eq_right', and_assoc, true_and, and_true, List.cons.injEq, and_self, if_true, if_false, Bool.false_eq_true, PV.int.injEq, PV.bl.injEq, PV.tup.injEq, PV.ref.injEq, PV.str.injEq, Bool.false_xor, Bool.true_xor, List.length_cons, List.length_nil, Nat.reduceAdd, Nat.reduceLeDiff, Nat.reduceEqDiff, Prod.mk.injEq, cutP_map, cutP_0, cutP_1, cutP_2, cutP_all, decide_eq_true_eq, startW, endsW, List.map_cons, List.map_nil, List.cons_append, List.nil_append, List.replicate, Nat.reduceSub, rIxW_tup, rLenW_tup, rListW_tup, wMeth, wRngL, wRngT, rIsiW_eq, tyP_non, tyP_bl, tyP_int, tyP_str, tyP_tup, isi_NoneType_int, isi_NoneType_bool, isi_NoneType_str, isi_NoneType_list, isi_NoneType_tuple, isi_NoneType_dict, isi_bool_int, isi_bool_bool, isi_bool_str, isi_bool_list, isi_bool_tuple, isi_bool_dict, isi_int_int, isi_int_bool, isi_int_str, isi_int_list, isi_int_tuple, isi_int_dict, isi_str_int, isi_str_bool, isi_str_str, isi_str_list, isi_str_tuple, isi_str_dict, isi_tuple_int, isi_tuple_bool, isi_tuple_str, isi_tuple_list, isi_tuple_tuple, isi_tuple_dict, isi_list_int, isi_list_bool, isi_list_str, isi_list_list, isi_list_tuple, isi_list_dict, isi_dict_int, isi_dict_bool, isi_dict_str, isi_dict_list, isi_dict_tuple, isi_dict_dict, decide_true, decide_false, Bool.not_true, Bool.not_false, Bool.not_eq_true', decide_eq_false_iff_not, ite_not, natP, swP, natsP, intsP, atI_0, atI_1, atI_2, atI_3, wLcU2, wLcV2, wTupZip, wZipN, wStep, wRev, wMaxD, wMinD, rInW_ints]; exact fg_here h
    | bl b => simp only [wSeq, wAsg, wRet, wRetN, wDrop, wIfS, wVar, wC, wOp, wCall, wCons, wNil, wTup, wTest, wAnd, wOr, wNot, wAndV, wOrV, wNotV, wIf, wNext, wgName, wgTup, wgCons, wgNil, wFor, wSq, wYes, wLcU, wLcV, wLc, uTuple, uAll, uAny, uSum, wNeg, wSl, wPart, wNoPart, rSlW_tup, rAddW, rI0W, rIW, rMulW, rEqW, rIsW, isNonP, seqW_tup, wLst, wipeW, wPar, wPut, wAug, wZip, wEnum, wRng1, wRng2, wChain, List.getElem?_cons_zero, List.getElem?_cons_succ, List.set_cons_zero, List.set_cons_succ, Option.some.injEq, exists_eq_left', exists_eq_left, exists_and_left, exists_eq_right, exists_eq_right', and_assoc, true_and, and_true, List.cons.injEq, and_self, if_true, if_false, Bool.false_eq_true, PV.int.injEq, PV.bl.injEq, PV.tup.injEq, PV.ref.injEq, PV.str.injEq, Bool.false_xor, Bool.true_xor, List.length_cons, List.length_nil, Nat.reduceAdd, Nat.reduceLeDiff, Nat.reduceEqDiff, Prod.mk.injEq, cutP_map, cutP_0, cutP_1, cutP_2, cutP_all, decide_eq_true_eq, startW, endsW, List.map_cons, List.map_nil, List.cons_append, List.nil_append, List.replicate, Nat.reduceSub, rIxW_tup, rLenW_tup, rListW_tup, wMeth, wRngL, wRngT, rIsiW_eq, tyP_non, tyP_bl, tyP_int, tyP_str, tyP_tup, isi_NoneType_int, isi_NoneType_bool, isi_NoneType_str, isi_NoneType_list, isi_NoneType_tuple, isi_NoneType_dict, isi_bool_int, isi_bool_bool, isi_bool_str, isi_bool_list, isi_bool_tuple, isi_bool_dict, isi_int_int, isi_int_bool, isi_int_str, isi_int_list, isi_int_tuple, isi_int_dict, isi_str_int, isi_str_bool, isi_str_str, isi_str_list, isi_str_tuple, isi_str_dict, isi_tuple_int, isi_tuple_bool, isi_tuple_str, isi_tuple_list, isi_tuple_tuple, isi_tuple_dict, isi_list_int, isi_list_bool, isi_list_str, isi_list_list, isi_list_tuple, isi_list_dict, isi_dict_int, isi_dict_bool, isi_dict_str, isi_dict_list, isi_dict_tuple, isi_dict_dict, decide_true, decide_false, Bool.not_true, Bool.not_false, Bool.not_eq_true', decide_eq_false_iff_not, ite_not, natP, swP, natsP, intsP, atI_0, atI_1, atI_2, atI_3, wLcU2, wLcV2, wTupZip, wZipN, wStep, wRev, wMaxD, wMinD, rInW_ints]; exact fg_here h
    | int i => simp only [wSeq, wAsg, wRet, wRetN, wDrop, wIfS, wVar, wC, wOp, wCall, wCons, wNil, wTup, wTest, wAnd, wOr, wNot, wAndV, wOrV, wNotV, wIf, wNext, wgName, wgTup, wgCons, wgNil, wFor, wSq, wYes, wLcU, wLcV, wLc, uTuple, uAll, uAny, uSum, wNeg, wSl, wPart, wNoPart, rSlW_tup, rAddW, rI0W, rIW, rMulW, rEqW, rIsW, isNonP, seqW_tup, wLst, wipeW, wPar, wPut, wAug, wZip, wEnum, wRng1, wRng2, wChain, List.getElem?_cons_zero, List.getElem?_cons_succ, List.set_cons_zero, List.set_cons_succ, Option.some.injEq, exists_eq_left', exists_eq_left, exists_and_left, exists_eq_right, exists_eq_right', and_assoc, true_and, and_true, List.cons.injEq, and_self, if_true, if_false, Bool.false_eq_true, PV.int.injEq, PV.bl.injEq, PV.tup.injEq, PV.ref.injEq, PV.str.injEq, Bool.false_xor, Bool.true_xor, List.length_cons, List.length_nil, Nat.reduceAdd, Nat.reduceLeDiff, Nat.reduceEqDiff, Prod.mk.injEq, cutP_map, cutP_0, cutP_1, cutP_2, cutP_all, decide_eq_true_eq, startW, endsW, List.map_cons, List.map_nil, List.cons_append, List.nil_append, List.replicate, Nat.reduceSub, rIxW_tup, rLenW_tup, rListW_tup, wMeth, wRngL, wRngT, rIsiW_eq, tyP_non, tyP_bl, tyP_int, tyP_str, tyP_tup, isi_NoneType_int, isi_NoneType_bool, isi_NoneType_str, isi_NoneType_list, isi_NoneType_tuple, isi_NoneType_dict, isi_bool_int, isi_bool_bool, isi_bool_str, isi_bool_list, isi_bool_tuple, isi_bool_dict, isi_int_int, isi_int_bool, isi_int_str, isi_int_list, isi_int_tuple, isi_int_dict, isi_str_int, isi_str_bool, isi_str_str, isi_str_list, isi_str_tuple, isi_str_dict, isi_tuple_int, isi_tuple_bool, isi_tuple_str, isi_tuple_list, isi_tuple_tuple, isi_tuple_dict, isi_list_int, isi_list_bool, isi_list_str, isi_list_list, isi_list_tuple, isi_list_dict, isi_dict_int, isi_dict_bool, isi_dict_str, isi_dict_list, isi_dict_tuple, isi_dict_dict, decide_true, decide_false, Bool.not_true, Bool.not_false, Bool.not_eq_true', decide_eq_false_iff_not, ite_not, natP, swP, natsP, intsP, atI_0, atI_1, atI_2, atI_3, wLcU2, wLcV2, wTupZip, wZipN, wStep, wRev, wMaxD, wMinD, rInW_ints]; exact fg_here h
    | str z => simp only [wSeq, wAsg, wRet, wRetN, wDrop, wIfS, wVar, wC, wOp, wCall, wCons, wNil, wTup, wTest, wAnd, wOr, wNot, wAndV, wOrV, wNotV, wIf, wNext, wgName, wgTup, wgCons, wgNil, wFor, wSq, wYes, wLcU, wLcV, wLc, uTuple, uAll, uAny, uSum, wNeg, wSl, wPart, wNoPart, rSlW_tup, rAddW, rI0W, rIW, rMulW, rEqW, rIsW, isNonP, seqW_tup, wLst, wipeW, wPar, wPut, wAug, wZip, wEnum, wRng1, wRng2, wChain, List.getElem?_cons_zero, List.getElem?_cons_succ, List.set_cons_zero, List.set_cons_succ, Option.some.injEq, exists_eq_left', exists_eq_left, exists_and_left, exists_eq_right, exists_eq_right', and_assoc, true_and, and_true, List.cons.injEq, and_self, if_true, if_false, Bool.false_eq_true, PV.int.injEq, PV.bl.injEq, PV.tup.injEq, PV.ref.injEq, PV.str.injEq, Bool.false_xor, Bool.true_xor, List.length_cons, List.length_nil, Nat.reduceAdd, Nat.reduceLeDiff, Nat.reduceEqDiff, Prod.mk.injEq, cutP_map, cutP_0, cutP_1, cutP_2, cutP_all, decide_eq_true_eq, startW, endsW, List.map_cons, List.map_nil, List.cons_append, List.nil_append, List.replicate, Nat.reduceSub, rIxW_tup, rLenW_tup, rListW_tup, wMeth, wRngL, wRngT, rIsiW_eq, tyP_non, tyP_bl, tyP_int, tyP_str, tyP_tup, isi_NoneType_int, isi_NoneType_bool, isi_NoneType_str, isi_NoneType_list, isi_NoneType_tuple, isi_NoneType_dict, isi_bool_int, isi_bool_bool, isi_bool_str, isi_bool_list, isi_bool_tuple, isi_bool_dict, isi_int_int, isi_int_bool, isi_int_str, isi_int_list, isi_int_tuple, isi_int_dict, isi_str_int, isi_str_bool, isi_str_str, isi_str_list, isi_str_tuple, isi_str_dict, isi_tuple_int, isi_tuple_bool, isi_tuple_str, isi_tuple_list, isi_tuple_tuple, isi_tuple_dict, isi_list_int, isi_list_bool, isi_list_str, isi_list_list, isi_list_tuple, isi_list_dict, isi_dict_int, isi_dict_bool, isi_dict_str, isi_dict_list, isi_dict_tuple, isi_dict_dict, decide_true, decide_false, Bool.not_true, Bool.not_false, Bool.not_eq_true', decide_eq_false_iff_not, ite_not, natP, swP, natsP, intsP, atI_0, atI_1, atI_2, atI_3, wLcU2, wLcV2, wTupZip, wZipN, wStep, wRev, wMaxD, wMinD, rInW_ints]; exact fg_here h
    | @tup n xs ys hq hl => simp only [wSeq, wAsg, wRet, wRetN, wDrop, wIfS, wVar, wC, wOp, wCall, wCons, wNil, wTup, wTest, wAnd, wOr, wNot, wAndV, wOrV, wNotV, wIf, wNext, wgName, wgTup, wgCons, wgNil, wFor, wSq, wYes, wLcU, wLcV, wLc, uTuple, uAll, uAny, uSum, wNeg, wSl, wPart, wNoPart, rSlW_tup, rAddW, rI0W, rIW, rMulW, rEqW, rIsW, isNonP, seqW_tup, wLst, wipeW, wPar, wPut, wAug, wZip, wEnum, wRng1, wRng2, wChain, List.getElem?_cons_zero, List.getElem?_cons_succ, List.set_cons_zero, List.set_cons_succ, Option.some.injEq, exists_eq_left', exists_eq_left, exists_and_left, exists_eq_right, exists_eq_right', and_assoc, true_and, and_true, List.cons.injEq, and_self, if_true, if_false, Bool.false_eq_true, PV.int.injEq, PV.bl.injEq, PV.tup.injEq, PV.ref.injEq, PV.str.injEq, Bool.false_xor, Bool.true_xor, List.length_cons, List.length_nil, Nat.reduceAdd, Nat.reduceLeDiff, Nat.reduceEqDiff, Prod.mk.injEq, cutP_map, cutP_0, cutP_1, cutP_2, cutP_all, decide_eq_true_eq, startW, endsW, List.map_cons, List.map_nil, List.cons_append, List.nil_append, List.replicate, Nat.reduceSub, rIxW_tup, rLenW_tup, rListW_tup, wMeth, wRngL, wRngT, rIsiW_eq, tyP_non, tyP_bl, tyP_int, tyP_str, tyP_tup, isi_NoneType_int, isi_NoneType_bool, isi_NoneType_str, isi_NoneType_list, isi_NoneType_tuple, isi_NoneType_dict, isi_bool_int, isi_bool_bool, isi_bool_str, isi_bool_list, isi_bool_tuple, isi_bool_dict, isi_int_int, isi_int_bool, isi_int_str, isi_int_list, isi_int_tuple, isi_int_dict, isi_str_int, isi_str_bool, isi_str_str, isi_str_list, isi_str_tuple, isi_str_dict, isi_tuple_int, isi_tuple_bool, isi_tuple_str, isi_tuple_list, isi_tuple_tuple, isi_tuple_dict, isi_list_int, isi_list_bool, isi_list_str, isi_list_list, isi_list_tuple, isi_list_dict, isi_dict_int, isi_dict_bool, isi_dict_str, isi_dict_list, isi_dict_tuple, isi_dict_dict, decide_true, decide_false, Bool.not_true, Bool.not_false, Bool.not_eq_true', decide_eq_false_iff_not, ite_not, natP, swP, natsP, intsP, atI_0, atI_1, atI_2, atI_3, wLcU2, wLcV2, wTupZip, wZipN, wStep, wRev, wMaxD, wMinD, rInW_ints]; rw [if_pos (by rw [hq.length])]; exact ⟨by rw [zipP_length]; omega, key true xs ys _ trivial hq⟩
    | @lst n i j xs ys h1 h2 hq hl => simp only [wSeq, wAsg, wRet, wRetN, wDrop, wIfS, wVar, wC, wOp, wCall, wCons, wNil, wTup, wTest, wAnd, wOr, wNot, wAndV, wOrV, wNotV, wIf, wNext, wgName, wgTup, wgCons, wgNil, wFor, wSq, wYes, wLcU, wLcV, wLc, uTuple, uAll, uAny, uSum, wNeg, wSl, wPart, wNoPart, rSlW_tup, rAddW, rI0W, rIW, rMulW, rEqW, rIsW, isNonP, seqW_tup, wLst, wipeW, wPar, wPut, wAug, wZip, wEnum, wRng1, wRng2, wChain, List.getElem?_cons_zero, List.getElem?_cons_succ, List.set_cons_zero, List.set_cons_succ, Option.some.injEq, exists_eq_left', exists_eq_left, exists_and_left, exists_eq_right, exists_eq_right', and_assoc, true_and, and_true, List.cons.injEq, and_self, if_true, if_false, Bool.false_eq_true, PV.int.injEq, PV.bl.injEq, PV.tup.injEq, PV.ref.injEq, PV.str.injEq, Bool.false_xor, Bool.true_xor, List.length_cons, List.length_nil, Nat.reduceAdd, Nat.reduceLeDiff, Nat.reduceEqDiff, Prod.mk.injEq, cutP_map, cutP_0, cutP_1, cutP_2, cutP_all, decide_eq_true_eq, startW, endsW, List.map_cons, List.map_nil, List.cons_append, List.nil_append, List.replicate, Nat.reduceSub, rIxW_tup, rLenW_tup, rListW_tup, wMeth, wRngL, wRngT, rIsiW_eq, tyP_non, tyP_bl, tyP_int, tyP_str, tyP_tup, isi_NoneType_int, isi_NoneType_bool, isi_NoneType_str, isi_NoneType_list, isi_NoneType_tuple, isi_NoneType_dict, isi_bool_int, isi_bool_bool, isi_bool_str, isi_bool_list, isi_bool_tuple, isi_bool_dict, isi_int_int, isi_int_bool, isi_int_str, isi_int_list, isi_int_tuple, isi_int_dict, isi_str_int, isi_str_bool, isi_str_str, isi_str_list, isi_str_tuple, isi_str_dict, isi_tuple_int, isi_tuple_bool, isi_tuple_str, isi_tuple_list, isi_tuple_tuple, isi_tuple_dict, isi_list_int, isi_list_bool, isi_list_str, isi_list_list, isi_list_tuple, isi_list_dict, isi_dict_int, isi_dict_bool, isi_dict_str, isi_dict_list, isi_dict_tuple, isi_dict_dict, decide_true, decide_false, Bool.not_true, Bool.not_false, Bool.not_eq_true', decide_eq_false_iff_not, ite_not, natP, swP, natsP, intsP, atI_0, atI_1, atI_2, atI_3, wLcU2, wLcV2, wTupZip, wZipN, wStep, wRev, wMaxD, wMinD, rInW_ints, (tyP_lst h1), (tyP_lst h2), (rLenW_lst h1), (rLenW_lst h2), (seqW_ref h1), (seqW_ref h2)]; rw [if_pos (by rw [hq.length])]; exact ⟨by rw [zipP_length]; omega, key false xs ys _ ⟨seqW_ref h1, seqW_ref h2⟩ hq⟩
def renN (N : Net) (xs : List Nat) : Net := ⟨N.w, N.sw.map fun s => (xs.getD s.1 0, xs.getD s.2 0), N.ord.map fun i => xs.getD i 0⟩
structure Ltn (N : Net) (n : Nat) : Prop where
  sw : ∀ s ∈ N.sw, s.1 < n ∧ s.2 < n
  ord : ∀ i ∈ N.ord, i < n
  l1 : N.sw.length ≤ 1000
  l2 : N.ord.length ≤ 1000
def wNamed : WC := ctrF (fun a : Net × List Nat => [netP a.1, natsP a.2]) (fun a _ => Ltn a.1 a.2.length) (fun a => .tup [.tup ((renN a.1 a.2).sw.map swP), natsP (renN a.1 a.2).ord])
abbrev s_named : Stmt := top 14
theorem sc_named : FnScope ["net", "wires", "width", "switches", "order", "new_switches", "a", "b", "new_order", "wire"] ["net", "wires"] (defScope s_named) := ⟨rfl, rfl, rfl, by decide +kernel, rfl, by decide +kernel, by decide +kernel⟩
set_option maxHeartbeats 1000000 in
theorem ok_named {f : Addr} {fd : FuncData} (F : Fun K "named" "named" s_named f fd) (T : Tn mg)  : FnOk P w K mg base CX0 1 f fd ["net", "wires"] (spW Ts K wNamed) := by
  refine ok_body (k := 0) F sc_named (fun pvs S Q h => by obtain ⟨a, rfl, _⟩ := h; rfl) (fun cdv A outer s H E hr => ?_)
  have hu := hu_of hr
  refine ⟨_, (sss_cons (ss_asg (vs := [2, 3, 4]) (sv 0) (pg_tup (n := 3) rfl (pgs_cons (pg_name (i := 2) sc_named.nd rfl (by first | exact Or.inl rfl | exact Or.inr rfl)) (pgs_cons (pg_name (i := 3) sc_named.nd rfl (by first | exact Or.inl rfl | exact Or.inr rfl)) (pgs_cons (pg_name (i := 4) sc_named.nd rfl (by first | exact Or.inl rfl | exact Or.inr rfl)) pgs_nil)))) (gr_tup (gr_cons (gr_name (i := 2) (by decide)) (gr_cons (gr_name (i := 3) (by decide)) (gr_cons (gr_name (i := 4) (by decide)) gr_nil)))) (mg_tup (mg_cons (mg_name _) (mg_cons (mg_name _) (mg_cons (mg_name _) mg_nil)))))
      (sss_cons (ss_set (i := 5) sc_named.nd rfl (by first | exact Or.inl rfl | exact Or.inr rfl) (se_lcTy (own := [("a", 6), ("b", 7)]) (g := (gTup K 2 (gCons (gName 6) (gCons (gName 7) gNil)))) u_tuple (by rfl) T.tuple_ (by decide +kernel) rfl sc_named.nd (si_seq (sv 3)) (blkOk_by (own := [("a", 6), ("b", 7)]) (N := ["net", "wires", "width", "switches", "order", "new_switches", "a", "b", "new_order", "wire"]) (sc := defScope s_named) (by decide +kernel)) (fun _ _ _ _ _ => (pg_tup' (n := 2) (K := K) rfl rfl (pgs_cons (pg_name (i := 6) sc_named.nd rfl (by first | exact Or.inl rfl | exact Or.inr rfl)) (pgs_cons (pg_name (i := 7) sc_named.nd rfl (by first | exact Or.inl rfl | exact Or.inr rfl)) pgs_nil)))) (gr_tup (gr_cons (gr_name (i := 6) (by decide)) (gr_cons (gr_name (i := 7) (by decide)) gr_nil))) (mg_tup (mg_cons (mg_name _) (mg_cons (mg_name _) mg_nil))) (fun _ _ _ _ _ => sts_nil) (fun _ _ _ _ _ => (se_tup (sa_cons (se_ix hu (sv 1) (sv 6) (fun _ _ => rfl)) (sa_cons (se_ix hu (sv 1) (sv 7) (fun _ _ => rfl)) sa_nil))))))
      (sss_cons (ss_set (i := 8) sc_named.nd rfl (by first | exact Or.inl rfl | exact Or.inr rfl) (se_lcTy (own := [("wire", 9)]) (g := (gName 9)) u_tuple (by rfl) T.tuple_ (by decide +kernel) rfl sc_named.nd (si_seq (sv 4)) (blkOk_by (own := [("wire", 9)]) (N := ["net", "wires", "width", "switches", "order", "new_switches", "a", "b", "new_order", "wire"]) (sc := defScope s_named) (by decide +kernel)) (fun _ _ _ _ _ => (pg_name (i := 9) sc_named.nd rfl (by first | exact Or.inl rfl | exact Or.inr rfl))) (gr_name (i := 9) (by decide)) (mg_name _) (fun _ _ _ _ _ => sts_nil) (fun _ _ _ _ _ => (se_ix hu (sv 1) (sv 9) (fun _ _ => rfl)))))
      (sss_one (ss_ret (se_tup (sa_cons (sv 5) (sa_cons (sv 8) sa_nil)))))))), fun pvs S Q hcl hca h => ?_⟩
  obtain ⟨⟨N, xs⟩, rfl, hn, h⟩ := h
  dsimp only at hn h
  simp only [wSeq, wAsg, wRet, wRetN, wDrop, wIfS, wVar, wC, wOp, wCall, wCons, wNil, wTup, wTest, wAnd, wOr, wNot, wAndV, wOrV, wNotV, wIf, wNext, wgName, wgTup, wgCons, wgNil, wFor, wSq, wYes, wLcU, wLcV, wLc, uTuple, uAll, uAny, uSum, wNeg, wSl, wPart, wNoPart, rSlW_tup, rAddW, rI0W, rIW, rMulW, rEqW, rIsW, isNonP, seqW_tup, wLst, wipeW, wPar, wPut, wAug, wZip, wEnum, wRng1, wRng2, wChain, List.getElem?_cons_zero, List.getElem?_cons_succ, List.set_cons_zero, List.set_cons_succ, Option.some.injEq, exists_eq_left', exists_eq_left, exists_and_left, exists_eq_right, exists_eq_right', and_assoc, true_and, and_true, List.cons.injEq, and_self, if_true, if_false, Bool.false_eq_true, PV.int.injEq, PV.bl.injEq, PV.tup.injEq, PV.ref.injEq, PV.str.injEq, Bool.false_xor, Bool.true_xor, List.length_cons, List.length_nil, Nat.reduceAdd, Nat.reduceLeDiff, Nat.reduceEqDiff, Prod.mk.injEq, cutP_map, cutP_0, cutP_1, cutP_2, cutP_all, decide_eq_true_eq, startW, endsW, List.map_cons, List.map_nil, List.cons_append, List.nil_append, List.replicate, Nat.reduceSub, rIxW_tup, rLenW_tup, rListW_tup, wMeth, wRngL, wRngT, rIsiW_eq, tyP_non, tyP_bl, tyP_int, tyP_str, tyP_tup, isi_NoneType_int, isi_NoneType_bool, isi_NoneType_str, isi_NoneType_list, isi_NoneType_tuple, isi_NoneType_dict, isi_bool_int, isi_bool_bool, isi_bool_str, isi_bool_list, isi_bool_tuple, isi_bool_dict, isi_int_int, isi_int_bool, isi_int_str, isi_int_list, isi_int_tuple, isi_int_dict, isi_str_int, isi_str_bool, isi_str_str, isi_str_list, isi_str_tuple, isi_str_dict, isi_tuple_int, isi_tuple_bool, isi_tuple_str, isi_tuple_list, isi_tuple_tuple, isi_tuple_dict, isi_list_int, isi_list_bool, isi_list_str, isi_list_list, isi_list_tuple, isi_list_dict, isi_dict_int, isi_dict_bool, isi_dict_str, isi_dict_list, isi_dict_tuple, isi_dict_dict, decide_true, decide_false, Bool.not_true, Bool.not_false, Bool.not_eq_true', decide_eq_false_iff_not, ite_not, natP, swP, natsP, intsP, atI_0, atI_1, atI_2, atI_3, wLcU2, wLcV2, wTupZip, wZipN, wStep, wRev, wMaxD, wMinD, rInW_ints, netP]
  have l1 := hn.l1
  have l2 := hn.l2
  refine ⟨by rw [List.length_map]; omega, ?_⟩
  refine lc_map (fun s : Nat × Nat => swP (xs.getD s.1 0, xs.getD s.2 0)) trivial (fun s hs R hR => ?_) ?_
  · simp only [wSeq, wAsg, wRet, wRetN, wDrop, wIfS, wVar, wC, wOp, wCall, wCons, wNil, wTup, wTest, wAnd, wOr, wNot, wAndV, wOrV, wNotV, wIf, wNext, wgName, wgTup, wgCons, wgNil, wFor, wSq, wYes, wLcU, wLcV, wLc, uTuple, uAll, uAny, uSum, wNeg, wSl, wPart, wNoPart, rSlW_tup, rAddW, rI0W, rIW, rMulW, rEqW, rIsW, isNonP, seqW_tup, wLst, wipeW, wPar, wPut, wAug, wZip, wEnum, wRng1, wRng2, wChain, List.getElem?_cons_zero, List.getElem?_cons_succ, List.set_cons_zero, List.set_cons_succ, Option.some.injEq, exists_eq_left', exists_eq_left, exists_and_left, exists_eq_right, exists_eq_right', and_assoc, true_and, and_true, List.cons.injEq, and_self, if_true, if_false, Bool.false_eq_true, PV.int.injEq, PV.bl.injEq, PV.tup.injEq, PV.ref.injEq, PV.str.injEq, Bool.false_xor, Bool.true_xor, List.length_cons, List.length_nil, Nat.reduceAdd, Nat.reduceLeDiff, Nat.reduceEqDiff, Prod.mk.injEq, cutP_map, cutP_0, cutP_1, cutP_2, cutP_all, decide_eq_true_eq, startW, endsW, List.map_cons, List.map_nil, List.cons_append, List.nil_append, List.replicate, Nat.reduceSub, rIxW_tup, rLenW_tup, rListW_tup, wMeth, wRngL, wRngT, rIsiW_eq, tyP_non, tyP_bl, tyP_int, tyP_str, tyP_tup, isi_NoneType_int, isi_NoneType_bool, isi_NoneType_str, isi_NoneType_list, isi_NoneType_tuple, isi_NoneType_dict, isi_bool_int, isi_bool_bool, isi_bool_str, isi_bool_list, isi_bool_tuple, isi_bool_dict, isi_int_int, isi_int_bool, isi_int_str, isi_int_list, isi_int_tuple, isi_int_dict, isi_str_int, isi_str_bool, isi_str_str, isi_str_list, isi_str_tuple, isi_str_dict, isi_tuple_int, isi_tuple_bool, isi_tuple_str, isi_tuple_list, isi_tuple_tuple, isi_tuple_dict, isi_list_int, isi_list_bool, isi_list_str, isi_list_list, isi_list_tuple, isi_list_dict, isi_dict_int, isi_dict_bool, isi_dict_str, isi_dict_list, isi_dict_tuple, isi_dict_dict, decide_true, decide_false, Bool.not_true, Bool.not_false, Bool.not_eq_true', decide_eq_false_iff_not, ite_not, natP, swP, natsP, intsP, atI_0, atI_1, atI_2, atI_3, wLcU2, wLcV2, wTupZip, wZipN, wStep, wRev, wMaxD, wMinD, rInW_ints]
    exact ⟨_, atI_nats (hn.sw s hs).1, _, atI_nats (hn.sw s hs).2, hR⟩
  · refine ⟨by rw [List.length_map]; omega, ?_⟩
    refine lc_map (fun i : Nat => natP (xs.getD i 0)) trivial (fun s hs R hR => ?_) ?_
    · simp only [wSeq, wAsg, wRet, wRetN, wDrop, wIfS, wVar, wC, wOp, wCall, wCons, wNil, wTup, wTest, wAnd, wOr, wNot, wAndV, wOrV, wNotV, wIf, wNext, wgName, wgTup, wgCons, wgNil, wFor, wSq, wYes, wLcU, wLcV, wLc, uTuple, uAll, uAny, uSum, wNeg, wSl, wPart, wNoPart, rSlW_tup, rAddW, rI0W, rIW, rMulW, rEqW, rIsW, isNonP, seqW_tup, wLst, wipeW, wPar, wPut, wAug, wZip, wEnum, wRng1, wRng2, wChain, List.getElem?_cons_zero, List.getElem?_cons_succ, List.set_cons_zero, List.set_cons_succ, Option.some.injEq, exists_eq_left', exists_eq_left, exists_and_left, exists_eq_right, exists_eq_right', and_assoc, true_and, and_true, List.cons.injEq, and_self, if_true, if_false, Bool.false_eq_true, PV.int.injEq, PV.bl.injEq, PV.tup.injEq, PV.ref.injEq, PV.str.injEq, Bool.false_xor, Bool.true_xor, List.length_cons, List.length_nil, Nat.reduceAdd, Nat.reduceLeDiff, Nat.reduceEqDiff, Prod.mk.injEq, cutP_map, cutP_0, cutP_1, cutP_2, cutP_all, decide_eq_true_eq, startW, endsW, List.map_cons, List.map_nil, List.cons_append, List.nil_append, List.replicate, Nat.reduceSub, rIxW_tup, rLenW_tup, rListW_tup, wMeth, wRngL, wRngT, rIsiW_eq, tyP_non, tyP_bl, tyP_int, tyP_str, tyP_tup, isi_NoneType_int, isi_NoneType_bool, isi_NoneType_str, isi_NoneType_list, isi_NoneType_tuple, isi_NoneType_dict, isi_bool_int, isi_bool_bool, isi_bool_str, isi_bool_list, isi_bool_tuple, isi_bool_dict, isi_int_int, isi_int_bool, isi_int_str, isi_int_list, isi_int_tuple, isi_int_dict, isi_str_int, isi_str_bool, isi_str_str, isi_str_list, isi_str_tuple, isi_str_dict, isi_tuple_int, isi_tuple_bool, isi_tuple_str, isi_tuple_list, isi_tuple_tuple, isi_tuple_dict, isi_list_int, isi_list_bool, isi_list_str, isi_list_list, isi_list_tuple, isi_list_dict, isi_dict_int, isi_dict_bool, isi_dict_str, isi_dict_list, isi_dict_tuple, isi_dict_dict, decide_true, decide_false, Bool.not_true, Bool.not_false, Bool.not_eq_true', decide_eq_false_iff_not, ite_not, natP, swP, natsP, intsP, atI_0, atI_1, atI_2, atI_3, wLcU2, wLcV2, wTupZip, wZipN, wStep, wRev, wMaxD, wMinD, rInW_ints]
      exact ⟨_, atI_nats (hn.ord s hs), hR⟩
    · refine fg_here ?_
      simpa [renN, natsP, List.map_map, Function.comp_def] using h
end
end L4
set_option Elab.async false
set_option linter.all false
namespace L4
open L3
end L4
set_option Elab.async false
set_option linter.all false
namespace L3
end L3
set_option Elab.async false
set_option linter.all false
namespace L3
def on (s : Nat × Nat) (x : Nat) : Prop := x = s.1 ∨ x = s.2
instance (s : Nat × Nat) (x : Nat) : Decidable (on s x) := inferInstanceAs (Decidable (_ ∨ _))
def sh (s t : Nat × Nat) : Prop := on t s.1 ∨ on t s.2
instance (s t : Nat × Nat) : Decidable (sh s t) := inferInstanceAs (Decidable (_ ∨ _))
end L3
set_option Elab.async false
set_option linter.all false
namespace L3
def Even (ns : List Int) : Prop := ∀ (i j : Nat) (x y : Int), i < j → ns[i]? = some x → ns[j]? = some y → 0 ≤ x - y ∧ x - y ≤ 1
end L3
set_option Elab.async false
set_option linter.all false
namespace L3
def Bit (t : Int) : Prop := t = 0 ∨ t = 1
def Bits (ts : List Int) : Prop := ∀ t ∈ ts, Bit t
section
variable {sw : List (Nat × Nat)} {ord : List Nat} {ts u v : List Int}
end
end L3
set_option Elab.async false
set_option linter.all false
namespace L3
def Dv (d : Nat) (z : Int) : Prop := ∃ q : Int, z = 2 ^ d * q
theorem Dv.add {d e f : Nat} {x y : Int} (hx : Dv d x) (hy : Dv e y) (h1 : f ≤ d) (h2 : f ≤ e) : Dv f (x + y) := by
  obtain ⟨p, rfl⟩ := hx
  obtain ⟨q, rfl⟩ := hy
  refine ⟨2 ^ (d - f) * p + 2 ^ (e - f) * q, ?_⟩
  have a1 : (2 : Int) ^ d = 2 ^ f * 2 ^ (d - f) := by rw [← Int.pow_add]; congr 1; omega
  have a2 : (2 : Int) ^ e = 2 ^ f * 2 ^ (e - f) := by rw [← Int.pow_add]; congr 1; omega
  rw [a1, a2, Int.mul_add, Int.mul_assoc, Int.mul_assoc]
theorem Dv.half {d : Nat} {x : Int} (h : Dv (d + 1) x) : ∃ y, x = 2 * y ∧ Dv d y := by
  obtain ⟨q, rfl⟩ := h
  refine ⟨2 ^ d * q, ?_, q, rfl⟩
  rw [Int.pow_succ, Int.mul_comm (2 ^ d) 2, Int.mul_assoc]
theorem gd_some {ws : List Int} {i : Nat} (h : i < ws.length) : ws[i]? = some (ws.getD i 0) := by
  simp [List.getD_eq_getElem?_getD, h]
theorem Even.gd {ns : List Int} (h : Even ns) {i j : Nat} (hij : i < j) (hj : j < ns.length) : 0 ≤ ns.getD i 0 - ns.getD j 0 ∧ ns.getD i 0 - ns.getD j 0 ≤ 1 :=
  h i j _ _ hij (gd_some (by omega)) (gd_some hj)
end L3
set_option Elab.async false
set_option linter.all false
namespace L4
open L3
end L4
set_option Elab.async false
set_option linter.all false
namespace L4
open L3
def vals (u : List Int) (l : List Nat) : List Int := l.map fun x => u.getD x 0
end L4
set_option Elab.async false
set_option linter.all false
namespace L4
open L3
end L4
set_option Elab.async false
set_option linter.all false
set_option maxRecDepth 100000
namespace L4
open PySem PySem.Spec PyProof.Rows L2 L3
end L4
set_option Elab.async false
set_option linter.all false
set_option maxRecDepth 100000
namespace L3
open PySem PySem.Spec PyProof PyProof.Rows L2
section
variable {X : Cx}
def rRng2 : List V → Hp → VK → Prop := fun xs H Q => ∃ i j : Int, xs = [.int i, .int j] ∧ ∀ p, H p = none → Q (.ref p) (upd H p (.rng i j))
theorem call_rng2 : CallR X (.type "range") rRng2 := by
  intro pins s σ H xs us Q I r h
  obtain ⟨i, j, rfl, q⟩ := h
  cases r with
  | cons r1 rr =>
    obtain ⟨u, rfl, t, rfl⟩ := vals1 rr
    obtain ⟨t1, rfl⟩ := r1
    refine call_range_2 ?_
    refine ⟨.ref s.heap.objs.size, _, I.laid (t' := s.toks + 1) (fun b o e => Heap.get?_push_of_some _ e) (Nat.le_refl _) (show ObjOk X.prog X.w _ _ _ (.rng i j) from ⟨_, _, _, Heap.get?_push_size _ rfl⟩), rfl, q _ (I.hok.fresh (Nat.le_refl _))⟩
def fromV (lo : Int) (n : Nat) : List V := (List.range n).map fun (i : Nat) => V.int (lo + (i : Int))
theorem fromV_length (lo : Int) (n : Nat) : (fromV lo n).length = n := by simp [fromV]
theorem vals_fromA (lo : Int) : ∀ (l : List Value) (k : Nat), (∀ (i : Nat) (v : Value), l[i]? = some v → ∃ t, v = Value.int (lo + ((k + i : Nat) : Int)) t) → Vals ((List.range' k l.length).map fun (i : Nat) => V.int (lo + (i : Int))) l
  | [], k, _ => .nil
  | x :: l, k, h => by
    refine .cons ?_ (vals_fromA lo l (k + 1) fun i v hi => ?_)
    · obtain ⟨t, ht⟩ := h 0 x rfl
      exact ⟨t, ht⟩
    · obtain ⟨t, ht⟩ := h (i + 1) v (by simpa using hi)
      exact ⟨t, by rw [ht, show k + 1 + i = k + (i + 1) by omega]⟩
theorem vals_of_itemsA {lo : Int} {n : Nat} {acc : Array Value} (h : ItemsOf (fun i v => ∃ t, v = Value.int (lo + (i : Nat) * 1) t) acc n) : Vals (fromV lo n) acc.toList := by
  obtain ⟨hs, hv⟩ := h
  have e : fromV lo n = (List.range' 0 acc.toList.length).map fun (i : Nat) => V.int (lo + (i : Int)) := by
    rw [Array.length_toList, hs, ← List.range_eq_range']; rfl
  rw [e]
  refine vals_fromA lo _ 0 fun i v hi => ?_
  obtain ⟨t, ht⟩ := hv i v (by simpa using hi)
  exact ⟨t, by rw [ht]; simp⟩
theorem collect_rngA {prog : Program} {w : World} {A : Around} {E : Value → Shared → Prop} {s : Shared} {Q : List Value → Shared → Prop} {r : Addr} {lo b : Int} {t u v : Tok} {n : Nat} (hh : A.handled = none) (hr : IsRange s.heap r lo b 1 t u v) (hsm : Builtin.Range.small lo b 1 = true) (hn : Builtin.Range.rangeSize lo b 1 = n) (hl : n ≤ 2 ^ 24)
    (q : ∀ (h' : Heap) (tk : Nat) (acc : Array Value), (∀ b o, s.heap.get? b = some o → h'.get? b = some o) → ItemsOf (fun i v => ∃ t, v = Value.int (lo + (i : Nat) * 1) t) acc n → Q acc.toList { s with heap := h', toks := tk }) :
    wpAny (model prog w) A (collect (.ref r)) Q E s := by
  unfold collect
  refine wpAny_bind (wpAny_runValue (codeAny_builtin F.entry_proto_collect ?_))
  rw [Around.under_plainId F.plain_proto_collect _]
  refine wpAny_bind (m := newList []) (wpAny_newObj_type (wpAny_pure ⟨plainId_quiet F.plain_list_iadd _, codeAny_builtin F.entry_list_iadd ?_⟩))
  rw [Around.under_plainId F.plain_list_iadd _]
  have hS : (s.heap.push { cls := .type "list", data := .seq ([] : List Value).toArray }).get? s.heap.objs.size = some { cls := .type "list", data := .seq #[] 0 } := Heap.get?_push_size _ rfl
  have last : ∀ h' tk acc' c', (∀ b o, b ≠ s.heap.objs.size → (s.heap.push { cls := .type "list", data := .seq ([] : List Value).toArray }).get? b = some o → h'.get? b = some o) → h'.get? s.heap.objs.size = some { cls := .type "list", dict := none, data := .seq acc' c', slots := #[] } →
      ItemsOf (fun i v => ∃ t, v = Value.int (lo + (i : Nat) * 1) t) acc' n → wpAny (model prog w) A (match Value.ref s.heap.objs.size with
      | Value.ref a => do
        match (← load a).data with
          | Data.seq xs _ => pure xs.toList
          | _ => unsupported "internal:collect"
      | _ => unsupported "internal:collect") Q E { s with heap := h', toks := tk } := fun h' tk acc' c' kp e it => by
    refine wpAny_bind (m := load s.heap.objs.size) (wpAny_load e (wpAny_pure ?_))
    exact q h' tk acc' (fun b o eb => kp b o (Nat.ne_of_lt (Heap.lt_size eb)) (Heap.get?_push_of_some _ eb)) it
  refine wpAny_mono (wpAny_extend_range (A := A) (R := fun r s' => r = .ok (.ret (.ref s.heap.objs.size)) ∧ wpAny (model prog w) A (match Value.ref s.heap.objs.size with
      | Value.ref a => do
        match (← load a).data with
          | Data.seq xs _ => pure xs.toList
          | _ => unsupported "internal:collect"
      | _ => unsupported "internal:collect") Q E s') (s := { s with heap := s.heap.push { cls := .type "list", data := .seq ([] : List Value).toArray } }) hh (Heap.get?_push_of_some _ hr) hsm hn hl _ (.ref s.heap.objs.size) 0 hS
      fun h' tk acc' c' kp e it => ⟨rfl, last h' tk acc' c' kp e it⟩) (fun fin s' h => ?_) (fun e s' h => ?_)
  · cases fin with
    | done f =>
      obtain ⟨e, h⟩ := h
      cases e
      exact h
    | again c' => exact ⟨h.1, codeAny_mono h.2 fun r s'' hr => by obtain ⟨e, h⟩ := hr; cases e; exact h⟩
  · exact absurd h.1 (by simp)
theorem meets_tuple_rngA (r : Addr) (lo b : Int) (t u v : Tok) (n : Nat) (hsm : Builtin.Range.small lo b 1 = true) (hn : Builtin.Range.rangeSize lo b 1 = n) (hl : n ≤ 2 ^ 24) {prog : Program} {w : World} {A : Around} {Q : Value → Shared → Prop} {E : Value → Shared → Prop} {s : Shared} (hh : A.handled = none) (hr : IsRange s.heap r lo b 1 t u v)
    (q : ∀ (h' : Heap) (tk : Nat) (acc : Array Value), (∀ b o, s.heap.get? b = some o → h'.get? b = some o) → ItemsOf (fun i v => ∃ t, v = Value.int (lo + (i : Nat) * 1) t) acc n → Q (.ref h'.objs.size) { s with heap := h'.push { cls := .type "tuple", data := .seq acc }, toks := tk }) :
    codeAny (model prog w) A (.call (.builtin "tuple.__new__") ⟨[.type "tuple", .ref r], []⟩) (wants Q E) s := by
  refine codeAny_of_tree ?_
  show wpAny _ A.in1 (do checkBuiltinCall "tuple.__new__" ⟨[.type "tuple", .ref r], []⟩; again (.builtin "tuple.__new__" ⟨[.type "tuple", .ref r], []⟩)) _ _ s
  refine wpAny_bind (wpAny_of_eq (F.newCall_tuple_1 _) (wpAny_pure ⟨plainId_quiet F.plain_tuple_new _, codeAny_builtin F.entry_tuple_new ?_⟩))
  rw [Around.under_plainId F.plain_tuple_new _]
  have hsub := sub_tuple_self
  have hinit := init_tuple_lookup
  have hmh := madeHere_tuple
  have hT : s.TypeIs (.ref r) "range" := ⟨_, hr, rfl⟩
  have hh1 : A.in1.handled = none := hh
  wp_walk using wpAny_typeOf hT, collect_rngA hh1 hr hsm hn hl
  intro h' tk acc kp it
  show wpAny _ _ (Builtin.Tuple.tupleExact acc.toList.toArray >>= fun v => ret v) _ _ _
  unfold Builtin.Tuple.tupleExact
  have e : acc.toList.toArray = acc := by simp
  rw [e]
  refine wpAny_bind (wpAny_newObj_type (wpAny_pure (q h' tk acc kp it)) (by show acc.size ≤ sizeLine; rw [it.1]; exact hl))
theorem call_tuple_rngA {r : Addr} {lo b : Int} {t u v : Tok} {n : Nat} (hsm : Builtin.Range.small lo b 1 = true) (hn : Builtin.Range.rangeSize lo b 1 = n) (hl : n ≤ 2 ^ 24) {prog : Program} {w : World} {A : Around} {Q : Value → Shared → Prop} {E : Value → Shared → Prop} {s : Shared} (hh : A.handled = none) (hr : IsRange s.heap r lo b 1 t u v)
    (q : ∀ (h' : Heap) (tk : Nat) (acc : Array Value), (∀ b o, s.heap.get? b = some o → h'.get? b = some o) → ItemsOf (fun i v => ∃ t, v = Value.int (lo + (i : Nat) * 1) t) acc n → Q (.ref h'.objs.size) { s with heap := h'.push { cls := .type "tuple", data := .seq acc }, toks := tk }) :
    wpAny (model prog w) A (call (.type "tuple") [.ref r]) Q E s := by
  refine callType_codes (Q₁ := fun obj s₁ => s₁.TypeIs obj "tuple" ∧ Q obj s₁) F.called_tuple (F.typeCall_tuple_1 _) F.entry_object_init
    (meets_tuple_rngA r lo b t u v n hsm hn hl hh hr fun h' tk acc kp it => ⟨⟨_, Heap.get?_push_size _ rfl, rfl⟩, q h' tk acc kp it⟩) fun obj s₁ h₁ => ?_
  exact ⟨h₁.1, F.args_object_init_2 obj _, object_init_meets F.called_tuple.init.lookup F.called_tuple.made (by decide) prog w A.in1 _ s₁ ⟨h₁.1, rfl, h₁.2⟩⟩
def rTupRng2 : List V → Hp → VK → Prop := fun xs H Q => ∃ p i j, xs = [.ref p] ∧ H p = some (.rng i j) ∧ 0 ≤ i ∧ i ≤ j ∧ j ≤ 65536 ∧ ∀ l, H l = none → Q (.ref l) (upd H l (.tup (fromV i (j - i).toNat)))
theorem call_tup_rng2 (hc : X.calm = true) : CallR X (.type "tuple") rTupRng2 := by
  intro pins s σ H xs us Q I r h
  obtain ⟨p, i, j, rfl, hp, hi0, hij, hj, q⟩ := h
  obtain ⟨u, rfl, rx⟩ := vals1 r
  cases rx
  obtain ⟨t, u, v, hr⟩ := I.hok p _ hp
  have hz : Builtin.Range.rangeSize i j 1 = ((j - i).toNat : Int) := by rw [rangeSize_one]; split <;> omega
  refine call_tuple_rngA (small_one (by omega) (by omega) (by omega) (by omega)) hz (by omega) (I.ok.hd hc) hr fun h' tk acc kp it => ?_
  have I1 : Inv X pins σ H { s with heap := h', toks := tk } := I.kept kp
  have I2 : Inv X pins σ (upd H h'.objs.size (.tup (fromV i (j - i).toNat))) { s with heap := h'.push { cls := .type "tuple", data := .seq acc }, toks := tk } :=
    I1.laid (t' := tk) (fun b o e => Heap.get?_push_of_some _ e) (Nat.le_refl _) (show ObjOk X.prog X.w _ _ _ (.tup (fromV i (j - i).toNat)) from ⟨by rw [fromV_length]; have := small65536; omega, acc.toList, vals_of_itemsA it, by simpa using IsTupD.new h' acc⟩)
  exact ⟨.ref h'.objs.size, _, I2, rfl, q _ (I1.hok.fresh (Nat.le_refl _))⟩
end
end L3
set_option Elab.async false
set_option linter.all false
set_option maxRecDepth 100000
namespace L4
open PySem PySem.Spec PyProof.Rows L2 L3
section
variable {Ts : List Addr} {X : Cx} {a b : Expr} {wa wb : WE} {pos : Pos}
theorem from_rps {K : PySem.W.Frag} {M : Map} {n : Nat} {H : Hp} (lo : Int) (k : Nat) : RPs K M n H (rngP lo k) (fromV lo k) := by
  have h := RPs.ints (K := K) (M := M) (n := n) (H := H) ((List.range k).map fun (i : Nat) => lo + (i : Int))
  unfold rngP fromV
  rw [List.map_map, List.map_map] at h
  exact h
def wRngT2 (wa wb : WE) : WE := fun τ S Q => wa τ S fun x S1 => wb τ S1 fun y S2 => ∃ i j, x = .int i ∧ y = .int j ∧ 0 ≤ i ∧ i ≤ j ∧ j ≤ 65536 ∧ Q (.tup (rngP i (j - i).toNat)) S2
theorem se_rngT2 {p1 p2 pos2 : Pos} (hc : X.calm = true) (hg1 : Gl X "tuple") (hm1 : X.mg "tuple" = none) (hg2 : Gl X "range") (hm2 : X.mg "range" = none) (ha : SE Ts X a wa) (hb : SE Ts X b wb) (hs : starEach [a, b] X.env = (false, eval a X.env) :: starEach [b] X.env := by rfl) (hs1 : starEach [b] X.env = (false, eval b X.env) :: starEach [] X.env := by rfl)
    (hs2 : starEach [Expr.Call (.Name "range" p2) [a, b] [] pos2] X.env = (false, eval (Expr.Call (.Name "range" p2) [a, b] [] pos2) X.env) :: starEach [] X.env := by rfl) :
    SE Ts X (.Call (.Name "tuple" p1) [.Call (.Name "range" p2) [a, b] [] pos2] [] pos) (wRngT2 wa wb) := by
  have sa := sa_cons ha (sa_cons hb sa_nil hs1) hs
  refine ⟨pe_imp (pe_callTy (call_tup_rng2 hc) hg1 hm1 (by decide +kernel) (pa_cons (pe_callTy call_rng2 hg2 hm2 (by decide +kernel) sa.pa (by decide) (by decide) hs (by rw [hs1]; rfl)) pa_nil hs2) (by decide) (by decide) hs2 (by rfl)) fun σ H Q h => ?_, fun τ S Q Q' q k => ha.mo _ _ _ _ q fun v S1 q => hb.mo _ _ _ _ q fun v2 S2 ⟨i, j, h1, h2, h3, h4, h5, q⟩ => ⟨i, j, h1, h2, h3, h4, h5, k _ _ q⟩⟩
  obtain ⟨M, S, τ, s, st, h⟩ := h
  refine runA sa.mo s st (show wCons wa (wCons wb wNil) τ S (fun vs S2 => ∃ i j, vs = [.int i, .int j] ∧ 0 ≤ i ∧ i ≤ j ∧ j ≤ 65536 ∧ upQ Ts X.K M S.length H Q (.tup (rngP i (j - i).toNat)) S2) from ha.mo _ _ _ _ h fun x S1 q => hb.mo _ _ _ _ q fun y S2 ⟨i, j, h1, h2, h3, h4, h5, q⟩ => ⟨i, j, by rw [h1, h2], h3, h4, h5, q⟩) fun vs S1 M1 H1 us f t1 s1 r1 => ?_
  obtain ⟨i, j, rfl, h3, h4, h5, q⟩ := f
  obtain ⟨u1, u2, rfl, r2, r3⟩ := r1.two
  cases r2; cases r3
  refine ⟨i, j, rfl, fun p hp => ?_⟩
  obtain ⟨s2, t2⟩ := s1.beside (o := .rng i j) hp
  exact ⟨p, i, j, rfl, upd_same, h3, h4, h5, (q.base (t1.trans t2)).tup s2 (from_rps _ _)⟩
end
end L4
set_option Elab.async false
set_option linter.all false
set_option maxRecDepth 100000
namespace L4
open PySem PySem.Spec PyProof.Rows L2 L3
inductive Sh : Nat → PyData → Prop
  | non {n : Nat} : Sh n .none
  | bl {n : Nat} (b : Bool) : Sh n (.bool b)
  | int {n : Nat} (i : Int) : Sh n (.int i)
  | str {n : Nat} {x : Str} (h : PyData.strOk x = true) : Sh n (.str x)
  | tup {n : Nat} {ds : List PyData} (h : ∀ d ∈ ds, Sh n d) : Sh (n + 1) (.tuple ds)
  | lst {n : Nat} {ds : List PyData} (h : ∀ d ∈ ds, Sh n d) : Sh (n + 1) (.list ds)
theorem all_lay : ∀ {ds : List PyData}, (∀ d ∈ ds, PyData.canLay0 d = true) → PyData.canLayAll0 ds = true
  | [], _ => rfl
  | d :: ds, h => by
    show (PyData.canLay0 d && PyData.canLayAll0 ds) = true
    rw [h d List.mem_cons_self, all_lay fun e he => h e (List.mem_cons_of_mem _ he)]; rfl
theorem all_dep {n : Nat} : ∀ {ds : List PyData}, (∀ d ∈ ds, PyData.depth d ≤ n) → PyData.depthAll ds ≤ n
  | [], _ => Nat.zero_le _
  | d :: ds, h => by
    show max (PyData.depth d) (PyData.depthAll ds) ≤ n
    exact Nat.max_le.mpr ⟨h d List.mem_cons_self, all_dep fun e he => h e (List.mem_cons_of_mem _ he)⟩
theorem Sh.ok {n : Nat} {d : PyData} (h : Sh n d) : PyData.canLay0 d = true ∧ PyData.depth d ≤ n := by
  induction h with
  | non => exact ⟨rfl, Nat.zero_le _⟩
  | bl => exact ⟨rfl, Nat.zero_le _⟩
  | int => exact ⟨rfl, Nat.zero_le _⟩
  | str h => exact ⟨h, Nat.zero_le _⟩
  | tup h ih => exact ⟨all_lay fun d hd => (ih d hd).1, Nat.succ_le_succ (all_dep fun d hd => (ih d hd).2)⟩
  | lst h ih => exact ⟨all_lay fun d hd => (ih d hd).1, Nat.succ_le_succ (all_dep fun d hd => (ih d hd).2)⟩
theorem Sh.shaped {n : Nat} {d : PyData} (h : Sh n d) (hn : n ≤ 64 := by decide) : SeqAt.shaped d = true := by
  show (PyData.canLay0 d && decide (PyData.depth d ≤ 64)) = true
  rw [h.ok.1, decide_eq_true (Nat.le_trans h.ok.2 hn)]; rfl
theorem Sh.map {α : Type} {n : Nat} {g : α → PyData} {l : List α} (h : ∀ a ∈ l, Sh n (g a)) : ∀ d ∈ l.map g, Sh n d := fun d hd => by
  obtain ⟨a, ha, rfl⟩ := List.mem_map.mp hd
  exact h a ha
theorem eqW_same {neg : Bool} {n : Nat} {x y : PV} {d : PyData} {S : Sto} {Q : WQ} (hx : DV S x d) (hy : DV S y d) (h : Sh n d) (q : Q (.bl (neg ^^ true)) S) (hn : n ≤ 64 := by decide) : rEqW neg x y S Q := by
  have e : PyData.eqv d d = true := SeqAt.eqv_refl d h.ok.1
  have g : ∃ d' e', DV S x d' ∧ DV S y e' ∧ SeqAt.shaped d' = true ∧ SeqAt.shaped e' = true ∧ Q (.bl (neg ^^ PyData.eqv d' e')) S := ⟨d, d, hx, hy, h.shaped hn, h.shaped hn, by rw [e]; exact q⟩
  cases hx <;> cases hy <;> first
    | exact g
    | (show Q (.bl (neg ^^ decide (_ = _))) S; rw [decide_eq_true rfl]; exact q)
inductive NoB : PyData → Prop
  | non : NoB .none
  | int (i : Int) : NoB (.int i)
  | str (x : Str) : NoB (.str x)
  | tup {ds : List PyData} (h : ∀ d ∈ ds, NoB d) : NoB (.tuple ds)
  | lst {ds : List PyData} (h : ∀ d ∈ ds, NoB d) : NoB (.list ds)
theorem eqv_all {ds : List PyData} (ih : ∀ d ∈ ds, ∀ e, NoB e → PyData.eqv d e = true → d = e) : ∀ es : List PyData, (∀ e ∈ es, NoB e) → PyData.eqvAll ds es = true → ds = es := by
  induction ds with
  | nil => intro es _ q; cases es with
    | nil => rfl
    | cons _ _ => cases q
  | cons d ds ihd => intro es he q; cases es with
    | nil => cases q
    | cons e es =>
      have q' : (PyData.eqv d e && PyData.eqvAll ds es) = true := q
      obtain ⟨q1, q2⟩ := Bool.and_eq_true_iff.mp q'
      rw [ih d List.mem_cons_self e (he e List.mem_cons_self) q1, ihd (fun d hd => ih d (List.mem_cons_of_mem _ hd)) es (fun e h => he e (List.mem_cons_of_mem _ h)) q2]
theorem NoB.eqv {d : PyData} (h : NoB d) : ∀ e, NoB e → PyData.eqv d e = true → d = e := by
  induction h with
  | non => intro e he q; cases he <;> first | rfl | (simp [PyData.eqv] at q)
  | int i => intro e he q; cases he <;> first | (simp [PyData.eqv] at q; rw [q]) | (simp [PyData.eqv] at q)
  | str x => intro e he q; cases he <;> first | (simp [PyData.eqv] at q; rw [q]) | (simp [PyData.eqv] at q)
  | tup h ih => intro e he q; cases he with
    | tup h' => rw [PyData.eqv] at q; rw [eqv_all ih _ h' q]
    | _ => simp [PyData.eqv] at q
  | lst h ih => intro e he q; cases he with
    | lst h' => rw [PyData.eqv] at q; rw [eqv_all ih _ h' q]
    | _ => simp [PyData.eqv] at q
section
variable {S : Sto} {Q : WQ} {neg : Bool} {i j : Int} {x y : Str} {a b : Bool} {xs ys : List PV}
theorem rEqW_ii : rEqW neg (.int i) (.int j) S Q = Q (.bl (neg ^^ decide (i = j))) S := rfl
theorem rEqW_bb : rEqW neg (.bl a) (.bl b) S Q = Q (.bl (neg ^^ decide (a = b))) S := rfl
theorem rEqW_ss : rEqW neg (.str x) (.str y) S Q = Q (.bl (neg ^^ decide (x = y))) S := rfl
theorem rIsW_n {v : PV} : rIsW neg v .non S Q = Q (.bl (neg ^^ isNonP v)) S := by cases v <;> rfl
theorem rIsW_bb : rIsW neg (.bl a) (.bl b) S Q = Q (.bl (neg ^^ (a == b))) S := rfl
theorem rAddW_ii : rAddW (.int i) (.int j) S Q = Q (.int (i + j)) S := rfl
theorem rAddW_ss : rAddW (.str x) (.str y) S Q = (x.length + y.length ≤ 16777216 ∧ Q (.str (x ++ y)) S) := rfl
theorem rAddW_tt : rAddW (.tup xs) (.tup ys) S Q = (xs.length + ys.length ≤ 16777216 ∧ Q (.tup (xs ++ ys)) S) := rfl
theorem rAddW_ll {p q : Nat} (h1 : S[p]? = some (.lst xs)) (h2 : S[q]? = some (.lst ys)) : rAddW (.ref p) (.ref q) S Q = (xs.length + ys.length ≤ 16777216 ∧ Q (.ref S.length) (S ++ [.lst (xs ++ ys)])) := by
  show (∃ xs ys, S[p]? = some (.lst xs) ∧ S[q]? = some (.lst ys) ∧ xs.length + ys.length ≤ 16777216 ∧ Q (.ref S.length) (S ++ [.lst (xs ++ ys)])) = _
  rw [h1, h2]
  simp
theorem rIW_ii {C : Int → Int → Prop} {g : Int → Int → PV} : rIW C g (.int i) (.int j) S Q = (C i j ∧ Q (g i j) S) := rfl
theorem rI0W_ii {g : Int → Int → PV} : rI0W g (.int i) (.int j) S Q = Q (g i j) S := rfl
theorem rMulW_ii : rMulW (.int i) (.int j) S Q = (CMul i j ∧ Q (.int (i * j)) S) := rfl
theorem rMulW_ti : rMulW (.tup xs) (.int j) S Q = (-9223372036854775808 ≤ j ∧ j < 9223372036854775808 ∧ xs.length * j.toNat ≤ 16777216 ∧ Q (.tup (List.replicate j.toNat xs).flatten) S) := rfl
theorem rIntW_i : rIntW [.int i] S Q = Q (.int i) S := rfl
theorem rIntW_b : rIntW [.bl a] S Q = Q (.int (if a = true then 1 else 0)) S := by cases a <;> rfl
theorem rMax2W_ii : rMax2W [.int i, .int j] S Q = Q (.int (if j > i then j else i)) S := rfl
theorem rMin2W_ii : rMin2W [.int i, .int j] S Q = Q (.int (if j < i then j else i)) S := rfl
theorem seqW_lst {p : Nat} (h : S[p]? = some (.lst xs)) : seqW S (.ref p) = some (false, xs) := seqW_ref h
end
end L4
set_option Elab.async false
set_option linter.all false
set_option maxRecDepth 100000
namespace L4
open PySem PySem.Spec PyProof.Rows L2 L3
theorem loop_rngF {g : WG} {t : WS} {lo : Int} {n : Nat} {D : WEnds} {τ : Ev} {S : Sto} {G : Sto → Prop} (hG : ∀ S, G S) (I : Nat → Ev → Sto → Prop) (h0 : I 0 τ S)
    (step : ∀ i τ S (N : Ev → Sto → Prop), i < n → I i τ S → (∀ τ' S', I (i + 1) τ' S' → N τ' S') → g (.int (lo + (i : Int))) τ fun τ1 => t ⟨N, D.rt, D.nx, N⟩ τ1 S)
    (fin : ∀ τ S, I n τ S → D.nx τ S) : wLoop g t G (rngP lo n) D τ S := by
  rw [rngP_map]
  refine loop_map I h0 (fun i a τ S N ha hI hN => ⟨hG S, ?_⟩) (fun τ S hI => ⟨hG S, fin τ S (by rw [List.length_range] at hI; exact hI)⟩)
  obtain ⟨h1, h2⟩ := List.getElem?_eq_some_iff.mp ha
  rw [List.getElem_range] at h2
  subst h2
  exact step i τ S N (by simpa using h1) hI hN
end L4
set_option Elab.async false
set_option linter.all false
set_option maxRecDepth 100000
namespace L4
open PySem PySem.Spec PyProof.Rows L2 L3
section
variable {K : PySem.W.Frag} {M : Map} {n : Nat} {H : Hp} {f : Str}
theorem KR.lookup : ∀ {v : List (Str × PV)} {u : List (Str × V)}, KR K M n H v u → (v.lookup f = none ∧ u.lookup f = none) ∨ ∃ x y, v.lookup f = some x ∧ u.lookup f = some y ∧ RP K M n H x y
  | _, _, .nil => .inl ⟨rfl, rfl⟩
  | _, _, .cons (k := j) (x := x) (u := y) (xs := xs) (us := us) r t => by
    by_cases e : f = j
    · have hb : (f == j) = true := beq_iff_eq.mpr e
      refine .inr ⟨x, y, ?_, ?_, r⟩ <;> simp only [List.lookup, hb]
    · have hb : (f == j) = false := beq_eq_false_iff_ne.mpr e
      simp only [List.lookup, hb]
      exact KR.lookup t
end
section
variable {K : PySem.W.Frag} {M : Map} {S : Sto} {H : Hp} {C : Addr}
theorem Sim.ins (s : Sim Ts K M S H) {i : Nat} {fs : List (Str × PV)} (h : S[i]? = some (.ins C fs)) : ∃ us, H (M.m i) = some (.ins C (M.q i) us) ∧ H (M.q i) = some (.own (M.m i)) ∧ KR K M S.length H fs us := s.ob i _ h
end
section
variable {X : Cx} {e o value : Expr} {es : List Expr} {we wo wv : WE} {w : WA} {C : Addr} {f m x : Str} {pos apos pos' tpos p : Pos}
end
end L4
set_option Elab.async false
set_option linter.all false
set_option maxRecDepth 100000
namespace L4
open PySem PySem.Spec PyProof.Rows L2 L3
section
variable {K : PySem.W.Frag} {M : Map} {S : Sto} {H : Hp}
theorem upQ.dct {Q : VK} {xs : List (Key × PV)} {us : List (Key × V)} (h : upQ Ts K M S.length H Q (.ref S.length) (S ++ [.dct xs])) (s : Sim Ts K M S H) (r : KR K M S.length H xs us) : ∀ p, H p = none → Q (.ref p) (upd H p (.dK us)) := fun p hp => by
  obtain ⟨s1, t1⟩ := s.alloc (o := .dK us) (ob := .dct xs) hp (fun M' H' t e => ⟨rfl, us, e, r.mono t.le t.m t.tup t.scr⟩)
  refine h _ _ _ t1 s1 ?_
  have := RP.ref (K := K) (M := M.add S.length p p) (n := (S ++ [Ob.dct xs]).length) (H := upd H p (.dK us)) (i := S.length) (by simp)
  rw [M.add_m] at this
  exact this
end
def keysW : List (PV × PV) → Option (List (Key × PV))
  | [] => some []
  | (x, y) :: r => match keyW x, keysW r with
    | some k, some l => some ((k, y) :: l)
    | _, _ => none
def mergeP (kvs more : List (Key × PV)) : List (Key × PV) := more.foldl (fun acc kv => putP acc kv.1 kv.2) kvs
inductive PRs (K : PySem.W.Frag) (M : Map) (n : Nat) (H : Hp) : List (PV × PV) → List (V × V) → Prop
  | nil : PRs K M n H [] []
  | cons {x y : PV} {u v : V} {xs : List (PV × PV)} {us : List (V × V)} : RP K M n H x u → RP K M n H y v → PRs K M n H xs us → PRs K M n H ((x, y) :: xs) ((u, v) :: us)
theorem PRs.keys {K : PySem.W.Frag} {M : Map} {n : Nat} {H : Hp} : ∀ {ps : List (PV × PV)} {us : List (V × V)} {kvs : List (Key × PV)}, PRs K M n H ps us → keysW ps = some kvs → ∃ ws : List (Key × V), us = ws.map (fun kv => (kV kv.1, kv.2)) ∧ KR K M n H kvs ws
  | _, _, _, .nil, e => by cases e; exact ⟨[], rfl, .nil⟩
  | _, _, _, .cons (x := x) (y := y) (xs := xs) r1 r2 t, e => by
    unfold keysW at e
    cases h1 : keyW x with
    | none => rw [h1] at e; simp at e
    | some k =>
      cases h2 : keysW xs with
      | none => rw [h1, h2] at e; simp at e
      | some l =>
        rw [h1, h2] at e
        cases e
        obtain ⟨ws, e1, r3⟩ := PRs.keys t h2
        obtain rfl := key_rp r1 h1
        exact ⟨(k, _) :: ws, by rw [e1]; rfl, .cons r2 r3⟩
theorem KR.merge {K : PySem.W.Frag} {M : Map} {n : Nat} {H : Hp} : ∀ {more : List (Key × PV)} {rs : List (Key × V)} {kvs : List (Key × PV)} {vs : List (Key × V)}, KR K M n H more rs → KR K M n H kvs vs → KR K M n H (mergeP kvs more) (mergeK vs rs)
  | _, _, _, _, .nil, q => q
  | _, _, kvs, vs, .cons (k := k) (x := x) (u := u) (xs := xs) (us := us) r t, q => by
    show KR K M n H (mergeP (putP kvs k x) xs) (mergeK (putK vs k u) us)
    exact KR.merge t (q.put r k)
section
variable {X : Cx} {pos : Pos}
theorem PRs.stp {K : PySem.W.Frag} {M M' : Map} {n n' : Nat} {H H' : Hp} (t : Stp Ts K M n H M' n' H') : ∀ {ps : List (PV × PV)} {us : List (V × V)}, PRs K M n H ps us → PRs K M' n' H' ps us
  | _, _, .nil => .nil
  | _, _, .cons a b c => .cons (a.stp t) (b.stp t) (PRs.stp t c)
end
end L4
set_option Elab.async false
set_option linter.all false
set_option maxRecDepth 100000
namespace L3
open PySem PySem.Spec PyProof PyProof.Rows L2
section
variable {prog : Program} {w : World} {A : Around} {E : Value → Shared → Prop} {s : Shared}
end
section
variable {X : Cx}
end
end L3
set_option Elab.async false
set_option linter.all false
set_option maxRecDepth 100000
namespace L3
open PySem PySem.Spec PyProof.Rows L2
section
variable {X : Cx}
end
end L3
set_option Elab.async false
set_option linter.all false
set_option maxRecDepth 100000
namespace L4
open PySem PySem.Spec PyProof.Rows L2 L3
section
variable {K : PySem.W.Frag} {M : Map} {S : Sto} {H : Hp}
end
section
variable {X : Cx}
end
end L4
namespace L4
open PySem PySem.Spec PyProof.Rows L2 L3
end L4
set_option Elab.async false
set_option linter.all false
set_option maxRecDepth 100000
namespace L4
open PySem PySem.Spec PyProof.Rows L2 L3
section
variable {K : PySem.W.Frag} {M : Map} {S : Sto} {H H' : Hp}
end
theorem pen_at {S G : Sto} {j : Nat} {o : Ob} (h : S[j]? = some o) : (S ++ G)[j]? = some o := by rw [List.getElem?_append_left (List.getElem?_eq_some_iff.mp h).1]; exact h
end L4
set_option Elab.async false
set_option linter.all false
set_option maxRecDepth 100000
namespace L4
open PySem PySem.Spec PyProof.Rows L2 L3
theorem fg_cut {n : Nat} {Q : WQ} {v : PV} {A G : Sto} (hn : n ≤ A.length) (c : Closed A.length A) (hv : v.Cl A.length) (h : Q v A) : Fg n Q v (A ++ G) := by
  refine .inr ⟨A.length, hn, by simp, hv, ?_, ?_⟩
  · rw [List.take_left]; exact c
  · rw [List.take_left]; exact h
/-- the store has grown -/
def Pre (S S' : Sto) : Prop := ∃ G, S' = S ++ G
theorem Pre.refl (S : Sto) : Pre S S := ⟨[], by simp⟩
theorem Pre.trans {S S1 S2 : Sto} (a : Pre S S1) (b : Pre S1 S2) : Pre S S2 := by
  obtain ⟨G, rfl⟩ := a
  obtain ⟨G', rfl⟩ := b
  exact ⟨G ++ G', by rw [List.append_assoc]⟩
theorem Pre.add (S G : Sto) : Pre S (S ++ G) := ⟨G, rfl⟩
theorem Pre.get {S S' : Sto} (a : Pre S S') {i : Nat} {o : Ob} (h : S[i]? = some o) : S'[i]? = some o := by
  obtain ⟨G, rfl⟩ := a
  exact pen_at h
theorem Pre.len {S S' : Sto} (a : Pre S S') : S.length ≤ S'.length := by
  obtain ⟨G, rfl⟩ := a
  simp
/-- a thing behind it may change -/
theorem Pre.set {S S' : Sto} (a : Pre S S') {k : Nat} {o : Ob} (h : S.length ≤ k) : Pre S (S'.set k o) := by
  obtain ⟨G, rfl⟩ := a
  exact ⟨G.set (k - S.length) o, List.set_append_right _ _ h⟩
theorem pl0 {A : Sto} {n : Nat} (hn : A.length = n) {x : Ob} {G : Sto} : (A ++ x :: G)[n]? = some x := by subst hn; rw [List.getElem?_append_right (Nat.le_refl _), Nat.sub_self]; rfl
theorem st0 {A : Sto} {n : Nat} (hn : A.length = n) {x z : Ob} {G : Sto} : (A ++ x :: G).set n z = A ++ z :: G := by subst hn; rw [List.set_append_right _ _ (Nat.le_refl _), Nat.sub_self]; rfl
theorem st1 {A : Sto} {n : Nat} (hn : A.length = n) {x y z : Ob} {G : Sto} : (A ++ x :: y :: G).set (n + 1) z = A ++ x :: z :: G := by subst hn; rw [List.set_append_right _ _ (by omega), show A.length + 1 - A.length = 1 by omega]; rfl
end L4
set_option Elab.async false
set_option linter.all false
set_option maxRecDepth 100000
namespace L4
open PySem PySem.Spec PyProof.Rows L2 L3
section
variable {X : Cx} {e o i p j : Expr} {wv wo wi wp wj : WE} {pos : Pos}
end
end L4
set_option Elab.async false
set_option linter.all false
set_option maxRecDepth 100000
namespace L3
open PySem PySem.Spec PyProof.Rows L2
section
variable {X : Cx}
end
end L3
set_option Elab.async false
set_option linter.all false
set_option maxRecDepth 100000
namespace L4
open PySem PySem.Spec PyProof.Rows L2 L3
section
variable {X : Cx} {pos : Pos}
end
end L4
set_option Elab.async false
set_option linter.all false
set_option maxRecDepth 100000
namespace L4
open PySem PySem.Spec PyProof.Rows L2 L3
section
variable {X : Cx} {a b e o i tg : Expr} {wa wb wo wi : WE} {pos : Pos}
def keyP : Key → PV
  | .inl i => .int i
  | .inr x => .str x
theorem KR.keys {K : PySem.W.Frag} {M : Map} {n : Nat} {H : Hp} : ∀ {v : List (Key × PV)} {u : List (Key × V)}, KR K M n H v u → RPs K M n H (v.map fun kv => keyP kv.1) (u.map fun kv => kV kv.1)
  | _, _, .nil => .nil
  | _, _, .cons (k := k) r t => .cons (by cases k <;> first | exact .int _ | exact .str _) (KR.keys t)
theorem KR.get {κ : Type} {K : PySem.W.Frag} {M : Map} {n : Nat} {H : Hp} : ∀ {v : List (κ × PV)} {u : List (κ × V)} {i : Nat} {k : κ} {x : PV}, KR K M n H v u → v[i]? = some (k, x) → ∃ y, u[i]? = some (k, y) ∧ RP K M n H x y
  | _, _, _, _, _, .nil, e => by simp at e
  | _, _, 0, _, _, .cons r _, e => by simp at e; obtain ⟨rfl, rfl⟩ := e; exact ⟨_, rfl, r⟩
  | _, _, i + 1, k, x, .cons _ t, e => by
    obtain ⟨y, h1, h2⟩ := KR.get (i := i) (k := k) (x := x) t (by simpa using e)
    exact ⟨y, by simpa using h1, h2⟩
end
end L4
set_option Elab.async false
set_option linter.all false
set_option maxRecDepth 100000
namespace L4
open PySem PySem.Spec PyProof.Rows L2 L3
section
variable {X : Cx}
end
section
variable {X : Cx} {a b c e elt iter tg iter1 tg1 : Expr} {ifs ifs1 : List Expr} {scope : Scope} {own : List (Str × Nat)} {pos : Pos} {wi wi1 : WI} {g g1 : TG} {wg wg1 : WG} {wt wt1 : WT} {wa we : WE} {vs1 : List Nat}
end
end L4
set_option Elab.async false
set_option linter.all false
set_option maxRecDepth 100000
namespace L4
open PySem PySem.Spec PyProof.Rows L2 L3
section
variable {X : Cx}
end
end L4
set_option Elab.async false
set_option linter.all false
set_option maxRecDepth 100000
namespace L4
open PySem PySem.Spec PyProof.Rows L2 L3
end L4
set_option Elab.async false
set_option linter.all false
set_option maxRecDepth 100000
namespace L4
open PySem PySem.Spec PyProof.Rows L2 L3
section
variable {Ts : List Addr}
variable {X : Cx} {a b c e elt iter tg iter1 tg1 : Expr} {ifs ifs1 : List Expr} {scope : Scope} {own : List (Str × Nat)} {pos : Pos} {wi wi1 : WI} {g g1 : TG} {wg wg1 : WG} {wt wt1 : WT} {wa we : WE} {vs1 : List Nat}
end
end L4
set_option Elab.async false
set_option linter.all false
set_option maxRecDepth 100000
namespace L3
open PySem PySem.Spec PyProof.Rows L2
section
variable {X : Cx}
theorem countU {x : V} : ∀ {xs : List V} {us : List Value}, Vals xs us → xs.all flatV = true → us.countP (eqU x) = xs.countP (fun y => eqV y x)
  | _, _, .nil, _ => rfl
  | y :: xs, u :: us, .cons r t, f => by
    rw [List.all_cons, Bool.and_eq_true] at f
    rw [List.countP_cons, List.countP_cons, countU t f.2, eqU_of r f.1]
def rLCount (K : PySem.W.Frag) : V → List V → Hp → VK → Prop := fun x xs H Q => ∃ (a : Addr) (ys : List V) (y : V), x = V.ref a ∧ xs = [y] ∧ SqL K H a ys ∧ flatV y = true ∧ ys.all flatV = true ∧ Q (.int ((ys.countP (fun z => eqV z y) : Nat) : Int)) H
theorem mt_lcount : MtR X "list.count" (rLCount X.K) := by
  intro pins s σ H x xs v us Q I rx rxs h
  obtain ⟨a, ys, y, rfl, rfl, hs, fy, fys, q⟩ := h
  cases rx
  cases rxs with
  | cons ry rt =>
    rename_i uy ut
    cases rt
    obtain ⟨its, rv, ⟨⟨cls, dd, data, sl⟩, n, ho, hc, hdn, hd⟩, hlen⟩ := I.list hs
    simp only at hc hd
    subst hc hd
    refine call_meets PySem.F.slot_list_count ⟨_, ho, rfl⟩ PySem.F.entry_list_count (PySem.F.args_list_count_2 _ _)
      (SeqAt.list_countAt a its.toArray n dd sl uy (eqU y)) ⟨ho, fun u' hu' => mem_eqAt ry fy rv fys u' (by simpa using hu'), ?_⟩
    refine ⟨.int ((ys.countP (fun z => eqV z y) : Nat) : Int), H, I.tok _, ⟨s.toks, ?_⟩, q⟩
    rw [← countU rv fys]
end
end L3
set_option Elab.async false
set_option linter.all false
set_option maxRecDepth 100000
namespace L4
open PySem PySem.Spec PyProof.Rows L2 L3
section
variable {Ts : List Addr} {X : Cx}
end
end L4
set_option Elab.async false
set_option linter.all false
set_option maxRecDepth 100000
namespace L4
open PySem PySem.Spec PyProof.Rows L2 L3
section
variable {Ts : List Addr} {X : Cx}
end
end L4
set_option Elab.async false
set_option linter.all false
set_option maxRecDepth 100000
namespace L3
open PySem PySem.Spec PyProof.Rows L2
theorem Chg.more {F F' : List Addr} {h0 h h' : Heap} {H : Hp} (c : Chg F h0 H h h') (hF : ∀ b ∈ F, b ∈ F') : Chg F' h0 H h h' := ⟨fun b o g n z => c.keep b o g n fun y => z (hF b y), c.slot⟩
section
variable {X : Cx} {pins : List (Addr × Obj)} {σ σ0 : L2.St} {H H0 H' : Hp} {s s0 : Shared} {h' : Heap}
/-- what was there at an earlier state is kept, frames up to slots -/
theorem inv_chg (I0 : Inv X pins σ0 H0 s0) (I : Inv X pins σ H s) (c : Chg (frs X.stack) s0.heap H s.heap h') (hx : X.ex = []) : Inv X pins σ H { s with heap := h' } := by
  have nex : ∀ b : Addr, b ∉ X.ex := fun b z => by rw [hx] at z; cases z
  have old : ∀ b o, X.s_0.heap.get? b = some o → s0.heap.get? b ≠ none := fun b o e z => by
    obtain ⟨o', g⟩ := I0.base.there b o e (nex b)
    rw [g] at z; cases z
  have neL : ∀ b o, X.s_0.heap.get? b = some o → b ≠ X.env.locals := fun b o e => Nat.ne_of_lt (Nat.lt_of_lt_of_le (Heap.lt_size e) I.ok.above)
  have nst : ∀ b, b ≠ X.env.locals → b ∉ X.fs → b ∉ frs X.stack := fun b h1 h2 z => (List.mem_cons.mp (I.stkSub b z)).elim h1 h2
  have cellK : ∀ x a, X.env.cells.lookup x = some a → ∀ v, s.heap.IsCell a v → h'.IsCell a v := fun x a e v ⟨o, ho, hd⟩ => by
    obtain ⟨_, o0, z, _⟩ := I0.cell x a e
    obtain ⟨sl, g⟩ := c.slot a o ho (.inl fun y => by rw [z] at y; cases y)
    exact ⟨_, g, hd⟩
  refine ⟨I.ok, I.os, I.bare, ⟨fun b o e n hb hb2 => ?_, fun b o e n hb hb2 => ?_, fun b o e n hb2 => I.base.free b o e n hb2, fun b o e hb2 => ?_, I.base.tups, I.base.frzs, I.base.tbls⟩, ?_, fun x a e => ?_, I.free, I.freeC, fun p hp => ?_, fun b o e => ?_, I.len⟩
  · exact c.keep b o (I.base.keep b o e n hb hb2) (.inl (old b o e)) (nst b (neL b o e) hb)
  · obtain ⟨sl, e1⟩ := I.base.slot b o e n hb hb2
    obtain ⟨sl', e2⟩ := c.slot b _ e1 (.inl (old b o e))
    exact ⟨sl', e2⟩
  · obtain ⟨o', e1⟩ := I.base.there b o e hb2
    obtain ⟨sl, e2⟩ := c.slot b o' e1 (.inl (old b o e))
    exact ⟨_, e2⟩
  · obtain ⟨m, ⟨o, es, ep, ho, r⟩, hl⟩ := I.loc
    obtain ⟨_, ⟨o0, _, _, z, _⟩, _⟩ := I0.loc
    obtain ⟨sl, g⟩ := c.slot _ o ho (.inl fun y => by rw [z] at y; cases y)
    refine ⟨m, ⟨_, es, ep, g, r⟩, fun i x v e1 e2 e3 => ?_⟩
    obtain ⟨u, ru, l⟩ := hl i x v e1 e2 e3
    refine ⟨u, ru, ?_⟩
    rcases l with l | ⟨k, a, e, z⟩
    · exact .inl l
    · exact .inr ⟨k, a, e, cellK x a e _ z⟩
  · obtain ⟨v, z⟩ := I.cell x a e
    exact ⟨v, cellK x a e v z⟩
  · obtain ⟨e, n, ne, nf, d⟩ := I.pin p hp
    obtain ⟨e0, _⟩ := I0.pin p hp
    exact ⟨c.keep p.1 p.2 e (.inl fun y => by rw [e0] at y; cases y) (nst p.1 ne nf), n, ne, nf, d⟩
  · refine (I.hok b o e).stay (fun a u ha q => ?_) (fun _ q => q) fun _ _ q => q
    have ht : H a ≠ none := fun z => by
      rcases ha with rfl | ha
      · rw [e] at z; cases z
      · rw [ha] at z; cases z
    exact c.keep a u q (.inr ht) fun z => ht (I.stkFree a z)
/-- a new thing that nobody tracked is tracked from here on -/
theorem inv_adopt {a : Addr} {o : HO} (I0 : Inv X pins σ0 H0 s0) (I : Inv X pins σ H s) (hx : X.ex = []) (n0 : s0.heap.get? a = none) (nH : H a = none) (new : ObjOk X.prog X.w (upd H a o) s.heap a o) : Inv X pins σ (upd H a o) s := by
  have nex : ∀ b : Addr, b ∉ X.ex := fun b z => by rw [hx] at z; cases z
  have old : ∀ b o, X.s_0.heap.get? b = some o → b ≠ a := fun b o e z => by
    obtain ⟨o', g⟩ := I0.base.there b o e (nex b)
    rw [z, n0] at g; cases g
  have trk : ∀ b u, H b = some u → b ≠ a := fun b u e z => by rw [z, nH] at e; cases e
  refine ⟨I.ok, I.os, I.bare, ⟨I.base.keep, I.base.slot, fun b u e n hb => ?_, I.base.there, fun b xs e => ?_, fun b u v e => ?_, fun b ps e => ?_⟩, I.loc, I.cell, ?_, fun x c e => ?_, fun p hp => ?_, fun b u e => ?_, I.len⟩
  · rw [upd_ne (old b u e)]; exact I.base.free b u e n hb
  · have := I.base.tups b xs e
    rw [upd_ne (trk b _ this)]; exact this
  · have := I.base.frzs b u v e
    rw [upd_ne (trk b _ this)]; exact this
  · obtain ⟨more, z⟩ := I.base.tbls b ps e
    exact ⟨more, by rw [upd_ne (trk b _ z)]; exact z⟩
  · rw [upd_ne]
    · exact I.free
    · intro z
      obtain ⟨_, ⟨o0, _, _, g, _⟩, _⟩ := I0.loc
      rw [z, n0] at g; cases g
  · rw [upd_ne]
    · exact I.freeC x c e
    · intro z
      obtain ⟨_, o0, g, _⟩ := I0.cell x c e
      rw [z, n0] at g; cases g
  · obtain ⟨e, n, ne, nf, d⟩ := I.pin p hp
    obtain ⟨e0, _⟩ := I0.pin p hp
    refine ⟨e, ?_, ne, nf, d⟩
    rw [upd_ne]
    · exact n
    · intro z; rw [z, n0] at e0; cases e0
  · by_cases hb : b = a
    · subst hb; rw [upd_same] at e; cases e; exact new
    · rw [upd_ne hb] at e
      exact (I.hok b u e).stay (fun c v _ q => q) (fun c q => by rw [upd_ne (trk c _ q)]; exact q) fun c xs q => by rw [upd_ne (trk c _ q)]; exact q
end
def CX1 (P : Program) (w : World) : CXT := fun outer H s E e s' => ∃ a C dx H', e = .ref a ∧ s'.os = s.os ∧ AllBare s'.gens ∧ Un (frs outer) [] H H' s.heap s'.heap ∧ HOk P w H' s'.heap ∧ Flies s.heap H' s'.heap a C dx (some .none) ∧ E C dx H'
/-- what a body wants of an exception, at any place of it -/
def XLink (X : Cx) (EX : Value → Option Addr → L2.St → Hp → Prop) : Prop := ∀ (pins : List (Addr × Obj)) (σ : L2.St) (H0 H1 : Hp) (s0 s1 : Shared) (a : Addr) (C : Value) (dx : Option Addr) (tb : Option Value), Inv X pins σ H0 s0 → Inv X pins σ H1 s1 →
  Flies s0.heap H1 s1.heap a C dx tb → (tb = none ∨ tb = some .none) → (∀ b o, s0.heap.get? b = some o → ∃ o', s1.heap.get? b = some o') → EX C dx σ H1 → X.xe (.ref a) s1
theorem Flies.older {h0 h00 : Heap} {H : Hp} {h : Heap} {e : Addr} {C : Value} {dx : Option Addr} {tb : Option Value} (f : Flies h0 H h e C dx tb) (k : ∀ b o, h00.get? b = some o → ∃ o', h0.get? b = some o') : Flies h00 H h e C dx tb := by
  have nn : ∀ b, h0.get? b = none → h00.get? b = none := fun b z => by
    cases c : h00.get? b with
    | none => rfl
    | some o => obtain ⟨o', g⟩ := k b o c; rw [z] at g; cases g
  obtain ⟨n0, nH, oe, vs, ge, gc, gx, gd, sz, g1⟩ := f
  refine ⟨nn e n0, nH, oe, vs, ge, gc, gx, gd, sz, ?_⟩
  cases tb with
  | none => exact g1
  | some fl =>
    obtain ⟨T, oT, ts, b1, b2, b3, r⟩ := g1
    exact ⟨T, oT, ts, b1, b2, nn T b3, r⟩
section
variable {P : Program} {w : World} {K : PySem.W.Frag} {mg : Str → Option Value} {base : Heap} {N : List Str} {qual : Str} {scope : Scope} {f : Addr} {cd : Value} {A : Around} {outer : List Env} {s : Shared} {H : Hp} {E : XK}
/-- it leaves a def's body -/
theorem leave1 : XLink (cxOf (CX1 P w) P w K mg base N qual scope f cd A outer s H E) (fun C dx _ H1 => E C dx H1) := by
  intro pins σ H0 H1 s0 s1 a C dx tb I0 I1 fl ht hin q
  show wpAny (model P w) _ (leaving _ (.ref a)) _ _ s1
  unfold leaving
  refine wpAny_bind (note_fly (P := P) (w := w) I1.ok.frames I1.stack rfl fl ht hin I1.hok fun h2 f2 c2 => ?_)
  refine land_fly f2 fun h3 f3 c3 => ?_
  have I3 := inv_chg I0 I1 (c2.trans (c3.more fun b z => by cases z)) rfl
  refine ⟨a, C, dx, H1, rfl, I3.os, I3.bare, I3.base, I3.hok, f3.older fun b o e => I0.base.there b o e (fun z => by cases z), q⟩
end
section
variable {X : Cx} {EX : Value → Option Addr → L2.St → Hp → Prop}
/-- it comes out of a call -/
theorem pass1 (L : XLink X EX) {pins : List (Addr × Obj)} {σ : L2.St} {H : Hp} {s s' : Shared} {e : Value} (I : Inv X pins σ H s) (h : CX1 X.prog X.w X.stack H s (fun C dx H' => EX C dx σ H') e s') : X.xe e s' := by
  obtain ⟨a, C, dx, H', rfl, os, bare, un, hok, fl, q⟩ := h
  have I' : Inv X pins σ H' s' := I.call' (ch := []) os un hok bare fun b z => by cases z
  exact L pins σ H H' s s' a C dx (some .none) I I' fl (.inr rfl) (fun b o g => un.there b o g (by simp)) q
variable {k : Nat} {f : Addr} {fd : FuncData} {ps : List Str} {sp : Sp} {x m : Str} {p pos apos : Pos} {e o : Expr} {es : List Expr} {ta : TE} {t : TA} {C : Addr}
theorem run_fnX {pins : List (Addr × Obj)} {σ : L2.St} {H : Hp} {s : Shared} {Q : VK} {us : List Value} {vs : List V} (F : FnOk X.prog X.w X.K X.mg X.base (CX1 X.prog X.w) k f fd ps sp) (hr : Room k X.A) (hb : Binds X.K fd ps []) (L : XLink X EX)
    (I : Inv X pins σ H s) (r : Vals vs us) (h : sp vs H Q (fun C dx H' => EX C dx σ H')) : wpAny (model X.prog X.w) X.A (call (.ref f) us) (EP X pins σ Q) X.xe s := by
  have hl : (us ++ []).length = ps.length := by rw [List.append_nil, ← r.length]; exact F.len _ _ _ _ h
  have b := hb s us I.kIn hl
  rw [List.append_nil] at b
  refine wpAny_call (codeAny_mono (F.run X.A X.stack s H ⟨us, []⟩ us vs Q _ hr I.env0 b r h) fun r s' hq => ?_)
  cases r with
  | error e => exact pass1 L I hq
  | ok fl =>
    cases fl with
    | ret u => exact I.after hq
    | next => exact False.elim hq
    | brk => exact False.elim hq
    | cont => exact False.elim hq
def tCallX (sp : Sp) (EX : Value → Option Addr → L2.St → Hp → Prop) (t : TA) : TE := fun σ H Q => t σ H fun vs H1 => sp vs H1 Q (fun C dx H' => EX C dx σ H')
theorem pe_callX (F : FnOk X.prog X.w X.K X.mg X.base (CX1 X.prog X.w) k f fd ps sp) (hr : Room k X.A) (hg : Gl X x) (hm : X.mg x = some (.ref f)) (hk : PySem.W.keepIn X.K (.ref f) = true) (hb : Binds X.K fd ps []) (L : XLink X EX)
    (ha : PA X (e :: es) t) (hdb : (x == ("__debug__" : Str)) = false := by decide) (he : starEach (e :: es) X.env = (false, eval e X.env) :: starEach es X.env := by rfl) (hpl : (backTo pos (starEach es X.env)).any (·.1) = false := by rfl) :
    PE X (.Call (.Name x p) (e :: es) [] pos) (tCallX sp EX t) := by
  intro pins s σ H Q I h
  refine wpAny_Call_Name_kw (ld_glob I hg hm ?_ hdb)
  refine PySem.W.callWith_K (h₀ := X.base) I.ok.mod.kin hk (thn (ha pos pins s σ H _ I h) fun us s1 ⟨vs, H1, I1, r, q⟩ => ⟨I1.kIn, ?_⟩) he hpl
  exact run_fnX F hr hb L I1 r q
end
end L3
set_option Elab.async false
set_option linter.all false
set_option maxRecDepth 100000
namespace L3
open PySem PySem.Spec PyProof.Rows L2
abbrev TJ := L2.St → Hp → (Hp → Prop) → Prop
def PJ (X : Cx) (es : List Expr) (n : Nat) (t : TJ) : Prop := ∀ (acc : Str) (pins : List (Addr × Obj)) (s : Shared) (σ : L2.St) (H : Hp) (Q : Hp → Prop), acc.length + n ≤ sizeLine → Inv X pins σ H s → t σ H Q →
  wpAny (model X.prog X.w) X.A (joinParts acc (evalEach es X.env)) (fun v s' => ∃ x tk H', v = .str x tk ∧ Inv X pins σ H' s' ∧ Q H') X.xe s
section
variable {X : Cx} {e : Expr} {es : List Expr} {te : TE} {t : TJ} {n : Nat}
theorem pj_nil : PJ X [] 0 (fun _ H Q => Q H) := fun acc pins s σ H Q hl I h => PyProof.Rows.joinParts_nil ⟨acc, _, H, rfl, I.tok _, h⟩ hl
theorem pj_str (he : PE X e te) (hr : PJ X es n t) : PJ X (e :: es) (n + 2000) (fun σ H Q => te σ H fun v H1 => ∃ y, v = .str y ∧ y.length ≤ 2000 ∧ t σ H1 Q) := by
  intro acc pins s σ H Q hl I h
  show wpAny _ _ (joinParts acc (eval e X.env :: evalEach es X.env)) _ _ s
  refine PyProof.Rows.joinParts_cons (thn (he pins s σ H _ I h) fun u s1 ⟨v, H1, I1, r, y, ev, hy, q⟩ => ?_)
  subst ev
  obtain ⟨tk, rfl⟩ := r
  have hs := strLen_append acc y
  exact ⟨by omega, hr _ pins s1 σ H1 Q (by omega) I1 q⟩
theorem pj_int {pos : Pos} (he : PE X e te) (hr : PJ X es n t) : PJ X (.FormattedValue e (-1) none pos :: es) (n + 2000) (fun σ H Q => te σ H fun v H1 => ∃ i : Int, v = .int i ∧ i.natAbs.log2 < 1920 ∧ t σ H1 Q) := by
  intro acc pins s σ H Q hl I h
  show wpAny _ _ (joinParts acc (eval (.FormattedValue e (-1) none pos) X.env :: evalEach es X.env)) _ _ s
  refine PyProof.Rows.joinParts_cons (PyProof.Rows.FormattedValue_plain (thn (he pins s σ H _ I h) fun u s1 ⟨v, H1, I1, r, i, ev, hi, q⟩ => ?_))
  subst ev
  obtain ⟨tk, rfl⟩ := r
  refine wpAny_formatField_int hi ?_
  have ht := int_text_length_le (k := 1920) (by decide) hi
  have e1 : (Str.ofString (toString i)).length = (toString i).length := PySem.ofString_length _
  have hs := strLen_append acc (Str.ofString (toString i))
  exact ⟨by omega, hr _ pins _ σ H1 Q (by omega) (I1.tok _) q⟩
theorem pe_fstr {e1 e2 : Expr} {pos : Pos} (h : PJ X (e1 :: e2 :: es) n t) (hn : n ≤ sizeLine) : PE X (.JoinedStr (e1 :: e2 :: es) pos) (fun σ H Q => t σ H fun H' => ∀ x, Q (.str x) H') := by
  intro pins s σ H Q I hw
  refine PyProof.Rows.JoinedStr_many (thn (h Str.empty pins s σ H _ (by show 0 + n ≤ sizeLine; omega) I hw) fun v s1 ⟨x, tk, H', ev, I', q⟩ => ?_)
  exact ⟨.str x, H', I', ⟨tk, ev⟩, q x⟩
end
theorem obj_there {P : Program} {w : World} {H : Hp} {h : Heap} {a : Addr} {o : HO} (x : ObjOk P w H h a o) : ∃ ob, h.get? a = some ob := by
  cases o with
  | lst xs => obtain ⟨_, _, _, _, e⟩ := x; exact ⟨_, e⟩
  | tup xs => obtain ⟨_, _, _, _, e, _⟩ := x; exact ⟨_, e⟩
  | dK kvs => obtain ⟨_, _, _, _, o, _, _, e, _⟩ := x; exact ⟨_, e⟩
  | dT kvs => obtain ⟨_, _, _, _, o, _, _, e, _⟩ := x; exact ⟨_, e⟩
  | set S n => obtain ⟨o, _, _, _, e, _⟩ := x; exact ⟨_, e⟩
  | ins C dx fs => obtain ⟨_, _, _, e, _⟩ := x; exact ⟨_, e⟩
  | own y => exact x
  | xd fs => obtain ⟨_, ⟨_, _, _, e, _⟩, _⟩ := x; exact ⟨_, e⟩
  | rng lo hi => obtain ⟨_, _, _, e⟩ := x; exact ⟨_, e⟩
  | frz ob u => obtain ⟨e, _⟩ := x; exact ⟨_, e⟩
  | tbl ps => exact ⟨_, x⟩
  | met f y => exact ⟨_, x⟩
  | ext φ => obtain ⟨_, e, _⟩ := x; exact e
theorem hok_none {P : Program} {w : World} {H : Hp} {h : Heap} {a : Addr} (x : HOk P w H h) (n : h.get? a = none) : H a = none := by
  cases c : H a with
  | none => rfl
  | some o => obtain ⟨ob, e⟩ := obj_there (x a o c); rw [n] at e; cases e
abbrev bmV : List Value := [.type "ValueError", .type "Exception", .type "BaseException", .type "object"]
def mroK (K : PySem.W.Frag) (C : Addr) : List Value := match K.lookup C with
  | some ⟨_, _, .cls cd, _⟩ => cd.mro
  | _ => []
structure ExcC (K : PySem.W.Frag) (mg : Str → Option Value) (x : Str) (C : Addr) : Prop where
  nm : mg x = some (.ref C)
  ex : PySem.W.excIn K C bmV "ValueError.__new__" = true
theorem ExcC.obj {K : PySem.W.Frag} {mg : Str → Option Value} {x : Str} {C : Addr} {h : Heap} (c : ExcC K mg x C) (k : K.In h) : ∃ bm N nm q bs hd sn sub ab col dd k0 k1 k2 k3 k5 mN,
    h.get? C = some (excClassObj nm q C N bs bm hd sn sub ab col dd k0 k1 k2 k3 k5 "ValueError.__new__") ∧ h.Ns N mN ∧ mN "__init__" = none ∧ OwnTail h bmV bm ∧ mroK K C = .ref C :: bm := by
  have q := c.ex
  unfold PySem.W.excIn at q
  split at q
  · rename_i dd cd sl ho
    split at q
    · rename_i C' bm k0 k1 k2 k3 n k5 hm hs
      simp only [Bool.and_eq_true, beq_iff_eq, Bool.not_eq_true'] at q
      obtain ⟨⟨⟨⟨⟨rfl, rfl⟩, del⟩, ht⟩, okn⟩, ni⟩ := q
      have em : mroK K C' = .ref C' :: bm := by unfold mroK; rw [ho]; exact hm
      obtain ⟨nm, bs, mro, ns, qn, hd, sn, sub, ab, col, dl⟩ := cd
      dsimp only at hm del okn ni
      subst hm del
      have es : sl = #[k0, k1, k2, k3, some (.builtin "ValueError.__new__"), k5] := by
        obtain ⟨l⟩ := sl
        simp only at hs
        rw [hs]
      subst es
      exact ⟨bm, ns, nm, qn, bs, hd, sn, sub, ab, col, dd, k0, k1, k2, k3, k5, _, k _ _ ho, .of_isNs (PySem.W.isNs_of_in k okn), PySem.W.nsMap_none_of_in k okn ni, PySem.W.tail_of_in k ht, em⟩
    · cases q
  · cases q
section
variable {X : Cx} {EX : Value → Option Addr → L2.St → Hp → Prop} {x : Str} {C : Addr} {e : Expr} {te : TE} {np cpos pos : Pos}
/-- raise C(e) -/
theorem ps_raiseX (hc : X.calm = true) (O : ExcC X.K X.mg x C) (hg : Gl X x) (L : XLink X EX) (he : PE X e te) (hs : starEach [e] X.env = [(false, eval e X.env)] := by rfl) (hdb : (x == ("__debug__" : Str)) = false := by decide) :
    PS X (.Raise (some (.Call (.Name x np) [e] [] cpos)) none pos) (fun _ σ H => te σ H fun _ H1 => EX (.ref C) none σ H1) := by
  intro pins s σ H D I h
  obtain ⟨bm, N, nm, q, bs, hd, sn, sub, ab, col, dd, k0, k1, k2, k3, k5, mN, hC0, hN0, ni, T0, em⟩ := O.obj I.mod.kin
  have hbase : bm.contains (.type "BaseException") = true := T0.hasType (by decide)
  refine wpAny_Raise_call_subU (C := C) (nm := nm) (q := q) (N := N) (bs := bs) (bm := bm) (hdct := hd) (sn := sn) (sub := sub) (ab := ab) (col := col) (dd := dd) (k0 := k0) (k1 := k1) (k2 := k2) (k3 := k3) (k5 := k5) (mN := mN) PySem.F.excBase_ValueError (by decide) PySem.F.excBase_ValueError hbase (I.ok.hd hc) (by rw [hs]; rfl) ni ?_
  refine ld_glob I hg O.nm ⟨rfl, ?_⟩ hdb
  rw [hs]
  show wpAny _ _ (evalArgs (.ref C) true ((false, eval e X.env) :: []) []) _ _ s
  refine Calls.evalArgs_plain ?_
  show wpAny _ _ (spliced ((false, eval e X.env) :: [])) _ _ s
  refine Calls.spliced_cons (thn (he pins s σ H _ I h) fun u s1 ⟨v, H1, I1, r, ex⟩ => Calls.spliced_nil ?_)
  refine ⟨rfl, by show 1 ≤ sizeLine; decide, I1.bk _ _ hC0, hN0.keeps I1.bk, T0.keeps I1.bk, fun h' a me => ?_⟩
  obtain ⟨t, ge, tn, gt⟩ := me.there
  exact L pins σ H1 H1 s1 { s1 with heap := h' } a (.ref C) none none I1 (I1.kept (t' := s1.toks) me.keeps) ⟨me.new, hok_none I1.hok me.new, _, _, ge, rfl, rfl, rfl, by show 1 < 6; decide, rfl⟩ (.inl rfl) (fun b o g => ⟨o, me.keeps b o g⟩) ex
end
end L3
set_option Elab.async false
set_option linter.all false
set_option maxRecDepth 100000
namespace L3
open PySem PySem.Spec PyProof.Rows L2
/-- within a try's body: its pins are held, an exception goes to the handler -/
abbrev trX (X : Cx) (p : List (Addr × Obj)) (E : Value → Shared → Prop) : Cx := { X with pn := X.pn ++ p, xe := E }
/-- within a handler's suite -/
abbrev hdX (X : Cx) (p : List (Addr × Obj)) (a : Addr) : Cx := { X with A := X.A.mark (some (.ref a)), calm := false, pn := X.pn ++ p, xe := fun _ _ => False }
section
variable {X : Cx} {pins p : List (Addr × Obj)} {σ : L2.St} {H : Hp} {s : Shared} {E : Value → Shared → Prop} {a : Addr}
theorem ok_tr (o : X.Ok) : (trX X p E).Ok := ⟨o.mod, o.kind, o.glob, o.blt, o.above, o.inj, o.has, o.cab, o.hd, o.frames, o.stk, o.exf, o.bs, o.bsz, o.noex, o.exfs, o.funs, o.frf⟩
theorem ok_untr (o : (trX X p E).Ok) : X.Ok := ⟨o.mod, o.kind, o.glob, o.blt, o.above, o.inj, o.has, o.cab, o.hd, o.frames, o.stk, o.exf, o.bs, o.bsz, o.noex, o.exfs, o.funs, o.frf⟩
theorem ok_hd (o : X.Ok) : (hdX X p a).Ok := ⟨o.mod, o.kind, o.glob, o.blt, o.above, o.inj, o.has, o.cab, (fun z => by cases z), o.frames, o.stk, o.exf, o.bs, o.bsz, o.noex, o.exfs, o.funs, o.frf⟩
theorem inv_tr (I : Inv X p σ H s) : Inv (trX X p E) [] σ H s := ⟨ok_tr I.ok, I.os, I.bare, I.base, I.loc, I.cell, I.free, I.freeC, fun q hq => I.pin q (by simpa using hq), I.hok, I.len⟩
theorem inv_untr (I : Inv (trX X p E) pins σ H s) : Inv X p σ H s := ⟨ok_untr I.ok, I.os, I.bare, I.base, I.loc, I.cell, I.free, I.freeC, fun q hq => I.pin q (List.mem_append_left _ hq), I.hok, I.len⟩
theorem inv_hd (I : Inv X p σ H s) : Inv (hdX X p a) [] σ H s := ⟨ok_hd I.ok, I.os, I.bare, I.base, I.loc, I.cell, I.free, I.freeC, fun q hq => I.pin q (by simpa using hq), I.hok, I.len⟩
theorem inv_unhd (o : X.Ok) (I : Inv (hdX X p a) pins σ H s) : Inv X p σ H s := ⟨o, I.os, I.bare, I.base, I.loc, I.cell, I.free, I.freeC, fun q hq => I.pin q (List.mem_append_left _ hq), I.hok, I.len⟩
/-- the handler's name goes -/
theorem name_goes {M : Model} {A : Around} {n : Str} {i : Nat} {pos : Pos} {Q : Unit → Shared → Prop} (I : Inv X pins σ H s) (hN : X.N.Nodup) (hi : X.N[i]? = some n) (hk : X.env.scope.names.lookup n = some .local)
    (h : ∀ s', Inv X pins (σ.set i none) H s' → Q () s') : wpAny M A (do bindName X.env n .none; unbindBehindTheSuite X.env n pos) Q E s := by
  obtain ⟨m, hn, hl⟩ := id I.loc
  have hcls : (X.env.scope.kind == .class || (X.env.scope.kind == .module && X.env.locals != X.env.globals)) = false := by rw [I.ok.kind]; rfl
  refine wpAny_nameGoes_keeps hk hn hcls fun h' v hn' hs => h _ ?_
  obtain ⟨oL, _, _, hoL, _⟩ := id hn
  have old : ∀ b o, X.s_0.heap.get? b = some o → b ≠ X.env.locals := fun b o e => Nat.ne_of_lt (Nat.lt_of_lt_of_le (Heap.lt_size e) I.ok.above)
  refine ⟨I.ok, I.os, I.bare, ⟨fun b o e n hb hx => (hs.2 b (old b o e)).trans (I.base.keep b o e n hb hx), fun b o e n hb hx => ?_, I.base.free, fun b o e hx => ?_, I.base.tups, I.base.frzs, I.base.tbls⟩, ⟨_, hn', fun j y v' e1 e2 e3 => ?_⟩, fun y c e => ?_, I.free, I.freeC, fun p hp => ?_, fun b ob e => ?_, by rw [List.length_set]; exact I.len⟩
  · obtain ⟨sl, e1⟩ := I.base.slot b o e n hb hx
    exact ⟨sl, (hs.2 b (old b o e)).trans e1⟩
  · obtain ⟨o', e1⟩ := I.base.there b o e hx
    exact ⟨o', (hs.2 b (old b o e)).trans e1⟩
  · have hj : j ≠ i := fun z => by
      subst z
      by_cases c : j < σ.length
      · rw [List.getElem?_set_self c] at e2; cases e2
      · rw [List.getElem?_eq_none (by rw [List.length_set]; omega)] at e2; cases e2
    rw [List.getElem?_set_ne (Ne.symm hj)] at e2
    obtain ⟨u', r', q⟩ := hl j y v' e1 e2 e3
    refine ⟨u', r', ?_⟩
    rcases q with ⟨k, e⟩ | ⟨k, c, e, z⟩
    · refine .inl ⟨k, ?_⟩
      have : y ≠ n := fun e => hj (nodup_ix hN e1 (e ▸ hi))
      show (if y = n then v else m y) = some u'
      rw [if_neg this]; exact e
    · exact .inr ⟨k, c, e, z.sameBut hs (I.cne y c e)⟩
  · obtain ⟨w', z⟩ := I.cell y c e
    exact ⟨w', z.sameBut hs (I.cne y c e)⟩
  · obtain ⟨e, n, ne, nf, d⟩ := I.pin p hp
    exact ⟨(hs.2 p.1 ne).trans e, n, ne, nf, d⟩
  · refine (I.hok b ob e).stay (fun c w' hc q => (hs.2 c ?_).trans q) (fun _ q => q) fun _ _ q => q
    rintro rfl
    rcases hc with rfl | hc
    · rw [I.free] at e; cases e
    · rw [I.free] at hc; cases hc
end
/-- an own class matches an own one over it -/
theorem matches_own {M : Model} {A : Around} {E : Value → Shared → Prop} {s : Shared} {K : PySem.W.Frag} {mg : Str → Option Value} {x y : Str} {C F e : Addr} {oe : Obj} {Q : Bool → Shared → Prop} (k : K.In s.heap) (hC : ExcC K mg x C) (hF : ExcC K mg y F) (he : s.heap.get? e = some oe) (hc : oe.cls = .ref C) (b : Bool) (hb : (mroK K C).contains (.ref F) = b)
    (q : Q b s) : wpAny M A (excMatches (.ref e) (.ref F)) Q E s := by
  obtain ⟨bm, N, nm, qn, bs, hd, sn, sub, ab, col, dd, k0, k1, k2, k3, k5, mN, hC0, _, _, T0, em⟩ := hC.obj k
  obtain ⟨bm', N', nm', qn', bs', hd', sn', sub', ab', col', dd', k0', k1', k2', k3', k5', mN', hF0, _, _, T1, em'⟩ := hF.obj k
  rw [em] at hb
  have hB : (Value.ref F :: bm').contains (.type "BaseException") = true := by rw [List.contains_cons, T1.hasType (X := "BaseException") (b := true) (by decide), Bool.or_true]
  have f := tc_notTuple
  obtain ⟨hh, g, d, tk, os⟩ := s
  unfold excMatches
  repeat (first | (with_reducible refine wpAny_loadPart_at he ?_; rw [hc]) | with_reducible refine wpAny_loadPart_at hF0 ?_ | (with_reducible refine wpAny_isSubtype_exc hF0 ?_; rw [hB]) | (with_reducible refine wpAny_isSubtype_exc hC0 ?_; rw [hb]) | wp_step)
  cases b <;> (wp_walk; exact q)
section
variable {X : Cx} {body suite : List Stmt} {b₀ : Stmt} {n cls : Str} {i : Nat} {F : Addr} {np hpos pos : Pos} {tb : (Value → Option Addr → L2.St → Hp → Prop) → TS} {th : TS}
/-- what is wanted of an exception that the handler takes -/
def HX (K : PySem.W.Frag) (mg : Str → Option Value) (F : Addr) (i : Nat) (th : TS) (D : Ends) (C : Value) (dx : Option Addr) (σ : L2.St) (H : Hp) : Prop := ∃ c x, C = .ref c ∧ dx = none ∧ ExcC K mg x c ∧ (mroK K c).contains (.ref F) = true ∧
  ∀ a, H a = none → th ⟨fun σ' H' => D.nx (σ'.set i none) H', D.rt, fun σ' H' => D.bk (σ'.set i none) H', fun σ' H' => D.ct (σ'.set i none) H'⟩ (σ.set i (some (.ref a))) (upd H a (.ext (ExcO a (.ref c) none)))
theorem ps_tryX (hx : X.ex = []) (hst : X.stack = X.env :: X.outer) (hfr : X.env.frame = some X.env.locals) (hN : X.N.Nodup) (hi : X.N[i]? = some n) (hk : X.env.scope.names.lookup n = some .local) (O : ExcC X.K X.mg cls F) (hg : Gl X cls)
    (hb : ∀ p E EX, XLink (trX X p E) EX → PSs (trX X p E) body (tb EX)) (hh : ∀ p a, PSs (hdX X p a) (b₀ :: suite) th) (hdb : (cls == ("__debug__" : Str)) = false := by decide) :
    PS X (.Try body [.ExceptHandler (some (.Name cls np)) (some n) (b₀ :: suite) hpos] [] [] pos) (fun D σ H => tb (HX X.K X.mg F i th D) D σ H) := by
  intro pins s σ H D I h
  refine wpAny_Try_except ?_
  obtain ⟨E, hE⟩ : ∃ E : Value → Shared → Prop, E = (fun e s₁ => wpAny (model X.prog X.w) X.A (noteFrame e X.env) (fun _ s₂ => wpAny (model X.prog X.w) X.A (setFlight e none) (fun _ s₃ => wpAny (model X.prog X.w) X.A (handleBy e X.env [.ExceptHandler (some (.Name cls np)) (some n) (b₀ :: suite) hpos]) (SP X pins D) X.xe s₃) X.xe s₂) X.xe s₁) := ⟨_, rfl⟩
  rw [← hE]
  have link : XLink (trX X pins E) (HX X.K X.mg F i th D) := by
    intro pins' σ' H0 H1 s0 s1 a C dx tbk I0 I1 fl ht hin hth
    obtain ⟨c, x, rfl, rfl, hc, hsub, hth⟩ := hth
    show E (.ref a) s1
    rw [hE]
    have I0x := inv_untr I0
    have I1x := inv_untr I1
    have ff := I1x.stack
    have fr := I1x.ok.frames
    rw [hst] at ff fr
    refine note_fly (P := X.prog) (w := X.w) fr ff hfr fl ht hin I1x.hok fun h2 f2 c2 => ?_
    refine land_fly (s := { s1 with heap := h2 }) f2 fun h3 f3 c3 => ?_
    rw [← hst] at c2
    have c13 := c2.trans (c3.more fun b z => by cases z)
    have I3 := inv_chg I0x I1x c13 hx
    obtain ⟨n0, nH, oe, vs, ge, gc, gx, gd, sz, gt⟩ := id f3
    refine wpAny_handleBy_cons (codeAny_handlers_test ?_) (by intro q; cases q)
    refine ld_glob (X := hdX X pins a) (inv_hd I3) hg O.nm ?_ hdb
    refine matches_own I3.kIn hc O ge gc true hsub ?_
    refine codeAny_handlers_suite_as ?_
    refine land_fly (s := { s1 with heap := h3 }) f3 fun h4 f4 c4 => ?_
    have I4 := inv_chg I0x I3 (c4.more fun b z => by cases z) hx
    obtain ⟨n04, nH4, oe4, vs4, ge4, gc4, gx4, gd4, sz4, gt4⟩ := id f4
    have new : ObjOk X.prog X.w (upd H1 a (.ext (ExcO a (.ref c) none))) h4 a (.ext (ExcO a (.ref c) none)) := ⟨⟨oe4, ge4, gc4, gx4, vs4, gd4⟩, ⟨oe4, ge4⟩, fun ha hb' ⟨o, g, r⟩ k => ⟨o, k o g, r⟩⟩
    have I5 := inv_adopt (o := .ext (ExcO a (.ref c) none)) I0x I4 hx n04 nH4 new
    refine store_ok (X := hdX X pins a) (v := .ref a) (inv_hd I5) hN hi (.inl hk) rfl (fun s6 I6 => ?_) (.inr hk)
    refine wpAny_mono (hh pins a [] s6 _ _ _ I6 (hth a nH4)) (fun f s7 q => ?_) fun e s7 q => q.elim
    have fin : ∀ {σ7 : L2.St} {H7 : Hp} {f : Flow}, Inv (hdX X pins a) [] σ7 H7 s7 → (∀ s8, Inv X pins (σ7.set i none) H7 s8 → SP X pins D f s8) → wpAny (model X.prog X.w) X.A (do bindName X.env n .none; unbindBehindTheSuite X.env n hpos) (fun _ s8 => SP X pins D f s8) X.xe s7 := fun {σ7 H7 f} J k =>
      name_goes (inv_unhd I.ok J) hN hi hk k
    cases f with
    | next => obtain ⟨σ7, H7, J, q⟩ := q; exact fin J fun s8 J8 => ⟨_, _, J8, q⟩
    | brk => obtain ⟨σ7, H7, J, q⟩ := q; exact fin J fun s8 J8 => ⟨_, _, J8, q⟩
    | cont => obtain ⟨σ7, H7, J, q⟩ := q; exact fin J fun s8 J8 => ⟨_, _, J8, q⟩
    | ret u => obtain ⟨v, σ7, H7, J, r, q⟩ := q; exact fin J fun s8 J8 => ⟨v, _, _, J8, r, q⟩
  refine wpAny_mono (hb pins E _ link [] s σ H D (inv_tr I) h) (fun f s1 q => ?_) fun e s1 q => q
  cases f with
  | next => obtain ⟨σ', H', J, q⟩ := q; exact wpAny_execs_nil ⟨σ', H', inv_untr J, q⟩
  | brk => obtain ⟨σ', H', J, q⟩ := q; exact ⟨σ', H', inv_untr J, q⟩
  | cont => obtain ⟨σ', H', J, q⟩ := q; exact ⟨σ', H', inv_untr J, q⟩
  | ret u => obtain ⟨v, σ', H', J, r, q⟩ := q; exact ⟨v, σ', H', inv_untr J, r, q⟩
end
end L3
set_option Elab.async false
set_option linter.all false
set_option maxRecDepth 100000
namespace L4
open PySem PySem.Spec PyProof.Rows L2 L3
abbrev WX := Addr → Sto → Prop
abbrev WCX := List PV → Sto → WQ → WX → Prop
abbrev MoX (wf : WCX) : Prop := ∀ (xs : List PV) (S : Sto) (Q Q' : WQ) (E E' : WX), wf xs S Q E → (∀ v S', Q v S' → Q' v S') → (∀ c S', E c S' → E' c S') → wf xs S Q' E'
/-- where a body began -/
structure Bs where
  M : Map
  n : Nat
  H : Hp
def upX (Ts : List Addr) (K : PySem.W.Frag) (M : Map) (n : Nat) (H : Hp) (E : XK) : WX := fun c S => ∀ M' H', Stp Ts K M n H M' S.length H' → Sim Ts K M' S H' → E (.ref c) none H'
def spWX (Ts : List Addr) (K : PySem.W.Frag) (wf : WCX) : Sp := fun vs H Q E => ∃ M S pvs, Sim Ts K M S H ∧ RPs K M S.length H pvs vs ∧ wf pvs S (upQ Ts K M S.length H Q) (upX Ts K M S.length H E)
structure DefX (Ts : List Addr) (P : Program) (w : World) (K : PySem.W.Frag) (mg : Str → Option Value) (base : Heap) (x : Str) (k : Nat) (ps : List Str) (wf : WCX) : Prop where
  d : ∃ (f : Addr) (fd : FuncData), FnOk P w K mg base (CX1 P w) k f fd ps (spWX Ts K wf) ∧ mg x = some (.ref f) ∧ PySem.W.keepIn K (.ref f) = true ∧ Binds K fd ps []
  mo : MoX wf
def EXh (Ts : List Addr) (K : PySem.W.Frag) (B : Bs) (EX : Ev → WX) (C : Value) (dx : Option Addr) (σ : L2.St) (H : Hp) : Prop := ∃ M S τ c, C = .ref c ∧ dx = none ∧ Stp Ts K B.M B.n B.H M S.length H ∧ Sim Ts K M S H ∧ StR K M S.length H τ σ ∧ EX τ c S
theorem link_imp {X : Cx} {EX EX' : Value → Option Addr → L2.St → Hp → Prop} (L : XLink X EX) (h : ∀ C dx σ H, EX' C dx σ H → EX C dx σ H) : XLink X EX' :=
  fun pins σ H0 H1 s0 s1 a C dx tb I0 I1 f ht hin q => L pins σ H0 H1 s0 s1 a C dx tb I0 I1 f ht hin (h _ _ _ _ q)
def upEB (Ts : List Addr) (K : PySem.W.Frag) (B : Bs) (w : WE) : TE := fun σ H Q => ∃ M S τ, Stp Ts K B.M B.n B.H M S.length H ∧ Sim Ts K M S H ∧ StR K M S.length H τ σ ∧ w τ S (upQ Ts K M S.length H Q)
structure SEB (Ts : List Addr) (X : Cx) (B : Bs) (e : Expr) (w : WE) : Prop where
  pe : PE X e (upEB Ts X.K B w)
  mo : MoE w
def upSB (Ts : List Addr) (K : PySem.W.Frag) (B : Bs) (w : WS) : TS := fun D σ H => ∃ M S τ, Stp Ts K B.M B.n B.H M S.length H ∧ Sim Ts K M S H ∧ StR K M S.length H τ σ ∧ w (dn Ts K M S.length H D) τ S
structure SSB (Ts : List Addr) (X : Cx) (B : Bs) (st : Stmt) (w : WS) : Prop where
  ps : PS X st (upSB Ts X.K B w)
  mo : MoS w
structure SSsB (Ts : List Addr) (X : Cx) (B : Bs) (st : List Stmt) (w : WS) : Prop where
  ps : PSs X st (upSB Ts X.K B w)
  mo : MoS w
section
variable {Ts : List Addr} {X : Cx} {B : Bs} {a b c e o : Expr} {wa wb : WE} {pos p : Pos} {st : Stmt} {rest as bs : List Stmt} {t u : WS} {wt : WT}
theorem ssb_of (h : SS Ts X st t) : SSB Ts X B st t := ⟨ps_imp h.ps fun D σ H ⟨M, S, τ, _, s, st, q⟩ => ⟨M, S, τ, s, st, q⟩, h.mo⟩
def wCallX (wf : WCX) (w : WA) (EX : Ev → WX) : WE := fun τ S Q => w τ S fun vs S1 => wf vs S1 Q (EX τ)
theorem seb_call {x : Str} {k : Nat} {ps : List Str} {wf : WCX} {es : List Expr} {w : WA} {EX : Ev → WX} (D : DefX Ts X.prog X.w X.K X.mg X.base x k ps wf) (hr : Room k X.A) (hg : Gl X x) (L : XLink X (EXh Ts X.K B EX)) (ha : SA Ts X (e :: es) w)
    (hdb : (x == ("__debug__" : Str)) = false := by decide) (he : starEach (e :: es) X.env = (false, eval e X.env) :: starEach es X.env := by rfl) (hpl : (backTo pos (starEach es X.env)).any (·.1) = false := by rfl) : SEB Ts X B (.Call (.Name x p) (e :: es) [] pos) (wCallX wf w EX) := by
  obtain ⟨f, fd, F, m, kp, bd⟩ := D.d
  refine ⟨pe_imp (pe_callX F hr hg m kp bd L ha.pa hdb he hpl) fun σ H Q h => ?_, fun τ S Q Q' h k => ha.mo _ _ _ _ h fun vs S1 h => D.mo _ _ _ _ _ _ h k fun _ _ q => q⟩
  obtain ⟨M, S, τ, t0, s, st, h⟩ := h
  refine runA ha.mo s st h fun vs S1 M1 H1 us f t1 s1 r1 => ?_
  exact ⟨M1, S1, vs, s1, r1, D.mo _ _ _ _ _ _ f (fun v S2 h => h.base t1) fun c S2 q M2 H2 t2 s2 => ⟨M2, S2, τ, c, rfl, rfl, (t0.trans t1).trans t2, s2, st.stp (t1.trans t2), q⟩⟩
theorem runEB {K : PySem.W.Frag} {M : Map} {S : Sto} {H : Hp} {τ : Ev} {σ : L2.St} {w : WE} (mo : MoE w) (t0 : Stp Ts K B.M B.n B.H M S.length H) (s : Sim Ts K M S H) (r : StR K M S.length H τ σ) {F : WQ} (hw : w τ S F) {Q : VK} (k : ∀ v S1 M1 H1 u, F v S1 → Stp Ts K M S.length H M1 S1.length H1 → Sim Ts K M1 S1 H1 → RP K M1 S1.length H1 v u → Q u H1) : upEB Ts K B w σ H Q :=
  ⟨M, S, τ, t0, s, r, mo _ _ _ _ hw fun v S1 f M1 H1 u t s r => k v S1 M1 H1 u f t s r⟩
theorem seb_if (hc : ST Ts X c wt) (ha : SEB Ts X B a wa) (hb : SEB Ts X B b wb) : SEB Ts X B (.IfExp c a b pos) (wIf wt wa wb) := by
  refine ⟨pe_imp (pe_ifExp hc.pt ha.pe hb.pe) fun σ H Q h => ?_, fun τ S Q Q' h0 k => hc.mo _ _ _ _ h0 fun v S1 h1 => ite_imp h1 (fun h => ha.mo _ _ _ _ h k) (fun h => hb.mo _ _ _ _ h k)⟩
  obtain ⟨M, S, τ, t0, s, st, h⟩ := h
  refine runT hc.mo s st h fun v S1 M1 H1 f t1 s1 => ite_imp f (fun f => ?_) (fun f => ?_)
  · exact runEB ha.mo (t0.trans t1) s1 (st.stp t1) f fun d S2 M2 H2 u f2 t2 s2 r2 => f2 M2 H2 u (t1.trans t2) s2 r2
  · exact runEB hb.mo (t0.trans t1) s1 (st.stp t1) f fun d S2 M2 H2 u f2 t2 s2 r2 => f2 M2 H2 u (t1.trans t2) s2 r2
theorem ssb_ret (h : SEB Ts X B a wa) : SSB Ts X B (.Return (some a) pos) (wRet wa) := ⟨ps_imp (ps_ret h.pe) fun D σ H h => h, fun D D' τ S q k => h.mo _ _ _ _ q k.rt⟩
theorem ssb_set {i : Nat} {x : Str} {pos' : Pos} (hN : X.N.Nodup) (hi : X.N[i]? = some x) (hx : Loc X.env.scope x) (he : SEB Ts X B e wa) (hs : swapsWith e (some (.Name x pos')) pos.line X.env = pure false := by rfl) (hf : X.fn x = true ∨ X.env.scope.names.lookup x = some .local := by first | exact .inl rfl | exact .inr rfl | assumption) :
    SSB Ts X B (.Assign [.Name x pos'] e pos) (wAsg wa (wgName i)) := by
  refine ⟨ps_imp (ps_set hN hi hx he.pe hs hf) fun D σ H q => ?_, mo_asg he.mo (mg_name i)⟩
  obtain ⟨M, S, τ, t0, s, st, q⟩ := q
  exact runEB he.mo t0 s st q fun v S1 M1 H1 u f t1 s1 r1 => (gr_name (vs := [i]) (by simp)) M1 _ H1 τ σ v u _ _ (st.stp t1) r1 f fun τ2 σ2 w2 st2 _ => w2 M1 H1 σ2 t1 s1 st2
theorem ssb_if (hc : ST Ts X c wt) (ha : SSsB Ts X B as t) (hb : SSsB Ts X B bs u) : SSB Ts X B (.If c as bs pos) (wIfS wt t u) := by
  refine ⟨ps_imp (ps_if hc.pt ha.ps hb.ps) fun D σ H q => ?_, fun D D' τ S q k => hc.mo _ _ _ _ q fun b S1 q => ite_imp q (fun q => ha.mo _ _ _ _ q k) fun q => hb.mo _ _ _ _ q k⟩
  obtain ⟨M, S, τ, t0, s, st, q⟩ := q
  refine runT hc.mo s st q fun v S1 M1 H1 f t1 s1 => ite_imp f (fun f => ?_) fun f => ?_
  · exact ⟨M1, S1, τ, t0.trans t1, s1, st.stp t1, ha.mo _ _ _ _ f (dn_base D t1)⟩
  · exact ⟨M1, S1, τ, t0.trans t1, s1, st.stp t1, hb.mo _ _ _ _ f (dn_base D t1)⟩
theorem sssb_nil : SSsB Ts X B [] wNext := ⟨pss_imp pss_nil fun D σ H ⟨M, S, τ, _, s, st, h⟩ => h M H σ (.refl _ _ _ _) s st, fun D D' τ S h k => k.nx _ _ h⟩
theorem sssb_one (h : SSB Ts X B st t) : SSsB Ts X B [st] t := ⟨pss_one h.ps, h.mo⟩
theorem sssb_cons (h1 : SSB Ts X B st t) (h2 : SSsB Ts X B rest u) : SSsB Ts X B (st :: rest) (wSeq t u) := by
  refine ⟨pss_imp (pss_cons h1.ps h2.ps) fun D σ H h => ?_, fun D D' τ S h k => h1.mo _ _ _ _ h (le_seq h2.mo k)⟩
  obtain ⟨M, S, τ, t0, s, st, h⟩ := h
  refine ⟨M, S, τ, t0, s, st, h1.mo _ _ _ _ h ⟨fun τ1 S1 q M1 H1 σ1 t1 s1 st1 => ?_, fun _ _ q => q, fun _ _ q => q, fun _ _ q => q⟩⟩
  exact ⟨M1, S1, τ1, t0.trans t1, s1, st1, h2.mo _ _ _ _ q (dn_base D t1)⟩
/-- raise C(e) -/
def wRaise (C : Addr) (w : WE) (EX : Ev → WX) : WS := fun _ τ S => w τ S fun _ S1 => EX τ C S1
theorem ssb_raise {x : Str} {C : Addr} {EX : Ev → WX} {np cpos : Pos} (hc : X.calm = true) (O : ExcC X.K X.mg x C) (hg : Gl X x) (L : XLink X (EXh Ts X.K B EX)) (he : SE Ts X e wa) (hs : starEach [e] X.env = [(false, eval e X.env)] := by rfl) (hdb : (x == ("__debug__" : Str)) = false := by decide) :
    SSB Ts X B (.Raise (some (.Call (.Name x np) [e] [] cpos)) none pos) (wRaise C wa EX) := by
  refine ⟨ps_imp (ps_raiseX hc O hg L he.pe hs hdb) fun D σ H q => ?_, fun D D' τ S q k => q⟩
  obtain ⟨M, S, τ, t0, s, st, q⟩ := q
  exact runE he.mo s st q fun v S1 M1 H1 u f t1 s1 r1 => ⟨M1, S1, τ, C, rfl, rfl, t0.trans t1, s1, st.stp t1, f⟩
def wJ : List WE → Ev → Sto → (Sto → Prop) → Prop
  | [], _, S, Q => Q S
  | w :: ws, τ, S, Q => w τ S fun v S1 => ((∃ y, v = .str y ∧ y.length ≤ 2000) ∨ ∃ i : Int, v = .int i ∧ i.natAbs.log2 < 1920) ∧ wJ ws τ S1 Q
def wFstr (ws : List WE) : WE := fun τ S Q => wJ ws τ S fun S1 => ∀ x, Q (.str x) S1
theorem mo_j : ∀ {ws : List WE}, (∀ w ∈ ws, MoE w) → ∀ (τ : Ev) (S : Sto) (Q Q' : Sto → Prop), wJ ws τ S Q → (∀ S', Q S' → Q' S') → wJ ws τ S Q'
  | [], _, _, _, _, _, h, k => k _ h
  | w :: ws, m, τ, S, Q, Q', h, k => m w List.mem_cons_self _ _ _ _ h fun v S1 ⟨h1, h2⟩ => ⟨h1, mo_j (fun w hw => m w (List.mem_cons_of_mem _ hw)) _ _ _ _ h2 k⟩
structure SJ (Ts : List Addr) (X : Cx) (es : List Expr) (n : Nat) (ws : List WE) : Prop where
  pj : PJ X es n (fun σ H Q => ∃ M S τ, Sim Ts X.K M S H ∧ StR X.K M S.length H τ σ ∧ wJ ws τ S fun S1 => ∀ M1 H1, Stp Ts X.K M S.length H M1 S1.length H1 → Sim Ts X.K M1 S1 H1 → Q H1)
  mo : ∀ w ∈ ws, MoE w
theorem pj_imp {es : List Expr} {n : Nat} {t t' : TJ} (h : PJ X es n t) (k : ∀ σ H Q, t' σ H Q → t σ H Q) : PJ X es n t' := fun acc pins s σ H Q hl I q => h acc pins s σ H Q hl I (k _ _ _ q)
theorem sj_nil : SJ Ts X [] 0 [] := ⟨pj_imp pj_nil fun σ H Q ⟨M, S, τ, s, st, h⟩ => h M H (.refl _ _ _ _) s, fun w h => by cases h⟩
theorem sj_str {x : Str} {j : Nat} {es : List Expr} {n : Nat} {ws : List WE} (hx : x.length ≤ 2000) (hr : SJ Ts X es n ws) : SJ Ts X (.Constant (.str x) j pos :: es) (n + 2000) (wC (.str x) :: ws) := by
  refine ⟨pj_imp (pj_str pe_str hr.pj) fun σ H Q ⟨M, S, τ, s, st, h⟩ => ⟨x, rfl, hx, M, S, τ, s, st, h.2⟩, fun w h => ?_⟩
  rcases List.mem_cons.mp h with rfl | h
  · exact fun τ S Q Q' h k => k _ _ h
  · exact hr.mo w h
theorem sj_int {fpos : Pos} {es : List Expr} {n : Nat} {ws : List WE} (he : SE Ts X e wa) (hr : SJ Ts X es n ws) : SJ Ts X (.FormattedValue e (-1) none fpos :: es) (n + 2000) ((fun τ S Q => wa τ S fun v S1 => (∃ i : Int, v = .int i ∧ i.natAbs.log2 < 1920) ∧ Q v S1) :: ws) := by
  refine ⟨pj_imp (pj_int he.pe hr.pj) fun σ H Q ⟨M, S, τ, s, st, h⟩ => ?_, fun w h => ?_⟩
  · refine runE he.mo s st h fun v S1 M1 H1 u f t1 s1 r1 => ?_
    obtain ⟨⟨i, rfl, hi⟩, _, q⟩ := f
    cases r1
    exact ⟨i, rfl, hi, M1, S1, τ, s1, st.stp t1, mo_j hr.mo _ _ _ _ q fun S2 q M2 H2 t2 s2 => q M2 H2 (t1.trans t2) s2⟩
  · rcases List.mem_cons.mp h with rfl | h
    · exact fun τ S Q Q' h k => he.mo _ _ _ _ h fun v S1 ⟨h1, h2⟩ => ⟨h1, k _ _ h2⟩
    · exact hr.mo w h
theorem se_fstr {e1 e2 : Expr} {es : List Expr} {n : Nat} {ws : List WE} (h : SJ Ts X (e1 :: e2 :: es) n ws) (hn : n ≤ sizeLine) : SE Ts X (.JoinedStr (e1 :: e2 :: es) pos) (wFstr ws) := by
  refine ⟨pe_imp (pe_fstr h.pj hn) fun σ H Q ⟨M, S, τ, s, st, q⟩ => ⟨M, S, τ, s, st, mo_j h.mo _ _ _ _ q fun S1 q M1 H1 t1 s1 x => q x M1 H1 _ t1 s1 (.str x)⟩, fun τ S Q Q' q k => mo_j h.mo _ _ _ _ q fun S1 q x => k _ _ (q x)⟩
end
end L4
set_option Elab.async false
set_option linter.all false
set_option maxRecDepth 100000
namespace L3
open PySem PySem.Spec PySem.Calls PyProof.Rows L2
structure ExcI (K : PySem.W.Frag) (C : Addr) : Prop where
  ga : PySem.W.findIn K (.ref C) "__getattribute__" = some (some (.builtin "BaseException.__getattribute__"))
  gh : PySem.W.findIn K (.ref C) "__getattr__" = some none
  cl : PySem.W.findIn K (.ref C) "__class__" = some (some (.builtin "object.__class__"))
  get : PySem.W.specialIn K (.builtin "object.__class__") "__get__" = some (some (.builtin "getset_descriptor.__get__"))
  tk : PySem.W.takesIn K (.builtin "object.__class__") = some true
  ob : PySem.W.mroIn K C (.type "object") = some true
  be : PySem.W.mroIn K C (.type "BaseException") = some true
  ex : PySem.W.excIn K C bmV "ValueError.__new__" = true
section
variable {prog : Program} {w : World} {A : Around} {E : Value → Shared → Prop} {s : Shared} {K : PySem.W.Frag} {x C : Addr} {ox : Obj}
theorem ExcI.cls (e : ExcI K C) : ∃ cd, PySem.W.clsIn K C = some cd := by
  have q := e.ex
  unfold PySem.W.excIn at q
  split at q
  · rename_i dd cd sl ho
    exact ⟨cd, by unfold PySem.W.clsIn; rw [ho]⟩
  · cases q
theorem exc_check {M : Model} {v : Value} {Q : Unit → Shared → Prop} (e : ExcI K C) (X : K.In s.heap) (I : PySem.W.InstAt s.heap x ox C none) (hq : Q () s) : wpAny M A (checkBuiltinCall "BaseException.__getattribute__" ⟨[.ref x, v], []⟩) Q E s := by
  obtain ⟨h, g, d, t, os⟩ := s
  have hk : builtinKind "BaseException.__getattribute__" = some .slot := by decide +kernel
  have hsp : splitId "BaseException.__getattribute__" = some ("BaseException", "__getattribute__") := by decide +kernel
  have L0 := I.type (M := M)
  have L1 := PySem.W.looks_mroIn (M := M) X e.be
  have ha := PySem.F.args_bexc_ga (.ref x) v
  simp only [checkBuiltinCall, hk, hsp]
  refine wpAny_bind ?_
  unfold isInstance
  have hx := I.at_
  have hc := I.cls
  repeat (first | (with_reducible refine wpAny_loadPart_at hx ?_; rw [hc]) | with_reducible refine PySem.W.Looks.at L1 ?_ | wp_step)
  exact hq
theorem exc_class {Q : Option Value → Shared → Prop} (e : ExcI K C) (X : K.In s.heap) (I : PySem.W.InstAt s.heap x ox C none) (h : Q (some (.ref C)) { s with toks := s.toks + 1 }) : wpAny (model prog w) A (getAttr? (.ref x) "__class__") Q E s := by
  obtain ⟨cd, hcd⟩ := e.cls
  have hf : PySem.W.findObj K C none "__class__" = some (.bind (.builtin "getset_descriptor.__get__") (.builtin "object.__class__")) := by
    unfold PySem.W.findObj
    rw [hcd, Option.bind_some, e.cl, Option.bind_some]
    simp [e.get, e.tk]
  obtain ⟨hh, g, d, t, os⟩ := s
  have L0 := I.type (M := model prog w)
  have L1 := PySem.W.looks_findIn (M := model prog w) X e.ga
  have L2 := PySem.W.looks_findIn (M := model prog w) X e.gh
  have L3 := PySem.W.looks_find (M := model prog w) X I hf
  unfold getAttr? getAttrBy? getAttrBy
  refine wpAny_bind (wpAny_mkText (wpAny_bind (wpAny_attempt (wpAny_holding (wpAny_bind (L0.at (wpAny_bind (L1.at ?_))))))))
  show wpAny _ _ (getAttrByItsOwn _ _ _ _ _ _) _ _ _
  unfold getAttrByItsOwn
  refine wpAny_bind (L2.at ?_)
  refine wpAny_bind (wpAny_attempt (wpAny_holding ?_))
  show wpAny _ _ (boundAndCalled (.builtin "BaseException.__getattribute__") (.ref x) _) _ _ _
  unfold boundAndCalled
  refine wpAny_bind (wpAny_of_eq (PySem.F.attrBase_ValueError.ga.bind (.ref x)) ?_)
  refine wpAny_call (codeAny_call_builtin PySem.F.attrBase_ValueError.ga.plain PySem.F.entry_bexc_ga (exc_check e X I ?_))
  unfold Builtin.«object.__getattribute__»
  iterate 7 lk
  refine wpAny_pure ?_
  refine wpAny_bind (wpAny_pure ?_)
  refine wpAny_bind (L0.at ?_)
  refine wpAny_bind (L3.at ?_)
  show wpAny _ _ (Builtin.ObjectAttr.bindTo _ _ _ _) _ _ _
  show wpAny _ _ (holding [_] (call (.builtin "getset_descriptor.__get__") [.builtin "object.__class__", .ref x, .ref C]) >>= fun v => ret v) _ _ _
  refine wpAny_bind (wpAny_holding (wpAny_call (PySem.W.class_get X I e.ob ?_)))
  show wpAny _ _ (ret (.ref C)) _ _ _
  refine wpAny_pure ?_
  show wpAny _ _ (handedOut (.ref C)) _ _ _
  exact PySem.W.handed_on rfl (wpAny_pure h)
theorem kitx_exc (e : ExcI K C) : PySem.W.KitX K (.ref x) (.ref C) (fun h => PySem.W.InstAt h x ox C none) where
  ty := fun _ _ _ I => I.type
  it := fun _ _ X _ => by
    obtain ⟨cd, hc⟩ := e.cls
    unfold PySem.W.clsIn at hc
    split at hc
    · rename_i ho
      intro A' Q' E' s' k q
      unfold isType loadHead
      exact wpAny_bind (wpAny_loadPart (k _ _ (X _ _ ho)) (wpAny_pure q))
    · cases hc
  ne := fun h tp dd its n sl X g => by
    obtain ⟨cd, hc⟩ := e.cls
    refine Bool.eq_false_iff.mpr fun q => ?_
    have z : C = tp := Value.ref.inj (beq_iff_eq.mp q)
    subst z
    unfold PySem.W.clsIn at hc
    split at hc
    · rename_i ho
      have z := (X _ _ ho).symm.trans g
      cases z
    · cases hc
  ca := fun X I k => exc_class e X I k
end
section
variable {X : Cx}
/-- isinstance(e, c) -/
theorem isi_exc {pins : List (Addr × Obj)} {σ : L2.St} {H : Hp} {s : Shared} {A : Around} {E : Value → Shared → Prop} {Q : Value → Shared → Prop} {a C : Addr} {c : Value} {b : Bool} (I : Inv X pins σ H s) (ha : H a = some (.ext (ExcO a (.ref C) none))) (e : ExcI X.K C) (k : PySem.W.kitOne X.K (.ref C) c = some b) (h : ∀ tk, Q (.bool b) { s with toks := tk }) :
    wpAny (model X.prog X.w) A (call (.builtin "isinstance") [.ref a, c]) Q E s := by
  obtain ⟨⟨o, g, hc, hd, vs, hv⟩, _, _⟩ := (show ObjOk X.prog X.w H s.heap a (.ext (ExcO a (.ref C) none)) from I.hok a _ ha)
  exact PySem.W.kia_one (kitx_exc e) I.kIn ⟨g, hc, by unfold PySem.W.notCls; rw [hv], by rw [hd]; trivial⟩ k (fun z => nomatch z) h
end
end L3
set_option Elab.async false
set_option linter.all false
set_option maxRecDepth 100000
namespace L4
open PySem PySem.Spec PyProof.Rows L2 L3
section
variable {Ts : List Addr} {X : Cx} {a b c e o : Expr} {wa wb : WE} {pos p : Pos}
/-- the name of an own class -/
theorem se_gcls {x : Str} {D : Addr} (hg : Gl X x) (hm : X.mg x = some (.ref D)) (hdb : (x == ("__debug__" : Str)) = false := by decide) : SE Ts X (.Name x p) (wC (.glb D)) := by
  refine ⟨fun pins s σ H Q I h => ?_, fun τ S Q Q' h k => k _ _ h⟩
  obtain ⟨M, S, τ, sm, st, h⟩ := h
  exact ld_glob I hg hm ⟨.ref D, H, I, rfl, h M H _ (.refl _ _ _ _) sm (.glb D)⟩ hdb
def clsV : PV → Option Value
  | .glb D => some (.ref D)
  | .ty n => some (.type n)
  | _ => none
/-- isinstance(e, c), e an exception -/
def rIsiE (K : PySem.W.Frag) : WC := fun xs S Q => ∃ i C x c b, xs = [.ref i, x] ∧ S[i]? = some (.exc C []) ∧ clsV x = some c ∧ ExcI K C ∧ PySem.W.kitOne K (.ref C) c = some b ∧ Q (.bl b) S
theorem c_isiE : SC Ts X (.builtin "isinstance") (rIsiE X.K) := by
  refine ⟨⟨fun us H Q => ∃ a C c v b, us = [.ref a, v] ∧ ((∃ D, v = .ref D ∧ c = .ref D) ∨ ∃ n, v = .ty n ∧ c = .type n) ∧ H a = some (.ext (ExcO a (.ref C) none)) ∧ ExcI X.K C ∧ PySem.W.kitOne X.K (.ref C) c = some b ∧ Q (.bl b) H, fun pins s σ H us vs Q I rx h => ?_, fun M S H xs us Q s r h => ?_⟩, fun xs S Q Q' ⟨i, C, x, c, b, e, h1, h2, h3, h4, q⟩ k => ⟨i, C, x, c, b, e, h1, h2, h3, h4, k _ _ q⟩⟩
  · obtain ⟨a, C, c, v, b, rfl, rc, ha, e, k, q⟩ := h
    cases rx with
    | cons r1 r2 =>
      cases r2 with
      | cons r3 r4 =>
        cases r4
        cases (show _ = Value.ref a from r1)
        rcases rc with ⟨D, rfl, rfl⟩ | ⟨n, rfl, rfl⟩
        · cases (show _ = Value.ref D from r3)
          exact isi_exc I ha e k fun tk => ⟨.bl b, H, I.tok tk, rfl, q⟩
        · cases (show _ = Value.type n from r3)
          exact isi_exc I ha e k fun tk => ⟨.bl b, H, I.tok tk, rfl, q⟩
  · obtain ⟨i, C, x, c, b, rfl, h1, h2, h3, h4, q⟩ := h
    obtain ⟨u, v, rfl, r1, r2⟩ := r.two
    cases r1 with
    | ref hi =>
      rcases s.ob i _ h1 with ⟨_, _, g⟩ | ⟨z, _⟩
      · cases r2 <;> first | (cases h2; exact ⟨_, C, _, _, b, rfl, .inl ⟨_, rfl, rfl⟩, g, h3, h4, q.here s (.bl _)⟩) | (cases h2; exact ⟨_, C, _, _, b, rfl, .inr ⟨_, rfl, rfl⟩, g, h3, h4, q.here s (.bl _)⟩) | cases h2
      · exact absurd rfl z
theorem exs_nil {K : PySem.W.Frag} {mg : Str → Option Value} {F : Addr} : ∀ c ∈ ([] : List Addr), ∃ x, ExcC K mg x c ∧ (mroK K c).contains (.ref F) = true := fun c h => by cases h
theorem exs_cons {K : PySem.W.Frag} {mg : Str → Option Value} {F c0 : Addr} {x : Str} {cs : List Addr} (h : ExcC K mg x c0) (k : (mroK K c0).contains (.ref F) = true) (r : ∀ c ∈ cs, ∃ x, ExcC K mg x c ∧ (mroK K c).contains (.ref F) = true) : ∀ c ∈ c0 :: cs, ∃ x, ExcC K mg x c ∧ (mroK K c).contains (.ref F) = true := fun c hc => by
  rcases List.mem_cons.mp hc with rfl | hc
  · exact ⟨x, h, k⟩
  · exact r c hc
def exTry (cs : List Addr) (i : Nat) (wh : WS) (D : WEnds) : Ev → WX := fun τ' c S' => c ∈ cs ∧ wh ⟨fun τ2 S2 => D.nx (τ2.set i none) S2, D.rt, fun τ2 S2 => D.bk (τ2.set i none) S2, fun τ2 S2 => D.ct (τ2.set i none) S2⟩ (τ'.set i (some (.ref S'.length))) (S' ++ [.exc c []])
def wTryX (cs : List Addr) (i : Nat) (wb : (Ev → WX) → WS) (wh : WS) : WS := fun D τ S => ∃ D0 : WEnds, D0.le D ∧ wb (exTry cs i wh D0) D0 τ S
theorem WEnds.le.trans {D D1 D2 : WEnds} (a : D.le D1) (b : D1.le D2) : D.le D2 := ⟨fun _ _ h => b.nx _ _ (a.nx _ _ h), fun _ _ h => b.rt _ _ (a.rt _ _ h), fun _ _ h => b.bk _ _ (a.bk _ _ h), fun _ _ h => b.ct _ _ (a.ct _ _ h)⟩
theorem ss_tryX {body suite : List Stmt} {b₀ : Stmt} {n cls : Str} {i : Nat} {F : Addr} {np hpos : Pos} {wb : (Ev → WX) → WS} {wh : WS} {cs : List Addr} (hx : X.ex = []) (hst : X.stack = X.env :: X.outer) (hfr : X.env.frame = some X.env.locals) (hN : X.N.Nodup) (hi : X.N[i]? = some n) (hk : X.env.scope.names.lookup n = some .local) (O : ExcC X.K X.mg cls F) (hg : Gl X cls)
    (hcs : ∀ c ∈ cs, ∃ x, ExcC X.K X.mg x c ∧ (mroK X.K c).contains (.ref F) = true)
    (hb : ∀ p E B EX, XLink (trX X p E) (EXh Ts X.K B EX) → SSsB Ts (trX X p E) B body (wb EX)) (hh : ∀ p a, SSs Ts (hdX X p a) (b₀ :: suite) wh) (hdb : (cls == ("__debug__" : Str)) = false := by decide) :
    SS Ts X (.Try body [.ExceptHandler (some (.Name cls np)) (some n) (b₀ :: suite) hpos] [] [] pos) (wTryX cs i wb wh) := by
  have mh : MoS wh := (hh [] 0).mo
  refine ⟨ps_imp (ps_tryX (tb := fun EX D σ H => ∃ B EXw, (∀ C dx σ' H', EXh Ts X.K B EXw C dx σ' H' → EX C dx σ' H') ∧ ∃ M S τ D0, Stp Ts X.K B.M B.n B.H M S.length H ∧ Sim Ts X.K M S H ∧ StR X.K M S.length H τ σ ∧ D0.le (dn Ts X.K M S.length H D) ∧ wb EXw D0 τ S) (th := upS Ts X.K wh) hx hst hfr hN hi hk O hg
    (fun p E EX L pins s σ H D I ⟨B, EXw, k, M, S, τ, D0, t, sm, st, le, q⟩ => (hb p E B EXw (link_imp L k)).ps pins s σ H D I ⟨M, S, τ, t, sm, st, (hb p E B EXw (link_imp L k)).mo _ _ _ _ q le⟩) (fun p a => (hh p a).ps) hdb) fun D σ H h => ?_, fun D D' τ S ⟨D0, le, h⟩ l => ⟨D0, le.trans l, h⟩⟩
  obtain ⟨M, S, τ, s, st, D0, le, h⟩ := h
  refine ⟨⟨M, S.length, H⟩, _, fun C dx σ' H' q => ?_, M, S, τ, D0, .refl _ _ _ _, s, st, le, h⟩
  obtain ⟨M1, S1, τ1, c, rfl, rfl, t1, s1, st1, hc, hw⟩ := q
  obtain ⟨x, e1, e2⟩ := hcs c hc
  refine ⟨c, x, rfl, rfl, e1, e2, fun a ha => ?_⟩
  obtain ⟨s2, t2⟩ := s1.alloc (o := .ext (ExcO a (.ref c) none)) (ob := .exc c []) ha (fun M' H' t e => .inl ⟨rfl, rfl, e⟩)
  have rr : RP X.K (M1.add S1.length a a) (S1 ++ [Ob.exc c []]).length (upd H' a (.ext (ExcO a (.ref c) none))) (.ref S1.length) (.ref a) := by
    have := RP.ref (K := X.K) (M := M1.add S1.length a a) (n := (S1 ++ [Ob.exc c []]).length) (H := upd H' a (.ext (ExcO a (.ref c) none))) (i := S1.length) (by simp)
    rw [M1.add_m] at this
    exact this
  have t12 := Stp.trans t1 t2
  exact ⟨_, _, _, s2, (st1.stp t2).set rr i, mh _ _ _ _ hw ⟨fun τ2 S2 q M3 H3 σ3 t3 s3 st3 => le.nx _ _ q M3 H3 _ (t12.trans t3) s3 (st3.none i), fun v S2 q M3 H3 u t3 s3 r3 => le.rt _ _ q M3 H3 u (t12.trans t3) s3 r3, fun τ2 S2 q M3 H3 σ3 t3 s3 st3 => le.bk _ _ q M3 H3 _ (t12.trans t3) s3 (st3.none i), fun τ2 S2 q M3 H3 σ3 t3 s3 st3 => le.ct _ _ q M3 H3 _ (t12.trans t3) s3 (st3.none i)⟩⟩
end
def FgX (n : Nat) (E : WX) : WX := fun c S => E c S ∨ ∃ k, n ≤ k ∧ k ≤ S.length ∧ Closed k (S.take k) ∧ E c (S.take k)
theorem fgx_here {n : Nat} {E : WX} {c : Addr} {S : Sto} (h : E c S) : FgX n E c S := .inl h
theorem ok_bodyX {Ts : List Addr} {P : Program} {w : World} {K : PySem.W.Frag} {mg : Str → Option Value} {base : Heap} {x qual : Str} {st : Stmt} {f : Addr} {fd : FuncData} {N ps : List Str} {k : Nat} {wf : WCX} (F : Fun K x qual st f fd) (Sc : FnScope N ps (defScope st)) (len : ∀ pvs S Q E, wf pvs S Q E → pvs.length = ps.length)
    (hb : ∀ (cdv : Value) (A : Around) (outer : List Env) (s : Shared) (H : Hp) (E : XK), Room k (A.deeper (envOfC qual (defScope st) s.heap.objs.size f cdv)) →
      ∃ wb : (Ev → WX) → WS, (∀ B EX, XLink (cxOf (CX1 P w) P w K mg base N qual (defScope st) f cdv A outer s H E) (EXh Ts K B EX) → SSsB Ts (cxOf (CX1 P w) P w K mg base N qual (defScope st) f cdv A outer s H E) B (defBody st) (wb EX)) ∧
        ∀ pvs S Q EX, Closed S.length S → Cls S.length pvs → wf pvs S Q EX → wb (fun _ => FgX S.length EX) (endsW S.length Q) (startW N.length pvs) S) :
    FnOk P w K mg base (CX1 P w) (k + 1) f fd ps (spWX Ts K wf) := by
  obtain ⟨oc, od, kV, doc, pm, an, cdv, ct, osl, rfl, lk, hcd⟩ := F.ex
  refine fn_of lk hcd Sc (fun vs H Q E h => ?_) (fun A outer s H vs Q E hr h => ?_)
  · obtain ⟨M, S, pvs, sm, r, h⟩ := h
    rw [← r.length]; exact len _ _ _ _ h
  · obtain ⟨M, S, pvs, sm, r, h⟩ := h
    obtain ⟨wb, h1, h2⟩ := hb cdv A outer s H E hr
    have L : XLink (cxOf (CX1 P w) P w K mg base N qual (defScope st) f cdv A outer s H E) (EXh Ts K ⟨M, S.length, H⟩ (fun _ => FgX S.length (upX Ts K M S.length H E))) := by
      refine link_imp leave1 fun C dx σ H1 q => ?_
      obtain ⟨M1, S1, τ1, c, rfl, rfl, t1, s1, st1, q⟩ := q
      rcases q with q | ⟨j, j1, j2, j3, q⟩
      · exact q M1 H1 t1 s1
      · have hl : (S1.take j).length = j := by rw [List.length_take]; omega
        have e : S1 = S1.take j ++ S1.drop j := (List.take_append_drop j S1).symm
        rw [e] at s1
        have s' := Sim.forget s1 (by rw [hl]; exact j3)
        exact q M1 H1 (by rw [hl]; exact Stp.forget t1 j1 j2) s'
    have W := h1 ⟨M, S.length, H⟩ _ L
    refine ⟨_, W.ps, M, S, startW N.length pvs, .refl _ _ _ _, sm, r.start, ?_⟩
    refine W.mo _ _ _ _ (h2 pvs S _ _ sm.closed r.cl h) ⟨?_, ?_, ?_, ?_⟩
    · exact fun τ1 S1 q M1 H1 σ1 t1 s1 st1 => fg_use q t1 s1 .non
    · exact fun v S1 q M1 H1 u t1 s1 r1 => fg_use q t1 s1 r1
    · exact fun τ1 S1 q => q.elim
    · exact fun τ1 S1 q => q.elim
end L4
set_option Elab.async false
set_option linter.all false
set_option maxRecDepth 100000
namespace L4
open PySem PySem.Spec PyProof.Rows L2 L3
theorem log2_small {n : Nat} (h : n < 2 ^ 1900) : (((n : Nat) : Int)).natAbs.log2 < 1920 := by
  rw [Int.natAbs_natCast]
  by_cases c : n = 0
  · subst c; decide
  · have := (Nat.log2_lt c (k := 1920)).mpr (Nat.lt_of_lt_of_le h (Nat.pow_le_pow_right (by decide) (by decide)))
    exact this
theorem lt_pow1900 {n : Nat} (h : n ≤ 100000) : n < 2 ^ 1900 := Nat.lt_of_le_of_lt h (Nat.lt_of_lt_of_le (show 100000 < 2 ^ 17 by decide) (Nat.pow_le_pow_right (by decide) (by decide)))
section
variable {P : Program} {w : World} {K : PySem.W.Frag} {mg : Str → Option Value} {base : Heap}
def wFitX (C : Addr) : WCX := fun vs S Q E => ∃ a : Nat × List PV × PV, vs = [natP a.1, .tup a.2.1, a.2.2] ∧ (a.1 ≤ 1000 ∧ a.2.1.length ≤ 1000) ∧ if a.1 ≤ 16 ∧ a.2.1.length ≤ 160 then Q (.tup [natP a.1, .tup a.2.1, a.2.2]) S else E C S
theorem mo_fitX {C : Addr} : MoX (wFitX C) := fun xs S Q Q' E E' ⟨a, e, h1, h2⟩ k l => ⟨a, e, h1, by split at h2 <;> rename_i c <;> first | (rw [if_pos c]; exact k _ _ h2) | (rw [if_neg c]; exact l _ _ h2)⟩
abbrev s_fitting : Stmt := top 13
theorem sc_fitting : FnScope ["width", "switches", "order"] ["width", "switches", "order"] (defScope s_fitting) := ⟨rfl, rfl, rfl, by decide +kernel, rfl, by decide +kernel, by decide +kernel⟩
set_option maxHeartbeats 1000000 in
theorem ok_fitting {f : Addr} {fd : FuncData} (F : Fun K "fitting" "fitting" s_fitting f fd) (T : Tn mg) {cTooGreat : Addr} (X_TooGreat : ExcC K mg "TooGreat" cTooGreat) {tk_MOST_WIRES : Tok} (C_MOST_WIRES : mg "MOST_WIRES" = some (.int 16 tk_MOST_WIRES)) {tk_MOST_SWITCHES : Tok} (C_MOST_SWITCHES : mg "MOST_SWITCHES" = some (.int 160 tk_MOST_SWITCHES)) : FnOk P w K mg base (CX1 P w) 1 f fd ["width", "switches", "order"] (spWX Ts K (wFitX cTooGreat)) := by
  refine ok_bodyX (k := 0) F sc_fitting (fun pvs S Q E h => by obtain ⟨a, rfl, _⟩ := h; rfl) (fun cdv A outer s H E hr => ?_)
  have hu := hu_of hr
  refine ⟨_, fun B EX L => (sssb_cons (ssb_if (st_cmp s_gt (sv 0) (se_gint (i := 16) (by rfl) C_MOST_WIRES) (nomark _)) (sssb_one (ssb_raise rfl X_TooGreat (by rfl) L (se_fstr (sj_int (sv 0) (sj_str (by decide +kernel) (sj_int (se_gint (i := 16) (by rfl) C_MOST_WIRES) sj_nil))) (by decide)))) sssb_nil)
      (sssb_cons (ssb_if (st_cmp s_gt (se_callB c_len (by rfl) T.len_ (by decide +kernel) (sa_cons (sv 1) sa_nil)) (se_gint (i := 160) (by rfl) C_MOST_SWITCHES) (nomark _)) (sssb_one (ssb_raise rfl X_TooGreat (by rfl) L (se_fstr (sj_int (se_callB c_len (by rfl) T.len_ (by decide +kernel) (sa_cons (sv 1) sa_nil)) (sj_str (by decide +kernel) (sj_int (se_gint (i := 160) (by rfl) C_MOST_SWITCHES) sj_nil))) (by decide)))) sssb_nil)
      (sssb_one (ssb_of (ss_ret (se_tup (sa_cons (sv 0) (sa_cons (sv 1) (sa_cons (sv 2) sa_nil))))))))), fun pvs S Q EX hcl hca h => ?_⟩
  obtain ⟨⟨n, sw, o⟩, rfl, ⟨h1, h2⟩, h⟩ := h
  dsimp only at h1 h2 h
  simp only [wSeq, wAsg, wRet, wRetN, wDrop, wIfS, wVar, wC, wOp, wCall, wCons, wNil, wTup, wTest, wAnd, wOr, wNot, wAndV, wOrV, wNotV, wIf, wNext, wgName, wgTup, wgCons, wgNil, wFor, wSq, wYes, wLcU, wLcV, wLc, uTuple, uAll, uAny, uSum, wNeg, wSl, wPart, wNoPart, rSlW_tup, isNonP, seqW_tup, wLst, wipeW, wPar, wPut, wAug, wZip, wEnum, wRng1, wRng2, wChain, List.getElem?_cons_zero, List.getElem?_cons_succ, List.set_cons_zero, List.set_cons_succ, Option.some.injEq, exists_eq_left', exists_eq_left, exists_and_left, exists_eq_right, exists_eq_right', and_assoc, true_and, and_true, List.cons.injEq, and_self, if_true, if_false, Bool.false_eq_true, PV.int.injEq, PV.bl.injEq, PV.tup.injEq, PV.ref.injEq, PV.str.injEq, Bool.false_xor, Bool.true_xor, List.length_cons, List.length_nil, Nat.reduceAdd, Nat.reduceLeDiff, Nat.reduceEqDiff, Prod.mk.injEq, cutP_map, cutP_0, cutP_1, cutP_2, cutP_all, decide_eq_true_eq, startW, endsW, List.map_cons, List.map_nil, List.cons_append, List.nil_append, List.replicate, Nat.reduceSub, rIxW_tup, rLenW_tup, rListW_tup, wMeth, wRngL, wRngT, rIsiW_eq, tyP_non, tyP_bl, tyP_int, tyP_str, tyP_tup, isi_NoneType_int, isi_NoneType_bool, isi_NoneType_str, isi_NoneType_list, isi_NoneType_tuple, isi_NoneType_dict, isi_bool_int, isi_bool_bool, isi_bool_str, isi_bool_list, isi_bool_tuple, isi_bool_dict, isi_int_int, isi_int_bool, isi_int_str, isi_int_list, isi_int_tuple, isi_int_dict, isi_str_int, isi_str_bool, isi_str_str, isi_str_list, isi_str_tuple, isi_str_dict, isi_tuple_int, isi_tuple_bool, isi_tuple_str, isi_tuple_list, isi_tuple_tuple, isi_tuple_dict, isi_list_int, isi_list_bool, isi_list_str, isi_list_list, isi_list_tuple, isi_list_dict, isi_dict_int, isi_dict_bool, isi_dict_str, isi_dict_list, isi_dict_tuple, isi_dict_dict, decide_true, decide_false, Bool.not_true, Bool.not_false, Bool.not_eq_true', decide_eq_false_iff_not, ite_not, natP, swP, natsP, intsP, atI_0, atI_1, atI_2, atI_3, wLcU2, wLcV2, wTupZip, wZipN, wStep, wRev, wMaxD, wMinD, rInW_ints, rEqW_ii, rEqW_bb, rEqW_ss, rIsW_n, rIsW_bb, rAddW_ii, rAddW_ss, rAddW_tt, rIW_ii, rI0W_ii, rMulW_ii, rMulW_ti, rIntW_i, rIntW_b, rMax2W_ii, rMin2W_ii, wRaise, wFstr, wJ]
  have g1 := log2_small (lt_pow1900 (show n ≤ 100000 by omega))
  have g2 := log2_small (lt_pow1900 (show sw.length ≤ 100000 by omega))
  by_cases c1 : (16 : Int) < (n : Int)
  · rw [if_pos c1]
    rw [if_neg (by omega)] at h
    exact ⟨g1, .inr g1, .inl (by decide +kernel), by decide, .inr (by decide), fun _ => fgx_here h⟩
  · rw [if_neg c1]
    by_cases c2 : (160 : Int) < (sw.length : Int)
    · rw [if_pos c2]
      rw [if_neg (by omega)] at h
      exact ⟨g2, .inr g2, .inl (by decide +kernel), by decide, .inr (by decide), fun _ => fgx_here h⟩
    · rw [if_neg c2]
      rw [if_pos (by omega)] at h
      exact fg_here h
/-- one net behind another -/
def behX (N O : Net) : Net := ⟨N.w, N.sw ++ (renN O N.ord).sw, (renN O N.ord).ord⟩
def wBehX (C : Addr) : WCX := fun vs S Q E => ∃ a : Net × Net, vs = [netP a.1, netP a.2] ∧ (Ltn a.2 a.1.ord.length ∧ a.1.w ≤ 16 ∧ a.1.sw.length ≤ 200 ∧ a.2.sw.length ≤ 200) ∧ if a.1.sw.length + a.2.sw.length ≤ 160 then Q (netP (behX a.1 a.2)) S else E C S
theorem mo_behX {C : Addr} : MoX (wBehX C) := fun xs S Q Q' E E' ⟨a, e, h1, h2⟩ k l => ⟨a, e, h1, by split at h2 <;> rename_i c <;> first | (rw [if_pos c]; exact k _ _ h2) | (rw [if_neg c]; exact l _ _ h2)⟩
abbrev s_behind : Stmt := top 16
theorem sc_behind : FnScope ["one", "other", "switches", "order"] ["one", "other"] (defScope s_behind) := ⟨rfl, rfl, rfl, by decide +kernel, rfl, by decide +kernel, by decide +kernel⟩
set_option maxHeartbeats 1000000 in
theorem ok_behind {f : Addr} {fd : FuncData} (F : Fun K "behind" "behind" s_behind f fd) (T : Tn mg) (D_fitting : DefX Ts P w K mg base "fitting" 1 ["width", "switches", "order"] (wFitX cTooGreat)) (D_named : DefW Ts P w K mg base "named" 1 ["net", "wires"] wNamed) : FnOk P w K mg base (CX1 P w) 2 f fd ["one", "other"] (spWX Ts K (wBehX cTooGreat)) := by
  refine ok_bodyX (k := 1) F sc_behind (fun pvs S Q E h => by obtain ⟨a, rfl, _⟩ := h; rfl) (fun cdv A outer s H E hr => ?_)
  have hu := hu_of hr
  refine ⟨_, fun B EX L => (sssb_cons (ssb_of (ss_asg (vs := [2, 3]) (se_def D_named (hr.mono (by first | decide | omega)) (by rfl) (sa_cons (sv 1) (sa_cons (se_ix hu (sv 0) se_int (fun _ _ => rfl)) sa_nil))) (pg_tup (n := 2) rfl (pgs_cons (pg_name (i := 2) sc_behind.nd rfl (by first | exact Or.inl rfl | exact Or.inr rfl)) (pgs_cons (pg_name (i := 3) sc_behind.nd rfl (by first | exact Or.inl rfl | exact Or.inr rfl)) pgs_nil))) (gr_tup (gr_cons (gr_name (i := 2) (by decide)) (gr_cons (gr_name (i := 3) (by decide)) gr_nil))) (mg_tup (mg_cons (mg_name _) (mg_cons (mg_name _) mg_nil)))))
      (sssb_one (ssb_ret (seb_call D_fitting (hr.mono (by first | decide | omega)) (by rfl) L (sa_cons (se_ix hu (sv 0) se_int (fun _ _ => rfl)) (sa_cons (se_op s_add (se_ix hu (sv 0) se_int (fun _ _ => rfl)) (sv 2)) (sa_cons (sv 3) sa_nil))))))), fun pvs S Q EX hcl hca h => ?_⟩
  obtain ⟨⟨N, O⟩, rfl, ⟨hn, h1, h2, h3⟩, h⟩ := h
  dsimp only at hn h h1 h2 h3
  simp only [wSeq, wAsg, wRet, wRetN, wDrop, wIfS, wVar, wC, wOp, wCall, wCons, wNil, wTup, wTest, wAnd, wOr, wNot, wAndV, wOrV, wNotV, wIf, wNext, wgName, wgTup, wgCons, wgNil, wFor, wSq, wYes, wLcU, wLcV, wLc, uTuple, uAll, uAny, uSum, wNeg, wSl, wPart, wNoPart, rSlW_tup, isNonP, seqW_tup, wLst, wipeW, wPar, wPut, wAug, wZip, wEnum, wRng1, wRng2, wChain, List.getElem?_cons_zero, List.getElem?_cons_succ, List.set_cons_zero, List.set_cons_succ, Option.some.injEq, exists_eq_left', exists_eq_left, exists_and_left, exists_eq_right, exists_eq_right', and_assoc, true_and, and_true, List.cons.injEq, and_self, if_true, if_false, Bool.false_eq_true, PV.int.injEq, PV.bl.injEq, PV.tup.injEq, PV.ref.injEq, PV.str.injEq, Bool.false_xor, Bool.true_xor, List.length_cons, List.length_nil, Nat.reduceAdd, Nat.reduceLeDiff, Nat.reduceEqDiff, Prod.mk.injEq, cutP_map, cutP_0, cutP_1, cutP_2, cutP_all, decide_eq_true_eq, startW, endsW, List.map_cons, List.map_nil, List.cons_append, List.nil_append, List.replicate, Nat.reduceSub, rIxW_tup, rLenW_tup, rListW_tup, wMeth, wRngL, wRngT, rIsiW_eq, tyP_non, tyP_bl, tyP_int, tyP_str, tyP_tup, isi_NoneType_int, isi_NoneType_bool, isi_NoneType_str, isi_NoneType_list, isi_NoneType_tuple, isi_NoneType_dict, isi_bool_int, isi_bool_bool, isi_bool_str, isi_bool_list, isi_bool_tuple, isi_bool_dict, isi_int_int, isi_int_bool, isi_int_str, isi_int_list, isi_int_tuple, isi_int_dict, isi_str_int, isi_str_bool, isi_str_str, isi_str_list, isi_str_tuple, isi_str_dict, isi_tuple_int, isi_tuple_bool, isi_tuple_str, isi_tuple_list, isi_tuple_tuple, isi_tuple_dict, isi_list_int, isi_list_bool, isi_list_str, isi_list_list, isi_list_tuple, isi_list_dict, isi_dict_int, isi_dict_bool, isi_dict_str, isi_dict_list, isi_dict_tuple, isi_dict_dict, decide_true, decide_false, Bool.not_true, Bool.not_false, Bool.not_eq_true', decide_eq_false_iff_not, ite_not, natP, swP, natsP, intsP, atI_0, atI_1, atI_2, atI_3, wLcU2, wLcV2, wTupZip, wZipN, wStep, wRev, wMaxD, wMinD, rInW_ints, rEqW_ii, rEqW_bb, rEqW_ss, rIsW_n, rIsW_bb, rAddW_ii, rAddW_ss, rAddW_tt, rIW_ii, rI0W_ii, rMulW_ii, rMulW_ti, rIntW_i, rIntW_b, rMax2W_ii, rMin2W_ii, netP, wCallX]
  refine ⟨(O, N.ord), rfl, hn, ?_⟩
  simp only [wSeq, wAsg, wRet, wRetN, wDrop, wIfS, wVar, wC, wOp, wCall, wCons, wNil, wTup, wTest, wAnd, wOr, wNot, wAndV, wOrV, wNotV, wIf, wNext, wgName, wgTup, wgCons, wgNil, wFor, wSq, wYes, wLcU, wLcV, wLc, uTuple, uAll, uAny, uSum, wNeg, wSl, wPart, wNoPart, rSlW_tup, isNonP, seqW_tup, wLst, wipeW, wPar, wPut, wAug, wZip, wEnum, wRng1, wRng2, wChain, List.getElem?_cons_zero, List.getElem?_cons_succ, List.set_cons_zero, List.set_cons_succ, Option.some.injEq, exists_eq_left', exists_eq_left, exists_and_left, exists_eq_right, exists_eq_right', and_assoc, true_and, and_true, List.cons.injEq, and_self, if_true, if_false, Bool.false_eq_true, PV.int.injEq, PV.bl.injEq, PV.tup.injEq, PV.ref.injEq, PV.str.injEq, Bool.false_xor, Bool.true_xor, List.length_cons, List.length_nil, Nat.reduceAdd, Nat.reduceLeDiff, Nat.reduceEqDiff, Prod.mk.injEq, cutP_map, cutP_0, cutP_1, cutP_2, cutP_all, decide_eq_true_eq, startW, endsW, List.map_cons, List.map_nil, List.cons_append, List.nil_append, List.replicate, Nat.reduceSub, rIxW_tup, rLenW_tup, rListW_tup, wMeth, wRngL, wRngT, rIsiW_eq, tyP_non, tyP_bl, tyP_int, tyP_str, tyP_tup, isi_NoneType_int, isi_NoneType_bool, isi_NoneType_str, isi_NoneType_list, isi_NoneType_tuple, isi_NoneType_dict, isi_bool_int, isi_bool_bool, isi_bool_str, isi_bool_list, isi_bool_tuple, isi_bool_dict, isi_int_int, isi_int_bool, isi_int_str, isi_int_list, isi_int_tuple, isi_int_dict, isi_str_int, isi_str_bool, isi_str_str, isi_str_list, isi_str_tuple, isi_str_dict, isi_tuple_int, isi_tuple_bool, isi_tuple_str, isi_tuple_list, isi_tuple_tuple, isi_tuple_dict, isi_list_int, isi_list_bool, isi_list_str, isi_list_list, isi_list_tuple, isi_list_dict, isi_dict_int, isi_dict_bool, isi_dict_str, isi_dict_list, isi_dict_tuple, isi_dict_dict, decide_true, decide_false, Bool.not_true, Bool.not_false, Bool.not_eq_true', decide_eq_false_iff_not, ite_not, natP, swP, natsP, intsP, atI_0, atI_1, atI_2, atI_3, wLcU2, wLcV2, wTupZip, wZipN, wStep, wRev, wMaxD, wMinD, rInW_ints, rEqW_ii, rEqW_bb, rEqW_ss, rIsW_n, rIsW_bb, rAddW_ii, rAddW_ss, rAddW_tt, rIW_ii, rI0W_ii, rMulW_ii, rMulW_ti, rIntW_i, rIntW_b, rMax2W_ii, rMin2W_ii, netP]
  have l : (renN O N.ord).sw.length = O.sw.length := by simp [renN]
  have l2 : (N.sw.map swP ++ (renN O N.ord).sw.map swP).length = N.sw.length + O.sw.length := by rw [List.length_append, List.length_map, List.length_map, l]
  refine ⟨by rw [List.length_map, List.length_map, l]; omega, (N.w, N.sw.map swP ++ (renN O N.ord).sw.map swP, natsP (renN O N.ord).ord), rfl, ⟨by dsimp only; omega, by dsimp only; omega⟩, ?_⟩
  dsimp only
  rw [l2]
  by_cases c : N.sw.length + O.sw.length ≤ 160
  · rw [if_pos c] at h
    rw [if_pos ⟨h1, c⟩]
    refine fg_here ?_
    simpa [netP, behX, natsP, List.map_append] using h
  · rw [if_neg c] at h
    rw [if_neg (fun z => c z.2)]
    exact fgx_here h
/-- two nets beside one another -/
def besX (N O : Net) : Net := ⟨N.w + O.w, N.sw ++ (renN O (List.range' N.w O.w)).sw, N.ord ++ (renN O (List.range' N.w O.w)).ord⟩
def wBesX (C : Addr) : WCX := fun vs S Q E => ∃ a : Net × Net, vs = [netP a.1, netP a.2] ∧ (Ltn a.2 a.2.w ∧ a.1.w ≤ 16 ∧ a.2.w ≤ 16 ∧ a.1.sw.length ≤ 200 ∧ a.2.sw.length ≤ 200 ∧ a.1.ord.length ≤ 1000) ∧ if a.1.w + a.2.w ≤ 16 ∧ a.1.sw.length + a.2.sw.length ≤ 160 then Q (netP (besX a.1 a.2)) S else E C S
theorem mo_besX {C : Addr} : MoX (wBesX C) := fun xs S Q Q' E E' ⟨a, e, h1, h2⟩ k l => ⟨a, e, h1, by split at h2 <;> rename_i c <;> first | (rw [if_pos c]; exact k _ _ h2) | (rw [if_neg c]; exact l _ _ h2)⟩
theorem rngX (a n : Nat) : rngP (a : Int) n = (List.range' a n).map natP := by
  rw [rngP_map, List.range'_eq_map_range, List.map_map]
  refine List.map_congr_left fun i _ => ?_
  show PV.int _ = PV.int _
  congr 1
abbrev s_beside : Stmt := top 15
theorem sc_beside : FnScope ["one", "other", "width", "switches", "order"] ["one", "other"] (defScope s_beside) := ⟨rfl, rfl, rfl, by decide +kernel, rfl, by decide +kernel, by decide +kernel⟩
set_option maxHeartbeats 1000000 in
theorem ok_beside {f : Addr} {fd : FuncData} (F : Fun K "beside" "beside" s_beside f fd) (T : Tn mg) (D_fitting : DefX Ts P w K mg base "fitting" 1 ["width", "switches", "order"] (wFitX cTooGreat)) (D_named : DefW Ts P w K mg base "named" 1 ["net", "wires"] wNamed) : FnOk P w K mg base (CX1 P w) 2 f fd ["one", "other"] (spWX Ts K (wBesX cTooGreat)) := by
  refine ok_bodyX (k := 1) F sc_beside (fun pvs S Q E h => by obtain ⟨a, rfl, _⟩ := h; rfl) (fun cdv A outer s H E hr => ?_)
  have hu := hu_of hr
  refine ⟨_, fun B EX L => (sssb_cons (ssb_of (ss_set (i := 2) sc_beside.nd rfl (by first | exact Or.inl rfl | exact Or.inr rfl) (se_op s_add (se_ix hu (sv 0) se_int (fun _ _ => rfl)) (se_ix hu (sv 1) se_int (fun _ _ => rfl)))))
      (sssb_cons (ssb_of (ss_asg (vs := [3, 4]) (se_def D_named (hr.mono (by first | decide | omega)) (by rfl) (sa_cons (sv 1) (sa_cons (se_rngT2 rfl (by rfl) T.tuple_ (by rfl) T.range_ (se_ix hu (sv 0) se_int (fun _ _ => rfl)) (sv 2)) sa_nil))) (pg_tup (n := 2) rfl (pgs_cons (pg_name (i := 3) sc_beside.nd rfl (by first | exact Or.inl rfl | exact Or.inr rfl)) (pgs_cons (pg_name (i := 4) sc_beside.nd rfl (by first | exact Or.inl rfl | exact Or.inr rfl)) pgs_nil))) (gr_tup (gr_cons (gr_name (i := 3) (by decide)) (gr_cons (gr_name (i := 4) (by decide)) gr_nil))) (mg_tup (mg_cons (mg_name _) (mg_cons (mg_name _) mg_nil)))))
      (sssb_one (ssb_ret (seb_call D_fitting (hr.mono (by first | decide | omega)) (by rfl) L (sa_cons (sv 2) (sa_cons (se_op s_add (se_ix hu (sv 0) se_int (fun _ _ => rfl)) (sv 3)) (sa_cons (se_op s_add (se_ix hu (sv 0) se_int (fun _ _ => rfl)) (sv 4)) sa_nil)))))))), fun pvs S Q EX hcl hca h => ?_⟩
  obtain ⟨⟨N, O⟩, rfl, ⟨hn, h1, h2, h3, h4, h5⟩, h⟩ := h
  dsimp only at hn h h1 h2 h3 h4 h5
  simp only [wSeq, wAsg, wRet, wRetN, wDrop, wIfS, wVar, wC, wOp, wCall, wCons, wNil, wTup, wTest, wAnd, wOr, wNot, wAndV, wOrV, wNotV, wIf, wNext, wgName, wgTup, wgCons, wgNil, wFor, wSq, wYes, wLcU, wLcV, wLc, uTuple, uAll, uAny, uSum, wNeg, wSl, wPart, wNoPart, rSlW_tup, isNonP, seqW_tup, wLst, wipeW, wPar, wPut, wAug, wZip, wEnum, wRng1, wRng2, wChain, List.getElem?_cons_zero, List.getElem?_cons_succ, List.set_cons_zero, List.set_cons_succ, Option.some.injEq, exists_eq_left', exists_eq_left, exists_and_left, exists_eq_right, exists_eq_right', and_assoc, true_and, and_true, List.cons.injEq, and_self, if_true, if_false, Bool.false_eq_true, PV.int.injEq, PV.bl.injEq, PV.tup.injEq, PV.ref.injEq, PV.str.injEq, Bool.false_xor, Bool.true_xor, List.length_cons, List.length_nil, Nat.reduceAdd, Nat.reduceLeDiff, Nat.reduceEqDiff, Prod.mk.injEq, cutP_map, cutP_0, cutP_1, cutP_2, cutP_all, decide_eq_true_eq, startW, endsW, List.map_cons, List.map_nil, List.cons_append, List.nil_append, List.replicate, Nat.reduceSub, rIxW_tup, rLenW_tup, rListW_tup, wMeth, wRngL, wRngT, rIsiW_eq, tyP_non, tyP_bl, tyP_int, tyP_str, tyP_tup, isi_NoneType_int, isi_NoneType_bool, isi_NoneType_str, isi_NoneType_list, isi_NoneType_tuple, isi_NoneType_dict, isi_bool_int, isi_bool_bool, isi_bool_str, isi_bool_list, isi_bool_tuple, isi_bool_dict, isi_int_int, isi_int_bool, isi_int_str, isi_int_list, isi_int_tuple, isi_int_dict, isi_str_int, isi_str_bool, isi_str_str, isi_str_list, isi_str_tuple, isi_str_dict, isi_tuple_int, isi_tuple_bool, isi_tuple_str, isi_tuple_list, isi_tuple_tuple, isi_tuple_dict, isi_list_int, isi_list_bool, isi_list_str, isi_list_list, isi_list_tuple, isi_list_dict, isi_dict_int, isi_dict_bool, isi_dict_str, isi_dict_list, isi_dict_tuple, isi_dict_dict, decide_true, decide_false, Bool.not_true, Bool.not_false, Bool.not_eq_true', decide_eq_false_iff_not, ite_not, natP, swP, natsP, intsP, atI_0, atI_1, atI_2, atI_3, wLcU2, wLcV2, wTupZip, wZipN, wStep, wRev, wMaxD, wMinD, rInW_ints, rEqW_ii, rEqW_bb, rEqW_ss, rIsW_n, rIsW_bb, rAddW_ii, rAddW_ss, rAddW_tt, rIW_ii, rI0W_ii, rMulW_ii, rMulW_ti, rIntW_i, rIntW_b, rMax2W_ii, rMin2W_ii, netP, wRngT2, wCallX]
  refine ⟨by omega, by omega, by omega, ?_⟩
  have e : ((N.w : Int) + (O.w : Int) - (N.w : Int)).toNat = O.w := by omega
  rw [e, rngX]
  refine ⟨(O, List.range' N.w O.w), rfl, (by show Ltn O (List.range' N.w O.w).length; rw [List.length_range']; exact hn), ?_⟩
  simp only [wSeq, wAsg, wRet, wRetN, wDrop, wIfS, wVar, wC, wOp, wCall, wCons, wNil, wTup, wTest, wAnd, wOr, wNot, wAndV, wOrV, wNotV, wIf, wNext, wgName, wgTup, wgCons, wgNil, wFor, wSq, wYes, wLcU, wLcV, wLc, uTuple, uAll, uAny, uSum, wNeg, wSl, wPart, wNoPart, rSlW_tup, isNonP, seqW_tup, wLst, wipeW, wPar, wPut, wAug, wZip, wEnum, wRng1, wRng2, wChain, List.getElem?_cons_zero, List.getElem?_cons_succ, List.set_cons_zero, List.set_cons_succ, Option.some.injEq, exists_eq_left', exists_eq_left, exists_and_left, exists_eq_right, exists_eq_right', and_assoc, true_and, and_true, List.cons.injEq, and_self, if_true, if_false, Bool.false_eq_true, PV.int.injEq, PV.bl.injEq, PV.tup.injEq, PV.ref.injEq, PV.str.injEq, Bool.false_xor, Bool.true_xor, List.length_cons, List.length_nil, Nat.reduceAdd, Nat.reduceLeDiff, Nat.reduceEqDiff, Prod.mk.injEq, cutP_map, cutP_0, cutP_1, cutP_2, cutP_all, decide_eq_true_eq, startW, endsW, List.map_cons, List.map_nil, List.cons_append, List.nil_append, List.replicate, Nat.reduceSub, rIxW_tup, rLenW_tup, rListW_tup, wMeth, wRngL, wRngT, rIsiW_eq, tyP_non, tyP_bl, tyP_int, tyP_str, tyP_tup, isi_NoneType_int, isi_NoneType_bool, isi_NoneType_str, isi_NoneType_list, isi_NoneType_tuple, isi_NoneType_dict, isi_bool_int, isi_bool_bool, isi_bool_str, isi_bool_list, isi_bool_tuple, isi_bool_dict, isi_int_int, isi_int_bool, isi_int_str, isi_int_list, isi_int_tuple, isi_int_dict, isi_str_int, isi_str_bool, isi_str_str, isi_str_list, isi_str_tuple, isi_str_dict, isi_tuple_int, isi_tuple_bool, isi_tuple_str, isi_tuple_list, isi_tuple_tuple, isi_tuple_dict, isi_list_int, isi_list_bool, isi_list_str, isi_list_list, isi_list_tuple, isi_list_dict, isi_dict_int, isi_dict_bool, isi_dict_str, isi_dict_list, isi_dict_tuple, isi_dict_dict, decide_true, decide_false, Bool.not_true, Bool.not_false, Bool.not_eq_true', decide_eq_false_iff_not, ite_not, natP, swP, natsP, intsP, atI_0, atI_1, atI_2, atI_3, wLcU2, wLcV2, wTupZip, wZipN, wStep, wRev, wMaxD, wMinD, rInW_ints, rEqW_ii, rEqW_bb, rEqW_ss, rIsW_n, rIsW_bb, rAddW_ii, rAddW_ss, rAddW_tt, rIW_ii, rI0W_ii, rMulW_ii, rMulW_ti, rIntW_i, rIntW_b, rMax2W_ii, rMin2W_ii, netP]
  have l : (renN O (List.range' N.w O.w)).sw.length = O.sw.length := by simp [renN]
  have l3 : (renN O (List.range' N.w O.w)).ord.length = O.ord.length := by simp [renN]
  have l4 := hn.l2
  have l2 : (N.sw.map swP ++ (renN O (List.range' N.w O.w)).sw.map swP).length = N.sw.length + O.sw.length := by rw [List.length_append, List.length_map, List.length_map, l]
  refine ⟨by rw [List.length_map, List.length_map, l]; omega, by rw [List.length_map, List.length_map, l3]; omega, (N.w + O.w, N.sw.map swP ++ (renN O (List.range' N.w O.w)).sw.map swP, .tup (N.ord.map natP ++ (renN O (List.range' N.w O.w)).ord.map natP)), rfl, ⟨by dsimp only; omega, by dsimp only; omega⟩, ?_⟩
  dsimp only
  rw [l2]
  by_cases c : N.w + O.w ≤ 16 ∧ N.sw.length + O.sw.length ≤ 160
  · rw [if_pos c] at h
    rw [if_pos c]
    refine fg_here ?_
    simpa [netP, besX, natsP, List.map_append] using h
  · rw [if_neg c] at h
    rw [if_neg c]
    exact fgx_here h
end
end L4
set_option Elab.async false
set_option linter.all false
set_option maxRecDepth 100000
namespace L4
open PySem PySem.Spec PyProof.Rows L2 L3
section
variable {Ts : List Addr} {X : Cx}
theorem cnt_bl (b : Bool) : ∀ bs : List Bool, (bs.map V.bl).countP (fun z => eqV z (.bl b)) = bs.count b
  | [] => rfl
  | a :: bs => by
    rw [List.map_cons, List.countP_cons, cnt_bl b bs, List.count_cons]
    cases a <;> cases b <;> rfl
theorem flat_bl : ∀ bs : List Bool, (bs.map V.bl).all flatV = true
  | [] => rfl
  | a :: bs => by rw [List.map_cons, List.all_cons, flat_bl bs]; rfl
def rLCountB : WM := fun x xs S Q => ∃ (bs : List Bool) (b : Bool), seqW S x = some (false, bs.map PV.bl) ∧ xs = [.bl b] ∧ Q (.int ((bs.count b : Nat) : Int)) S
theorem m_countB : SM Ts X "list.count" rLCountB := by
  refine ⟨⟨_, mt_lcount, fun M S H x xs u us Q s r rs h => ?_⟩, fun x xs S Q Q' ⟨ns, y, h1, h2, q⟩ k => ⟨ns, y, h1, h2, k _ _ q⟩⟩
  obtain ⟨bs, b, h1, rfl, q⟩ := h
  obtain ⟨v, rfl, r1⟩ := rs.one
  cases r1
  obtain ⟨p, ws, rfl, h8, r8⟩ := s.seq h1 r
  obtain rfl := r8.of_bls
  refine ⟨p, _, _, rfl, rfl, h8, rfl, flat_bl bs, ?_⟩
  rw [cnt_bl]
  exact q.here s (.int _)
end
end L4
set_option Elab.async false
set_option linter.all false
set_option maxRecDepth 100000
namespace L4
open PySem PySem.Spec PyProof.Rows L2 L3
theorem pre_more {S S1 X : Sto} (h : ∃ G, S1 = S ++ G) : ∃ G, S1 ++ X = S ++ G := by obtain ⟨G, rfl⟩ := h; exact ⟨G ++ X, List.append_assoc _ _ _⟩
section
variable {P : Program} {w : World} {K : PySem.W.Frag} {mg : Str → Option Value} {base : Heap}
/-- the one class of a refusal -/
def wKindG (C : Addr) : WC := fun vs S Q => ∃ i : Nat, vs = [.ref i] ∧ S[i]? = some (.exc C []) ∧ Q (.str "great") S
theorem mo_kindG {C : Addr} : MoC (wKindG C) := fun xs S Q Q' ⟨i, e, h1, q⟩ k => ⟨i, e, h1, k _ _ q⟩
abbrev s_law_kind : Stmt := top 24
theorem sc_law_kind : FnScope ["caught", "flags"] ["caught"] (defScope s_law_kind) := ⟨rfl, rfl, rfl, by decide +kernel, rfl, by decide +kernel, by decide +kernel⟩
set_option maxHeartbeats 1000000 in
theorem ok_law_kind {f : Addr} {fd : FuncData} (F : Fun K "_law_kind" "_law_kind" s_law_kind f fd) (T : Tn mg) {cForkError : Addr} {cNoText : Addr} {cNoEvent : Addr} {cNoLine : Addr} {cNoFork : Addr} {cNoLeaf : Addr} {cNoWire : Addr} {cNoToken : Addr} {cTooGreat : Addr} (M_ForkError : mg "ForkError" = some (.ref cForkError)) (M_NoText : mg "NoText" = some (.ref cNoText)) (M_NoEvent : mg "NoEvent" = some (.ref cNoEvent)) (M_NoLine : mg "NoLine" = some (.ref cNoLine)) (M_NoFork : mg "NoFork" = some (.ref cNoFork)) (M_NoLeaf : mg "NoLeaf" = some (.ref cNoLeaf)) (M_NoWire : mg "NoWire" = some (.ref cNoWire)) (M_NoToken : mg "NoToken" = some (.ref cNoToken)) (M_TooGreat : mg "TooGreat" = some (.ref cTooGreat)) (I_TooGreat : ExcI K cTooGreat) (Q_TooGreat_ValueError : PySem.W.kitOne K (.ref cTooGreat) (.type "ValueError") = some true) (Q_TooGreat_ForkError : PySem.W.kitOne K (.ref cTooGreat) (.ref cForkError) = some true) (Q_TooGreat_NoText : PySem.W.kitOne K (.ref cTooGreat) (.ref cNoText) = some false) (Q_TooGreat_NoEvent : PySem.W.kitOne K (.ref cTooGreat) (.ref cNoEvent) = some false) (Q_TooGreat_NoLine : PySem.W.kitOne K (.ref cTooGreat) (.ref cNoLine) = some false) (Q_TooGreat_NoFork : PySem.W.kitOne K (.ref cTooGreat) (.ref cNoFork) = some false) (Q_TooGreat_NoLeaf : PySem.W.kitOne K (.ref cTooGreat) (.ref cNoLeaf) = some false) (Q_TooGreat_NoWire : PySem.W.kitOne K (.ref cTooGreat) (.ref cNoWire) = some false) (Q_TooGreat_NoToken : PySem.W.kitOne K (.ref cTooGreat) (.ref cNoToken) = some false) (Q_TooGreat_TooGreat : PySem.W.kitOne K (.ref cTooGreat) (.ref cTooGreat) = some true) (T_ValueError : mg "ValueError" = none) : FnOk P w K mg base CX0 1 f fd ["caught"] (spW Ts K (wKindG cTooGreat)) := by
  refine ok_body (k := 0) F sc_law_kind (fun pvs S Q h => by obtain ⟨a, rfl, _⟩ := h; rfl) (fun cdv A outer s H E hr => ?_)
  have hu := hu_of hr
  refine ⟨_, (sss_cons (ss_set (i := 1) sc_law_kind.nd rfl (by first | exact Or.inl rfl | exact Or.inr rfl) (se_lst (sa_cons (se_callB c_isiE (by rfl) T.isinstance_ (by decide +kernel) (sa_cons (sv 0) (sa_cons (se_gcls (by rfl) M_TooGreat) sa_nil))) (sa_cons (se_callB c_isiE (by rfl) T.isinstance_ (by decide +kernel) (sa_cons (sv 0) (sa_cons (se_gcls (by rfl) M_NoToken) sa_nil))) (sa_cons (se_callB c_isiE (by rfl) T.isinstance_ (by decide +kernel) (sa_cons (sv 0) (sa_cons (se_gcls (by rfl) M_NoWire) sa_nil))) sa_nil)))))
      (sss_cons (ss_set (i := 1) sc_law_kind.nd rfl (by first | exact Or.inl rfl | exact Or.inr rfl) (se_op s_add (sv 1) (se_lst (sa_cons (se_callB c_isiE (by rfl) T.isinstance_ (by decide +kernel) (sa_cons (sv 0) (sa_cons (se_gcls (by rfl) M_NoLeaf) sa_nil))) (sa_cons (se_callB c_isiE (by rfl) T.isinstance_ (by decide +kernel) (sa_cons (sv 0) (sa_cons (se_gcls (by rfl) M_NoFork) sa_nil))) (sa_cons (se_callB c_isiE (by rfl) T.isinstance_ (by decide +kernel) (sa_cons (sv 0) (sa_cons (se_gcls (by rfl) M_NoLine) sa_nil))) sa_nil))))))
      (sss_cons (ss_set (i := 1) sc_law_kind.nd rfl (by first | exact Or.inl rfl | exact Or.inr rfl) (se_op s_add (sv 1) (se_lst (sa_cons (se_callB c_isiE (by rfl) T.isinstance_ (by decide +kernel) (sa_cons (sv 0) (sa_cons (se_gcls (by rfl) M_NoEvent) sa_nil))) (sa_cons (se_callB c_isiE (by rfl) T.isinstance_ (by decide +kernel) (sa_cons (sv 0) (sa_cons (se_gcls (by rfl) M_NoText) sa_nil))) sa_nil)))))
      (sss_cons (ss_if (SW.st (sw_or (st_cmp (s_ne hr.units) (se_bm PySem.F.plainAttrs_list PySem.F.slot_list_count PySem.F.type_list_count m_countB (sv 1) (sa_cons se_bl sa_nil)) se_int (nomark _)) (sw_or (st_not (st_val (se_callB c_isiE (by rfl) T.isinstance_ (by decide +kernel) (sa_cons (sv 0) (sa_cons (se_gcls (by rfl) M_ForkError) sa_nil))))) (sw_or1 (st_not (st_val (se_callB c_isiE (by rfl) T.isinstance_ (by decide +kernel) (sa_cons (sv 0) (sa_cons (se_ty (n := "ValueError") (by rfl) T_ValueError (by decide +kernel)) sa_nil))))))))) (sss_one (ss_ret se_str)) sss_nil)
      (sss_one (ss_ret (se_ix hu (se_lst (sa_cons se_str (sa_cons se_str (sa_cons se_str (sa_cons se_str (sa_cons se_str (sa_cons se_str (sa_cons se_str (sa_cons se_str sa_nil))))))))) (se_bm PySem.F.plainAttrs_list PySem.F.slot_list_index PySem.F.type_list_index m_index (sv 1) (sa_cons se_bl sa_nil)) (fun _ _ => rfl)))))))), fun pvs S Q hcl hca h => ?_⟩
  obtain ⟨i, rfl, hi, h⟩ := h
  simp only [wSeq, wAsg, wRet, wRetN, wDrop, wIfS, wVar, wC, wOp, wCall, wCons, wNil, wTup, wTest, wAnd, wOr, wNot, wAndV, wOrV, wNotV, wIf, wNext, wgName, wgTup, wgCons, wgNil, wFor, wSq, wYes, wLcU, wLcV, wLc, uTuple, uAll, uAny, uSum, wNeg, wSl, wPart, wNoPart, rSlW_tup, isNonP, seqW_tup, wLst, wipeW, wPar, wPut, wAug, wZip, wEnum, wRng1, wRng2, wChain, List.getElem?_cons_zero, List.getElem?_cons_succ, List.set_cons_zero, List.set_cons_succ, Option.some.injEq, exists_eq_left', exists_eq_left, exists_and_left, exists_eq_right, exists_eq_right', and_assoc, true_and, and_true, List.cons.injEq, and_self, if_true, if_false, Bool.false_eq_true, PV.int.injEq, PV.bl.injEq, PV.tup.injEq, PV.ref.injEq, PV.str.injEq, Bool.false_xor, Bool.true_xor, List.length_cons, List.length_nil, Nat.reduceAdd, Nat.reduceLeDiff, Nat.reduceEqDiff, Prod.mk.injEq, cutP_map, cutP_0, cutP_1, cutP_2, cutP_all, decide_eq_true_eq, startW, endsW, List.map_cons, List.map_nil, List.cons_append, List.nil_append, List.replicate, Nat.reduceSub, rIxW_tup, rLenW_tup, rListW_tup, wMeth, wRngL, wRngT, rIsiW_eq, tyP_non, tyP_bl, tyP_int, tyP_str, tyP_tup, isi_NoneType_int, isi_NoneType_bool, isi_NoneType_str, isi_NoneType_list, isi_NoneType_tuple, isi_NoneType_dict, isi_bool_int, isi_bool_bool, isi_bool_str, isi_bool_list, isi_bool_tuple, isi_bool_dict, isi_int_int, isi_int_bool, isi_int_str, isi_int_list, isi_int_tuple, isi_int_dict, isi_str_int, isi_str_bool, isi_str_str, isi_str_list, isi_str_tuple, isi_str_dict, isi_tuple_int, isi_tuple_bool, isi_tuple_str, isi_tuple_list, isi_tuple_tuple, isi_tuple_dict, isi_list_int, isi_list_bool, isi_list_str, isi_list_list, isi_list_tuple, isi_list_dict, isi_dict_int, isi_dict_bool, isi_dict_str, isi_dict_list, isi_dict_tuple, isi_dict_dict, decide_true, decide_false, Bool.not_true, Bool.not_false, Bool.not_eq_true', decide_eq_false_iff_not, ite_not, natP, swP, natsP, intsP, atI_0, atI_1, atI_2, atI_3, wLcU2, wLcV2, wTupZip, wZipN, wStep, wRev, wMaxD, wMinD, rInW_ints, rEqW_ii, rEqW_bb, rEqW_ss, rIsW_n, rIsW_bb, rAddW_ii, rAddW_ss, rAddW_tt, rIW_ii, rI0W_ii, rMulW_ii, rMulW_ti, rIntW_i, rIntW_b, rMax2W_ii, rMin2W_ii]
  refine ⟨_, _, _, _, _, rfl, hi, rfl, I_TooGreat, Q_TooGreat_TooGreat, ?_⟩
  refine ⟨_, _, _, _, _, rfl, hi, rfl, I_TooGreat, Q_TooGreat_NoToken, ?_⟩
  refine ⟨_, _, _, _, _, rfl, hi, rfl, I_TooGreat, Q_TooGreat_NoWire, ?_⟩
  simp only [wSeq, wAsg, wRet, wRetN, wDrop, wIfS, wVar, wC, wOp, wCall, wCons, wNil, wTup, wTest, wAnd, wOr, wNot, wAndV, wOrV, wNotV, wIf, wNext, wgName, wgTup, wgCons, wgNil, wFor, wSq, wYes, wLcU, wLcV, wLc, uTuple, uAll, uAny, uSum, wNeg, wSl, wPart, wNoPart, rSlW_tup, isNonP, seqW_tup, wLst, wipeW, wPar, wPut, wAug, wZip, wEnum, wRng1, wRng2, wChain, List.getElem?_cons_zero, List.getElem?_cons_succ, List.set_cons_zero, List.set_cons_succ, Option.some.injEq, exists_eq_left', exists_eq_left, exists_and_left, exists_eq_right, exists_eq_right', and_assoc, true_and, and_true, List.cons.injEq, and_self, if_true, if_false, Bool.false_eq_true, PV.int.injEq, PV.bl.injEq, PV.tup.injEq, PV.ref.injEq, PV.str.injEq, Bool.false_xor, Bool.true_xor, List.length_cons, List.length_nil, Nat.reduceAdd, Nat.reduceLeDiff, Nat.reduceEqDiff, Prod.mk.injEq, cutP_map, cutP_0, cutP_1, cutP_2, cutP_all, decide_eq_true_eq, startW, endsW, List.map_cons, List.map_nil, List.cons_append, List.nil_append, List.replicate, Nat.reduceSub, rIxW_tup, rLenW_tup, rListW_tup, wMeth, wRngL, wRngT, rIsiW_eq, tyP_non, tyP_bl, tyP_int, tyP_str, tyP_tup, isi_NoneType_int, isi_NoneType_bool, isi_NoneType_str, isi_NoneType_list, isi_NoneType_tuple, isi_NoneType_dict, isi_bool_int, isi_bool_bool, isi_bool_str, isi_bool_list, isi_bool_tuple, isi_bool_dict, isi_int_int, isi_int_bool, isi_int_str, isi_int_list, isi_int_tuple, isi_int_dict, isi_str_int, isi_str_bool, isi_str_str, isi_str_list, isi_str_tuple, isi_str_dict, isi_tuple_int, isi_tuple_bool, isi_tuple_str, isi_tuple_list, isi_tuple_tuple, isi_tuple_dict, isi_list_int, isi_list_bool, isi_list_str, isi_list_list, isi_list_tuple, isi_list_dict, isi_dict_int, isi_dict_bool, isi_dict_str, isi_dict_list, isi_dict_tuple, isi_dict_dict, decide_true, decide_false, Bool.not_true, Bool.not_false, Bool.not_eq_true', decide_eq_false_iff_not, ite_not, natP, swP, natsP, intsP, atI_0, atI_1, atI_2, atI_3, wLcU2, wLcV2, wTupZip, wZipN, wStep, wRev, wMaxD, wMinD, rInW_ints, rEqW_ii, rEqW_bb, rEqW_ss, rIsW_n, rIsW_bb, rAddW_ii, rAddW_ss, rAddW_tt, rIW_ii, rI0W_ii, rMulW_ii, rMulW_ti, rIntW_i, rIntW_b, rMax2W_ii, rMin2W_ii]
  have hi1 : (S ++ [Ob.lst [PV.bl true, PV.bl false, PV.bl false]])[i]? = some (.exc cTooGreat []) := pen_at hi
  refine ⟨_, _, _, _, _, rfl, hi1, rfl, I_TooGreat, Q_TooGreat_NoLeaf, ?_⟩
  refine ⟨_, _, _, _, _, rfl, hi1, rfl, I_TooGreat, Q_TooGreat_NoFork, ?_⟩
  refine ⟨_, _, _, _, _, rfl, hi1, rfl, I_TooGreat, Q_TooGreat_NoLine, ?_⟩
  dsimp only
  have g1 : (S ++ [Ob.lst [PV.bl true, PV.bl false, PV.bl false]])[S.length]? = some (.lst [PV.bl true, PV.bl false, PV.bl false]) := get_new1 _ _
  have p1 : ∃ G, S ++ [Ob.lst [PV.bl true, PV.bl false, PV.bl false]] = S ++ G := ⟨_, rfl⟩
  generalize S ++ [Ob.lst [PV.bl true, PV.bl false, PV.bl false]] = S1 at p1 hi1 g1 ⊢
  rw [rAddW_ll (pen_at g1) (get_new1 _ _)]
  refine ⟨by decide, ?_⟩
  have hi2 : (S1 ++ [Ob.lst [PV.bl false, PV.bl false, PV.bl false]])[i]? = some (.exc cTooGreat []) := pen_at hi1
  have p2 : ∃ G, S1 ++ [Ob.lst [PV.bl false, PV.bl false, PV.bl false]] = S ++ G := pre_more p1
  generalize S1 ++ [Ob.lst [PV.bl false, PV.bl false, PV.bl false]] = S2 at p2 hi2 ⊢
  have hi3 : (S2 ++ [Ob.lst ([PV.bl true, PV.bl false, PV.bl false] ++ [PV.bl false, PV.bl false, PV.bl false])])[i]? = some (.exc cTooGreat []) := pen_at hi2
  have g3 : (S2 ++ [Ob.lst ([PV.bl true, PV.bl false, PV.bl false] ++ [PV.bl false, PV.bl false, PV.bl false])])[S2.length]? = some (.lst [PV.bl true, PV.bl false, PV.bl false, PV.bl false, PV.bl false, PV.bl false]) := get_new1 _ _
  have p3 : ∃ G, S2 ++ [Ob.lst ([PV.bl true, PV.bl false, PV.bl false] ++ [PV.bl false, PV.bl false, PV.bl false])] = S ++ G := pre_more p2
  generalize S2 ++ [Ob.lst ([PV.bl true, PV.bl false, PV.bl false] ++ [PV.bl false, PV.bl false, PV.bl false])] = S3 at p3 hi3 g3 ⊢
  refine ⟨_, _, _, _, _, rfl, hi3, rfl, I_TooGreat, Q_TooGreat_NoEvent, ?_⟩
  refine ⟨_, _, _, _, _, rfl, hi3, rfl, I_TooGreat, Q_TooGreat_NoText, ?_⟩
  dsimp only
  rw [rAddW_ll (pen_at g3) (get_new1 _ _)]
  refine ⟨by decide, ?_⟩
  have hi4 : (S3 ++ [Ob.lst [PV.bl false, PV.bl false]])[i]? = some (.exc cTooGreat []) := pen_at hi3
  have p4 : ∃ G, S3 ++ [Ob.lst [PV.bl false, PV.bl false]] = S ++ G := pre_more p3
  generalize S3 ++ [Ob.lst [PV.bl false, PV.bl false]] = S4 at p4 hi4 ⊢
  have hi5 : (S4 ++ [Ob.lst ([PV.bl true, PV.bl false, PV.bl false, PV.bl false, PV.bl false, PV.bl false] ++ [PV.bl false, PV.bl false])])[i]? = some (.exc cTooGreat []) := pen_at hi4
  have g5 : (S4 ++ [Ob.lst ([PV.bl true, PV.bl false, PV.bl false, PV.bl false, PV.bl false, PV.bl false] ++ [PV.bl false, PV.bl false])])[S4.length]? = some (.lst ([true, false, false, false, false, false, false, false].map PV.bl)) := get_new1 _ _
  have p5 : ∃ G, S4 ++ [Ob.lst ([PV.bl true, PV.bl false, PV.bl false, PV.bl false, PV.bl false, PV.bl false] ++ [PV.bl false, PV.bl false])] = S ++ G := pre_more p4
  generalize S4 ++ [Ob.lst ([PV.bl true, PV.bl false, PV.bl false, PV.bl false, PV.bl false, PV.bl false] ++ [PV.bl false, PV.bl false])] = S5 at p5 hi5 g5 ⊢
  rw [tyW_lst g5]
  refine ⟨trivial, _, true, seqW_lst g5, rfl, ?_⟩
  rw [show (List.count true [true, false, false, false, false, false, false, false]) = 1 from rfl]
  simp only [wSeq, wAsg, wRet, wRetN, wDrop, wIfS, wVar, wC, wOp, wCall, wCons, wNil, wTup, wTest, wAnd, wOr, wNot, wAndV, wOrV, wNotV, wIf, wNext, wgName, wgTup, wgCons, wgNil, wFor, wSq, wYes, wLcU, wLcV, wLc, uTuple, uAll, uAny, uSum, wNeg, wSl, wPart, wNoPart, rSlW_tup, isNonP, seqW_tup, wLst, wipeW, wPar, wPut, wAug, wZip, wEnum, wRng1, wRng2, wChain, List.getElem?_cons_zero, List.getElem?_cons_succ, List.set_cons_zero, List.set_cons_succ, Option.some.injEq, exists_eq_left', exists_eq_left, exists_and_left, exists_eq_right, exists_eq_right', and_assoc, true_and, and_true, List.cons.injEq, and_self, if_true, if_false, Bool.false_eq_true, PV.int.injEq, PV.bl.injEq, PV.tup.injEq, PV.ref.injEq, PV.str.injEq, Bool.false_xor, Bool.true_xor, List.length_cons, List.length_nil, Nat.reduceAdd, Nat.reduceLeDiff, Nat.reduceEqDiff, Prod.mk.injEq, cutP_map, cutP_0, cutP_1, cutP_2, cutP_all, decide_eq_true_eq, startW, endsW, List.map_cons, List.map_nil, List.cons_append, List.nil_append, List.replicate, Nat.reduceSub, rIxW_tup, rLenW_tup, rListW_tup, wMeth, wRngL, wRngT, rIsiW_eq, tyP_non, tyP_bl, tyP_int, tyP_str, tyP_tup, isi_NoneType_int, isi_NoneType_bool, isi_NoneType_str, isi_NoneType_list, isi_NoneType_tuple, isi_NoneType_dict, isi_bool_int, isi_bool_bool, isi_bool_str, isi_bool_list, isi_bool_tuple, isi_bool_dict, isi_int_int, isi_int_bool, isi_int_str, isi_int_list, isi_int_tuple, isi_int_dict, isi_str_int, isi_str_bool, isi_str_str, isi_str_list, isi_str_tuple, isi_str_dict, isi_tuple_int, isi_tuple_bool, isi_tuple_str, isi_tuple_list, isi_tuple_tuple, isi_tuple_dict, isi_list_int, isi_list_bool, isi_list_str, isi_list_list, isi_list_tuple, isi_list_dict, isi_dict_int, isi_dict_bool, isi_dict_str, isi_dict_list, isi_dict_tuple, isi_dict_dict, decide_true, decide_false, Bool.not_true, Bool.not_false, Bool.not_eq_true', decide_eq_false_iff_not, ite_not, natP, swP, natsP, intsP, atI_0, atI_1, atI_2, atI_3, wLcU2, wLcV2, wTupZip, wZipN, wStep, wRev, wMaxD, wMinD, rInW_ints, rEqW_ii, rEqW_bb, rEqW_ss, rIsW_n, rIsW_bb, rAddW_ii, rAddW_ss, rAddW_tt, rIW_ii, rI0W_ii, rMulW_ii, rMulW_ti, rIntW_i, rIntW_b, rMax2W_ii, rMin2W_ii]
  rw [if_pos (by decide)]
  refine ⟨_, _, _, _, _, rfl, hi5, rfl, I_TooGreat, Q_TooGreat_ForkError, ?_⟩
  refine ⟨_, rfl, ?_⟩
  rw [if_neg (by decide)]
  refine ⟨_, _, _, _, _, rfl, hi5, rfl, I_TooGreat, Q_TooGreat_ValueError, ?_⟩
  refine ⟨_, rfl, ?_⟩
  rw [if_neg (by decide)]
  rw [tyW_lst (pen_at g5)]
  refine ⟨trivial, .bl true, _, 0, .bl true, rfl, seqW_lst (pen_at g5), rfl, rfl, rfl, rfl, fun m z hm => absurd hm (Nat.not_lt_zero _), ?_⟩
  dsimp only
  rw [rIxW_lst (get_new1 _ _)]
  refine ⟨.str "great", rfl, ?_⟩
  obtain ⟨G, rfl⟩ := p5
  rw [List.append_assoc]
  exact fg_cut (Nat.le_refl _) hcl (by simp [PV.Cl]) h
end
end L4
set_option Elab.async false
set_option linter.all false
set_option maxRecDepth 100000
namespace L4
open PySem PySem.Spec PyProof.Rows L2 L3
/-- what two nets put together make, where they aren't too great -/
def putX (k : Nat) (N O : Net) : Option Net := if k = 0 then (if N.w + O.w ≤ 16 ∧ N.sw.length + O.sw.length ≤ 160 then some (besX N O) else none) else if N.sw.length + O.sw.length ≤ 160 then some (behX N O) else none
def tldP : Option Net → PV
  | some N => .tup [.str "told", netP N]
  | none => .tup [.str "refused", .str "great"]
theorem cl_two {n : Nat} {a b : Str} : (PV.tup [.str a, .str b]).Cl n := by simp [PV.Cl, Cls]
theorem ltn_ok {O : Net} (ok : O.Ok) (l : O.sw.length ≤ 160) : Ltn O O.w := by
  have l2 : O.ord.length = O.w := by rw [ok.ord.length_eq, List.length_range]
  have w16 := ok.w16
  exact ⟨fun s hs => ⟨(ok.sw s hs).1, (ok.sw s hs).2.1⟩, fun i hi => List.mem_range.mp (ok.ord.mem_iff.mp hi), by omega, by omega⟩
section
variable {P : Program} {w : World} {K : PySem.W.Frag} {mg : Str → Option Value} {base : Heap}
def wTold30 : WC := fun vs S Q => ∃ a : Nat × Net × Net, vs = [natP a.1, netP a.2.1, netP a.2.2] ∧ (a.2.1.Ok ∧ a.2.2.Ok ∧ a.2.1.sw.length ≤ 160 ∧ a.2.2.sw.length ≤ 160 ∧ (a.1 = 0 ∨ a.2.2.w = a.2.1.w)) ∧ Q (tldP (putX a.1 a.2.1 a.2.2)) S
theorem mo_told30 : MoC wTold30 := fun xs S Q Q' ⟨i, e, h1, q⟩ k => ⟨i, e, h1, k _ _ q⟩
abbrev s_law_told : Stmt := top 25
theorem sc_law_told : FnScope ["kind", "one", "other", "found", "caught", "e"] ["kind", "one", "other"] (defScope s_law_told) := ⟨rfl, rfl, rfl, by decide +kernel, rfl, by decide +kernel, by decide +kernel⟩
set_option maxHeartbeats 1000000 in
theorem ok_law_told {f : Addr} {fd : FuncData} (F : Fun K "_law_told" "_law_told" s_law_told f fd) (T : Tn mg) {cForkError : Addr} {cTooGreat : Addr} (X_ForkError : ExcC K mg "ForkError" cForkError) (X_TooGreat : ExcC K mg "TooGreat" cTooGreat) (S_TooGreat_ForkError : (mroK K cTooGreat).contains (.ref cForkError) = true) (D_law_kind : DefW Ts P w K mg base "_law_kind" 1 ["caught"] (wKindG cTooGreat)) (D_beside : DefX Ts P w K mg base "beside" 2 ["one", "other"] (wBesX cTooGreat)) (D_behind : DefX Ts P w K mg base "behind" 2 ["one", "other"] (wBehX cTooGreat)) : FnOk P w K mg base CX0 3 f fd ["kind", "one", "other"] (spW Ts K wTold30) := by
  refine ok_body (k := 2) F sc_law_told (fun pvs S Q h => by obtain ⟨a, rfl, _⟩ := h; rfl) (fun cdv A outer s H E hr => ?_)
  have hu := hu_of hr
  refine ⟨_, (sss_cons (ss_set (i := 3) sc_law_told.nd rfl (by first | exact Or.inl rfl | exact Or.inr rfl) se_non)
      (sss_cons (ss_set (i := 4) sc_law_told.nd rfl (by first | exact Or.inl rfl | exact Or.inr rfl) se_non)
      (sss_cons (ss_tryX (i := 5) (cs := [cTooGreat]) rfl rfl rfl sc_law_told.nd rfl rfl X_ForkError (by rfl) (exs_cons X_TooGreat S_TooGreat_ForkError exs_nil) (fun p E B EX L => (sssb_one (ssb_set (i := 3) sc_law_told.nd rfl (by first | exact Or.inl rfl | exact Or.inr rfl) (seb_if (st_cmp (s_eq hr.units) (sv 0) se_int (nomark _)) (seb_call D_beside (hr.mono (by first | decide | omega)) (by rfl) L (sa_cons (sv 1) (sa_cons (sv 2) sa_nil))) (seb_call D_behind (hr.mono (by first | decide | omega)) (by rfl) L (sa_cons (sv 1) (sa_cons (sv 2) sa_nil))))))) (fun p a => (sss_one (ss_set (i := 4) sc_law_told.nd rfl (by first | exact Or.inl rfl | exact Or.inr rfl) (sv 5)))))
      (sss_one (ss_ret (se_ifExp (st_cmp s_is (sv 4) se_non (nomark _)) (se_tup (sa_cons se_str (sa_cons (sv 3) sa_nil))) (se_tup (sa_cons se_str (sa_cons (se_def D_law_kind (hr.mono (by first | decide | omega)) (by rfl) (sa_cons (sv 4) sa_nil)) sa_nil))))))))), fun pvs S Q hcl hca h => ?_⟩
  obtain ⟨⟨kd, N, O⟩, rfl, ⟨okN, okO, lN, lO, hk⟩, h⟩ := h
  dsimp only at okN okO lN lO hk h
  simp only [wSeq, wAsg, wRet, wRetN, wDrop, wIfS, wVar, wC, wOp, wCall, wCons, wNil, wTup, wTest, wAnd, wOr, wNot, wAndV, wOrV, wNotV, wIf, wNext, wgName, wgTup, wgCons, wgNil, wFor, wSq, wYes, wLcU, wLcV, wLc, uTuple, uAll, uAny, uSum, wNeg, wSl, wPart, wNoPart, rSlW_tup, isNonP, seqW_tup, wLst, wipeW, wPar, wPut, wAug, wZip, wEnum, wRng1, wRng2, wChain, List.getElem?_cons_zero, List.getElem?_cons_succ, List.set_cons_zero, List.set_cons_succ, Option.some.injEq, exists_eq_left', exists_eq_left, exists_and_left, exists_eq_right, exists_eq_right', and_assoc, true_and, and_true, List.cons.injEq, and_self, if_true, if_false, Bool.false_eq_true, PV.int.injEq, PV.bl.injEq, PV.tup.injEq, PV.ref.injEq, PV.str.injEq, Bool.false_xor, Bool.true_xor, List.length_cons, List.length_nil, Nat.reduceAdd, Nat.reduceLeDiff, Nat.reduceEqDiff, Prod.mk.injEq, cutP_map, cutP_0, cutP_1, cutP_2, cutP_all, decide_eq_true_eq, startW, endsW, List.map_cons, List.map_nil, List.cons_append, List.nil_append, List.replicate, Nat.reduceSub, rIxW_tup, rLenW_tup, rListW_tup, wMeth, wRngL, wRngT, rIsiW_eq, tyP_non, tyP_bl, tyP_int, tyP_str, tyP_tup, isi_NoneType_int, isi_NoneType_bool, isi_NoneType_str, isi_NoneType_list, isi_NoneType_tuple, isi_NoneType_dict, isi_bool_int, isi_bool_bool, isi_bool_str, isi_bool_list, isi_bool_tuple, isi_bool_dict, isi_int_int, isi_int_bool, isi_int_str, isi_int_list, isi_int_tuple, isi_int_dict, isi_str_int, isi_str_bool, isi_str_str, isi_str_list, isi_str_tuple, isi_str_dict, isi_tuple_int, isi_tuple_bool, isi_tuple_str, isi_tuple_list, isi_tuple_tuple, isi_tuple_dict, isi_list_int, isi_list_bool, isi_list_str, isi_list_list, isi_list_tuple, isi_list_dict, isi_dict_int, isi_dict_bool, isi_dict_str, isi_dict_list, isi_dict_tuple, isi_dict_dict, decide_true, decide_false, Bool.not_true, Bool.not_false, Bool.not_eq_true', decide_eq_false_iff_not, ite_not, natP, swP, natsP, intsP, atI_0, atI_1, atI_2, atI_3, wLcU2, wLcV2, wTupZip, wZipN, wStep, wRev, wMaxD, wMinD, rInW_ints, rEqW_ii, rEqW_bb, rEqW_ss, rIsW_n, rIsW_bb, rAddW_ii, rAddW_ss, rAddW_tt, rIW_ii, rI0W_ii, rMulW_ii, rMulW_ti, rIntW_i, rIntW_b, rMax2W_ii, rMin2W_ii, wTryX, wCallX]
  refine ⟨_, WEnds.le.refl _, ?_⟩
  have lt := ltn_ok okO lO
  have nw := okN.w16
  have ow := okO.w16
  have nl : N.ord.length = N.w := by rw [okN.ord.length_eq, List.length_range]
  by_cases c : (kd : Int) = 0
  · rw [if_pos c]
    have c' : kd = 0 := by omega
    refine ⟨(N, O), rfl, ⟨lt, nw, ow, by dsimp only; omega, by dsimp only; omega, by dsimp only; omega⟩, ?_⟩
    unfold putX at h
    rw [if_pos c'] at h
    dsimp only
    by_cases d : N.w + O.w ≤ 16 ∧ N.sw.length + O.sw.length ≤ 160
    · rw [if_pos d] at h ⊢
      simp only [wSeq, wAsg, wRet, wRetN, wDrop, wIfS, wVar, wC, wOp, wCall, wCons, wNil, wTup, wTest, wAnd, wOr, wNot, wAndV, wOrV, wNotV, wIf, wNext, wgName, wgTup, wgCons, wgNil, wFor, wSq, wYes, wLcU, wLcV, wLc, uTuple, uAll, uAny, uSum, wNeg, wSl, wPart, wNoPart, rSlW_tup, isNonP, seqW_tup, wLst, wipeW, wPar, wPut, wAug, wZip, wEnum, wRng1, wRng2, wChain, List.getElem?_cons_zero, List.getElem?_cons_succ, List.set_cons_zero, List.set_cons_succ, Option.some.injEq, exists_eq_left', exists_eq_left, exists_and_left, exists_eq_right, exists_eq_right', and_assoc, true_and, and_true, List.cons.injEq, and_self, if_true, if_false, Bool.false_eq_true, PV.int.injEq, PV.bl.injEq, PV.tup.injEq, PV.ref.injEq, PV.str.injEq, Bool.false_xor, Bool.true_xor, List.length_cons, List.length_nil, Nat.reduceAdd, Nat.reduceLeDiff, Nat.reduceEqDiff, Prod.mk.injEq, cutP_map, cutP_0, cutP_1, cutP_2, cutP_all, decide_eq_true_eq, startW, endsW, List.map_cons, List.map_nil, List.cons_append, List.nil_append, List.replicate, Nat.reduceSub, rIxW_tup, rLenW_tup, rListW_tup, wMeth, wRngL, wRngT, rIsiW_eq, tyP_non, tyP_bl, tyP_int, tyP_str, tyP_tup, isi_NoneType_int, isi_NoneType_bool, isi_NoneType_str, isi_NoneType_list, isi_NoneType_tuple, isi_NoneType_dict, isi_bool_int, isi_bool_bool, isi_bool_str, isi_bool_list, isi_bool_tuple, isi_bool_dict, isi_int_int, isi_int_bool, isi_int_str, isi_int_list, isi_int_tuple, isi_int_dict, isi_str_int, isi_str_bool, isi_str_str, isi_str_list, isi_str_tuple, isi_str_dict, isi_tuple_int, isi_tuple_bool, isi_tuple_str, isi_tuple_list, isi_tuple_tuple, isi_tuple_dict, isi_list_int, isi_list_bool, isi_list_str, isi_list_list, isi_list_tuple, isi_list_dict, isi_dict_int, isi_dict_bool, isi_dict_str, isi_dict_list, isi_dict_tuple, isi_dict_dict, decide_true, decide_false, Bool.not_true, Bool.not_false, Bool.not_eq_true', decide_eq_false_iff_not, ite_not, natP, swP, natsP, intsP, atI_0, atI_1, atI_2, atI_3, wLcU2, wLcV2, wTupZip, wZipN, wStep, wRev, wMaxD, wMinD, rInW_ints, rEqW_ii, rEqW_bb, rEqW_ss, rIsW_n, rIsW_bb, rAddW_ii, rAddW_ss, rAddW_tt, rIW_ii, rI0W_ii, rMulW_ii, rMulW_ti, rIntW_i, rIntW_b, rMax2W_ii, rMin2W_ii]
      exact fg_here h
    · rw [if_neg d] at h ⊢
      unfold exTry
      refine ⟨List.mem_cons_self, ?_⟩
      simp only [wSeq, wAsg, wRet, wRetN, wDrop, wIfS, wVar, wC, wOp, wCall, wCons, wNil, wTup, wTest, wAnd, wOr, wNot, wAndV, wOrV, wNotV, wIf, wNext, wgName, wgTup, wgCons, wgNil, wFor, wSq, wYes, wLcU, wLcV, wLc, uTuple, uAll, uAny, uSum, wNeg, wSl, wPart, wNoPart, rSlW_tup, isNonP, seqW_tup, wLst, wipeW, wPar, wPut, wAug, wZip, wEnum, wRng1, wRng2, wChain, List.getElem?_cons_zero, List.getElem?_cons_succ, List.set_cons_zero, List.set_cons_succ, Option.some.injEq, exists_eq_left', exists_eq_left, exists_and_left, exists_eq_right, exists_eq_right', and_assoc, true_and, and_true, List.cons.injEq, and_self, if_true, if_false, Bool.false_eq_true, PV.int.injEq, PV.bl.injEq, PV.tup.injEq, PV.ref.injEq, PV.str.injEq, Bool.false_xor, Bool.true_xor, List.length_cons, List.length_nil, Nat.reduceAdd, Nat.reduceLeDiff, Nat.reduceEqDiff, Prod.mk.injEq, cutP_map, cutP_0, cutP_1, cutP_2, cutP_all, decide_eq_true_eq, startW, endsW, List.map_cons, List.map_nil, List.cons_append, List.nil_append, List.replicate, Nat.reduceSub, rIxW_tup, rLenW_tup, rListW_tup, wMeth, wRngL, wRngT, rIsiW_eq, tyP_non, tyP_bl, tyP_int, tyP_str, tyP_tup, isi_NoneType_int, isi_NoneType_bool, isi_NoneType_str, isi_NoneType_list, isi_NoneType_tuple, isi_NoneType_dict, isi_bool_int, isi_bool_bool, isi_bool_str, isi_bool_list, isi_bool_tuple, isi_bool_dict, isi_int_int, isi_int_bool, isi_int_str, isi_int_list, isi_int_tuple, isi_int_dict, isi_str_int, isi_str_bool, isi_str_str, isi_str_list, isi_str_tuple, isi_str_dict, isi_tuple_int, isi_tuple_bool, isi_tuple_str, isi_tuple_list, isi_tuple_tuple, isi_tuple_dict, isi_list_int, isi_list_bool, isi_list_str, isi_list_list, isi_list_tuple, isi_list_dict, isi_dict_int, isi_dict_bool, isi_dict_str, isi_dict_list, isi_dict_tuple, isi_dict_dict, decide_true, decide_false, Bool.not_true, Bool.not_false, Bool.not_eq_true', decide_eq_false_iff_not, ite_not, natP, swP, natsP, intsP, atI_0, atI_1, atI_2, atI_3, wLcU2, wLcV2, wTupZip, wZipN, wStep, wRev, wMaxD, wMinD, rInW_ints, rEqW_ii, rEqW_bb, rEqW_ss, rIsW_n, rIsW_bb, rAddW_ii, rAddW_ss, rAddW_tt, rIW_ii, rI0W_ii, rMulW_ii, rMulW_ti, rIntW_i, rIntW_b, rMax2W_ii, rMin2W_ii]
      refine ⟨_, rfl, get_new1 _ _, ?_⟩
      exact fg_cut (Nat.le_refl _) hcl cl_two h
  · rw [if_neg c]
    have c' : kd ≠ 0 := by omega
    have hw : O.w = N.w := hk.resolve_left c'
    refine ⟨(N, O), rfl, ⟨by dsimp only; rw [nl, ← hw]; exact lt, nw, by dsimp only; omega, by dsimp only; omega⟩, ?_⟩
    unfold putX at h
    rw [if_neg c'] at h
    dsimp only
    by_cases d : N.sw.length + O.sw.length ≤ 160
    · rw [if_pos d] at h ⊢
      simp only [wSeq, wAsg, wRet, wRetN, wDrop, wIfS, wVar, wC, wOp, wCall, wCons, wNil, wTup, wTest, wAnd, wOr, wNot, wAndV, wOrV, wNotV, wIf, wNext, wgName, wgTup, wgCons, wgNil, wFor, wSq, wYes, wLcU, wLcV, wLc, uTuple, uAll, uAny, uSum, wNeg, wSl, wPart, wNoPart, rSlW_tup, isNonP, seqW_tup, wLst, wipeW, wPar, wPut, wAug, wZip, wEnum, wRng1, wRng2, wChain, List.getElem?_cons_zero, List.getElem?_cons_succ, List.set_cons_zero, List.set_cons_succ, Option.some.injEq, exists_eq_left', exists_eq_left, exists_and_left, exists_eq_right, exists_eq_right', and_assoc, true_and, and_true, List.cons.injEq, and_self, if_true, if_false, Bool.false_eq_true, PV.int.injEq, PV.bl.injEq, PV.tup.injEq, PV.ref.injEq, PV.str.injEq, Bool.false_xor, Bool.true_xor, List.length_cons, List.length_nil, Nat.reduceAdd, Nat.reduceLeDiff, Nat.reduceEqDiff, Prod.mk.injEq, cutP_map, cutP_0, cutP_1, cutP_2, cutP_all, decide_eq_true_eq, startW, endsW, List.map_cons, List.map_nil, List.cons_append, List.nil_append, List.replicate, Nat.reduceSub, rIxW_tup, rLenW_tup, rListW_tup, wMeth, wRngL, wRngT, rIsiW_eq, tyP_non, tyP_bl, tyP_int, tyP_str, tyP_tup, isi_NoneType_int, isi_NoneType_bool, isi_NoneType_str, isi_NoneType_list, isi_NoneType_tuple, isi_NoneType_dict, isi_bool_int, isi_bool_bool, isi_bool_str, isi_bool_list, isi_bool_tuple, isi_bool_dict, isi_int_int, isi_int_bool, isi_int_str, isi_int_list, isi_int_tuple, isi_int_dict, isi_str_int, isi_str_bool, isi_str_str, isi_str_list, isi_str_tuple, isi_str_dict, isi_tuple_int, isi_tuple_bool, isi_tuple_str, isi_tuple_list, isi_tuple_tuple, isi_tuple_dict, isi_list_int, isi_list_bool, isi_list_str, isi_list_list, isi_list_tuple, isi_list_dict, isi_dict_int, isi_dict_bool, isi_dict_str, isi_dict_list, isi_dict_tuple, isi_dict_dict, decide_true, decide_false, Bool.not_true, Bool.not_false, Bool.not_eq_true', decide_eq_false_iff_not, ite_not, natP, swP, natsP, intsP, atI_0, atI_1, atI_2, atI_3, wLcU2, wLcV2, wTupZip, wZipN, wStep, wRev, wMaxD, wMinD, rInW_ints, rEqW_ii, rEqW_bb, rEqW_ss, rIsW_n, rIsW_bb, rAddW_ii, rAddW_ss, rAddW_tt, rIW_ii, rI0W_ii, rMulW_ii, rMulW_ti, rIntW_i, rIntW_b, rMax2W_ii, rMin2W_ii]
      exact fg_here h
    · rw [if_neg d] at h ⊢
      unfold exTry
      refine ⟨List.mem_cons_self, ?_⟩
      simp only [wSeq, wAsg, wRet, wRetN, wDrop, wIfS, wVar, wC, wOp, wCall, wCons, wNil, wTup, wTest, wAnd, wOr, wNot, wAndV, wOrV, wNotV, wIf, wNext, wgName, wgTup, wgCons, wgNil, wFor, wSq, wYes, wLcU, wLcV, wLc, uTuple, uAll, uAny, uSum, wNeg, wSl, wPart, wNoPart, rSlW_tup, isNonP, seqW_tup, wLst, wipeW, wPar, wPut, wAug, wZip, wEnum, wRng1, wRng2, wChain, List.getElem?_cons_zero, List.getElem?_cons_succ, List.set_cons_zero, List.set_cons_succ, Option.some.injEq, exists_eq_left', exists_eq_left, exists_and_left, exists_eq_right, exists_eq_right', and_assoc, true_and, and_true, List.cons.injEq, and_self, if_true, if_false, Bool.false_eq_true, PV.int.injEq, PV.bl.injEq, PV.tup.injEq, PV.ref.injEq, PV.str.injEq, Bool.false_xor, Bool.true_xor, List.length_cons, List.length_nil, Nat.reduceAdd, Nat.reduceLeDiff, Nat.reduceEqDiff, Prod.mk.injEq, cutP_map, cutP_0, cutP_1, cutP_2, cutP_all, decide_eq_true_eq, startW, endsW, List.map_cons, List.map_nil, List.cons_append, List.nil_append, List.replicate, Nat.reduceSub, rIxW_tup, rLenW_tup, rListW_tup, wMeth, wRngL, wRngT, rIsiW_eq, tyP_non, tyP_bl, tyP_int, tyP_str, tyP_tup, isi_NoneType_int, isi_NoneType_bool, isi_NoneType_str, isi_NoneType_list, isi_NoneType_tuple, isi_NoneType_dict, isi_bool_int, isi_bool_bool, isi_bool_str, isi_bool_list, isi_bool_tuple, isi_bool_dict, isi_int_int, isi_int_bool, isi_int_str, isi_int_list, isi_int_tuple, isi_int_dict, isi_str_int, isi_str_bool, isi_str_str, isi_str_list, isi_str_tuple, isi_str_dict, isi_tuple_int, isi_tuple_bool, isi_tuple_str, isi_tuple_list, isi_tuple_tuple, isi_tuple_dict, isi_list_int, isi_list_bool, isi_list_str, isi_list_list, isi_list_tuple, isi_list_dict, isi_dict_int, isi_dict_bool, isi_dict_str, isi_dict_list, isi_dict_tuple, isi_dict_dict, decide_true, decide_false, Bool.not_true, Bool.not_false, Bool.not_eq_true', decide_eq_false_iff_not, ite_not, natP, swP, natsP, intsP, atI_0, atI_1, atI_2, atI_3, wLcU2, wLcV2, wTupZip, wZipN, wStep, wRev, wMaxD, wMinD, rInW_ints, rEqW_ii, rEqW_bb, rEqW_ss, rIsW_n, rIsW_bb, rAddW_ii, rAddW_ss, rAddW_tt, rIW_ii, rI0W_ii, rMulW_ii, rMulW_ti, rIntW_i, rIntW_b, rMax2W_ii, rMin2W_ii]
      refine ⟨_, rfl, get_new1 _ _, ?_⟩
      exact fg_cut (Nat.le_refl _) hcl cl_two h
end
end L4
set_option Elab.async false
set_option linter.all false
set_option maxRecDepth 100000
namespace L4
open PySem PySem.Spec PyProof.Rows L2 L3
theorem hy0 {N : Net} {S : Sto} {Q : WQ} : rIxW (netP N) (.int 0) S Q = Q (natP N.w) S := by
  unfold netP; rw [rIxW_tup, atI_0]; simp
theorem hy1 {N : Net} {S : Sto} {Q : WQ} : rIxW (netP N) (.int 1) S Q = Q (.tup (N.sw.map swP)) S := by
  unfold netP; rw [rIxW_tup, atI_1]; simp
theorem hy2 {N : Net} {S : Sto} {Q : WQ} : rIxW (netP N) (.int 2) S Q = Q (natsP N.ord) S := by
  unfold netP; rw [rIxW_tup, atI_2]; simp
theorem cl_netY {n : Nat} (N : Net) : (netP N).Cl n := cl_tup fun x hx => by
  rcases List.mem_cons.mp hx with rfl | hx
  · exact cl_int
  rcases List.mem_cons.mp hx with rfl | hx
  · refine cl_tup fun y hy => ?_
    obtain ⟨s, _, rfl⟩ := List.mem_map.mp hy
    exact cl_tup fun z hz => by
      rcases List.mem_cons.mp hz with rfl | hz
      · exact cl_int
      · rw [List.mem_singleton.mp hz]; exact cl_int
  rw [List.mem_singleton.mp hx]
  refine cl_tup fun y hy => ?_
  obtain ⟨s, _, rfl⟩ := List.mem_map.mp hy
  exact cl_int
theorem rng_getD {a n i : Nat} (h : i < n) : (List.range' a n).getD i 0 = a + i := by
  rw [List.getD_eq_getElem?_getD, List.getElem?_range' h]; simp
def mX (k : Nat) (N O : Net) : Net := if k = 0 then besX N O else behX N O
theorem put_mX {k : Nat} {N O : Net} (h : N.w ≤ 16) : putX k N O = if (mX k N O).w ≤ 16 ∧ (mX k N O).sw.length ≤ 160 then some (mX k N O) else none := by
  unfold putX mX
  by_cases c : k = 0
  · rw [if_pos c, if_pos c]
    have e : (besX N O).sw.length = N.sw.length + O.sw.length := by unfold besX renN; simp
    rw [e]; rfl
  · rw [if_neg c, if_neg c]
    have e : (behX N O).sw.length = N.sw.length + O.sw.length := by unfold behX renN; simp
    rw [e]
    by_cases d : N.sw.length + O.sw.length ≤ 160
    · rw [if_pos d, if_pos ⟨h, d⟩]
    · rw [if_neg d, if_neg (fun z => d z.2)]
section
variable {P : Program} {w : World} {K : PySem.W.Frag} {mg : Str → Option Value} {base : Heap}
def R30 (S : Sto) (kd : Nat) (N O : Net) (M : Net) (τ : Ev) (S' : Sto) : Prop := ∃ p q, (∃ G, S' = S ++ G) ∧ S'[p]? = some (.lst (M.sw.map swP)) ∧ S'[q]? = some (.lst (M.ord.map natP)) ∧ ∃ x6 x7 x8, τ = [some (natP kd), some (netP N), some (netP O), some (.ref p), some (.ref q), some (natP M.w), x6, x7, x8]
abbrev s_law_due : Stmt := top 26
theorem sc_law_due : FnScope ["kind", "one", "other", "switches", "order", "width", "a", "b", "wire"] ["kind", "one", "other"] (defScope s_law_due) := ⟨rfl, rfl, rfl, by decide +kernel, rfl, by decide +kernel, by decide +kernel⟩
set_option maxHeartbeats 1000000 in
theorem ok_law_due {f : Addr} {fd : FuncData} (F : Fun K "_law_due" "_law_due" s_law_due f fd) (T : Tn mg)  : FnOk P w K mg base CX0 1 f fd ["kind", "one", "other"] (spW Ts K wTold30) := by
  refine ok_body (k := 0) F sc_law_due (fun pvs S Q h => by obtain ⟨a, rfl, _⟩ := h; rfl) (fun cdv A outer s H E hr => ?_)
  have hu := hu_of hr
  refine ⟨_, (sss_cons (ss_set (i := 3) sc_law_due.nd rfl (by first | exact Or.inl rfl | exact Or.inr rfl) (se_callTy c_list (by rfl) T.list_ (by decide +kernel) (sa_cons (se_ix hu (sv 1) se_int (fun _ _ => rfl)) sa_nil)))
      (sss_cons (ss_set (i := 4) sc_law_due.nd rfl (by first | exact Or.inl rfl | exact Or.inr rfl) (se_lst sa_nil))
      (sss_cons (ss_set (i := 5) sc_law_due.nd rfl (by first | exact Or.inl rfl | exact Or.inr rfl) (se_ix hu (sv 1) se_int (fun _ _ => rfl)))
      (sss_cons (ss_cut (ss_if (st_cmp (s_eq hr.units) (sv 0) se_int (nomark _)) (sss_cons (ss_for (vs := [6, 7]) PassesOwn.never rfl (si_seq (se_ix hu (sv 2) se_int (fun _ _ => rfl))) (pg_tup (n := 2) rfl (pgs_cons (pg_name (i := 6) sc_law_due.nd rfl (by first | exact Or.inl rfl | exact Or.inr rfl)) (pgs_cons (pg_name (i := 7) sc_law_due.nd rfl (by first | exact Or.inl rfl | exact Or.inr rfl)) pgs_nil))) (gr_tup (gr_cons (gr_name (i := 6) (by decide)) (gr_cons (gr_name (i := 7) (by decide)) gr_nil))) (mg_tup (mg_cons (mg_name _) (mg_cons (mg_name _) mg_nil))) (sss_one (ss_expr (se_bm PySem.F.plainAttrs_list PySem.F.slot_list_append PySem.F.type_list_append m_append (sv 3) (sa_cons (se_tup (sa_cons (se_op s_add (sv 6) (se_ix hu (sv 1) se_int (fun _ _ => rfl))) (sa_cons (se_op s_add (sv 7) (se_ix hu (sv 1) se_int (fun _ _ => rfl))) sa_nil))) sa_nil)))))
      (sss_cons (ss_set (i := 4) sc_law_due.nd rfl (by first | exact Or.inl rfl | exact Or.inr rfl) (se_op s_add (se_callTy c_list (by rfl) T.list_ (by decide +kernel) (sa_cons (se_ix hu (sv 1) se_int (fun _ _ => rfl)) sa_nil)) (se_lc (own := [("wire", 8)]) (g := (gName 8)) rfl sc_law_due.nd (si_seq (se_ix hu (sv 2) se_int (fun _ _ => rfl))) (blkOk_by (own := [("wire", 8)]) (N := ["kind", "one", "other", "switches", "order", "width", "a", "b", "wire"]) (sc := defScope s_law_due) (by decide +kernel)) (fun _ _ _ _ _ => (pg_name (i := 8) sc_law_due.nd rfl (by first | exact Or.inl rfl | exact Or.inr rfl))) (gr_name (i := 8) (by decide)) (mg_name _) (fun _ _ _ _ _ => sts_nil) (fun _ _ _ _ _ => (se_op s_add (sv 8) (se_ix hu (sv 1) se_int (fun _ _ => rfl)))))))
      (sss_one (ss_set (i := 5) sc_law_due.nd rfl (by first | exact Or.inl rfl | exact Or.inr rfl) (se_op s_add (sv 5) (se_ix hu (sv 2) se_int (fun _ _ => rfl))))))) (sss_cons (ss_for (vs := [6, 7]) PassesOwn.never rfl (si_seq (se_ix hu (sv 2) se_int (fun _ _ => rfl))) (pg_tup (n := 2) rfl (pgs_cons (pg_name (i := 6) sc_law_due.nd rfl (by first | exact Or.inl rfl | exact Or.inr rfl)) (pgs_cons (pg_name (i := 7) sc_law_due.nd rfl (by first | exact Or.inl rfl | exact Or.inr rfl)) pgs_nil))) (gr_tup (gr_cons (gr_name (i := 6) (by decide)) (gr_cons (gr_name (i := 7) (by decide)) gr_nil))) (mg_tup (mg_cons (mg_name _) (mg_cons (mg_name _) mg_nil))) (sss_one (ss_expr (se_bm PySem.F.plainAttrs_list PySem.F.slot_list_append PySem.F.type_list_append m_append (sv 3) (sa_cons (se_tup (sa_cons (se_ix hu (se_ix hu (sv 1) se_int (fun _ _ => rfl)) (sv 6) (fun _ _ => rfl)) (sa_cons (se_ix hu (se_ix hu (sv 1) se_int (fun _ _ => rfl)) (sv 7) (fun _ _ => rfl)) sa_nil))) sa_nil)))))
      (sss_one (ss_setLc (i := 4) (own := [("wire", 8)]) (g := (gName 8)) rfl sc_law_due.nd rfl rfl (sw_true rfl rfl rfl (by decide +kernel)) (si_seq (se_ix hu (sv 2) se_int (fun _ _ => rfl))) (blkOk_by (own := [("wire", 8)]) (N := ["kind", "one", "other", "switches", "order", "width", "a", "b", "wire"]) (sc := defScope s_law_due) (by decide +kernel)) (fun _ _ _ _ _ => (pg_name (i := 8) sc_law_due.nd rfl (by first | exact Or.inl rfl | exact Or.inr rfl))) (gr_name (i := 8) (by decide)) (mg_name _) (fun _ _ _ _ _ => sts_nil) (fun _ _ _ _ _ => (se_ix hu (se_ix hu (sv 1) se_int (fun _ _ => rfl)) (sv 8) (fun _ _ => rfl))))))))
      (sss_cons (ss_if (SW.st (sw_or (st_cmp s_gt (sv 5) se_int (nomark _)) (sw_or1 (st_cmp s_gt (se_callB c_len (by rfl) T.len_ (by decide +kernel) (sa_cons (sv 3) sa_nil)) se_int (nomark _))))) (sss_one (ss_ret (se_tup (sa_cons se_str (sa_cons se_str sa_nil))))) sss_nil)
      (sss_one (ss_ret (se_tup (sa_cons se_str (sa_cons (se_tup (sa_cons (sv 5) (sa_cons (se_callTy c_tuple (by rfl) T.tuple_ (by decide +kernel) (sa_cons (sv 3) sa_nil)) (sa_cons (se_callTy c_tuple (by rfl) T.tuple_ (by decide +kernel) (sa_cons (sv 4) sa_nil)) sa_nil)))) sa_nil)))))))))), fun pvs S Q hcl hca h => ?_⟩
  obtain ⟨⟨kd, N, O⟩, rfl, ⟨okN, okO, lN, lO, hk⟩, h⟩ := h
  dsimp only at okN okO lN lO hk h
  have nw := okN.w16
  have ow := okO.w16
  have nl : N.ord.length = N.w := by rw [okN.ord.length_eq, List.length_range]
  have ol : O.ord.length = O.w := by rw [okO.ord.length_eq, List.length_range]
  simp only [wSeq, wAsg, wRet, wRetN, wDrop, wIfS, wVar, wC, wOp, wCall, wCons, wNil, wTup, wTest, wAnd, wOr, wNot, wAndV, wOrV, wNotV, wIf, wNext, wgName, wgTup, wgCons, wgNil, wFor, wSq, wYes, wLcU, wLcV, wLc, uTuple, uAll, uAny, uSum, wNeg, wSl, wPart, wNoPart, rSlW_tup, isNonP, seqW_tup, wLst, wipeW, wPar, wPut, wAug, wZip, wEnum, wRng1, wRng2, wChain, List.getElem?_cons_zero, List.getElem?_cons_succ, List.set_cons_zero, List.set_cons_succ, Option.some.injEq, exists_eq_left', exists_eq_left, exists_and_left, exists_eq_right, exists_eq_right', and_assoc, true_and, and_true, List.cons.injEq, and_self, if_true, if_false, Bool.false_eq_true, PV.int.injEq, PV.bl.injEq, PV.tup.injEq, PV.ref.injEq, PV.str.injEq, Bool.false_xor, Bool.true_xor, List.length_cons, List.length_nil, Nat.reduceAdd, Nat.reduceLeDiff, Nat.reduceEqDiff, Prod.mk.injEq, cutP_map, cutP_0, cutP_1, cutP_2, cutP_all, decide_eq_true_eq, startW, endsW, List.map_cons, List.map_nil, List.cons_append, List.nil_append, List.replicate, Nat.reduceSub, rIxW_tup, rLenW_tup, rListW_tup, wMeth, wRngL, wRngT, rIsiW_eq, tyP_non, tyP_bl, tyP_int, tyP_str, tyP_tup, isi_NoneType_int, isi_NoneType_bool, isi_NoneType_str, isi_NoneType_list, isi_NoneType_tuple, isi_NoneType_dict, isi_bool_int, isi_bool_bool, isi_bool_str, isi_bool_list, isi_bool_tuple, isi_bool_dict, isi_int_int, isi_int_bool, isi_int_str, isi_int_list, isi_int_tuple, isi_int_dict, isi_str_int, isi_str_bool, isi_str_str, isi_str_list, isi_str_tuple, isi_str_dict, isi_tuple_int, isi_tuple_bool, isi_tuple_str, isi_tuple_list, isi_tuple_tuple, isi_tuple_dict, isi_list_int, isi_list_bool, isi_list_str, isi_list_list, isi_list_tuple, isi_list_dict, isi_dict_int, isi_dict_bool, isi_dict_str, isi_dict_list, isi_dict_tuple, isi_dict_dict, decide_true, decide_false, Bool.not_true, Bool.not_false, Bool.not_eq_true', decide_eq_false_iff_not, ite_not, natP, swP, natsP, intsP, atI_0, atI_1, atI_2, atI_3, wLcU2, wLcV2, wTupZip, wZipN, wStep, wRev, wMaxD, wMinD, rInW_ints, rEqW_ii, rEqW_bb, rEqW_ss, rIsW_n, rIsW_bb, rAddW_ii, rAddW_ss, rAddW_tt, rIW_ii, rI0W_ii, rMulW_ii, rMulW_ti, rIntW_i, rIntW_b, rMax2W_ii, rMin2W_ii, hy0, hy1, hy2]
  rw [List.append_assoc]
  refine ⟨R30 S kd N O (mX kd N O), ?_, ?_⟩
  · simp only [wSeq, wAsg, wRet, wRetN, wDrop, wIfS, wVar, wC, wOp, wCall, wCons, wNil, wTup, wTest, wAnd, wOr, wNot, wAndV, wOrV, wNotV, wIf, wNext, wgName, wgTup, wgCons, wgNil, wFor, wSq, wYes, wLcU, wLcV, wLc, uTuple, uAll, uAny, uSum, wNeg, wSl, wPart, wNoPart, rSlW_tup, isNonP, seqW_tup, wLst, wipeW, wPar, wPut, wAug, wZip, wEnum, wRng1, wRng2, wChain, List.getElem?_cons_zero, List.getElem?_cons_succ, List.set_cons_zero, List.set_cons_succ, Option.some.injEq, exists_eq_left', exists_eq_left, exists_and_left, exists_eq_right, exists_eq_right', and_assoc, true_and, and_true, List.cons.injEq, and_self, if_true, if_false, Bool.false_eq_true, PV.int.injEq, PV.bl.injEq, PV.tup.injEq, PV.ref.injEq, PV.str.injEq, Bool.false_xor, Bool.true_xor, List.length_cons, List.length_nil, Nat.reduceAdd, Nat.reduceLeDiff, Nat.reduceEqDiff, Prod.mk.injEq, cutP_map, cutP_0, cutP_1, cutP_2, cutP_all, decide_eq_true_eq, startW, endsW, List.map_cons, List.map_nil, List.cons_append, List.nil_append, List.replicate, Nat.reduceSub, rIxW_tup, rLenW_tup, rListW_tup, wMeth, wRngL, wRngT, rIsiW_eq, tyP_non, tyP_bl, tyP_int, tyP_str, tyP_tup, isi_NoneType_int, isi_NoneType_bool, isi_NoneType_str, isi_NoneType_list, isi_NoneType_tuple, isi_NoneType_dict, isi_bool_int, isi_bool_bool, isi_bool_str, isi_bool_list, isi_bool_tuple, isi_bool_dict, isi_int_int, isi_int_bool, isi_int_str, isi_int_list, isi_int_tuple, isi_int_dict, isi_str_int, isi_str_bool, isi_str_str, isi_str_list, isi_str_tuple, isi_str_dict, isi_tuple_int, isi_tuple_bool, isi_tuple_str, isi_tuple_list, isi_tuple_tuple, isi_tuple_dict, isi_list_int, isi_list_bool, isi_list_str, isi_list_list, isi_list_tuple, isi_list_dict, isi_dict_int, isi_dict_bool, isi_dict_str, isi_dict_list, isi_dict_tuple, isi_dict_dict, decide_true, decide_false, Bool.not_true, Bool.not_false, Bool.not_eq_true', decide_eq_false_iff_not, ite_not, natP, swP, natsP, intsP, atI_0, atI_1, atI_2, atI_3, wLcU2, wLcV2, wTupZip, wZipN, wStep, wRev, wMaxD, wMinD, rInW_ints, rEqW_ii, rEqW_bb, rEqW_ss, rIsW_n, rIsW_bb, rAddW_ii, rAddW_ss, rAddW_tt, rIW_ii, rI0W_ii, rMulW_ii, rMulW_ti, rIntW_i, rIntW_b, rMax2W_ii, rMin2W_ii]
    unfold mX
    by_cases c : (kd : Int) = 0
    · have c' : kd = 0 := by omega
      rw [if_pos c, if_pos c']
      simp only [wSeq, wAsg, wRet, wRetN, wDrop, wIfS, wVar, wC, wOp, wCall, wCons, wNil, wTup, wTest, wAnd, wOr, wNot, wAndV, wOrV, wNotV, wIf, wNext, wgName, wgTup, wgCons, wgNil, wFor, wSq, wYes, wLcU, wLcV, wLc, uTuple, uAll, uAny, uSum, wNeg, wSl, wPart, wNoPart, rSlW_tup, isNonP, seqW_tup, wLst, wipeW, wPar, wPut, wAug, wZip, wEnum, wRng1, wRng2, wChain, List.getElem?_cons_zero, List.getElem?_cons_succ, List.set_cons_zero, List.set_cons_succ, Option.some.injEq, exists_eq_left', exists_eq_left, exists_and_left, exists_eq_right, exists_eq_right', and_assoc, true_and, and_true, List.cons.injEq, and_self, if_true, if_false, Bool.false_eq_true, PV.int.injEq, PV.bl.injEq, PV.tup.injEq, PV.ref.injEq, PV.str.injEq, Bool.false_xor, Bool.true_xor, List.length_cons, List.length_nil, Nat.reduceAdd, Nat.reduceLeDiff, Nat.reduceEqDiff, Prod.mk.injEq, cutP_map, cutP_0, cutP_1, cutP_2, cutP_all, decide_eq_true_eq, startW, endsW, List.map_cons, List.map_nil, List.cons_append, List.nil_append, List.replicate, Nat.reduceSub, rIxW_tup, rLenW_tup, rListW_tup, wMeth, wRngL, wRngT, rIsiW_eq, tyP_non, tyP_bl, tyP_int, tyP_str, tyP_tup, isi_NoneType_int, isi_NoneType_bool, isi_NoneType_str, isi_NoneType_list, isi_NoneType_tuple, isi_NoneType_dict, isi_bool_int, isi_bool_bool, isi_bool_str, isi_bool_list, isi_bool_tuple, isi_bool_dict, isi_int_int, isi_int_bool, isi_int_str, isi_int_list, isi_int_tuple, isi_int_dict, isi_str_int, isi_str_bool, isi_str_str, isi_str_list, isi_str_tuple, isi_str_dict, isi_tuple_int, isi_tuple_bool, isi_tuple_str, isi_tuple_list, isi_tuple_tuple, isi_tuple_dict, isi_list_int, isi_list_bool, isi_list_str, isi_list_list, isi_list_tuple, isi_list_dict, isi_dict_int, isi_dict_bool, isi_dict_str, isi_dict_list, isi_dict_tuple, isi_dict_dict, decide_true, decide_false, Bool.not_true, Bool.not_false, Bool.not_eq_true', decide_eq_false_iff_not, ite_not, natP, swP, natsP, intsP, atI_0, atI_1, atI_2, atI_3, wLcU2, wLcV2, wTupZip, wZipN, wStep, wRev, wMaxD, wMinD, rInW_ints, rEqW_ii, rEqW_bb, rEqW_ss, rIsW_n, rIsW_bb, rAddW_ii, rAddW_ss, rAddW_tt, rIW_ii, rI0W_ii, rMulW_ii, rMulW_ti, rIntW_i, rIntW_b, rMax2W_ii, rMin2W_ii, hy0, hy1, hy2]
      refine loop_inv (fun i τ S' => S' = S ++ [.lst (N.sw.map swP ++ (O.sw.take i).map (fun s => swP (s.1 + N.w, s.2 + N.w))), .lst []] ∧ ∃ x6 x7 x8, τ = [some (natP kd), some (netP N), some (netP O), some (.ref S.length), some (.ref (S ++ [Ob.lst (N.sw.map swP)]).length), some (natP N.w), x6, x7, x8]) ⟨by rw [List.take_zero, List.map_nil, List.append_nil], _, _, _, rfl⟩ ?_ ?_
      · rintro i x τ S' R hx ⟨rfl, x6, x7, x8, rfl⟩ hR
        have hi := (List.getElem?_eq_some_iff.mp hx).1
        rw [List.length_map] at hi
        rw [List.getElem?_map] at hx
        cases hs : O.sw[i]? with
        | none => rw [hs] at hx; cases hx
        | some s =>
          rw [hs] at hx
          cases hx
          refine ⟨trivial, ?_⟩
          simp only [wSeq, wAsg, wRet, wRetN, wDrop, wIfS, wVar, wC, wOp, wCall, wCons, wNil, wTup, wTest, wAnd, wOr, wNot, wAndV, wOrV, wNotV, wIf, wNext, wgName, wgTup, wgCons, wgNil, wFor, wSq, wYes, wLcU, wLcV, wLc, uTuple, uAll, uAny, uSum, wNeg, wSl, wPart, wNoPart, rSlW_tup, isNonP, seqW_tup, wLst, wipeW, wPar, wPut, wAug, wZip, wEnum, wRng1, wRng2, wChain, List.getElem?_cons_zero, List.getElem?_cons_succ, List.set_cons_zero, List.set_cons_succ, Option.some.injEq, exists_eq_left', exists_eq_left, exists_and_left, exists_eq_right, exists_eq_right', and_assoc, true_and, and_true, List.cons.injEq, and_self, if_true, if_false, Bool.false_eq_true, PV.int.injEq, PV.bl.injEq, PV.tup.injEq, PV.ref.injEq, PV.str.injEq, Bool.false_xor, Bool.true_xor, List.length_cons, List.length_nil, Nat.reduceAdd, Nat.reduceLeDiff, Nat.reduceEqDiff, Prod.mk.injEq, cutP_map, cutP_0, cutP_1, cutP_2, cutP_all, decide_eq_true_eq, startW, endsW, List.map_cons, List.map_nil, List.cons_append, List.nil_append, List.replicate, Nat.reduceSub, rIxW_tup, rLenW_tup, rListW_tup, wMeth, wRngL, wRngT, rIsiW_eq, tyP_non, tyP_bl, tyP_int, tyP_str, tyP_tup, isi_NoneType_int, isi_NoneType_bool, isi_NoneType_str, isi_NoneType_list, isi_NoneType_tuple, isi_NoneType_dict, isi_bool_int, isi_bool_bool, isi_bool_str, isi_bool_list, isi_bool_tuple, isi_bool_dict, isi_int_int, isi_int_bool, isi_int_str, isi_int_list, isi_int_tuple, isi_int_dict, isi_str_int, isi_str_bool, isi_str_str, isi_str_list, isi_str_tuple, isi_str_dict, isi_tuple_int, isi_tuple_bool, isi_tuple_str, isi_tuple_list, isi_tuple_tuple, isi_tuple_dict, isi_list_int, isi_list_bool, isi_list_str, isi_list_list, isi_list_tuple, isi_list_dict, isi_dict_int, isi_dict_bool, isi_dict_str, isi_dict_list, isi_dict_tuple, isi_dict_dict, decide_true, decide_false, Bool.not_true, Bool.not_false, Bool.not_eq_true', decide_eq_false_iff_not, ite_not, natP, swP, natsP, intsP, atI_0, atI_1, atI_2, atI_3, wLcU2, wLcV2, wTupZip, wZipN, wStep, wRev, wMaxD, wMinD, rInW_ints, rEqW_ii, rEqW_bb, rEqW_ss, rIsW_n, rIsW_bb, rAddW_ii, rAddW_ss, rAddW_tt, rIW_ii, rI0W_ii, rMulW_ii, rMulW_ti, rIntW_i, rIntW_b, rMax2W_ii, rMin2W_ii, hy0]
          rw [tyW_lst (pl0 rfl), rAppendW_lst (pl0 rfl)]
          refine ⟨trivial, by rw [List.length_append, List.length_map, List.length_map, List.length_take]; omega, hR _ _ ⟨?_, _, _, _, rfl⟩⟩
          rw [st0 rfl, List.take_add_one, hs, Option.toList_some, List.map_append, List.map_singleton, List.append_assoc]
          rfl
      · rintro τ S' ⟨rfl, x6, x7, x8, rfl⟩
        refine ⟨trivial, ?_⟩
        rw [List.length_map, List.take_length]
        simp only [wSeq, wAsg, wRet, wRetN, wDrop, wIfS, wVar, wC, wOp, wCall, wCons, wNil, wTup, wTest, wAnd, wOr, wNot, wAndV, wOrV, wNotV, wIf, wNext, wgName, wgTup, wgCons, wgNil, wFor, wSq, wYes, wLcU, wLcV, wLc, uTuple, uAll, uAny, uSum, wNeg, wSl, wPart, wNoPart, rSlW_tup, isNonP, seqW_tup, wLst, wipeW, wPar, wPut, wAug, wZip, wEnum, wRng1, wRng2, wChain, List.getElem?_cons_zero, List.getElem?_cons_succ, List.set_cons_zero, List.set_cons_succ, Option.some.injEq, exists_eq_left', exists_eq_left, exists_and_left, exists_eq_right, exists_eq_right', and_assoc, true_and, and_true, List.cons.injEq, and_self, if_true, if_false, Bool.false_eq_true, PV.int.injEq, PV.bl.injEq, PV.tup.injEq, PV.ref.injEq, PV.str.injEq, Bool.false_xor, Bool.true_xor, List.length_cons, List.length_nil, Nat.reduceAdd, Nat.reduceLeDiff, Nat.reduceEqDiff, Prod.mk.injEq, cutP_map, cutP_0, cutP_1, cutP_2, cutP_all, decide_eq_true_eq, startW, endsW, List.map_cons, List.map_nil, List.cons_append, List.nil_append, List.replicate, Nat.reduceSub, rIxW_tup, rLenW_tup, rListW_tup, wMeth, wRngL, wRngT, rIsiW_eq, tyP_non, tyP_bl, tyP_int, tyP_str, tyP_tup, isi_NoneType_int, isi_NoneType_bool, isi_NoneType_str, isi_NoneType_list, isi_NoneType_tuple, isi_NoneType_dict, isi_bool_int, isi_bool_bool, isi_bool_str, isi_bool_list, isi_bool_tuple, isi_bool_dict, isi_int_int, isi_int_bool, isi_int_str, isi_int_list, isi_int_tuple, isi_int_dict, isi_str_int, isi_str_bool, isi_str_str, isi_str_list, isi_str_tuple, isi_str_dict, isi_tuple_int, isi_tuple_bool, isi_tuple_str, isi_tuple_list, isi_tuple_tuple, isi_tuple_dict, isi_list_int, isi_list_bool, isi_list_str, isi_list_list, isi_list_tuple, isi_list_dict, isi_dict_int, isi_dict_bool, isi_dict_str, isi_dict_list, isi_dict_tuple, isi_dict_dict, decide_true, decide_false, Bool.not_true, Bool.not_false, Bool.not_eq_true', decide_eq_false_iff_not, ite_not, natP, swP, natsP, intsP, atI_0, atI_1, atI_2, atI_3, wLcU2, wLcV2, wTupZip, wZipN, wStep, wRev, wMaxD, wMinD, rInW_ints, rEqW_ii, rEqW_bb, rEqW_ss, rIsW_n, rIsW_bb, rAddW_ii, rAddW_ss, rAddW_tt, rIW_ii, rI0W_ii, rMulW_ii, rMulW_ti, rIntW_i, rIntW_b, rMax2W_ii, rMin2W_ii, hy0, hy2]
        have eS : N.sw.map swP ++ O.sw.map (fun s : Nat × Nat => PV.tup [PV.int ((s.1 + N.w : Nat) : Int), PV.int ((s.2 + N.w : Nat) : Int)]) = (besX N O).sw.map swP := by
          unfold besX renN
          rw [List.map_append, List.map_map]
          congr 1
          refine List.map_congr_left fun s hs => ?_
          have so := okO.sw s hs
          show _ = swP ((List.range' N.w O.w).getD s.1 0, (List.range' N.w O.w).getD s.2 0)
          rw [rng_getD so.1, rng_getD so.2.1]
          unfold swP natP
          rw [Nat.add_comm s.1, Nat.add_comm s.2]
        rw [eS]
        refine ⟨by rw [List.length_map]; omega, ?_⟩
        refine lc_map (fun i : Nat => natP (N.w + i)) trivial (fun i hi R2 r2 => ?_) ?_
        · simp only [wSeq, wAsg, wRet, wRetN, wDrop, wIfS, wVar, wC, wOp, wCall, wCons, wNil, wTup, wTest, wAnd, wOr, wNot, wAndV, wOrV, wNotV, wIf, wNext, wgName, wgTup, wgCons, wgNil, wFor, wSq, wYes, wLcU, wLcV, wLc, uTuple, uAll, uAny, uSum, wNeg, wSl, wPart, wNoPart, rSlW_tup, isNonP, seqW_tup, wLst, wipeW, wPar, wPut, wAug, wZip, wEnum, wRng1, wRng2, wChain, List.getElem?_cons_zero, List.getElem?_cons_succ, List.set_cons_zero, List.set_cons_succ, Option.some.injEq, exists_eq_left', exists_eq_left, exists_and_left, exists_eq_right, exists_eq_right', and_assoc, true_and, and_true, List.cons.injEq, and_self, if_true, if_false, Bool.false_eq_true, PV.int.injEq, PV.bl.injEq, PV.tup.injEq, PV.ref.injEq, PV.str.injEq, Bool.false_xor, Bool.true_xor, List.length_cons, List.length_nil, Nat.reduceAdd, Nat.reduceLeDiff, Nat.reduceEqDiff, Prod.mk.injEq, cutP_map, cutP_0, cutP_1, cutP_2, cutP_all, decide_eq_true_eq, startW, endsW, List.map_cons, List.map_nil, List.cons_append, List.nil_append, List.replicate, Nat.reduceSub, rIxW_tup, rLenW_tup, rListW_tup, wMeth, wRngL, wRngT, rIsiW_eq, tyP_non, tyP_bl, tyP_int, tyP_str, tyP_tup, isi_NoneType_int, isi_NoneType_bool, isi_NoneType_str, isi_NoneType_list, isi_NoneType_tuple, isi_NoneType_dict, isi_bool_int, isi_bool_bool, isi_bool_str, isi_bool_list, isi_bool_tuple, isi_bool_dict, isi_int_int, isi_int_bool, isi_int_str, isi_int_list, isi_int_tuple, isi_int_dict, isi_str_int, isi_str_bool, isi_str_str, isi_str_list, isi_str_tuple, isi_str_dict, isi_tuple_int, isi_tuple_bool, isi_tuple_str, isi_tuple_list, isi_tuple_tuple, isi_tuple_dict, isi_list_int, isi_list_bool, isi_list_str, isi_list_list, isi_list_tuple, isi_list_dict, isi_dict_int, isi_dict_bool, isi_dict_str, isi_dict_list, isi_dict_tuple, isi_dict_dict, decide_true, decide_false, Bool.not_true, Bool.not_false, Bool.not_eq_true', decide_eq_false_iff_not, ite_not, natP, swP, natsP, intsP, atI_0, atI_1, atI_2, atI_3, wLcU2, wLcV2, wTupZip, wZipN, wStep, wRev, wMaxD, wMinD, rInW_ints, rEqW_ii, rEqW_bb, rEqW_ss, rIsW_n, rIsW_bb, rAddW_ii, rAddW_ss, rAddW_tt, rIW_ii, rI0W_ii, rMulW_ii, rMulW_ti, rIntW_i, rIntW_b, rMax2W_ii, rMin2W_ii, hy0]
          rw [show (i : Int) + (N.w : Int) = ((N.w + i : Nat) : Int) by omega]
          exact r2
        rw [List.nil_append]
        have g1 : (S ++ [Ob.lst ((besX N O).sw.map swP), Ob.lst []] ++ [Ob.lst (N.ord.map natP)])[S.length]? = some (.lst ((besX N O).sw.map swP)) := pen_at (pl0 rfl)
        have g2 : (S ++ [Ob.lst ((besX N O).sw.map swP), Ob.lst []] ++ [Ob.lst (N.ord.map natP)])[(S ++ [Ob.lst ((besX N O).sw.map swP), Ob.lst []]).length]? = some (.lst (N.ord.map natP)) := get_new1 _ _
        have p1 : ∃ G, S ++ [Ob.lst ((besX N O).sw.map swP), Ob.lst []] ++ [Ob.lst (N.ord.map natP)] = S ++ G := ⟨_, List.append_assoc _ _ _⟩
        generalize S ++ [Ob.lst ((besX N O).sw.map swP), Ob.lst []] ++ [Ob.lst (N.ord.map natP)] = S1 at g1 g2 p1 ⊢
        rw [rAddW_ll (pen_at g2) (get_new1 _ _)]
        refine ⟨by rw [List.length_map, List.length_map]; omega, S.length, (S1 ++ [Ob.lst (O.ord.map fun i => natP (N.w + i))]).length, pre_more (pre_more p1), pen_at (pen_at g1), ?_, x6, x7, x8, ?_⟩
        · rw [get_new1]
          congr 2
          unfold besX renN
          rw [List.map_append, List.map_map]
          congr 1
          refine List.map_congr_left fun i hi => ?_
          have := List.mem_range.mp (okO.ord.mem_iff.mp hi)
          show _ = natP ((List.range' N.w O.w).getD i 0)
          rw [rng_getD this]
        · unfold besX natP
          rw [show ((N.w : Int) + (O.w : Int)) = ((N.w + O.w : Nat) : Int) by omega]
    · have c' : kd ≠ 0 := by omega
      rw [if_neg c, if_neg c']
      have hw : O.w = N.w := hk.resolve_left c'
      simp only [wSeq, wAsg, wRet, wRetN, wDrop, wIfS, wVar, wC, wOp, wCall, wCons, wNil, wTup, wTest, wAnd, wOr, wNot, wAndV, wOrV, wNotV, wIf, wNext, wgName, wgTup, wgCons, wgNil, wFor, wSq, wYes, wLcU, wLcV, wLc, uTuple, uAll, uAny, uSum, wNeg, wSl, wPart, wNoPart, rSlW_tup, isNonP, seqW_tup, wLst, wipeW, wPar, wPut, wAug, wZip, wEnum, wRng1, wRng2, wChain, List.getElem?_cons_zero, List.getElem?_cons_succ, List.set_cons_zero, List.set_cons_succ, Option.some.injEq, exists_eq_left', exists_eq_left, exists_and_left, exists_eq_right, exists_eq_right', and_assoc, true_and, and_true, List.cons.injEq, and_self, if_true, if_false, Bool.false_eq_true, PV.int.injEq, PV.bl.injEq, PV.tup.injEq, PV.ref.injEq, PV.str.injEq, Bool.false_xor, Bool.true_xor, List.length_cons, List.length_nil, Nat.reduceAdd, Nat.reduceLeDiff, Nat.reduceEqDiff, Prod.mk.injEq, cutP_map, cutP_0, cutP_1, cutP_2, cutP_all, decide_eq_true_eq, startW, endsW, List.map_cons, List.map_nil, List.cons_append, List.nil_append, List.replicate, Nat.reduceSub, rIxW_tup, rLenW_tup, rListW_tup, wMeth, wRngL, wRngT, rIsiW_eq, tyP_non, tyP_bl, tyP_int, tyP_str, tyP_tup, isi_NoneType_int, isi_NoneType_bool, isi_NoneType_str, isi_NoneType_list, isi_NoneType_tuple, isi_NoneType_dict, isi_bool_int, isi_bool_bool, isi_bool_str, isi_bool_list, isi_bool_tuple, isi_bool_dict, isi_int_int, isi_int_bool, isi_int_str, isi_int_list, isi_int_tuple, isi_int_dict, isi_str_int, isi_str_bool, isi_str_str, isi_str_list, isi_str_tuple, isi_str_dict, isi_tuple_int, isi_tuple_bool, isi_tuple_str, isi_tuple_list, isi_tuple_tuple, isi_tuple_dict, isi_list_int, isi_list_bool, isi_list_str, isi_list_list, isi_list_tuple, isi_list_dict, isi_dict_int, isi_dict_bool, isi_dict_str, isi_dict_list, isi_dict_tuple, isi_dict_dict, decide_true, decide_false, Bool.not_true, Bool.not_false, Bool.not_eq_true', decide_eq_false_iff_not, ite_not, natP, swP, natsP, intsP, atI_0, atI_1, atI_2, atI_3, wLcU2, wLcV2, wTupZip, wZipN, wStep, wRev, wMaxD, wMinD, rInW_ints, rEqW_ii, rEqW_bb, rEqW_ss, rIsW_n, rIsW_bb, rAddW_ii, rAddW_ss, rAddW_tt, rIW_ii, rI0W_ii, rMulW_ii, rMulW_ti, rIntW_i, rIntW_b, rMax2W_ii, rMin2W_ii, hy0, hy1, hy2]
      refine loop_inv (fun i τ S' => S' = S ++ [.lst (N.sw.map swP ++ (O.sw.take i).map (fun s => swP (N.ord.getD s.1 0, N.ord.getD s.2 0))), .lst []] ∧ ∃ x6 x7 x8, τ = [some (natP kd), some (netP N), some (netP O), some (.ref S.length), some (.ref (S ++ [Ob.lst (N.sw.map swP)]).length), some (natP N.w), x6, x7, x8]) ⟨by rw [List.take_zero, List.map_nil, List.append_nil], _, _, _, rfl⟩ ?_ ?_
      · rintro i x τ S' R hx ⟨rfl, x6, x7, x8, rfl⟩ hR
        have hi := (List.getElem?_eq_some_iff.mp hx).1
        rw [List.length_map] at hi
        rw [List.getElem?_map] at hx
        cases hs : O.sw[i]? with
        | none => rw [hs] at hx; cases hx
        | some s =>
          rw [hs] at hx
          cases hx
          refine ⟨trivial, ?_⟩
          have so := okO.sw s (List.mem_of_getElem? hs)
          simp only [wSeq, wAsg, wRet, wRetN, wDrop, wIfS, wVar, wC, wOp, wCall, wCons, wNil, wTup, wTest, wAnd, wOr, wNot, wAndV, wOrV, wNotV, wIf, wNext, wgName, wgTup, wgCons, wgNil, wFor, wSq, wYes, wLcU, wLcV, wLc, uTuple, uAll, uAny, uSum, wNeg, wSl, wPart, wNoPart, rSlW_tup, isNonP, seqW_tup, wLst, wipeW, wPar, wPut, wAug, wZip, wEnum, wRng1, wRng2, wChain, List.getElem?_cons_zero, List.getElem?_cons_succ, List.set_cons_zero, List.set_cons_succ, Option.some.injEq, exists_eq_left', exists_eq_left, exists_and_left, exists_eq_right, exists_eq_right', and_assoc, true_and, and_true, List.cons.injEq, and_self, if_true, if_false, Bool.false_eq_true, PV.int.injEq, PV.bl.injEq, PV.tup.injEq, PV.ref.injEq, PV.str.injEq, Bool.false_xor, Bool.true_xor, List.length_cons, List.length_nil, Nat.reduceAdd, Nat.reduceLeDiff, Nat.reduceEqDiff, Prod.mk.injEq, cutP_map, cutP_0, cutP_1, cutP_2, cutP_all, decide_eq_true_eq, startW, endsW, List.map_cons, List.map_nil, List.cons_append, List.nil_append, List.replicate, Nat.reduceSub, rIxW_tup, rLenW_tup, rListW_tup, wMeth, wRngL, wRngT, rIsiW_eq, tyP_non, tyP_bl, tyP_int, tyP_str, tyP_tup, isi_NoneType_int, isi_NoneType_bool, isi_NoneType_str, isi_NoneType_list, isi_NoneType_tuple, isi_NoneType_dict, isi_bool_int, isi_bool_bool, isi_bool_str, isi_bool_list, isi_bool_tuple, isi_bool_dict, isi_int_int, isi_int_bool, isi_int_str, isi_int_list, isi_int_tuple, isi_int_dict, isi_str_int, isi_str_bool, isi_str_str, isi_str_list, isi_str_tuple, isi_str_dict, isi_tuple_int, isi_tuple_bool, isi_tuple_str, isi_tuple_list, isi_tuple_tuple, isi_tuple_dict, isi_list_int, isi_list_bool, isi_list_str, isi_list_list, isi_list_tuple, isi_list_dict, isi_dict_int, isi_dict_bool, isi_dict_str, isi_dict_list, isi_dict_tuple, isi_dict_dict, decide_true, decide_false, Bool.not_true, Bool.not_false, Bool.not_eq_true', decide_eq_false_iff_not, ite_not, natP, swP, natsP, intsP, atI_0, atI_1, atI_2, atI_3, wLcU2, wLcV2, wTupZip, wZipN, wStep, wRev, wMaxD, wMinD, rInW_ints, rEqW_ii, rEqW_bb, rEqW_ss, rIsW_n, rIsW_bb, rAddW_ii, rAddW_ss, rAddW_tt, rIW_ii, rI0W_ii, rMulW_ii, rMulW_ti, rIntW_i, rIntW_b, rMax2W_ii, rMin2W_ii, hy2]
          rw [tyW_lst (pl0 rfl)]
          refine ⟨trivial, _, atI_nats (by omega), _, atI_nats (by omega), ?_⟩
          rw [rAppendW_lst (pl0 rfl)]
          refine ⟨by rw [List.length_append, List.length_map, List.length_map, List.length_take]; omega, hR _ _ ⟨?_, _, _, _, rfl⟩⟩
          rw [st0 rfl, List.take_add_one, hs, Option.toList_some, List.map_append, List.map_singleton, List.append_assoc]
          rfl
      · rintro τ S' ⟨rfl, x6, x7, x8, rfl⟩
        refine ⟨trivial, ?_⟩
        rw [List.length_map, List.take_length]
        simp only [wSeq, wAsg, wRet, wRetN, wDrop, wIfS, wVar, wC, wOp, wCall, wCons, wNil, wTup, wTest, wAnd, wOr, wNot, wAndV, wOrV, wNotV, wIf, wNext, wgName, wgTup, wgCons, wgNil, wFor, wSq, wYes, wLcU, wLcV, wLc, uTuple, uAll, uAny, uSum, wNeg, wSl, wPart, wNoPart, rSlW_tup, isNonP, seqW_tup, wLst, wipeW, wPar, wPut, wAug, wZip, wEnum, wRng1, wRng2, wChain, List.getElem?_cons_zero, List.getElem?_cons_succ, List.set_cons_zero, List.set_cons_succ, Option.some.injEq, exists_eq_left', exists_eq_left, exists_and_left, exists_eq_right, exists_eq_right', and_assoc, true_and, and_true, List.cons.injEq, and_self, if_true, if_false, Bool.false_eq_true, PV.int.injEq, PV.bl.injEq, PV.tup.injEq, PV.ref.injEq, PV.str.injEq, Bool.false_xor, Bool.true_xor, List.length_cons, List.length_nil, Nat.reduceAdd, Nat.reduceLeDiff, Nat.reduceEqDiff, Prod.mk.injEq, cutP_map, cutP_0, cutP_1, cutP_2, cutP_all, decide_eq_true_eq, startW, endsW, List.map_cons, List.map_nil, List.cons_append, List.nil_append, List.replicate, Nat.reduceSub, rIxW_tup, rLenW_tup, rListW_tup, wMeth, wRngL, wRngT, rIsiW_eq, tyP_non, tyP_bl, tyP_int, tyP_str, tyP_tup, isi_NoneType_int, isi_NoneType_bool, isi_NoneType_str, isi_NoneType_list, isi_NoneType_tuple, isi_NoneType_dict, isi_bool_int, isi_bool_bool, isi_bool_str, isi_bool_list, isi_bool_tuple, isi_bool_dict, isi_int_int, isi_int_bool, isi_int_str, isi_int_list, isi_int_tuple, isi_int_dict, isi_str_int, isi_str_bool, isi_str_str, isi_str_list, isi_str_tuple, isi_str_dict, isi_tuple_int, isi_tuple_bool, isi_tuple_str, isi_tuple_list, isi_tuple_tuple, isi_tuple_dict, isi_list_int, isi_list_bool, isi_list_str, isi_list_list, isi_list_tuple, isi_list_dict, isi_dict_int, isi_dict_bool, isi_dict_str, isi_dict_list, isi_dict_tuple, isi_dict_dict, decide_true, decide_false, Bool.not_true, Bool.not_false, Bool.not_eq_true', decide_eq_false_iff_not, ite_not, natP, swP, natsP, intsP, atI_0, atI_1, atI_2, atI_3, wLcU2, wLcV2, wTupZip, wZipN, wStep, wRev, wMaxD, wMinD, rInW_ints, rEqW_ii, rEqW_bb, rEqW_ss, rIsW_n, rIsW_bb, rAddW_ii, rAddW_ss, rAddW_tt, rIW_ii, rI0W_ii, rMulW_ii, rMulW_ti, rIntW_i, rIntW_b, rMax2W_ii, rMin2W_ii, hy2]
        have eS : N.sw.map swP ++ O.sw.map (fun s : Nat × Nat => PV.tup [PV.int ((N.ord.getD s.1 0 : Nat) : Int), PV.int ((N.ord.getD s.2 0 : Nat) : Int)]) = (behX N O).sw.map swP := by
          unfold behX renN
          rw [List.map_append, List.map_map]
          rfl
        rw [eS]
        refine ⟨by rw [List.length_map]; omega, ?_⟩
        refine lc_map (fun i : Nat => natP (N.ord.getD i 0)) trivial (fun i hi R2 r2 => ?_) ?_
        · have := List.mem_range.mp (okO.ord.mem_iff.mp hi)
          simp only [wSeq, wAsg, wRet, wRetN, wDrop, wIfS, wVar, wC, wOp, wCall, wCons, wNil, wTup, wTest, wAnd, wOr, wNot, wAndV, wOrV, wNotV, wIf, wNext, wgName, wgTup, wgCons, wgNil, wFor, wSq, wYes, wLcU, wLcV, wLc, uTuple, uAll, uAny, uSum, wNeg, wSl, wPart, wNoPart, rSlW_tup, isNonP, seqW_tup, wLst, wipeW, wPar, wPut, wAug, wZip, wEnum, wRng1, wRng2, wChain, List.getElem?_cons_zero, List.getElem?_cons_succ, List.set_cons_zero, List.set_cons_succ, Option.some.injEq, exists_eq_left', exists_eq_left, exists_and_left, exists_eq_right, exists_eq_right', and_assoc, true_and, and_true, List.cons.injEq, and_self, if_true, if_false, Bool.false_eq_true, PV.int.injEq, PV.bl.injEq, PV.tup.injEq, PV.ref.injEq, PV.str.injEq, Bool.false_xor, Bool.true_xor, List.length_cons, List.length_nil, Nat.reduceAdd, Nat.reduceLeDiff, Nat.reduceEqDiff, Prod.mk.injEq, cutP_map, cutP_0, cutP_1, cutP_2, cutP_all, decide_eq_true_eq, startW, endsW, List.map_cons, List.map_nil, List.cons_append, List.nil_append, List.replicate, Nat.reduceSub, rIxW_tup, rLenW_tup, rListW_tup, wMeth, wRngL, wRngT, rIsiW_eq, tyP_non, tyP_bl, tyP_int, tyP_str, tyP_tup, isi_NoneType_int, isi_NoneType_bool, isi_NoneType_str, isi_NoneType_list, isi_NoneType_tuple, isi_NoneType_dict, isi_bool_int, isi_bool_bool, isi_bool_str, isi_bool_list, isi_bool_tuple, isi_bool_dict, isi_int_int, isi_int_bool, isi_int_str, isi_int_list, isi_int_tuple, isi_int_dict, isi_str_int, isi_str_bool, isi_str_str, isi_str_list, isi_str_tuple, isi_str_dict, isi_tuple_int, isi_tuple_bool, isi_tuple_str, isi_tuple_list, isi_tuple_tuple, isi_tuple_dict, isi_list_int, isi_list_bool, isi_list_str, isi_list_list, isi_list_tuple, isi_list_dict, isi_dict_int, isi_dict_bool, isi_dict_str, isi_dict_list, isi_dict_tuple, isi_dict_dict, decide_true, decide_false, Bool.not_true, Bool.not_false, Bool.not_eq_true', decide_eq_false_iff_not, ite_not, natP, swP, natsP, intsP, atI_0, atI_1, atI_2, atI_3, wLcU2, wLcV2, wTupZip, wZipN, wStep, wRev, wMaxD, wMinD, rInW_ints, rEqW_ii, rEqW_bb, rEqW_ss, rIsW_n, rIsW_bb, rAddW_ii, rAddW_ss, rAddW_tt, rIW_ii, rI0W_ii, rMulW_ii, rMulW_ti, rIntW_i, rIntW_b, rMax2W_ii, rMin2W_ii, hy2]
          exact ⟨_, atI_nats (by omega), r2⟩
        rw [List.nil_append]
        refine ⟨S.length, _, pre_more ⟨_, rfl⟩, pen_at (pl0 rfl), ?_, _, _, _, rfl⟩
        rw [get_new1]
        congr 2
        unfold behX renN
        rw [List.map_map]
        rfl
  · rintro τ S1 ⟨p, q, ⟨G, rfl⟩, hp, hq, x6, x7, x8, rfl⟩
    simp only [wSeq, wAsg, wRet, wRetN, wDrop, wIfS, wVar, wC, wOp, wCall, wCons, wNil, wTup, wTest, wAnd, wOr, wNot, wAndV, wOrV, wNotV, wIf, wNext, wgName, wgTup, wgCons, wgNil, wFor, wSq, wYes, wLcU, wLcV, wLc, uTuple, uAll, uAny, uSum, wNeg, wSl, wPart, wNoPart, rSlW_tup, isNonP, seqW_tup, wLst, wipeW, wPar, wPut, wAug, wZip, wEnum, wRng1, wRng2, wChain, List.getElem?_cons_zero, List.getElem?_cons_succ, List.set_cons_zero, List.set_cons_succ, Option.some.injEq, exists_eq_left', exists_eq_left, exists_and_left, exists_eq_right, exists_eq_right', and_assoc, true_and, and_true, List.cons.injEq, and_self, if_true, if_false, Bool.false_eq_true, PV.int.injEq, PV.bl.injEq, PV.tup.injEq, PV.ref.injEq, PV.str.injEq, Bool.false_xor, Bool.true_xor, List.length_cons, List.length_nil, Nat.reduceAdd, Nat.reduceLeDiff, Nat.reduceEqDiff, Prod.mk.injEq, cutP_map, cutP_0, cutP_1, cutP_2, cutP_all, decide_eq_true_eq, startW, endsW, List.map_cons, List.map_nil, List.cons_append, List.nil_append, List.replicate, Nat.reduceSub, rIxW_tup, rLenW_tup, rListW_tup, wMeth, wRngL, wRngT, rIsiW_eq, tyP_non, tyP_bl, tyP_int, tyP_str, tyP_tup, isi_NoneType_int, isi_NoneType_bool, isi_NoneType_str, isi_NoneType_list, isi_NoneType_tuple, isi_NoneType_dict, isi_bool_int, isi_bool_bool, isi_bool_str, isi_bool_list, isi_bool_tuple, isi_bool_dict, isi_int_int, isi_int_bool, isi_int_str, isi_int_list, isi_int_tuple, isi_int_dict, isi_str_int, isi_str_bool, isi_str_str, isi_str_list, isi_str_tuple, isi_str_dict, isi_tuple_int, isi_tuple_bool, isi_tuple_str, isi_tuple_list, isi_tuple_tuple, isi_tuple_dict, isi_list_int, isi_list_bool, isi_list_str, isi_list_list, isi_list_tuple, isi_list_dict, isi_dict_int, isi_dict_bool, isi_dict_str, isi_dict_list, isi_dict_tuple, isi_dict_dict, decide_true, decide_false, Bool.not_true, Bool.not_false, Bool.not_eq_true', decide_eq_false_iff_not, ite_not, natP, swP, natsP, intsP, atI_0, atI_1, atI_2, atI_3, wLcU2, wLcV2, wTupZip, wZipN, wStep, wRev, wMaxD, wMinD, rInW_ints, rEqW_ii, rEqW_bb, rEqW_ss, rIsW_n, rIsW_bb, rAddW_ii, rAddW_ss, rAddW_tt, rIW_ii, rI0W_ii, rMulW_ii, rMulW_ti, rIntW_i, rIntW_b, rMax2W_ii, rMin2W_ii]
    rw [put_mX nw] at h
    by_cases c1 : (16 : Int) < ((mX kd N O).w : Int)
    · rw [if_pos c1]
      rw [if_neg (by omega)] at h
      exact fg_cut (Nat.le_refl _) hcl cl_two h
    · rw [if_neg c1, rLenW_lst hp]
      simp only [wSeq, wAsg, wRet, wRetN, wDrop, wIfS, wVar, wC, wOp, wCall, wCons, wNil, wTup, wTest, wAnd, wOr, wNot, wAndV, wOrV, wNotV, wIf, wNext, wgName, wgTup, wgCons, wgNil, wFor, wSq, wYes, wLcU, wLcV, wLc, uTuple, uAll, uAny, uSum, wNeg, wSl, wPart, wNoPart, rSlW_tup, isNonP, seqW_tup, wLst, wipeW, wPar, wPut, wAug, wZip, wEnum, wRng1, wRng2, wChain, List.getElem?_cons_zero, List.getElem?_cons_succ, List.set_cons_zero, List.set_cons_succ, Option.some.injEq, exists_eq_left', exists_eq_left, exists_and_left, exists_eq_right, exists_eq_right', and_assoc, true_and, and_true, List.cons.injEq, and_self, if_true, if_false, Bool.false_eq_true, PV.int.injEq, PV.bl.injEq, PV.tup.injEq, PV.ref.injEq, PV.str.injEq, Bool.false_xor, Bool.true_xor, List.length_cons, List.length_nil, Nat.reduceAdd, Nat.reduceLeDiff, Nat.reduceEqDiff, Prod.mk.injEq, cutP_map, cutP_0, cutP_1, cutP_2, cutP_all, decide_eq_true_eq, startW, endsW, List.map_cons, List.map_nil, List.cons_append, List.nil_append, List.replicate, Nat.reduceSub, rIxW_tup, rLenW_tup, rListW_tup, wMeth, wRngL, wRngT, rIsiW_eq, tyP_non, tyP_bl, tyP_int, tyP_str, tyP_tup, isi_NoneType_int, isi_NoneType_bool, isi_NoneType_str, isi_NoneType_list, isi_NoneType_tuple, isi_NoneType_dict, isi_bool_int, isi_bool_bool, isi_bool_str, isi_bool_list, isi_bool_tuple, isi_bool_dict, isi_int_int, isi_int_bool, isi_int_str, isi_int_list, isi_int_tuple, isi_int_dict, isi_str_int, isi_str_bool, isi_str_str, isi_str_list, isi_str_tuple, isi_str_dict, isi_tuple_int, isi_tuple_bool, isi_tuple_str, isi_tuple_list, isi_tuple_tuple, isi_tuple_dict, isi_list_int, isi_list_bool, isi_list_str, isi_list_list, isi_list_tuple, isi_list_dict, isi_dict_int, isi_dict_bool, isi_dict_str, isi_dict_list, isi_dict_tuple, isi_dict_dict, decide_true, decide_false, Bool.not_true, Bool.not_false, Bool.not_eq_true', decide_eq_false_iff_not, ite_not, natP, swP, natsP, intsP, atI_0, atI_1, atI_2, atI_3, wLcU2, wLcV2, wTupZip, wZipN, wStep, wRev, wMaxD, wMinD, rInW_ints, rEqW_ii, rEqW_bb, rEqW_ss, rIsW_n, rIsW_bb, rAddW_ii, rAddW_ss, rAddW_tt, rIW_ii, rI0W_ii, rMulW_ii, rMulW_ti, rIntW_i, rIntW_b, rMax2W_ii, rMin2W_ii]
      rw [List.length_map]
      by_cases c2 : (160 : Int) < ((mX kd N O).sw.length : Int)
      · rw [if_pos c2]
        rw [if_neg (by omega)] at h
        exact fg_cut (Nat.le_refl _) hcl cl_two h
      · rw [if_neg c2, rTupleW_lst hp, rTupleW_lst hq]
        rw [if_pos (by omega)] at h
        refine fg_cut (Nat.le_refl _) hcl ?_ h
        show (PV.tup [.str "told", netP (mX kd N O)]).Cl S.length
        exact cl_tup fun z hz => by
          rcases List.mem_cons.mp hz with rfl | hz
          · simp [PV.Cl]
          · rw [List.mem_singleton.mp hz]; exact cl_netY _
end
end L4
set_option Elab.async false
set_option linter.all false
set_option maxRecDepth 100000
namespace L4
open PySem PySem.Spec PyProof.Rows L2 L3
theorem perm_fill {w : Nat} {l : List Nat} (nd : l.Nodup) : (l.filter (fun x => decide (x < w)) ++ (List.range w).filter (fun x => decide (x ∉ l.filter (fun x => decide (x < w))))).Perm (List.range w) := by
  refine (List.perm_ext_iff_of_nodup ?_ List.nodup_range).mpr fun x => ?_
  · refine List.nodup_append.mpr ⟨nd.filter _, List.nodup_range.filter _, fun a ha b hb e => ?_⟩
    subst e
    have := (List.mem_filter.mp hb).2
    exact (of_decide_eq_true this) ha
  · rw [List.mem_append, List.mem_filter, List.mem_filter, List.mem_range]
    constructor
    · rintro (⟨_, h⟩ | ⟨h, _⟩)
      · exact of_decide_eq_true h
      · exact h
    · intro h
      by_cases c : x ∈ l
      · exact .inl ⟨c, decide_eq_true h⟩
      · exact .inr ⟨h, decide_eq_true fun z => c (List.mem_filter.mp z).1⟩
section
variable {P : Program} {w : World} {K : PySem.W.Frag} {mg : Str → Option Value} {base : Heap}
def wWide : WC := fun vs S Q => ∃ a : Nat × Nat × Nat, vs = [.ref a.1, natP a.2.1, natP a.2.2] ∧ (S[a.1]? = some .jar ∧ 1 ≤ a.2.1 ∧ a.2.1 ≤ 16 ∧ a.2.2 ≤ 160) ∧ ∀ N : Net, N.Ok → N.w = a.2.1 → N.sw.length ≤ a.2.2 → Q (netP N) S
theorem mo_wide : MoC wWide := fun xs S Q Q' ⟨j, e, h1, q⟩ k => ⟨j, e, h1, fun N a b c => k _ _ (q N a b c)⟩
def R30w (S : Sto) (wd mo : Nat) (τ : Ev) (S' : Sto) : Prop := ∃ M : Net, M.Ok ∧ M.w = wd ∧ M.sw.length ≤ mo ∧ (∃ G, S' = S ++ G) ∧ ∃ x0 x1 x2 x4 x5 x6 x7, τ = [x0, x1, x2, some (netP M), x4, x5, x6, x7]
abbrev s_law_wide : Stmt := top 27
theorem sc_law_wide : FnScope ["jar", "width", "many", "net", "wires", "wire", "some", "one"] ["jar", "width", "many"] (defScope s_law_wide) := ⟨rfl, rfl, rfl, by decide +kernel, rfl, by decide +kernel, by decide +kernel⟩
set_option maxHeartbeats 1000000 in
theorem ok_law_wide {f : Addr} {fd : FuncData} (F : Fun K "_law_wide" "_law_wide" s_law_wide f fd) (T : Tn mg) (D_law_net : DefW Ts P w K mg base "_law_net" 4 ["jar", "widest", "most"] wNet) : FnOk P w K mg base CX0 5 f fd ["jar", "width", "many"] (spW Ts K wWide) := by
  refine ok_body (k := 4) F sc_law_wide (fun pvs S Q h => by obtain ⟨a, rfl, _⟩ := h; rfl) (fun cdv A outer s H E hr => ?_)
  have hu := hu_of hr
  refine ⟨_, (sss_cons (ss_set (i := 3) sc_law_wide.nd rfl (by first | exact Or.inl rfl | exact Or.inr rfl) (se_def D_law_net (hr.mono (by first | decide | omega)) (by rfl) (sa_cons (sv 0) (sa_cons se_int (sa_cons (sv 2) sa_nil)))))
      (sss_cons (ss_cut (ss_if (st_cmp (s_ne hr.units) (se_ix hu (sv 3) se_int (fun _ _ => rfl)) (sv 1) (nomark _)) (sss_cons (ss_set (i := 4) sc_law_wide.nd rfl (by first | exact Or.inl rfl | exact Or.inr rfl) (se_lc (own := [("wire", 5)]) (g := (gName 5)) rfl sc_law_wide.nd (si_seq (se_ix hu (sv 3) se_int (fun _ _ => rfl))) (blkOk_by (own := [("wire", 5)]) (N := ["jar", "width", "many", "net", "wires", "wire", "some", "one"]) (sc := defScope s_law_wide) (by decide +kernel)) (fun _ _ _ _ _ => (pg_name (i := 5) sc_law_wide.nd rfl (by first | exact Or.inl rfl | exact Or.inr rfl))) (gr_name (i := 5) (by decide)) (mg_name _) (fun _ _ _ _ _ => (sts_one (st_cmp s_lt (sv 5) (sv 1) (nomark _)))) (fun _ _ _ _ _ => (sv 5))))
      (sss_cons (ss_set (i := 4) sc_law_wide.nd rfl (by first | exact Or.inl rfl | exact Or.inr rfl) (se_op s_add (sv 4) (se_lc (own := [("wire", 5)]) (g := (gName 5)) rfl sc_law_wide.nd (si_range1 (by rfl) T.range_ (sa_cons (sv 1) sa_nil)) (blkOk_by (own := [("wire", 5)]) (N := ["jar", "width", "many", "net", "wires", "wire", "some", "one"]) (sc := defScope s_law_wide) (by decide +kernel)) (fun _ _ _ _ _ => (pg_name (i := 5) sc_law_wide.nd rfl (by first | exact Or.inl rfl | exact Or.inr rfl))) (gr_name (i := 5) (by decide)) (mg_name _) (fun _ _ _ _ _ => (sts_one (st_cmp (s_notin hu) (sv 5) (sv 4) (by rfl)))) (fun _ _ _ _ _ => (sv 5)))))
      (sss_cons (ss_setLc (i := 6) (own := [("one", 7)]) (g := (gName 7)) rfl sc_law_wide.nd rfl rfl (sw_true rfl rfl rfl (by decide +kernel)) (si_seq (se_ix hu (sv 3) se_int (fun _ _ => rfl))) (blkOk_by (own := [("one", 7)]) (N := ["jar", "width", "many", "net", "wires", "wire", "some", "one"]) (sc := defScope s_law_wide) (by decide +kernel)) (fun _ _ _ _ _ => (pg_name (i := 7) sc_law_wide.nd rfl (by first | exact Or.inl rfl | exact Or.inr rfl))) (gr_name (i := 7) (by decide)) (mg_name _) (fun _ _ _ _ _ => (sts_one (st_cmp s_lt (se_callB (c_max rfl) (by rfl) T.max_ (by decide +kernel) (sa_cons (sv 7) sa_nil)) (sv 1) (nomark _)))) (fun _ _ _ _ _ => (sv 7)))
      (sss_one (ss_set (i := 3) sc_law_wide.nd rfl (by first | exact Or.inl rfl | exact Or.inr rfl) (se_tup (sa_cons (sv 1) (sa_cons (se_callTy c_tuple (by rfl) T.tuple_ (by decide +kernel) (sa_cons (sv 6) sa_nil)) (sa_cons (se_callTy c_tuple (by rfl) T.tuple_ (by decide +kernel) (sa_cons (sv 4) sa_nil)) sa_nil))))))))) sss_nil))
      (sss_one (ss_ret (sv 3))))), fun pvs S Q hcl hca h => ?_⟩
  obtain ⟨⟨j, wd, mo⟩, rfl, ⟨hj, h1, h2, h3⟩, h⟩ := h
  dsimp only at hj h1 h2 h3 h
  simp only [wSeq, wAsg, wRet, wRetN, wDrop, wIfS, wVar, wC, wOp, wCall, wCons, wNil, wTup, wTest, wAnd, wOr, wNot, wAndV, wOrV, wNotV, wIf, wNext, wgName, wgTup, wgCons, wgNil, wFor, wSq, wYes, wLcU, wLcV, wLc, uTuple, uAll, uAny, uSum, wNeg, wSl, wPart, wNoPart, rSlW_tup, isNonP, seqW_tup, wLst, wipeW, wPar, wPut, wAug, wZip, wEnum, wRng1, wRng2, wChain, List.getElem?_cons_zero, List.getElem?_cons_succ, List.set_cons_zero, List.set_cons_succ, Option.some.injEq, exists_eq_left', exists_eq_left, exists_and_left, exists_eq_right, exists_eq_right', and_assoc, true_and, and_true, List.cons.injEq, and_self, if_true, if_false, Bool.false_eq_true, PV.int.injEq, PV.bl.injEq, PV.tup.injEq, PV.ref.injEq, PV.str.injEq, Bool.false_xor, Bool.true_xor, List.length_cons, List.length_nil, Nat.reduceAdd, Nat.reduceLeDiff, Nat.reduceEqDiff, Prod.mk.injEq, cutP_map, cutP_0, cutP_1, cutP_2, cutP_all, decide_eq_true_eq, startW, endsW, List.map_cons, List.map_nil, List.cons_append, List.nil_append, List.replicate, Nat.reduceSub, rIxW_tup, rLenW_tup, rListW_tup, wMeth, wRngL, wRngT, rIsiW_eq, tyP_non, tyP_bl, tyP_int, tyP_str, tyP_tup, isi_NoneType_int, isi_NoneType_bool, isi_NoneType_str, isi_NoneType_list, isi_NoneType_tuple, isi_NoneType_dict, isi_bool_int, isi_bool_bool, isi_bool_str, isi_bool_list, isi_bool_tuple, isi_bool_dict, isi_int_int, isi_int_bool, isi_int_str, isi_int_list, isi_int_tuple, isi_int_dict, isi_str_int, isi_str_bool, isi_str_str, isi_str_list, isi_str_tuple, isi_str_dict, isi_tuple_int, isi_tuple_bool, isi_tuple_str, isi_tuple_list, isi_tuple_tuple, isi_tuple_dict, isi_list_int, isi_list_bool, isi_list_str, isi_list_list, isi_list_tuple, isi_list_dict, isi_dict_int, isi_dict_bool, isi_dict_str, isi_dict_list, isi_dict_tuple, isi_dict_dict, decide_true, decide_false, Bool.not_true, Bool.not_false, Bool.not_eq_true', decide_eq_false_iff_not, ite_not, natP, swP, natsP, intsP, atI_0, atI_1, atI_2, atI_3, wLcU2, wLcV2, wTupZip, wZipN, wStep, wRev, wMaxD, wMinD, rInW_ints, rEqW_ii, rEqW_bb, rEqW_ss, rIsW_n, rIsW_bb, rAddW_ii, rAddW_ss, rAddW_tt, rIW_ii, rI0W_ii, rMulW_ii, rMulW_ti, rIntW_i, rIntW_b, rMax2W_ii, rMin2W_ii]
  refine ⟨j, 16, mo, rfl, hj, by decide, by decide, h3, fun N ok wN lN => ?_⟩
  simp only [wSeq, wAsg, wRet, wRetN, wDrop, wIfS, wVar, wC, wOp, wCall, wCons, wNil, wTup, wTest, wAnd, wOr, wNot, wAndV, wOrV, wNotV, wIf, wNext, wgName, wgTup, wgCons, wgNil, wFor, wSq, wYes, wLcU, wLcV, wLc, uTuple, uAll, uAny, uSum, wNeg, wSl, wPart, wNoPart, rSlW_tup, isNonP, seqW_tup, wLst, wipeW, wPar, wPut, wAug, wZip, wEnum, wRng1, wRng2, wChain, List.getElem?_cons_zero, List.getElem?_cons_succ, List.set_cons_zero, List.set_cons_succ, Option.some.injEq, exists_eq_left', exists_eq_left, exists_and_left, exists_eq_right, exists_eq_right', and_assoc, true_and, and_true, List.cons.injEq, and_self, if_true, if_false, Bool.false_eq_true, PV.int.injEq, PV.bl.injEq, PV.tup.injEq, PV.ref.injEq, PV.str.injEq, Bool.false_xor, Bool.true_xor, List.length_cons, List.length_nil, Nat.reduceAdd, Nat.reduceLeDiff, Nat.reduceEqDiff, Prod.mk.injEq, cutP_map, cutP_0, cutP_1, cutP_2, cutP_all, decide_eq_true_eq, startW, endsW, List.map_cons, List.map_nil, List.cons_append, List.nil_append, List.replicate, Nat.reduceSub, rIxW_tup, rLenW_tup, rListW_tup, wMeth, wRngL, wRngT, rIsiW_eq, tyP_non, tyP_bl, tyP_int, tyP_str, tyP_tup, isi_NoneType_int, isi_NoneType_bool, isi_NoneType_str, isi_NoneType_list, isi_NoneType_tuple, isi_NoneType_dict, isi_bool_int, isi_bool_bool, isi_bool_str, isi_bool_list, isi_bool_tuple, isi_bool_dict, isi_int_int, isi_int_bool, isi_int_str, isi_int_list, isi_int_tuple, isi_int_dict, isi_str_int, isi_str_bool, isi_str_str, isi_str_list, isi_str_tuple, isi_str_dict, isi_tuple_int, isi_tuple_bool, isi_tuple_str, isi_tuple_list, isi_tuple_tuple, isi_tuple_dict, isi_list_int, isi_list_bool, isi_list_str, isi_list_list, isi_list_tuple, isi_list_dict, isi_dict_int, isi_dict_bool, isi_dict_str, isi_dict_list, isi_dict_tuple, isi_dict_dict, decide_true, decide_false, Bool.not_true, Bool.not_false, Bool.not_eq_true', decide_eq_false_iff_not, ite_not, natP, swP, natsP, intsP, atI_0, atI_1, atI_2, atI_3, wLcU2, wLcV2, wTupZip, wZipN, wStep, wRev, wMaxD, wMinD, rInW_ints, rEqW_ii, rEqW_bb, rEqW_ss, rIsW_n, rIsW_bb, rAddW_ii, rAddW_ss, rAddW_tt, rIW_ii, rI0W_ii, rMulW_ii, rMulW_ti, rIntW_i, rIntW_b, rMax2W_ii, rMin2W_ii, hy0]
  refine ⟨R30w S wd mo, ?_, ?_⟩
  · simp only [wSeq, wAsg, wRet, wRetN, wDrop, wIfS, wVar, wC, wOp, wCall, wCons, wNil, wTup, wTest, wAnd, wOr, wNot, wAndV, wOrV, wNotV, wIf, wNext, wgName, wgTup, wgCons, wgNil, wFor, wSq, wYes, wLcU, wLcV, wLc, uTuple, uAll, uAny, uSum, wNeg, wSl, wPart, wNoPart, rSlW_tup, isNonP, seqW_tup, wLst, wipeW, wPar, wPut, wAug, wZip, wEnum, wRng1, wRng2, wChain, List.getElem?_cons_zero, List.getElem?_cons_succ, List.set_cons_zero, List.set_cons_succ, Option.some.injEq, exists_eq_left', exists_eq_left, exists_and_left, exists_eq_right, exists_eq_right', and_assoc, true_and, and_true, List.cons.injEq, and_self, if_true, if_false, Bool.false_eq_true, PV.int.injEq, PV.bl.injEq, PV.tup.injEq, PV.ref.injEq, PV.str.injEq, Bool.false_xor, Bool.true_xor, List.length_cons, List.length_nil, Nat.reduceAdd, Nat.reduceLeDiff, Nat.reduceEqDiff, Prod.mk.injEq, cutP_map, cutP_0, cutP_1, cutP_2, cutP_all, decide_eq_true_eq, startW, endsW, List.map_cons, List.map_nil, List.cons_append, List.nil_append, List.replicate, Nat.reduceSub, rIxW_tup, rLenW_tup, rListW_tup, wMeth, wRngL, wRngT, rIsiW_eq, tyP_non, tyP_bl, tyP_int, tyP_str, tyP_tup, isi_NoneType_int, isi_NoneType_bool, isi_NoneType_str, isi_NoneType_list, isi_NoneType_tuple, isi_NoneType_dict, isi_bool_int, isi_bool_bool, isi_bool_str, isi_bool_list, isi_bool_tuple, isi_bool_dict, isi_int_int, isi_int_bool, isi_int_str, isi_int_list, isi_int_tuple, isi_int_dict, isi_str_int, isi_str_bool, isi_str_str, isi_str_list, isi_str_tuple, isi_str_dict, isi_tuple_int, isi_tuple_bool, isi_tuple_str, isi_tuple_list, isi_tuple_tuple, isi_tuple_dict, isi_list_int, isi_list_bool, isi_list_str, isi_list_list, isi_list_tuple, isi_list_dict, isi_dict_int, isi_dict_bool, isi_dict_str, isi_dict_list, isi_dict_tuple, isi_dict_dict, decide_true, decide_false, Bool.not_true, Bool.not_false, Bool.not_eq_true', decide_eq_false_iff_not, ite_not, natP, swP, natsP, intsP, atI_0, atI_1, atI_2, atI_3, wLcU2, wLcV2, wTupZip, wZipN, wStep, wRev, wMaxD, wMinD, rInW_ints, rEqW_ii, rEqW_bb, rEqW_ss, rIsW_n, rIsW_bb, rAddW_ii, rAddW_ss, rAddW_tt, rIW_ii, rI0W_ii, rMulW_ii, rMulW_ti, rIntW_i, rIntW_b, rMax2W_ii, rMin2W_ii, hy0]
    by_cases c : (N.w : Int) = (wd : Int)
    · rw [if_pos c]
      exact ⟨N, ok, by omega, lN, ⟨[], (List.append_nil _).symm⟩, _, _, _, _, _, _, _, rfl⟩
    · rw [if_neg c]
      have nd : N.ord.Nodup := ok.ord.nodup_iff.mpr List.nodup_range
      have ol : N.ord.length = N.w := by rw [ok.ord.length_eq, List.length_range]
      simp only [wSeq, wAsg, wRet, wRetN, wDrop, wIfS, wVar, wC, wOp, wCall, wCons, wNil, wTup, wTest, wAnd, wOr, wNot, wAndV, wOrV, wNotV, wIf, wNext, wgName, wgTup, wgCons, wgNil, wFor, wSq, wYes, wLcU, wLcV, wLc, uTuple, uAll, uAny, uSum, wNeg, wSl, wPart, wNoPart, rSlW_tup, isNonP, seqW_tup, wLst, wipeW, wPar, wPut, wAug, wZip, wEnum, wRng1, wRng2, wChain, List.getElem?_cons_zero, List.getElem?_cons_succ, List.set_cons_zero, List.set_cons_succ, Option.some.injEq, exists_eq_left', exists_eq_left, exists_and_left, exists_eq_right, exists_eq_right', and_assoc, true_and, and_true, List.cons.injEq, and_self, if_true, if_false, Bool.false_eq_true, PV.int.injEq, PV.bl.injEq, PV.tup.injEq, PV.ref.injEq, PV.str.injEq, Bool.false_xor, Bool.true_xor, List.length_cons, List.length_nil, Nat.reduceAdd, Nat.reduceLeDiff, Nat.reduceEqDiff, Prod.mk.injEq, cutP_map, cutP_0, cutP_1, cutP_2, cutP_all, decide_eq_true_eq, startW, endsW, List.map_cons, List.map_nil, List.cons_append, List.nil_append, List.replicate, Nat.reduceSub, rIxW_tup, rLenW_tup, rListW_tup, wMeth, wRngL, wRngT, rIsiW_eq, tyP_non, tyP_bl, tyP_int, tyP_str, tyP_tup, isi_NoneType_int, isi_NoneType_bool, isi_NoneType_str, isi_NoneType_list, isi_NoneType_tuple, isi_NoneType_dict, isi_bool_int, isi_bool_bool, isi_bool_str, isi_bool_list, isi_bool_tuple, isi_bool_dict, isi_int_int, isi_int_bool, isi_int_str, isi_int_list, isi_int_tuple, isi_int_dict, isi_str_int, isi_str_bool, isi_str_str, isi_str_list, isi_str_tuple, isi_str_dict, isi_tuple_int, isi_tuple_bool, isi_tuple_str, isi_tuple_list, isi_tuple_tuple, isi_tuple_dict, isi_list_int, isi_list_bool, isi_list_str, isi_list_list, isi_list_tuple, isi_list_dict, isi_dict_int, isi_dict_bool, isi_dict_str, isi_dict_list, isi_dict_tuple, isi_dict_dict, decide_true, decide_false, Bool.not_true, Bool.not_false, Bool.not_eq_true', decide_eq_false_iff_not, ite_not, natP, swP, natsP, intsP, atI_0, atI_1, atI_2, atI_3, wLcU2, wLcV2, wTupZip, wZipN, wStep, wRev, wMaxD, wMinD, rInW_ints, rEqW_ii, rEqW_bb, rEqW_ss, rIsW_n, rIsW_bb, rAddW_ii, rAddW_ss, rAddW_tt, rIW_ii, rI0W_ii, rMulW_ii, rMulW_ti, rIntW_i, rIntW_b, rMax2W_ii, rMin2W_ii, hy1, hy2]
      refine ⟨by rw [List.length_map]; omega, ?_⟩
      obtain ⟨ws, hws⟩ : ∃ ws, ws = N.ord.filter (fun x => decide (x < wd)) := ⟨_, rfl⟩
      refine lc_filter (e := natP) (fun x => decide (x < wd)) natP trivial (fun x hx R R' R2 y1 y2 => ?_) ?_
      · simp only [wSeq, wAsg, wRet, wRetN, wDrop, wIfS, wVar, wC, wOp, wCall, wCons, wNil, wTup, wTest, wAnd, wOr, wNot, wAndV, wOrV, wNotV, wIf, wNext, wgName, wgTup, wgCons, wgNil, wFor, wSq, wYes, wLcU, wLcV, wLc, uTuple, uAll, uAny, uSum, wNeg, wSl, wPart, wNoPart, rSlW_tup, isNonP, seqW_tup, wLst, wipeW, wPar, wPut, wAug, wZip, wEnum, wRng1, wRng2, wChain, List.getElem?_cons_zero, List.getElem?_cons_succ, List.set_cons_zero, List.set_cons_succ, Option.some.injEq, exists_eq_left', exists_eq_left, exists_and_left, exists_eq_right, exists_eq_right', and_assoc, true_and, and_true, List.cons.injEq, and_self, if_true, if_false, Bool.false_eq_true, PV.int.injEq, PV.bl.injEq, PV.tup.injEq, PV.ref.injEq, PV.str.injEq, Bool.false_xor, Bool.true_xor, List.length_cons, List.length_nil, Nat.reduceAdd, Nat.reduceLeDiff, Nat.reduceEqDiff, Prod.mk.injEq, cutP_map, cutP_0, cutP_1, cutP_2, cutP_all, decide_eq_true_eq, startW, endsW, List.map_cons, List.map_nil, List.cons_append, List.nil_append, List.replicate, Nat.reduceSub, rIxW_tup, rLenW_tup, rListW_tup, wMeth, wRngL, wRngT, rIsiW_eq, tyP_non, tyP_bl, tyP_int, tyP_str, tyP_tup, isi_NoneType_int, isi_NoneType_bool, isi_NoneType_str, isi_NoneType_list, isi_NoneType_tuple, isi_NoneType_dict, isi_bool_int, isi_bool_bool, isi_bool_str, isi_bool_list, isi_bool_tuple, isi_bool_dict, isi_int_int, isi_int_bool, isi_int_str, isi_int_list, isi_int_tuple, isi_int_dict, isi_str_int, isi_str_bool, isi_str_str, isi_str_list, isi_str_tuple, isi_str_dict, isi_tuple_int, isi_tuple_bool, isi_tuple_str, isi_tuple_list, isi_tuple_tuple, isi_tuple_dict, isi_list_int, isi_list_bool, isi_list_str, isi_list_list, isi_list_tuple, isi_list_dict, isi_dict_int, isi_dict_bool, isi_dict_str, isi_dict_list, isi_dict_tuple, isi_dict_dict, decide_true, decide_false, Bool.not_true, Bool.not_false, Bool.not_eq_true', decide_eq_false_iff_not, ite_not, natP, swP, natsP, intsP, atI_0, atI_1, atI_2, atI_3, wLcU2, wLcV2, wTupZip, wZipN, wStep, wRev, wMaxD, wMinD, rInW_ints, rEqW_ii, rEqW_bb, rEqW_ss, rIsW_n, rIsW_bb, rAddW_ii, rAddW_ss, rAddW_tt, rIW_ii, rI0W_ii, rMulW_ii, rMulW_ti, rIntW_i, rIntW_b, rMax2W_ii, rMin2W_ii]
        by_cases d : x < wd
        · rw [if_pos (by omega)]; exact y1 (decide_eq_true d)
        · rw [if_neg (by omega)]; exact y2 (decide_eq_false d)
      rw [List.nil_append, ← hws]
      have wl : ws.length ≤ 16 := by rw [hws]; exact Nat.le_trans (List.length_filter_le _ _) (by omega)
      have gw : (S ++ [Ob.lst (ws.map natP)])[S.length]? = some (.lst (ws.map natP)) := get_new1 _ _
      have gw2 : (S ++ [Ob.lst (ws.map natP)])[S.length]? = some (.lst ((ws.map fun x : Nat => (x : Int)).map PV.int)) := by rw [gw, List.map_map]; rfl
      have pw : ∃ G, S ++ [Ob.lst (ws.map natP)] = S ++ G := ⟨_, rfl⟩
      generalize S ++ [Ob.lst (ws.map natP)] = S1 at gw gw2 pw ⊢
      refine ⟨by omega, by omega, by rw [rngP_length]; omega, ?_⟩
      rw [rngP_map, Int.toNat_natCast]
      refine lc_filter (e := fun i : Nat => PV.int (0 + (i : Int))) (fun x => decide (x ∉ ws)) natP trivial (fun x hx R R' R2 y1 y2 => ?_) ?_
      · simp only [wSeq, wAsg, wRet, wRetN, wDrop, wIfS, wVar, wC, wOp, wCall, wCons, wNil, wTup, wTest, wAnd, wOr, wNot, wAndV, wOrV, wNotV, wIf, wNext, wgName, wgTup, wgCons, wgNil, wFor, wSq, wYes, wLcU, wLcV, wLc, uTuple, uAll, uAny, uSum, wNeg, wSl, wPart, wNoPart, rSlW_tup, isNonP, seqW_tup, wLst, wipeW, wPar, wPut, wAug, wZip, wEnum, wRng1, wRng2, wChain, List.getElem?_cons_zero, List.getElem?_cons_succ, List.set_cons_zero, List.set_cons_succ, Option.some.injEq, exists_eq_left', exists_eq_left, exists_and_left, exists_eq_right, exists_eq_right', and_assoc, true_and, and_true, List.cons.injEq, and_self, if_true, if_false, Bool.false_eq_true, PV.int.injEq, PV.bl.injEq, PV.tup.injEq, PV.ref.injEq, PV.str.injEq, Bool.false_xor, Bool.true_xor, List.length_cons, List.length_nil, Nat.reduceAdd, Nat.reduceLeDiff, Nat.reduceEqDiff, Prod.mk.injEq, cutP_map, cutP_0, cutP_1, cutP_2, cutP_all, decide_eq_true_eq, startW, endsW, List.map_cons, List.map_nil, List.cons_append, List.nil_append, List.replicate, Nat.reduceSub, rIxW_tup, rLenW_tup, rListW_tup, wMeth, wRngL, wRngT, rIsiW_eq, tyP_non, tyP_bl, tyP_int, tyP_str, tyP_tup, isi_NoneType_int, isi_NoneType_bool, isi_NoneType_str, isi_NoneType_list, isi_NoneType_tuple, isi_NoneType_dict, isi_bool_int, isi_bool_bool, isi_bool_str, isi_bool_list, isi_bool_tuple, isi_bool_dict, isi_int_int, isi_int_bool, isi_int_str, isi_int_list, isi_int_tuple, isi_int_dict, isi_str_int, isi_str_bool, isi_str_str, isi_str_list, isi_str_tuple, isi_str_dict, isi_tuple_int, isi_tuple_bool, isi_tuple_str, isi_tuple_list, isi_tuple_tuple, isi_tuple_dict, isi_list_int, isi_list_bool, isi_list_str, isi_list_list, isi_list_tuple, isi_list_dict, isi_dict_int, isi_dict_bool, isi_dict_str, isi_dict_list, isi_dict_tuple, isi_dict_dict, decide_true, decide_false, Bool.not_true, Bool.not_false, Bool.not_eq_true', decide_eq_false_iff_not, ite_not, natP, swP, natsP, intsP, atI_0, atI_1, atI_2, atI_3, wLcU2, wLcV2, wTupZip, wZipN, wStep, wRev, wMaxD, wMinD, rInW_ints, rEqW_ii, rEqW_bb, rEqW_ss, rIsW_n, rIsW_bb, rAddW_ii, rAddW_ss, rAddW_tt, rIW_ii, rI0W_ii, rMulW_ii, rMulW_ti, rIntW_i, rIntW_b, rMax2W_ii, rMin2W_ii]
        rw [Int.zero_add, rInW_lints gw2]
        have em : ((x : Int) ∈ ws.map fun x : Nat => (x : Int)) ↔ x ∈ ws := by
          rw [List.mem_map]
          refine ⟨fun h => ?_, fun h => ⟨x, h, rfl⟩⟩
          obtain ⟨a, ha, e⟩ := h
          have : a = x := by omega
          rw [← this]; exact ha
        refine ⟨_, rfl, ?_⟩
        by_cases d : x ∈ ws
        · rw [decide_eq_true (em.mpr d), if_neg (by decide)]
          exact y2 (decide_eq_false fun z => z d)
        · rw [decide_eq_false (fun z => d (em.mp z)), if_pos (by decide)]
          exact y1 (decide_eq_true d)
      rw [List.nil_append]
      rw [rAddW_ll (pen_at gw) (get_new1 _ _)]
      obtain ⟨vs, hvs⟩ : ∃ vs, vs = ws ++ (List.range wd).filter (fun x => decide (x ∉ ws)) := ⟨_, rfl⟩
      have ev : ws.map natP ++ ((List.range wd).filter (fun x => decide (x ∉ ws))).map natP = vs.map natP := by rw [hvs, List.map_append]
      have pv : vs.Perm (List.range wd) := by rw [hvs, hws]; exact perm_fill nd
      rw [ev]
      have p2 : ∃ G, S1 ++ [Ob.lst (((List.range wd).filter (fun x => decide (x ∉ ws))).map natP)] ++ [Ob.lst (vs.map natP)] = S ++ G := pre_more (pre_more pw)
      have g2 : (S1 ++ [Ob.lst (((List.range wd).filter (fun x => decide (x ∉ ws))).map natP)] ++ [Ob.lst (vs.map natP)])[(S1 ++ [Ob.lst (((List.range wd).filter (fun x => decide (x ∉ ws))).map natP)]).length]? = some (.lst (vs.map natP)) := get_new1 _ _
      refine ⟨by rw [List.length_map, List.length_map]; exact Nat.le_trans (Nat.add_le_add wl (Nat.le_trans (List.length_filter_le _ _) (by rw [List.length_range]; exact h2))) (by decide), ?_⟩
      generalize (S1 ++ [Ob.lst (((List.range wd).filter (fun x => decide (x ∉ ws))).map natP)]).length = q at g2 ⊢
      generalize S1 ++ [Ob.lst (((List.range wd).filter (fun x => decide (x ∉ ws))).map natP)] ++ [Ob.lst (vs.map natP)] = S2 at p2 g2 ⊢
      refine ⟨by rw [List.length_map]; omega, ?_⟩
      refine lc_filter (e := swP) (fun s : Nat × Nat => decide (s.1 < wd ∧ s.2 < wd)) swP trivial (fun s hs R R' R2 y1 y2 => ?_) ?_
      · simp only [wSeq, wAsg, wRet, wRetN, wDrop, wIfS, wVar, wC, wOp, wCall, wCons, wNil, wTup, wTest, wAnd, wOr, wNot, wAndV, wOrV, wNotV, wIf, wNext, wgName, wgTup, wgCons, wgNil, wFor, wSq, wYes, wLcU, wLcV, wLc, uTuple, uAll, uAny, uSum, wNeg, wSl, wPart, wNoPart, rSlW_tup, isNonP, seqW_tup, wLst, wipeW, wPar, wPut, wAug, wZip, wEnum, wRng1, wRng2, wChain, List.getElem?_cons_zero, List.getElem?_cons_succ, List.set_cons_zero, List.set_cons_succ, Option.some.injEq, exists_eq_left', exists_eq_left, exists_and_left, exists_eq_right, exists_eq_right', and_assoc, true_and, and_true, List.cons.injEq, and_self, if_true, if_false, Bool.false_eq_true, PV.int.injEq, PV.bl.injEq, PV.tup.injEq, PV.ref.injEq, PV.str.injEq, Bool.false_xor, Bool.true_xor, List.length_cons, List.length_nil, Nat.reduceAdd, Nat.reduceLeDiff, Nat.reduceEqDiff, Prod.mk.injEq, cutP_map, cutP_0, cutP_1, cutP_2, cutP_all, decide_eq_true_eq, startW, endsW, List.map_cons, List.map_nil, List.cons_append, List.nil_append, List.replicate, Nat.reduceSub, rIxW_tup, rLenW_tup, rListW_tup, wMeth, wRngL, wRngT, rIsiW_eq, tyP_non, tyP_bl, tyP_int, tyP_str, tyP_tup, isi_NoneType_int, isi_NoneType_bool, isi_NoneType_str, isi_NoneType_list, isi_NoneType_tuple, isi_NoneType_dict, isi_bool_int, isi_bool_bool, isi_bool_str, isi_bool_list, isi_bool_tuple, isi_bool_dict, isi_int_int, isi_int_bool, isi_int_str, isi_int_list, isi_int_tuple, isi_int_dict, isi_str_int, isi_str_bool, isi_str_str, isi_str_list, isi_str_tuple, isi_str_dict, isi_tuple_int, isi_tuple_bool, isi_tuple_str, isi_tuple_list, isi_tuple_tuple, isi_tuple_dict, isi_list_int, isi_list_bool, isi_list_str, isi_list_list, isi_list_tuple, isi_list_dict, isi_dict_int, isi_dict_bool, isi_dict_str, isi_dict_list, isi_dict_tuple, isi_dict_dict, decide_true, decide_false, Bool.not_true, Bool.not_false, Bool.not_eq_true', decide_eq_false_iff_not, ite_not, natP, swP, natsP, intsP, atI_0, atI_1, atI_2, atI_3, wLcU2, wLcV2, wTupZip, wZipN, wStep, wRev, wMaxD, wMinD, rInW_ints, rEqW_ii, rEqW_bb, rEqW_ss, rIsW_n, rIsW_bb, rAddW_ii, rAddW_ss, rAddW_tt, rIW_ii, rI0W_ii, rMulW_ii, rMulW_ti, rIntW_i, rIntW_b, rMax2W_ii, rMin2W_ii]
        refine ⟨_, true, [(s.1 : Int), (s.2 : Int)], rfl, rfl, Nat.succ_pos _, fun m hm hb => ?_⟩
        have b1 := hb (s.1 : Int) List.mem_cons_self
        have b2 := hb (s.2 : Int) (List.mem_cons_of_mem _ List.mem_cons_self)
        simp only [List.mem_cons, List.not_mem_nil, or_false] at hm
        simp only [wSeq, wAsg, wRet, wRetN, wDrop, wIfS, wVar, wC, wOp, wCall, wCons, wNil, wTup, wTest, wAnd, wOr, wNot, wAndV, wOrV, wNotV, wIf, wNext, wgName, wgTup, wgCons, wgNil, wFor, wSq, wYes, wLcU, wLcV, wLc, uTuple, uAll, uAny, uSum, wNeg, wSl, wPart, wNoPart, rSlW_tup, isNonP, seqW_tup, wLst, wipeW, wPar, wPut, wAug, wZip, wEnum, wRng1, wRng2, wChain, List.getElem?_cons_zero, List.getElem?_cons_succ, List.set_cons_zero, List.set_cons_succ, Option.some.injEq, exists_eq_left', exists_eq_left, exists_and_left, exists_eq_right, exists_eq_right', and_assoc, true_and, and_true, List.cons.injEq, and_self, if_true, if_false, Bool.false_eq_true, PV.int.injEq, PV.bl.injEq, PV.tup.injEq, PV.ref.injEq, PV.str.injEq, Bool.false_xor, Bool.true_xor, List.length_cons, List.length_nil, Nat.reduceAdd, Nat.reduceLeDiff, Nat.reduceEqDiff, Prod.mk.injEq, cutP_map, cutP_0, cutP_1, cutP_2, cutP_all, decide_eq_true_eq, startW, endsW, List.map_cons, List.map_nil, List.cons_append, List.nil_append, List.replicate, Nat.reduceSub, rIxW_tup, rLenW_tup, rListW_tup, wMeth, wRngL, wRngT, rIsiW_eq, tyP_non, tyP_bl, tyP_int, tyP_str, tyP_tup, isi_NoneType_int, isi_NoneType_bool, isi_NoneType_str, isi_NoneType_list, isi_NoneType_tuple, isi_NoneType_dict, isi_bool_int, isi_bool_bool, isi_bool_str, isi_bool_list, isi_bool_tuple, isi_bool_dict, isi_int_int, isi_int_bool, isi_int_str, isi_int_list, isi_int_tuple, isi_int_dict, isi_str_int, isi_str_bool, isi_str_str, isi_str_list, isi_str_tuple, isi_str_dict, isi_tuple_int, isi_tuple_bool, isi_tuple_str, isi_tuple_list, isi_tuple_tuple, isi_tuple_dict, isi_list_int, isi_list_bool, isi_list_str, isi_list_list, isi_list_tuple, isi_list_dict, isi_dict_int, isi_dict_bool, isi_dict_str, isi_dict_list, isi_dict_tuple, isi_dict_dict, decide_true, decide_false, Bool.not_true, Bool.not_false, Bool.not_eq_true', decide_eq_false_iff_not, ite_not, natP, swP, natsP, intsP, atI_0, atI_1, atI_2, atI_3, wLcU2, wLcV2, wTupZip, wZipN, wStep, wRev, wMaxD, wMinD, rInW_ints, rEqW_ii, rEqW_bb, rEqW_ss, rIsW_n, rIsW_bb, rAddW_ii, rAddW_ss, rAddW_tt, rIW_ii, rI0W_ii, rMulW_ii, rMulW_ti, rIntW_i, rIntW_b, rMax2W_ii, rMin2W_ii]
        by_cases d : s.1 < wd ∧ s.2 < wd
        · rw [if_pos (by omega)]; exact y1 (decide_eq_true d)
        · rw [if_neg (by omega)]; exact y2 (decide_eq_false d)
      rw [List.nil_append]
      rw [rTupleW_lst (get_new1 _ _), rTupleW_lst (pen_at g2)]
      have fl : (N.sw.filter fun s : Nat × Nat => decide (s.1 < wd ∧ s.2 < wd)).length ≤ mo := Nat.le_trans (List.length_filter_le _ _) lN
      refine ⟨⟨wd, N.sw.filter fun s : Nat × Nat => decide (s.1 < wd ∧ s.2 < wd), vs⟩, ⟨h1, h2, fun s hs => ?_, pv⟩, rfl, fl, pre_more p2, _, _, _, _, _, _, _, rfl⟩
      obtain ⟨a1, a2⟩ := List.mem_filter.mp hs
      have a3 := of_decide_eq_true a2
      exact ⟨a3.1, a3.2, (ok.sw s a1).2.2⟩
  · rintro τ S1 ⟨M, okM, wM, lM, ⟨G, rfl⟩, x0, x1, x2, x4, x5, x6, x7, rfl⟩
    simp only [wSeq, wAsg, wRet, wRetN, wDrop, wIfS, wVar, wC, wOp, wCall, wCons, wNil, wTup, wTest, wAnd, wOr, wNot, wAndV, wOrV, wNotV, wIf, wNext, wgName, wgTup, wgCons, wgNil, wFor, wSq, wYes, wLcU, wLcV, wLc, uTuple, uAll, uAny, uSum, wNeg, wSl, wPart, wNoPart, rSlW_tup, isNonP, seqW_tup, wLst, wipeW, wPar, wPut, wAug, wZip, wEnum, wRng1, wRng2, wChain, List.getElem?_cons_zero, List.getElem?_cons_succ, List.set_cons_zero, List.set_cons_succ, Option.some.injEq, exists_eq_left', exists_eq_left, exists_and_left, exists_eq_right, exists_eq_right', and_assoc, true_and, and_true, List.cons.injEq, and_self, if_true, if_false, Bool.false_eq_true, PV.int.injEq, PV.bl.injEq, PV.tup.injEq, PV.ref.injEq, PV.str.injEq, Bool.false_xor, Bool.true_xor, List.length_cons, List.length_nil, Nat.reduceAdd, Nat.reduceLeDiff, Nat.reduceEqDiff, Prod.mk.injEq, cutP_map, cutP_0, cutP_1, cutP_2, cutP_all, decide_eq_true_eq, startW, endsW, List.map_cons, List.map_nil, List.cons_append, List.nil_append, List.replicate, Nat.reduceSub, rIxW_tup, rLenW_tup, rListW_tup, wMeth, wRngL, wRngT, rIsiW_eq, tyP_non, tyP_bl, tyP_int, tyP_str, tyP_tup, isi_NoneType_int, isi_NoneType_bool, isi_NoneType_str, isi_NoneType_list, isi_NoneType_tuple, isi_NoneType_dict, isi_bool_int, isi_bool_bool, isi_bool_str, isi_bool_list, isi_bool_tuple, isi_bool_dict, isi_int_int, isi_int_bool, isi_int_str, isi_int_list, isi_int_tuple, isi_int_dict, isi_str_int, isi_str_bool, isi_str_str, isi_str_list, isi_str_tuple, isi_str_dict, isi_tuple_int, isi_tuple_bool, isi_tuple_str, isi_tuple_list, isi_tuple_tuple, isi_tuple_dict, isi_list_int, isi_list_bool, isi_list_str, isi_list_list, isi_list_tuple, isi_list_dict, isi_dict_int, isi_dict_bool, isi_dict_str, isi_dict_list, isi_dict_tuple, isi_dict_dict, decide_true, decide_false, Bool.not_true, Bool.not_false, Bool.not_eq_true', decide_eq_false_iff_not, ite_not, natP, swP, natsP, intsP, atI_0, atI_1, atI_2, atI_3, wLcU2, wLcV2, wTupZip, wZipN, wStep, wRev, wMaxD, wMinD, rInW_ints, rEqW_ii, rEqW_bb, rEqW_ss, rIsW_n, rIsW_bb, rAddW_ii, rAddW_ss, rAddW_tt, rIW_ii, rI0W_ii, rMulW_ii, rMulW_ti, rIntW_i, rIntW_b, rMax2W_ii, rMin2W_ii]
    exact fg_cut (Nat.le_refl _) hcl (cl_netY _) (h M okM wM lM)
end
end L4
set_option Elab.async false
set_option linter.all false
set_option maxRecDepth 100000
namespace L4
open PySem PySem.Spec PyProof.Rows L2 L3
theorem eqw_net {S : Sto} {n : Nat} (N : Net) (h1 : N.sw.length ≤ 100000) (h2 : N.ord.length ≤ 100000) : EqW S (n + 4) (netP N) (netP N) := by
  refine .tup (n := n + 3) (.cons (.int _) (.cons (.tup (n := n + 2) (EqWs.map swP fun s _ => ?_) (by rw [List.length_map]; exact h1)) (.cons (.tup (n := n + 2) (EqWs.map natP fun i _ => .int _) (by rw [List.length_map]; exact h2)) .nil))) (by show 3 ≤ 100000; decide)
  exact .tup (n := n + 1) (.cons (.int _) (.cons (.int _) .nil)) (by show 2 ≤ 100000; decide)
theorem eqw_tld {S : Sto} {n : Nat} (o : Option Net) (h : ∀ N, o = some N → N.sw.length ≤ 100000 ∧ N.ord.length ≤ 100000) : EqW S (n + 5) (tldP o) (tldP o) := by
  cases o with
  | none => exact .tup (n := n + 4) (.cons (.str _) (.cons (.str _) .nil)) (by decide)
  | some N => exact .tup (n := n + 4) (.cons (.str _) (.cons (eqw_net N (h N rfl).1 (h N rfl).2) .nil)) (by show 2 ≤ 100000; decide)
theorem put_len {k : Nat} {N O M : Net} (hN : N.ord.length ≤ 16) (hO : O.ord.length ≤ 16) (h : putX k N O = some M) : M.sw.length ≤ 100000 ∧ M.ord.length ≤ 100000 := by
  unfold putX at h
  split at h
  · split at h
    · rename_i c
      cases h
      unfold besX renN
      dsimp only
      rw [List.length_append, List.length_append, List.length_map, List.length_map]
      omega
    · cases h
  · split at h
    · rename_i c
      cases h
      unfold behX renN
      dsimp only
      rw [List.length_append, List.length_map, List.length_map]
      omega
    · cases h
theorem pick4 {a b c d : Nat} {i : Nat} (hi : i < 4) : ∃ k : Nat, (k = a ∨ k = b ∨ k = c ∨ k = d) ∧ atI [PV.int (a : Int), PV.int (b : Int), PV.int (c : Int), PV.int (d : Int)] (i : Int) = some (.int (k : Int)) := by
  have : i = 0 ∨ i = 1 ∨ i = 2 ∨ i = 3 := by omega
  rcases this with rfl | rfl | rfl | rfl
  · exact ⟨a, .inl rfl, rfl⟩
  · exact ⟨b, .inr (.inl rfl), rfl⟩
  · exact ⟨c, .inr (.inr (.inl rfl)), rfl⟩
  · exact ⟨d, .inr (.inr (.inr rfl)), rfl⟩
def L30 (ns : List Int) (τ : Ev) (S : Sto) : Prop := S[0]? = some .jar ∧ ∃ x2 x3 x4 x5 x6 x7 x8 x9 x10 x11 x12, τ = [some (.scr ns), some (.ref 0), x2, x3, x4, x5, x6, x7, x8, x9, x10, x11, x12]
def prP (p : Net × Net) : PV := .tup [netP p.1, netP p.2]
def Pr30 (kd : Nat) (p : Net × Net) : Prop := p.1.Ok ∧ p.2.Ok ∧ p.1.sw.length ≤ 160 ∧ p.2.sw.length ≤ 160 ∧ (kd = 0 ∨ p.2.w = p.1.w)
theorem Pr30.eq {kd : Nat} {p : Net × Net} {S : Sto} (h : Pr30 kd p) : EqW S 8 (tldP (putX kd p.1 p.2)) (tldP (putX kd p.1 p.2)) := by
  have h1 := h.1.w16
  have h2 := h.2.1.w16
  have e1 : p.1.ord.length = p.1.w := by rw [h.1.ord.length_eq, List.length_range]
  have e2 : p.2.ord.length = p.2.w := by rw [h.2.1.ord.length_eq, List.length_range]
  exact eqw_tld (n := 3) _ fun M hM => put_len (by omega) (by omega) hM
theorem told_ix {o : Option Net} {S : Sto} {Q : WQ} : rIxW (tldP o) (.int 0) S Q = Q (.str (if o.isSome = true then "told" else "refused")) S := by
  cases o <;> (unfold tldP; rw [rIxW_tup, atI_0]; simp)
def nt2 (n : Nat) (s : Nat × Nat) (o : List Nat) : Net := ⟨2, List.replicate n s, o⟩
theorem nt2P {n : Nat} {a b c d : Nat} : PV.tup [PV.int 2, PV.tup (List.replicate ((n : Int)).toNat [PV.tup [PV.int (a : Int), PV.int (b : Int)]]).flatten, PV.tup [PV.int (c : Int), PV.int (d : Int)]] = netP (nt2 n (a, b) [c, d]) := by
  rw [Int.toNat_natCast]
  unfold netP nt2
  dsimp only
  rw [List.map_replicate]
  have : (List.replicate n [PV.tup [PV.int (a : Int), PV.int (b : Int)]]).flatten = List.replicate n (swP (a, b)) := by
    induction n with
    | zero => rfl
    | succ n ih => rw [List.replicate_succ, List.flatten_cons, ih]; rfl
  rw [this]; rfl
theorem nt2_ok {n a b : Nat} {o : List Nat} (h : (a, b) = (0, 1) ∨ (a, b) = (1, 0)) (ho : o = [0, 1] ∨ o = [1, 0]) : (nt2 n (a, b) o).Ok := by
  refine ⟨by show 1 ≤ 2; decide, by show 2 ≤ 16; decide, fun p hp => ?_, ?_⟩
  · have : p = (a, b) := List.eq_of_mem_replicate hp
    subst this
    rcases h with h | h <;> (cases h; exact ⟨by show _ < 2; decide, by show _ < 2; decide, by decide⟩)
  · rcases ho with rfl | rfl
    · exact List.Perm.refl _
    · exact List.Perm.swap 0 1 []
def wd8 : Net := ⟨8, [], List.range 8⟩
theorem wd8_ok : wd8.Ok := ⟨by show 1 ≤ 8; decide, by show 8 ≤ 16; decide, (fun p hp => by cases hp), List.Perm.refl _⟩
section
variable {P : Program} {w : World} {K : PySem.W.Frag} {mg : Str → Option Value} {base : Heap}
abbrev s_law : Stmt := top 28
theorem sc_law : FnScope ["script", "jar", "turn", "most", "one", "other", "pair", "like", "full", "some", "half", "more", "wide"] ["script"] (defScope s_law) := ⟨rfl, rfl, rfl, by decide +kernel, rfl, by decide +kernel, by decide +kernel⟩
set_option maxHeartbeats 1000000 in
theorem ok_law {f : Addr} {fd : FuncData} (F : Fun K "law" "law" s_law f fd) (T : Tn mg) (D_law_told : DefW Ts P w K mg base "_law_told" 3 ["kind", "one", "other"] wTold30) (D_law_same : DefW Ts P w K mg base "_law_same" 9 ["found", "due"] (wSame 8)) (D_law_due : DefW Ts P w K mg base "_law_due" 1 ["kind", "one", "other"] wTold30) (D_law_wide : DefW Ts P w K mg base "_law_wide" 5 ["jar", "width", "many"] wWide) (D_law_net : DefW Ts P w K mg base "_law_net" 4 ["jar", "widest", "most"] wNet) (D_law_jar : DefW Ts P w K mg base "_law_jar" 2 ["script"] wJar) : FnOk P w K mg base CX0 10 f fd ["script"] (spW Ts K wLaw) := by
  refine ok_body (k := 9) F sc_law (fun pvs S Q h => by obtain ⟨a, rfl, _⟩ := h; rfl) (fun cdv A outer s H E hr => ?_)
  have hu := hu_of hr
  refine ⟨_, (sss_cons (ss_set (i := 1) sc_law.nd rfl (by first | exact Or.inl rfl | exact Or.inr rfl) (se_def D_law_jar (hr.mono (by first | decide | omega)) (by rfl) (sa_cons (sv 0) sa_nil)))
      (sss_cons (ss_for (vs := [2]) PassesOwn.never rfl (si_range1 (by rfl) T.range_ (sa_cons se_int sa_nil)) (pg_name (i := 2) sc_law.nd rfl (by first | exact Or.inl rfl | exact Or.inr rfl)) (gr_name (i := 2) (by decide)) (mg_name _) (sss_cons (ss_set (i := 3) sc_law.nd rfl (by first | exact Or.inl rfl | exact Or.inr rfl) (se_ix hu (se_lst (sa_cons se_int (sa_cons se_int (sa_cons se_int (sa_cons se_int sa_nil))))) (sv 2) (fun _ _ => rfl)))
      (sss_cons (ss_set (i := 4) sc_law.nd rfl (by first | exact Or.inl rfl | exact Or.inr rfl) (se_def D_law_net (hr.mono (by first | decide | omega)) (by rfl) (sa_cons (sv 1) (sa_cons (se_ix hu (se_lst (sa_cons se_int (sa_cons se_int (sa_cons se_int (sa_cons se_int sa_nil))))) (sv 2) (fun _ _ => rfl)) (sa_cons (sv 3) sa_nil)))))
      (sss_cons (ss_set (i := 5) sc_law.nd rfl (by first | exact Or.inl rfl | exact Or.inr rfl) (se_def D_law_net (hr.mono (by first | decide | omega)) (by rfl) (sa_cons (sv 1) (sa_cons (se_ix hu (se_lst (sa_cons se_int (sa_cons se_int (sa_cons se_int (sa_cons se_int sa_nil))))) (sv 2) (fun _ _ => rfl)) (sa_cons (sv 3) sa_nil)))))
      (sss_cons (ss_for (vs := [6]) PassesOwn.never rfl (si_seq (se_lst (sa_cons (se_tup (sa_cons (sv 4) (sa_cons (sv 5) sa_nil))) (sa_cons (se_tup (sa_cons (sv 5) (sa_cons (sv 4) sa_nil))) sa_nil)))) (pg_name (i := 6) sc_law.nd rfl (by first | exact Or.inl rfl | exact Or.inr rfl)) (gr_name (i := 6) (by decide)) (mg_name _) (sss_one (ss_if (st_not (st_val (se_def D_law_same (hr.mono (by first | decide | omega)) (by rfl) (sa_cons (se_def D_law_told (hr.mono (by first | decide | omega)) (by rfl) (sa_cons se_int (sa_cons (se_ix hu (sv 6) se_int (fun _ _ => rfl)) (sa_cons (se_ix hu (sv 6) se_int (fun _ _ => rfl)) sa_nil)))) (sa_cons (se_def D_law_due (hr.mono (by first | decide | omega)) (by rfl) (sa_cons se_int (sa_cons (se_ix hu (sv 6) se_int (fun _ _ => rfl)) (sa_cons (se_ix hu (sv 6) se_int (fun _ _ => rfl)) sa_nil)))) sa_nil))))) (sss_one (ss_ret se_bl)) sss_nil)))
      (sss_cons (ss_set (i := 7) sc_law.nd rfl (by first | exact Or.inl rfl | exact Or.inr rfl) (se_def D_law_wide (hr.mono (by first | decide | omega)) (by rfl) (sa_cons (sv 1) (sa_cons (se_ix hu (sv 4) se_int (fun _ _ => rfl)) (sa_cons (sv 3) sa_nil)))))
      (sss_one (ss_for (vs := [6]) PassesOwn.never rfl (si_seq (se_lst (sa_cons (se_tup (sa_cons (sv 4) (sa_cons (sv 7) sa_nil))) (sa_cons (se_tup (sa_cons (sv 7) (sa_cons (sv 4) sa_nil))) (sa_cons (se_tup (sa_cons (sv 4) (sa_cons (sv 4) sa_nil))) sa_nil))))) (pg_name (i := 6) sc_law.nd rfl (by first | exact Or.inl rfl | exact Or.inr rfl)) (gr_name (i := 6) (by decide)) (mg_name _) (sss_one (ss_if (st_not (st_val (se_def D_law_same (hr.mono (by first | decide | omega)) (by rfl) (sa_cons (se_def D_law_told (hr.mono (by first | decide | omega)) (by rfl) (sa_cons se_int (sa_cons (se_ix hu (sv 6) se_int (fun _ _ => rfl)) (sa_cons (se_ix hu (sv 6) se_int (fun _ _ => rfl)) sa_nil)))) (sa_cons (se_def D_law_due (hr.mono (by first | decide | omega)) (by rfl) (sa_cons se_int (sa_cons (se_ix hu (sv 6) se_int (fun _ _ => rfl)) (sa_cons (se_ix hu (sv 6) se_int (fun _ _ => rfl)) sa_nil)))) sa_nil))))) (sss_one (ss_ret se_bl)) sss_nil))))))))))
      (sss_cons (ss_set (i := 8) sc_law.nd rfl (by first | exact Or.inl rfl | exact Or.inr rfl) (se_tup (sa_cons se_int (sa_cons (se_op s_mul (se_tup (sa_cons (se_tup (sa_cons se_int (sa_cons se_int sa_nil))) sa_nil)) se_int) (sa_cons (se_tup (sa_cons se_int (sa_cons se_int sa_nil))) sa_nil)))))
      (sss_cons (ss_set (i := 9) sc_law.nd rfl (by first | exact Or.inl rfl | exact Or.inr rfl) (se_lst (sa_cons (se_ix hu (se_def D_law_told (hr.mono (by first | decide | omega)) (by rfl) (sa_cons se_int (sa_cons (sv 8) (sa_cons (se_tup (sa_cons se_int (sa_cons (se_tup sa_nil) (sa_cons (se_tup (sa_cons se_int (sa_cons se_int sa_nil))) sa_nil)))) sa_nil)))) se_int (fun _ _ => rfl)) (sa_cons (se_ix hu (se_def D_law_told (hr.mono (by first | decide | omega)) (by rfl) (sa_cons se_int (sa_cons (sv 8) (sa_cons (se_tup (sa_cons se_int (sa_cons (se_tup (sa_cons (se_tup (sa_cons se_int (sa_cons se_int sa_nil))) sa_nil)) (sa_cons (se_tup (sa_cons se_int (sa_cons se_int sa_nil))) sa_nil)))) sa_nil)))) se_int (fun _ _ => rfl)) sa_nil))))
      (sss_cons (ss_set (i := 10) sc_law.nd rfl (by first | exact Or.inl rfl | exact Or.inr rfl) (se_tup (sa_cons se_int (sa_cons (se_op s_mul (se_tup (sa_cons (se_tup (sa_cons se_int (sa_cons se_int sa_nil))) sa_nil)) se_int) (sa_cons (se_tup (sa_cons se_int (sa_cons se_int sa_nil))) sa_nil)))))
      (sss_cons (ss_set (i := 11) sc_law.nd rfl (by first | exact Or.inl rfl | exact Or.inr rfl) (se_tup (sa_cons se_int (sa_cons (se_op s_mul (se_tup (sa_cons (se_tup (sa_cons se_int (sa_cons se_int sa_nil))) sa_nil)) se_int) (sa_cons (se_tup (sa_cons se_int (sa_cons se_int sa_nil))) sa_nil)))))
      (sss_cons (ss_set (i := 12) sc_law.nd rfl (by first | exact Or.inl rfl | exact Or.inr rfl) (se_tup (sa_cons se_int (sa_cons (se_tup sa_nil) (sa_cons (se_rngT rfl (by rfl) T.tuple_ (by rfl) T.range_ se_int) sa_nil)))))
      (sss_cons (ss_set (i := 9) sc_law.nd rfl (by first | exact Or.inl rfl | exact Or.inr rfl) (se_op s_add (sv 9) (se_lst (sa_cons (se_ix hu (se_def D_law_told (hr.mono (by first | decide | omega)) (by rfl) (sa_cons se_int (sa_cons (sv 10) (sa_cons (sv 10) sa_nil)))) se_int (fun _ _ => rfl)) (sa_cons (se_ix hu (se_def D_law_told (hr.mono (by first | decide | omega)) (by rfl) (sa_cons se_int (sa_cons (sv 10) (sa_cons (sv 11) sa_nil)))) se_int (fun _ _ => rfl)) (sa_cons (se_ix hu (se_def D_law_told (hr.mono (by first | decide | omega)) (by rfl) (sa_cons se_int (sa_cons (sv 12) (sa_cons (sv 12) sa_nil)))) se_int (fun _ _ => rfl)) sa_nil))))))
      (sss_one (ss_ret (se_cmp (s_eq hr.units) (sv 9) (se_lst (sa_cons se_str (sa_cons se_str (sa_cons se_str (sa_cons se_str (sa_cons se_str sa_nil)))))) (nomark _)))))))))))), fun pvs S Q hcl hca h => ?_⟩
  obtain ⟨ns, rfl, hl, rfl, h⟩ := h
  simp only [wSeq, wAsg, wRet, wRetN, wDrop, wIfS, wVar, wC, wOp, wCall, wCons, wNil, wTup, wTest, wAnd, wOr, wNot, wAndV, wOrV, wNotV, wIf, wNext, wgName, wgTup, wgCons, wgNil, wFor, wSq, wYes, wLcU, wLcV, wLc, uTuple, uAll, uAny, uSum, wNeg, wSl, wPart, wNoPart, rSlW_tup, isNonP, seqW_tup, wLst, wipeW, wPar, wPut, wAug, wZip, wEnum, wRng1, wRng2, wChain, List.getElem?_cons_zero, List.getElem?_cons_succ, List.set_cons_zero, List.set_cons_succ, Option.some.injEq, exists_eq_left', exists_eq_left, exists_and_left, exists_eq_right, exists_eq_right', and_assoc, true_and, and_true, List.cons.injEq, and_self, if_true, if_false, Bool.false_eq_true, PV.int.injEq, PV.bl.injEq, PV.tup.injEq, PV.ref.injEq, PV.str.injEq, Bool.false_xor, Bool.true_xor, List.length_cons, List.length_nil, Nat.reduceAdd, Nat.reduceLeDiff, Nat.reduceEqDiff, Prod.mk.injEq, cutP_map, cutP_0, cutP_1, cutP_2, cutP_all, decide_eq_true_eq, startW, endsW, List.map_cons, List.map_nil, List.cons_append, List.nil_append, List.replicate, Nat.reduceSub, rIxW_tup, rLenW_tup, rListW_tup, wMeth, wRngL, wRngT, rIsiW_eq, tyP_non, tyP_bl, tyP_int, tyP_str, tyP_tup, isi_NoneType_int, isi_NoneType_bool, isi_NoneType_str, isi_NoneType_list, isi_NoneType_tuple, isi_NoneType_dict, isi_bool_int, isi_bool_bool, isi_bool_str, isi_bool_list, isi_bool_tuple, isi_bool_dict, isi_int_int, isi_int_bool, isi_int_str, isi_int_list, isi_int_tuple, isi_int_dict, isi_str_int, isi_str_bool, isi_str_str, isi_str_list, isi_str_tuple, isi_str_dict, isi_tuple_int, isi_tuple_bool, isi_tuple_str, isi_tuple_list, isi_tuple_tuple, isi_tuple_dict, isi_list_int, isi_list_bool, isi_list_str, isi_list_list, isi_list_tuple, isi_list_dict, isi_dict_int, isi_dict_bool, isi_dict_str, isi_dict_list, isi_dict_tuple, isi_dict_dict, decide_true, decide_false, Bool.not_true, Bool.not_false, Bool.not_eq_true', decide_eq_false_iff_not, ite_not, natP, swP, natsP, intsP, atI_0, atI_1, atI_2, atI_3, wLcU2, wLcV2, wTupZip, wZipN, wStep, wRev, wMaxD, wMinD, rInW_ints, rEqW_ii, rEqW_bb, rEqW_ss, rIsW_n, rIsW_bb, rAddW_ii, rAddW_ss, rAddW_tt, rIW_ii, rI0W_ii, rMulW_ii, rMulW_ti, rIntW_i, rIntW_b, rMax2W_ii, rMin2W_ii]
  refine ⟨ns, rfl, by decide, by decide, ?_⟩
  show wLoop _ _ _ (rngP 0 4) _ _ _
  refine loop_rngF (fun _ => trivial) (fun _ τ S => L30 ns τ S) ⟨rfl, _, _, _, _, _, _, _, _, _, _, _, rfl⟩ ?_ ?_
  · rintro i τ S R hi ⟨hj, x2, x3, x4, x5, x6, x7, x8, x9, x10, x11, x12, rfl⟩ hR
    try simp only [wSeq, wAsg, wRet, wRetN, wDrop, wIfS, wVar, wC, wOp, wCall, wCons, wNil, wTup, wTest, wAnd, wOr, wNot, wAndV, wOrV, wNotV, wIf, wNext, wgName, wgTup, wgCons, wgNil, wFor, wSq, wYes, wLcU, wLcV, wLc, uTuple, uAll, uAny, uSum, wNeg, wSl, wPart, wNoPart, rSlW_tup, isNonP, seqW_tup, wLst, wipeW, wPar, wPut, wAug, wZip, wEnum, wRng1, wRng2, wChain, List.getElem?_cons_zero, List.getElem?_cons_succ, List.set_cons_zero, List.set_cons_succ, Option.some.injEq, exists_eq_left', exists_eq_left, exists_and_left, exists_eq_right, exists_eq_right', and_assoc, true_and, and_true, List.cons.injEq, and_self, if_true, if_false, Bool.false_eq_true, PV.int.injEq, PV.bl.injEq, PV.tup.injEq, PV.ref.injEq, PV.str.injEq, Bool.false_xor, Bool.true_xor, List.length_cons, List.length_nil, Nat.reduceAdd, Nat.reduceLeDiff, Nat.reduceEqDiff, Prod.mk.injEq, cutP_map, cutP_0, cutP_1, cutP_2, cutP_all, decide_eq_true_eq, startW, endsW, List.map_cons, List.map_nil, List.cons_append, List.nil_append, List.replicate, Nat.reduceSub, rIxW_tup, rLenW_tup, rListW_tup, wMeth, wRngL, wRngT, rIsiW_eq, tyP_non, tyP_bl, tyP_int, tyP_str, tyP_tup, isi_NoneType_int, isi_NoneType_bool, isi_NoneType_str, isi_NoneType_list, isi_NoneType_tuple, isi_NoneType_dict, isi_bool_int, isi_bool_bool, isi_bool_str, isi_bool_list, isi_bool_tuple, isi_bool_dict, isi_int_int, isi_int_bool, isi_int_str, isi_int_list, isi_int_tuple, isi_int_dict, isi_str_int, isi_str_bool, isi_str_str, isi_str_list, isi_str_tuple, isi_str_dict, isi_tuple_int, isi_tuple_bool, isi_tuple_str, isi_tuple_list, isi_tuple_tuple, isi_tuple_dict, isi_list_int, isi_list_bool, isi_list_str, isi_list_list, isi_list_tuple, isi_list_dict, isi_dict_int, isi_dict_bool, isi_dict_str, isi_dict_list, isi_dict_tuple, isi_dict_dict, decide_true, decide_false, Bool.not_true, Bool.not_false, Bool.not_eq_true', decide_eq_false_iff_not, ite_not, natP, swP, natsP, intsP, atI_0, atI_1, atI_2, atI_3, wLcU2, wLcV2, wTupZip, wZipN, wStep, wRev, wMaxD, wMinD, rInW_ints, rEqW_ii, rEqW_bb, rEqW_ss, rIsW_n, rIsW_bb, rAddW_ii, rAddW_ss, rAddW_tt, rIW_ii, rI0W_ii, rMulW_ii, rMulW_ti, rIntW_i, rIntW_b, rMax2W_ii, rMin2W_ii]
    rw [Int.zero_add, rIxW_lst (get_new1 _ _)]
    obtain ⟨mo, hmo, emo⟩ := pick4 (a := 6) (b := 20) (c := 100) (d := 160) hi
    refine ⟨_, emo, ?_⟩
    have hj1 : (S ++ [Ob.lst [PV.int 6, PV.int 20, PV.int 100, PV.int 160]])[0]? = some .jar := pen_at hj
    generalize S ++ [Ob.lst [PV.int 6, PV.int 20, PV.int 100, PV.int 160]] = S1 at hj1 ⊢
    try simp only [wSeq, wAsg, wRet, wRetN, wDrop, wIfS, wVar, wC, wOp, wCall, wCons, wNil, wTup, wTest, wAnd, wOr, wNot, wAndV, wOrV, wNotV, wIf, wNext, wgName, wgTup, wgCons, wgNil, wFor, wSq, wYes, wLcU, wLcV, wLc, uTuple, uAll, uAny, uSum, wNeg, wSl, wPart, wNoPart, rSlW_tup, isNonP, seqW_tup, wLst, wipeW, wPar, wPut, wAug, wZip, wEnum, wRng1, wRng2, wChain, List.getElem?_cons_zero, List.getElem?_cons_succ, List.set_cons_zero, List.set_cons_succ, Option.some.injEq, exists_eq_left', exists_eq_left, exists_and_left, exists_eq_right, exists_eq_right', and_assoc, true_and, and_true, List.cons.injEq, and_self, if_true, if_false, Bool.false_eq_true, PV.int.injEq, PV.bl.injEq, PV.tup.injEq, PV.ref.injEq, PV.str.injEq, Bool.false_xor, Bool.true_xor, List.length_cons, List.length_nil, Nat.reduceAdd, Nat.reduceLeDiff, Nat.reduceEqDiff, Prod.mk.injEq, cutP_map, cutP_0, cutP_1, cutP_2, cutP_all, decide_eq_true_eq, startW, endsW, List.map_cons, List.map_nil, List.cons_append, List.nil_append, List.replicate, Nat.reduceSub, rIxW_tup, rLenW_tup, rListW_tup, wMeth, wRngL, wRngT, rIsiW_eq, tyP_non, tyP_bl, tyP_int, tyP_str, tyP_tup, isi_NoneType_int, isi_NoneType_bool, isi_NoneType_str, isi_NoneType_list, isi_NoneType_tuple, isi_NoneType_dict, isi_bool_int, isi_bool_bool, isi_bool_str, isi_bool_list, isi_bool_tuple, isi_bool_dict, isi_int_int, isi_int_bool, isi_int_str, isi_int_list, isi_int_tuple, isi_int_dict, isi_str_int, isi_str_bool, isi_str_str, isi_str_list, isi_str_tuple, isi_str_dict, isi_tuple_int, isi_tuple_bool, isi_tuple_str, isi_tuple_list, isi_tuple_tuple, isi_tuple_dict, isi_list_int, isi_list_bool, isi_list_str, isi_list_list, isi_list_tuple, isi_list_dict, isi_dict_int, isi_dict_bool, isi_dict_str, isi_dict_list, isi_dict_tuple, isi_dict_dict, decide_true, decide_false, Bool.not_true, Bool.not_false, Bool.not_eq_true', decide_eq_false_iff_not, ite_not, natP, swP, natsP, intsP, atI_0, atI_1, atI_2, atI_3, wLcU2, wLcV2, wTupZip, wZipN, wStep, wRev, wMaxD, wMinD, rInW_ints, rEqW_ii, rEqW_bb, rEqW_ss, rIsW_n, rIsW_bb, rAddW_ii, rAddW_ss, rAddW_tt, rIW_ii, rI0W_ii, rMulW_ii, rMulW_ti, rIntW_i, rIntW_b, rMax2W_ii, rMin2W_ii]
    rw [rIxW_lst (get_new1 _ _)]
    obtain ⟨w1, hw1, ew1⟩ := pick4 (a := 8) (b := 16) (c := 8) (d := 9) hi
    refine ⟨_, ew1, 0, w1, mo, rfl, pen_at hj1, by omega, by omega, by omega, fun N okN wN lN => ?_⟩
    have hj2 : (S1 ++ [Ob.lst [PV.int 8, PV.int 16, PV.int 8, PV.int 9]])[0]? = some .jar := pen_at hj1
    generalize S1 ++ [Ob.lst [PV.int 8, PV.int 16, PV.int 8, PV.int 9]] = S2 at hj2 ⊢
    try simp only [wSeq, wAsg, wRet, wRetN, wDrop, wIfS, wVar, wC, wOp, wCall, wCons, wNil, wTup, wTest, wAnd, wOr, wNot, wAndV, wOrV, wNotV, wIf, wNext, wgName, wgTup, wgCons, wgNil, wFor, wSq, wYes, wLcU, wLcV, wLc, uTuple, uAll, uAny, uSum, wNeg, wSl, wPart, wNoPart, rSlW_tup, isNonP, seqW_tup, wLst, wipeW, wPar, wPut, wAug, wZip, wEnum, wRng1, wRng2, wChain, List.getElem?_cons_zero, List.getElem?_cons_succ, List.set_cons_zero, List.set_cons_succ, Option.some.injEq, exists_eq_left', exists_eq_left, exists_and_left, exists_eq_right, exists_eq_right', and_assoc, true_and, and_true, List.cons.injEq, and_self, if_true, if_false, Bool.false_eq_true, PV.int.injEq, PV.bl.injEq, PV.tup.injEq, PV.ref.injEq, PV.str.injEq, Bool.false_xor, Bool.true_xor, List.length_cons, List.length_nil, Nat.reduceAdd, Nat.reduceLeDiff, Nat.reduceEqDiff, Prod.mk.injEq, cutP_map, cutP_0, cutP_1, cutP_2, cutP_all, decide_eq_true_eq, startW, endsW, List.map_cons, List.map_nil, List.cons_append, List.nil_append, List.replicate, Nat.reduceSub, rIxW_tup, rLenW_tup, rListW_tup, wMeth, wRngL, wRngT, rIsiW_eq, tyP_non, tyP_bl, tyP_int, tyP_str, tyP_tup, isi_NoneType_int, isi_NoneType_bool, isi_NoneType_str, isi_NoneType_list, isi_NoneType_tuple, isi_NoneType_dict, isi_bool_int, isi_bool_bool, isi_bool_str, isi_bool_list, isi_bool_tuple, isi_bool_dict, isi_int_int, isi_int_bool, isi_int_str, isi_int_list, isi_int_tuple, isi_int_dict, isi_str_int, isi_str_bool, isi_str_str, isi_str_list, isi_str_tuple, isi_str_dict, isi_tuple_int, isi_tuple_bool, isi_tuple_str, isi_tuple_list, isi_tuple_tuple, isi_tuple_dict, isi_list_int, isi_list_bool, isi_list_str, isi_list_list, isi_list_tuple, isi_list_dict, isi_dict_int, isi_dict_bool, isi_dict_str, isi_dict_list, isi_dict_tuple, isi_dict_dict, decide_true, decide_false, Bool.not_true, Bool.not_false, Bool.not_eq_true', decide_eq_false_iff_not, ite_not, natP, swP, natsP, intsP, atI_0, atI_1, atI_2, atI_3, wLcU2, wLcV2, wTupZip, wZipN, wStep, wRev, wMaxD, wMinD, rInW_ints, rEqW_ii, rEqW_bb, rEqW_ss, rIsW_n, rIsW_bb, rAddW_ii, rAddW_ss, rAddW_tt, rIW_ii, rI0W_ii, rMulW_ii, rMulW_ti, rIntW_i, rIntW_b, rMax2W_ii, rMin2W_ii]
    rw [rIxW_lst (get_new1 _ _)]
    obtain ⟨w2, hw2, ew2⟩ := pick4 (a := 8) (b := 10) (c := 8) (d := 9) hi
    refine ⟨_, ew2, 0, w2, mo, rfl, pen_at hj2, by omega, by omega, by omega, fun O okO wO lO => ?_⟩
    have hj3 : (S2 ++ [Ob.lst [PV.int 8, PV.int 10, PV.int 8, PV.int 9]])[0]? = some .jar := pen_at hj2
    generalize S2 ++ [Ob.lst [PV.int 8, PV.int 10, PV.int 8, PV.int 9]] = S3 at hj3 ⊢
    try simp only [wSeq, wAsg, wRet, wRetN, wDrop, wIfS, wVar, wC, wOp, wCall, wCons, wNil, wTup, wTest, wAnd, wOr, wNot, wAndV, wOrV, wNotV, wIf, wNext, wgName, wgTup, wgCons, wgNil, wFor, wSq, wYes, wLcU, wLcV, wLc, uTuple, uAll, uAny, uSum, wNeg, wSl, wPart, wNoPart, rSlW_tup, isNonP, seqW_tup, wLst, wipeW, wPar, wPut, wAug, wZip, wEnum, wRng1, wRng2, wChain, List.getElem?_cons_zero, List.getElem?_cons_succ, List.set_cons_zero, List.set_cons_succ, Option.some.injEq, exists_eq_left', exists_eq_left, exists_and_left, exists_eq_right, exists_eq_right', and_assoc, true_and, and_true, List.cons.injEq, and_self, if_true, if_false, Bool.false_eq_true, PV.int.injEq, PV.bl.injEq, PV.tup.injEq, PV.ref.injEq, PV.str.injEq, Bool.false_xor, Bool.true_xor, List.length_cons, List.length_nil, Nat.reduceAdd, Nat.reduceLeDiff, Nat.reduceEqDiff, Prod.mk.injEq, cutP_map, cutP_0, cutP_1, cutP_2, cutP_all, decide_eq_true_eq, startW, endsW, List.map_cons, List.map_nil, List.cons_append, List.nil_append, List.replicate, Nat.reduceSub, rIxW_tup, rLenW_tup, rListW_tup, wMeth, wRngL, wRngT, rIsiW_eq, tyP_non, tyP_bl, tyP_int, tyP_str, tyP_tup, isi_NoneType_int, isi_NoneType_bool, isi_NoneType_str, isi_NoneType_list, isi_NoneType_tuple, isi_NoneType_dict, isi_bool_int, isi_bool_bool, isi_bool_str, isi_bool_list, isi_bool_tuple, isi_bool_dict, isi_int_int, isi_int_bool, isi_int_str, isi_int_list, isi_int_tuple, isi_int_dict, isi_str_int, isi_str_bool, isi_str_str, isi_str_list, isi_str_tuple, isi_str_dict, isi_tuple_int, isi_tuple_bool, isi_tuple_str, isi_tuple_list, isi_tuple_tuple, isi_tuple_dict, isi_list_int, isi_list_bool, isi_list_str, isi_list_list, isi_list_tuple, isi_list_dict, isi_dict_int, isi_dict_bool, isi_dict_str, isi_dict_list, isi_dict_tuple, isi_dict_dict, decide_true, decide_false, Bool.not_true, Bool.not_false, Bool.not_eq_true', decide_eq_false_iff_not, ite_not, natP, swP, natsP, intsP, atI_0, atI_1, atI_2, atI_3, wLcU2, wLcV2, wTupZip, wZipN, wStep, wRev, wMaxD, wMinD, rInW_ints, rEqW_ii, rEqW_bb, rEqW_ss, rIsW_n, rIsW_bb, rAddW_ii, rAddW_ss, rAddW_tt, rIW_ii, rI0W_ii, rMulW_ii, rMulW_ti, rIntW_i, rIntW_b, rMax2W_ii, rMin2W_ii]
    have hn := okN.w1
    have hn2 := okN.w16
    have q3 : (S3 ++ [Ob.lst [PV.tup [netP N, netP O], PV.tup [netP O, netP N]]])[S3.length]? = some (.lst ([(N, O), (O, N)].map prP)) := get_new1 _ _
    have hj4 : (S3 ++ [Ob.lst [PV.tup [netP N, netP O], PV.tup [netP O, netP N]]])[0]? = some .jar := pen_at hj3
    have pr : ∀ p ∈ [(N, O), (O, N)], Pr30 0 p := fun p hp => by
      rcases List.mem_cons.mp hp with rfl | hp
      · exact ⟨okN, okO, by dsimp only; omega, by dsimp only; omega, .inl rfl⟩
      · rw [List.mem_singleton.mp hp]; exact ⟨okO, okN, by dsimp only; omega, by dsimp only; omega, .inl rfl⟩
    refine ⟨_, _, seqW_lst q3, ?_⟩
    generalize S3.length = q at q3 ⊢
    generalize S3 ++ [Ob.lst [PV.tup [netP N, netP O], PV.tup [netP O, netP N]]] = S4 at q3 hj4 ⊢
    refine loop_inv (fun _ τ S => S = S4 ∧ ∃ x6, τ = [some (.scr ns), some (.ref 0), some (natP i), some (natP mo), some (netP N), some (netP O), x6, x7, x8, x9, x10, x11, x12]) ⟨rfl, _, rfl⟩ ?_ ?_
    · rintro j x τ S' R' hx ⟨rfl, x6, rfl⟩ hR'
      obtain ⟨p, hp, rfl⟩ := List.mem_map.mp (List.mem_of_getElem? hx)
      have pp := pr p hp
      refine ⟨seqW_lst q3, ?_⟩
      unfold prP
      simp only [wSeq, wAsg, wRet, wRetN, wDrop, wIfS, wVar, wC, wOp, wCall, wCons, wNil, wTup, wTest, wAnd, wOr, wNot, wAndV, wOrV, wNotV, wIf, wNext, wgName, wgTup, wgCons, wgNil, wFor, wSq, wYes, wLcU, wLcV, wLc, uTuple, uAll, uAny, uSum, wNeg, wSl, wPart, wNoPart, rSlW_tup, isNonP, seqW_tup, wLst, wipeW, wPar, wPut, wAug, wZip, wEnum, wRng1, wRng2, wChain, List.getElem?_cons_zero, List.getElem?_cons_succ, List.set_cons_zero, List.set_cons_succ, Option.some.injEq, exists_eq_left', exists_eq_left, exists_and_left, exists_eq_right, exists_eq_right', and_assoc, true_and, and_true, List.cons.injEq, and_self, if_true, if_false, Bool.false_eq_true, PV.int.injEq, PV.bl.injEq, PV.tup.injEq, PV.ref.injEq, PV.str.injEq, Bool.false_xor, Bool.true_xor, List.length_cons, List.length_nil, Nat.reduceAdd, Nat.reduceLeDiff, Nat.reduceEqDiff, Prod.mk.injEq, cutP_map, cutP_0, cutP_1, cutP_2, cutP_all, decide_eq_true_eq, startW, endsW, List.map_cons, List.map_nil, List.cons_append, List.nil_append, List.replicate, Nat.reduceSub, rIxW_tup, rLenW_tup, rListW_tup, wMeth, wRngL, wRngT, rIsiW_eq, tyP_non, tyP_bl, tyP_int, tyP_str, tyP_tup, isi_NoneType_int, isi_NoneType_bool, isi_NoneType_str, isi_NoneType_list, isi_NoneType_tuple, isi_NoneType_dict, isi_bool_int, isi_bool_bool, isi_bool_str, isi_bool_list, isi_bool_tuple, isi_bool_dict, isi_int_int, isi_int_bool, isi_int_str, isi_int_list, isi_int_tuple, isi_int_dict, isi_str_int, isi_str_bool, isi_str_str, isi_str_list, isi_str_tuple, isi_str_dict, isi_tuple_int, isi_tuple_bool, isi_tuple_str, isi_tuple_list, isi_tuple_tuple, isi_tuple_dict, isi_list_int, isi_list_bool, isi_list_str, isi_list_list, isi_list_tuple, isi_list_dict, isi_dict_int, isi_dict_bool, isi_dict_str, isi_dict_list, isi_dict_tuple, isi_dict_dict, decide_true, decide_false, Bool.not_true, Bool.not_false, Bool.not_eq_true', decide_eq_false_iff_not, ite_not, natP, swP, natsP, intsP, atI_0, atI_1, atI_2, atI_3, wLcU2, wLcV2, wTupZip, wZipN, wStep, wRev, wMaxD, wMinD, rInW_ints, rEqW_ii, rEqW_bb, rEqW_ss, rIsW_n, rIsW_bb, rAddW_ii, rAddW_ss, rAddW_tt, rIW_ii, rI0W_ii, rMulW_ii, rMulW_ti, rIntW_i, rIntW_b, rMax2W_ii, rMin2W_ii]
      refine ⟨(0, p.1, p.2), rfl, pp, (0, p.1, p.2), rfl, pp, (_, _), rfl, pp.eq, ?_⟩
      simp only [wSeq, wAsg, wRet, wRetN, wDrop, wIfS, wVar, wC, wOp, wCall, wCons, wNil, wTup, wTest, wAnd, wOr, wNot, wAndV, wOrV, wNotV, wIf, wNext, wgName, wgTup, wgCons, wgNil, wFor, wSq, wYes, wLcU, wLcV, wLc, uTuple, uAll, uAny, uSum, wNeg, wSl, wPart, wNoPart, rSlW_tup, isNonP, seqW_tup, wLst, wipeW, wPar, wPut, wAug, wZip, wEnum, wRng1, wRng2, wChain, List.getElem?_cons_zero, List.getElem?_cons_succ, List.set_cons_zero, List.set_cons_succ, Option.some.injEq, exists_eq_left', exists_eq_left, exists_and_left, exists_eq_right, exists_eq_right', and_assoc, true_and, and_true, List.cons.injEq, and_self, if_true, if_false, Bool.false_eq_true, PV.int.injEq, PV.bl.injEq, PV.tup.injEq, PV.ref.injEq, PV.str.injEq, Bool.false_xor, Bool.true_xor, List.length_cons, List.length_nil, Nat.reduceAdd, Nat.reduceLeDiff, Nat.reduceEqDiff, Prod.mk.injEq, cutP_map, cutP_0, cutP_1, cutP_2, cutP_all, decide_eq_true_eq, startW, endsW, List.map_cons, List.map_nil, List.cons_append, List.nil_append, List.replicate, Nat.reduceSub, rIxW_tup, rLenW_tup, rListW_tup, wMeth, wRngL, wRngT, rIsiW_eq, tyP_non, tyP_bl, tyP_int, tyP_str, tyP_tup, isi_NoneType_int, isi_NoneType_bool, isi_NoneType_str, isi_NoneType_list, isi_NoneType_tuple, isi_NoneType_dict, isi_bool_int, isi_bool_bool, isi_bool_str, isi_bool_list, isi_bool_tuple, isi_bool_dict, isi_int_int, isi_int_bool, isi_int_str, isi_int_list, isi_int_tuple, isi_int_dict, isi_str_int, isi_str_bool, isi_str_str, isi_str_list, isi_str_tuple, isi_str_dict, isi_tuple_int, isi_tuple_bool, isi_tuple_str, isi_tuple_list, isi_tuple_tuple, isi_tuple_dict, isi_list_int, isi_list_bool, isi_list_str, isi_list_list, isi_list_tuple, isi_list_dict, isi_dict_int, isi_dict_bool, isi_dict_str, isi_dict_list, isi_dict_tuple, isi_dict_dict, decide_true, decide_false, Bool.not_true, Bool.not_false, Bool.not_eq_true', decide_eq_false_iff_not, ite_not, natP, swP, natsP, intsP, atI_0, atI_1, atI_2, atI_3, wLcU2, wLcV2, wTupZip, wZipN, wStep, wRev, wMaxD, wMinD, rInW_ints, rEqW_ii, rEqW_bb, rEqW_ss, rIsW_n, rIsW_bb, rAddW_ii, rAddW_ss, rAddW_tt, rIW_ii, rI0W_ii, rMulW_ii, rMulW_ti, rIntW_i, rIntW_b, rMax2W_ii, rMin2W_ii]
      exact hR' _ _ ⟨rfl, _, rfl⟩
    · rintro τ S' ⟨rfl, x6, rfl⟩
      refine ⟨seqW_lst q3, ?_⟩
      simp only [wSeq, wAsg, wRet, wRetN, wDrop, wIfS, wVar, wC, wOp, wCall, wCons, wNil, wTup, wTest, wAnd, wOr, wNot, wAndV, wOrV, wNotV, wIf, wNext, wgName, wgTup, wgCons, wgNil, wFor, wSq, wYes, wLcU, wLcV, wLc, uTuple, uAll, uAny, uSum, wNeg, wSl, wPart, wNoPart, rSlW_tup, isNonP, seqW_tup, wLst, wipeW, wPar, wPut, wAug, wZip, wEnum, wRng1, wRng2, wChain, List.getElem?_cons_zero, List.getElem?_cons_succ, List.set_cons_zero, List.set_cons_succ, Option.some.injEq, exists_eq_left', exists_eq_left, exists_and_left, exists_eq_right, exists_eq_right', and_assoc, true_and, and_true, List.cons.injEq, and_self, if_true, if_false, Bool.false_eq_true, PV.int.injEq, PV.bl.injEq, PV.tup.injEq, PV.ref.injEq, PV.str.injEq, Bool.false_xor, Bool.true_xor, List.length_cons, List.length_nil, Nat.reduceAdd, Nat.reduceLeDiff, Nat.reduceEqDiff, Prod.mk.injEq, cutP_map, cutP_0, cutP_1, cutP_2, cutP_all, decide_eq_true_eq, startW, endsW, List.map_cons, List.map_nil, List.cons_append, List.nil_append, List.replicate, Nat.reduceSub, rIxW_tup, rLenW_tup, rListW_tup, wMeth, wRngL, wRngT, rIsiW_eq, tyP_non, tyP_bl, tyP_int, tyP_str, tyP_tup, isi_NoneType_int, isi_NoneType_bool, isi_NoneType_str, isi_NoneType_list, isi_NoneType_tuple, isi_NoneType_dict, isi_bool_int, isi_bool_bool, isi_bool_str, isi_bool_list, isi_bool_tuple, isi_bool_dict, isi_int_int, isi_int_bool, isi_int_str, isi_int_list, isi_int_tuple, isi_int_dict, isi_str_int, isi_str_bool, isi_str_str, isi_str_list, isi_str_tuple, isi_str_dict, isi_tuple_int, isi_tuple_bool, isi_tuple_str, isi_tuple_list, isi_tuple_tuple, isi_tuple_dict, isi_list_int, isi_list_bool, isi_list_str, isi_list_list, isi_list_tuple, isi_list_dict, isi_dict_int, isi_dict_bool, isi_dict_str, isi_dict_list, isi_dict_tuple, isi_dict_dict, decide_true, decide_false, Bool.not_true, Bool.not_false, Bool.not_eq_true', decide_eq_false_iff_not, ite_not, natP, swP, natsP, intsP, atI_0, atI_1, atI_2, atI_3, wLcU2, wLcV2, wTupZip, wZipN, wStep, wRev, wMaxD, wMinD, rInW_ints, rEqW_ii, rEqW_bb, rEqW_ss, rIsW_n, rIsW_bb, rAddW_ii, rAddW_ss, rAddW_tt, rIW_ii, rI0W_ii, rMulW_ii, rMulW_ti, rIntW_i, rIntW_b, rMax2W_ii, rMin2W_ii, hy0]
      refine ⟨(0, N.w, mo), rfl, ⟨hj4, hn, hn2, by dsimp only; omega⟩, fun L okL wL lL => ?_⟩
      dsimp only at wL lL
      simp only [wSeq, wAsg, wRet, wRetN, wDrop, wIfS, wVar, wC, wOp, wCall, wCons, wNil, wTup, wTest, wAnd, wOr, wNot, wAndV, wOrV, wNotV, wIf, wNext, wgName, wgTup, wgCons, wgNil, wFor, wSq, wYes, wLcU, wLcV, wLc, uTuple, uAll, uAny, uSum, wNeg, wSl, wPart, wNoPart, rSlW_tup, isNonP, seqW_tup, wLst, wipeW, wPar, wPut, wAug, wZip, wEnum, wRng1, wRng2, wChain, List.getElem?_cons_zero, List.getElem?_cons_succ, List.set_cons_zero, List.set_cons_succ, Option.some.injEq, exists_eq_left', exists_eq_left, exists_and_left, exists_eq_right, exists_eq_right', and_assoc, true_and, and_true, List.cons.injEq, and_self, if_true, if_false, Bool.false_eq_true, PV.int.injEq, PV.bl.injEq, PV.tup.injEq, PV.ref.injEq, PV.str.injEq, Bool.false_xor, Bool.true_xor, List.length_cons, List.length_nil, Nat.reduceAdd, Nat.reduceLeDiff, Nat.reduceEqDiff, Prod.mk.injEq, cutP_map, cutP_0, cutP_1, cutP_2, cutP_all, decide_eq_true_eq, startW, endsW, List.map_cons, List.map_nil, List.cons_append, List.nil_append, List.replicate, Nat.reduceSub, rIxW_tup, rLenW_tup, rListW_tup, wMeth, wRngL, wRngT, rIsiW_eq, tyP_non, tyP_bl, tyP_int, tyP_str, tyP_tup, isi_NoneType_int, isi_NoneType_bool, isi_NoneType_str, isi_NoneType_list, isi_NoneType_tuple, isi_NoneType_dict, isi_bool_int, isi_bool_bool, isi_bool_str, isi_bool_list, isi_bool_tuple, isi_bool_dict, isi_int_int, isi_int_bool, isi_int_str, isi_int_list, isi_int_tuple, isi_int_dict, isi_str_int, isi_str_bool, isi_str_str, isi_str_list, isi_str_tuple, isi_str_dict, isi_tuple_int, isi_tuple_bool, isi_tuple_str, isi_tuple_list, isi_tuple_tuple, isi_tuple_dict, isi_list_int, isi_list_bool, isi_list_str, isi_list_list, isi_list_tuple, isi_list_dict, isi_dict_int, isi_dict_bool, isi_dict_str, isi_dict_list, isi_dict_tuple, isi_dict_dict, decide_true, decide_false, Bool.not_true, Bool.not_false, Bool.not_eq_true', decide_eq_false_iff_not, ite_not, natP, swP, natsP, intsP, atI_0, atI_1, atI_2, atI_3, wLcU2, wLcV2, wTupZip, wZipN, wStep, wRev, wMaxD, wMinD, rInW_ints, rEqW_ii, rEqW_bb, rEqW_ss, rIsW_n, rIsW_bb, rAddW_ii, rAddW_ss, rAddW_tt, rIW_ii, rI0W_ii, rMulW_ii, rMulW_ti, rIntW_i, rIntW_b, rMax2W_ii, rMin2W_ii]
      have q5 : (S' ++ [Ob.lst [PV.tup [netP N, netP L], PV.tup [netP L, netP N], PV.tup [netP N, netP N]]])[S'.length]? = some (.lst ([(N, L), (L, N), (N, N)].map prP)) := get_new1 _ _
      have hj5 : (S' ++ [Ob.lst [PV.tup [netP N, netP L], PV.tup [netP L, netP N], PV.tup [netP N, netP N]]])[0]? = some .jar := pen_at hj4
      have pr5 : ∀ p ∈ [(N, L), (L, N), (N, N)], Pr30 1 p := fun p hp => by
        rcases List.mem_cons.mp hp with rfl | hp
        · exact ⟨okN, okL, by dsimp only; omega, by dsimp only; omega, .inr wL⟩
        rcases List.mem_cons.mp hp with rfl | hp
        · exact ⟨okL, okN, by dsimp only; omega, by dsimp only; omega, .inr wL.symm⟩
        · rw [List.mem_singleton.mp hp]; exact ⟨okN, okN, by dsimp only; omega, by dsimp only; omega, .inr rfl⟩
      refine ⟨_, _, seqW_lst q5, ?_⟩
      generalize S'.length = q' at q5 ⊢
      generalize S' ++ [Ob.lst [PV.tup [netP N, netP L], PV.tup [netP L, netP N], PV.tup [netP N, netP N]]] = S5 at q5 hj5 ⊢
      refine loop_inv (fun _ τ S => S = S5 ∧ ∃ x6, τ = [some (.scr ns), some (.ref 0), some (natP i), some (natP mo), some (netP N), some (netP O), x6, some (netP L), x8, x9, x10, x11, x12]) ⟨rfl, _, rfl⟩ ?_ ?_
      · rintro j x τ S' R' hx ⟨rfl, x6, rfl⟩ hR'
        obtain ⟨p, hp, rfl⟩ := List.mem_map.mp (List.mem_of_getElem? hx)
        have pp := pr5 p hp
        refine ⟨seqW_lst q5, ?_⟩
        unfold prP
        simp only [wSeq, wAsg, wRet, wRetN, wDrop, wIfS, wVar, wC, wOp, wCall, wCons, wNil, wTup, wTest, wAnd, wOr, wNot, wAndV, wOrV, wNotV, wIf, wNext, wgName, wgTup, wgCons, wgNil, wFor, wSq, wYes, wLcU, wLcV, wLc, uTuple, uAll, uAny, uSum, wNeg, wSl, wPart, wNoPart, rSlW_tup, isNonP, seqW_tup, wLst, wipeW, wPar, wPut, wAug, wZip, wEnum, wRng1, wRng2, wChain, List.getElem?_cons_zero, List.getElem?_cons_succ, List.set_cons_zero, List.set_cons_succ, Option.some.injEq, exists_eq_left', exists_eq_left, exists_and_left, exists_eq_right, exists_eq_right', and_assoc, true_and, and_true, List.cons.injEq, and_self, if_true, if_false, Bool.false_eq_true, PV.int.injEq, PV.bl.injEq, PV.tup.injEq, PV.ref.injEq, PV.str.injEq, Bool.false_xor, Bool.true_xor, List.length_cons, List.length_nil, Nat.reduceAdd, Nat.reduceLeDiff, Nat.reduceEqDiff, Prod.mk.injEq, cutP_map, cutP_0, cutP_1, cutP_2, cutP_all, decide_eq_true_eq, startW, endsW, List.map_cons, List.map_nil, List.cons_append, List.nil_append, List.replicate, Nat.reduceSub, rIxW_tup, rLenW_tup, rListW_tup, wMeth, wRngL, wRngT, rIsiW_eq, tyP_non, tyP_bl, tyP_int, tyP_str, tyP_tup, isi_NoneType_int, isi_NoneType_bool, isi_NoneType_str, isi_NoneType_list, isi_NoneType_tuple, isi_NoneType_dict, isi_bool_int, isi_bool_bool, isi_bool_str, isi_bool_list, isi_bool_tuple, isi_bool_dict, isi_int_int, isi_int_bool, isi_int_str, isi_int_list, isi_int_tuple, isi_int_dict, isi_str_int, isi_str_bool, isi_str_str, isi_str_list, isi_str_tuple, isi_str_dict, isi_tuple_int, isi_tuple_bool, isi_tuple_str, isi_tuple_list, isi_tuple_tuple, isi_tuple_dict, isi_list_int, isi_list_bool, isi_list_str, isi_list_list, isi_list_tuple, isi_list_dict, isi_dict_int, isi_dict_bool, isi_dict_str, isi_dict_list, isi_dict_tuple, isi_dict_dict, decide_true, decide_false, Bool.not_true, Bool.not_false, Bool.not_eq_true', decide_eq_false_iff_not, ite_not, natP, swP, natsP, intsP, atI_0, atI_1, atI_2, atI_3, wLcU2, wLcV2, wTupZip, wZipN, wStep, wRev, wMaxD, wMinD, rInW_ints, rEqW_ii, rEqW_bb, rEqW_ss, rIsW_n, rIsW_bb, rAddW_ii, rAddW_ss, rAddW_tt, rIW_ii, rI0W_ii, rMulW_ii, rMulW_ti, rIntW_i, rIntW_b, rMax2W_ii, rMin2W_ii]
        refine ⟨(1, p.1, p.2), rfl, pp, (1, p.1, p.2), rfl, pp, (_, _), rfl, pp.eq, ?_⟩
        simp only [wSeq, wAsg, wRet, wRetN, wDrop, wIfS, wVar, wC, wOp, wCall, wCons, wNil, wTup, wTest, wAnd, wOr, wNot, wAndV, wOrV, wNotV, wIf, wNext, wgName, wgTup, wgCons, wgNil, wFor, wSq, wYes, wLcU, wLcV, wLc, uTuple, uAll, uAny, uSum, wNeg, wSl, wPart, wNoPart, rSlW_tup, isNonP, seqW_tup, wLst, wipeW, wPar, wPut, wAug, wZip, wEnum, wRng1, wRng2, wChain, List.getElem?_cons_zero, List.getElem?_cons_succ, List.set_cons_zero, List.set_cons_succ, Option.some.injEq, exists_eq_left', exists_eq_left, exists_and_left, exists_eq_right, exists_eq_right', and_assoc, true_and, and_true, List.cons.injEq, and_self, if_true, if_false, Bool.false_eq_true, PV.int.injEq, PV.bl.injEq, PV.tup.injEq, PV.ref.injEq, PV.str.injEq, Bool.false_xor, Bool.true_xor, List.length_cons, List.length_nil, Nat.reduceAdd, Nat.reduceLeDiff, Nat.reduceEqDiff, Prod.mk.injEq, cutP_map, cutP_0, cutP_1, cutP_2, cutP_all, decide_eq_true_eq, startW, endsW, List.map_cons, List.map_nil, List.cons_append, List.nil_append, List.replicate, Nat.reduceSub, rIxW_tup, rLenW_tup, rListW_tup, wMeth, wRngL, wRngT, rIsiW_eq, tyP_non, tyP_bl, tyP_int, tyP_str, tyP_tup, isi_NoneType_int, isi_NoneType_bool, isi_NoneType_str, isi_NoneType_list, isi_NoneType_tuple, isi_NoneType_dict, isi_bool_int, isi_bool_bool, isi_bool_str, isi_bool_list, isi_bool_tuple, isi_bool_dict, isi_int_int, isi_int_bool, isi_int_str, isi_int_list, isi_int_tuple, isi_int_dict, isi_str_int, isi_str_bool, isi_str_str, isi_str_list, isi_str_tuple, isi_str_dict, isi_tuple_int, isi_tuple_bool, isi_tuple_str, isi_tuple_list, isi_tuple_tuple, isi_tuple_dict, isi_list_int, isi_list_bool, isi_list_str, isi_list_list, isi_list_tuple, isi_list_dict, isi_dict_int, isi_dict_bool, isi_dict_str, isi_dict_list, isi_dict_tuple, isi_dict_dict, decide_true, decide_false, Bool.not_true, Bool.not_false, Bool.not_eq_true', decide_eq_false_iff_not, ite_not, natP, swP, natsP, intsP, atI_0, atI_1, atI_2, atI_3, wLcU2, wLcV2, wTupZip, wZipN, wStep, wRev, wMaxD, wMinD, rInW_ints, rEqW_ii, rEqW_bb, rEqW_ss, rIsW_n, rIsW_bb, rAddW_ii, rAddW_ss, rAddW_tt, rIW_ii, rI0W_ii, rMulW_ii, rMulW_ti, rIntW_i, rIntW_b, rMax2W_ii, rMin2W_ii]
        exact hR' _ _ ⟨rfl, _, rfl⟩
      · rintro τ S' ⟨rfl, x6, rfl⟩
        refine ⟨seqW_lst q5, ?_⟩
        simp only [wSeq, wAsg, wRet, wRetN, wDrop, wIfS, wVar, wC, wOp, wCall, wCons, wNil, wTup, wTest, wAnd, wOr, wNot, wAndV, wOrV, wNotV, wIf, wNext, wgName, wgTup, wgCons, wgNil, wFor, wSq, wYes, wLcU, wLcV, wLc, uTuple, uAll, uAny, uSum, wNeg, wSl, wPart, wNoPart, rSlW_tup, isNonP, seqW_tup, wLst, wipeW, wPar, wPut, wAug, wZip, wEnum, wRng1, wRng2, wChain, List.getElem?_cons_zero, List.getElem?_cons_succ, List.set_cons_zero, List.set_cons_succ, Option.some.injEq, exists_eq_left', exists_eq_left, exists_and_left, exists_eq_right, exists_eq_right', and_assoc, true_and, and_true, List.cons.injEq, and_self, if_true, if_false, Bool.false_eq_true, PV.int.injEq, PV.bl.injEq, PV.tup.injEq, PV.ref.injEq, PV.str.injEq, Bool.false_xor, Bool.true_xor, List.length_cons, List.length_nil, Nat.reduceAdd, Nat.reduceLeDiff, Nat.reduceEqDiff, Prod.mk.injEq, cutP_map, cutP_0, cutP_1, cutP_2, cutP_all, decide_eq_true_eq, startW, endsW, List.map_cons, List.map_nil, List.cons_append, List.nil_append, List.replicate, Nat.reduceSub, rIxW_tup, rLenW_tup, rListW_tup, wMeth, wRngL, wRngT, rIsiW_eq, tyP_non, tyP_bl, tyP_int, tyP_str, tyP_tup, isi_NoneType_int, isi_NoneType_bool, isi_NoneType_str, isi_NoneType_list, isi_NoneType_tuple, isi_NoneType_dict, isi_bool_int, isi_bool_bool, isi_bool_str, isi_bool_list, isi_bool_tuple, isi_bool_dict, isi_int_int, isi_int_bool, isi_int_str, isi_int_list, isi_int_tuple, isi_int_dict, isi_str_int, isi_str_bool, isi_str_str, isi_str_list, isi_str_tuple, isi_str_dict, isi_tuple_int, isi_tuple_bool, isi_tuple_str, isi_tuple_list, isi_tuple_tuple, isi_tuple_dict, isi_list_int, isi_list_bool, isi_list_str, isi_list_list, isi_list_tuple, isi_list_dict, isi_dict_int, isi_dict_bool, isi_dict_str, isi_dict_list, isi_dict_tuple, isi_dict_dict, decide_true, decide_false, Bool.not_true, Bool.not_false, Bool.not_eq_true', decide_eq_false_iff_not, ite_not, natP, swP, natsP, intsP, atI_0, atI_1, atI_2, atI_3, wLcU2, wLcV2, wTupZip, wZipN, wStep, wRev, wMaxD, wMinD, rInW_ints, rEqW_ii, rEqW_bb, rEqW_ss, rIsW_n, rIsW_bb, rAddW_ii, rAddW_ss, rAddW_tt, rIW_ii, rI0W_ii, rMulW_ii, rMulW_ti, rIntW_i, rIntW_b, rMax2W_ii, rMin2W_ii]
        exact hR _ _ ⟨hj5, _, _, _, _, _, _, _, _, _, _, _, rfl⟩
  · rintro τ S ⟨hj, x2, x3, x4, x5, x6, x7, x8, x9, x10, x11, x12, rfl⟩
    simp only [wSeq, wAsg, wRet, wRetN, wDrop, wIfS, wVar, wC, wOp, wCall, wCons, wNil, wTup, wTest, wAnd, wOr, wNot, wAndV, wOrV, wNotV, wIf, wNext, wgName, wgTup, wgCons, wgNil, wFor, wSq, wYes, wLcU, wLcV, wLc, uTuple, uAll, uAny, uSum, wNeg, wSl, wPart, wNoPart, rSlW_tup, isNonP, seqW_tup, wLst, wipeW, wPar, wPut, wAug, wZip, wEnum, wRng1, wRng2, wChain, List.getElem?_cons_zero, List.getElem?_cons_succ, List.set_cons_zero, List.set_cons_succ, Option.some.injEq, exists_eq_left', exists_eq_left, exists_and_left, exists_eq_right, exists_eq_right', and_assoc, true_and, and_true, List.cons.injEq, and_self, if_true, if_false, Bool.false_eq_true, PV.int.injEq, PV.bl.injEq, PV.tup.injEq, PV.ref.injEq, PV.str.injEq, Bool.false_xor, Bool.true_xor, List.length_cons, List.length_nil, Nat.reduceAdd, Nat.reduceLeDiff, Nat.reduceEqDiff, Prod.mk.injEq, cutP_map, cutP_0, cutP_1, cutP_2, cutP_all, decide_eq_true_eq, startW, endsW, List.map_cons, List.map_nil, List.cons_append, List.nil_append, List.replicate, Nat.reduceSub, rIxW_tup, rLenW_tup, rListW_tup, wMeth, wRngL, wRngT, rIsiW_eq, tyP_non, tyP_bl, tyP_int, tyP_str, tyP_tup, isi_NoneType_int, isi_NoneType_bool, isi_NoneType_str, isi_NoneType_list, isi_NoneType_tuple, isi_NoneType_dict, isi_bool_int, isi_bool_bool, isi_bool_str, isi_bool_list, isi_bool_tuple, isi_bool_dict, isi_int_int, isi_int_bool, isi_int_str, isi_int_list, isi_int_tuple, isi_int_dict, isi_str_int, isi_str_bool, isi_str_str, isi_str_list, isi_str_tuple, isi_str_dict, isi_tuple_int, isi_tuple_bool, isi_tuple_str, isi_tuple_list, isi_tuple_tuple, isi_tuple_dict, isi_list_int, isi_list_bool, isi_list_str, isi_list_list, isi_list_tuple, isi_list_dict, isi_dict_int, isi_dict_bool, isi_dict_str, isi_dict_list, isi_dict_tuple, isi_dict_dict, decide_true, decide_false, Bool.not_true, Bool.not_false, Bool.not_eq_true', decide_eq_false_iff_not, ite_not, natP, swP, natsP, intsP, atI_0, atI_1, atI_2, atI_3, wLcU2, wLcV2, wTupZip, wZipN, wStep, wRev, wMaxD, wMinD, rInW_ints, rEqW_ii, rEqW_bb, rEqW_ss, rIsW_n, rIsW_bb, rAddW_ii, rAddW_ss, rAddW_tt, rIW_ii, rI0W_ii, rMulW_ii, rMulW_ti, rIntW_i, rIntW_b, rMax2W_ii, rMin2W_ii, wRngT]
    have e160 : PV.tup [PV.int 2, PV.tup (List.replicate (Int.toNat 160) [PV.tup [PV.int 0, PV.int 1]]).flatten, PV.tup [PV.int 0, PV.int 1]] = netP (nt2 160 (0, 1) [0, 1]) := nt2P (n := 160) (a := 0) (b := 1) (c := 0) (d := 1)
    have e0 : PV.tup [PV.int 2, PV.tup [], PV.tup [PV.int 1, PV.int 0]] = netP (nt2 0 (0, 1) [1, 0]) := rfl
    have e1 : PV.tup [PV.int 2, PV.tup [PV.tup [PV.int 0, PV.int 1]], PV.tup [PV.int 1, PV.int 0]] = netP (nt2 1 (0, 1) [1, 0]) := rfl
    have e80 : PV.tup [PV.int 2, PV.tup (List.replicate (Int.toNat 80) [PV.tup [PV.int 0, PV.int 1]]).flatten, PV.tup [PV.int 1, PV.int 0]] = netP (nt2 80 (0, 1) [1, 0]) := nt2P (n := 80) (a := 0) (b := 1) (c := 1) (d := 0)
    have e81 : PV.tup [PV.int 2, PV.tup (List.replicate (Int.toNat 81) [PV.tup [PV.int 1, PV.int 0]]).flatten, PV.tup [PV.int 0, PV.int 1]] = netP (nt2 81 (1, 0) [0, 1]) := nt2P (n := 81) (a := 1) (b := 0) (c := 0) (d := 1)
    rw [e160, e0, e1, e80, e81]
    have o1 : ∀ n, (nt2 n (0, 1) [0, 1]).Ok := fun n => nt2_ok (.inl rfl) (.inl rfl)
    have o2 : ∀ n, (nt2 n (0, 1) [1, 0]).Ok := fun n => nt2_ok (.inl rfl) (.inr rfl)
    have o3 : ∀ n, (nt2 n (1, 0) [0, 1]).Ok := fun n => nt2_ok (.inr rfl) (.inl rfl)
    have ln : ∀ n s o, (nt2 n s o).sw.length = n := fun n s o => List.length_replicate
    have le : ∀ n s o, n ≤ 160 → (nt2 n s o).sw.length ≤ 160 := fun n s o h => by rw [ln]; exact h
    refine ⟨by decide, by decide, by decide, (1, nt2 160 (0, 1) [0, 1], nt2 0 (0, 1) [1, 0]), rfl, ⟨o1 _, o2 _, le _ _ _ (by decide), le _ _ _ (by decide), .inr rfl⟩, ?_⟩
    dsimp only
    rw [told_ix]
    refine ⟨(1, nt2 160 (0, 1) [0, 1], nt2 1 (0, 1) [1, 0]), rfl, ⟨o1 _, o2 _, le _ _ _ (by decide), le _ _ _ (by decide), .inr rfl⟩, ?_⟩
    dsimp only
    rw [told_ix]
    refine ⟨by decide, by decide, by decide, by decide, by decide, by decide, by decide, by decide, (0, nt2 80 (0, 1) [1, 0], nt2 80 (0, 1) [1, 0]), rfl, ⟨o2 _, o2 _, le _ _ _ (by decide), le _ _ _ (by decide), .inl rfl⟩, ?_⟩
    dsimp only
    rw [told_ix]
    refine ⟨(0, nt2 80 (0, 1) [1, 0], nt2 81 (1, 0) [0, 1]), rfl, ⟨o2 _, o3 _, le _ _ _ (by decide), le _ _ _ (by decide), .inl rfl⟩, ?_⟩
    dsimp only
    rw [told_ix]
    refine ⟨(0, wd8, wd8), rfl, ⟨wd8_ok, wd8_ok, Nat.zero_le _, Nat.zero_le _, .inl rfl⟩, ?_⟩
    dsimp only
    rw [told_ix]
    have a1 : (putX 1 (nt2 160 (0, 1) [0, 1]) (nt2 0 (0, 1) [1, 0])).isSome = true := by decide +kernel
    have a2 : (putX 1 (nt2 160 (0, 1) [0, 1]) (nt2 1 (0, 1) [1, 0])).isSome = false := by decide +kernel
    have a3 : (putX 0 (nt2 80 (0, 1) [1, 0]) (nt2 80 (0, 1) [1, 0])).isSome = true := by decide +kernel
    have a4 : (putX 0 (nt2 80 (0, 1) [1, 0]) (nt2 81 (1, 0) [0, 1])).isSome = false := by decide +kernel
    have a5 : (putX 0 wd8 wd8).isSome = true := by decide +kernel
    rw [a1, a2, a3, a4, a5, if_pos rfl, if_neg (by decide)]
    rw [rAddW_ll (pen_at (get_new1 _ _)) (get_new1 _ _)]
    refine ⟨by decide, ?_⟩
    refine eqW_same (n := 1) (d := .list [.str "told", .str "refused", .str "told", .str "refused", .str "told"]) (.lst (pen_at (get_new1 _ _)) ?_) (.lst (get_new1 _ _) ?_) (.lst (n := 0) fun d hd => ?_) (fg_here (h _))
    · exact .cons (.str _) (.cons (.str _) (.cons (.str _) (.cons (.str _) (.cons (.str _) .nil))))
    · exact .cons (.str _) (.cons (.str _) (.cons (.str _) (.cons (.str _) (.cons (.str _) .nil))))
    · simp only [List.mem_cons, List.not_mem_nil, or_false] at hd
      rcases hd with rfl | rfl | rfl | rfl | rfl <;> exact .str (by decide +kernel)
end
end L4
set_option Elab.async false
set_option linter.all false
set_option maxRecDepth 100000
namespace L4
open PySem PySem.Spec PyProof.Rows L2 L3
set_option maxHeartbeats 0 in
theorem all_mk {l : PySem.W.OpenLaw} {q : Program} {w : World} {K : PySem.W.Frag} {h : Heap} {mg : Str → Option Value} {fa : Addr} {f0 f1 f2 f3 f4 f5 f6 f7 f8 f9 f10 f11 f12 f13 f14 : Addr} (X : K.In h) (G : h.Ns mainGlobals mg) (hfa : mg "law" = some (.ref fa))
    (tabs : ∀ d ∈ recsOf q, ∃ a o fd c P, mg d.name = some (.ref a) ∧ h.get? a = some o ∧ o.data = .func fd ∧ fd.code = .ref c ∧ h.IsCode c P #[] ∧ h.TableAt c P #[])
    {od0 an0 od1 an1 od2 an2 od3 an3 od4 an4 od5 an5 od6 an6 od7 an7 od8 an8 od9 an9 od10 an10 od11 an11 od12 an12 od13 an13 od14 an14 : Option Addr} {sl0 sl1 sl2 sl3 sl4 sl5 sl6 sl7 sl8 sl9 sl10 sl11 sl12 sl13 sl14 : Array (Option Value)} {oc0 kV0 dc0 pm0 cd0 ct0 oc1 kV1 dc1 pm1 cd1 ct1 oc2 kV2 dc2 pm2 cd2 ct2 oc3 kV3 dc3 pm3 cd3 ct3 oc4 kV4 dc4 pm4 cd4 ct4 oc5 kV5 dc5 pm5 cd5 ct5 oc6 kV6 dc6 pm6 cd6 ct6 oc7 kV7 dc7 pm7 cd7 ct7 oc8 kV8 dc8 pm8 cd8 ct8 oc9 kV9 dc9 pm9 cd9 ct9 oc10 kV10 dc10 pm10 cd10 ct10 oc11 kV11 dc11 pm11 cd11 ct11 oc12 kV12 dc12 pm12 cd12 ct12 oc13 kV13 dc13 pm13 cd13 ct13 oc14 kV14 dc14 pm14 cd14 ct14 : Value}
    (a0 : PySem.W.nsIn K mainGlobals "fitting" = some (some (.ref f0))) (l0 : K.lookup f0 = some ⟨oc0, od0, .func (PySem.W.fnOf "fitting" "fitting" (defArgs s_fitting) (defBody s_fitting) (defScope s_fitting) .none kV0 dc0 pm0 an0 cd0 ct0), sl0⟩) (c0 : PySem.W.codeIn K cd0 "fitting" = true) (k0 : PySem.W.keepIn K (.ref f0) = true)
    (a1 : PySem.W.nsIn K mainGlobals "named" = some (some (.ref f1))) (l1 : K.lookup f1 = some ⟨oc1, od1, .func (PySem.W.fnOf "named" "named" (defArgs s_named) (defBody s_named) (defScope s_named) .none kV1 dc1 pm1 an1 cd1 ct1), sl1⟩) (c1 : PySem.W.codeIn K cd1 "named" = true) (k1 : PySem.W.keepIn K (.ref f1) = true)
    (a2 : PySem.W.nsIn K mainGlobals "beside" = some (some (.ref f2))) (l2 : K.lookup f2 = some ⟨oc2, od2, .func (PySem.W.fnOf "beside" "beside" (defArgs s_beside) (defBody s_beside) (defScope s_beside) .none kV2 dc2 pm2 an2 cd2 ct2), sl2⟩) (c2 : PySem.W.codeIn K cd2 "beside" = true) (k2 : PySem.W.keepIn K (.ref f2) = true)
    (a3 : PySem.W.nsIn K mainGlobals "behind" = some (some (.ref f3))) (l3 : K.lookup f3 = some ⟨oc3, od3, .func (PySem.W.fnOf "behind" "behind" (defArgs s_behind) (defBody s_behind) (defScope s_behind) .none kV3 dc3 pm3 an3 cd3 ct3), sl3⟩) (c3 : PySem.W.codeIn K cd3 "behind" = true) (k3 : PySem.W.keepIn K (.ref f3) = true)
    (a4 : PySem.W.nsIn K mainGlobals "_law_mix" = some (some (.ref f4))) (l4 : K.lookup f4 = some ⟨oc4, od4, .func (PySem.W.fnOf "_law_mix" "_law_mix" (defArgs s_law_mix) (defBody s_law_mix) (defScope s_law_mix) .none kV4 dc4 pm4 an4 cd4 ct4), sl4⟩) (c4 : PySem.W.codeIn K cd4 "_law_mix" = true) (k4 : PySem.W.keepIn K (.ref f4) = true)
    (a5 : PySem.W.nsIn K mainGlobals "_law_jar" = some (some (.ref f5))) (l5 : K.lookup f5 = some ⟨oc5, od5, .func (PySem.W.fnOf "_law_jar" "_law_jar" (defArgs s_law_jar) (defBody s_law_jar) (defScope s_law_jar) .none kV5 dc5 pm5 an5 cd5 ct5), sl5⟩) (c5 : PySem.W.codeIn K cd5 "_law_jar" = true) (k5 : PySem.W.keepIn K (.ref f5) = true)
    (a6 : PySem.W.nsIn K mainGlobals "_law_pick" = some (some (.ref f6))) (l6 : K.lookup f6 = some ⟨oc6, od6, .func (PySem.W.fnOf "_law_pick" "_law_pick" (defArgs s_law_pick) (defBody s_law_pick) (defScope s_law_pick) .none kV6 dc6 pm6 an6 cd6 ct6), sl6⟩) (c6 : PySem.W.codeIn K cd6 "_law_pick" = true) (k6 : PySem.W.keepIn K (.ref f6) = true)
    (a7 : PySem.W.nsIn K mainGlobals "_law_order" = some (some (.ref f7))) (l7 : K.lookup f7 = some ⟨oc7, od7, .func (PySem.W.fnOf "_law_order" "_law_order" (defArgs s_law_order) (defBody s_law_order) (defScope s_law_order) .none kV7 dc7 pm7 an7 cd7 ct7), sl7⟩) (c7 : PySem.W.codeIn K cd7 "_law_order" = true) (k7 : PySem.W.keepIn K (.ref f7) = true)
    (a8 : PySem.W.nsIn K mainGlobals "_law_net" = some (some (.ref f8))) (l8 : K.lookup f8 = some ⟨oc8, od8, .func (PySem.W.fnOf "_law_net" "_law_net" (defArgs s_law_net) (defBody s_law_net) (defScope s_law_net) .none kV8 dc8 pm8 an8 cd8 ct8), sl8⟩) (c8 : PySem.W.codeIn K cd8 "_law_net" = true) (k8 : PySem.W.keepIn K (.ref f8) = true)
    (a9 : PySem.W.nsIn K mainGlobals "_law_same" = some (some (.ref f9))) (l9 : K.lookup f9 = some ⟨oc9, od9, .func (PySem.W.fnOf "_law_same" "_law_same" (defArgs s_law_same) (defBody s_law_same) (defScope s_law_same) .none kV9 dc9 pm9 an9 cd9 ct9), sl9⟩) (c9 : PySem.W.codeIn K cd9 "_law_same" = true) (k9 : PySem.W.keepIn K (.ref f9) = true)
    (a10 : PySem.W.nsIn K mainGlobals "_law_kind" = some (some (.ref f10))) (l10 : K.lookup f10 = some ⟨oc10, od10, .func (PySem.W.fnOf "_law_kind" "_law_kind" (defArgs s_law_kind) (defBody s_law_kind) (defScope s_law_kind) .none kV10 dc10 pm10 an10 cd10 ct10), sl10⟩) (c10 : PySem.W.codeIn K cd10 "_law_kind" = true) (k10 : PySem.W.keepIn K (.ref f10) = true)
    (a11 : PySem.W.nsIn K mainGlobals "_law_told" = some (some (.ref f11))) (l11 : K.lookup f11 = some ⟨oc11, od11, .func (PySem.W.fnOf "_law_told" "_law_told" (defArgs s_law_told) (defBody s_law_told) (defScope s_law_told) .none kV11 dc11 pm11 an11 cd11 ct11), sl11⟩) (c11 : PySem.W.codeIn K cd11 "_law_told" = true) (k11 : PySem.W.keepIn K (.ref f11) = true)
    (a12 : PySem.W.nsIn K mainGlobals "_law_due" = some (some (.ref f12))) (l12 : K.lookup f12 = some ⟨oc12, od12, .func (PySem.W.fnOf "_law_due" "_law_due" (defArgs s_law_due) (defBody s_law_due) (defScope s_law_due) .none kV12 dc12 pm12 an12 cd12 ct12), sl12⟩) (c12 : PySem.W.codeIn K cd12 "_law_due" = true) (k12 : PySem.W.keepIn K (.ref f12) = true)
    (a13 : PySem.W.nsIn K mainGlobals "_law_wide" = some (some (.ref f13))) (l13 : K.lookup f13 = some ⟨oc13, od13, .func (PySem.W.fnOf "_law_wide" "_law_wide" (defArgs s_law_wide) (defBody s_law_wide) (defScope s_law_wide) .none kV13 dc13 pm13 an13 cd13 ct13), sl13⟩) (c13 : PySem.W.codeIn K cd13 "_law_wide" = true) (k13 : PySem.W.keepIn K (.ref f13) = true)
    (a14 : PySem.W.nsIn K mainGlobals "law" = some (some (.ref f14))) (l14 : K.lookup f14 = some ⟨oc14, od14, .func (PySem.W.fnOf "law" "law" (defArgs s_law) (defBody s_law) (defScope s_law) .none kV14 dc14 pm14 an14 cd14 ct14), sl14⟩) (c14 : PySem.W.codeIn K cd14 "law" = true) (k14 : PySem.W.keepIn K (.ref f14) = true)
    {cForkError : Addr} (aX_ForkError : PySem.W.nsIn K mainGlobals "ForkError" = some (some (.ref cForkError)))
    {cNoText : Addr} (aX_NoText : PySem.W.nsIn K mainGlobals "NoText" = some (some (.ref cNoText)))
    {cNoEvent : Addr} (aX_NoEvent : PySem.W.nsIn K mainGlobals "NoEvent" = some (some (.ref cNoEvent)))
    {cNoLine : Addr} (aX_NoLine : PySem.W.nsIn K mainGlobals "NoLine" = some (some (.ref cNoLine)))
    {cNoFork : Addr} (aX_NoFork : PySem.W.nsIn K mainGlobals "NoFork" = some (some (.ref cNoFork)))
    {cNoLeaf : Addr} (aX_NoLeaf : PySem.W.nsIn K mainGlobals "NoLeaf" = some (some (.ref cNoLeaf)))
    {cNoWire : Addr} (aX_NoWire : PySem.W.nsIn K mainGlobals "NoWire" = some (some (.ref cNoWire)))
    {cNoToken : Addr} (aX_NoToken : PySem.W.nsIn K mainGlobals "NoToken" = some (some (.ref cNoToken)))
    {cTooGreat : Addr} (aX_TooGreat : PySem.W.nsIn K mainGlobals "TooGreat" = some (some (.ref cTooGreat)))
    (eX_TooGreat : PySem.W.excIn K cTooGreat bmV "ValueError.__new__" = true)
    (eX_ForkError : PySem.W.excIn K cForkError bmV "ValueError.__new__" = true)
    (sX_TooGreat_ForkError : (mroK K cTooGreat).contains (.ref cForkError) = true)
    (gX : PySem.W.specialIn K (.builtin "object.__class__") "__get__" = some (some (.builtin "getset_descriptor.__get__"))) (tX : PySem.W.takesIn K (.builtin "object.__class__") = some true)
    (ia_TooGreat : PySem.W.findIn K (.ref cTooGreat) "__getattribute__" = some (some (.builtin "BaseException.__getattribute__"))) (ib_TooGreat : PySem.W.findIn K (.ref cTooGreat) "__getattr__" = some none) (ic_TooGreat : PySem.W.findIn K (.ref cTooGreat) "__class__" = some (some (.builtin "object.__class__"))) (id_TooGreat : PySem.W.mroIn K cTooGreat (.type "object") = some true) (ie_TooGreat : PySem.W.mroIn K cTooGreat (.type "BaseException") = some true) (if_TooGreat : PySem.W.excIn K cTooGreat bmV "ValueError.__new__" = true)
    (qX_TooGreat_ValueError : PySem.W.kitOne K (.ref cTooGreat) (.type "ValueError") = some true)
    (qX_TooGreat_ForkError : PySem.W.kitOne K (.ref cTooGreat) (.ref cForkError) = some true)
    (qX_TooGreat_NoText : PySem.W.kitOne K (.ref cTooGreat) (.ref cNoText) = some false)
    (qX_TooGreat_NoEvent : PySem.W.kitOne K (.ref cTooGreat) (.ref cNoEvent) = some false)
    (qX_TooGreat_NoLine : PySem.W.kitOne K (.ref cTooGreat) (.ref cNoLine) = some false)
    (qX_TooGreat_NoFork : PySem.W.kitOne K (.ref cTooGreat) (.ref cNoFork) = some false)
    (qX_TooGreat_NoLeaf : PySem.W.kitOne K (.ref cTooGreat) (.ref cNoLeaf) = some false)
    (qX_TooGreat_NoWire : PySem.W.kitOne K (.ref cTooGreat) (.ref cNoWire) = some false)
    (qX_TooGreat_NoToken : PySem.W.kitOne K (.ref cTooGreat) (.ref cNoToken) = some false)
    (qX_TooGreat_TooGreat : PySem.W.kitOne K (.ref cTooGreat) (.ref cTooGreat) = some true)
    (z_ValueError : PySem.W.nsIn K mainGlobals "ValueError" = some none)
    (z_list : PySem.W.nsIn K mainGlobals "list" = some none)
    (z_tuple : PySem.W.nsIn K mainGlobals "tuple" = some none)
    (z_range : PySem.W.nsIn K mainGlobals "range" = some none)
    (z_int : PySem.W.nsIn K mainGlobals "int" = some none)
    (z_bool : PySem.W.nsIn K mainGlobals "bool" = some none)
    (z_str : PySem.W.nsIn K mainGlobals "str" = some none)
    (z_len : PySem.W.nsIn K mainGlobals "len" = some none)
    (z_isinstance : PySem.W.nsIn K mainGlobals "isinstance" = some none)
    (z_all : PySem.W.nsIn K mainGlobals "all" = some none)
    (z_zip : PySem.W.nsIn K mainGlobals "zip" = some none)
    (z_enumerate : PySem.W.nsIn K mainGlobals "enumerate" = some none)
    (z_max : PySem.W.nsIn K mainGlobals "max" = some none)
    (z_min : PySem.W.nsIn K mainGlobals "min" = some none)
    (z_sorted : PySem.W.nsIn K mainGlobals "sorted" = some none)
    (z_set : PySem.W.nsIn K mainGlobals "set" = some none)
    (z_repr : PySem.W.nsIn K mainGlobals "repr" = some none)
    (z_sum : PySem.W.nsIn K mainGlobals "sum" = some none)
    (z_any : PySem.W.nsIn K mainGlobals "any" = some none)
    (z_abs : PySem.W.nsIn K mainGlobals "abs" = some none)
    (z_dict : PySem.W.nsIn K mainGlobals "dict" = some none)
    {tk_MOST_WIRES : Tok} (g_MOST_WIRES : PySem.W.nsIn K mainGlobals "MOST_WIRES" = some (some (.int 16 tk_MOST_WIRES)))
    {tk_MOST_SWITCHES : Tok} (g_MOST_SWITCHES : PySem.W.nsIn K mainGlobals "MOST_SWITCHES" = some (some (.int 160 tk_MOST_SWITCHES)))
    : ∃ (Ts : List Addr) (fd : FuncData), (∀ P ∈ Ts, TabAt K h P) ∧ (∀ (s : Shared) (v : Value), BindsTo s fd ⟨[v], []⟩ [("script", v)]) ∧ ∀ base : Heap, K.In base → base.Ns mainGlobals mg → (∃ bm ob, BMod base mainGlobals mg bm ob) → FnOk l.prog w K mg base CX0 10 fa fd ["script"] (spW Ts K wLaw) := by
  have e := hfa.symm.trans (PySem.W.mg_of X G a14)
  cases e
  have T : Tn mg := ⟨PySem.W.mg_none_of X G z_list, PySem.W.mg_none_of X G z_tuple, PySem.W.mg_none_of X G z_range, PySem.W.mg_none_of X G z_int, PySem.W.mg_none_of X G z_bool, PySem.W.mg_none_of X G z_str, PySem.W.mg_none_of X G z_len, PySem.W.mg_none_of X G z_isinstance, PySem.W.mg_none_of X G z_all, PySem.W.mg_none_of X G z_zip, PySem.W.mg_none_of X G z_enumerate, PySem.W.mg_none_of X G z_max, PySem.W.mg_none_of X G z_min, PySem.W.mg_none_of X G z_sorted, PySem.W.mg_none_of X G z_set, PySem.W.mg_none_of X G z_repr, PySem.W.mg_none_of X G z_sum, PySem.W.mg_none_of X G z_any, PySem.W.mg_none_of X G z_abs, PySem.W.mg_none_of X G z_dict⟩
  have M_ForkError := PySem.W.mg_of X G aX_ForkError
  have M_NoText := PySem.W.mg_of X G aX_NoText
  have M_NoEvent := PySem.W.mg_of X G aX_NoEvent
  have M_NoLine := PySem.W.mg_of X G aX_NoLine
  have M_NoFork := PySem.W.mg_of X G aX_NoFork
  have M_NoLeaf := PySem.W.mg_of X G aX_NoLeaf
  have M_NoWire := PySem.W.mg_of X G aX_NoWire
  have M_NoToken := PySem.W.mg_of X G aX_NoToken
  have M_TooGreat := PySem.W.mg_of X G aX_TooGreat
  have X_TooGreat : ExcC K mg "TooGreat" cTooGreat := ⟨M_TooGreat, eX_TooGreat⟩
  have X_ForkError : ExcC K mg "ForkError" cForkError := ⟨M_ForkError, eX_ForkError⟩
  have S_TooGreat_ForkError := sX_TooGreat_ForkError
  have I_TooGreat : ExcI K cTooGreat := ⟨ia_TooGreat, ib_TooGreat, ic_TooGreat, gX, tX, id_TooGreat, ie_TooGreat, if_TooGreat⟩
  have Q_TooGreat_ValueError := qX_TooGreat_ValueError
  have Q_TooGreat_ForkError := qX_TooGreat_ForkError
  have Q_TooGreat_NoText := qX_TooGreat_NoText
  have Q_TooGreat_NoEvent := qX_TooGreat_NoEvent
  have Q_TooGreat_NoLine := qX_TooGreat_NoLine
  have Q_TooGreat_NoFork := qX_TooGreat_NoFork
  have Q_TooGreat_NoLeaf := qX_TooGreat_NoLeaf
  have Q_TooGreat_NoWire := qX_TooGreat_NoWire
  have Q_TooGreat_NoToken := qX_TooGreat_NoToken
  have Q_TooGreat_TooGreat := qX_TooGreat_TooGreat
  have T_ValueError := PySem.W.mg_none_of X G z_ValueError
  have C_MOST_WIRES := PySem.W.mg_of X G g_MOST_WIRES
  have C_MOST_SWITCHES := PySem.W.mg_of X G g_MOST_SWITCHES
  have F_fitting := fun_mk (st := s_fitting) l0 c0 k0
  have m_fitting := PySem.W.mg_of X G a0
  have b_fitting := F_fitting.binds (ps := ["width", "switches", "order"]) fun _ _ _ _ _ _ us hl => match us, hl with | [_, _, _], _ => rfl
  have F_named := fun_mk (st := s_named) l1 c1 k1
  have m_named := PySem.W.mg_of X G a1
  have b_named := F_named.binds (ps := ["net", "wires"]) fun _ _ _ _ _ _ us hl => match us, hl with | [_, _], _ => rfl
  have F_beside := fun_mk (st := s_beside) l2 c2 k2
  have m_beside := PySem.W.mg_of X G a2
  have b_beside := F_beside.binds (ps := ["one", "other"]) fun _ _ _ _ _ _ us hl => match us, hl with | [_, _], _ => rfl
  have F_behind := fun_mk (st := s_behind) l3 c3 k3
  have m_behind := PySem.W.mg_of X G a3
  have b_behind := F_behind.binds (ps := ["one", "other"]) fun _ _ _ _ _ _ us hl => match us, hl with | [_, _], _ => rfl
  have F_law_mix := fun_mk (st := s_law_mix) l4 c4 k4
  have m_law_mix := PySem.W.mg_of X G a4
  have b_law_mix := F_law_mix.binds (ps := ["one"]) fun _ _ _ _ _ _ us hl => match us, hl with | [_], _ => rfl
  have F_law_jar := fun_mk (st := s_law_jar) l5 c5 k5
  have m_law_jar := PySem.W.mg_of X G a5
  have b_law_jar := F_law_jar.binds (ps := ["script"]) fun _ _ _ _ _ _ us hl => match us, hl with | [_], _ => rfl
  have F_law_pick := fun_mk (st := s_law_pick) l6 c6 k6
  have m_law_pick := PySem.W.mg_of X G a6
  have b_law_pick := F_law_pick.binds (ps := ["jar", "many"]) fun _ _ _ _ _ _ us hl => match us, hl with | [_, _], _ => rfl
  have F_law_order := fun_mk (st := s_law_order) l7 c7 k7
  have m_law_order := PySem.W.mg_of X G a7
  have b_law_order := F_law_order.binds (ps := ["jar", "many"]) fun _ _ _ _ _ _ us hl => match us, hl with | [_, _], _ => rfl
  have F_law_net := fun_mk (st := s_law_net) l8 c8 k8
  have m_law_net := PySem.W.mg_of X G a8
  have b_law_net := F_law_net.binds (ps := ["jar", "widest", "most"]) fun _ _ _ _ _ _ us hl => match us, hl with | [_, _, _], _ => rfl
  have F_law_same := fun_mk (st := s_law_same) l9 c9 k9
  have m_law_same := PySem.W.mg_of X G a9
  have b_law_same := F_law_same.binds (ps := ["found", "due"]) fun _ _ _ _ _ _ us hl => match us, hl with | [_, _], _ => rfl
  have F_law_kind := fun_mk (st := s_law_kind) l10 c10 k10
  have m_law_kind := PySem.W.mg_of X G a10
  have b_law_kind := F_law_kind.binds (ps := ["caught"]) fun _ _ _ _ _ _ us hl => match us, hl with | [_], _ => rfl
  have F_law_told := fun_mk (st := s_law_told) l11 c11 k11
  have m_law_told := PySem.W.mg_of X G a11
  have b_law_told := F_law_told.binds (ps := ["kind", "one", "other"]) fun _ _ _ _ _ _ us hl => match us, hl with | [_, _, _], _ => rfl
  have F_law_due := fun_mk (st := s_law_due) l12 c12 k12
  have m_law_due := PySem.W.mg_of X G a12
  have b_law_due := F_law_due.binds (ps := ["kind", "one", "other"]) fun _ _ _ _ _ _ us hl => match us, hl with | [_, _, _], _ => rfl
  have F_law_wide := fun_mk (st := s_law_wide) l13 c13 k13
  have m_law_wide := PySem.W.mg_of X G a13
  have b_law_wide := F_law_wide.binds (ps := ["jar", "width", "many"]) fun _ _ _ _ _ _ us hl => match us, hl with | [_, _, _], _ => rfl
  have F_law := fun_mk (st := s_law) l14 c14 k14
  have m_law := PySem.W.mg_of X G a14
  have b_law := F_law.binds (ps := ["script"]) fun _ _ _ _ _ _ us hl => match us, hl with | [_], _ => rfl
  refine ⟨[], PySem.W.fnOf "law" "law" (defArgs s_law) (defBody s_law) (defScope s_law) .none kV14 dc14 pm14 an14 cd14 ct14, fun P hP => ?_, fun s v => .of_eq rfl, fun base _ _ hM => ?_⟩
  · cases hP
  have D0_law_mix : Def l.prog w K mg base "_law_mix" 1 ["one"] spMix := ⟨_, _, ok_law_mix F_law_mix, m_law_mix, F_law_mix.kp, b_law_mix⟩
  have D_law_jar : DefW [] l.prog w K mg base "_law_jar" 2 ["script"] wJar := ⟨⟨_, _, (ok_law_jar F_law_jar T D0_law_mix).imp (jar_imp fun _ _ _ _ h => h), m_law_jar, F_law_jar.kp, b_law_jar⟩, mo_jar⟩
  have D0_law_pick : Def l.prog w K mg base "_law_pick" 2 ["jar", "many"] spPick := ⟨_, _, ok_law_pick F_law_pick D0_law_mix, m_law_pick, F_law_pick.kp, b_law_pick⟩
  have D_law_pick : DefW [] l.prog w K mg base "_law_pick" 2 ["jar", "many"] wPick := ⟨⟨_, _, (ok_law_pick F_law_pick D0_law_mix).imp (pick_imp fun _ _ _ _ h => h), m_law_pick, F_law_pick.kp, b_law_pick⟩, mo_pick⟩
  have D0_law_order : Def l.prog w K mg base "_law_order" 3 ["jar", "many"] spOrder := ⟨_, _, ok_law_order F_law_order T D0_law_pick, m_law_order, F_law_order.kp, b_law_order⟩
  have D_law_order : DefW [] l.prog w K mg base "_law_order" 3 ["jar", "many"] wOrder := ⟨⟨_, _, (ok_law_order F_law_order T D0_law_pick).imp order_imp, m_law_order, F_law_order.kp, b_law_order⟩, mo_order⟩
  have D_law_net : DefW [] l.prog w K mg base "_law_net" 4 ["jar", "widest", "most"] wNet := ⟨⟨_, _, (ok_law_net F_law_net T D0_law_pick D0_law_order).imp net_imp, m_law_net, F_law_net.kp, b_law_net⟩, mo_net⟩
  have D_law_same : DefW [] l.prog w K mg base "_law_same" 9 ["found", "due"] (wSame 8) := ⟨⟨_, _, (ok_law_same F_law_same T m_law_same b_law_same  8).mono (by omega), m_law_same, F_law_same.kp, b_law_same⟩, mo_same 8⟩
  have D_named : DefW [] l.prog w K mg base "named" 1 ["net", "wires"] wNamed := ⟨⟨_, _, ok_named F_named T , m_named, F_named.kp, b_named⟩, mo_ctrF⟩
  have D_fitting : DefX [] l.prog w K mg base "fitting" 1 ["width", "switches", "order"] (wFitX cTooGreat) := ⟨⟨_, _, ok_fitting F_fitting T X_TooGreat C_MOST_WIRES C_MOST_SWITCHES, m_fitting, F_fitting.kp, b_fitting⟩, mo_fitX⟩
  have D_behind : DefX [] l.prog w K mg base "behind" 2 ["one", "other"] (wBehX cTooGreat) := ⟨⟨_, _, ok_behind F_behind T D_fitting D_named, m_behind, F_behind.kp, b_behind⟩, mo_behX⟩
  have D_beside : DefX [] l.prog w K mg base "beside" 2 ["one", "other"] (wBesX cTooGreat) := ⟨⟨_, _, ok_beside F_beside T D_fitting D_named, m_beside, F_beside.kp, b_beside⟩, mo_besX⟩
  have D_law_kind : DefW [] l.prog w K mg base "_law_kind" 1 ["caught"] (wKindG cTooGreat) := ⟨⟨_, _, ok_law_kind F_law_kind T M_ForkError M_NoText M_NoEvent M_NoLine M_NoFork M_NoLeaf M_NoWire M_NoToken M_TooGreat I_TooGreat Q_TooGreat_ValueError Q_TooGreat_ForkError Q_TooGreat_NoText Q_TooGreat_NoEvent Q_TooGreat_NoLine Q_TooGreat_NoFork Q_TooGreat_NoLeaf Q_TooGreat_NoWire Q_TooGreat_NoToken Q_TooGreat_TooGreat T_ValueError, m_law_kind, F_law_kind.kp, b_law_kind⟩, mo_kindG⟩
  have D_law_told : DefW [] l.prog w K mg base "_law_told" 3 ["kind", "one", "other"] wTold30 := ⟨⟨_, _, ok_law_told F_law_told T X_ForkError X_TooGreat S_TooGreat_ForkError D_law_kind D_beside D_behind, m_law_told, F_law_told.kp, b_law_told⟩, mo_told30⟩
  have D_law_due : DefW [] l.prog w K mg base "_law_due" 1 ["kind", "one", "other"] wTold30 := ⟨⟨_, _, ok_law_due F_law_due T , m_law_due, F_law_due.kp, b_law_due⟩, mo_told30⟩
  have D_law_wide : DefW [] l.prog w K mg base "_law_wide" 5 ["jar", "width", "many"] wWide := ⟨⟨_, _, ok_law_wide F_law_wide T D_law_net, m_law_wide, F_law_wide.kp, b_law_wide⟩, mo_wide⟩
  exact ok_law F_law T D_law_told D_law_same D_law_due D_law_wide D_law_net D_law_jar
end L4
open PySem PySem.W PyProof.Rows
set_option maxRecDepth 100000 in
set_option maxHeartbeats 0 in
theorem PySem.Challenge.cw_turnfork_k30_beside_and_behind_holds : PySem.Challenge.rw_turnfork_k30_beside_and_behind.Holds := by
  w_on; o_law; k_head; (case hw => w_witness2)
  k_fill
  refine L4.walkW (l := PySem.Challenge.rw_turnfork_k30_beside_and_behind) (k := 10) ⟨rfl, by decide, by decide⟩ rfl rfl (fun w h Y => PySem.W.kIn_of Y) ?F
  case F =>
    intro w mg fa h KX G hmg tabs
    refine' L4.all_mk KX G hmg tabs ?a0 ?l0 ?c0 ?k0 ?a1 ?l1 ?c1 ?k1 ?a2 ?l2 ?c2 ?k2 ?a3 ?l3 ?c3 ?k3 ?a4 ?l4 ?c4 ?k4 ?a5 ?l5 ?c5 ?k5 ?a6 ?l6 ?c6 ?k6 ?a7 ?l7 ?c7 ?k7 ?a8 ?l8 ?c8 ?k8 ?a9 ?l9 ?c9 ?k9 ?a10 ?l10 ?c10 ?k10 ?a11 ?l11 ?c11 ?k11 ?a12 ?l12 ?c12 ?k12 ?a13 ?l13 ?c13 ?k13 ?a14 ?l14 ?c14 ?k14 ?aX_ForkError ?aX_NoText ?aX_NoEvent ?aX_NoLine ?aX_NoFork ?aX_NoLeaf ?aX_NoWire ?aX_NoToken ?aX_TooGreat ?eX_TooGreat ?eX_ForkError ?sX_TooGreat_ForkError ?gX ?tX ?ia_TooGreat ?ib_TooGreat ?ic_TooGreat ?id_TooGreat ?ie_TooGreat ?if_TooGreat ?qX_TooGreat_ValueError ?qX_TooGreat_ForkError ?qX_TooGreat_NoText ?qX_TooGreat_NoEvent ?qX_TooGreat_NoLine ?qX_TooGreat_NoFork ?qX_TooGreat_NoLeaf ?qX_TooGreat_NoWire ?qX_TooGreat_NoToken ?qX_TooGreat_TooGreat ?z_ValueError ?z_list ?z_tuple ?z_range ?z_int ?z_bool ?z_str ?z_len ?z_isinstance ?z_all ?z_zip ?z_enumerate ?z_max ?z_min ?z_sorted ?z_set ?z_repr ?z_sum ?z_any ?z_abs ?z_dict ?g_MOST_WIRES ?g_MOST_SWITCHES
    (case a0 => k_is); (case l0 => k_is); (case c0 => k_is); (case k0 => k_is); (case a1 => k_is); (case l1 => k_is)
    (case c1 => k_is); (case k1 => k_is); (case a2 => k_is); (case l2 => k_is); (case c2 => k_is); (case k2 => k_is)
    (case a3 => k_is); (case l3 => k_is); (case c3 => k_is); (case k3 => k_is); (case a4 => k_is); (case l4 => k_is)
    (case c4 => k_is); (case k4 => k_is); (case a5 => k_is); (case l5 => k_is); (case c5 => k_is); (case k5 => k_is)
    (case a6 => k_is); (case l6 => k_is); (case c6 => k_is); (case k6 => k_is); (case a7 => k_is); (case l7 => k_is)
    (case c7 => k_is); (case k7 => k_is); (case a8 => k_is); (case l8 => k_is); (case c8 => k_is); (case k8 => k_is)
    (case a9 => k_is); (case l9 => k_is); (case c9 => k_is); (case k9 => k_is); (case a10 => k_is); (case l10 => k_is)
    (case c10 => k_is); (case k10 => k_is); (case a11 => k_is); (case l11 => k_is); (case c11 => k_is); (case k11 => k_is)
    (case a12 => k_is); (case l12 => k_is); (case c12 => k_is); (case k12 => k_is); (case a13 => k_is); (case l13 => k_is)
    (case c13 => k_is); (case k13 => k_is); (case a14 => k_is); (case l14 => k_is); (case c14 => k_is); (case k14 => k_is)
    (case aX_ForkError => k_is); (case aX_NoText => k_is); (case aX_NoEvent => k_is); (case aX_NoLine => k_is); (case aX_NoFork => k_is); (case aX_NoLeaf => k_is)
    (case aX_NoWire => k_is); (case aX_NoToken => k_is); (case aX_TooGreat => k_is); (case gX => k_is); (case tX => k_is); (case ia_TooGreat => k_is)
    (case ib_TooGreat => k_is); (case ic_TooGreat => k_is); (case id_TooGreat => k_is); (case ie_TooGreat => k_is); (case z_ValueError => k_is); (case z_list => k_is)
    (case z_tuple => k_is); (case z_range => k_is); (case z_int => k_is); (case z_bool => k_is); (case z_str => k_is); (case z_len => k_is)
    (case z_isinstance => k_is); (case z_all => k_is); (case z_zip => k_is); (case z_enumerate => k_is); (case z_max => k_is); (case z_min => k_is)
    (case z_sorted => k_is); (case z_set => k_is); (case z_repr => k_is); (case z_sum => k_is); (case z_any => k_is); (case z_abs => k_is)
    (case z_dict => k_is); (case g_MOST_WIRES => k_is); (case g_MOST_SWITCHES => k_is)
    (case eX_TooGreat => k_exc)
    (case eX_ForkError => k_exc)
    (case sX_TooGreat_ForkError => exact rfl)
    (case if_TooGreat => k_exc)
    (case qX_TooGreat_ValueError => kit_is)
    (case qX_TooGreat_ForkError => kit_is)
    (case qX_TooGreat_NoText => kit_is)
    (case qX_TooGreat_NoEvent => kit_is)
    (case qX_TooGreat_NoLine => kit_is)
    (case qX_TooGreat_NoFork => kit_is)
    (case qX_TooGreat_NoLeaf => kit_is)
    (case qX_TooGreat_NoWire => kit_is)
    (case qX_TooGreat_NoToken => kit_is)
    (case qX_TooGreat_TooGreat => kit_is)
