import PyProof.Rows.All
import Wide.All
import OpenK.AllK
import Wide.FinOn
import PyProof.EqAt
import PyProof.EqKinds
import PyProof.TupleCall
import KE.BitLaws
import PyProof.Rows.SortShellAny
import KE.KDictSum
import KE.KIsAll
import PyProof.RulesTry
import PyProof.SetRoads
import PyProof.Rows.SetFrom
import PyProof.ReprRoads
import PyProof.CallFns
import PySem.Challenge.RW_turnfork_k80_nets_written
set_option Elab.async false
set_option linter.all false
set_option maxRecDepth 100000
namespace L2
open PySem PySem.Spec PyProof.Rows
/-- a key: an int or a str -/
abbrev Key := Sum Int Str
def keyIs : Key → Value → Bool
  | .inl k, v => Value.isInt k v
  | .inr x, v => Value.isStrOf x v
def keyH (w : World) : Key → Int
  | .inl k => hashInt k
  | .inr x => hashStr w x
theorem keyIs_shape : ∀ {k : Key} {v : Value}, keyIs k v = true → (∃ i t, k = Sum.inl i ∧ v = Value.int i t) ∨ (∃ x t, k = Sum.inr x ∧ v = Value.str x t)
  | .inl i, v, h => by
    obtain ⟨t, e⟩ := Value.isInt_shape (k := i) (v := v) h
    exact .inl ⟨i, t, rfl, e⟩
  | .inr x, v, h => by
    obtain ⟨t, e⟩ := Value.isStrOf_shape (x := x) (v := v) h
    exact .inr ⟨x, t, rfl, e⟩
theorem keyIs_int (i : Int) (t : Tok) : keyIs (.inl i) (.int i t) = true := by simp [keyIs, Value.isInt]
theorem keyIs_str (x : Str) (t : Tok) : keyIs (.inr x) (.str x t) = true := by simp [keyIs, Value.isStrOf]
theorem key_ll (a b : Int) : decide ((Sum.inl a : Key) = Sum.inl b) = (a == b) := by
  by_cases e : a = b
  · subst e; simp
  · have h : ¬ (Sum.inl a : Key) = Sum.inl b := fun q => e (Sum.inl.inj q)
    rw [decide_eq_false h]
    exact (beq_eq_false_iff_ne.mpr e).symm
theorem key_rr (a b : Str) : decide ((Sum.inr a : Key) = Sum.inr b) = decide (a = b) := by
  by_cases e : a = b
  · subst e; simp
  · have h : ¬ (Sum.inr a : Key) = Sum.inr b := fun q => e (Sum.inr.inj q)
    rw [decide_eq_false h, decide_eq_false e]
theorem key_lr (a : Int) (b : Str) : decide ((Sum.inl a : Key) = Sum.inr b) = false := decide_eq_false (fun q => nomatch q)
theorem key_rl (a : Str) (b : Int) : decide ((Sum.inr a : Key) = Sum.inl b) = false := decide_eq_false (fun q => nomatch q)
def mixKind (prog : Program) (w : World) : PySem.KeyKind prog w Key where
  is := keyIs
  hash := keyH w
  inj := fun v a b ha hb => by
    rcases keyIs_shape ha with ⟨i, t, rfl, rfl⟩ | ⟨x, t, rfl, rfl⟩
    · rcases keyIs_shape hb with ⟨j, u, rfl, e⟩ | ⟨y, u, rfl, e⟩
      · injection e with e1 _; rw [e1]
      · exact nomatch e
    · rcases keyIs_shape hb with ⟨j, u, rfl, e⟩ | ⟨y, u, rfl, e⟩
      · exact nomatch e
      · injection e with e1 _; rw [e1]
  byValue := fun k v h => by
    rcases keyIs_shape h with ⟨i, t, rfl, rfl⟩ | ⟨x, t, rfl, rfl⟩ <;> rfl
  pyHash := fun hv h => by
    rcases keyIs_shape hv with ⟨i, t, rfl, rfl⟩ | ⟨x, t, rfl, rfl⟩
    · exact wpAny_pyHash_int h
    · exact wpAny_pyHash_str h
  eqBool := fun hu hv h => by
    rcases keyIs_shape hu with ⟨i, t, rfl, rfl⟩ | ⟨x, t, rfl, rfl⟩
    · rcases keyIs_shape hv with ⟨j, u, rfl, rfl⟩ | ⟨y, u, rfl, rfl⟩
      · rw [key_ll] at h; exact wpAny_eqBool_int h
      · rw [key_lr] at h; exact SeqAt.EqAt.int_str i t y u _ _ _ _ h
    · rcases keyIs_shape hv with ⟨j, u, rfl, rfl⟩ | ⟨y, u, rfl, rfl⟩
      · rw [key_rl] at h; exact SeqAt.EqAt.str_int x t j u _ _ _ _ h
      · rw [key_rr] at h; exact wpAny_eqBool_str h
  «strs» := fun k x t v h => by
    rcases keyIs_shape h with ⟨i, u, rfl, e⟩ | ⟨y, u, rfl, e⟩
    · exact nomatch e
    · injection e with e1 _
      subst e1
      cases v <;> rfl
theorem mixKind_int (prog : Program) (w : World) (i : Int) (t : Tok) : (mixKind prog w).is (.inl i) (.int i t) = true := keyIs_int i t
theorem mixKind_str (prog : Program) (w : World) (x : Str) (t : Tok) : (mixKind prog w).is (.inr x) (.str x t) = true := keyIs_str x t
end L2
namespace L2
open PySem PySem.Spec PyProof.Rows
/-- a value, without the heap -/
inductive V where
  | non | bl (b : Bool) | int (i : Int) | str (x : Str) | byt (b : Array UInt8) | flt (b : UInt64) | ref (a : Addr) | ty (n : String)
  deriving DecidableEq
def RelV : V → Value → Prop
  | .non, u => u = Value.none
  | .bl b, u => u = Value.bool b
  | .int i, u => ∃ t, u = Value.int i t
  | .str x, u => ∃ t, u = Value.str x t
  | .byt b, u => ∃ t, u = Value.bytes b t
  | .flt b, u => ∃ t, u = Value.float b t
  | .ref a, u => u = Value.ref a
  | .ty n, u => u = Value.type n
abbrev Vals : List V → List Value → Prop := Paired RelV
theorem Vals.length {xs : List V} {us : List Value} (r : Vals xs us) : xs.length = us.length := Paired.length r
theorem Vals.get : ∀ {xs : List V} {us : List Value} {i : Nat} {x : V}, Vals xs us → xs[i]? = some x → ∃ u, us[i]? = some u ∧ RelV x u
  | _, _, _, _, .nil, e => by simp at e
  | _, _, 0, _, .cons r _, e => by simp at e; subst e; exact ⟨_, rfl, r⟩
  | _, _, i + 1, x, .cons _ t, e => by
    obtain ⟨u, h1, h2⟩ := Vals.get (i := i) (x := x) t (by simpa using e)
    exact ⟨u, by simpa using h1, h2⟩
theorem Vals.set {x : V} {u : Value} (r : RelV x u) : ∀ {xs : List V} {us : List Value} (i : Nat), Vals xs us → Vals (xs.set i x) (us.set i u)
  | _, _, _, .nil => .nil
  | _, _, 0, .cons _ t => .cons r t
  | _, _, i + 1, .cons q t => .cons q (Vals.set r i t)
theorem Vals.append : ∀ {xs ys : List V} {us ws : List Value}, Vals xs us → Vals ys ws → Vals (xs ++ ys) (us ++ ws)
  | _, _, _, _, .nil, s => s
  | _, _, _, _, .cons r t, s => .cons r (Vals.append t s)
theorem Vals.take : ∀ {xs : List V} {us : List Value} (n : Nat), Vals xs us → Vals (xs.take n) (us.take n)
  | _, _, 0, _ => .nil
  | _, _, _ + 1, .nil => .nil
  | _, _, n + 1, .cons r t => .cons r (Vals.take n t)
theorem Vals.drop : ∀ {xs : List V} {us : List Value} (n : Nat), Vals xs us → Vals (xs.drop n) (us.drop n)
  | _, _, 0, r => r
  | _, _, _ + 1, .nil => .nil
  | _, _, n + 1, .cons _ t => Vals.drop n t
def RelO : Option V → Option Value → Prop
  | some v, some u => RelV v u
  | none, none => True
  | _, _ => False
def KV {κ : Type} : List (κ × V) → List (κ × Value) → Prop := Paired fun (p : κ × V) (q : κ × Value) => p.1 = q.1 ∧ RelV p.2 q.2
/-- a key of a dict (00_mix): an int or a text -/
def kV : Key → V
  | .inl i => .int i
  | .inr x => .str x
/-- what stands at a tracked address -/
inductive HO where
  /-- a list -/
  | lst (xs : List V)
  /-- a tuple (never changes) -/
  | tup (xs : List V)
  /-- a dict whose keys are ints and texts; one whose keys are tuples of ints and texts (the empty one is both) -/
  | dK (kvs : List (Key × V)) | dT (kvs : List (List Key × V))
  /-- a set of ints: its members, its size -/
  | set (S : Int → Bool) (n : Nat)
  /-- an instance of the class at C, its dict at dx, its attributes -/
  | ins (C dx : Addr) (fs : List (Str × V))
  /-- the dict of the instance at x -/
  | own (x : Addr)
  /-- the dict of an exception -/
  | xd (fs : List (Str × V))
  /-- a bound method, f of x -/
  | met (f x : Addr)
  /-- a range object lo, lo + 1, .. below hi -/
  | rng (lo hi : Int)
  /-- a thing that is known to the object (the script; a dict while a loop walks it): read, never written while it is so -/
  | frz (o : Obj) (u : HO)
  /-- a code object's table -/
  | tbl (ps : Array Value)
  /-- any other thing, by what is true of its one object (a def of one's own: SetO a S n := HO.ext fun h => ..) -/
  | ext (φ : Heap → Prop)
abbrev Hp := Addr → Option HO
def upd (H : Hp) (a : Addr) (o : HO) : Hp := fun b => if b = a then some o else H b
theorem upd_same {H : Hp} {a : Addr} {o : HO} : upd H a o a = some o := by unfold upd; rw [if_pos rfl]
theorem upd_ne {H : Hp} {a b : Addr} {o : HO} (h : b ≠ a) : upd H a o b = H b := by unfold upd; rw [if_neg h]
/-- two objects of different content stand apart -/
theorem ne_of {H : Hp} {a b : Addr} {o u : HO} (h : H a = some o) (h' : H b = some u) (d : o ≠ u) : a ≠ b := by
  intro e; subst e; rw [h] at h'; exact d (Option.some.inj h')
theorem ne_of_none {H : Hp} {a b : Addr} {o : HO} (h : H a = some o) (h' : H b = none) : a ≠ b := by
  intro e; subst e; rw [h] at h'; cases h'
/-- a tuple of no own dict -/
def IsTupD (h : Heap) (a : Addr) (items : Array Value) : Prop := ∃ o, h.get? a = some o ∧ (o.cls = .type "tuple" ∧ ∃ n, o.data = .seq items n) ∧ o.dict = none
theorem IsTupD.tup {h : Heap} {a : Addr} {items : Array Value} (p : IsTupD h a items) : IsTup h a items := let ⟨o, e, c, _⟩ := p; ⟨o, e, c⟩
theorem IsTupD.lt {h : Heap} {a : Addr} {items : Array Value} (p : IsTupD h a items) : a < h.objs.size := p.tup.lt
theorem IsTupD.new (h : Heap) (items : Array Value) : IsTupD (h.push { cls := .type "tuple", data := .seq items }) h.objs.size items := ⟨_, Heap.get?_push_size _ rfl, ⟨rfl, _, rfl⟩, rfl⟩
section
variable (P : Program) (w : World)
def ObjOk (H : Hp) (h : Heap) (a : Addr) : HO → Prop
  | .lst xs => xs.length ≤ sizeLine ∧ ∃ (its : List Value) (n : Nat), Vals xs its ∧ h.get? a = some { cls := .type "list", data := .seq its.toArray n }
  | .tup xs => xs.length ≤ sizeLine ∧ ∃ its : List Value, Vals xs its ∧ IsTupD h a its.toArray
  | .dK kvs => kvs.length ≤ sizeLine ∧ (a == sysModules) = false ∧ ∃ vs, KV kvs vs ∧ h.DictOf (mixKind P w) a vs
  | .dT kvs => kvs.length ≤ sizeLine ∧ (a == sysModules) = false ∧ ∃ xs : List (List Key × Addr × Value),
      Paired (fun (p : List Key × V) (q : List Key × Addr × Value) => p.1 = q.1 ∧ H q.2.1 = some (.tup (p.1.map kV)) ∧ RelV p.2 q.2.2) kvs xs ∧
      ∃ o es ep, h.get? a = some o ∧ o.ExactDict ∧ o.data = .dict es ep ∧ es.toList = xs.map (entryOfKey (tupleKind (mixKind P w))) ∧ (xs.map (·.1)).Nodup
  | .set S n => h.SetOf (intKind P w) a S n
  | .ins C dx fs => H dx = some (.own a) ∧ fs.length ≤ 1000 ∧ dx ≠ a ∧ h.get? a = some (PySem.W.instObj C dx) ∧
      ∃ mA, h.Ns1 dx mA ∧ (∀ f, RelO (fs.lookup f) (mA f)) ∧ PySem.Within mA (fs.map (·.1))
  | .own _ => ∃ o, h.get? a = some o
  | .xd fs => ∃ mA, h.Ns1 a mA ∧ ∀ f, RelO (fs.lookup f) (mA f)
  | .rng lo hi => ∃ t u v, h.get? a = some { cls := .type "range", data := .fields #[.int lo t, .int hi u, .int 1 v] }
  | .frz o u => h.get? a = some o ∧ ObjOk H h a u
  | .tbl ps => h.get? a = some { cls := .none, data := .fields ps }
  | .met f x => h.get? a = some (PySem.W.methodObj (.ref f) (.ref x))
  | .ext φ => φ h ∧ (∃ o, h.get? a = some o) ∧ ∀ h1 h2 : Heap, φ h1 → (∀ o, h1.get? a = some o → h2.get? a = some o) → φ h2
/-- the abstract heap is held -/
def HOk (H : Hp) (h : Heap) : Prop := ∀ a o, H a = some o → ObjOk P w H h a o
end
section
variable {P : Program} {w : World} {H H' : Hp} {h h' : Heap} {a : Addr} {o : HO}
theorem ObjOk.lt (x : ObjOk P w H h a o) : a < h.objs.size := by
  cases o with
  | lst xs => obtain ⟨_, _, _, _, e⟩ := x; exact Heap.lt_size e
  | tup xs => obtain ⟨_, _, _, p⟩ := x; exact p.lt
  | dK kvs => obtain ⟨_, _, _, _, o, _, _, e, _⟩ := x; exact Heap.lt_size e
  | dT kvs => obtain ⟨_, _, _, _, o, _, _, e, _⟩ := x; exact Heap.lt_size e
  | set S n => obtain ⟨o, _, _, _, e, _⟩ := x; exact Heap.lt_size e
  | ins C dx fs => obtain ⟨_, _, _, e, _⟩ := x; exact Heap.lt_size e
  | own y => obtain ⟨_, e⟩ := x; exact Heap.lt_size e
  | xd fs => obtain ⟨_, ⟨_, _, _, e, _⟩, _⟩ := x; exact Heap.lt_size e
  | rng lo hi => obtain ⟨_, _, _, e⟩ := x; exact Heap.lt_size e
  | frz ob u => obtain ⟨e, _⟩ := x; exact Heap.lt_size e
  | tbl ps => exact Heap.lt_size (show h.get? a = some _ from x)
  | met f y => exact Heap.lt_size (show h.get? a = some _ from x)
  | ext φ => obtain ⟨_, ⟨_, e⟩, _⟩ := x; exact Heap.lt_size e
theorem Paired.mapP {α β : Type} {F G : α → β → Prop} : ∀ {l₁ : List α} {l₂ : List β}, Paired F l₁ l₂ → (∀ a b, F a b → G a b) → Paired G l₁ l₂
  | _, _, .nil, _ => .nil
  | _, _, .cons r t, f => .cons (f _ _ r) (Paired.mapP t f)
/-- what an object's description leans on: its own object, its own dict, the tuples -/
theorem ObjOk.stay (x : ObjOk P w H h a o) (k : ∀ b u, (b = a ∨ H b = some (.own a)) → h.get? b = some u → h'.get? b = some u)
    (ho : ∀ b, H b = some (.own a) → H' b = some (.own a)) (ht : ∀ b xs, H b = some (.tup xs) → H' b = some (.tup xs)) : ObjOk P w H' h' a o := by
  induction o with
  | lst xs => obtain ⟨z, its, n, r, e⟩ := x; exact ⟨z, its, n, r, k _ _ (.inl rfl) e⟩
  | tup xs => obtain ⟨z, its, r, ob, e, c⟩ := x; exact ⟨z, its, r, ob, k _ _ (.inl rfl) e, c⟩
  | dK kvs => obtain ⟨z, y, vs, r, ob, es, ep, e, c⟩ := x; exact ⟨z, y, vs, r, ob, es, ep, k _ _ (.inl rfl) e, c⟩
  | dT kvs =>
    obtain ⟨z, y, xs, r, ob, es, ep, e, c⟩ := x
    exact ⟨z, y, xs, Paired.mapP r fun p q z => ⟨z.1, ht _ _ z.2.1, z.2.2⟩, ob, es, ep, k _ _ (.inl rfl) e, c⟩
  | set S n => obtain ⟨ob, es, ep, t, e, c⟩ := x; exact ⟨ob, es, ep, t, k _ _ (.inl rfl) e, c⟩
  | ins C dx fs =>
    obtain ⟨d, z, ne, e, mA, ⟨od, es, ep, e2, c⟩, r⟩ := x
    exact ⟨ho _ d, z, ne, k _ _ (.inl rfl) e, mA, ⟨od, es, ep, k _ _ (.inr d) e2, c⟩, r⟩
  | own y => obtain ⟨ob, e⟩ := x; exact ⟨ob, k _ _ (.inl rfl) e⟩
  | xd fs => obtain ⟨mA, ⟨od, es, ep, e, c⟩, r⟩ := x; exact ⟨mA, ⟨od, es, ep, k _ _ (.inl rfl) e, c⟩, r⟩
  | rng lo hi => obtain ⟨t, u, v, e⟩ := x; exact ⟨t, u, v, k _ _ (.inl rfl) e⟩
  | frz ob u ih => obtain ⟨e, q⟩ := x; exact ⟨k _ _ (.inl rfl) e, ih q⟩
  | tbl ps =>
    have e : h.get? a = some { cls := .none, data := .fields ps } := x
    show h'.get? a = some { cls := .none, data := .fields ps }
    exact k a _ (.inl rfl) e
  | met f y =>
    have e : h.get? a = some (PySem.W.methodObj (.ref f) (.ref y)) := x
    show h'.get? a = some (PySem.W.methodObj (.ref f) (.ref y))
    exact k a _ (.inl rfl) e
  | ext φ => obtain ⟨p, ⟨o, e⟩, st⟩ := x; exact ⟨st _ _ p fun o q => k _ _ (.inl rfl) q, ⟨o, k _ _ (.inl rfl) e⟩, st⟩
theorem HOk.lt (x : HOk P w H h) (e : H a = some o) : a < h.objs.size := (x a o e).lt
theorem HOk.fresh (x : HOk P w H h) (e : h.objs.size ≤ a) : H a = none := by
  cases q : H a with
  | none => rfl
  | some u => exact absurd (Nat.lt_of_lt_of_le (x.lt q) e) (Nat.lt_irrefl _)
/-- every object of the heap is kept -/
theorem HOk.kept (x : HOk P w H h) (k : ∀ b u, h.get? b = some u → h'.get? b = some u) : HOk P w H h' := fun a o e =>
  (x a o e).stay (fun b u _ q => k b u q) (fun _ q => q) fun _ _ q => q
/-- a new object is laid and tracked -/
theorem HOk.laid (x : HOk P w H h) (k : ∀ b u, h.get? b = some u → h'.get? b = some u) (hp : h.objs.size ≤ a) (new : ObjOk P w (upd H a o) h' a o) : HOk P w (upd H a o) h' := fun b u e => by
  have hn := x.fresh hp
  by_cases hb : b = a
  · subst hb; rw [upd_same] at e; cases e; exact new
  · rw [upd_ne hb] at e
    exact (x b u e).stay (fun c v _ q => k c v q) (fun c q => by rw [upd_ne (ne_of_none q hn)]; exact q) fun c xs q => by rw [upd_ne (ne_of_none q hn)]; exact q
end
/-- what may be read as u: it is u, or a known u -/
def Rd (H : Hp) (a : Addr) (u : HO) : Prop := H a = some u ∨ ∃ o, H a = some (.frz o u)
theorem Rd.of {H : Hp} {a : Addr} {u : HO} (h : H a = some u) : Rd H a u := .inl h
theorem Rd.ok {P : Program} {w : World} {H : Hp} {h : Heap} {a : Addr} {u : HO} (r : Rd H a u) (x : HOk P w H h) : ObjOk P w H h a u := by
  rcases r with r | ⟨o, r⟩
  · exact x a u r
  · obtain ⟨_, q⟩ := x a _ r
    exact q
/-- what may be written -/
def Mut : Option HO → Prop
  | some (.lst _) => True
  | some (.dK _) => True
  | some (.dT _) => True
  | some (.set _ _) => True
  | some (.ins _ _ _) => True
  | some (.ext _) => True
  | _ => False
section
variable {P : Program} {w : World} {H : Hp} {h h' : Heap} {x e : Addr} {o' : HO}
/-- the object at e is changed: x itself, or the dict of the instance x -/
theorem HOk.write (ok : HOk P w H h) (mu : Mut (H x)) (he : e = x ∨ H e = some (.own x)) (k : ∀ b u, b ≠ e → h.get? b = some u → h'.get? b = some u) (heo : ∃ u, h'.get? e = some u)
    (new : ObjOk P w (upd H x o') h' x o') : HOk P w (upd H x o') h' := fun b u q => by
  have nown : ∀ c y, H c = some (.own y) → c ≠ x := fun c y r z => by subst z; rw [r] at mu; exact mu
  have ntup : ∀ c xs, H c = some (.tup xs) → c ≠ x := fun c xs r z => by subst z; rw [r] at mu; exact mu
  by_cases hb : b = x
  · subst hb; rw [upd_same] at q; cases q; exact new
  · rw [upd_ne hb] at q
    by_cases hbe : b = e
    · have q' : H b = some (.own x) := by
        rcases he with z | z
        · exact absurd (hbe.trans z) hb
        · rw [hbe]; exact z
      rw [q] at q'; cases q'
      obtain ⟨v, hv⟩ := heo
      exact ⟨v, by rw [hbe]; exact hv⟩
    · refine (ok b u q).stay (fun c v hc r => k c v ?_ r) (fun c r => by rw [upd_ne (nown c b r)]; exact r) fun c xs r => by rw [upd_ne (ntup c xs r)]; exact r
      rcases hc with rfl | hc
      · exact hbe
      · rintro rfl
        rcases he with z | z
        · exact nown c b hc z
        · rw [hc] at z; cases z; exact hb rfl
end
structure Un (fs ex : List Addr) (H H' : Hp) (h h' : Heap) : Prop where
  keep : ∀ b o, h.get? b = some o → H b = none → b ∉ fs → b ∉ ex → h'.get? b = some o
  slot : ∀ b o, h.get? b = some o → H b = none → b ∈ fs → b ∉ ex → ∃ sl, h'.get? b = some { o with slots := sl }
  free : ∀ b o, h.get? b = some o → H b = none → b ∉ ex → H' b = none
  there : ∀ b o, h.get? b = some o → b ∉ ex → ∃ o', h'.get? b = some o'
  tups : ∀ b xs, H b = some (.tup xs) → H' b = some (.tup xs)
  frzs : ∀ b o u, H b = some (.frz o u) → H' b = some (.frz o u)
  tbls : ∀ b ps, H b = some (.tbl ps) → ∃ more, H' b = some (.tbl (ps ++ more))
section
variable {fs fs' ex ex' : List Addr} {H H1 H2 : Hp} {h h1 h2 h' : Heap} {a x e : Addr} {o : HO}
theorem Un.any (u : Un fs ex H H1 h h1) {b : Addr} {ob : Obj} (q : h.get? b = some ob) (n : H b = none) (hx : b ∉ ex) : ∃ sl, h1.get? b = some { ob with slots := sl } := by
  by_cases hb : b ∈ fs
  · exact u.slot b ob q n hb hx
  · exact ⟨ob.slots, u.keep b ob q n hb hx⟩
theorem Un.trans (a : Un fs ex H H1 h h1) (b : Un fs ex H1 H2 h1 h2) : Un fs ex H H2 h h2 where
  keep := fun c ob q n hc hx => b.keep c ob (a.keep c ob q n hc hx) (a.free c ob q n hx) hc hx
  slot := fun c ob q n hc hx => by
    obtain ⟨sl, e1⟩ := a.slot c ob q n hc hx
    obtain ⟨sl', e2⟩ := b.slot c _ e1 (a.free c ob q n hx) hc hx
    exact ⟨sl', e2⟩
  free := fun c ob q n hx => by
    obtain ⟨o', e1⟩ := a.there c ob q hx
    exact b.free c o' e1 (a.free c ob q n hx) hx
  there := fun c ob q hx => by
    obtain ⟨o', e1⟩ := a.there c ob q hx
    exact b.there c o' e1 hx
  tups := fun c xs q => b.tups c xs (a.tups c xs q)
  frzs := fun c ob xs q => b.frzs c ob xs (a.frzs c ob xs q)
  tbls := fun c ps q => by
    obtain ⟨m1, e1⟩ := a.tbls c ps q
    obtain ⟨m2, e2⟩ := b.tbls c _ e1
    exact ⟨m1 ++ m2, by rw [e2, Array.append_assoc]⟩
theorem Un.kept (k : ∀ b u, h.get? b = some u → h'.get? b = some u) : Un fs ex H H h h' :=
  ⟨fun b ob q _ _ _ => k b ob q, fun b ob q _ _ _ => ⟨ob.slots, k b ob q⟩, fun _ _ _ n _ => n, fun b ob q _ => ⟨ob, k b ob q⟩, fun _ _ q => q, fun _ _ _ q => q, fun _ ps q => ⟨#[], by rw [q]; simp⟩⟩
theorem Un.refl : Un fs ex H H h h := Un.kept fun _ _ q => q
theorem Un.laid (k : ∀ b u, h.get? b = some u → h'.get? b = some u) (hp : h.objs.size ≤ a) (hn : H a = none) : Un fs ex H (upd H a o) h h' where
  keep := fun b u q _ _ _ => k b u q
  slot := fun b u q _ _ _ => ⟨u.slots, k b u q⟩
  free := fun b u q n _ => by rw [upd_ne (Nat.ne_of_lt (Nat.lt_of_lt_of_le (Heap.lt_size q) hp))]; exact n
  there := fun b u q _ => ⟨u, k b u q⟩
  tups := fun b xs q => by rw [upd_ne (ne_of_none q hn)]; exact q
  frzs := fun b u xs q => by rw [upd_ne (ne_of_none q hn)]; exact q
  tbls := fun b ps q => ⟨#[], by rw [upd_ne (ne_of_none q hn), q]; simp⟩
theorem Un.write (mu : Mut (H x)) (he : e = x ∨ H e = some (.own x)) (k : ∀ b u, b ≠ e → h.get? b = some u → h'.get? b = some u) (heo : ∃ u, h'.get? e = some u) : Un fs ex H (upd H x o) h h' := by
  have hx : ∀ b, H b = none → b ≠ x := fun b n z => by subst z; rw [n] at mu; exact mu
  have hb : ∀ b, H b = none → b ≠ e := fun b n z => by
    subst z
    rcases he with r | r
    · exact hx b n r
    · rw [n] at r; cases r
  have hm : ∀ b u, H b = some u → ¬ Mut (some u) → b ≠ x := fun b u q nm z => by subst z; rw [q] at mu; exact nm mu
  refine ⟨fun b u q n _ _ => k b u (hb b n) q, fun b u q n _ _ => ⟨u.slots, k b u (hb b n) q⟩, fun b u q n _ => by rw [upd_ne (hx b n)]; exact n, fun b u q _ => ?_,
    fun b xs q => by rw [upd_ne (hm b _ q fun z => z)]; exact q, fun b u xs q => by rw [upd_ne (hm b _ q fun z => z)]; exact q, fun b ps q => ⟨#[], by rw [upd_ne (hm b _ q fun z => z), q]; simp⟩⟩
  by_cases hbe : b = e
  · subst hbe; exact heo
  · exact ⟨u, k b u hbe q⟩
theorem Un.mono (u : Un fs ex H H1 h h1) (hs : ∀ b ∈ fs, b ∈ fs') (hx : ∀ b ∈ ex, b ∈ ex') : Un fs' ex' H H1 h h1 :=
  ⟨fun b ob q n hb he => u.keep b ob q n (fun z => hb (hs b z)) fun z => he (hx b z), fun _ _ q n _ he => u.any q n fun z => he (hx _ z), fun b ob q n he => u.free b ob q n fun z => he (hx b z), fun b ob q he => u.there b ob q fun z => he (hx b z), u.tups, u.frzs, u.tbls⟩
end
def trk (h : Heap) (H : Hp) : List Addr := (List.range h.objs.size).filter fun a => (H a).isSome
def hidT (h : Heap) (H : Hp) : Heap := PySem.W.hideAll h (trk h H)
theorem hidT_size (h : Heap) (H : Hp) : (hidT h H).objs.size = h.objs.size := PySem.W.hideAll_size _ _
theorem hidT_get {h : Heap} {H : Hp} {b : Addr} {o : Obj} (e : h.get? b = some o) (n : H b = none) : (hidT h H).get? b = some o :=
  PySem.W.hideAll_get _ e fun hm => by
    have q : (H b).isSome = true := (List.mem_filter.mp hm).2
    rw [n] at q; simp at q
theorem of_hidT {h : Heap} {H : Hp} {b : Addr} {o : Obj} (e : (hidT h H).get? b = some o) : h.get? b = some o ∧ H b = none := by
  have e' : h.get? b = some o := PySem.W.of_hideAll (trk h H) e
  refine ⟨e', ?_⟩
  cases q : H b with
  | none => rfl
  | some x =>
    have hm : b ∈ trk h H := List.mem_filter.mpr ⟨List.mem_range.mpr (Heap.lt_size e'), by simp [q]⟩
    have z : (hidT h H).get? b = none := PySem.W.hideAll_none (trk h H) hm
    rw [z] at e; cases e
def allNews (g h : Heap) (L : Addr) : List (Addr × Obj) := (List.range h.objs.size).filterMap fun a => if a = L ∨ (g.get? a).isSome = true then none else (h.get? a).map fun o => (a, o)
def rest (g h : Heap) (L d : Addr) : List (Addr × Obj) := (allNews g h L).filter fun p => decide (p.1 ≠ d)
end L2
namespace L2
open PySem PySem.Spec PyProof.Rows
/-- the module's facts, over the base: the heap at the law's entry without what is tracked there -/
structure Mod (K : PySem.W.Frag) (mg : Str → Option Value) (base : Heap) : Prop where
  kin : K.In base
  glob : base.Ns mainGlobals mg
  blt : ∃ mb, base.Ns builtinsNs mb ∧ ∀ x : Str, x ≠ "__name__" → mb x = bootBuiltins x
  nolimit : base.NoLimit
/-- the context: a def's body (or a comprehension's block) running. base: fixed through the whole law; s₀, H₀: the entry; outer: the frames whose slots others may change (a def's callers); stack: all frames that run;
   ex: iterators that were made ahead of the entry and are walked here (a comprehension's); fn: the names whose cells were made at the entry (a def: all; a comprehension's block: its own); calm: not within an except suite; pn: pins that every state bears; xe: what is wanted of an exception that leaves the code -/
structure Cx where
  prog : Program
  w : World
  K : PySem.W.Frag
  mg : Str → Option Value
  base : Heap
  A : Around
  N : List Str
  s_0 : Shared
  H_0 : Hp
  env : Env
  outer : List Env
  stack : List Env
  ex : List Addr
  fn : Str → Bool
  calm : Bool
  pn : List (Addr × Obj)
  xe : Value → Shared → Prop
/-- the callers' frames -/
def frs (l : List Env) : List Addr := l.filterMap (·.frame)
abbrev Cx.fs (X : Cx) : List Addr := frs X.outer
def Vis (sc : Scope) (x : Str) : Prop := sc.names.lookup x = some .local ∨ sc.names.lookup x = some .cell ∨ sc.names.lookup x = some .free
def Loc (sc : Scope) (x : Str) : Prop := sc.names.lookup x = some .local ∨ sc.names.lookup x = some .cell
def Look (env : Env) (h : Heap) (m : Str → Option Value) (x : Str) (u : Value) : Prop :=
  (env.kindOf x = some .local ∧ m x = some u) ∨ ((env.kindOf x = some .cell ∨ env.kindOf x = some .free) ∧ ∃ c, env.cells.lookup x = some c ∧ h.IsCell c (some u))
structure Cx.Ok (X : Cx) : Prop where
  mod : Mod X.K X.mg X.base
  kind : X.env.scope.kind = .function
  glob : X.env.globals = mainGlobals
  blt : X.env.builtins = builtinsNs
  above : X.s_0.heap.objs.size ≤ X.env.locals
  inj : ∀ x y c, X.env.cells.lookup x = some c → X.env.cells.lookup y = some c → x = y
  has : ∀ x, (X.env.kindOf x = some .cell ∨ X.env.kindOf x = some .free) → ∃ c, X.env.cells.lookup x = some c
  cab : ∀ x c, X.fn x = true → X.env.cells.lookup x = some c → X.s_0.heap.objs.size ≤ c
  hd : X.calm = true → X.A.handled = none
  frames : X.A.frames = some X.stack
  stk : X.stack = X.outer ∨ (X.stack = X.env :: X.outer ∧ X.env.frame = some X.env.locals)
  exf : ∀ b ∈ X.ex, b ≠ X.env.locals ∧ ∀ x c, X.env.cells.lookup x = some c → c ≠ b
  bs : ∀ b o, X.base.get? b = some o → X.s_0.heap.get? b = some o ∧ X.H_0 b = none
  bsz : X.base.objs.size ≤ X.s_0.heap.objs.size
  noex : ∀ b o, X.base.get? b = some o → b ∉ X.ex
  exfs : ∀ b ∈ X.ex, b ∉ X.fs
  funs : X.s_0.heap.FunFrames X.base X.outer
  frf : ∀ b ∈ X.fs, X.H_0 b = none
structure Inv (X : Cx) (pins : List (Addr × Obj)) (σ : List (Option V)) (H : Hp) (s : Shared) : Prop where
  ok : X.Ok
  os : s.os = X.s_0.os
  bare : AllBare s.gens
  base : Un X.fs X.ex X.H_0 H X.s_0.heap s.heap
  loc : ∃ m, s.heap.Ns X.env.locals m ∧ ∀ (i : Nat) (x : Str) (v : V), X.N[i]? = some x → σ[i]? = some (some v) → Vis X.env.scope x → ∃ u, RelV v u ∧ Look X.env s.heap m x u
  cell : ∀ x c, X.env.cells.lookup x = some c → ∃ v, s.heap.IsCell c v
  free : H X.env.locals = none
  freeC : ∀ x c, X.env.cells.lookup x = some c → H c = none
  pin : ∀ p ∈ X.pn ++ pins, s.heap.get? p.1 = some p.2 ∧ H p.1 = none ∧ p.1 ≠ X.env.locals ∧ p.1 ∉ X.fs ∧ ∀ v, p.2.data ≠ .cell v
  hok : HOk X.prog X.w H s.heap
  len : σ.length = X.N.length
section
variable {X : Cx} {pins : List (Addr × Obj)} {σ : List (Option V)} {H H' : Hp} {s : Shared} {h' : Heap}
theorem Cx.Ok.nofr (ok : X.Ok) {b : Addr} {o : Obj} (e : X.base.get? b = some o) : b ∉ X.fs := fun hb => by
  have := (ok.funs.mem hb).1
  rw [e] at this; cases this
theorem Inv.bs (I : Inv X pins σ H s) : ∀ b o, X.base.get? b = some o → s.heap.get? b = some o ∧ H b = none := fun b o e =>
  ⟨I.base.keep b o (I.ok.bs b o e).1 (I.ok.bs b o e).2 (I.ok.nofr e) (I.ok.noex b o e), I.base.free b o (I.ok.bs b o e).1 (I.ok.bs b o e).2 (I.ok.noex b o e)⟩
theorem Inv.bk (I : Inv X pins σ H s) : ∀ b o, X.base.get? b = some o → s.heap.get? b = some o := fun b o e => (I.bs b o e).1
theorem Inv.mod (I : Inv X pins σ H s) : Mod X.K X.mg X.base := I.ok.mod
theorem Inv.kIn (I : Inv X pins σ H s) : X.K.In s.heap := I.ok.mod.kin.keeps I.bk
theorem Inv.nolimit (I : Inv X pins σ H s) : s.heap.NoLimit := I.ok.mod.nolimit.keeps I.bk
/-- the frame over the base: for OpenK's rules (K.In X.base is I.mod.kin) -/
theorem Inv.fr (I : Inv X pins σ H s) : ∃ m, Fr X.base X.env.locals s.heap m :=
  let ⟨m, hn, _⟩ := I.loc
  ⟨m, hn, I.bk, Nat.le_trans I.ok.bsz I.ok.above⟩
theorem Inv.lt (I : Inv X pins σ H s) : X.env.locals < s.heap.objs.size := let ⟨_, hn, _⟩ := I.loc; hn.lt
theorem Inv.sz (I : Inv X pins σ H s) : X.s_0.heap.objs.size ≤ s.heap.objs.size := Nat.le_trans I.ok.above (Nat.le_of_lt I.lt)
theorem Inv.nofs (I : Inv X pins σ H s) {a : Addr} (h : s.heap.objs.size ≤ a) : a ∉ X.fs := fun hb => by
  obtain ⟨_, o, ho, _⟩ := I.ok.funs.mem hb
  exact absurd (Nat.lt_of_lt_of_le (Heap.lt_size ho) (Nat.le_trans I.sz h)) (Nat.lt_irrefl _)
theorem Inv.cne (I : Inv X pins σ H s) : ∀ x c, X.env.cells.lookup x = some c → c ≠ X.env.locals := fun x c e z => by
  obtain ⟨v, o, ho, hd⟩ := I.cell x c e
  obtain ⟨m, ⟨o', es, ep, ho', hd', _⟩, _⟩ := I.loc
  rw [z, ho'] at ho; cases ho; rw [hd'] at hd; cases hd
theorem Inv.funs (I : Inv X pins σ H s) : s.heap.FunFrames X.base X.outer := by
  have all : ∀ (l : List Env), (∀ b ∈ frs l, b ∈ X.fs) → X.s_0.heap.FunFrames X.base l → s.heap.FunFrames X.base l := by
    intro l
    induction l with
    | nil => intro _ _; trivial
    | cons env r ih =>
      intro hs hl
      obtain ⟨hk, ⟨L, o, hf, hn, ho, hd⟩, hr⟩ := hl
      have hL : L ∈ X.fs := hs L (by unfold frs; rw [List.filterMap_cons, hf]; exact List.mem_cons_self)
      obtain ⟨sl, e⟩ := I.base.slot L o ho (I.ok.frf L hL) hL fun z => I.ok.exfs L z hL
      exact ⟨hk, ⟨L, _, hf, hn, e, hd⟩, ih (fun b hb => hs b (by unfold frs; rw [List.filterMap_cons, hf]; exact List.mem_cons_of_mem _ hb)) hr⟩
  exact all X.outer (fun _ hb => hb) I.ok.funs
/-- the frames that run, for a call -/
theorem Inv.stack (I : Inv X pins σ H s) : s.heap.FunFrames X.base X.stack := by
  rcases I.ok.stk with e | ⟨e, hf⟩
  · rw [e]; exact I.funs
  · rw [e]
    obtain ⟨m, hn, _⟩ := I.loc
    refine .cons (by rw [I.ok.kind]; decide) hf hn ?_ I.funs
    exact Heap.get?_none_of_le (Nat.le_trans I.ok.bsz I.ok.above)
theorem Inv.stkSub (I : Inv X pins σ H s) : ∀ b ∈ frs X.stack, b ∈ X.env.locals :: X.fs := fun b hb => by
  rcases I.ok.stk with e | ⟨e, hf⟩
  · rw [e] at hb; exact List.mem_cons_of_mem _ hb
  · rw [e] at hb
    unfold frs at hb
    rw [List.filterMap_cons, hf] at hb
    exact hb
theorem Inv.stkFree (I : Inv X pins σ H s) : ∀ b ∈ frs X.stack, H b = none := fun b hb => by
  rcases List.mem_cons.mp (I.stkSub b hb) with e | hb
  · rw [e]; exact I.free
  · obtain ⟨_, o, ho, _⟩ := I.ok.funs.mem hb
    exact I.base.free b o ho (I.ok.frf b hb) fun z => I.ok.exfs b z hb
/-- THE STEP: the untracked objects but the frame and the records at ch are kept (the callers' frames up to slots), the frame's map is kept, the new abstract heap is held -/
theorem Inv.step {g' : Array GenState} {t' : Nat} {d' : Drawn} {ch : List Addr} (I : Inv X pins σ H s)
    (hch : ∀ b ∈ ch, (b ∈ X.ex ∨ X.s_0.heap.objs.size ≤ b) ∧ b ≠ X.env.locals ∧ (∀ x c, X.env.cells.lookup x = some c → c ≠ b) ∧ ∀ p ∈ X.pn ++ pins, p.1 ≠ b)
    (keep : ∀ b o, b ≠ X.env.locals → b ∉ X.fs → b ∉ ch → s.heap.get? b = some o → H b = none → h'.get? b = some o)
    (slot : ∀ b o, b ≠ X.env.locals → b ∈ X.fs → b ∉ ch → s.heap.get? b = some o → H b = none → ∃ sl, h'.get? b = some { o with slots := sl }) (free : ∀ b o, b ∉ ch → s.heap.get? b = some o → H b = none → H' b = none)
    (there : ∀ b o, b ∉ ch → s.heap.get? b = some o → ∃ o', h'.get? b = some o')
    (tups : ∀ b xs, H b = some (.tup xs) → H' b = some (.tup xs)) (frzs : ∀ b o u, H b = some (.frz o u) → H' b = some (.frz o u)) (tbls : ∀ b ps, H b = some (.tbl ps) → ∃ more, H' b = some (.tbl (ps ++ more)))
    (ns : ∀ m, s.heap.Ns X.env.locals m → h'.Ns X.env.locals m) (hok : HOk X.prog X.w H' h') (hg : AllBare g') :
    Inv X pins σ H' { s with heap := h', gens := g', drawn := d', toks := t' } := by
  have neL : ∀ b o, X.s_0.heap.get? b = some o → b ≠ X.env.locals := fun b o e => Nat.ne_of_lt (Nat.lt_of_lt_of_le (Heap.lt_size e) I.ok.above)
  have neC : ∀ b o, X.s_0.heap.get? b = some o → b ∉ X.ex → b ∉ ch := fun b o e hx hb => by
    rcases (hch b hb).1 with z | z
    · exact hx z
    · exact absurd (Nat.lt_of_lt_of_le (Heap.lt_size e) z) (Nat.lt_irrefl _)
  have cellK : ∀ x c, X.env.cells.lookup x = some c → ∀ v, s.heap.IsCell c v → h'.IsCell c v := fun x c e v ⟨o, ho, hd⟩ => by
    have nch : c ∉ ch := fun z => (hch c z).2.2.1 x c e rfl
    by_cases hc : c ∈ X.fs
    · obtain ⟨sl, q⟩ := slot c o (I.cne x c e) hc nch ho (I.freeC x c e)
      exact ⟨_, q, hd⟩
    · exact ⟨o, keep c o (I.cne x c e) hc nch ho (I.freeC x c e), hd⟩
  refine ⟨I.ok, I.os, hg, ⟨fun b o e n hb hx => ?_, fun b o e n hb hx => ?_, fun b o e n hx => ?_, fun b o e hx => ?_, fun b xs e => tups b xs (I.base.tups b xs e), fun b o xs e => frzs b o xs (I.base.frzs b o xs e), fun b ps e => ?_⟩, ?_, fun x c e => ?_, ?_, fun x c e => ?_, fun p hp => ?_, hok, I.len⟩
  · exact keep b o (neL b o e) hb (neC b o e hx) (I.base.keep b o e n hb hx) (I.base.free b o e n hx)
  · obtain ⟨sl, e1⟩ := I.base.slot b o e n hb hx
    obtain ⟨sl', e2⟩ := slot b _ (neL b o e) hb (neC b o e hx) e1 (I.base.free b o e n hx)
    exact ⟨sl', e2⟩
  · obtain ⟨o', e1⟩ := I.base.there b o e hx
    exact free b o' (neC b o e hx) e1 (I.base.free b o e n hx)
  · obtain ⟨o', e1⟩ := I.base.there b o e hx
    exact there b o' (neC b o e hx) e1
  · obtain ⟨m1, e1⟩ := I.base.tbls b ps e
    obtain ⟨m2, e2⟩ := tbls b _ e1
    exact ⟨m1 ++ m2, by rw [e2, Array.append_assoc]⟩
  · obtain ⟨m, hn, hl⟩ := I.loc
    refine ⟨m, ns m hn, fun i x v e1 e2 e3 => ?_⟩
    obtain ⟨u, r, l⟩ := hl i x v e1 e2 e3
    refine ⟨u, r, ?_⟩
    rcases l with l | ⟨k, c, e, z⟩
    · exact .inl l
    · exact .inr ⟨k, c, e, cellK x c e _ z⟩
  · obtain ⟨v, z⟩ := I.cell x c e
    exact ⟨v, cellK x c e v z⟩
  · obtain ⟨m, ⟨o, _, _, ho, _⟩, _⟩ := I.loc
    exact free _ o (fun z => (hch _ z).2.1 rfl) ho I.free
  · obtain ⟨v, o, ho, hd⟩ := I.cell x c e
    exact free c o (fun z => (hch c z).2.2.1 x c e rfl) ho (I.freeC x c e)
  · obtain ⟨e, n, ne, nf, d⟩ := I.pin p hp
    have nch : p.1 ∉ ch := fun z => (hch p.1 z).2.2.2 p hp rfl
    exact ⟨keep p.1 p.2 ne nf nch e n, free p.1 p.2 nch e n, ne, nf, d⟩
/-- .. where the frame's own object is kept too -/
theorem Inv.un {t' : Nat} (I : Inv X pins σ H s) (u : Un X.fs [] H H' s.heap h') (hok : HOk X.prog X.w H' h') : Inv X pins σ H' { s with heap := h', toks := t' } := by
  obtain ⟨m, ⟨o, es, ep, ho, r⟩, _⟩ := id I.loc
  obtain ⟨sl, hL⟩ := u.any ho I.free (by simp)
  exact I.step (g' := s.gens) (d' := s.drawn) (ch := []) (fun _ z => nomatch z) (fun b o _ hb _ e n => u.keep b o e n hb (by simp)) (fun b o _ hb _ e n => u.slot b o e n hb (by simp)) (fun b o _ e n => u.free b o e n (by simp)) (fun b o _ e => u.there b o e (by simp)) u.tups u.frzs u.tbls (fun m' hm => by
    obtain ⟨o', es', ep', ho', r'⟩ := hm
    rw [ho] at ho'; cases ho'
    exact ⟨_, es', ep', hL, r'⟩) hok I.bare
/-- behind a call (or a comprehension's block): the slots of this frame may have changed too, the records at ch may have turned -/
theorem Inv.call {g' : Array GenState} {t' : Nat} {d' : Drawn} {ch : List Addr} (I : Inv X pins σ H s) (u : Un (frs X.stack) ch H H' s.heap h') (hok : HOk X.prog X.w H' h') (hg : AllBare g')
    (hch : ∀ b ∈ ch, (b ∈ X.ex ∨ X.s_0.heap.objs.size ≤ b) ∧ b ≠ X.env.locals ∧ (∀ x c, X.env.cells.lookup x = some c → c ≠ b) ∧ ∀ p ∈ X.pn ++ pins, p.1 ≠ b) :
    Inv X pins σ H' { s with heap := h', gens := g', drawn := d', toks := t' } := by
  obtain ⟨m, ⟨o, es, ep, ho, r⟩, _⟩ := id I.loc
  obtain ⟨sl, hL⟩ := u.any ho I.free fun z => (hch _ z).2.1 rfl
  exact I.step (ch := ch) hch (fun b o hL hb hc e n => u.keep b o e n (fun z => (List.mem_cons.mp (I.stkSub b z)).elim hL hb) hc) (fun b o _ _ hc e n => u.any e n hc) (fun b o hc e n => u.free b o e n hc) (fun b o hc e => u.there b o e hc) u.tups u.frzs u.tbls (fun m' hm => by
    obtain ⟨o', es', ep', ho', r'⟩ := hm
    rw [ho] at ho'; cases ho'
    exact ⟨_, es', ep', hL, r'⟩) hok hg
/-- an untracked record of ours (an iterator) has turned -/
theorem Inv.turned {t' : Nat} {it : Addr} (I : Inv X pins σ H s) (k : ∀ b o, b ≠ it → s.heap.get? b = some o → h'.get? b = some o) (hn : H it = none) (hL : it ≠ X.env.locals)
    (h1 : it ∈ X.ex ∨ X.s_0.heap.objs.size ≤ it) (h2 : ∀ x c, X.env.cells.lookup x = some c → c ≠ it) (h3 : ∀ p ∈ X.pn ++ pins, p.1 ≠ it) : Inv X pins σ H { s with heap := h', toks := t' } := by
  have nit : ∀ b u, H b = some u → b ≠ it := fun b u e z => by rw [z, hn] at e; cases e
  refine I.step (g' := s.gens) (d' := s.drawn) (ch := [it]) (fun b hb => ?_) (fun b o _ _ hc e _ => k b o (fun z => hc (by simp [z])) e) (fun b o _ _ hc e _ => ⟨o.slots, k b o (fun z => hc (by simp [z])) e⟩) (fun _ _ _ _ n => n)
    (fun b o hc e => ⟨o, k b o (fun z => hc (by simp [z])) e⟩) (fun _ _ e => e) (fun _ _ _ e => e) (fun b ps e => ⟨#[], by rw [e]; simp⟩) (fun m hm => ?_) (fun b u e => ?_) I.bare
  · have e : b = it := by simpa using hb
    subst e
    exact ⟨h1, hL, h2, h3⟩
  · obtain ⟨o, es, ep, ho, r⟩ := hm
    exact ⟨o, es, ep, k _ o (Ne.symm hL) ho, r⟩
  · refine (I.hok b u e).stay (fun c v hc q => k c v ?_ q) (fun _ q => q) fun _ _ q => q
    rcases hc with z | z
    · rw [z]; exact nit b u e
    · exact nit c _ z
theorem Inv.tok (I : Inv X pins σ H s) (t : Nat) : Inv X pins σ H { s with toks := t } := I.un (h' := s.heap) (t' := t) Un.refl I.hok
/-- all objects kept -/
theorem Inv.kept {t' : Nat} (I : Inv X pins σ H s) (k : ∀ b u, s.heap.get? b = some u → h'.get? b = some u) : Inv X pins σ H { s with heap := h', toks := t' } := I.un (Un.kept k) (I.hok.kept k)
/-- a new object laid and tracked -/
theorem Inv.laid {a : Addr} {o : HO} {t' : Nat} (I : Inv X pins σ H s) (k : ∀ b u, s.heap.get? b = some u → h'.get? b = some u) (hp : s.heap.objs.size ≤ a) (new : ObjOk X.prog X.w (upd H a o) h' a o) :
    Inv X pins σ (upd H a o) { s with heap := h', toks := t' } := I.un (Un.laid k hp (I.hok.fresh hp)) (I.hok.laid k hp new)
/-- an object written -/
theorem Inv.write {x e : Addr} {o : HO} {t' : Nat} (I : Inv X pins σ H s) (mu : Mut (H x)) (he : e = x ∨ H e = some (.own x)) (k : ∀ b u, b ≠ e → s.heap.get? b = some u → h'.get? b = some u) (heo : ∃ u, h'.get? e = some u)
    (new : ObjOk X.prog X.w (upd H x o) h' x o) : Inv X pins σ (upd H x o) { s with heap := h', toks := t' } := I.un (Un.write mu he k heo) (I.hok.write mu he k heo new)
/-- forgetting slots, pins -/
theorem Inv.weak {σ' : List (Option V)} (I : Inv X pins σ H s) (hl : σ'.length = σ.length) (w : ∀ (i : Nat) v, σ'[i]? = some (some v) → σ[i]? = some (some v)) : Inv X pins σ' H s :=
  ⟨I.ok, I.os, I.bare, I.base, let ⟨m, hn, hl'⟩ := I.loc; ⟨m, hn, fun i x v e1 e2 e3 => hl' i x v e1 (w i v e2) e3⟩, I.cell, I.free, I.freeC, I.pin, I.hok, hl.trans I.len⟩
theorem Inv.pins_of {pins' : List (Addr × Obj)} (I : Inv X pins σ H s) (h : ∀ p ∈ pins', s.heap.get? p.1 = some p.2 ∧ H p.1 = none ∧ p.1 ≠ X.env.locals ∧ p.1 ∉ X.fs ∧ ∀ v, p.2.data ≠ .cell v) : Inv X pins' σ H s :=
  ⟨I.ok, I.os, I.bare, I.base, I.loc, I.cell, I.free, I.freeC, fun p hp => (List.mem_append.mp hp).elim (fun z => I.pin p (List.mem_append_left _ z)) (h p), I.hok, I.len⟩
theorem nodup_ix {N : List Str} (hN : N.Nodup) {i j : Nat} {x : Str} (a : N[i]? = some x) (b : N[j]? = some x) : i = j := by
  obtain ⟨h1, e1⟩ := List.getElem?_eq_some_iff.mp a
  obtain ⟨h2, e2⟩ := List.getElem?_eq_some_iff.mp b
  exact (List.getElem_inj hN).mp (e1.trans e2.symm)
/-- a name is stored; what changed -/
theorem store_ok2 {M : Model} {A : Around} {E : Value → Shared → Prop} {i : Nat} {x : Str} {v : V} {u : Value} {Q : Unit → Shared → Prop} (I : Inv X pins σ H s) (hN : X.N.Nodup) (hi : X.N[i]? = some x) (hx : Loc X.env.scope x) (r : RelV v u)
    (h : ∀ s', Inv X pins (σ.set i (some v)) H s' → (∃ a, Heap.SameBut a s.heap s'.heap ∧ (a = X.env.locals ∨ X.env.cells.lookup x = some a)) → Q () s') (hf : X.fn x = true ∨ X.env.scope.names.lookup x = some .local := by first | exact .inl rfl | exact .inr rfl | assumption) : wpAny M A (storeName X.env x u) Q E s := by
  obtain ⟨m, hn, hl⟩ := id I.loc
  have hcls : (X.env.scope.kind == .class || (X.env.scope.kind == .module && X.env.locals != X.env.globals)) = false := by rw [I.ok.kind]; rfl
  have hiσ : i < σ.length := by rw [I.len]; exact (List.getElem?_eq_some_iff.mp hi).1
  have cne := I.cne
  have tracked : ∀ {a : Addr} {h' : Heap}, (∃ o, s.heap.get? a = some o ∧ H a = none) → Heap.SameBut a s.heap h' → HOk X.prog X.w H h' := fun {a h'} ha hs b ob e => by
    obtain ⟨_, _, hfree⟩ := ha
    refine (I.hok b ob e).stay (fun c w' hc q => (hs.2 c ?_).trans q) (fun _ q => q) fun _ _ q => q
    rintro rfl
    rcases hc with rfl | hc
    · rw [hfree] at e; cases e
    · rw [hfree] at hc; cases hc
  rcases hx with hk | hk
  · refine wpAny_storeName_local hk hn (fun h' hn' hs => ?_) hcls
    obtain ⟨oL, _, _, hoL, _⟩ := id hn
    refine h _ ⟨I.ok, I.os, I.bare, ⟨fun b o e n hb hx => ?_, fun b o e n hb hx => ?_, I.base.free, fun b o e hx => ?_, I.base.tups, I.base.frzs, I.base.tbls⟩, ⟨_, hn', fun j y v' e1 e2 e3 => ?_⟩, fun y c e => ?_, I.free, I.freeC, fun p hp => ?_, tracked ⟨oL, hoL, I.free⟩ hs, by simpa using I.len⟩ ⟨_, hs, .inl rfl⟩
    · exact (hs.2 b (Nat.ne_of_lt (Nat.lt_of_lt_of_le (Heap.lt_size e) I.ok.above))).trans (I.base.keep b o e n hb hx)
    · obtain ⟨sl, e1⟩ := I.base.slot b o e n hb hx
      exact ⟨sl, (hs.2 b (Nat.ne_of_lt (Nat.lt_of_lt_of_le (Heap.lt_size e) I.ok.above))).trans e1⟩
    · obtain ⟨o', e1⟩ := I.base.there b o e hx
      exact ⟨o', (hs.2 b (Nat.ne_of_lt (Nat.lt_of_lt_of_le (Heap.lt_size e) I.ok.above))).trans e1⟩
    · by_cases hj : j = i
      · subst hj
        rw [hi] at e1; cases e1
        rw [List.getElem?_set_self hiσ] at e2
        cases e2
        exact ⟨u, r, .inl ⟨hk, by simp⟩⟩
      · rw [List.getElem?_set_ne (Ne.symm hj)] at e2
        obtain ⟨u', r', q⟩ := hl j y v' e1 e2 e3
        refine ⟨u', r', ?_⟩
        rcases q with ⟨k, e⟩ | ⟨k, c, e, z⟩
        · refine .inl ⟨k, ?_⟩
          have : y ≠ x := fun e => hj (nodup_ix hN e1 (e ▸ hi))
          simp [this, e]
        · exact .inr ⟨k, c, e, z.sameBut hs (cne y c e)⟩
    · obtain ⟨w', z⟩ := I.cell y c e
      exact ⟨w', z.sameBut hs (cne y c e)⟩
    · obtain ⟨e, n, ne, nf, d⟩ := I.pin p hp
      exact ⟨(hs.2 p.1 ne).trans e, n, ne, nf, d⟩
  · have hfn : X.fn x = true := by
      rcases hf with z | z
      · exact z
      · rw [z] at hk; cases hk
    obtain ⟨c, hc⟩ := I.ok.has x (.inl hk)
    obtain ⟨w', z⟩ := I.cell x c hc
    refine wpAny_storeName_cell I.ok.kind hk hc z (fun h' hc' hs => ?_)
    obtain ⟨oc, hoc, hocd⟩ := id z
    refine h { s with heap := h' } ⟨I.ok, I.os, I.bare, ⟨fun b o e n hb hx => ?_, fun b o e n hb hx => ?_, I.base.free, fun b o e hx => ?_, I.base.tups, I.base.frzs, I.base.tbls⟩, ⟨m, hn.sameBut hs (Ne.symm (cne x c hc)), fun j y v' e1 e2 e3 => ?_⟩, fun y c' e => ?_, I.free, I.freeC, fun p hp => ?_, tracked ⟨oc, hoc, I.freeC x c hc⟩ hs, by simpa using I.len⟩ ⟨c, hs, .inr hc⟩
    · exact (hs.2 b (Nat.ne_of_lt (Nat.lt_of_lt_of_le (Heap.lt_size e) (I.ok.cab x c hfn hc)))).trans (I.base.keep b o e n hb hx)
    · obtain ⟨sl, e1⟩ := I.base.slot b o e n hb hx
      exact ⟨sl, (hs.2 b (Nat.ne_of_lt (Nat.lt_of_lt_of_le (Heap.lt_size e) (I.ok.cab x c hfn hc)))).trans e1⟩
    · obtain ⟨o', e1⟩ := I.base.there b o e hx
      exact ⟨o', (hs.2 b (Nat.ne_of_lt (Nat.lt_of_lt_of_le (Heap.lt_size e) (I.ok.cab x c hfn hc)))).trans e1⟩
    · by_cases hj : j = i
      · subst hj
        rw [hi] at e1; cases e1
        rw [List.getElem?_set_self hiσ] at e2
        cases e2
        exact ⟨u, r, .inr ⟨.inl hk, c, hc, hc'⟩⟩
      · rw [List.getElem?_set_ne (Ne.symm hj)] at e2
        obtain ⟨u', r', q⟩ := hl j y v' e1 e2 e3
        refine ⟨u', r', ?_⟩
        rcases q with q | ⟨k, c', e, z'⟩
        · exact .inl q
        · refine .inr ⟨k, c', e, z'.sameBut hs ?_⟩
          rintro rfl
          exact hj (nodup_ix hN e1 (I.ok.inj _ _ _ e hc ▸ hi))
    · by_cases hcc : c' = c
      · subst hcc; exact ⟨_, hc'⟩
      · obtain ⟨w2, z2⟩ := I.cell y c' e
        exact ⟨w2, z2.sameBut hs hcc⟩
    · obtain ⟨e, n, ne, nf, d⟩ := I.pin p hp
      refine ⟨(hs.2 p.1 ?_).trans e, n, ne, nf, d⟩
      intro q
      rw [q, hoc] at e
      have q' : oc = p.2 := Option.some.inj e
      exact d w' (by rw [← q']; exact hocd)
theorem store_ok {M : Model} {A : Around} {E : Value → Shared → Prop} {i : Nat} {x : Str} {v : V} {u : Value} {Q : Unit → Shared → Prop} (I : Inv X pins σ H s) (hN : X.N.Nodup) (hi : X.N[i]? = some x) (hx : Loc X.env.scope x) (r : RelV v u)
    (h : ∀ s', Inv X pins (σ.set i (some v)) H s' → Q () s') (hf : X.fn x = true ∨ X.env.scope.names.lookup x = some .local := by first | exact .inl rfl | exact .inr rfl | assumption) : wpAny M A (storeName X.env x u) Q E s :=
  store_ok2 I hN hi hx r (fun s' I' _ => h s' I') hf
/-- behind a call or a block, the state as it is -/
theorem Inv.call' {s' : Shared} {ch : List Addr} (I : Inv X pins σ H s) (ho : s'.os = s.os) (u : Un (frs X.stack) ch H H' s.heap s'.heap) (hok : HOk X.prog X.w H' s'.heap) (hg : AllBare s'.gens)
    (hch : ∀ b ∈ ch, (b ∈ X.ex ∨ X.s_0.heap.objs.size ≤ b) ∧ b ≠ X.env.locals ∧ (∀ x c, X.env.cells.lookup x = some c → c ≠ b) ∧ ∀ p ∈ X.pn ++ pins, p.1 ≠ b) : Inv X pins σ H' s' := by
  obtain ⟨h', g', d', t', o'⟩ := s'
  have e : o' = s.os := ho
  subst e
  exact I.call (g' := g') (t' := t') (d' := d') u hok hg hch
end
/-- an exception: its class, its own dict's address (where it has one), the abstract heap behind it -/
abbrev XK := Value → Option Addr → Hp → Prop
abbrev St := List (Option V)
abbrev VK := V → Hp → Prop
/-- an expression's reading; a test's; an argument list's -/
abbrev TE := St → Hp → VK → Prop
abbrev TT := St → Hp → (Bool → Hp → Prop) → Prop
abbrev TA := St → Hp → (List V → Hp → Prop) → Prop
/-- what is wanted behind a statement -/
structure Ends where
  nx : St → Hp → Prop
  rt : VK
  bk : St → Hp → Prop := fun _ _ => False
  ct : St → Hp → Prop := fun _ _ => False
abbrev TS := Ends → St → Hp → Prop
def EP (X : Cx) (pins : List (Addr × Obj)) (σ : St) (Q : VK) (u : Value) (s' : Shared) : Prop := ∃ v H', Inv X pins σ H' s' ∧ RelV v u ∧ Q v H'
def TP (X : Cx) (pins : List (Addr × Obj)) (σ : St) (Q : Bool → Hp → Prop) (b : Bool) (s' : Shared) : Prop := ∃ H', Inv X pins σ H' s' ∧ Q b H'
def AP (X : Cx) (pins : List (Addr × Obj)) (σ : St) (Q : List V → Hp → Prop) (us : List Value) (s' : Shared) : Prop := ∃ vs H', Inv X pins σ H' s' ∧ Vals vs us ∧ Q vs H'
def SP (X : Cx) (pins : List (Addr × Obj)) (D : Ends) (f : Flow) (s' : Shared) : Prop :=
  match f with
  | .next => ∃ σ' H', Inv X pins σ' H' s' ∧ D.nx σ' H'
  | .brk => ∃ σ' H', Inv X pins σ' H' s' ∧ D.bk σ' H'
  | .cont => ∃ σ' H', Inv X pins σ' H' s' ∧ D.ct σ' H'
  | .ret u => ∃ v σ' H', Inv X pins σ' H' s' ∧ RelV v u ∧ D.rt v H'
def PE (X : Cx) (e : Expr) (t : TE) : Prop :=
  ∀ (pins : List (Addr × Obj)) (s : Shared) (σ : St) (H : Hp) (Q : VK), Inv X pins σ H s → t σ H Q → wpAny (model X.prog X.w) X.A (eval e X.env) (EP X pins σ Q) X.xe s
def PT (X : Cx) (e : Expr) (t : TT) : Prop :=
  ∀ (pins : List (Addr × Obj)) (s : Shared) (σ : St) (H : Hp) (Q : Bool → Hp → Prop), Inv X pins σ H s → t σ H Q → wpAny (model X.prog X.w) X.A (isTrue e X.env (eval e X.env)) (TP X pins σ Q) X.xe s
/-- a test whatever its 'whole' is (and, or) -/
def PW (X : Cx) (e : Expr) (t : TT) : Prop :=
  ∀ (whole : Sem Value) (pins : List (Addr × Obj)) (s : Shared) (σ : St) (H : Hp) (Q : Bool → Hp → Prop), Inv X pins σ H s → t σ H Q → wpAny (model X.prog X.w) X.A (isTrue e X.env whole) (TP X pins σ Q) X.xe s
theorem PW.pt {X : Cx} {e : Expr} {t : TT} (h : PW X e t) : PT X e t := h _
/-- an argument list (no star), from the left -/
def PA (X : Cx) (es : List Expr) (t : TA) : Prop :=
  ∀ (pos : Pos) (pins : List (Addr × Obj)) (s : Shared) (σ : St) (H : Hp) (Q : List V → Hp → Prop), Inv X pins σ H s → t σ H Q → wpAny (model X.prog X.w) X.A (spliced (backTo pos (starEach es X.env))) (AP X pins σ Q) X.xe s
def PS (X : Cx) (st : Stmt) (t : TS) : Prop :=
  ∀ (pins : List (Addr × Obj)) (s : Shared) (σ : St) (H : Hp) (D : Ends), Inv X pins σ H s → t D σ H → wpAny (model X.prog X.w) X.A (exec st X.env) (SP X pins D) X.xe s
def PSs (X : Cx) (st : List Stmt) (t : TS) : Prop :=
  ∀ (pins : List (Addr × Obj)) (s : Shared) (σ : St) (H : Hp) (D : Ends), Inv X pins σ H s → t D σ H → wpAny (model X.prog X.w) X.A (execs st X.env) (SP X pins D) X.xe s
/-- weaken the end -/
theorem thn {α : Type} {t : Sem α} {Q Q' : α → Shared → Prop} {M : Model} {A : Around} {E : Value → Shared → Prop} {s : Shared} (h : wpAny M A t Q E s) (hQ : ∀ a s, Q a s → Q' a s) : wpAny M A t Q' E s := wpAny_mono h hQ fun _ _ x => x
end L2
namespace L2
open PySem PySem.Spec PyProof.Rows
section
variable {X : Cx}
def tVar (i : Nat) : TE := fun σ H Q => ∃ v, σ[i]? = some (some v) ∧ Q v H
def tC (v : V) : TE := fun _ H Q => Q v H
theorem pe_var {i : Nat} {x : Str} {pos : Pos} (hN : X.N[i]? = some x) (hv : Vis X.env.scope x) (hd : (x == ("__debug__" : Str)) = false := by decide) (hcd : (x == ("__classdict__" : Str)) = false := by decide) : PE X (.Name x pos) (tVar i) := by
  intro pins s σ H Q I h
  obtain ⟨v, e, h⟩ := h
  obtain ⟨m, hn, hl⟩ := I.loc
  obtain ⟨u, r, l⟩ := hl i x v hN e hv
  have fin : EP X pins σ Q u s := ⟨v, H, I, r, h⟩
  rcases l with ⟨hk, hm⟩ | ⟨hk, c, hc, hcell⟩
  · exact wpAny_Name (wpAny_loadName_local I.ok.kind hk hn hm fin) hd
  · rcases hk with hk | hk
    · exact wpAny_Name (wpAny_loadName_cell I.ok.kind hk hc hcell fin) hd
    · exact wpAny_Name (wpAny_loadName_free I.ok.kind hk hc hcell fin hcd) hd
theorem pe_int {i j pos} : PE X (.Constant (.int i) j pos) (tC (.int i)) := fun _ _ _ H _ I h => wpAny_Constant_int ⟨.int i, H, I.tok _, ⟨_, rfl⟩, h⟩
theorem pe_bl {b j pos} : PE X (.Constant (.bool b) j pos) (tC (.bl b)) := fun _ _ _ H _ I h => Constant_bool ⟨.bl b, H, I, rfl, h⟩
theorem pe_non {j pos} : PE X (.Constant .none j pos) (tC .non) := fun _ _ _ H _ I h => Constant_none ⟨.non, H, I, rfl, h⟩
theorem pe_str {x j pos} : PE X (.Constant (.str x) j pos) (tC (.str x)) := fun _ _ _ H _ I h => Calls.Constant_str ⟨.str x, H, I.tok _, ⟨_, rfl⟩, h⟩
/-- a global name of the def -/
def Gl (X : Cx) (x : Str) : Prop := X.env.kindOf x = some .globalImplicit
theorem ld_glob {E : Value → Shared → Prop} {pins : List (Addr × Obj)} {s : Shared} {σ : St} {H : Hp} {x : Str} {u : Value} {pos : Pos} {Q : Value → Shared → Prop} (I : Inv X pins σ H s) (hg : Gl X x) (hm : X.mg x = some u) (h : Q u s)
    (hd : (x == ("__debug__" : Str)) = false := by decide) : wpAny (model X.prog X.w) X.A (eval (.Name x pos) X.env) Q E s :=
  Calls.Name_function_global I.ok.kind hg (Calls.loadGlobal_global (by rw [I.ok.glob]; exact I.mod.glob.keeps I.bk) hm h) hd
theorem ld_blt {E : Value → Shared → Prop} {pins : List (Addr × Obj)} {s : Shared} {σ : St} {H : Hp} {x : Str} {u : Value} {pos : Pos} {Q : Value → Shared → Prop} (I : Inv X pins σ H s) (hg : Gl X x) (hm : X.mg x = none) (hv : bootBuiltins x = some u) (h : Q u s)
    (hn : x ≠ "__name__" := by decide) (hd : (x == ("__debug__" : Str)) = false := by decide) : wpAny (model X.prog X.w) X.A (eval (.Name x pos) X.env) Q E s := by
  obtain ⟨mb, h1, h2⟩ := I.mod.blt
  exact Calls.Name_function_global I.ok.kind hg (Calls.loadGlobal_builtin (by rw [I.ok.glob]; exact I.mod.glob.keeps I.bk) hm (by rw [I.ok.blt]; exact h1.keeps I.bk) ((h2 x hn).trans hv) h) hd
/-- a module's constant, a class, a function, as a value -/
theorem pe_glob {x : Str} {v : V} {u : Value} {pos : Pos} (hg : Gl X x) (hm : X.mg x = some u) (r : RelV v u) (hd : (x == ("__debug__" : Str)) = false := by decide) : PE X (.Name x pos) (tC v) :=
  fun _ _ _ H _ I h => ld_glob I hg hm ⟨v, H, I, r, h⟩ hd
theorem pe_bltn {x : Str} {v : V} {u : Value} {pos : Pos} (hg : Gl X x) (hm : X.mg x = none) (hv : bootBuiltins x = some u) (r : RelV v u) (hn : x ≠ "__name__" := by decide) (hd : (x == ("__debug__" : Str)) = false := by decide) : PE X (.Name x pos) (tC v) :=
  fun _ _ _ H _ I h => ld_blt I hg hm hv ⟨v, H, I, r, h⟩ hn hd
variable {a b : Expr} {ta tb : TE} {pos : Pos}
/-- a comparison as a value, as a test -/
def tB (t : TE) : TT := fun σ H Q => t σ H fun x H1 => ∃ c, x = .bl c ∧ Q c H1
/-- an expression whose value is a bool, as a test -/
theorem pt_val {e : Expr} {t : TE} (h : PE X e t) (he : ∀ whole, isTrue e X.env whole = (do let v ← whole; standAt e.pos; holding [v] (truthy v)) := by intro _; rfl) : PT X e (tB t) := by
  intro pins s σ H Q I hw
  refine isTrue_plain (thn (h pins s σ H _ I hw) fun v s1 ⟨x, H1, I1, r1, q1⟩ => ?_) (he _)
  obtain ⟨d, rfl, q⟩ := q1
  cases r1
  exact wpAny_truthy_bool ⟨H1, I1, q⟩
variable {tA tB' : TT} {rest : List Expr}
def tAnd (t u : TT) : TT := fun σ H Q => t σ H fun c H1 => if c = true then u σ H1 Q else Q false H1
def tOr (t u : TT) : TT := fun σ H Q => t σ H fun c H1 => if c = true then Q true H1 else u σ H1 Q
def tNot (t : TT) : TT := fun σ H Q => t σ H fun c H1 => Q (!c) H1
theorem pw_and1 (ha : PT X a tA) : PW X (.BoolOp .And [a] pos) tA := by
  intro wh pins s σ H Q I h
  refine isTrue_and (thn (ha pins s σ H Q I h) fun c s1 e => ?_)
  cases c with
  | true => exact isTrue_and_nil e
  | false => exact e
theorem pw_or1 (ha : PT X a tA) : PW X (.BoolOp .Or [a] pos) tA := by
  intro wh pins s σ H Q I h
  refine isTrue_or (thn (ha pins s σ H Q I h) fun c s1 e => ?_)
  cases c with
  | false => exact isTrue_or_nil e
  | true => exact e
theorem pw_and (ha : PT X a tA) (hb : PW X (.BoolOp .And (b :: rest) pos) tB') : PW X (.BoolOp .And (a :: b :: rest) pos) (tAnd tA tB') := by
  intro wh pins s σ H Q I h
  refine isTrue_and (thn (ha pins s σ H _ I h) fun c s1 ⟨H1, I1, q1⟩ => ?_)
  cases c with
  | true => exact hb wh pins s1 σ H1 Q I1 q1
  | false => exact ⟨H1, I1, q1⟩
theorem pw_or (ha : PT X a tA) (hb : PW X (.BoolOp .Or (b :: rest) pos) tB') : PW X (.BoolOp .Or (a :: b :: rest) pos) (tOr tA tB') := by
  intro wh pins s σ H Q I h
  refine isTrue_or (thn (ha pins s σ H _ I h) fun c s1 ⟨H1, I1, q1⟩ => ?_)
  cases c with
  | true => exact ⟨H1, I1, q1⟩
  | false => exact hb wh pins s1 σ H1 Q I1 q1
theorem pt_not (ha : PT X a tA) : PT X (.UnaryOp .Not a pos) (tNot tA) := by
  intro pins s σ H Q I h
  exact isTrue_not (ha pins s σ H (fun c H1 => Q (!c) H1) I h)
/-- .. as values (bools) -/
def tAndV (ta tb : TE) : TE := fun σ H Q => ta σ H fun x H1 => ∃ c, x = .bl c ∧ if c = true then tb σ H1 Q else Q (.bl false) H1
def tNotV (ta : TE) : TE := fun σ H Q => ta σ H fun x H1 => ∃ c, x = .bl c ∧ Q (.bl (!c)) H1
theorem pe_one {op} {t : TE} (h : PE X a t) : PE X (.BoolOp op [a] pos) t := fun pins s σ H Q I hw => BoolOp_one (h pins s σ H Q I hw)
theorem pe_and (ha : PE X a ta) (hb : PE X (.BoolOp .And (b :: rest) pos) tb) : PE X (.BoolOp .And (a :: b :: rest) pos) (tAndV ta tb) := by
  intro pins s σ H Q I h
  refine BoolOp_and (thn (ha pins s σ H _ I h) fun v s1 ⟨x, H1, I1, r1, q1⟩ => ?_)
  obtain ⟨c, rfl, q1⟩ := q1
  cases r1
  refine wpAny_truthy_bool ?_
  cases c with
  | true => exact hb pins s1 σ H1 Q I1 q1
  | false => exact ⟨.bl false, H1, I1, rfl, q1⟩
theorem pe_not (ha : PE X a ta) : PE X (.UnaryOp .Not a pos) (tNotV ta) := by
  intro pins s σ H Q I h
  refine UnaryOp_ (thn (ha pins s σ H _ I h) fun v s1 ⟨x, H1, I1, r1, q1⟩ => ?_)
  obtain ⟨c, rfl, q1⟩ := q1
  cases r1
  exact not_of (wpAny_truthy_bool ⟨.bl (!c), H1, I1, rfl, q1⟩)
end
end L2
namespace L2
open PySem PySem.Spec PyProof.Rows
def SqL (K : PySem.W.Frag) (H : Hp) (a : Addr) (xs : List V) : Prop :=
  Rd H a (.lst xs) ∨
    ∃ (o : Obj) (its : Array Value) (n : Nat), K.lookup a = some o ∧ o.cls = .type "list" ∧ o.dict = none ∧ o.data = .seq its n ∧ its.size ≤ sizeLine ∧ Vals xs its.toList
def SqT (K : PySem.W.Frag) (H : Hp) (a : Addr) (xs : List V) : Prop :=
  Rd H a (.tup xs) ∨
    ∃ (o : Obj) (its : Array Value) (n : Nat), K.lookup a = some o ∧ o.cls = .type "tuple" ∧ o.data = .seq its n ∧ its.size ≤ sizeLine ∧ Vals xs its.toList ∧ o.dict = none
def absV : Value → Option V
  | .none => some .non
  | .bool b => some (.bl b)
  | .int i _ => some (.int i)
  | .str x _ => some (.str x)
  | .bytes b _ => some (.byt b)
  | .float b _ => some (.flt b)
  | .ref a => some (.ref a)
  | .type n => some (.ty n)
  | _ => none
theorem RelV.abs {x : V} {u : Value} (r : RelV x u) : absV u = some x := by
  cases x with
  | non => cases r; rfl
  | bl _ => cases r; rfl
  | int _ => obtain ⟨t, rfl⟩ := r; rfl
  | str _ => obtain ⟨t, rfl⟩ := r; rfl
  | byt _ => obtain ⟨t, rfl⟩ := r; rfl
  | flt _ => obtain ⟨t, rfl⟩ := r; rfl
  | ref _ => cases r; rfl
  | ty _ => cases r; rfl
theorem RelV.inj {x y : V} {u : Value} (r : RelV x u) (q : RelV y u) : x = y := Option.some.inj (r.abs.symm.trans q.abs)
theorem Vals.inj : ∀ {xs ys : List V} {us : List Value}, Vals xs us → Vals ys us → xs = ys
  | _, _, _, .nil, .nil => rfl
  | _, _, _, .cons r t, .cons r' t' => by rw [r.inj r', Vals.inj t t']
section
variable {X : Cx} {pins : List (Addr × Obj)} {σ : St} {H : Hp} {s : Shared} {a : Addr} {xs ys : List V}
theorem SqL.of {K : PySem.W.Frag} (h : H a = some (.lst xs)) : SqL K H a xs := .inl (.inl h)
theorem SqT.of {K : PySem.W.Frag} (h : H a = some (.tup xs)) : SqT K H a xs := .inl (.inl h)
theorem Inv.list (I : Inv X pins σ H s) (h : SqL X.K H a xs) : ∃ its : List Value, Vals xs its ∧ PlainL s.heap a its.toArray ∧ xs.length ≤ sizeLine := by
  rcases h with h | ⟨o, its, n, hk, hc, hd, hs, hz, r⟩
  · obtain ⟨z, its, n, r, e⟩ := h.ok I.hok
    exact ⟨its, r, ⟨_, n, e, rfl, rfl, rfl⟩, z⟩
  · refine ⟨its.toList, r, ⟨o, n, I.kIn a o hk, hc, hd, by simpa using hs⟩, ?_⟩
    have e := r.length
    simp only [Array.length_toList] at e
    omega
theorem Inv.tuple (I : Inv X pins σ H s) (h : SqT X.K H a xs) : ∃ its : List Value, Vals xs its ∧ IsTup s.heap a its.toArray ∧ xs.length ≤ sizeLine := by
  rcases h with h | ⟨o, its, n, hk, hc, hs, hz, r, _⟩
  · obtain ⟨z, its, r, p⟩ := h.ok I.hok
    exact ⟨its, r, p.tup, z⟩
  · refine ⟨its.toList, r, ⟨o, I.kIn a o hk, hc, n, by simpa using hs⟩, ?_⟩
    have e := r.length
    simp only [Array.length_toList] at e
    omega
theorem Inv.tupleD (I : Inv X pins σ H s) (h : SqT X.K H a xs) : ∃ its : List Value, Vals xs its ∧ IsTupD s.heap a its.toArray ∧ xs.length ≤ sizeLine := by
  rcases h with h | ⟨o, its, n, hk, hc, hs, hz, r, hd⟩
  · obtain ⟨z, its, r, p⟩ := h.ok I.hok
    exact ⟨its, r, p, z⟩
  · refine ⟨its.toList, r, ⟨o, I.kIn a o hk, ⟨hc, n, by simpa using hs⟩, hd⟩, ?_⟩
    have e := r.length
    simp only [Array.length_toList] at e
    omega
theorem Inv.list_inj (I : Inv X pins σ H s) (h : SqL X.K H a xs) (h' : SqL X.K H a ys) : xs = ys := by
  obtain ⟨its, r, ⟨o, n, e, _, _, d⟩, _⟩ := I.list h
  obtain ⟨its', r', ⟨o', n', e', _, _, d'⟩, _⟩ := I.list h'
  rw [e] at e'; cases e'
  rw [d] at d'
  injection d' with d1 _
  have : its = its' := by simpa using congrArg Array.toList d1
  subst this
  exact r.inj r'
theorem Inv.tuple_inj (I : Inv X pins σ H s) (h : SqT X.K H a xs) (h' : SqT X.K H a ys) : xs = ys := by
  obtain ⟨its, r, ⟨o, e, _, n, d⟩, _⟩ := I.tuple h
  obtain ⟨its', r', ⟨o', e', _, n', d'⟩, _⟩ := I.tuple h'
  rw [e] at e'; cases e'
  rw [d] at d'
  injection d' with d1 _
  have : its = its' := by simpa using congrArg Array.toList d1
  subst this
  exact r.inj r'
end
abbrev Cx.wish (X : Cx) (E : Value → Shared → Prop) : Cx := { X with xe := E }
/-- no exception leaves -/
abbrev Cx.nox (X : Cx) : Cx := X.wish fun _ _ => False
theorem Cx.Ok.wish {X : Cx} (ok : X.Ok) (E : Value → Shared → Prop) : (X.wish E).Ok :=
  ⟨ok.mod, ok.kind, ok.glob, ok.blt, ok.above, ok.inj, ok.has, ok.cab, ok.hd, ok.frames, ok.stk, ok.exf, ok.bs, ok.bsz, ok.noex, ok.exfs, ok.funs, ok.frf⟩
theorem Cx.Ok.unwish {X : Cx} {E : Value → Shared → Prop} (ok : (X.wish E).Ok) : X.Ok :=
  ⟨ok.mod, ok.kind, ok.glob, ok.blt, ok.above, ok.inj, ok.has, ok.cab, ok.hd, ok.frames, ok.stk, ok.exf, ok.bs, ok.bsz, ok.noex, ok.exfs, ok.funs, ok.frf⟩
section
variable {X : Cx} {pins : List (Addr × Obj)} {σ : St} {H : Hp} {s : Shared} {E : Value → Shared → Prop}
theorem Inv.wish (I : Inv X pins σ H s) (E : Value → Shared → Prop) : Inv (X.wish E) pins σ H s := ⟨I.ok.wish E, I.os, I.bare, I.base, I.loc, I.cell, I.free, I.freeC, I.pin, I.hok, I.len⟩
theorem Inv.unwish (I : Inv (X.wish E) pins σ H s) : Inv X pins σ H s := ⟨I.ok.unwish, I.os, I.bare, I.base, I.loc, I.cell, I.free, I.freeC, I.pin, I.hok, I.len⟩
theorem SP.unwish {D : Ends} {f : Flow} {s' : Shared} (h : SP (X.wish E) pins D f s') : SP X pins D f s' := by
  cases f with
  | next => obtain ⟨σ', H', I, q⟩ := h; exact ⟨σ', H', I.unwish, q⟩
  | brk => obtain ⟨σ', H', I, q⟩ := h; exact ⟨σ', H', I.unwish, q⟩
  | cont => obtain ⟨σ', H', I, q⟩ := h; exact ⟨σ', H', I.unwish, q⟩
  | ret u => obtain ⟨v, σ', H', I, r, q⟩ := h; exact ⟨v, σ', H', I.unwish, r, q⟩
theorem PE.nox {e : Expr} {t : TE} (h : PE X.nox e t) : PE X e t := fun pins s σ H Q I hw =>
  wpAny_mono (h pins s σ H Q (I.wish _) hw) (fun _ _ ⟨v, H', I', r, q⟩ => ⟨v, H', I'.unwish, r, q⟩) fun _ _ z => False.elim z
theorem PT.nox {e : Expr} {t : TT} (h : PT X.nox e t) : PT X e t := fun pins s σ H Q I hw =>
  wpAny_mono (h pins s σ H Q (I.wish _) hw) (fun _ _ ⟨H', I', q⟩ => ⟨H', I'.unwish, q⟩) fun _ _ z => False.elim z
theorem PSs.nox {st : List Stmt} {t : TS} (h : PSs X.nox st t) : PSs X st t := fun pins s σ H D I hw =>
  wpAny_mono (h pins s σ H D (I.wish _) hw) (fun _ _ q => q.unwish) fun _ _ z => False.elim z
end
section
variable {X : Cx} {st : Stmt} {rest : List Stmt} {t u : TS} {e : Expr} {te : TE} {pos : Pos}
def tNext : TS := fun D σ H => D.nx σ H
def tSeq (t u : TS) : TS := fun D σ H => t { D with nx := u D } σ H
theorem pss_nil : PSs X [] tNext := fun _ _ σ H _ I h => wpAny_execs_nil ⟨σ, H, I, h⟩
theorem pss_cons (h1 : PS X st t) (h2 : PSs X rest u) : PSs X (st :: rest) (tSeq t u) := by
  intro pins s σ H D I h
  refine wpAny_execs_cons (thn (h1 pins s σ H { D with nx := u D } I h) fun f s1 q => ?_)
  cases f with
  | next =>
    obtain ⟨σ', H', I', q⟩ := q
    exact h2 pins s1 σ' H' D I' q
  | ret v => exact q
  | brk => exact q
  | cont => exact q
theorem pss_one (h1 : PS X st t) : PSs X [st] t := by
  intro pins s σ H D I h
  refine wpAny_execs_cons (thn (h1 pins s σ H D I h) fun f s1 q => ?_)
  cases f with
  | next => exact wpAny_execs_nil q
  | ret v => exact q
  | brk => exact q
  | cont => exact q
/-- in a def's body nothing is shown -/
theorem Inv.quiet {pins : List (Addr × Obj)} {σ : St} {H : Hp} {s : Shared} (I : Inv X pins σ H s) : interactive X.env = false := by simp [interactive, I.ok.kind]
/-- an expression whose value is dropped -/
def tDrop (te : TE) : TS := fun D σ H => te σ H fun _ H1 => D.nx σ H1
theorem ps_expr (he : PE X e te) (hs : swapsWith e none pos.line X.env = pure false := by rfl) : PS X (.Expr e pos) (tDrop te) := by
  intro pins s σ H D I h
  exact wpAny_Expr_any (thn (he pins s σ H _ I h) fun v s1 ⟨x, H1, I1, r1, q1⟩ => ⟨σ, H1, I1, q1⟩) I.quiet hs
def tRet (te : TE) : TS := fun D σ H => te σ H D.rt
theorem ps_ret (he : PE X e te) : PS X (.Return (some e) pos) (tRet te) := by
  intro pins s σ H D I h
  exact wpAny_Return_some (thn (he pins s σ H _ I h) fun v s1 ⟨x, H1, I1, r1, q1⟩ => ⟨x, σ, H1, I1, r1, q1⟩)
def tIfS (c : TT) (t u : TS) : TS := fun D σ H => c σ H fun b H1 => if b = true then t D σ H1 else u D σ H1
theorem ps_if {c : Expr} {a b : List Stmt} {tc : TT} (hc : PT X c tc) (ha : PSs X a t) (hb : PSs X b u) : PS X (.If c a b pos) (tIfS tc t u) := by
  intro pins s σ H D I h
  refine wpAny_If (thn (hc pins s σ H _ I h) fun d s1 ⟨H1, I1, q1⟩ => ?_)
  cases d with
  | true => exact ha pins s1 σ H1 D I1 q1
  | false => exact hb pins s1 σ H1 D I1 q1
/-- code that the proof never comes to -/
def tNever : TS := fun _ _ _ => False
theorem ps_never : PS X st tNever := fun _ _ _ _ _ _ h => h.elim
end
abbrev TG := V → St → Hp → (St → Hp → Prop) → Prop
abbrev TGs := List V → St → Hp → (St → Hp → Prop) → Prop
def PG (X : Cx) (target : Expr) (t : TG) : Prop :=
  ∀ (pins : List (Addr × Obj)) (s : Shared) (σ : St) (H : Hp) (v : V) (u : Value) (Q : St → Hp → Prop), Inv X pins σ H s → RelV v u → t v σ H Q →
    wpAny (model X.prog X.w) X.A (assign target X.env u) (fun _ s' => ∃ σ' H', Inv X pins σ' H' s' ∧ Q σ' H') X.xe s
/-- several targets, one after another -/
def PGs (X : Cx) (ts : List Expr) (t : TGs) : Prop :=
  ∀ (pins : List (Addr × Obj)) (s : Shared) (σ : St) (H : Hp) (vs : List V) (us : List Value) (Q : St → Hp → Prop), Inv X pins σ H s → Vals vs us → t vs σ H Q →
    wpAny (model X.prog X.w) X.A (assignInOrder ((assignEach ts X.env).map (·.2)) us) (fun _ s' => ∃ σ' H', Inv X pins σ' H' s' ∧ Q σ' H') X.xe s
section
variable {X : Cx} {pos : Pos}
def gName (i : Nat) : TG := fun v σ H Q => Q (σ.set i (some v)) H
theorem pg_name {i : Nat} {x : Str} (hN : X.N.Nodup) (hi : X.N[i]? = some x) (hx : Loc X.env.scope x) (hf : X.fn x = true ∨ X.env.scope.names.lookup x = some .local := by first | exact .inl rfl | exact .inr rfl | assumption) : PG X (.Name x pos) (gName i) := by
  intro pins s σ H v u Q I r h
  exact wpAny_assign_Name (store_ok I hN hi hx r (fun s' I' => ⟨_, H, I', h⟩) hf)
def gNil : TGs := fun vs σ H Q => vs = [] ∧ Q σ H
def gCons (t : TG) (u : TGs) : TGs := fun vs σ H Q => ∃ v r, vs = v :: r ∧ t v σ H fun σ' H' => u r σ' H' Q
theorem pgs_nil : PGs X [] gNil := by
  intro pins s σ H vs us Q I r h
  obtain ⟨e, h⟩ := h
  subst e
  cases r
  exact assignInOrder_nil ⟨σ, H, I, h⟩
theorem pgs_cons {e : Expr} {es : List Expr} {t : TG} {u : TGs} (h1 : PG X e t) (h2 : PGs X es u)
    (hs : (assignEach (e :: es) X.env).map (·.2) = assign e X.env :: (assignEach es X.env).map (·.2) := by rfl) : PGs X (e :: es) (gCons t u) := by
  intro pins s σ H vs us Q I r h
  obtain ⟨v, vr, e1, h⟩ := h
  subst e1
  cases r with
  | cons r rr =>
    rw [hs]
    refine assignInOrder_cons (thn (h1 pins s σ H _ _ _ I r h) fun _ s1 ⟨σ1, H1, I1, q1⟩ => ?_)
    exact h2 pins s1 σ1 H1 _ _ Q I1 rr q1
/-- (a, b, ..) = a tuple of that length -/
def gTup (K : PySem.W.Frag) (n : Nat) (t : TGs) : TG := fun v σ H Q => ∃ a xs, v = .ref a ∧ SqT K H a xs ∧ xs.length = n ∧ t xs σ H Q
theorem pg_tup {es : List Expr} {k : Nat} {t : TGs} {n : Nat} (hc : X.calm = true) (h : PGs X es t)
    (hn : (assignEach es X.env).length = n := by rfl) (hst : (assignEach es X.env).findIdx? (·.1) = none := by rfl) : PG X (.Tuple es k pos) (gTup X.K n t) := by
  intro pins s σ H v u Q I r hw
  obtain ⟨a, xs, e1, hq, hl, hw⟩ := hw
  subst e1
  cases r
  obtain ⟨its, rv, ht, hz⟩ := I.tuple hq
  refine assign_Tuple_tuple (I.ok.hd hc) ht (by simp [hn, ← hl, rv.length]) hst fun h' hx => ?_
  have I1 : Inv X pins σ H { s with heap := h' } := I.kept (t' := s.toks) fun b o e => hx b o (Nat.ne_of_lt (Heap.lt_size e)) e
  exact h pins _ σ H xs _ Q I1 (by simpa using rv) hw
/-- target = value -/
def tAsg (te : TE) (g : TG) : TS := fun D σ H => te σ H fun x H1 => g x σ H1 D.nx
theorem ps_asg {tg e : Expr} {te : TE} {g : TG} (he : PE X e te) (hg : PG X tg g) (hs : swapsWithSole [tg] e pos.line X.env = pure false := by rfl) (hw : swappedStores [tg] e X.env = pure none := by rfl)
    (h1 : (assignEach [tg] X.env).map (·.2) = [assign tg X.env] := by rfl) : PS X (.Assign [tg] e pos) (tAsg te g) := by
  intro pins s σ H D I h
  refine wpAny_Assign_stores (thn (he pins s σ H _ I h) fun v s1 ⟨x, H1, I1, r1, q1⟩ => ?_) hs hw
  rw [h1]
  exact thn (hg pins s1 σ H1 x v _ I1 r1 q1) fun _ s2 q => q
/-- name = value -/
theorem ps_set {i : Nat} {x : Str} {e : Expr} {te : TE} {pos' : Pos} (hN : X.N.Nodup) (hi : X.N[i]? = some x) (hx : Loc X.env.scope x) (he : PE X e te) (hs : swapsWith e (some (.Name x pos')) pos.line X.env = pure false := by rfl) (hf : X.fn x = true ∨ X.env.scope.names.lookup x = some .local := by first | exact .inl rfl | exact .inr rfl | assumption) :
    PS X (.Assign [.Name x pos'] e pos) (tAsg te (gName i)) := by
  intro pins s σ H D I h
  refine wpAny_Assign_Name (thn (he pins s σ H _ I h) fun v s1 ⟨y, H1, I1, r1, q1⟩ => ?_) hs
  exact store_ok I1 hN hi hx r1 (fun s2 I2 => ⟨_, H1, I2, q1⟩) hf
/-- a, b = x, y with plain local names: stored from the right; the pair itself is not tracked (the opening rows as in PyProof/Rows/TupAssign.lean:23) -/
def tPar (i j : Nat) (ta : TA) : TS := fun D σ H => ta σ H fun vs H1 => ∃ v w, vs = [v, w] ∧ D.nx ((σ.set i (some v)).set j (some w)) H1
theorem ps_par {i j : Nat} {x y : Str} {a b : Expr} {ta : TA} {px py pt : Pos} {kt k2 pt2} (hc : X.calm = true) (hN : X.N.Nodup) (hi : X.N[i]? = some x) (hj : X.N[j]? = some y) (hij : i ≠ j)
    (hx : X.env.scope.names.lookup x = some .local) (hy : X.env.scope.names.lookup y = some .local) (ha : PA X [a, b] ta)
    (hw : swappedStores [.Tuple [.Name x px, .Name y py] kt pt] (.Tuple [a, b] k2 pt2) X.env = pure (some [x, y]))
    (hs : swapsWithSole [.Tuple [.Name x px, .Name y py] kt pt] (.Tuple [a, b] k2 pt2) pos.line X.env = pure false := by rfl) :
    PS X (.Assign [.Tuple [.Name x px, .Name y py] kt pt] (.Tuple [a, b] k2 pt2) pos) (tPar i j ta) := by
  intro pins s σ H D I h
  rw [exec_Assign_arm]
  refine wpAny_bind (wpAny_standAt ?_)
  rw [hs]
  refine wpAny_bind (wpAny_pure ?_)
  rw [if_neg (by decide)]
  refine wpAny_bind (Tuple_ (thn (ha _ pins s σ H _ I h) fun us s1 ⟨vs, H1, I1, r1, q1⟩ => ?_))
  obtain ⟨v, w, e1, q1⟩ := q1
  subst e1
  obtain ⟨u1, u2, rfl, rv, rw'⟩ : ∃ u1 u2, us = [u1, u2] ∧ RelV v u1 ∧ RelV w u2 := by
    cases r1 with
    | cons p q =>
      cases q with
      | cons p' q' =>
        cases q'
        exact ⟨_, _, rfl, p, p'⟩
  refine wpAny_newObj_type ?_ (by show 2 ≤ sizeLine; decide)
  have I2 : Inv X pins σ H1 { s1 with heap := s1.heap.push { cls := .type "tuple", data := .seq [u1, u2].toArray } } := I1.kept (t' := s1.toks) fun b o e => Heap.get?_push_of_some _ e
  rw [hw]
  refine wpAny_bind (wpAny_pure ?_)
  show wpAny (model X.prog X.w) X.A (do rule "assign.swapped-stores"; let items ← unpackItems (.ref s1.heap.objs.size) 2 none; assignInOrder [fun v => bindName X.env y v, fun v => bindName X.env x v] items.reverse; pure Flow.next) _ _ _
  refine wpAny_bind (wpAny_rule (wpAny_bind (unpackItems_tuple (items := #[u1, u2]) (I.ok.hd hc) (IsTup.new s1.heap _) fun h' hx' => ?_)))
  have I3 := I2.kept (h' := h') (t' := s1.toks) fun b o e => hx' b o (Nat.ne_of_lt (Heap.lt_size e)) e
  show wpAny _ _ (assignInOrder [fun v => bindName X.env y v, fun v => bindName X.env x v] [u2, u1] >>= fun _ => pure Flow.next) _ _ _
  refine wpAny_bind (assignInOrder_cons (wpAny_bindName (store_ok I3 hN hj (.inl hy) rw' (fun s2 I4 => ?_) (.inr hy))))
  refine assignInOrder_cons (wpAny_bindName (store_ok I4 hN hi (.inl hx) rv (fun s3 I5 => assignInOrder_nil (wpAny_pure ?_)) (.inr hx)))
  rw [List.set_comm _ _ (Ne.symm hij)] at I5
  exact ⟨_, H1, I5, q1⟩
end
section
variable {X : Cx} {pos : Pos}
end
/-- at turn i: it yields x (the heap may grow), or it stops -/
structure It where
  go : Nat → Hp → Prop
  yld : Nat → Hp → V → Hp → Prop
  stop : Nat → Hp → Prop
/-- the iterator's own objects may turn: they are not the frame's, not pinned, younger than the entry (or a comprehension's own) -/
def FpOk (X : Cx) (pins : List (Addr × Obj)) (H : Hp) (b : Addr) : Prop :=
  H b = none ∧ b ≠ X.env.locals ∧ b ∉ X.fs ∧ (b ∈ X.ex ∨ X.s_0.heap.objs.size ≤ b) ∧ (∀ x c, X.env.cells.lookup x = some c → c ≠ b) ∧ ∀ p ∈ X.pn ++ pins, p.1 ≠ b
theorem Inv.fpOk {X : Cx} {pins : List (Addr × Obj)} {σ : St} {H H' : Hp} {s : Shared} {b : Addr} (I : Inv X pins σ H s) (hb : s.heap.objs.size ≤ b) (hn : H' b = none) : FpOk X pins H' b := by
  refine ⟨hn, Nat.ne_of_gt (Nat.lt_of_lt_of_le I.lt hb), I.nofs hb, .inr (Nat.le_trans I.sz hb), fun x c e z => ?_, fun p hp z => ?_⟩
  · obtain ⟨v, q⟩ := I.cell x c e
    exact absurd (Nat.lt_of_lt_of_le q.lt (by rw [z]; exact hb)) (Nat.lt_irrefl _)
  · exact absurd (Nat.lt_of_lt_of_le (Heap.lt_size (I.pin p hp).1) (by rw [z]; exact hb)) (Nat.lt_irrefl _)
structure Turn (P : Program) (w : World) (K : PySem.W.Frag) (tg : Expr) (J : It) (fp : List Addr) (it : Addr) (tn : Nat → Heap → Prop) : Prop where
  mem : it ∈ fp
  obj : ∀ i h, tn i h → ∀ b ∈ fp, ∃ o, h.get? b = some o ∧ ∀ v, o.data ≠ .cell v
  keep : ∀ i h h', tn i h → (∀ b ∈ fp, ∀ o, h.get? b = some o → h'.get? b = some o) → tn i h'
  item : ∀ (X : Cx), X.prog = P → X.w = w → X.K = K → X.calm = true → ∀ (i : Nat) (pins : List (Addr × Obj)) (s : Shared) (σ : St) (H : Hp) (E : Value → Shared → Prop), Inv X pins σ H s → (∀ b ∈ fp, FpOk X pins H b) → tn i s.heap → J.go i H →
    wpAny (model P w) X.A (pyNext (.ref it)) (fun r s1 => ∃ u, r = some u ∧
      wpAny (model P w) X.A (letOwnedTupleGo tg (.ref it) u) (fun _ s2 => ∃ x H', Inv X pins σ H' s2 ∧ RelV x u ∧ J.yld i H x H' ∧ tn (i + 1) s2.heap ∧ ∀ b ∈ fp, H' b = none) E s1) E s
  done : ∀ (X : Cx), X.prog = P → X.w = w → X.K = K → X.calm = true → ∀ (i : Nat) (pins : List (Addr × Obj)) (s : Shared) (σ : St) (H : Hp) (E : Value → Shared → Prop), Inv X pins σ H s → (∀ b ∈ fp, FpOk X pins H b) → tn i s.heap → J.stop i H →
    wpAny (model P w) X.A (pyNext (.ref it)) (fun r s1 => r = none ∧ Inv X pins σ H s1) E s
  self : ∀ (A : Around) (i : Nat) (s : Shared) (Q : Value → Shared → Prop) (E : Value → Shared → Prop), tn i s.heap → Q (.ref it) s → wpAny (model P w) A (pyIter (.ref it)) Q E s
abbrev TI := St → Hp → (It → Hp → Prop) → Prop
/-- an iterator has come -/
def PIE (X : Cx) (pins : List (Addr × Obj)) (σ : St) (tg : Expr) (R : It → Hp → Prop) (itv : Value) (s2 : Shared) : Prop :=
  ∃ (it : Addr) (fp : List Addr) (tn : Nat → Heap → Prop) (J : It) (H' : Hp), itv = .ref it ∧ Inv X pins σ H' s2 ∧ Turn X.prog X.w X.K tg J fp it tn ∧ tn 0 s2.heap ∧ (∀ b ∈ fp, FpOk X pins H' b) ∧ R J H'
def PI (X : Cx) (tg iter : Expr) (wi : TI) : Prop :=
  ∀ (pins : List (Addr × Obj)) (s : Shared) (σ : St) (H : Hp) (R : It → Hp → Prop), Inv X pins σ H s → wi σ H R →
    wpAny (model X.prog X.w) X.A (eval iter X.env) (fun v s1 => wpAny (model X.prog X.w) X.A (pyIter v) (PIE X pins σ tg R) X.xe s1) X.xe s
/-- the step ahead of the store is nothing for an iterator that keeps no tuple -/
theorem go_of {M : Model} {A : Around} {E : Value → Shared → Prop} {s : Shared} {tg : Expr} {it : Addr} {u : Value} {o : Obj} {n : String} {vs : Array Value} {Q : Unit → Shared → Prop} (ho : s.heap.get? it = some o) (hc : o.cls = .type n) (hd : o.data = .fields vs)
    (hn : ["enumerate", "zip", "dict_itemiterator", "dict_reverseitemiterator", "odict_iterator", "itertools.zip_longest", "itertools.pairwise"].contains n = false) (hQ : Q () s) : wpAny M A (letOwnedTupleGo tg (.ref it) u) Q E s := by
  unfold letOwnedTupleGo
  cases tg <;> first
    | exact wpAny_pure hQ
    | (cases u <;> first
        | exact wpAny_pure hQ
        | (refine wpAny_bind (wpAny_load ho ?_)
           rw [hc, hd]
           show wpAny M A (if (["enumerate", "zip", "dict_itemiterator", "dict_reverseitemiterator", "odict_iterator", "itertools.zip_longest", "itertools.pairwise"].contains n && vs[0]? == some (rawInt _)) = true then _ else _) Q E s
           rw [if_neg (by intro h; rw [hn, Bool.false_and] at h; cases h)]
           exact wpAny_pure hQ))
/-- the list at a, as it stands at each turn (a loop may append to it) -/
def Itl (K : PySem.W.Frag) (a : Addr) : It :=
  ⟨fun i H => ∃ xs x, SqL K H a xs ∧ xs[i]? = some x, fun i H x H' => H' = H ∧ ∀ xs, SqL K H a xs → xs[i]? = some x, fun i H => ∃ xs, SqL K H a xs ∧ xs.length ≤ i⟩
def Itt (K : PySem.W.Frag) (a : Addr) : It :=
  ⟨fun i H => ∃ xs x, SqT K H a xs ∧ xs[i]? = some x, fun i H x H' => H' = H ∧ ∀ xs, SqT K H a xs → xs[i]? = some x, fun i H => ∃ xs, SqT K H a xs ∧ xs.length ≤ i⟩
/-- lo, lo + 1, .. (n of them) -/
def Itr (lo : Int) (n : Nat) : It := ⟨fun i _ => i < n, fun i H x H' => H' = H ∧ x = .int (lo + i), fun i _ => n ≤ i⟩
theorem turn_list {P : Program} {w : World} {K : PySem.W.Frag} {tg : Expr} (a it : Addr) : Turn P w K tg (Itl K a) [it] it (fun i h => h.IsListIter it a i) where
  mem := by simp
  obj := fun i h st b hb => by
    have e : b = it := by simpa using hb
    subst e
    obtain ⟨o, e, c, d⟩ := st
    exact ⟨o, e, fun v z => by rw [d] at z; cases z⟩
  keep := fun i h h' st k => st.at fun o e => k it (by simp) o e
  item := by
    intro X hP hw hK hc i pins s σ H E I hf st hg
    subst hP hw hK
    obtain ⟨xs, x, hq, hx⟩ := hg
    obtain ⟨its, rv, p, hz⟩ := I.list hq
    obtain ⟨u, hu, ru⟩ := rv.get hx
    obtain ⟨f0, f1, f2, f3, f4, f5⟩ := hf it (by simp)
    refine wpAny_pyNext_list_item st p.isList (x := u) (by simpa using hu) fun h' st' sb => ?_
    have I1 : Inv X pins σ H { s with heap := h' } := I.turned (t' := s.toks) (fun b o hb e => (sb.2 b hb).trans e) f0 f1 f3 f4 f5
    obtain ⟨o, e, c, d⟩ := id st'
    exact ⟨u, rfl, go_of (s := { s with heap := h' }) e c d (by decide) ⟨x, H, I1, ru, ⟨rfl, fun ys hy => by rw [I.list_inj hy hq]; exact hx⟩, st', fun b hb => (hf b hb).1⟩⟩
  done := by
    intro X hP hw hK hc i pins s σ H E I hf st hg
    subst hP hw hK
    obtain ⟨xs, hq, hx⟩ := hg
    obtain ⟨its, rv, p, hz⟩ := I.list hq
    obtain ⟨f0, f1, f2, f3, f4, f5⟩ := hf it (by simp)
    have hl := rv.length
    exact wpAny_pyNext_list_end (I.ok.hd hc) st p.isList (by simp; omega) fun h' eb => ⟨rfl, I.turned (t' := s.toks) (fun b o hb e => eb b o hb e) f0 f1 f3 f4 f5⟩
  self := fun _ _ _ _ _ st h => wpAny_pyIter_listiter st h
theorem turn_tuple {P : Program} {w : World} {K : PySem.W.Frag} {tg : Expr} (a it : Addr) : Turn P w K tg (Itt K a) [it] it (fun i h => h.IsTupleIter it a i) where
  mem := by simp
  obj := fun i h st b hb => by
    have e : b = it := by simpa using hb
    subst e
    obtain ⟨o, e, c, d⟩ := st
    exact ⟨o, e, fun v z => by rw [d] at z; cases z⟩
  keep := fun i h h' st k => st.at fun o e => k it (by simp) o e
  item := by
    intro X hP hw hK hc i pins s σ H E I hf st hg
    subst hP hw hK
    obtain ⟨xs, x, hq, hx⟩ := hg
    obtain ⟨its, rv, p, hz⟩ := I.tuple hq
    obtain ⟨u, hu, ru⟩ := rv.get hx
    obtain ⟨f0, f1, f2, f3, f4, f5⟩ := hf it (by simp)
    refine wpAny_pyNext_tuple_item st (show s.heap.IsTuple a its.toArray from p) (x := u) (by simpa using hu) fun h' st' sb => ?_
    have I1 : Inv X pins σ H { s with heap := h' } := I.turned (t' := s.toks) (fun b o hb e => (sb.2 b hb).trans e) f0 f1 f3 f4 f5
    obtain ⟨o, e, c, d⟩ := id st'
    exact ⟨u, rfl, go_of (s := { s with heap := h' }) e c d (by decide) ⟨x, H, I1, ru, ⟨rfl, fun ys hy => by rw [I.tuple_inj hy hq]; exact hx⟩, st', fun b hb => (hf b hb).1⟩⟩
  done := by
    intro X hP hw hK hc i pins s σ H E I hf st hg
    subst hP hw hK
    obtain ⟨xs, hq, hx⟩ := hg
    obtain ⟨its, rv, p, hz⟩ := I.tuple hq
    obtain ⟨f0, f1, f2, f3, f4, f5⟩ := hf it (by simp)
    have hl := rv.length
    exact wpAny_pyNext_tuple_end (I.ok.hd hc) st (show s.heap.IsTuple a its.toArray from p) (by simp; omega) fun h' eb => ⟨rfl, I.turned (t' := s.toks) (fun b o hb e => eb b o hb e) f0 f1 f3 f4 f5⟩
  self := fun _ _ _ _ _ st h => wpAny_pyIter_tupleiter st h
theorem turn_range {P : Program} {w : World} {K : PySem.W.Frag} {tg : Expr} (it : Addr) (lo : Int) (n : Nat) : Turn P w K tg (Itr lo n) [it] it (fun i h => IsRangeIter h it (lo + (i : Nat) * 1) ((n : Int) - (i : Nat)) 1) where
  mem := by simp
  obj := fun i h st b hb => by
    have e : b = it := by simpa using hb
    subst e
    exact ⟨_, st, fun v z => by
      have z' : Data.fields _ = Data.cell v := z
      cases z'⟩
  keep := fun i h h' st k => k it (by simp) _ st
  item := by
    intro X hP hw hK hc i pins s σ H E I hf st hg
    subst hP hw hK
    obtain ⟨f0, f1, f2, f3, f4, f5⟩ := hf it (by simp)
    have W := Walks.range (prog := X.prog) (w := X.w) (I.ok.hd hc) it lo 1 n
    refine W.item i s _ _ hg st fun v h' tk hv st' kk => ?_
    obtain ⟨t, rfl⟩ := hv
    have I1 : Inv X pins σ H { s with heap := h', toks := tk } := I.turned (fun b o hb e => kk b o (by simpa using hb) e) f0 f1 f3 f4 f5
    refine ⟨_, rfl, go_of (s := { s with heap := h', toks := tk }) (n := "range_iterator") st' rfl rfl (by decide) ⟨.int (lo + i), H, I1, ⟨t, ?_⟩, ⟨rfl, rfl⟩, st', fun b hb => (hf b hb).1⟩⟩
    rw [Int.mul_one]
  done := by
    intro X hP hw hK hc i pins s σ H E I hf st hg
    subst hP hw hK
    obtain ⟨f0, f1, f2, f3, f4, f5⟩ := hf it (by simp)
    exact wpAny_pyNext_range_end (I.ok.hd hc) st (by have : n ≤ i := hg; omega) fun h' eb => ⟨rfl, I.turned (t' := s.toks) (fun b o hb e => eb b o hb e) f0 f1 f3 f4 f5⟩
  self := fun _ _ _ _ _ st h => wpAny_pyIter_rangeiter st h
end L2
namespace L2
open PySem PySem.Spec PyProof.Rows
section
variable {X : Cx} {tg : Expr}
def iList (K : PySem.W.Frag) (tl : TE) : TI := fun σ H R => tl σ H fun x H1 => ∃ a, x = .ref a ∧ (∃ xs, SqL K H1 a xs) ∧ R (Itl K a) H1
theorem pi_list {l : Expr} {tl : TE} (hl : PE X l tl) : PI X tg l (iList X.K tl) := by
  intro pins s σ H R I h
  refine thn (hl pins s σ H _ I h) fun v s1 ⟨x, H1, I1, r1, q1⟩ => ?_
  obtain ⟨a, e, ⟨xs, hq⟩, q⟩ := q1
  subst e
  cases r1
  obtain ⟨its, rv, p, hz⟩ := I1.list hq
  refine wpAny_pyIter_list p.isList ?_
  refine ⟨s1.heap.objs.size, [s1.heap.objs.size], _, _, H1, rfl, I1.kept (t' := s1.toks) fun b o e => Heap.get?_push_of_some _ e, turn_list a _, ⟨_, Heap.get?_push_size _ rfl, rfl, rfl⟩, fun b hb => ?_, q⟩
  have e : b = s1.heap.objs.size := by simpa using hb
  subst e
  exact I1.fpOk (Nat.le_refl _) (I1.hok.fresh (Nat.le_refl _))
/-- a range object just made, walked -/
theorem range_it {pins : List (Addr × Obj)} {σ : St} {H : Hp} {s : Shared} {R : It → Hp → Prop} {E : Value → Shared → Prop} {lo hi : Int} {t u v : Tok} {tk : Nat} (I : Inv X pins σ H s) (h1 : -(2 ^ 62) ≤ lo) (h2 : lo < 2 ^ 62) (h3 : -(2 ^ 62) ≤ hi) (h4 : hi < 2 ^ 62)
    (q : R (Itr lo (hi - lo).toNat) H) : wpAny (model X.prog X.w) X.A (pyIter (.ref s.heap.objs.size)) (PIE X pins σ tg R) E { s with heap := s.heap.push { cls := .type "range", data := .fields #[.int lo t, .int hi u, .int 1 v] }, toks := tk } := by
  refine wpAny_pyIter_range (IsRange.new ..) (small_one h1 h2 h3 h4) ?_
  have I1 : Inv X pins σ H { s with heap := s.heap.push { cls := .type "range", data := .fields #[.int lo t, .int hi u, .int 1 v] }, toks := tk } := I.kept fun b o e => Heap.get?_push_of_some _ e
  refine ⟨(s.heap.push { cls := .type "range", data := .fields #[.int lo t, .int hi u, .int 1 v] }).objs.size, [(s.heap.push { cls := .type "range", data := .fields #[.int lo t, .int hi u, .int 1 v] }).objs.size], _, _, H, rfl,
    I1.kept (t' := tk) fun b o e => Heap.get?_push_of_some _ e, turn_range _ lo (hi - lo).toNat, ?_, fun b hb => ?_, q⟩
  · have e1 : lo + ((0 : Nat) : Int) * 1 = lo := by simp
    have e2 : (((hi - lo).toNat : Nat) : Int) - ((0 : Nat) : Int) = Builtin.Range.rangeSize lo hi 1 := by rw [rangeSize_one]; split <;> omega
    show IsRangeIter _ _ (lo + ((0 : Nat) : Int) * 1) ((((hi - lo).toNat : Nat) : Int) - ((0 : Nat) : Int)) 1
    rw [e1, e2]
    exact Heap.get?_push_size _ rfl
  · have e : b = (s.heap.push { cls := .type "range", data := .fields #[.int lo t, .int hi u, .int 1 v] }).objs.size := by simpa using hb
    subst e
    exact I1.fpOk (Nat.le_refl _) (I1.hok.fresh (Nat.le_refl _))
def iRng1 (ta : TA) : TI := fun σ H R => ta σ H fun vs H1 => ∃ j : Int, vs = [.int j] ∧ -(2 ^ 62) ≤ j ∧ j < 2 ^ 62 ∧ R (Itr 0 j.toNat) H1
def iRng2 (ta : TA) : TI := fun σ H R => ta σ H fun vs H1 => ∃ i j : Int, vs = [.int i, .int j] ∧ (-(2 ^ 62) ≤ i ∧ i < 2 ^ 62 ∧ -(2 ^ 62) ≤ j ∧ j < 2 ^ 62) ∧ R (Itr i (j - i).toNat) H1
theorem pi_range1 {a : Expr} {ta : TA} {p pos : Pos} (hg : Gl X "range") (hm : X.mg "range" = none) (ha : PA X [a] ta) (hs : starEach [a] X.env = [(false, eval a X.env)] := by rfl) : PI X tg (.Call (.Name "range" p) [a] [] pos) (iRng1 ta) := by
  intro pins s σ H R I h
  refine Call_ (ld_blt I hg hm boot_range (PyProof.Rows.callWith_type1 (thn (ha pos pins s σ H _ I h) fun us s1 ⟨vs, H1, I1, r1, q1⟩ => ?_) hs rfl))
  obtain ⟨j, e, q1, q2, q⟩ := q1
  subst e
  cases r1 with
  | cons r rr =>
    cases rr
    obtain ⟨t, rfl⟩ := r
    exact call_range_1 (range_it I1 (by omega) (by omega) q1 q2 (by simpa using q))
theorem pi_range2 {a b : Expr} {ta : TA} {p pos : Pos} (hg : Gl X "range") (hm : X.mg "range" = none) (ha : PA X [a, b] ta) (hs : starEach [a, b] X.env = [(false, eval a X.env), (false, eval b X.env)] := by rfl) (hs2 : starEach [b] X.env = [(false, eval b X.env)] := by rfl) :
    PI X tg (.Call (.Name "range" p) [a, b] [] pos) (iRng2 ta) := by
  intro pins s σ H R I h
  refine Call_ (ld_blt I hg hm boot_range (PyProof.Rows.callWith_type1 (thn (ha pos pins s σ H _ I h) fun us s1 ⟨vs, H1, I1, r1, q1⟩ => ?_) (by rw [hs, hs2]) (by rw [hs2]; rfl)))
  obtain ⟨i, j, e, ⟨q1, q2, q3, q4⟩, q⟩ := q1
  subst e
  cases r1 with
  | cons r rr =>
    cases rr with
    | cons r' rr =>
      cases rr
      obtain ⟨t, rfl⟩ := r
      obtain ⟨t', rfl⟩ := r'
      exact call_range_2 (range_it I1 q1 q2 q3 q4 q)
/-- W: the invariant by the turn and a measure; N: what the body is to reach -/
def tFor (wi : TI) (g : TG) (tb : TS) : TS := fun D σ H => wi σ H fun J H1 => ∃ W : Nat → Nat → St → Hp → Prop, (∃ m, W 0 m σ H1) ∧ ∀ i m σ H, W i m σ H →
  (J.stop i H ∧ D.nx σ H) ∨ (J.go i H ∧ ∃ N : St → Hp → Prop, (∀ σ' H', N σ' H' → ∃ m', m' < m ∧ W (i + 1) m' σ' H') ∧ ∀ x H', J.yld i H x H' → g x σ H' fun σ2 H2 => tb { D with nx := N, ct := N, bk := D.nx } σ2 H2)
/-- the records at fp as they stand -/
def pinsAt (fp : List Addr) (h : Heap) : List (Addr × Obj) := fp.filterMap fun b => (h.get? b).map fun o => (b, o)
theorem mem_pinsAt {fp : List Addr} {h : Heap} {b : Addr} {o : Obj} (hb : b ∈ fp) (e : h.get? b = some o) : (b, o) ∈ pinsAt fp h := List.mem_filterMap.mpr ⟨b, hb, by rw [e]; rfl⟩
theorem of_pinsAt {fp : List Addr} {h : Heap} {p : Addr × Obj} (hp : p ∈ pinsAt fp h) : p.1 ∈ fp ∧ h.get? p.1 = some p.2 := by
  obtain ⟨b, hb, e⟩ := List.mem_filterMap.mp hp
  cases q : h.get? b with
  | none => rw [q] at e; cases e
  | some o =>
    rw [q] at e
    have e' : (b, o) = p := Option.some.inj e
    subst e'
    exact ⟨hb, q⟩
theorem Inv.pinned {pins : List (Addr × Obj)} {σ : St} {H : Hp} {s : Shared} {fp : List Addr} (I : Inv X pins σ H s) (hf : ∀ b ∈ fp, FpOk X pins H b) (ho : ∀ b ∈ fp, ∃ o, s.heap.get? b = some o ∧ ∀ v, o.data ≠ .cell v) : Inv X (pins ++ pinsAt fp s.heap) σ H s :=
  I.pins_of fun p hp => (List.mem_append.mp hp).elim (fun z => I.pin p (List.mem_append_right _ z)) fun z => by
    obtain ⟨hb, e⟩ := of_pinsAt z
    obtain ⟨f0, f1, f2, _⟩ := hf p.1 hb
    obtain ⟨o, e', d⟩ := ho p.1 hb
    rw [e] at e'; cases e'
    exact ⟨e, f0, f1, f2, d⟩
theorem Inv.unpinned {pins pl : List (Addr × Obj)} {σ : St} {H : Hp} {s : Shared} (I : Inv X (pins ++ pl) σ H s) : Inv X pins σ H s := I.pins_of fun p hp => I.pin p (List.mem_append_right _ (List.mem_append_left _ hp))
theorem ps_for {iter : Expr} {body : List Stmt} {wi : TI} {g : TG} {tb : TS} {pos : Pos} (hp : PassesOwn (model X.prog X.w) X.A X.env X.xe) (hc : X.calm = true) (hi : PI X tg iter wi) (hg : PG X tg g) (hb : PSs X body tb)
    (hs : ∀ x, foldedSetIterable iter X.env x = pure x := by intro _; rfl) : PS X (.For tg iter body [] pos) (tFor wi g tb) := by
  intro pins s σ H D I h
  refine wpAny_For (thn (hi pins s σ H _ I h) fun v s1 h1 => thn h1 fun itv s2 h2 => ?_) hs
  obtain ⟨it, fp, tn, J, H2, e, I2, T, st2, f2, W, ⟨m0, w0⟩, turn⟩ := h2
  subst e
  -- what stays true of the iterator's objects through the loop
  have stat : ∀ {H' : Hp}, (∀ b ∈ fp, H' b = none) → ∀ b ∈ fp, FpOk X pins H' b := fun hn b hb => ⟨hn b hb, (f2 b hb).2⟩
  refine codeAny_forLoop_any (fun n s' => ∃ i σ' H', Inv X pins σ' H' s' ∧ tn i s'.heap ∧ (∀ b ∈ fp, H' b = none) ∧ W i n σ' H') ?_ m0 ⟨0, σ, H2, I2, st2, fun b hb => (f2 b hb).1, w0⟩
  rintro n s3 ⟨i, σ3, H3, I3, st3, fr3, w3⟩
  rcases turn i n σ3 H3 w3 with ⟨stop, qn⟩ | ⟨go, N, hN, step⟩
  · refine wpAny_passesOwn hp (thn (T.done X rfl rfl rfl hc i pins s3 σ3 H3 X.xe I3 (stat fr3) st3 stop) fun r s4 ⟨hr, I4⟩ => ?_)
    subst hr
    exact wpAny_execs_nil ⟨σ3, H3, I4, qn⟩
  · refine wpAny_passesOwn hp (thn (T.item X rfl rfl rfl hc i pins s3 σ3 H3 X.xe I3 (stat fr3) st3 go) fun r s4 ⟨u, hr, h4⟩ => ?_)
    subst hr
    refine wpAny_passesOwn hp (thn h4 fun _ s5 ⟨x, H5, I5, r5, y5, st5, fr5⟩ => ?_)
    have I5' := I5.pinned (stat fr5) (T.obj _ _ st5)
    refine wpAny_passesOwn hp (thn (hg _ s5 σ3 H5 x u _ I5' r5 (step x H5 y5)) fun _ s6 ⟨σ6, H6, I6, q6⟩ => ?_)
    refine wpAny_passesOwn hp (thn (hb _ s6 σ6 H6 _ I6 q6) fun f s7 q7 => ?_)
    have again : ∀ {σ7 : St} {H7 : Hp}, Inv X (pins ++ pinsAt fp s5.heap) σ7 H7 s7 → N σ7 H7 → ∃ m, m < n ∧ ∃ i σ' H', Inv X pins σ' H' s7 ∧ tn i s7.heap ∧ (∀ b ∈ fp, H' b = none) ∧ W i m σ' H' := fun {σ7 H7} I7 n7 => by
      obtain ⟨m', hm, w7⟩ := hN σ7 H7 n7
      refine ⟨m', hm, i + 1, σ7, H7, I7.unpinned, T.keep _ _ _ st5 fun b hb o e => (I7.pin (b, o) (List.mem_append_right _ (List.mem_append_right _ (mem_pinsAt hb e)))).1, fun b hb => ?_, w7⟩
      obtain ⟨o, e, d⟩ := T.obj _ _ st5 b hb
      exact (I7.pin (b, o) (List.mem_append_right _ (List.mem_append_right _ (mem_pinsAt hb e)))).2.1
    cases f with
    | next => obtain ⟨σ7, H7, I7, n7⟩ := q7; exact again I7 n7
    | cont => obtain ⟨σ7, H7, I7, n7⟩ := q7; exact again I7 n7
    | brk => obtain ⟨σ7, H7, I7, q7⟩ := q7; exact ⟨σ7, H7, I7.unpinned, q7⟩
    | ret v => obtain ⟨x7, σ7, H7, I7, r7, q7⟩ := q7; exact ⟨x7, σ7, H7, I7.unpinned, r7, q7⟩
end
/-- over a list that the body leaves as it is -/
theorem for_list {K : PySem.W.Frag} {a : Addr} {xs : List V} {g : TG} {tb : TS} {D : Ends} {σ : St} {H : Hp} (Pv : Nat → St → Hp → Prop) (h0 : Pv 0 σ H) (hl : ∀ i σ H, i ≤ xs.length → Pv i σ H → SqL K H a xs)
    (hs : ∀ i x σ H, xs[i]? = some x → Pv i σ H → g x σ H fun σ2 H2 => tb { D with nx := Pv (i + 1), ct := Pv (i + 1), bk := D.nx } σ2 H2) (hd : ∀ σ H, Pv xs.length σ H → D.nx σ H) :
    ∃ W : Nat → Nat → St → Hp → Prop, (∃ m, W 0 m σ H) ∧ ∀ i m σ H, W i m σ H →
      ((Itl K a).stop i H ∧ D.nx σ H) ∨ ((Itl K a).go i H ∧ ∃ N : St → Hp → Prop, (∀ σ' H', N σ' H' → ∃ m', m' < m ∧ W (i + 1) m' σ' H') ∧ ∀ x H', (Itl K a).yld i H x H' → g x σ H' fun σ2 H2 => tb { D with nx := N, ct := N, bk := D.nx } σ2 H2) := by
  refine ⟨fun i m σ H => m = xs.length - i ∧ i ≤ xs.length ∧ Pv i σ H, ⟨xs.length, by simp, Nat.zero_le _, h0⟩, ?_⟩
  rintro i m σ H ⟨rfl, hi, p⟩
  have q := hl i σ H hi p
  by_cases hlt : i < xs.length
  · refine .inr ⟨⟨xs, xs[i], q, by simp [hlt]⟩, Pv (i + 1), fun σ' H' p' => ⟨xs.length - (i + 1), by omega, rfl, hlt, p'⟩, fun x H' y => ?_⟩
    obtain ⟨e, y⟩ := y
    subst e
    exact hs i x σ _ (y xs q) p
  · have e : i = xs.length := by omega
    subst e
    exact .inl ⟨⟨xs, q, Nat.le_refl _⟩, hd σ H p⟩
theorem for_range {lo : Int} {n : Nat} {g : TG} {tb : TS} {D : Ends} {σ : St} {H : Hp} (Pv : Nat → St → Hp → Prop) (h0 : Pv 0 σ H)
    (hs : ∀ i σ H, i < n → Pv i σ H → g (.int (lo + i)) σ H fun σ2 H2 => tb { D with nx := Pv (i + 1), ct := Pv (i + 1), bk := D.nx } σ2 H2) (hd : ∀ σ H, Pv n σ H → D.nx σ H) :
    ∃ W : Nat → Nat → St → Hp → Prop, (∃ m, W 0 m σ H) ∧ ∀ i m σ H, W i m σ H →
      ((Itr lo n).stop i H ∧ D.nx σ H) ∨ ((Itr lo n).go i H ∧ ∃ N : St → Hp → Prop, (∀ σ' H', N σ' H' → ∃ m', m' < m ∧ W (i + 1) m' σ' H') ∧ ∀ x H', (Itr lo n).yld i H x H' → g x σ H' fun σ2 H2 => tb { D with nx := N, ct := N, bk := D.nx } σ2 H2) := by
  refine ⟨fun i m σ H => m = n - i ∧ i ≤ n ∧ Pv i σ H, ⟨n, by simp, Nat.zero_le _, h0⟩, ?_⟩
  rintro i m σ H ⟨rfl, hi, p⟩
  by_cases hlt : i < n
  · refine .inr ⟨hlt, Pv (i + 1), fun σ' H' p' => ⟨n - (i + 1), by omega, rfl, hlt, p'⟩, fun x H' y => ?_⟩
    obtain ⟨e, y⟩ := y
    subst e y
    exact hs i σ _ hlt p
  · have e : i = n := by omega
    subst e
    exact .inl ⟨Nat.le_refl _, hd σ H p⟩
end L2
namespace L2
open PySem PySem.Spec PyProof.Rows
abbrev R2 := V → V → Hp → VK → Prop
/-- a two-place operation on values: f is binaryOp op, inplaceOp op or compareOp op -/
def OpR (X : Cx) (f : Value → Value → Sem Value) (r : R2) : Prop :=
  ∀ (pins : List (Addr × Obj)) (s : Shared) (σ : St) (H : Hp) (x y : V) (v u : Value) (Q : VK), Inv X pins σ H s → RelV x v → RelV y u → r x y H Q →
    wpAny (model X.prog X.w) X.A (f v u) (EP X pins σ Q) X.xe s
/-- a call of a value that is known (a builtin, a type) with values -/
def CallR (X : Cx) (f : Value) (r : List V → Hp → VK → Prop) : Prop :=
  ∀ (pins : List (Addr × Obj)) (s : Shared) (σ : St) (H : Hp) (xs : List V) (us : List Value) (Q : VK), Inv X pins σ H s → Vals xs us → r xs H Q →
    wpAny (model X.prog X.w) X.A (call f us) (EP X pins σ Q) X.xe s
def tOp (r : R2) (ta tb : TE) : TE := fun σ H Q => ta σ H fun x H1 => tb σ H1 fun y H2 => r x y H2 Q
/-- ints in, under C, and a value out -/
def rI (C : Int → Int → Prop) (g : Int → Int → V) : R2 := fun x y H Q => ∃ i j, x = .int i ∧ y = .int j ∧ C i j ∧ Q (g i j) H
def rI0 (g : Int → Int → V) : R2 := fun x y H Q => ∃ i j, x = .int i ∧ y = .int j ∧ Q (g i j) H
section
variable {X : Cx} {a b c : Expr} {ta tb tc : TE} {pos : Pos}
theorem binT (ha : PE X a ta) (hb : PE X b tb) {pins : List (Addr × Obj)} {s : Shared} {σ : St} {H : Hp} {R : V → V → Hp → Prop} (I : Inv X pins σ H s)
    (h : ta σ H fun x H1 => tb σ H1 fun y H2 => R x y H2) {Q : Value → Shared → Prop} {f : Value → Value → Sem Value}
    (hf : ∀ v u s2 x y H2, Inv X pins σ H2 s2 → RelV x v → RelV y u → R x y H2 → wpAny (model X.prog X.w) X.A (f v u) Q X.xe s2) :
    wpAny (model X.prog X.w) X.A (eval a X.env) (fun v s₁ => wpAny (model X.prog X.w) X.A (eval b X.env) (fun u s₂ => wpAny (model X.prog X.w) X.A (f v u) Q X.xe s₂) X.xe s₁) X.xe s := by
  refine thn (ha pins s σ H _ I h) fun v s1 ⟨x, H1, I1, r1, q1⟩ => ?_
  refine thn (hb pins s1 σ H1 _ I1 q1) fun u s2 ⟨y, H2, I2, r2, q2⟩ => ?_
  exact hf v u s2 x y H2 I2 r1 r2 q2
theorem pe_op {op : Operator} {r : R2} (ho : OpR X (binaryOp op) r) (ha : PE X a ta) (hb : PE X b tb) : PE X (.BinOp a op b pos) (tOp r ta tb) := by
  intro pins s σ H Q I h
  exact wpAny_BinOp (binT ha hb I h fun v u s2 x y H2 I2 rx ry q => ho pins s2 σ H2 x y v u Q I2 rx ry q)
theorem opI {f : Value → Value → Sem Value} {C : Int → Int → Prop} {g : Int → Int → Int}
    (rule : ∀ (i j : Int) (t u : Tok) (s : Shared) (Q : Value → Shared → Prop) (E : Value → Shared → Prop), C i j → Q (.int (g i j) s.toks) { s with toks := s.toks + 1 } → wpAny (model X.prog X.w) X.A (f (.int i t) (.int j u)) Q E s) :
    OpR X f (rI C fun i j => .int (g i j)) := by
  intro pins s σ H x y v u Q I rx ry h
  obtain ⟨i, j, rfl, rfl, hc, q⟩ := h
  obtain ⟨t, rfl⟩ := rx
  obtain ⟨t', rfl⟩ := ry
  exact rule i j t t' s _ _ hc ⟨.int (g i j), H, I.tok _, ⟨_, rfl⟩, q⟩
theorem opI0 {f : Value → Value → Sem Value} {g : Int → Int → Int}
    (rule : ∀ (i j : Int) (t u : Tok) (s : Shared) (Q : Value → Shared → Prop) (E : Value → Shared → Prop), Q (.int (g i j) s.toks) { s with toks := s.toks + 1 } → wpAny (model X.prog X.w) X.A (f (.int i t) (.int j u)) Q E s) :
    OpR X f (rI0 fun i j => .int (g i j)) := by
  intro pins s σ H x y v u Q I rx ry h
  obtain ⟨i, j, rfl, rfl, q⟩ := h
  obtain ⟨t, rfl⟩ := rx
  obtain ⟨t', rfl⟩ := ry
  exact rule i j t t' s _ _ ⟨.int (g i j), H, I.tok _, ⟨_, rfl⟩, q⟩
theorem opB0 {f : Value → Value → Sem Value} {g : Int → Int → Bool}
    (rule : ∀ (i j : Int) (t u : Tok) (s : Shared) (Q : Value → Shared → Prop) (E : Value → Shared → Prop), Q (.bool (g i j)) s → wpAny (model X.prog X.w) X.A (f (.int i t) (.int j u)) Q E s) :
    OpR X f (rI0 fun i j => .bl (g i j)) := by
  intro pins s σ H x y v u Q I rx ry h
  obtain ⟨i, j, rfl, rfl, q⟩ := h
  obtain ⟨t, rfl⟩ := rx
  obtain ⟨t', rfl⟩ := ry
  exact rule i j t t' s _ _ ⟨.bl (g i j), H, I, rfl, q⟩
def CPow (i j : Int) : Prop := 0 ≤ j ∧ j ≤ 1000000 ∧ i.natAbs < 2 ^ 64
def CMul (i j : Int) : Prop := (-(2 ^ 64) < i ∧ i < 2 ^ 64) ∨ (-(2 ^ 64) < j ∧ j < 2 ^ 64)
theorem CMul.ok {i j : Int} (h : CMul i j) : IntMulOk i j := by
  rcases h with ⟨h1, h2⟩ | ⟨h1, h2⟩
  · exact .of_left (intBits_le_64 h1 h2)
  · exact .of_right (intBits_le_64 h1 h2)
theorem op_add : OpR X (binaryOp .Add) (rI0 fun i j => .int (i + j)) := opI0 fun _ _ _ _ _ _ _ q => add_int q
theorem op_sub : OpR X (binaryOp .Sub) (rI0 fun i j => .int (i - j)) := opI0 fun _ _ _ _ _ _ _ q => sub_int q
theorem op_mul : OpR X (binaryOp .Mult) (rI CMul fun i j => .int (i * j)) := opI fun _ _ _ _ _ _ _ hc q => mul_int q hc.ok
/-- % by a positive divisor of any size -/
theorem op_mod : OpR X (binaryOp .Mod) (rI (fun _ j => 0 < j) fun i j => .int (i % j)) := opI fun i j _ _ _ _ _ hc q => by
  have h1 : (0 : Int) < j := hc
  exact mod_int' (by omega) (by rw [Int.fmod_eq_emod_of_nonneg i (by omega)]; exact q)
theorem op_pow : OpR X (binaryOp .Pow) (rI CPow fun i j => .int (i ^ j.toNat)) := opI fun _ _ _ _ _ _ _ hc q => pow_int_small hc.1 hc.2.1 hc.2.2 q
theorem op_xor : OpR X (binaryOp .BitXor) (rI0 fun i j => .int (Builtin.bitXor i j)) := opI0 fun _ _ _ _ _ _ _ q => xor_int q
end
/-- the scalars that == tells apart as data does -/
def scal : V → V → Bool
  | .non, .non => true | .non, .int _ => true | .int _, .non => true | .non, .bl _ => true | .bl _, .non => true | .non, .str _ => true | .str _, .non => true
  | .int _, .int _ => true | .bl _, .bl _ => true | .str _, .str _ => true | .byt _, .byt _ => true
  | .int _, .str _ => true | .str _, .int _ => true | .bl _, .str _ => true | .str _, .bl _ => true
  | _, _ => false
def rEq : R2 := fun x y H Q => scal x y = true ∧ Q (.bl (decide (x = y))) H
def rNe : R2 := fun x y H Q => scal x y = true ∧ Q (.bl (!decide (x = y))) H
theorem dec_int {i j : Int} : decide (V.int i = V.int j) = (i == j) := by
  rw [Bool.eq_iff_iff]
  simp
theorem dec_bl {i j : Bool} : decide (V.bl i = V.bl j) = (i == j) := by
  rw [Bool.eq_iff_iff]
  simp
theorem dec_str {i j : Str} : decide (V.str i = V.str j) = (i == j) := by
  rw [Bool.eq_iff_iff]
  simp
theorem dec_byt {i j : Array UInt8} : decide (V.byt i = V.byt j) = (i.toList == j.toList) := by
  rw [Bool.eq_iff_iff]
  cases i
  cases j
  simp
section
variable {X : Cx} {a b c : Expr} {ta tb tc : TE} {pos : Pos}
theorem fin_bl {pins : List (Addr × Obj)} {σ : St} {H : Hp} {s : Shared} {Q : VK} {k k' : Bool} (I : Inv X pins σ H s) (q : Q (.bl k) H) (e : k = k') : EP X pins σ Q (.bool k') s := by
  subst e
  exact ⟨.bl k, H, I, rfl, q⟩
theorem op_eq : OpR X (compareOp .Eq) rEq := by
  intro pins s σ H x y v u Q I rx ry h
  obtain ⟨hs, q⟩ := h
  cases x with
  | non =>
    cases rx
    cases y with
    | non => cases ry; exact PySem.EqNone.eq_none_none (fin_bl I q (by simp))
    | bl j => cases ry; exact PySem.EqNone.eq_none_bool (fin_bl I q (by simp))
    | int j => obtain ⟨t', rfl⟩ := ry; exact PySem.EqNone.eq_none_int (fin_bl I q (by simp))
    | str j => obtain ⟨t', rfl⟩ := ry; exact PySem.EqNone.eq_none_str (fin_bl I q (by simp))
    | _ => exact absurd (show false = true from hs) Bool.false_ne_true
  | bl i =>
    cases rx
    cases y with
    | non => cases ry; exact PySem.EqNone.eq_bool_none (fin_bl I q (by simp))
    | bl j => cases ry; exact eq_bool (fin_bl I q dec_bl)
    | str j => obtain ⟨t', rfl⟩ := ry; exact PySem.EqMixed.eq_bool_str (fin_bl I q (by simp))
    | _ => exact absurd (show false = true from hs) Bool.false_ne_true
  | int i =>
    obtain ⟨t, rfl⟩ := rx
    cases y with
    | non => cases ry; exact PySem.EqNone.eq_int_none (fin_bl I q (by simp))
    | int j => obtain ⟨t', rfl⟩ := ry; exact eq_int (fin_bl I q dec_int)
    | str j => obtain ⟨t', rfl⟩ := ry; exact PySem.EqMixed.eq_int_str (fin_bl I q (by simp))
    | _ => exact absurd (show false = true from hs) Bool.false_ne_true
  | str i =>
    obtain ⟨t, rfl⟩ := rx
    cases y with
    | non => cases ry; exact PySem.EqNone.eq_str_none (fin_bl I q (by simp))
    | bl j => cases ry; exact PySem.EqMixed.eq_str_bool (fin_bl I q (by simp))
    | int j => obtain ⟨t', rfl⟩ := ry; exact PySem.EqMixed.eq_str_int (fin_bl I q (by simp))
    | str j => obtain ⟨t', rfl⟩ := ry; exact eq_str (fin_bl I q dec_str)
    | _ => exact absurd (show false = true from hs) Bool.false_ne_true
  | byt i =>
    obtain ⟨t, rfl⟩ := rx
    cases y with
    | byt j => obtain ⟨t', rfl⟩ := ry; exact PySem.W.eq_bytes (fin_bl I q dec_byt)
    | _ => exact absurd (show false = true from hs) Bool.false_ne_true
  | _ => cases y <;> exact absurd (show false = true from hs) Bool.false_ne_true
theorem op_ne : OpR X (compareOp .NotEq) rNe := by
  intro pins s σ H x y v u Q I rx ry h
  obtain ⟨hs, q⟩ := h
  cases x with
  | non =>
    cases rx
    cases y with
    | non => cases ry; exact PySem.EqNone.ne_none_none (fin_bl I q (by simp))
    | bl j => cases ry; exact PySem.EqNone.ne_none_bool (fin_bl I q (by simp))
    | int j => obtain ⟨t', rfl⟩ := ry; exact PySem.EqNone.ne_none_int (fin_bl I q (by simp))
    | str j => obtain ⟨t', rfl⟩ := ry; exact PySem.EqNone.ne_none_str (fin_bl I q (by simp))
    | _ => exact absurd (show false = true from hs) Bool.false_ne_true
  | bl i =>
    cases rx
    cases y with
    | non => cases ry; exact PySem.EqNone.ne_bool_none (fin_bl I q (by simp))
    | bl j => cases ry; exact ne_bool (fin_bl I q (congrArg not dec_bl))
    | str j => obtain ⟨t', rfl⟩ := ry; exact PySem.EqMixed.ne_bool_str (fin_bl I q (by simp))
    | _ => exact absurd (show false = true from hs) Bool.false_ne_true
  | int i =>
    obtain ⟨t, rfl⟩ := rx
    cases y with
    | non => cases ry; exact PySem.EqNone.ne_int_none (fin_bl I q (by simp))
    | int j => obtain ⟨t', rfl⟩ := ry; exact ne_int (fin_bl I q (congrArg not dec_int))
    | str j => obtain ⟨t', rfl⟩ := ry; exact PySem.EqMixed.ne_int_str (fin_bl I q (by simp))
    | _ => exact absurd (show false = true from hs) Bool.false_ne_true
  | str i =>
    obtain ⟨t, rfl⟩ := rx
    cases y with
    | non => cases ry; exact PySem.EqNone.ne_str_none (fin_bl I q (by simp))
    | bl j => cases ry; exact PySem.EqMixed.ne_str_bool (fin_bl I q (by simp))
    | int j => obtain ⟨t', rfl⟩ := ry; exact PySem.EqMixed.ne_str_int (fin_bl I q (by simp))
    | str j => obtain ⟨t', rfl⟩ := ry; exact ne_str (fin_bl I q (congrArg not dec_str))
    | _ => exact absurd (show false = true from hs) Bool.false_ne_true
  | byt i =>
    obtain ⟨t, rfl⟩ := rx
    cases y with
    | byt j => obtain ⟨t', rfl⟩ := ry; exact PySem.W.ne_bytes (fin_bl I q (congrArg not dec_byt))
    | _ => exact absurd (show false = true from hs) Bool.false_ne_true
  | _ => cases y <;> exact absurd (show false = true from hs) Bool.false_ne_true
theorem op_lt : OpR X (compareOp .Lt) (rI0 fun i j => .bl (decide (i < j))) := opB0 fun _ _ _ _ _ _ _ q => lt_int q
theorem op_gt : OpR X (compareOp .Gt) (rI0 fun i j => .bl (decide (j < i))) := opB0 fun _ _ _ _ _ _ _ q => gt_int q
/-- the one string within the other -/
theorem op_in_str : OpR X (compareOp .In) (fun x y H Q => ∃ i j, x = .str i ∧ y = .str j ∧ Q (.bl (!(Builtin.Str.occurrences j i 0 j.length 1).isEmpty)) H) := by
  intro pins s σ H x y v u Q I rx ry h
  obtain ⟨i, j, rfl, rfl, q⟩ := h
  obtain ⟨t, rfl⟩ := rx
  obtain ⟨t', rfl⟩ := ry
  exact in_str (fin_bl I q rfl)
/-- is None, is not None: the right side a value none -/
theorem op_isN : OpR X (compareOp .Is) (fun x y H Q => y = .non ∧ Q (.bl (decide (x = .non))) H) := by
  intro pins s σ H x y v u Q I rx ry h
  obtain ⟨rfl, q⟩ := h
  cases ry
  refine is_none_gen (fin_bl I q ?_)
  cases x <;> first
    | (cases rx; rfl)
    | (obtain ⟨t, rfl⟩ := rx; rfl)
theorem op_notin_str : OpR X (compareOp .NotIn) (fun x y H Q => ∃ i j, x = .str i ∧ y = .str j ∧ Q (.bl (!(!(Builtin.Str.occurrences j i 0 j.length 1).isEmpty))) H) := by
  intro pins s σ H x y v u Q I rx ry h
  obtain ⟨i, j, rfl, rfl, q⟩ := h
  obtain ⟨t, rfl⟩ := rx
  obtain ⟨t', rfl⟩ := ry
  exact notIn_str (fin_bl I q rfl)
/-- two rules for one operation: by cases -/
theorem OpR.or {f : Value → Value → Sem Value} {r r' : R2} (h : OpR X f r) (h' : OpR X f r') : OpR X f (fun x y H Q => r x y H Q ∨ r' x y H Q) := by
  intro pins s σ H x y v u Q I rx ry q
  rcases q with q | q
  · exact h pins s σ H x y v u Q I rx ry q
  · exact h' pins s σ H x y v u Q I rx ry q
theorem nomark (b : Expr) {op : CmpOp} (h : op ≠ .In := by decide) (h2 : op ≠ .NotIn := by decide) : behindInMarks op b = false := by
  have e1 : (op == CmpOp.In) = false := by cases op <;> first | rfl | exact absurd rfl h
  have e2 : (op == CmpOp.NotIn) = false := by cases op <;> first | rfl | exact absurd rfl h2
  cases b <;> simp [behindInMarks, e1, e2]
/-- a comparison as a value; hm: nomark b, or (for in, not in) by with_unfolding_all rfl -/
theorem pe_cmpR {op : CmpOp} {r : R2} (ho : OpR X (compareOp op) r) (ha : PE X a ta) (hb : PE X b tb) (hm : behindInMarks op b = false) : PE X (.Compare a [op] [b] pos) (tOp r ta tb) := by
  intro pins s σ H Q I h
  exact wpAny_Compare1 (binT ha hb I h fun v u s2 x y H2 I2 rx ry q => ho pins s2 σ H2 x y v u Q I2 rx ry q) hm
/-- a reading of a value as a test -/
def tTest (t : TE) : TT := fun σ H Q => t σ H fun x H' => ∃ k, x = .bl k ∧ Q k H'
theorem pt_cmpR {op : CmpOp} {r : R2} (ho : OpR X (compareOp op) r) (ha : PE X a ta) (hb : PE X b tb) (hm : behindInMarks op b = false) : PT X (.Compare a [op] [b] pos) (tTest (tOp r ta tb)) := by
  intro pins s σ H Q I h
  refine wpAny_isTrue_Compare1 (thn (ha pins s σ H _ I h) fun v s1 ⟨x, H1, I1, r1, q1⟩ => thn (hb pins s1 σ H1 _ I1 q1) fun u s2 ⟨y, H2, I2, r2, q2⟩ =>
    thn (ho pins s2 σ H2 x y v u _ I2 r1 r2 q2) fun c s3 ⟨z, H3, I3, r3, k, e, q3⟩ => ?_) hm
  subst e
  cases r3
  exact wpAny_truthy_bool ⟨H3, I3, q3⟩
theorem line63 : (sizeLine : Nat) < 2 ^ 63 := by rw [sizeLine_eq]; decide
theorem op_add_str : OpR X (binaryOp .Add) (fun x y H Q => ∃ i j, x = .str i ∧ y = .str j ∧ i.length + j.length ≤ sizeLine ∧ Q (.str (i ++ j)) H) := by
  intro pins s σ H x y v u Q I rx ry h
  obtain ⟨i, j, rfl, rfl, hz, q⟩ := h
  obtain ⟨t, rfl⟩ := rx
  obtain ⟨t', rfl⟩ := ry
  exact add_str (fun t' tk => ⟨.str (i ++ j), H, I.tok _, ⟨_, rfl⟩, q⟩) hz
theorem vals1 {x : V} {us : List Value} (r : Vals [x] us) : ∃ u, us = [u] ∧ RelV x u := by
  cases r with
  | cons r1 r2 => cases r2; exact ⟨_, rfl, r1⟩
theorem call_int1 : CallR X (.type "int") (fun xs H Q => (∃ i, xs = [.int i] ∧ Q (.int i) H) ∨ ∃ k, xs = [.bl k] ∧ Q (.int (if k then 1 else 0)) H) := by
  intro pins s σ H xs us Q I r h
  rcases h with ⟨i, rfl, q⟩ | ⟨k, rfl, q⟩
  · obtain ⟨u, rfl, t, rfl⟩ := vals1 r
    exact call_int_int ⟨.int i, H, I, ⟨_, rfl⟩, q⟩
  · obtain ⟨u, rfl, r1⟩ := vals1 r
    cases r1
    exact call_int_bool ⟨.int (if k then 1 else 0), H, I.tok _, ⟨_, rfl⟩, q⟩
end
end L2
namespace L2
open PySem PySem.Spec PyProof.Rows
structure ObjM (h : Heap) (x dx C : Addr) (mA : Str → Option Value) : Prop where
  obj : h.get? x = some (PySem.W.instObj C dx)
  ns : h.Ns1 dx mA
  ne : dx ≠ x
theorem lookIn_ns {h : Heap} {dx : Addr} {mA : Str → Option Value} (n : h.Ns1 dx mA) : ∃ od, h.get? dx = some od ∧ ∀ name, PySem.W.lookIn name od = some (mA name) := by
  obtain ⟨o, es, ep, ho, hd, hk, _, hm⟩ := n
  refine ⟨o, ho, fun name => ?_⟩
  have e := hm name
  unfold nsFind findBy at e
  rw [← Array.find?_toList] at e
  unfold PySem.W.lookIn
  rw [hd]
  dsimp only
  split
  · rename_i y q
    rw [q] at e
    exact congrArg some e
  · rename_i q
    rw [q] at e
    have a : es.toList.any (·.refKey) = false := by
      rw [List.any_eq_false]
      intro y hy
      obtain ⟨z, t, hkey⟩ := hk y (Array.mem_toList_iff.mp hy)
      simp [DictEntry.refKey, hkey]
    have a' : ¬ es.toList.any (·.refKey) = true := by rw [a]; exact Bool.false_ne_true
    rw [if_neg a']
    exact congrArg some e
theorem ObjM.look {h : Heap} {x dx C : Addr} {mA : Str → Option Value} (I : ObjM h x dx C mA) : ∃ od, PySem.W.InstAt h x (PySem.W.instObj C dx) C (some od) ∧ ∀ name, PySem.W.lookIn name od = some (mA name) :=
  let ⟨od, ho, hl⟩ := lookIn_ns I.ns
  ⟨od, ⟨I.obj, rfl, rfl, ho⟩, hl⟩
section
variable {prog : Program} {w : World} {A : Around} {E : Value → Shared → Prop} {s : Shared} {K : PySem.W.Frag} {x dx C f : Addr} {mA : Str → Option Value} {name : Str} {v : Value}
end
theorem RelO.some_of {v : V} {o : Option Value} (r : RelO (some v) o) : ∃ u, o = some u ∧ RelV v u := by
  cases o with
  | none => exact (show False from r).elim
  | some u => exact ⟨u, rfl, r⟩
section
variable {P : Program} {w : World} {H H' : Hp} {h h' : Heap} {a C dx : Addr} {fs fs' : List (Str × V)}
theorem ins_get (hok : HOk P w H h) (e : H a = some (.ins C dx fs)) : ∃ mA, ObjM h a dx C mA ∧ (∀ f, RelO (fs.lookup f) (mA f)) ∧ PySem.Within mA (fs.map (·.1)) ∧ fs.length ≤ 1000 ∧ H dx = some (.own a) := by
  obtain ⟨d, z, ne, ob, mA, n, r, q⟩ := (show ObjOk P w H h a (.ins C dx fs) from hok a _ e)
  exact ⟨mA, ⟨ob, n, ne⟩, r, q, z, d⟩
end
structure Cls (K : PySem.W.Frag) (C : Addr) : Prop where
  pg : PySem.W.plainGet K C Str.empty = true
  hd : PySem.W.hasDictIn K C = true
  po : PySem.W.plainOver K C = true
  sa : PySem.W.findIn K (.ref C) "__setattr__" = some (some (.builtin "object.__setattr__"))
theorem Cls.get {K : PySem.W.Frag} {C : Addr} (c : Cls K C) (f : Str) : PySem.W.plainGet K C f = true := c.pg
section
variable {X : Cx} {pins : List (Addr × Obj)} {σ : St} {H : Hp} {s : Shared} {a C dx : Addr} {fs : List (Str × V)} {f : Str} {v : V} {A : Around} {E : Value → Shared → Prop}
/-- a new instance, tracked, without attributes -/
theorem Inv.made (I : Inv X pins σ H s) : Inv X pins σ (upd (upd H s.heap.objs.size (.own (s.heap.objs.size + 1))) (s.heap.objs.size + 1) (.ins C s.heap.objs.size []))
    { s with heap := (s.heap.push PySem.W.emptyDict).push (PySem.W.instObj C s.heap.objs.size) } := by
  have e1 : (s.heap.push PySem.W.emptyDict).get? s.heap.objs.size = some PySem.W.emptyDict := Heap.get?_push_size s.heap rfl
  have e2 : ((s.heap.push PySem.W.emptyDict).push (PySem.W.instObj C s.heap.objs.size)).get? (s.heap.objs.size + 1) = some (PySem.W.instObj C s.heap.objs.size) := by
    have := Heap.get?_push_size (s.heap.push PySem.W.emptyDict) (o := PySem.W.instObj C s.heap.objs.size) rfl
    rwa [Heap.size_push] at this
  have e3 : (s.heap.push PySem.W.emptyDict).Ns s.heap.objs.size (fun _ => none) := ⟨PySem.W.emptyDict, #[], _, e1, rfl, (fun e he => absurd he (by simp)), fun _ => rfl⟩
  have I1 := I.laid (a := s.heap.objs.size) (o := .own (s.heap.objs.size + 1)) (h' := s.heap.push PySem.W.emptyDict) (t' := s.toks) (fun b u q => Heap.get?_push_of_some _ q) (Nat.le_refl _) ⟨_, e1⟩
  refine I1.laid (a := s.heap.objs.size + 1) (o := .ins C s.heap.objs.size []) (t' := s.toks) (fun b u q => Heap.get?_push_of_some _ q) (Nat.le_of_eq (Heap.size_push _ _)) ?_
  have ne : s.heap.objs.size ≠ s.heap.objs.size + 1 := Nat.ne_of_lt (Nat.lt_succ_self _)
  refine ⟨by rw [upd_ne ne, upd_same], Nat.zero_le _, ne, e2, fun _ => none, (Heap.Ns1.of_empty e3).at fun o q => Heap.get?_push_of_some _ q, fun _ => True.intro, fun y hy => absurd rfl hy⟩
end
section
variable {X : Cx} {o e value : Expr} {f : Str} {pos pos' tpos : Pos} {ta tv : TE}
end
section
variable {X : Cx} {pins : List (Addr × Obj)} {σ : St} {H : Hp} {s : Shared} {A : Around} {E : Value → Shared → Prop} {Q : Value → Shared → Prop} {c : Value} {b : Bool}
/-- the type of a value, as the fragment's deciders take it; for an instance its class -/
inductive TyOf (K : PySem.W.Frag) (H : Hp) : V → Value → Prop where
  | non : TyOf K H .non (.type "NoneType")
  | bl (x : Bool) : TyOf K H (.bl x) (.type "bool")
  | int (i : Int) : TyOf K H (.int i) (.type "int")
  | str (x : Str) : TyOf K H (.str x) (.type "str")
  | flt (x : UInt64) : TyOf K H (.flt x) (.type "float")
  | lst {a : Addr} {xs : List V} (e : H a = some (.lst xs)) : TyOf K H (.ref a) (.type "list")
  | frz {a : Addr} {o : Obj} {xs : List V} (e : H a = some (.frz o (.lst xs))) : TyOf K H (.ref a) (.type "list")
  | tup {a : Addr} {xs : List V} (e : H a = some (.tup xs)) : TyOf K H (.ref a) (.type "tuple")
  | dK {a : Addr} {kvs : List (Key × V)} (e : H a = some (.dK kvs)) : TyOf K H (.ref a) (.type "dict")
  | dT {a : Addr} {kvs : List (List Key × V)} (e : H a = some (.dT kvs)) : TyOf K H (.ref a) (.type "dict")
  | ins {a C dx : Addr} {fs : List (Str × V)} (e : H a = some (.ins C dx fs)) (cl : Cls K C) (ha : PySem.W.findIn K (.ref C) "__class__" = some (some (.builtin "object.__class__")))
      (hn : PySem.W.specialIn K (.builtin "object.__class__") "__get__" = some (some (.builtin "getset_descriptor.__get__"))) (htk : PySem.W.takesIn K (.builtin "object.__class__") = some true)
      (hm : PySem.W.mroIn K C (.type "object") = some true) : TyOf K H (.ref a) (.ref C)
/-- isinstance(x, c) for one class c, a built-in or an own one: kitOne's answer -/
theorem isinst_ok {x : V} {u t : Value} (I : Inv X pins σ H s) (rx : RelV x u) (ty : TyOf X.K H x t) (e : PySem.W.kitOne X.K t c = some b) (h : ∀ tk, Q (.bool b) { s with toks := tk }) :
    wpAny (model X.prog X.w) A (call (.builtin "isinstance") [u, c]) Q E s := by
  cases ty with
  | non => cases (show u = Value.none from rx); exact PySem.W.kia_one PySem.W.kitx_none I.kIn True.intro e (fun z => nomatch z) h
  | bl y => cases (show u = Value.bool y from rx); exact PySem.W.kia_one PySem.W.kitx_bool I.kIn True.intro e (fun z => nomatch z) h
  | int i => obtain ⟨t, q⟩ := (show ∃ t, u = Value.int i t from rx); cases q; exact PySem.W.kia_one PySem.W.kitx_int I.kIn True.intro e (fun z => nomatch z) h
  | str y => obtain ⟨t, q⟩ := (show ∃ t, u = Value.str y t from rx); cases q; exact PySem.W.kia_one PySem.W.kitx_str I.kIn True.intro e (fun z => nomatch z) h
  | flt y => obtain ⟨t, q⟩ := (show ∃ t, u = Value.float y t from rx); cases q; exact PySem.W.kia_one PySem.W.kitx_float I.kIn True.intro e (fun z => nomatch z) h
  | @lst a xs ea =>
    cases (show u = Value.ref a from rx)
    obtain ⟨_, _, n, _, h1⟩ := (show ObjOk X.prog X.w H s.heap a (.lst xs) from I.hok a _ ea)
    exact PySem.W.kia_one PySem.W.kitx_list I.kIn ⟨_, h1, rfl⟩ e (fun z => nomatch z) h
  | @frz a ob xs ea =>
    cases (show u = Value.ref a from rx)
    obtain ⟨_, _, _, n, _, h1⟩ := (show ObjOk X.prog X.w H s.heap a (.frz ob (.lst xs)) from I.hok a _ ea)
    exact PySem.W.kia_one PySem.W.kitx_list I.kIn ⟨_, h1, rfl⟩ e (fun z => nomatch z) h
  | @tup a xs ea =>
    cases (show u = Value.ref a from rx)
    obtain ⟨_, _, _, p⟩ := (show ObjOk X.prog X.w H s.heap a (.tup xs) from I.hok a _ ea)
    obtain ⟨o, h1, h2, _⟩ := p
    exact PySem.W.kia_one PySem.W.kitx_tuple I.kIn ⟨o, h1, h2.1⟩ e (fun z => nomatch z) h
  | @dK a kvs ea =>
    cases (show u = Value.ref a from rx)
    obtain ⟨_, _, vs, _, p⟩ := (show ObjOk X.prog X.w H s.heap a (.dK kvs) from I.hok a _ ea)
    obtain ⟨o, es, ep, h1, h2, _⟩ := p
    exact PySem.W.kia_one PySem.W.kitx_dict I.kIn ⟨o, h1, h2.1⟩ e (fun z => nomatch z) h
  | @dT a kvs ea =>
    cases (show u = Value.ref a from rx)
    obtain ⟨_, _, xs, _, o, es, ep, h1, h2, _⟩ := (show ObjOk X.prog X.w H s.heap a (.dT kvs) from I.hok a _ ea)
    exact PySem.W.kia_one PySem.W.kitx_dict I.kIn ⟨o, h1, h2.1⟩ e (fun z => nomatch z) h
  | @ins a C dx fs ea cl ha hn htk hm =>
    cases (show u = Value.ref a from rx)
    obtain ⟨mA, O, _⟩ := ins_get I.hok ea
    obtain ⟨od, J, _⟩ := O.look
    exact PySem.W.kia_one (PySem.W.kitx_own (cl.get _) cl.hd ha hn htk hm) I.kIn J e (fun z => nomatch z) h
end
end L2
namespace L2
open PySem PySem.Spec PyProof.Rows
structure Room (k : Nat) (A : Around) : Prop where
  hd : A.handled = none
  dp : A.depth + 3 * k + 5 < recursionLimit
  un : A.units + 16 * k + 200 < cLine
  gd : A.guards = some []
theorem Room.mono {j k : Nat} {A : Around} (r : Room k A) (h : j ≤ k) : Room j A := ⟨r.hd, by have := r.dp; omega, by have := r.un; omega, r.gd⟩
theorem Room.deeper {k : Nat} {A : Around} (r : Room (k + 1) A) (env : Env) : Room k (A.deeper env) :=
  ⟨r.hd, by have := r.dp; show A.depth + 1 + 3 * k + 5 < _; omega, by have := r.un; show A.units + 3 + 16 * k + 200 < _; omega, r.gd⟩
theorem Room.in1 {k : Nat} {A : Around} (r : Room (k + 1) A) : Room k A.in1 :=
  ⟨r.hd, by have := r.dp; show A.depth + 3 * k + 5 < _; omega, by have := r.un; show A.units + 1 + 16 * k + 200 < _; omega, r.gd⟩
theorem Room.depth {k : Nat} {A : Around} (r : Room k A) : A.depth < recursionLimit := by have := r.dp; omega
theorem Room.units {k : Nat} {A : Around} (r : Room k A) : A.units + 64 < cLine := by have := r.un; omega
def tNil : TA := fun _ H Q => Q [] H
def tCons (ta : TE) (tr : TA) : TA := fun σ H Q => ta σ H fun x H1 => tr σ H1 fun xs H2 => Q (x :: xs) H2
section
variable {X : Cx} {e : Expr} {es : List Expr} {te : TE} {t : TA} {pos : Pos}
theorem pa_nil : PA X [] tNil := fun _ _ _ _ H Q I h => Calls.spliced_nil ⟨[], H, I, .nil, h⟩
theorem pa_cons (ha : PE X e te) (hr : PA X es t) (hs : starEach (e :: es) X.env = (false, eval e X.env) :: starEach es X.env := by rfl) : PA X (e :: es) (tCons te t) := by
  intro pos pins s σ H Q I h
  rw [hs]
  show wpAny _ _ (spliced ((false, eval e X.env) :: backTo pos (starEach es X.env))) _ _ s
  refine Calls.spliced_cons (thn (ha pins s σ H _ I h) fun u s1 ⟨x, H1, I1, r1, q1⟩ => ?_)
  exact thn (hr pos pins s1 σ H1 _ I1 q1) fun us s2 ⟨xs, H2, I2, r2, q2⟩ => ⟨x :: xs, H2, I2, .cons r1 r2, q2⟩
/-- a tuple, a list of written items -/
def tTup (t : TA) : TE := fun σ H Q => t σ H fun xs H1 => xs.length ≤ sizeLine ∧ ∀ p, H1 p = none → Q (.ref p) (upd H1 p (.tup xs))
def tLst (t : TA) : TE := fun σ H Q => t σ H fun xs H1 => xs.length ≤ sizeLine ∧ ∀ p, H1 p = none → Q (.ref p) (upd H1 p (.lst xs))
theorem pe_tup {x1} (h : PA X es t) : PE X (.Tuple es x1 pos) (tTup t) := by
  intro pins s σ H Q I hq
  refine wpAny_Tuple_spliced (thn (h pos pins s σ H _ I hq) fun us s1 ⟨xs, H1, I1, r, z, q⟩ => ⟨by rw [← r.length]; exact z, ?_⟩)
  have hf : H1 s1.heap.objs.size = none := I1.hok.fresh (Nat.le_refl _)
  refine ⟨.ref s1.heap.objs.size, upd H1 s1.heap.objs.size (.tup xs), I1.laid (t' := s1.toks) (fun b u e => Heap.get?_push_of_some _ e) (Nat.le_refl _) ?_, rfl, q _ hf⟩
  exact ⟨z, us, r, ⟨_, Heap.get?_push_size _ rfl, ⟨rfl, _, rfl⟩, rfl⟩⟩
theorem pe_lst (h : PA X es t) : PE X (.List es pos) (tLst t) := by
  intro pins s σ H Q I hq
  refine wpAny_List_spliced (thn (h pos pins s σ H _ I hq) fun us s1 ⟨xs, H1, I1, r, z, q⟩ => ⟨by rw [← r.length]; exact z, ?_⟩)
  have hf : H1 s1.heap.objs.size = none := I1.hok.fresh (Nat.le_refl _)
  refine ⟨.ref s1.heap.objs.size, upd H1 s1.heap.objs.size (.lst xs), I1.laid (t' := s1.toks) (fun b u e => Heap.get?_push_of_some _ e) (Nat.le_refl _) ?_, rfl, q _ hf⟩
  exact ⟨z, us, 0, r, Heap.get?_push_size _ rfl⟩
end
/-- a def's promise: the bound arguments in the parameters' order, the heap, the wanted end, the wanted exception -/
abbrev Sp := List V → Hp → VK → XK → Prop
/-- how an exception lies behind a call (file 08 gives it): the callers' frames, abstract heap and state ahead of the call, the wish, the exception, the state -/
abbrev CXT := List Env → Hp → Shared → XK → Value → Shared → Prop
/-- the state at a call -/
structure Env0 (P : Program) (w : World) (K : PySem.W.Frag) (mg : Str → Option Value) (base : Heap) (A : Around) (outer : List Env) (s : Shared) (H : Hp) : Prop where
  frames : A.frames = some outer
  mod : Mod K mg base
  bs : ∀ b o, base.get? b = some o → s.heap.get? b = some o ∧ H b = none
  bsz : base.objs.size ≤ s.heap.objs.size
  funs : s.heap.FunFrames base outer
  frf : ∀ b ∈ frs outer, H b = none
  hok : HOk P w H s.heap
  bare : AllBare s.gens
/-- a call's end -/
def CE (outer : List Env) (P : Program) (w : World) (H : Hp) (s : Shared) (Q : VK) (u : Value) (s' : Shared) : Prop :=
  ∃ v H', s'.os = s.os ∧ AllBare s'.gens ∧ Un (frs outer) [] H H' s.heap s'.heap ∧ HOk P w H' s'.heap ∧ RelV v u ∧ Q v H'
def CR (CX : CXT) (outer : List Env) (P : Program) (w : World) (H : Hp) (s : Shared) (Q : VK) (E : XK) (r : Result) (s' : Shared) : Prop :=
  match r with
  | .ok (.ret u) => CE outer P w H s Q u s'
  | .ok _ => False
  | .error e => CX outer H s E e s'
structure FnOk (P : Program) (w : World) (K : PySem.W.Frag) (mg : Str → Option Value) (base : Heap) (CX : CXT) (k : Nat) (f : Addr) (fd : FuncData) (ps : List Str) (sp : Sp) : Prop where
  len : ∀ vs H Q E, sp vs H Q E → vs.length = ps.length
  run : ∀ (A : Around) (outer : List Env) (s : Shared) (H : Hp) (args : Args) (us : List Value) (vs : List V) (Q : VK) (E : XK), Room k A → Env0 P w K mg base A outer s H → BindsTo s fd args (ps.zip us) → Vals vs us → sp vs H Q E →
    codeAny (model P w) A (.call (.ref f) args) (CR CX outer P w H s Q E) s
theorem FnOk.mono {P : Program} {w : World} {K : PySem.W.Frag} {mg : Str → Option Value} {base : Heap} {CX : CXT} {j k : Nat} {f : Addr} {fd : FuncData} {ps : List Str} {sp : Sp} (F : FnOk P w K mg base CX j f fd ps sp) (h : j ≤ k) :
    FnOk P w K mg base CX k f fd ps sp := ⟨F.len, fun A outer s H args us vs Q E hr => F.run A outer s H args us vs Q E (hr.mono h)⟩
/-- a weaker promise -/
theorem FnOk.imp {P : Program} {w : World} {K : PySem.W.Frag} {mg : Str → Option Value} {base : Heap} {CX : CXT} {k : Nat} {f : Addr} {fd : FuncData} {ps : List Str} {sp sp' : Sp} (F : FnOk P w K mg base CX k f fd ps sp)
    (h : ∀ vs H Q E, sp' vs H Q E → sp vs H Q E) : FnOk P w K mg base CX k f fd ps sp' :=
  ⟨fun vs H Q E q => F.len vs H Q E (h _ _ _ _ q), fun A outer s H args us vs Q E hr he hb hv hs => F.run A outer s H args us vs Q E hr he hb hv (h _ _ _ _ hs)⟩
theorem Env0.in1 {P : Program} {w : World} {K : PySem.W.Frag} {mg : Str → Option Value} {base : Heap} {A : Around} {outer : List Env} {s : Shared} {H : Hp} (e : Env0 P w K mg base A outer s H) :
    Env0 P w K mg base A.in1 outer s H := ⟨e.frames, e.mod, e.bs, e.bsz, e.funs, e.frf, e.hok, e.bare⟩
section
variable {X : Cx} {pins : List (Addr × Obj)} {σ : St} {H : Hp} {s s' : Shared}
/-- from a body: what a callee wants -/
theorem Inv.env0 (I : Inv X pins σ H s) : Env0 X.prog X.w X.K X.mg X.base X.A X.stack s H :=
  ⟨I.ok.frames, I.ok.mod, I.bs, Nat.le_trans I.ok.bsz I.sz, I.stack, I.stkFree, I.hok, I.bare⟩
/-- behind a call -/
theorem Inv.after {Q : VK} {u : Value} (I : Inv X pins σ H s) (h : CE X.stack X.prog X.w H s Q u s') : EP X pins σ Q u s' := by
  obtain ⟨v, H', os, bare, un, hok, r, q⟩ := h
  obtain ⟨hh, g, d, t, os'⟩ := s'
  obtain rfl : os' = s.os := os
  exact ⟨v, H', I.call (h' := hh) (g' := g) (d' := d) (t' := t) (ch := []) un hok bare (fun b z => absurd z (by simp)), r, q⟩
end
/-- f(..): the written arguments, then the defaults dvs; E: what is wanted of an exception -/
def tCall (sp : Sp) (dvs : List V) (E : XK) (t : TA) : TE := fun σ H Q => t σ H fun vs H1 => sp (vs ++ dvs) H1 Q E
/-- how the parameters are bound: us the positional arguments, kw the keywords' values by name, ds the defaults that fill up -/
def Binds (K : PySem.W.Frag) (fd : FuncData) (ps : List Str) (ds : List Value) : Prop :=
  ∀ (s : Shared) (us : List Value), K.In s.heap → (us ++ ds).length = ps.length → BindsTo s fd ⟨us, []⟩ (ps.zip (us ++ ds))
/-- every parameter is given -/
theorem Binds.all {K : PySem.W.Frag} {fd : FuncData} {ps : List Str} (h : ∀ us : List Value, us.length = ps.length → bindArgs fd ⟨us, []⟩ = pure (ps.zip us)) : Binds K fd ps [] := fun s us _ hl => by
  rw [List.append_nil] at hl ⊢
  exact .of_eq (h us hl)
/-- an exception of a callee reaches what this body wants of exceptions -/
def Passes (CX : CXT) (X : Cx) (E : XK) : Prop := ∀ (pins : List (Addr × Obj)) (σ : St) (H : Hp) (s : Shared) (e : Value) (s' : Shared), Inv X pins σ H s → CX X.stack H s E e s' → X.xe e s'
section
variable {X : Cx} {CX : CXT} {k : Nat} {f C : Addr} {fd : FuncData} {ps : List Str} {sp : Sp} {dvs : List V} {ds : List Value} {E : XK} {x m : Str} {p pos apos : Pos} {e o : Expr} {es : List Expr} {ta : TE} {t : TA}
/-- the callee runs -/
theorem run_fn {pins : List (Addr × Obj)} {σ : St} {H : Hp} {s : Shared} {Q : VK} {us : List Value} {vs : List V} (F : FnOk X.prog X.w X.K X.mg X.base CX k f fd ps sp) (hr : Room k X.A) (hb : Binds X.K fd ps ds) (hd : Vals dvs ds) (hx : Passes CX X E)
    (I : Inv X pins σ H s) (r : Vals vs us) (h : sp (vs ++ dvs) H Q E) : wpAny (model X.prog X.w) X.A (call (.ref f) us) (EP X pins σ Q) X.xe s := by
  have r2 : Vals (vs ++ dvs) (us ++ ds) := r.append hd
  have hl : (us ++ ds).length = ps.length := by rw [← r2.length]; exact F.len _ _ _ _ h
  refine wpAny_call (codeAny_mono (F.run X.A X.stack s H ⟨us, []⟩ (us ++ ds) (vs ++ dvs) Q E hr I.env0 (hb s us I.kIn hl) r2 h) fun r s' hq => ?_)
  cases r with
  | error e => exact hx pins σ H s e s' I hq
  | ok fl =>
    cases fl with
    | ret u => exact I.after hq
    | next => exact False.elim hq
    | brk => exact False.elim hq
    | cont => exact False.elim hq
theorem pe_call (F : FnOk X.prog X.w X.K X.mg X.base CX k f fd ps sp) (hr : Room k X.A) (hg : Gl X x) (hm : X.mg x = some (.ref f)) (hk : PySem.W.keepIn X.K (.ref f) = true) (hb : Binds X.K fd ps ds) (hd : Vals dvs ds) (hx : Passes CX X E)
    (ha : PA X (e :: es) t) (hdb : (x == ("__debug__" : Str)) = false := by decide) (he : starEach (e :: es) X.env = (false, eval e X.env) :: starEach es X.env := by rfl) (hpl : (backTo pos (starEach es X.env)).any (·.1) = false := by rfl) :
    PE X (.Call (.Name x p) (e :: es) [] pos) (tCall sp dvs E t) := by
  intro pins s σ H Q I h
  refine wpAny_Call_Name_kw (ld_glob I hg hm ?_ hdb)
  refine PySem.W.callWith_K (h₀ := X.base) I.ok.mod.kin hk (thn (ha pos pins s σ H _ I h) fun us s1 ⟨vs, H1, I1, r, q⟩ => ⟨I1.kIn, ?_⟩) he hpl
  exact run_fn F hr hb hd hx I1 r q
end
section
variable {X : Cx} {CX : CXT} {k : Nat} {f C : Addr} {fd : FuncData} {ps ks : List Str} {sp : Sp} {E : XK} {x m : Str} {p pos apos kpos : Pos} {e o : Expr} {es : List Expr} {kws : List Keyword} {te ta : TE} {t tk : TA} {nm : Option Str}
variable {g : List Value → List Value → List Value} {gV : List V → List V → List V}
end
/-- names: the parameters first -/
structure FnScope (N P : List Str) (sc : Scope) : Prop where
  kind : sc.kind = .function
  co : sc.isCoroutine = false
  gen : sc.isGenerator = false
  nd : N.Nodup
  pre : N.take P.length = P
  par : ∀ x ∈ P, sc.names.lookup x = some .local ∨ sc.names.lookup x = some .cell
  nofree : ∀ y ∈ sc.names, y.2 ≠ .free
theorem bindL_out {kindOf : Str → Option NameKind} {x : Str} : ∀ {binds : List (Str × Value)} {m : Str → Option Value}, (∀ v, (x, v) ∉ binds) → bindL kindOf binds m x = m x
  | [], _, _ => rfl
  | (n, v) :: r, m, h => by
    unfold bindL
    rw [bindL_out fun w hw => h w (List.mem_cons_of_mem _ hw)]
    split
    · have : x ≠ n := by rintro rfl; exact h v List.mem_cons_self
      simp [this]
    · rfl
theorem bindC_out {kindOf : Str → Option NameKind} {x : Str} : ∀ {binds : List (Str × Value)} {m : Str → Option Value}, (∀ v, (x, v) ∉ binds) → bindC kindOf binds m x = m x
  | [], _, _ => rfl
  | (n, v) :: r, m, h => by
    unfold bindC
    rw [bindC_out fun w hw => h w (List.mem_cons_of_mem _ hw)]
    split
    · rfl
    · have : x ≠ n := by rintro rfl; exact h v List.mem_cons_self
      simp [this]
theorem bindL_get {kindOf : Str → Option NameKind} {x : Str} {v : Value} : ∀ {P : List Str} {vs : List Value} {i : Nat} {m : Str → Option Value}, P.Nodup → P[i]? = some x → vs[i]? = some v → kindOf x = some .local →
    bindL kindOf (P.zip vs) m x = some v
  | [], _, _, _, _, h, _, _ => by simp at h
  | _ :: _, [], _, _, _, _, h, _ => by simp at h
  | p :: P, w :: vs, 0, m, nd, h1, h2, hk => by
    simp at h1 h2; subst h1; subst h2
    show bindL kindOf ((p, w) :: P.zip vs) m p = _
    unfold bindL
    rw [bindL_out fun v hv => (List.nodup_cons.mp nd).1 (List.of_mem_zip hv).1, if_pos hk]
    simp
  | p :: P, w :: vs, i + 1, m, nd, h1, h2, hk => by
    show bindL kindOf ((p, w) :: P.zip vs) m x = _
    unfold bindL
    exact bindL_get (i := i) (List.nodup_cons.mp nd).2 (by simpa using h1) (by simpa using h2) hk
theorem bindC_get {kindOf : Str → Option NameKind} {x : Str} {v : Value} : ∀ {P : List Str} {vs : List Value} {i : Nat} {m : Str → Option Value}, P.Nodup → P[i]? = some x → vs[i]? = some v → kindOf x ≠ some .local →
    bindC kindOf (P.zip vs) m x = some v
  | [], _, _, _, _, h, _, _ => by simp at h
  | _ :: _, [], _, _, _, _, h, _ => by simp at h
  | p :: P, w :: vs, 0, m, nd, h1, h2, hk => by
    simp at h1 h2; subst h1; subst h2
    show bindC kindOf ((p, w) :: P.zip vs) m p = _
    unfold bindC
    rw [bindC_out fun v hv => (List.nodup_cons.mp nd).1 (List.of_mem_zip hv).1, if_neg hk]
    simp
  | p :: P, w :: vs, i + 1, m, nd, h1, h2, hk => by
    show bindC kindOf ((p, w) :: P.zip vs) m x = _
    unfold bindC
    exact bindC_get (i := i) (List.nodup_cons.mp nd).2 (by simpa using h1) (by simpa using h2) hk
/-- the names' values at the entry -/
def start (N : List Str) (vs : List V) : St := vs.map some ++ List.replicate (N.length - vs.length) none
/-- the context of a def's body, at its entry; an exception leaves the frame, then lies as CX says -/
def cxOf (CX : CXT) (P : Program) (w : World) (K : PySem.W.Frag) (mg : Str → Option Value) (base : Heap) (N : List Str) (qual : Str) (scope : Scope) (f : Addr) (cd : Value) (A : Around) (outer : List Env) (s : Shared) (H : Hp) (E : XK) : Cx where
  prog := P
  w := w
  K := K
  mg := mg
  base := base
  A := A.deeper (envOfC qual scope s.heap.objs.size f cd)
  N := N
  s_0 := s
  H_0 := H
  env := envOfC qual scope s.heap.objs.size f cd
  outer := outer
  stack := envOfC qual scope s.heap.objs.size f cd :: outer
  ex := []
  calm := true
  fn := fun _ => true
  pn := []
  xe := fun e s' => wpAny (model P w) (A.deeper (envOfC qual scope s.heap.objs.size f cd)) (leaving (envOfC qual scope s.heap.objs.size f cd) e) (fun _ s'' => CX outer H s E e s'') (fun e' s'' => CX outer H s E e' s'') s'
theorem cell_has {sc : Scope} {n : Nat} {x : Str} (h : sc.names.lookup x = some .cell) : ∃ c, (cellsFrom n sc.names []).lookup x = some c := by
  have q := PySem.W.cellsFrom_some sc.names n [] (.inl h)
  exact Option.isSome_iff_exists.mp q
theorem inv_start {CX : CXT} {P : Program} {w : World} {K : PySem.W.Frag} {mg : Str → Option Value} {base : Heap} {N ps : List Str} {qual : Str} {scope : Scope} {f : Addr} {cd : Value} {A : Around} {outer : List Env} {s s1 : Shared} {H : Hp} {E : XK} {us : List Value} {vs : List V}
    (S : FnScope N ps scope) (hd : A.handled = none) (e0 : Env0 P w K mg base A outer s H) (hl : vs.length = ps.length) (r : Vals vs us)
    (x : InCallC s s.heap.objs.size (bindL (envOfC qual scope s.heap.objs.size f cd).kindOf (ps.zip us) fun _ => none) (cellsFrom (s.heap.objs.size + 1) scope.names []) (bindC (envOfC qual scope s.heap.objs.size f cd).kindOf (ps.zip us) fun _ => none) s1) :
    Inv (cxOf CX P w K mg base N qual scope f cd A outer s H E) [] (start N vs) H s1 := by
  have hpl : ps.length ≤ N.length := by have := congrArg List.length S.pre; rw [List.length_take] at this; omega
  obtain ⟨h1, tk, rfl, hk⟩ := x.done
  have noA : ∀ b : Addr, b ∉ (cxOf CX P w K mg base N qual scope f cd A outer s H E).ex := fun b z => absurd (show b ∈ ([] : List Addr) from z) (by simp)
  refine ⟨⟨e0.mod, S.kind, rfl, rfl, Nat.le_refl _, fun y z c h1 h2 => ?_, fun y hy => ?_, fun y c _ h => ?_, fun _ => hd, Around.frames_deeper e0.frames, .inr ⟨rfl, rfl⟩, fun b z => absurd z (noA b), e0.bs, e0.bsz, fun b _ _ => noA b, fun b z => absurd z (noA b), e0.funs, e0.frf⟩,
    rfl, e0.bare, Un.kept hk, ⟨_, x.toInCall.ns, fun i y v h1 h2 h3 => ?_⟩, fun y c h => ⟨_, x.cell y c h⟩, e0.hok.fresh (Nat.le_refl _), fun y c h => ?_, fun p hp => absurd (show p ∈ ([] : List (Addr × Obj)) from hp) (by simp), e0.hok.kept hk, ?_⟩
  · exact name_of_addr x.apart (PySem.mem_of_lookup h1) (PySem.mem_of_lookup h2)
  · have hy : scope.names.lookup y = some .cell ∨ scope.names.lookup y = some .free := hy
    rcases hy with hy | hy
    · exact cell_has hy
    · exact absurd rfl (S.nofree _ (PySem.mem_of_lookup hy))
  · exact Nat.le_of_lt (x.above y c (PySem.mem_of_lookup h))
  · have hi : i < vs.length := by
      unfold start at h2
      by_cases hi : i < vs.length
      · exact hi
      · rw [List.getElem?_append_right (by simpa using hi)] at h2
        rw [List.getElem?_replicate] at h2
        split at h2 <;> cases h2
    have ha : vs[i]? = some v := by
      unfold start at h2
      rw [List.getElem?_append_left (by simpa using hi), List.getElem?_map] at h2
      cases e : vs[i]? with
      | none => rw [e] at h2; cases h2
      | some a => rw [e] at h2; cases h2; rfl
    obtain ⟨u, hu, rv⟩ := r.get ha
    have hp : ps[i]? = some y := by
      rw [← S.pre, List.getElem?_take_of_lt (by omega)]; exact h1
    have ndP : ps.Nodup := by rw [← S.pre]; exact S.nd.sublist (List.take_sublist _ _)
    refine ⟨u, rv, ?_⟩
    rcases S.par y (List.mem_of_getElem? hp) with k | k
    · exact .inl ⟨k, bindL_get ndP hp hu k⟩
    · obtain ⟨c, e⟩ := cell_has (n := s.heap.objs.size + 1) k
      refine .inr ⟨.inl k, c, e, ?_⟩
      have q := x.cell y c e
      rw [bindC_get ndP hp hu (by show scope.names.lookup y ≠ _; rw [k]; decide)] at q
      exact q
  · exact e0.hok.fresh (Nat.le_of_lt (x.above y c (PySem.mem_of_lookup h)))
  · unfold start
    show _ = N.length
    rw [List.length_append, List.length_map, List.length_replicate]
    omega
/-- THE RULE: a def (or a method) of the text, by its body. The body's reading t is chosen for each entry; it is run at the parameters' values -/
theorem fn_of {CX : CXT} {P : Program} {w : World} {K : PySem.W.Frag} {mg : Str → Option Value} {base : Heap} {k : Nat} {f : Addr} {name qual : Str} {params : Arguments} {body : List Stmt} {scope : Scope} {dV kV doc pm cdv ct oc : Value} {an od : Option Addr}
    {osl : Array (Option Value)} {N ps : List Str} {sp : Sp} (lk : K.lookup f = some ⟨oc, od, .func (PySem.W.fnOf name qual params body scope dV kV doc pm an cdv ct), osl⟩) (hcd : PySem.W.codeIn K cdv qual = true) (S : FnScope N ps scope)
    (len : ∀ vs H Q E, sp vs H Q E → vs.length = ps.length)
    (hbody : ∀ (A : Around) (outer : List Env) (s : Shared) (H : Hp) (vs : List V) (Q : VK) (E : XK), Room k (A.deeper (envOfC qual scope s.heap.objs.size f cdv)) → sp vs H Q E →
      ∃ t, PSs (cxOf CX P w K mg base N qual scope f cdv A outer s H E) body t ∧ t { nx := fun _ H' => Q .non H', rt := Q } (start N vs) H) :
    FnOk P w K mg base CX (k + 1) f (PySem.W.fnOf name qual params body scope dV kV doc pm an cdv ct) ps sp := by
  refine ⟨len, fun A outer s H args us vs Q E hr e0 hb r hsp => ?_⟩
  have hl := len _ _ _ _ hsp
  have KX : K.In s.heap := e0.mod.kin.keeps fun b o e => (e0.bs b o e).1
  have lim : s.heap.NoLimit := e0.mod.nolimit.keeps fun b o e => (e0.bs b o e).1
  have hkind : ∀ y ∈ ps.zip us, scope.names.lookup y.1 = some .local ∨ (scope.names.lookup y.1 = some .cell ∧ ((cellsFrom (s.heap.objs.size + 1) scope.names []).lookup y.1).isSome = true) := fun ⟨n, v⟩ hy => by
    rcases S.par n (List.of_mem_zip hy).1 with q | q
    · exact .inl q
    · exact .inr ⟨q, PySem.W.cellsFrom_some _ _ _ (.inl q)⟩
  refine codeAny_call_function hr.depth (KX _ _ lk) rfl S.co S.gen rfl (PySem.W.codeRec_of KX hcd) (hb _ _ _ _ ?_)
  refine wpAny_newFunctionEnv_cells S.kind hkind fun env he s1 x => ?_
  subst he
  refine ⟨lim.keeps x.toInCall.keep, codeAny_func ?_⟩
  obtain ⟨t, ht, hq⟩ := hbody A outer s H vs Q E (hr.deeper _) hsp
  have I : Inv (cxOf CX P w K mg base N qual scope f cdv A outer s H E) [] (start N vs) H s1 := inv_start S hr.hd e0 hl r x
  refine wpAny_mono (ht [] s1 (start N vs) H _ I hq) (fun fl s' hs => ?_) fun e s' hs => hs
  have fin : ∀ {σ' : St} {H' : Hp} {v : V} {u : Value}, Inv (cxOf CX P w K mg base N qual scope f cdv A outer s H E) [] σ' H' s' → RelV v u → Q v H' → CE outer P w H s Q u s' :=
    fun {σ' H' v u} J rv q => ⟨v, H', J.os, J.bare, J.base, J.hok, rv, q⟩
  cases fl with
  | ret u =>
    obtain ⟨v, σ', H', J, rv, q⟩ := hs
    exact fin J rv q
  | next =>
    obtain ⟨σ', H', J, q⟩ := hs
    exact fin (v := V.non) (u := Value.none) J rfl q
  | brk =>
    obtain ⟨_, _, _, q⟩ := hs
    exact False.elim q
  | cont =>
    obtain ⟨_, _, _, q⟩ := hs
    exact False.elim q
end L2
namespace L2
open PySem PySem.Spec PyProof.Rows
section
variable {X : Cx} {x : Str} {p pos : Pos} {e : Expr} {es : List Expr} {t : TA} {id T : String} {r : List V → Hp → VK → Prop}
def tCB (r : List V → Hp → VK → Prop) (t : TA) : TE := fun σ H Q => t σ H fun vs H1 => r vs H1 Q
/-- f(e, ..), f a built-in function -/
theorem pe_callB (hc : CallR X (.builtin id) r) (hg : Gl X x) (hm : X.mg x = none) (hv : bootBuiltins x = some (.builtin id)) (ha : PA X (e :: es) t) (hn : x ≠ "__name__" := by decide) (hdb : (x == ("__debug__" : Str)) = false := by decide)
    (he : starEach (e :: es) X.env = (false, eval e X.env) :: starEach es X.env := by rfl) (hpl : (backTo pos (starEach es X.env)).any (·.1) = false := by rfl) : PE X (.Call (.Name x p) (e :: es) [] pos) (tCB r t) := by
  intro pins s σ H Q I h
  refine wpAny_Call_Name_kw (ld_blt I hg hm hv ?_ hn hdb)
  exact PyProof.Rows.callWith_builtin1 (thn (ha pos pins s σ H _ I h) fun us s1 ⟨vs, H1, I1, r1, q1⟩ => hc pins s1 σ H1 vs us Q I1 r1 q1) he hpl
/-- T(e, ..), T a built-in type -/
theorem pe_callTy (hc : CallR X (.type T) r) (hg : Gl X x) (hm : X.mg x = none) (hv : bootBuiltins x = some (.type T)) (ha : PA X (e :: es) t) (hn : x ≠ "__name__" := by decide) (hdb : (x == ("__debug__" : Str)) = false := by decide)
    (he : starEach (e :: es) X.env = (false, eval e X.env) :: starEach es X.env := by rfl) (hpl : (backTo pos (starEach es X.env)).any (·.1) = false := by rfl) : PE X (.Call (.Name x p) (e :: es) [] pos) (tCB r t) := by
  intro pins s σ H Q I h
  refine wpAny_Call_Name_kw (ld_blt I hg hm hv ?_ hn hdb)
  exact PyProof.Rows.callWith_type1 (thn (ha pos pins s σ H _ I h) fun us s1 ⟨vs, H1, I1, r1, q1⟩ => hc pins s1 σ H1 vs us Q I1 r1 q1) he hpl
end
end L2
namespace HT
open PySem PyProof.Rows
section
open PySem.SeqAt
open PySem.AutoSeq1 (wpAny_loadPart')
open PySem.MeetsSeq PySem.MeetsSeq2 PySem.MeetsSeq3
end
section
variable {prog : Program} {w : World} {A : Around} {E : Value → Shared → Prop} {s : Shared}
/-- t + u, t not empty -/
theorem cat_tup {t b : Addr} {vs ws : List Value} {Q : Value → Shared → Prop} (ht : IsTup s.heap t vs.toArray) (hb : IsTup s.heap b ws.toArray) (hv : vs ≠ [])
    (h1 : ws = [] → Q (.ref t) s) (h2 : ws ≠ [] → Q (.ref s.heap.objs.size) { s with heap := s.heap.push { cls := .type "tuple", data := .seq (vs ++ ws).toArray } })
    (hsz : vs.length + ws.length ≤ sizeLine) : wpAny (model prog w) A (binaryOp .Add (.ref t) (.ref b)) Q E s := by
  obtain ⟨⟨cls, dd, data, sl⟩, ho, hc, n, hd⟩ := id ht
  obtain ⟨⟨cls2, dd2, data2, sl2⟩, ho2, hc2, n2, hd2⟩ := id hb
  simp only at hc hd hc2 hd2
  subst hc hd hc2 hd2
  have e : vs.toArray ++ ws.toArray = (vs ++ ws).toArray := by simp
  by_cases hw : ws = []
  · exact concat_meets ⟨_, ho, rfl⟩ ⟨_, ho2, rfl⟩ noFill_tuple_add seq_tuple_add PySem.F.slot_tuple_add PySem.F.entry_tuple_add (PySem.F.args_tuple_add_2 _ _)
      (tuple_addW1 t b vs.toArray ws.toArray n n2 dd dd2 sl sl2 (by simpa using hv) (by simp [hw])) ⟨ho, ho2, h1 hw⟩
  · refine concat_meets ⟨_, ho, rfl⟩ ⟨_, ho2, rfl⟩ noFill_tuple_add seq_tuple_add PySem.F.slot_tuple_add PySem.F.entry_tuple_add (PySem.F.args_tuple_add_2 _ _)
      (tuple_addW2 t b vs.toArray ws.toArray n n2 dd dd2 sl sl2 (by simpa using hv) (by simpa using hw) (by rw [List.size_toArray, List.size_toArray]; exact hsz)) ⟨ho, ho2, ?_⟩
    rw [e]
    exact h2 hw
/-- a slice's bound as a place among n (d where it is left out) -/
def sIx (n d : Nat) : Option Int → Nat
  | none => d
  | some v => if v < 0 then (v + (n : Int)).toNat else min v.toNat n
theorem sIx_none (n d : Nat) : sIx n d none = d := rfl
theorem sIx_nat (n d k : Nat) : sIx n d (some (k : Int)) = min k n := by
  show (if (k : Int) < 0 then ((k : Int) + (n : Int)).toNat else min (k : Int).toNat n) = min k n
  rw [if_neg (by omega), Int.toNat_natCast]
theorem sIx_le (n d : Nat) (hd : d ≤ n) (o : Option Int) : sIx n d o ≤ n := by
  cases o with
  | none => exact hd
  | some v =>
    show (if v < 0 then (v + (n : Int)).toNat else min v.toNat n) ≤ n
    by_cases hv : v < 0
    · rw [if_pos hv]; omega
    · rw [if_neg hv]; exact Nat.min_le_right _ _
theorem clip_eq (v : Int) (n d : Nat) : (if v < 0 then max (v + (n : Int)) 0 else min v (n : Int)) = ((sIx n d (some v) : Nat) : Int) := by
  show (if v < 0 then max (v + (n : Int)) 0 else min v (n : Int)) = (((if v < 0 then (v + (n : Int)).toNat else min v.toNat n) : Nat) : Int)
  by_cases hv : v < 0
  · simp only [if_pos hv]; omega
  · simp only [if_neg hv]; omega
theorem adjust_gen (lo hi : Option Int) (n : Nat) : Builtin.Slice.sliceAdjust lo hi 1 (n : Int) = (((sIx n 0 lo : Nat) : Int), ((sIx n n hi : Nat) : Int)) := by
  have h1 : ¬ ((1 : Int) < 0) := by omega
  unfold Builtin.Slice.sliceAdjust
  simp only [h1, if_false]
  refine Prod.ext ?_ ?_
  · cases lo with
    | none => rfl
    | some v => exact clip_eq v n 0
  · cases hi with
    | none => rfl
    | some v => exact clip_eq v n n
theorem places_gen (i j : Nat) : Builtin.Slice.slicePlaces (i : Int) (j : Int) 1 = j - i := by
  unfold Builtin.Slice.slicePlaces
  have h1 : (1 : Int) > 0 := by omega
  simp only [h1, if_true, Int.ediv_one]
  split <;> omega
theorem slicePart_ {v : Value} {o : Option Int} {Q : Option Int → Shared → Prop} (p : IsPart v o) (h : Q o s) : wpAny (model prog w) A (Builtin.Slice.slicePartIndex v) Q E s := by
  cases p with
  | none => exact slicePart_none h
  | int i t => exact slicePart_int h
theorem sliceApplied_gen {sl : Addr} {vl vu : Value} {lo hi : Option Int} {n : Nat} {Q : Int × Int × Nat → Shared → Prop} (hs : s.heap.IsSliceOf sl vl vu .none) (pl : IsPart vl lo) (pu : IsPart vu hi)
    (h : Q (((sIx n 0 lo : Nat) : Int), 1, sIx n n hi - sIx n 0 lo) s) : wpAny (model prog w) A (Builtin.Slice.sliceApplied (.ref sl) (pure (n : Int))) Q E s := by
  obtain ⟨os, hos, hcs, hds⟩ := id hs
  unfold Builtin.Slice.sliceApplied Builtin.Slice.sliceFields
  refine wpAny_bind (wpAny_bind (wpAny_field hos hds (x := vl) rfl (wpAny_bind (wpAny_field hos hds (x := vu) rfl (wpAny_bind (wpAny_field hos hds (x := .none) rfl (wpAny_pure ?_)))))))
  refine wpAny_bind (slicePart_none ?_)
  show wpAny _ _ (if ((1 : Int) == 0) = true then _ else _) _ _ s
  rw [if_neg (by decide)]
  refine wpAny_bind (slicePart_ pl (wpAny_bind (slicePart_ pu (wpAny_bind (wpAny_pure ?_)))))
  show wpAny _ _ (match Builtin.Slice.sliceAdjust lo hi 1 (n : Int) with | (lo, hi) => pure (lo, (1 : Int), Builtin.Slice.slicePlaces lo hi 1)) _ _ s
  rw [adjust_gen lo hi n]
  show wpAny _ _ (pure (((sIx n 0 lo : Nat) : Int), (1 : Int), Builtin.Slice.slicePlaces ((sIx n 0 lo : Nat) : Int) ((sIx n n hi : Nat) : Int) 1)) _ _ s
  rw [places_gen]
  exact wpAny_pure h
theorem pick_gen (xs : Array Value) (i k : Nat) : ((List.range k).filterMap fun (m : Nat) => xs[((i : Int) + (m : Int) * 1).toNat]?).toArray = ((xs.toList.drop i).take k).toArray := by
  have e : (fun (m : Nat) => xs[((i : Int) + (m : Int) * 1).toNat]?) = fun m => xs[i + m]? := by
    funext m
    have : ((i : Int) + (m : Int) * 1).toNat = i + m := by omega
    rw [this]
  rw [e]
  have := pick_run xs i k
  rw [List.filterMap_map] at this
  have e2 : ((fun x => xs[x]?) ∘ fun x => i + x) = fun m => xs[i + m]? := rfl
  rw [e2] at this
  rw [this]
theorem getItem_tuple_cut {t sl : Addr} {items : Array Value} {vl vu : Value} {lo hi : Option Int} {Q : Value → Shared → Prop} (ht : IsTup s.heap t items) (hs : s.heap.IsSliceOf sl vl vu .none) (pl : IsPart vl lo) (pu : IsPart vu hi)
    (hw : ¬ (sIx items.size 0 lo = 0 ∧ sIx items.size items.size hi = items.size))
    (h : Q (.ref s.heap.objs.size) { s with heap := s.heap.push { cls := .type "tuple", data := .seq ((items.toList.drop (sIx items.size 0 lo)).take (sIx items.size items.size hi - sIx items.size 0 lo)).toArray } })
    (hsz : items.size ≤ sizeLine) : wpAny (model prog w) A (getItem (.ref t) (.ref sl)) Q E s := by
  have htake : sizeOk (.seq ((items.toList.drop (sIx items.size 0 lo)).take (sIx items.size items.size hi - sIx items.size 0 lo)).toArray) := by
    show ((items.toList.drop (sIx items.size 0 lo)).take (sIx items.size items.size hi - sIx items.size 0 lo)).toArray.size ≤ sizeLine
    rw [List.size_toArray, List.length_take, List.length_drop, Array.length_toList]
    omega
  have hj : sIx items.size items.size hi ≤ items.size := sIx_le _ _ (Nat.le_refl _) hi
  obtain ⟨os, hos, hcs, hds⟩ := id hs
  have hTs : s.TypeIs (.ref sl) "slice" := ⟨os, hos, hcs⟩
  unfold getItem
  try with_reducible refine wpAny_holding ?_
  first | refine wpAny_bind (wpAny_pure ?_) | skip
  refine wpAny_bind (wpAny_sequenceKey ht.typeIs (by decide) ?_)
  refine wpAny_bind (wpAny_callSpecial?_slot (name := Str.ofString "__getitem__") ht.typeIs PyProof.Rows.slot_tuple_getitem
    (wpAny_call_entry PyProof.Rows.slot_tuple_getitem ht.typeIs entry_tuple_getitem ?_ (args_tuple_getitem _ _)))
  show wpAny _ _ (Builtin.Tuple.tupleItemsOf (.ref t) >>= _) _ _ s
  refine wpAny_bind (tupleItemsOf_ ht ?_)
  refine wpAny_bind (wpAny_typeOf hTs ?_)
  rw [if_pos (by decide)]
  refine wpAny_bind (sliceApplied_gen hs pl pu ?_)
  have hno : ¬ ((((sIx items.size 0 lo : Nat) : Int) == 0 && (1 : Int) == 1 && (sIx items.size items.size hi - sIx items.size 0 lo) == items.size) = true) := by
    intro q
    rw [Bool.and_eq_true, Bool.and_eq_true] at q
    have q1 : ((sIx items.size 0 lo : Nat) : Int) = 0 := eq_of_beq q.1.1
    have q2 : sIx items.size items.size hi - sIx items.size 0 lo = items.size := eq_of_beq q.2
    exact hw ⟨by omega, by omega⟩
  show wpAny _ _ (if (((sIx items.size 0 lo : Nat) : Int) == 0 && (1 : Int) == 1 && (sIx items.size items.size hi - sIx items.size 0 lo) == items.size) = true then _ else _) _ _ s
  rw [if_neg hno, pick_gen]
  first
    | exact wpAny_bind (m := Builtin.Tuple.tupleExact _) (wpAny_newObj_type (wpAny_pure ⟨_, rfl, wpAny_pure h⟩) htake)
    | exact wpAny_bind (m := Builtin.Tuple.tupleExact _) (wpAny_newObj_type (wpAny_bind (wpAny_pure (wpAny_pure ⟨_, rfl, wpAny_pure h⟩))) htake)
    | exact wpAny_bind (wpAny_bind (m := Builtin.Tuple.tupleExact _) (wpAny_newObj_type (wpAny_pure (wpAny_pure ⟨_, rfl, wpAny_pure h⟩)) htake))
    | exact wpAny_bind (wpAny_bind (m := Builtin.Tuple.tupleExact _) (wpAny_newObj_type (wpAny_pure ⟨_, rfl, wpAny_pure h⟩) htake))
end
end HT
namespace L2
open PySem PySem.Spec PyProof.Rows
abbrev TO := St → Hp → (Option Int → Hp → Prop) → Prop
/-- a slice's part (left out, or an int) -/
def PO (X : Cx) (e : Option Expr) (t : TO) : Prop :=
  ∀ (pins : List (Addr × Obj)) (s : Shared) (σ : St) (H : Hp) (Q : Option Int → Hp → Prop), Inv X pins σ H s → t σ H Q →
    wpAny (model X.prog X.w) X.A (evalPart e X.env) (fun u s' => ∃ o H', Inv X pins σ H' s' ∧ IsPart u o ∧ Q o H') X.xe s
def tNoPart : TO := fun _ H Q => Q none H
def tPart (t : TE) : TO := fun σ H Q => t σ H fun x H1 => ∃ i, x = .int i ∧ Q (some i) H1
section
variable {X : Cx} {e : Expr} {te : TE} {lo hi : Option Expr} {tl th : TO} {pos p2 : Pos}
theorem po_none : PO X none tNoPart := by
  intro pins s σ H Q I h
  rw [evalPart_none]
  exact wpAny_pure ⟨none, H, I, .none, h⟩
theorem po_some (h : PE X e te) : PO X (some e) (tPart te) := by
  intro pins s σ H Q I hw
  rw [evalPart_some]
  refine thn (h pins s σ H _ I hw) fun u s1 ⟨x, H1, I1, r1, q1⟩ => ?_
  obtain ⟨i, rfl, q⟩ := q1
  obtain ⟨t, rfl⟩ := r1
  exact ⟨some i, H1, I1, .int i t, q⟩
/-- what a slice of a value is, by values: the slice object stands at sl -/
def SlR (X : Cx) (r : V → Option Int → Option Int → Hp → VK → Prop) : Prop :=
  ∀ (pins : List (Addr × Obj)) (s : Shared) (σ : St) (H : Hp) (x : V) (v vl vu : Value) (lo hi : Option Int) (sl : Addr) (Q : VK), Inv X pins σ H s → RelV x v → s.heap.IsSliceOf sl vl vu .none → IsPart vl lo → IsPart vu hi → r x lo hi H Q →
    ∃ T id, typeLookup (.type T) "__getitem__" = pure (some (.builtin id)) ∧ s.TypeIs v T ∧ wpAny (model X.prog X.w) X.A (getItem v (.ref sl)) (EP X pins σ Q) X.xe s
theorem SlR.or {r r' : V → Option Int → Option Int → Hp → VK → Prop} (h : SlR X r) (h' : SlR X r') : SlR X (fun x lo hi H Q => r x lo hi H Q ∨ r' x lo hi H Q) := by
  intro pins s σ H x v vl vu lo hi sl Q I rx hs pl pu q
  rcases q with q | q
  · exact h pins s σ H x v vl vu lo hi sl Q I rx hs pl pu q
  · exact h' pins s σ H x v vl vu lo hi sl Q I rx hs pl pu q
def tSl (r : V → Option Int → Option Int → Hp → VK → Prop) (te : TE) (tl th : TO) : TE := fun σ H Q => te σ H fun x H1 => tl σ H1 fun l H2 => th σ H2 fun u H3 => r x l u H3 Q
/-- a[lo:hi], any a -/
theorem pe_slice {r : V → Option Int → Option Int → Hp → VK → Prop} (hr : SlR X r) (he : PE X e te) (hl : PO X lo tl) (hu : PO X hi th) : PE X (.Subscript e (.Slice lo hi none p2) pos) (tSl r te tl th) := by
  intro pins s σ H Q I h
  refine Subscript_ (thn (he pins s σ H _ I h) fun v s1 ⟨x, H1, I1, r1, q1⟩ => ?_)
  refine wpAny_Slice (thn (hl pins s1 σ H1 _ I1 q1) fun vl s2 ⟨l, H2, I2, pl, q2⟩ => thn (hu pins s2 σ H2 _ I2 q2) fun vu s3 ⟨u, H3, I3, pu, q3⟩ => ?_)
  rw [evalPart_none]
  refine wpAny_pure ?_
  have I4 : Inv X pins σ H3 { s3 with heap := s3.heap.push { cls := .type "slice", data := .fields #[vl, vu, .none] } } := I3.kept (t' := s3.toks) fun b ob q => Heap.get?_push_of_some _ q
  obtain ⟨T, id, hT, ht, hg⟩ := hr pins { s3 with heap := s3.heap.push { cls := .type "slice", data := .fields #[vl, vu, .none] } } σ H3 x v vl vu l u s3.heap.objs.size Q I4 r1 (Heap.IsSliceOf.new ..) pl pu q3
  show wpAny (model X.prog X.w) X.A (subscriptTail e (.Slice lo hi none p2) v (.ref s3.heap.objs.size)) (EP X pins σ Q) X.xe { s3 with heap := s3.heap.push { cls := .type "slice", data := .fields #[vl, vu, .none] } }
  exact tail_any (ops := [.ref s3.heap.objs.size, v]) ht hT hg (by with_unfolding_all rfl)
/-- the items of xs[lo:hi] -/
def cutV (xs : List V) (lo hi : Option Int) : List V := (xs.drop (HT.sIx xs.length 0 lo)).take (HT.sIx xs.length xs.length hi - HT.sIx xs.length 0 lo)
theorem cutV_length (xs : List V) (lo hi : Option Int) : (cutV xs lo hi).length ≤ xs.length := by
  unfold cutV
  rw [List.length_take, List.length_drop]
  omega
/-- t[lo:hi], not the whole of it (the whole would be t itself) -/
def rSlT (K : PySem.W.Frag) : V → Option Int → Option Int → Hp → VK → Prop := fun x lo hi H Q => ∃ a xs, x = .ref a ∧ SqT K H a xs ∧
  ¬ (HT.sIx xs.length 0 lo = 0 ∧ HT.sIx xs.length xs.length hi = xs.length) ∧ ∀ p, H p = none → Q (.ref p) (upd H p (.tup (cutV xs lo hi)))
theorem sl_tup : SlR X (rSlT X.K) := by
  intro pins s σ H x v vl vu lo hi sl Q I rx hs pl pu h
  obtain ⟨a, xs, rfl, hx, hw, q⟩ := h
  cases rx
  obtain ⟨its, r, ht, hz⟩ := I.tuple hx
  have hlen : its.toArray.size = xs.length := by rw [List.size_toArray]; exact r.length.symm
  refine ⟨"tuple", _, PyProof.Rows.slot_tuple_getitem.lookup, ht.typeIs, ?_⟩
  refine HT.getItem_tuple_cut ht hs pl pu (by rw [hlen]; exact hw) ?_ (by rw [hlen]; exact hz)
  rw [hlen]
  refine ⟨.ref s.heap.objs.size, _, I.laid (t' := s.toks) (o := .tup (cutV xs lo hi)) (fun b ob q => Heap.get?_push_of_some _ q) (Nat.le_refl _) ?_, rfl, q _ (I.hok.fresh (Nat.le_refl _))⟩
  exact ⟨Nat.le_trans (cutV_length xs lo hi) hz, _, (r.drop (HT.sIx xs.length 0 lo)).take (HT.sIx xs.length xs.length hi - HT.sIx xs.length 0 lo), IsTupD.new _ _⟩
/-- t + u, t not empty: u empty gives t itself -/
def rCatT (K : PySem.W.Frag) : R2 := fun x y H Q => ∃ a b xs ys, x = .ref a ∧ y = .ref b ∧ SqT K H a xs ∧ SqT K H b ys ∧ xs ≠ [] ∧ xs.length + ys.length ≤ sizeLine ∧
  (ys = [] → Q (.ref a) H) ∧ (ys ≠ [] → ∀ p, H p = none → Q (.ref p) (upd H p (.tup (xs ++ ys))))
theorem Vals.nil_iff {xs : List V} {us : List Value} (r : Vals xs us) : us = [] ↔ xs = [] := by
  cases r with
  | nil => simp
  | cons _ _ => simp
theorem op_catT : OpR X (binaryOp .Add) (rCatT X.K) := by
  intro pins s σ H x y v u Q I rx ry h
  obtain ⟨a, b, xs, ys, rfl, rfl, ha, hb, hx, hz, q1, q2⟩ := h
  cases rx
  cases ry
  obtain ⟨its, r1, p1, _⟩ := I.tuple ha
  obtain ⟨its2, r2, p2, _⟩ := I.tuple hb
  refine HT.cat_tup p1 p2 (fun z => hx (r1.nil_iff.mp z)) (fun z => ⟨.ref a, H, I, rfl, q1 (r2.nil_iff.mp z)⟩) (fun z => ?_) (by rw [← r1.length, ← r2.length]; exact hz)
  refine ⟨.ref s.heap.objs.size, _, I.laid (t' := s.toks) (o := .tup (xs ++ ys)) (fun b ob q => Heap.get?_push_of_some _ q) (Nat.le_refl _) ?_, rfl, q2 (fun w => z (r2.nil_iff.mpr w)) _ (I.hok.fresh (Nat.le_refl _))⟩
  exact ⟨by rw [List.length_append]; exact hz, _, r1.append r2, IsTupD.new _ _⟩
end
end L2
namespace L2
open PySem PySem.Spec PyProof.Rows
/-- the place that an index of any sign means -/
def ixN (n : Nat) (i : Int) : Option Nat := if 0 ≤ i then (if i < n then some i.toNat else none) else if -(n : Int) ≤ i then some (i + n).toNat else none
def atI {α : Type} (xs : List α) (i : Int) : Option α := (ixN xs.length i).bind fun j => xs[j]?
theorem ixN_seq {n : Nat} {i : Int} {j : Nat} (h : ixN n i = some j) : seqIndex? i n = some j ∧ j < n ∧ -(n : Int) ≤ i ∧ i < n := by
  unfold ixN at h
  by_cases h0 : 0 ≤ i
  · rw [if_pos h0] at h
    by_cases h1 : i < n
    · rw [if_pos h1] at h
      have e : i.toNat = j := Option.some.inj h
      exact ⟨by rw [seqIndex_of h0 h1, e], by omega, by omega, h1⟩
    · rw [if_neg h1] at h; cases h
  · rw [if_neg h0] at h
    by_cases h1 : -(n : Int) ≤ i
    · rw [if_pos h1] at h
      have e : (i + n).toNat = j := Option.some.inj h
      exact ⟨by rw [seqIndex_neg (by omega) h1, e], by omega, h1, by omega⟩
    · rw [if_neg h1] at h; cases h
theorem atI_get {α : Type} {xs : List α} {i : Int} {v : α} (h : atI xs i = some v) : ∃ j, seqIndex? i xs.length = some j ∧ xs[j]? = some v ∧ j < xs.length ∧ -(xs.length : Int) ≤ i ∧ i < xs.length := by
  unfold atI at h
  cases e : ixN xs.length i with
  | none => rw [e] at h; cases h
  | some j =>
    rw [e] at h
    obtain ⟨h1, h2, h3, h4⟩ := ixN_seq e
    exact ⟨j, h1, h, h2, h3, h4⟩
theorem atI_nat {α : Type} {xs : List α} {j : Nat} {v : α} (h : xs[j]? = some v) : atI xs (j : Int) = some v := by
  have hj : j < xs.length := (List.getElem?_eq_some_iff.mp h).1
  have e : ixN xs.length (j : Int) = some j := by
    unfold ixN
    rw [if_pos (by omega), if_pos (by omega)]; simp
  unfold atI; rw [e]; exact h
/-- what stands as an index of a plain subscript -/
def PlainIx (b : Expr) : Prop := ∀ o i, subscripted b false o i = operate [o, i] (getItem o i)
/-- a subscript by values -/
def IxR (X : Cx) (r : R2) : Prop :=
  ∀ (value slice : Expr) (pins : List (Addr × Obj)) (s : Shared) (σ : St) (H : Hp) (x y : V) (v u : Value) (Q : VK), Inv X pins σ H s → RelV x v → RelV y u → r x y H Q →
    subscripted slice false v u = operate [v, u] (getItem v u) → wpAny (model X.prog X.w) X.A (subscriptTail value slice v u) (EP X pins σ Q) X.xe s
/-- a call of a builtin's method by values: the receiver, the arguments -/
def MtR (X : Cx) (id : String) (r : V → List V → Hp → VK → Prop) : Prop :=
  ∀ (pins : List (Addr × Obj)) (s : Shared) (σ : St) (H : Hp) (x : V) (xs : List V) (v : Value) (us : List Value) (Q : VK), Inv X pins σ H s → RelV x v → Vals xs us → r x xs H Q →
    wpAny (model X.prog X.w) X.A (call (.builtin id) (v :: us)) (EP X pins σ Q) X.xe s
section
variable {X : Cx} {a b : Expr} {ta tb : TE} {pos : Pos}
theorem IxR.or {r r' : R2} (h : IxR X r) (h' : IxR X r') : IxR X (fun x y H Q => r x y H Q ∨ r' x y H Q) := by
  intro value slice pins s σ H x y v u Q I rx ry q hs
  rcases q with q | q
  · exact h value slice pins s σ H x y v u Q I rx ry q hs
  · exact h' value slice pins s σ H x y v u Q I rx ry q hs
theorem MtR.or {id : String} {r r' : V → List V → Hp → VK → Prop} (h : MtR X id r) (h' : MtR X id r') : MtR X id (fun x xs H Q => r x xs H Q ∨ r' x xs H Q) := by
  intro pins s σ H x xs v us Q I rx rs q
  rcases q with q | q
  · exact h pins s σ H x xs v us Q I rx rs q
  · exact h' pins s σ H x xs v us Q I rx rs q
/-- a[b] -/
theorem pe_ix {r : R2} (hr : IxR X r) (ha : PE X a ta) (hb : PE X b tb) (hs : PlainIx b) : PE X (.Subscript a b pos) (tOp r ta tb) := by
  intro pins s σ H Q I h
  exact Subscript_ (binT ha hb I h fun v u s2 x y H2 I2 rx ry q => hr a b pins s2 σ H2 x y v u Q I2 rx ry q (hs _ _))
def rIxL (K : PySem.W.Frag) : R2 := fun x y H Q => ∃ p xs i v, x = .ref p ∧ y = .int i ∧ SqL K H p xs ∧ atI xs i = some v ∧ Q v H
def rIxT (K : PySem.W.Frag) : R2 := fun x y H Q => ∃ p xs i v, x = .ref p ∧ y = .int i ∧ SqT K H p xs ∧ atI xs i = some v ∧ Q v H
def rIxS : R2 := fun x y H Q => ∃ z i c, x = .str z ∧ y = .int i ∧ z.length ≤ sizeLine ∧ atI z.cps.toList i = some c ∧ Q (.str ⟨#[c]⟩) H
theorem ix_list : IxR X (rIxL X.K) := by
  intro value slice pins s σ H x y v u Q I rx ry h hs
  obtain ⟨p, xs, i, z, rfl, rfl, hq, he, q⟩ := h
  cases rx
  obtain ⟨t, rfl⟩ := ry
  obtain ⟨its, r, pl, hz⟩ := I.list hq
  obtain ⟨j, h1, h2, h3, h4, h5⟩ := atI_get he
  obtain ⟨w, ew, rw'⟩ := r.get h2
  have hl := r.length
  have hn := line63
  have fin : EP X pins σ Q w s := ⟨z, H, I, rw', q⟩
  by_cases h0 : 0 ≤ i
  · have hj : i.toNat = j := by
      rw [seqIndex_of h0 h5] at h1
      exact Option.some.inj h1
    exact item_listR pl.isList h0 (by omega) (by rw [hj]; simpa using ew) fin hs
  · have hj : (i + (its.toArray.size : Int)).toNat = j := by
      rw [seqIndex_neg (by omega) h4] at h1
      rw [List.size_toArray, ← hl]
      exact Option.some.inj h1
    exact subscriptTail_builtinR (x := w) pl.isList.typeIs slot_list_getitem.lookup
      (wpAny_getItem_list_neg (Q := fun r s' => r = w ∧ EP X pins σ Q r s') pl.isList (by omega) (by rw [List.size_toArray] <;> omega) (by omega) (by rw [hj]; simpa using ew) ⟨rfl, fin⟩) hs
theorem ix_tup : IxR X (rIxT X.K) := by
  intro value slice pins s σ H x y v u Q I rx ry h hs
  obtain ⟨p, xs, i, z, rfl, rfl, hq, he, q⟩ := h
  cases rx
  obtain ⟨t, rfl⟩ := ry
  obtain ⟨its, r, pl, hz⟩ := I.tuple hq
  obtain ⟨j, h1, h2, h3, h4, h5⟩ := atI_get he
  obtain ⟨w, ew, rw'⟩ := r.get h2
  have hl := r.length
  have hn := line63
  have fin : EP X pins σ Q w s := ⟨z, H, I, rw', q⟩
  exact subscriptTail_builtinR (x := w) pl.typeIs slot_tuple_getitem.lookup
    (getItem_tuple (j := j) (Q := fun r s' => r = w ∧ EP X pins σ Q r s') pl (by omega) (by omega) (by rw [List.size_toArray, ← hl]; exact h1) (by simpa using ew) ⟨rfl, fin⟩) hs
theorem ix_str : IxR X rIxS := by
  intro value slice pins s σ H x y v u Q I rx ry h hs
  obtain ⟨z, i, c, rfl, rfl, hz, he, q⟩ := h
  obtain ⟨t, rfl⟩ := rx
  obtain ⟨t', rfl⟩ := ry
  obtain ⟨j, h1, h2, h3, h4, h5⟩ := atI_get he
  have hl : z.cps.toList.length = z.length := by simp [Str.length]
  rw [hl] at h1 h4 h5
  have hn := line63
  exact tail_any (typeIs_str s z t) slot_str_getitem.lookup (getItem_str (c := c) (by
    have e1 : decide (i < -(2 ^ 63 : Int)) = false := decide_eq_false (by omega)
    have e2 : decide (i ≥ 2 ^ 63) = false := decide_eq_false (by omega)
    rw [e1, e2, Bool.or_false]) (by rw [h1]; simpa using h2) ⟨.str ⟨#[c]⟩, H, I.tok _, ⟨_, rfl⟩, q⟩) hs
/-- list, tuple or str -/
def rIx (K : PySem.W.Frag) : R2 := fun x y H Q => rIxL K x y H Q ∨ rIxT K x y H Q ∨ rIxS x y H Q
theorem ix_seq : IxR X (rIx X.K) := ix_list.or (ix_tup.or ix_str)
theorem Inv.lst {pins : List (Addr × Obj)} {σ : St} {H : Hp} {s : Shared} {p : Addr} {xs : List V} (I : Inv X pins σ H s) (h : H p = some (.lst xs)) :
    ∃ (its : List Value) (n : Nat), Vals xs its ∧ s.heap.get? p = some { cls := .type "list", data := .seq its.toArray n } ∧ xs.length ≤ sizeLine := by
  obtain ⟨z, its, n, r, e⟩ := I.hok p _ h
  exact ⟨its, n, r, e, z⟩
theorem slice_bounds (lo hi : Option Int) (n : Nat) : (sliceBounds lo hi none n).1 = ((HT.sIx n 0 lo : Nat) : Int) ∧ (sliceBounds lo hi none n).2.1 = ((HT.sIx n n hi : Nat) : Int) ∧ (sliceBounds lo hi none n).2.2 = 1 := by
  refine ⟨?_, ?_, rfl⟩
  · cases lo with
    | none => simp [sliceBounds, HT.sIx]
    | some i =>
      simp only [sliceBounds, HT.sIx, Option.getD_none, show (1 : Int) > 0 by decide, if_true]
      by_cases h : i < 0
      · simp only [h, if_true] <;> omega
      · simp only [h, if_false] <;> omega
  · cases hi with
    | none => simp [sliceBounds, HT.sIx]
    | some i =>
      simp only [sliceBounds, HT.sIx, Option.getD_none, show (1 : Int) > 0 by decide, if_true]
      by_cases h : i < 0
      · simp only [h, if_true] <;> omega
      · simp only [h, if_false] <;> omega
theorem slicePick_cut (its : List Value) (lo hi : Option Int) : slicePick its.toArray lo hi none = ((its.drop (HT.sIx its.length 0 lo)).take (HT.sIx its.length its.length hi - HT.sIx its.length 0 lo)).toArray := by
  obtain ⟨h1, h2, h3⟩ := slice_bounds lo hi its.toArray.size
  unfold slicePick
  rw [h1, h2, h3]
  simp only [sliceRange_one, pick_run, List.size_toArray] <;> rfl
/-- xs[lo:hi] of a list: a new list -/
def rSlL (K : PySem.W.Frag) : V → Option Int → Option Int → Hp → VK → Prop := fun x lo hi H Q => ∃ a xs, x = .ref a ∧ SqL K H a xs ∧ ∀ p, H p = none → Q (.ref p) (upd H p (.lst (cutV xs lo hi)))
theorem sl_list : SlR X (rSlL X.K) := by
  intro pins s σ H x v vl vu lo hi sl Q I rx hs pl pu h
  obtain ⟨a, xs, rfl, hx, q⟩ := h
  cases rx
  obtain ⟨its, r, ht, hz⟩ := I.list hx
  have hlen := r.length
  refine ⟨"list", _, slot_list_getitem.lookup, ht.isList.typeIs, ?_⟩
  refine wpAny_getItem_list_slice ht.isList hs pl pu .none (by simp) ?_ (by rw [List.size_toArray] <;> omega)
  rw [slicePick_cut, ← hlen]
  refine ⟨.ref s.heap.objs.size, _, I.laid (t' := s.toks) (o := .lst (cutV xs lo hi)) (fun b ob q => Heap.get?_push_of_some _ q) (Nat.le_refl _) ?_, rfl, q _ (I.hok.fresh (Nat.le_refl _))⟩
  exact ⟨Nat.le_trans (cutV_length xs lo hi) hz, _, 0, (r.drop (HT.sIx xs.length 0 lo)).take (HT.sIx xs.length xs.length hi - HT.sIx xs.length 0 lo), Heap.get?_push_size _ rfl⟩
def flatV : V → Bool
  | .non => true
  | .bl _ => true
  | .int _ => true
  | .str _ => true
  | _ => false
/-- == of flat values -/
def eqV : V → V → Bool
  | .non, .non => true
  | .bl a, .bl b => a == b
  | .bl a, .int b => (if a then 1 else 0) == b
  | .int a, .bl b => a == (if b then 1 else 0)
  | .int a, .int b => a == b
  | .str a, .str b => a == b
  | _, _ => false
theorem eqAt_V {A : Around} {s : Shared} {y x : V} {u v : Value} (ry : RelV y u) (rx : RelV x v) (fy : flatV y = true) (fx : flatV x = true) : SeqAt.EqAt A s u v (eqV y x) := by
  cases y with
  | non =>
    cases ry
    cases x with
    | non => cases rx; exact SeqAt.EqAt.same _
    | bl b => cases rx; exact SeqAt.EqAt.none_bool b
    | int b => obtain ⟨t, rfl⟩ := rx; exact SeqAt.EqAt.none_int b t
    | str b => obtain ⟨t, rfl⟩ := rx; exact SeqAt.EqAt.none_str b t
    | _ => exact absurd (show false = true from fx) Bool.false_ne_true
  | bl a =>
    cases ry
    cases x with
    | non => cases rx; exact SeqAt.EqAt.bool_none a
    | bl b => cases rx; exact SeqAt.EqAt.bool_bool a b
    | int b => obtain ⟨t, rfl⟩ := rx; exact SeqAt.EqAt.bool_int a b t
    | str b => obtain ⟨t, rfl⟩ := rx; exact SeqAt.EqAt.bool_str a b t
    | _ => exact absurd (show false = true from fx) Bool.false_ne_true
  | int a =>
    obtain ⟨t', rfl⟩ := ry
    cases x with
    | non => cases rx; exact SeqAt.EqAt.int_none a t'
    | bl b => cases rx; exact SeqAt.EqAt.int_bool a t' b
    | int b => obtain ⟨t, rfl⟩ := rx; exact SeqAt.EqAt.int_int a t' b t
    | str b => obtain ⟨t, rfl⟩ := rx; exact SeqAt.EqAt.int_str a t' b t
    | _ => exact absurd (show false = true from fx) Bool.false_ne_true
  | str a =>
    obtain ⟨t', rfl⟩ := ry
    cases x with
    | non => cases rx; exact SeqAt.EqAt.str_none a t'
    | bl b => cases rx; exact SeqAt.EqAt.str_bool a t' b
    | int b => obtain ⟨t, rfl⟩ := rx; exact SeqAt.EqAt.str_int a t' b t
    | str b => obtain ⟨t, rfl⟩ := rx; exact SeqAt.EqAt.str_str a t' b t
    | _ => exact absurd (show false = true from fx) Bool.false_ne_true
  | _ => exact absurd (show false = true from fy) Bool.false_ne_true
/-- the items' answers, read off the values (a value's own answer does not lean on its token) -/
def eqU (x : V) (u : Value) : Bool := match u with
  | .none => eqV .non x
  | .bool b => eqV (.bl b) x
  | .int i _ => eqV (.int i) x
  | .str z _ => eqV (.str z) x
  | _ => false
theorem eqU_of {x y : V} {u : Value} (r : RelV y u) (f : flatV y = true) : eqU x u = eqV y x := by
  cases y with
  | non => cases r; rfl
  | bl b => cases r; rfl
  | int i => obtain ⟨t, rfl⟩ := r; rfl
  | str z => obtain ⟨t, rfl⟩ := r; rfl
  | _ => exact absurd (show false = true from f) Bool.false_ne_true
theorem any_eqU {x : V} : ∀ {xs : List V} {us : List Value}, Vals xs us → xs.all flatV = true → us.any (eqU x) = xs.any fun y => eqV y x
  | _, _, .nil, _ => rfl
  | y :: xs, u :: us, .cons r t, f => by
    rw [List.all_cons, Bool.and_eq_true] at f
    rw [List.any_cons, List.any_cons, eqU_of r f.1, any_eqU t f.2]
theorem mem_eqAt {A : Around} {s : Shared} {x : V} {v : Value} (rx : RelV x v) (fx : flatV x = true) : ∀ {xs : List V} {us : List Value}, Vals xs us → xs.all flatV = true → ∀ u ∈ us, SeqAt.EqAt A s u v (eqU x u)
  | _, _, .nil, _ => fun u hu => by cases hu
  | y :: xs, u :: us, .cons r t, f => fun u' hu => by
    rw [List.all_cons, Bool.and_eq_true] at f
    rcases List.mem_cons.mp hu with rfl | hu
    · rw [eqU_of r f.1]; exact eqAt_V r rx f.1 fx
    · exact mem_eqAt rx fx t f.2 u' hu
def inV (x : V) (xs : List V) : Bool := xs.any fun y => eqV y x
/-- x in a list or tuple of flat items -/
def rIn (K : PySem.W.Frag) (neg : Bool) : R2 := fun x y H Q => ∃ p xs, y = .ref p ∧ (SqL K H p xs ∨ SqT K H p xs) ∧ flatV x = true ∧ xs.all flatV = true ∧ Q (.bl (if neg then !inV x xs else inV x xs)) H
theorem op_in_seq : OpR X (compareOp .In) (rIn X.K false) := by
  intro pins s σ H x y v u Q I rx ry h
  obtain ⟨p, xs, rfl, hq, fx, fs, q⟩ := h
  cases ry
  rcases hq with hq | hq
  · obtain ⟨its, r, pl, hz⟩ := I.list hq
    refine SeqAt.in_listAt (eqU x) pl.isList (fun w hw => mem_eqAt rx fx r fs w (by simpa using hw)) ⟨.bl _, H, I, rfl, ?_⟩
    rw [show its.toArray.any (eqU x) = its.any (eqU x) by simp, any_eqU r fs]
    exact q
  · obtain ⟨its, r, pl, hz⟩ := I.tuple hq
    refine SeqAt.in_tupleAt (eqU x) pl (fun w hw => mem_eqAt rx fx r fs w (by simpa using hw)) ⟨.bl _, H, I, rfl, ?_⟩
    rw [show its.toArray.any (eqU x) = its.any (eqU x) by simp, any_eqU r fs]
    exact q
theorem op_notIn_seq : OpR X (compareOp .NotIn) (rIn X.K true) := by
  intro pins s σ H x y v u Q I rx ry h
  obtain ⟨p, xs, rfl, hq, fx, fs, q⟩ := h
  cases ry
  rcases hq with hq | hq
  · obtain ⟨its, r, pl, hz⟩ := I.list hq
    refine SeqAt.notIn_listAt (eqU x) pl.isList (fun w hw => mem_eqAt rx fx r fs w (by simpa using hw)) ⟨.bl _, H, I, rfl, ?_⟩
    rw [show its.toArray.any (eqU x) = its.any (eqU x) by simp, any_eqU r fs]
    exact q
  · obtain ⟨its, r, pl, hz⟩ := I.tuple hq
    refine SeqAt.notIn_tupleAt (eqU x) pl (fun w hw => mem_eqAt rx fx r fs w (by simpa using hw)) ⟨.bl _, H, I, rfl, ?_⟩
    rw [show its.toArray.any (eqU x) = its.any (eqU x) by simp, any_eqU r fs]
    exact q
theorem call_len_seq : CallR X (.builtin "len") (fun xs H Q => ∃ p ys, xs = [.ref p] ∧ (SqL X.K H p ys ∨ SqT X.K H p ys) ∧ Q (.int ys.length) H) := by
  intro pins s σ H xs us Q I r h
  obtain ⟨p, ys, rfl, hq, q⟩ := h
  obtain ⟨u, rfl, rx⟩ := vals1 r
  cases rx
  have hn := line63
  rcases hq with hq | hq
  · obtain ⟨its, r', pl, hz⟩ := I.list hq
    have hlen := r'.length
    exact Calls.call_len_list pl.isList (by simp only [List.size_toArray] <;> omega) ⟨.int ys.length, H, I.tok _, ⟨s.toks + 1, by rw [List.size_toArray, hlen]⟩, q⟩
  · obtain ⟨its, r', pl, hz⟩ := I.tuple hq
    have hlen := r'.length
    exact len_tuple pl (by simp only [List.size_toArray] <;> omega) ⟨.int ys.length, H, I.tok _, ⟨s.toks + 1, by rw [List.size_toArray, hlen]⟩, q⟩
theorem call_len_str : CallR X (.builtin "len") (fun xs H Q => ∃ z, xs = [.str z] ∧ z.length ≤ sizeLine ∧ Q (.int z.length) H) := by
  intro pins s σ H xs us Q I r h
  obtain ⟨z, rfl, hz, q⟩ := h
  obtain ⟨u, rfl, t, rfl⟩ := vals1 r
  have hn := line63
  exact len_str (by omega) ⟨.int z.length, H, I.tok _, ⟨_, rfl⟩, q⟩
theorem CallR.or {f : Value} {r r' : List V → Hp → VK → Prop} (h : CallR X f r) (h' : CallR X f r') : CallR X f (fun xs H Q => r xs H Q ∨ r' xs H Q) := by
  intro pins s σ H xs us Q I rs q
  rcases q with q | q
  · exact h pins s σ H xs us Q I rs q
  · exact h' pins s σ H xs us Q I rs q
theorem call_list_of : CallR X (.type "list") (fun xs H Q => ∃ p ys, xs = [.ref p] ∧ (SqL X.K H p ys ∨ SqT X.K H p ys) ∧ ∀ l, H l = none → Q (.ref l) (upd H l (.lst ys))) := by
  intro pins s σ H xs us Q I r h
  obtain ⟨p, ys, rfl, hq, q⟩ := h
  obtain ⟨u, rfl, rx⟩ := vals1 r
  cases rx
  have fin : ∀ (its : List Value), Vals ys its → ys.length ≤ sizeLine → ∀ (h' : Heap) (c' : Nat), (∀ b o', s.heap.get? b = some o' → h'.get? b = some o') →
      h'.get? s.heap.objs.size = some { cls := .type "list", dict := none, data := .seq its.toArray c', slots := #[] } → EP X pins σ Q (.ref s.heap.objs.size) { s with heap := h' } := fun its r' hz h' c' kp e =>
    ⟨.ref s.heap.objs.size, _, I.laid (t' := s.toks) kp (Nat.le_refl _) (show ObjOk X.prog X.w _ h' _ (.lst ys) from ⟨hz, its, c', r', e⟩), rfl, q _ (I.hok.fresh (Nat.le_refl _))⟩
  rcases hq with hq | hq
  · obtain ⟨its, r', pl, hz⟩ := I.list hq
    have hlen := r'.length
    obtain ⟨o, ho, hc, n, hd⟩ := pl.isList
    exact call_list_seq p (.inl rfl) ho hc hd (fun h' c' kp e => fin its r' hz h' c' kp e) (by simp only [List.size_toArray] <;> omega)
  · obtain ⟨its, r', pl, hz⟩ := I.tuple hq
    have hlen := r'.length
    obtain ⟨o, ho, hc, n, hd⟩ := pl
    exact call_list_seq p (.inr rfl) ho hc hd (fun h' c' kp e => fin its r' hz h' c' kp e) (by simp only [List.size_toArray] <;> omega)
theorem call_tuple_of : CallR X (.type "tuple") (fun xs H Q => ∃ p ys, xs = [.ref p] ∧ ((SqL X.K H p ys ∧ ∀ l, H l = none → Q (.ref l) (upd H l (.tup ys))) ∨ (SqT X.K H p ys ∧ Q (.ref p) H))) := by
  intro pins s σ H xs us Q I r h
  obtain ⟨p, ys, rfl, h⟩ := h
  obtain ⟨u, rfl, rx⟩ := vals1 r
  cases rx
  rcases h with ⟨hq, q⟩ | ⟨hq, q⟩
  · obtain ⟨its, r', pl, hz⟩ := I.list hq
    have hlen := r'.length
    refine call_tuple_list pl.isList (fun h' kp => ?_) (by simp only [List.size_toArray] <;> omega)
    have I1 : Inv X pins σ H { s with heap := h' } := I.kept (t' := s.toks) kp
    have I2 : Inv X pins σ (upd H h'.objs.size (.tup ys)) { s with heap := h'.push { cls := .type "tuple", data := .seq its.toArray } } :=
      I1.laid (t' := s.toks) (fun b o e => Heap.get?_push_of_some _ e) (Nat.le_refl _) (show ObjOk X.prog X.w _ _ _ (.tup ys) from ⟨hz, its, r', IsTupD.new _ _⟩)
    exact ⟨.ref h'.objs.size, _, I2, rfl, q _ (I1.hok.fresh (Nat.le_refl _))⟩
  · obtain ⟨its, r', pl, hz⟩ := I.tuple hq
    exact call_tuple_same pl ⟨.ref p, H, I, rfl, q⟩
/-- the value is of that builtin type -/
def tyV (K : PySem.W.Frag) (T : String) (x : V) (H : Hp) : Prop := match x with
  | .str _ => T = "str"
  | .int _ => T = "int"
  | .ref p => (T = "list" ∧ ∃ xs, SqL K H p xs) ∨ (T = "tuple" ∧ ∃ xs, SqT K H p xs) ∨
      (T = "dict" ∧ ((∃ kvs, H p = some (.dK kvs)) ∨ ∃ kvs, H p = some (.dT kvs))) ∨ (T = "set" ∧ ∃ S n, H p = some (.set S n))
  | _ => False
theorem tyV_is {pins : List (Addr × Obj)} {σ : St} {H : Hp} {s : Shared} {T : String} {x : V} {v : Value} (I : Inv X pins σ H s) (r : RelV x v) (ty : tyV X.K T x H) :
    s.TypeIs v T ∧ ∀ a, v = .ref a → ∃ ob, s.heap.get? a = some ob ∧ ob.dict = none := by
  cases x with
  | str z =>
    obtain ⟨t, rfl⟩ := r
    cases (show T = "str" from ty)
    exact ⟨typeIs_str s z t, fun _ e => nomatch e⟩
  | int i =>
    obtain ⟨t, rfl⟩ := r
    cases (show T = "int" from ty)
    exact ⟨typeIs_int s i t, fun _ e => nomatch e⟩
  | ref p =>
    cases r
    rcases ty with ⟨rfl, xs, hq⟩ | ⟨rfl, xs, hq⟩ | ⟨rfl, hk⟩ | ⟨rfl, S, n, hk⟩
    · obtain ⟨its, _, pl, _⟩ := I.list hq
      refine ⟨pl.isList.typeIs, fun a e => ?_⟩
      cases e
      obtain ⟨o, n, e, c, hd, _⟩ := pl
      exact ⟨o, e, hd⟩
    · obtain ⟨its, _, ⟨o, e, c, hd⟩, _⟩ := I.tupleD hq
      refine ⟨⟨o, e, c.1⟩, fun a e2 => ?_⟩
      cases e2
      exact ⟨o, e, hd⟩
    · have z : ∃ o, s.heap.get? p = some o ∧ o.ExactDict := by
        rcases hk with ⟨kvs, hk⟩ | ⟨kvs, hk⟩
        · obtain ⟨_, _, _, _, o, _, _, e, ex, _⟩ := I.hok p _ hk
          exact ⟨o, e, ex⟩
        · obtain ⟨_, _, _, _, o, _, _, e, ex, _⟩ := I.hok p _ hk
          exact ⟨o, e, ex⟩
      obtain ⟨o, e, ex⟩ := z
      refine ⟨⟨o, e, ex.1⟩, fun a e2 => ?_⟩
      cases e2
      exact ⟨o, e, ex.2.1⟩
    · obtain ⟨o, _, _, _, e, ex, _⟩ := I.hok p _ hk
      refine ⟨⟨o, e, ex.1⟩, fun a e2 => ?_⟩
      cases e2
      exact ⟨o, e, ex.2.1⟩
  | _ => exact False.elim ty
def tBM0 (K : PySem.W.Frag) (T : String) (r : V → List V → Hp → VK → Prop) (to : TE) : TE := fun σ H Q => to σ H fun x H1 => tyV K T x H1 ∧ r x [] H1 Q
def tBM (K : PySem.W.Frag) (T : String) (r : V → List V → Hp → VK → Prop) (to : TE) (t : TA) : TE := fun σ H Q => to σ H fun x H1 => tyV K T x H1 ∧ t σ H1 fun xs H2 => r x xs H2 Q
variable {o e : Expr} {es : List Expr} {to : TE} {t : TA} {name : Str} {apos cpos : Pos} {T id : String} {r : V → List V → Hp → VK → Prop}
theorem pe_bm0 (pa : PlainAttrs T) (slot : Slot T name id) (hty : typeOf (.builtin id) = pure (.type "method_descriptor")) (hm : MtR X id r) (ho : PE X o to)
    (hbase : attributeBase o name X.env (eval o X.env) = eval o X.env := by rfl) (hline : (apos.endLine == cpos.line) = true := by rfl) : PE X (.Call (.Attribute o name apos) [] [] cpos) (tBM0 X.K T r to) := by
  intro pins s σ H Q I h
  refine wpAny_Call_method0_late hbase hline (thn (ho pins s σ H _ I h) fun v s1 ⟨x, H1, I1, r1, ty, q1⟩ => ?_)
  obtain ⟨h1, h2⟩ := tyV_is I1 r1 ty
  exact ⟨T, id, pa, slot, hty, h1, h2, Calls.callWith_builtin rfl (PySem.evalArgs_none (hm pins s1 σ H1 x [] v [] Q I1 r1 .nil q1))⟩
theorem pe_bm (pa : PlainAttrs T) (slot : Slot T name id) (hty : typeOf (.builtin id) = pure (.type "method_descriptor")) (hm : MtR X id r) (ho : PE X o to) (ha : PA X (e :: es) t)
    (hbase : attributeBase o name X.env (eval o X.env) = eval o X.env := by rfl)
    (hfew : ((backTo cpos (starEach (e :: es) X.env)).all (fun x => !x.1) && (backToKw cpos (keywordEach [] X.env)).all (fun x => x.1.isSome)
      && decide ((e :: es).length + ([] : List Keyword).length + (if ([] : List Keyword).isEmpty then 0 else 1) < 30)) = true := by rfl)
    (hline : (apos.endLine == cpos.line) = true := by rfl) (hs : starEach (e :: es) X.env = (false, eval e X.env) :: starEach es X.env := by rfl) (hplain : (backTo cpos (starEach es X.env)).any (·.1) = false := by rfl) :
    PE X (.Call (.Attribute o name apos) (e :: es) [] cpos) (tBM X.K T r to t) := by
  intro pins s σ H Q I h
  refine wpAny_Call_method_late hbase hfew hline rfl (thn (ho pins s σ H _ I h) fun v s1 ⟨x, H1, I1, r1, ty, q1⟩ => ?_)
  obtain ⟨h1, h2⟩ := tyV_is I1 r1 ty
  refine ⟨T, id, pa, slot, hty, h1, h2, ?_⟩
  have hA := ha cpos pins s1 σ H1 _ I1 q1
  rw [hs] at hA ⊢
  refine Calls.callWith_builtin (by show (false || (backTo cpos (starEach es X.env)).any (·.1)) = false; rw [hplain] <;> rfl) (Calls.evalArgs_plain ?_)
  exact thn hA fun us s2 ⟨vs, H2, I2, r2, q2⟩ => hm pins s2 σ H2 x vs v us Q I2 r1 r2 q2
end
end L2
namespace L2
open PySem PySem.Spec PyProof.Rows
def MtM (X : Cx) (id : String) (r : V → List V → Hp → VK → Prop) : Prop :=
  ∀ (pins : List (Addr × Obj)) (s : Shared) (σ : St) (H : Hp) (x : V) (xs : List V) (v : Value) (us : List Value) (Q : VK), Inv X pins σ H s → RelV x v → Vals xs us → r x xs H Q →
    wpAny (model X.prog X.w) X.A (call (.builtin id) (v :: us)) (EP X pins σ Q) X.xe s
theorem Vals.one : ∀ {x : V} {us : List Value}, Vals [x] us → ∃ u, us = [u] ∧ RelV x u
  | _, _, .cons r .nil => ⟨_, rfl, r⟩
theorem Vals.two : ∀ {x y : V} {us : List Value}, Vals [x, y] us → ∃ u v, us = [u, v] ∧ RelV x u ∧ RelV y v
  | _, _, _, .cons r (.cons q .nil) => ⟨_, _, rfl, r, q⟩
theorem Vals.zero : ∀ {us : List Value}, Vals [] us → us = []
  | _, .nil => rfl
theorem Vals.dropLast {xs : List V} {us : List Value} (h : Vals xs us) : Vals xs.dropLast us.dropLast := by
  induction h with
  | nil => exact .nil
  | cons r t ih =>
    cases t with
    | nil => exact .nil
    | cons q t' => exact .cons r ih
theorem Vals.eraseIdx : ∀ {xs : List V} {us : List Value} (i : Nat), Vals xs us → Vals (xs.eraseIdx i) (us.eraseIdx i)
  | _, _, _, .nil => .nil
  | _, _, 0, .cons _ t => t
  | _, _, i + 1, .cons r t => .cons r (Vals.eraseIdx i t)
theorem Vals.reverse {xs : List V} {us : List Value} (h : Vals xs us) : Vals xs.reverse us.reverse := by
  induction h with
  | nil => exact .nil
  | cons r t ih => rw [List.reverse_cons, List.reverse_cons]; exact Vals.append ih (.cons r .nil)
theorem erase_last {α : Type} (l : List α) : l.eraseIdx (l.length - 1) = l.dropLast := by
  induction l with
  | nil => rfl
  | cons a r ih =>
    cases r with
    | nil => rfl
    | cons b r =>
      have e : (a :: b :: r).length - 1 = ((b :: r).length - 1) + 1 := by
        have h1 : (a :: b :: r).length = r.length + 2 := rfl
        have h2 : (b :: r).length = r.length + 1 := rfl
        omega
      rw [e, List.eraseIdx_cons_succ, ih]
      all_goals rfl
theorem len_erase {α : Type} : ∀ (l : List α) (i : Nat), (l.eraseIdx i).length ≤ l.length
  | [], _ => Nat.le_refl _
  | _ :: _, 0 => Nat.le_succ _
  | _ :: r, i + 1 => Nat.succ_le_succ (len_erase r i)
section
variable {X : Cx} {pins : List (Addr × Obj)} {σ : St} {H : Hp} {s : Shared} {l b : Addr} {xs ys zs : List V}
theorem Inv.lset {its its' : List Value} {n : Nat} {f : Array Value → Array Value} {t' : Nat} (I : Inv X pins σ H s) (hH : H l = some (.lst xs))
    (e : s.heap.get? l = some { cls := .type "list", data := .seq its.toArray n }) (hf : f its.toArray = its'.toArray) (hv : Vals ys its') (hz : ys.length ≤ sizeLine) :
    Inv X pins σ (upd H l (.lst ys)) { s with heap := s.heap.update l (Obj.mapSeq f), toks := t' } := by
  have q := PySem.IsL.update e f
  rw [hf] at q
  refine I.write (x := l) (e := l) (by rw [hH]; exact trivial) (.inl rfl) (fun b' u hb hu => (Heap.get?_update_other s.heap (Obj.mapSeq f) (Ne.symm hb)).trans hu) ⟨_, q⟩ ?_
  exact ⟨hz, its', _, hv, q⟩
theorem Inv.lnew {its : List Value} {t' : Nat} (I : Inv X pins σ H s) (hv : Vals ys its) (hz : ys.length ≤ sizeLine) :
    Inv X pins σ (upd H s.heap.objs.size (.lst ys)) { s with heap := s.heap.push { cls := .type "list", data := .seq its.toArray }, toks := t' } :=
  I.laid (fun _ _ q => Heap.get?_push_of_some _ q) (Nat.le_refl _) ⟨hz, its, 0, hv, Heap.get?_push_size _ rfl⟩
theorem Inv.fresh (I : Inv X pins σ H s) : H s.heap.objs.size = none := I.hok.fresh (Nat.le_refl _)
theorem Inv.lstM (I : Inv X pins σ H s) (hH : H l = some (.lst xs)) : xs.length ≤ sizeLine ∧ ∃ (its : List Value) (n : Nat), Vals xs its ∧ xs.length = its.length ∧ s.heap.get? l = some { cls := .type "list", data := .seq its.toArray n } := by
  obtain ⟨z, its, n, r, e⟩ := I.hok l _ hH
  exact ⟨z, its, n, r, r.length, e⟩
theorem notLongL {n : Nat} (h : n ≤ sizeLine) : Builtin.List.listTooLong n = false := by
  unfold Builtin.List.listTooLong
  exact decide_eq_false (by omega)
end
section
variable {X : Cx}
def rAppend : V → List V → Hp → VK → Prop := fun x vs H Q => ∃ l xs y, x = .ref l ∧ vs = [y] ∧ H l = some (.lst xs) ∧ xs.length < sizeLine ∧ Q .non (upd H l (.lst (xs ++ [y])))
theorem mt_append : MtM X "list.append" rAppend := by
  intro pins s σ H x vs v us Q I rx rv h
  obtain ⟨l, xs, y, rfl, rfl, hH, hz, q⟩ := h
  cases rx
  obtain ⟨u, rfl, ru⟩ := rv.one
  obtain ⟨z, its, n, r, hl, e⟩ := I.lstM hH
  refine call_meets F.slot_list_append ⟨_, e, rfl⟩ F.entry_list_append (F.args_list_append_2 _ _) (PySem.list_append l its.toArray n u (by rw [List.size_toArray]; omega)) ⟨e, ?_⟩
  refine ⟨.non, _, I.lset (its' := its ++ [u]) hH e (by simp) (r.append (.cons ru .nil)) ?_, rfl, q⟩
  rw [List.length_append, List.length_singleton]
  omega
def rExtend : V → List V → Hp → VK → Prop := fun x vs H Q => ∃ l b xs zs, x = .ref l ∧ vs = [.ref b] ∧ H l = some (.lst xs) ∧ H b = some (.lst zs) ∧ xs.length + zs.length ≤ sizeLine ∧ Q .non (upd H l (.lst (xs ++ zs)))
theorem mt_extend : MtM X "list.extend" rExtend := by
  intro pins s σ H x vs v us Q I rx rv h
  obtain ⟨l, b, xs, zs, rfl, rfl, hH, hB, hz, q⟩ := h
  cases rx
  obtain ⟨u, rfl, ru⟩ := rv.one
  cases ru
  obtain ⟨z, its, n, r, hl, e⟩ := I.lstM hH
  obtain ⟨z2, its2, n2, r2, hl2, e2⟩ := I.lstM hB
  have hsz : its.toArray.size + its2.toArray.size ≤ sizeLine := by rw [List.size_toArray, List.size_toArray]; omega
  have hlong : ¬ (!its.toArray.isEmpty && Builtin.List.listTooLong (its.toArray.size + its2.toArray.size)) = true := by
    rw [notLongL hsz, Bool.and_false]
    exact Bool.false_ne_true
  refine call_meets F.slot_list_extend ⟨_, e, rfl⟩ F.entry_list_extend (F.args_list_extend_2 _ _)
    (AutoSeq1.list_extend_list_list_0 l its.toArray n b its2.toArray n2 hlong (by rw [List.size_toArray]; omega) (by omega)) ⟨e, e2, ?_⟩
  refine ⟨.non, _, I.lset (its' := its ++ its2) hH e (by simp) (r.append r2) ?_, rfl, q⟩
  rw [List.length_append]
  omega
def rPop : V → List V → Hp → VK → Prop := fun x vs H Q => ∃ l xs y, x = .ref l ∧ vs = [] ∧ H l = some (.lst xs) ∧ xs[xs.length - 1]? = some y ∧ Q y (upd H l (.lst xs.dropLast))
theorem mt_pop : MtM X "list.pop" rPop := by
  intro pins s σ H x vs v us Q I rx rv h
  obtain ⟨l, xs, y, rfl, rfl, hH, hy, q⟩ := h
  cases rx
  have hus := rv.zero
  subst hus
  obtain ⟨z, its, n, r, hl, e⟩ := I.lstM hH
  obtain ⟨u, hu, ru⟩ := r.get hy
  have hy' : its.toArray[its.toArray.size - 1]? = some u := by
    show its.toArray[its.length - 1]? = some u
    rw [← Array.getElem?_toList, ← hl]
    exact hu
  refine call_meets F.slot_list_pop ⟨_, e, rfl⟩ F.entry_list_pop (F.args_list_pop_1 _) (MeetsSeq.list_pop_last l its.toArray n u hy' (by rw [List.size_toArray]; omega)) ⟨e, ?_⟩
  refine ⟨y, _, I.lset (its' := its.dropLast) hH e ?_ r.dropLast ?_, ru, q⟩
  · show its.toArray.eraseIdxIfInBounds (its.toArray.size - 1) = its.dropLast.toArray
    rw [List.size_toArray, List.eraseIdxIfInBounds_toArray, erase_last]
  · rw [List.length_dropLast]
    omega
def rPopAt : V → List V → Hp → VK → Prop := fun x vs H Q => ∃ l xs i k y, x = .ref l ∧ vs = [.int i] ∧ H l = some (.lst xs) ∧ -(2 ^ 63) ≤ i ∧ i < 2 ^ 63 ∧ seqIndex? i xs.length = some k ∧ xs[k]? = some y ∧ Q y (upd H l (.lst (xs.eraseIdx k)))
theorem mt_popAt : MtM X "list.pop" rPopAt := by
  intro pins s σ H x vs v us Q I rx rv h
  obtain ⟨l, xs, i, k, y, rfl, rfl, hH, h1, h2, hk, hy, q⟩ := h
  cases rx
  obtain ⟨u, rfl, ru⟩ := rv.one
  obtain ⟨t, rfl⟩ := ru
  obtain ⟨z, its, n, r, hl, e⟩ := I.lstM hH
  obtain ⟨w, hw, rw'⟩ := r.get hy
  refine call_meets F.slot_list_pop ⟨_, e, rfl⟩ F.entry_list_pop (F.args_list_pop_2 _ _)
    (MeetsSeq.list_pop_at l its.toArray n i t k w (fitsIndex_both h1 h2) (by rw [List.size_toArray, ← hl]; exact hk) (by rw [← Array.getElem?_toList]; exact hw) (by rw [List.size_toArray]; omega)) ⟨e, ?_⟩
  refine ⟨y, _, I.lset (its' := its.eraseIdx k) hH e ?_ (r.eraseIdx k) ?_, rw', q⟩
  · show its.toArray.eraseIdxIfInBounds k = (its.eraseIdx k).toArray
    rw [List.eraseIdxIfInBounds_toArray]
  · have := len_erase xs k
    omega
def rCat : R2 := fun x y H Q => ∃ l b xs zs, x = .ref l ∧ y = .ref b ∧ H l = some (.lst xs) ∧ H b = some (.lst zs) ∧ xs.length + zs.length ≤ sizeLine ∧ ∀ p, H p = none → Q (.ref p) (upd H p (.lst (xs ++ zs)))
theorem op_cat : OpR X (binaryOp .Add) rCat := by
  intro pins s σ H x y v u Q I rx ry h
  obtain ⟨l, b, xs, zs, rfl, rfl, hH, hB, hz, q⟩ := h
  cases rx
  cases ry
  obtain ⟨z, its, n, r, hl, e⟩ := I.lstM hH
  obtain ⟨z2, its2, n2, r2, hl2, e2⟩ := I.lstM hB
  refine PySem.P.add_list e e2 ?_ (by rw [List.size_toArray, List.size_toArray]; omega)
  have ea : its.toArray ++ its2.toArray = (its ++ its2).toArray := by simp
  rw [ea]
  exact ⟨.ref _, _, I.lnew (t' := s.toks) (r.append r2) (by rw [List.length_append]; omega), rfl, q _ I.fresh⟩
end
section
variable {prog : Program} {w : World} {A : Around} {E : Value → Shared → Prop} {s : Shared}
end
section
variable {X : Cx}
end
end L2
namespace L2
open PySem PySem.Spec PyProof.Rows
theorem Vals.ints : ∀ {ns : List Int} {us : List Value}, Vals (ns.map V.int) us → IntsAre us ns
  | [], us, h => by
    rw [List.map_nil] at h
    cases h
    exact IntsAre.nil
  | n :: ns, us, h => by
    rw [List.map_cons] at h
    cases h with
    | cons r t =>
      obtain ⟨k, rfl⟩ := r
      exact IntsAre.cons n k (Vals.ints t)
theorem Vals.bls : ∀ {bs : List Bool} {us : List Value}, Vals (bs.map V.bl) us → us = bs.map Value.bool
  | [], us, h => by
    rw [List.map_nil] at h
    cases h
    rfl
  | b :: bs, us, h => by
    rw [List.map_cons] at h
    cases h with
    | cons r t =>
      cases r
      rw [Vals.bls t, List.map_cons]
theorem Vals.ref1 {a : Addr} {us : List Value} (r : Vals [V.ref a] us) : us = [Value.ref a] := by
  cases r with
  | cons r t =>
    cases t
    cases r
    rfl
section
variable {prog : Program} {w : World} {A : Around} {E : Value → Shared → Prop} {s : Shared} {l : Addr} {its : List Value} {ns : List Int} {Q : Value → Shared → Prop}
end
section
variable {X : Cx}
end
section
variable {X : Cx}
end
section
variable {X : Cx}
end
theorem iter_any {prog : Program} {w : World} {A : Around} {E : Value → Shared → Prop} {s : Shared} {l : Addr} {items : Array Value} {Q : Value → Shared → Prop} (hl : s.heap.IsList l items)
    (h : ∀ s₂ : Shared, s₂ = { s with heap := s.heap.push { cls := .type "list_iterator", data := .fields #[.ref l, .int 0 0] } } →
      (s₂.heap.IsListIter s.heap.objs.size l 0 ∧ s₂.heap.IsList l items) → l ≠ s.heap.objs.size → Q (.ref s.heap.objs.size) s₂) : wpAny (model prog w) A (pyIter (.ref l)) Q E s := by
  have hlt : l < s.heap.objs.size := by obtain ⟨_, e, _⟩ := hl; exact Heap.lt_size e
  exact wpAny_pyIter_list hl (h _ rfl ⟨⟨_, Heap.get?_push_size _ rfl, rfl, rfl⟩, hl.push _⟩ (Nat.ne_of_lt hlt))
theorem truth_bools {prog : Program} {w : World} {A : Around} {bs : List Bool} {its : List Value} (e : its = bs.map Value.bool) :
    TruthOf prog w A (fun i v => its.toArray[i]? = some v) (fun i => bs.getD i false) := fun i v s Q E hv hq => by
  have hv' : its[i]? = some v := by simpa using hv
  rw [e, List.getElem?_map] at hv'
  obtain ⟨b, hb, rfl⟩ := Option.map_eq_some_iff.mp hv'
  have hg : bs.getD i false = b := by rw [List.getD_eq_getElem?_getD, hb] <;> rfl
  have hq' : Q (bs.getD i false) s := hq
  rw [hg] at hq'
  exact wpAny_truthy_bool hq'
theorem all_range : ∀ bs : List Bool, (List.range bs.length).all (fun i => bs.getD i false) = bs.all id
  | [] => rfl
  | b :: bs => by
    rw [List.length_cons, List.range_succ_eq_map, List.all_cons, List.all_map, List.all_cons, ← all_range bs]
    all_goals rfl
section
variable {X : Cx}
def rAll (K : PySem.W.Frag) : List V → Hp → VK → Prop := fun vs H Q => ∃ (a : Addr) (bs : List Bool), vs = [V.ref a] ∧ SqL K H a (bs.map V.bl) ∧ Q (.bl (bs.all id)) H
theorem cr_all (hc : X.calm = true) : CallR X (.builtin "all") (rAll X.K) := by
  intro pins s σ H vs us Q I r h
  obtain ⟨a, bs, rfl, hs, q⟩ := h
  obtain ⟨its, rv, hl, _⟩ := I.list hs
  rw [Vals.ref1 r]
  have hb := rv.bls
  refine call_all_walk (iter_any hl.isList fun s₂ e2 st hne => ?_)
  subst e2
  refine ⟨_, _, _, _, _, _, _, rfl, Walks.list (A := X.A.in1) (I.ok.hd hc) _ a hne its.toArray, st, truth_bools hb, fun h' tk hk => ?_⟩
  refine ⟨.bl _, H, I.kept fun b o eo => hk b o (fun hmem => ?_) (Heap.get?_push_of_some _ eo), ?_, q⟩
  · rcases List.mem_cons.mp hmem with e1 | hmem
    · exact absurd (e1 ▸ Heap.lt_size eo) (Nat.lt_irrefl _)
    · cases hmem
  · show Value.bool _ = Value.bool _
    rw [← all_range, hb, List.size_toArray, List.length_map]
end
mutual
inductive Dp (K : PySem.W.Frag) (H : Hp) : V → PyData → Prop
  | non : Dp K H .non .none
  | bl (b : Bool) : Dp K H (.bl b) (.bool b)
  | int (i : Int) : Dp K H (.int i) (.int i)
  | str (x : Str) : Dp K H (.str x) (.str x)
  | lst {a : Addr} {xs : List V} {ds : List PyData} : SqL K H a xs → DpAll K H xs ds → Dp K H (.ref a) (.list ds)
  | tup {a : Addr} {xs : List V} {ds : List PyData} : SqT K H a xs → DpAll K H xs ds → Dp K H (.ref a) (.tuple ds)
inductive DpAll (K : PySem.W.Frag) (H : Hp) : List V → List PyData → Prop
  | nil : DpAll K H [] []
  | cons {v : V} {vs : List V} {d : PyData} {ds : List PyData} : Dp K H v d → DpAll K H vs ds → DpAll K H (v :: vs) (d :: ds)
end
section
variable {X : Cx} {pins : List (Addr × Obj)} {σ : St} {H : Hp} {s : Shared}
mutual
theorem Dp.reads (I : Inv X pins σ H s) : ∀ (d : PyData) (v : V) (u : Value), Dp X.K H v d → RelV v u → ∃ as, Reads s.heap u d as
  | .none, _, _, h, r => by
    cases h
    cases r
    exact ⟨_, Reads.none⟩
  | .bool b, _, _, h, r => by
    cases h
    cases r
    exact ⟨_, Reads.bool b⟩
  | .int i, _, _, h, r => by
    cases h
    obtain ⟨t, rfl⟩ := r
    exact ⟨_, Reads.int i t⟩
  | .str x, _, _, h, r => by
    cases h
    obtain ⟨t, rfl⟩ := r
    exact ⟨_, Reads.str x t⟩
  | .list ds, _, _, h, r => by
    cases h with
    | lst hs ha =>
      cases r
      obtain ⟨its, rv, ⟨o, n, ho, hc, _, hd⟩, _⟩ := I.list hs
      obtain ⟨as, hr⟩ := Dp.readsAll I ds _ its ha rv
      exact ⟨_, Reads.list ho hc hd hr⟩
  | .tuple ds, _, _, h, r => by
    cases h with
    | tup hs ha =>
      cases r
      obtain ⟨its, rv, ⟨o, ho, hc, n, hd⟩, _⟩ := I.tuple hs
      obtain ⟨as, hr⟩ := Dp.readsAll I ds _ its ha rv
      exact ⟨_, Reads.tuple ho hc hd hr⟩
  | .dict _, _, _, h, _ => by cases h
theorem Dp.readsAll (I : Inv X pins σ H s) : ∀ (ds : List PyData) (vs : List V) (us : List Value), DpAll X.K H vs ds → Vals vs us → ∃ as, ReadsAll s.heap us ds as
  | [], _, _, h, r => by
    cases h
    cases r
    exact ⟨_, ReadsAll.nil⟩
  | d :: ds, _, _, h, r => by
    cases h with
    | cons h1 h2 =>
      cases r with
      | cons r1 r2 =>
        obtain ⟨as, q1⟩ := Dp.reads I d _ _ h1 r1
        obtain ⟨bs, q2⟩ := Dp.readsAll I ds _ _ h2 r2
        exact ⟨_, ReadsAll.cons q1 q2⟩
end
end
section
variable {X : Cx}
def rEqD (K : PySem.W.Frag) : R2 := fun x y H Q => ∃ d e, Dp K H x d ∧ Dp K H y e ∧ SeqAt.shaped d = true ∧ SeqAt.shaped e = true ∧ Q (.bl (PyData.eqv d e)) H
def rNeD (K : PySem.W.Frag) : R2 := fun x y H Q => ∃ d e, Dp K H x d ∧ Dp K H y e ∧ SeqAt.shaped d = true ∧ SeqAt.shaped e = true ∧ Q (.bl (!PyData.eqv d e)) H
theorem op_eqD (hu : X.A.units + 64 < cLine) : OpR X (compareOp .Eq) (rEqD X.K) := by
  intro pins s σ H x y v u Q I rx ry h
  obtain ⟨d, e, hd, he, sd, se, q⟩ := h
  obtain ⟨as, r1⟩ := Dp.reads I d x v hd rx
  obtain ⟨bs, r2⟩ := Dp.reads I e y u he ry
  exact SeqAt.compareEq_shaped r1 r2 sd se hu ⟨.bl _, H, I, rfl, q⟩
theorem op_neD (hu : X.A.units + 64 < cLine) : OpR X (compareOp .NotEq) (rNeD X.K) := by
  intro pins s σ H x y v u Q I rx ry h
  obtain ⟨d, e, hd, he, sd, se, q⟩ := h
  obtain ⟨as, r1⟩ := Dp.reads I d x v hd rx
  obtain ⟨bs, r2⟩ := Dp.reads I e y u he ry
  exact SeqAt.compareNe_shaped r1 r2 sd se hu ⟨.bl _, H, I, rfl, q⟩
end
end L2
namespace L2
open PySem PySem.Spec PyProof.Rows
abbrev CellAt (h : Heap) (c : Addr) (v : Option Value) : Prop := h.IsCell c v
def relS (scope sc : Scope) : Scope :=
  { scope with names := scope.names.map fun (n, k) => if (k == .free && sc.kind == .function && sc.names.lookup n == some .cell) then (n, .cell) else (n, k) }
def cloFrom (cells : List (Str × Addr)) : List (Str × NameKind) → List (Str × Addr) → List (Str × Addr)
  | [], acc => acc
  | (n, k) :: r, acc => if k == .free then cloFrom cells r ((n, (cells.lookup n).getD 0) :: acc) else cloFrom cells r acc
theorem closure_loop (env : Env) (f : Str × NameKind → List (Str × Addr) → Sem (ForInStep (List (Str × Addr))))
    (hf : ∀ n k c, f (n, k) c = if k == .free then (do let a ← cellOf env n; pure (.yield ((n, a) :: c))) else pure (.yield c)) :
    ∀ (names : List (Str × NameKind)) (acc : List (Str × Addr)), (∀ y ∈ names, y.2 = .free → ∃ c, env.cells.lookup y.1 = some c) → forIn names acc f = pure (cloFrom env.cells names acc)
  | [], acc, _ => by rw [List.forIn_nil]; rfl
  | (n, k) :: r, acc, h => by
    rw [List.forIn_cons, hf]
    have ih := fun acc => closure_loop env f hf r acc fun y hy => h y (List.mem_cons_of_mem _ hy)
    unfold cloFrom
    by_cases hk : (k == NameKind.free) = true
    · rw [if_pos hk, if_pos hk]
      obtain ⟨c, hc⟩ := h (n, k) List.mem_cons_self (by simpa using hk)
      have e : cellOf env n = pure c := by unfold cellOf; rw [hc]
      rw [e]
      have e2 : (env.cells.lookup n).getD 0 = c := by rw [hc]; rfl
      rw [e2]
      exact ih _
    · rw [if_neg hk, if_neg hk]
      exact ih _
theorem closure_ok {scope : Scope} {env : Env} (h : ∀ y ∈ scope.names, y.2 = .free → ∃ c, env.cells.lookup y.1 = some c) : closureFor scope env = pure (cloFrom env.cells scope.names []) := by
  simp only [closureFor]
  rw [closure_loop env _ (fun n k c => rfl) scope.names [] h]
  rfl
theorem mem_lookup {α : Type} : ∀ {l : List (Str × α)} {n : Str} {c : α}, (n, c) ∈ l → ∃ c', l.lookup n = some c'
  | (k, v) :: r, n, c, h => by
    rw [List.lookup_cons]
    cases hb : n == k with
    | true => exact ⟨_, rfl⟩
    | false =>
      rcases List.mem_cons.mp h with e | h
      · cases e; simp at hb
      · exact mem_lookup h
theorem cloFrom_mem {cells : List (Str × Addr)} : ∀ {names : List (Str × NameKind)} {acc : List (Str × Addr)} {n : Str} {c : Addr}, (n, c) ∈ cloFrom cells names acc → (n, c) ∈ acc ∨ ((n, .free) ∈ names ∧ c = (cells.lookup n).getD 0)
  | [], _, _, _, h => .inl h
  | (m, k) :: r, acc, n, c, h => by
    unfold cloFrom at h
    split at h
    · rename_i hk
      have hk : k = .free := by simpa using hk
      rcases cloFrom_mem h with h | ⟨h1, h2⟩
      · rcases List.mem_cons.mp h with e | h
        · cases e; exact .inr ⟨hk ▸ List.mem_cons_self, rfl⟩
        · exact .inl h
      · exact .inr ⟨List.mem_cons_of_mem _ h1, h2⟩
    · rcases cloFrom_mem h with h | ⟨h1, h2⟩
      · exact .inl h
      · exact .inr ⟨List.mem_cons_of_mem _ h1, h2⟩
theorem cloFrom_acc {cells : List (Str × Addr)} : ∀ {names : List (Str × NameKind)} {acc : List (Str × Addr)} {p : Str × Addr}, p ∈ acc → p ∈ cloFrom cells names acc
  | [], _, _, h => h
  | (m, k) :: r, acc, p, h => by
    unfold cloFrom
    split
    · exact cloFrom_acc (List.mem_cons_of_mem _ h)
    · exact cloFrom_acc h
theorem cloFrom_has {cells : List (Str × Addr)} : ∀ {names : List (Str × NameKind)} {acc : List (Str × Addr)} {n : Str}, (n, .free) ∈ names → (n, (cells.lookup n).getD 0) ∈ cloFrom cells names acc
  | (m, k) :: r, acc, n, h => by
    unfold cloFrom
    rcases List.mem_cons.mp h with e | h
    · cases e
      exact cloFrom_acc List.mem_cons_self
    · split
      · exact cloFrom_has h
      · exact cloFrom_has h
theorem cells_mem : ∀ {names : List (Str × NameKind)} {h : Heap} {acc : List (Str × Addr)} {x : Str} {c : Addr}, (x, c) ∈ cellsFrom h.objs.size names acc →
    (x, c) ∈ acc ∨ ((x, .cell) ∈ names ∧ h.objs.size ≤ c ∧ CellAt (pushCells h names) c none)
  | [], _, _, _, _, h => .inl h
  | (n, k) :: r, h, acc, x, c, hm => by
    unfold cellsFrom at hm
    unfold pushCells
    split at hm
    · rename_i hk
      rw [if_pos hk]
      have hk : k = .cell := by simpa using hk
      rw [← Heap.size_push h { cls := .type "cell", data := .cell none }] at hm
      rcases cells_mem hm with hm | ⟨h1, h2, h3⟩
      · rcases List.mem_cons.mp hm with e | hm
        · cases e
          exact .inr ⟨hk ▸ List.mem_cons_self, Nat.le_refl _, _, pushCells_keeps r _ _ _ (Heap.get?_push_size _ rfl), rfl⟩
        · exact .inl hm
      · rw [Heap.size_push] at h2
        exact .inr ⟨List.mem_cons_of_mem _ h1, Nat.le_of_succ_le h2, h3⟩
    · rename_i hk
      rw [if_neg hk]
      rcases cells_mem hm with hm | ⟨h1, h2, h3⟩
      · exact .inl hm
      · exact .inr ⟨List.mem_cons_of_mem _ h1, h2, h3⟩
theorem cells_acc : ∀ {names : List (Str × NameKind)} {n : Nat} {acc : List (Str × Addr)} {p : Str × Addr}, p ∈ acc → p ∈ cellsFrom n names acc
  | [], _, _, _, h => h
  | (m, k) :: r, n, acc, p, h => by
    unfold cellsFrom
    split
    · exact cells_acc (List.mem_cons_of_mem _ h)
    · exact cells_acc h
theorem cells_has : ∀ {names : List (Str × NameKind)} {n : Nat} {acc : List (Str × Addr)} {x : Str}, (x, .cell) ∈ names → ∃ c, (x, c) ∈ cellsFrom n names acc
  | (m, k) :: r, n, acc, x, h => by
    unfold cellsFrom
    rcases List.mem_cons.mp h with e | h
    · cases e
      exact ⟨n, cells_acc List.mem_cons_self⟩
    · split
      · exact cells_has h
      · exact cells_has h
theorem cells_inj : ∀ {names : List (Str × NameKind)} {h : Heap} {acc : List (Str × Addr)} {x y : Str} {c : Addr}, (∀ p ∈ acc, p.2 < h.objs.size) → (∀ x y c, (x, c) ∈ acc → (y, c) ∈ acc → x = y) →
    (x, c) ∈ cellsFrom h.objs.size names acc → (y, c) ∈ cellsFrom h.objs.size names acc → x = y
  | [], _, _, _, _, _, _, hi, h1, h2 => hi _ _ _ h1 h2
  | (n, k) :: r, h, acc, x, y, c, hl, hi, h1, h2 => by
    unfold cellsFrom at h1 h2
    split at h1
    · rename_i hk
      rw [if_pos hk] at h2
      rw [← Heap.size_push h { cls := .type "cell", data := .cell none }] at h1 h2
      refine cells_inj (h := h.push _) (fun p hp => ?_) (fun x y c a b => ?_) h1 h2
      · rw [Heap.size_push]
        rcases List.mem_cons.mp hp with rfl | hp
        · exact Nat.lt_succ_self _
        · exact Nat.lt_succ_of_lt (hl p hp)
      · rcases List.mem_cons.mp a with e | a <;> rcases List.mem_cons.mp b with e' | b
        · cases e; cases e'; rfl
        · cases e; exact absurd (hl _ b) (Nat.lt_irrefl _)
        · cases e'; exact absurd (hl _ a) (Nat.lt_irrefl _)
        · exact hi _ _ _ a b
    · rename_i hk
      rw [if_neg hk] at h2
      exact cells_inj hl hi h1 h2
theorem newEnv_comp {M : Model} {A : Around} {E : Value → Shared → Prop} {s : Shared} {scope : Scope} {globals : Addr} {closure : List (Str × Addr)} {qual : Str} {func : Option Addr} {code : Value} {around : Env} {builtins : Addr} {Q : Env → Shared → Prop}
    (h : Q (newEnv scope s.heap.objs.size globals (cellsFrom (s.heap.objs.size + 1) scope.names closure) qual func code (some around) builtins)
      { s with heap := pushCells (s.heap.push { cls := .type "dict", data := .dict #[] }) scope.names }) :
    wpAny M A (newFunctionEnv scope globals closure [] qual func code (some around) builtins) Q E s := by
  simp only [newFunctionEnv, Option.isSome_some, if_true]
  refine wpAny_bind (wpAny_alloc ?_)
  refine wpAny_bind (wpAny_layCells _ (fun n k c => rfl) scope.names closure _ _ ?_)
  rw [show ({ s with heap := s.heap.push { cls := .type "dict", data := .dict #[] } } : Shared).heap.objs.size = s.heap.objs.size + 1 from Heap.size_push ..]
  rw [List.forIn_nil]
  exact wpAny_bind (wpAny_pure (wpAny_pure h))
/-- every name of the written scope, in the scope that runs -/
theorem lookup_relS {sc : Scope} : ∀ {names : List (Str × NameKind)} {x : Str} {k : NameKind},
    (names.map fun (n, k) => if (k == NameKind.free && sc.kind == .function && sc.names.lookup n == some .cell) then (n, NameKind.cell) else (n, k)).lookup x = some k →
    ∃ k', names.lookup x = some k' ∧ (k = k' ∨ (k' = .free ∧ k = .cell))
  | [], _, _, h => by simp at h
  | (n, k₀) :: r, x, k, h => by
    have ih := @lookup_relS sc r x k
    have h' : List.lookup x ((if (k₀ == NameKind.free && sc.kind == .function && sc.names.lookup n == some .cell) = true then (n, NameKind.cell) else (n, k₀)) :: (r.map _)) = some k := h
    cases hx : x == n with
    | true =>
      simp only [List.lookup_cons, hx]
      by_cases hc : (k₀ == NameKind.free && sc.kind == .function && sc.names.lookup n == some .cell) = true
      · rw [if_pos hc] at h'
        simp only [List.lookup_cons, hx] at h'
        cases h'
        simp only [Bool.and_eq_true, beq_iff_eq] at hc
        exact ⟨k₀, rfl, .inr ⟨hc.1.1, rfl⟩⟩
      · rw [if_neg hc] at h'
        simp only [List.lookup_cons, hx] at h'
        cases h'
        exact ⟨_, rfl, .inl rfl⟩
    | false =>
      simp only [List.lookup_cons, hx]
      by_cases hc : (k₀ == NameKind.free && sc.kind == .function && sc.names.lookup n == some .cell) = true
      · rw [if_pos hc] at h'
        simp only [List.lookup_cons, hx] at h'
        exact ih h'
      · rw [if_neg hc] at h'
        simp only [List.lookup_cons, hx] at h'
        exact ih h'
/-- the names of a comprehension's block: its own (with their places in N), or captured -/
structure BlkOk (N : List Str) (sc scope : Scope) (own : List (Str × Nat)) : Prop where
  kind : scope.kind = .function
  uniq : ∀ y ∈ scope.names, scope.names.lookup y.1 = some y.2
  ix : ∀ p ∈ own, N[p.2]? = some p.1
  free : ∀ y ∈ scope.names, y.2 = .free → sc.names.lookup y.1 = some .cell ∨ sc.names.lookup y.1 = some .free
  own : ∀ y ∈ scope.names, y.2 = .local ∨ y.2 = .cell → y.1 ∈ own.map (·.1) ∨ y.1 ∉ N
/-- the slots of the block's own names forgotten -/
def wipe (σ : St) : List Nat → St
  | [] => σ
  | v :: vs => (wipe σ vs).set v none
theorem wipe_length (σ : St) : ∀ vs : List Nat, (wipe σ vs).length = σ.length
  | [] => rfl
  | v :: vs => by unfold wipe; rw [List.length_set, wipe_length σ vs]
theorem wipe_some {σ : St} {i : Nat} {x : V} : ∀ {vs : List Nat}, (wipe σ vs)[i]? = some (some x) → σ[i]? = some (some x) ∧ i ∉ vs
  | [], h => ⟨h, by simp⟩
  | v :: vs, h => by
    unfold wipe at h
    by_cases hi : v = i
    · subst hi
      by_cases hv : v < (wipe σ vs).length
      · rw [List.getElem?_set_self hv] at h; cases h
      · rw [List.getElem?_eq_none (by simpa using hv)] at h; cases h
    · rw [List.getElem?_set_ne hi] at h
      obtain ⟨h1, h2⟩ := wipe_some h
      exact ⟨h1, by simp only [List.mem_cons, not_or]; exact ⟨fun e => hi e.symm, h2⟩⟩
/-- the context of a block that starts at s, its iterator's objects at fp -/
abbrev Cx.blk (X : Cx) (s : Shared) (H : Hp) (scope : Scope) (cenv : Env) (fp : List Addr) : Cx := { X with s_0 := s, H_0 := H, env := cenv, outer := X.stack, ex := fp, fn := fun x => scope.names.lookup x == some .cell, pn := [], xe := fun _ _ => False }
section
variable {X : Cx} {pins : List (Addr × Obj)} {σ : St} {H : Hp} {s : Shared}
theorem block_start {scope : Scope} {own : List (Str × Nat)} {fp : List Addr} (I : Inv X pins σ H s) (ok : BlkOk X.N X.env.scope scope own) (hN : X.N.Nodup) (hfp : ∀ b ∈ fp, FpOk X pins H b ∧ b < s.heap.objs.size) :
    Inv (X.blk s H scope (compEnvC scope (cellsFrom (s.heap.objs.size + 1) scope.names (cloFrom X.env.cells scope.names [])) s.heap.objs.size X.env) fp) [] (wipe σ (own.map (·.2))) H { s with heap := pushCells (s.heap.push { cls := .type "dict", data := .dict #[] }) scope.names } := by
  have hfree : ∀ y ∈ scope.names, y.2 = .free → ∃ c, X.env.cells.lookup y.1 = some c := fun y hy e => by
    rcases ok.free y hy e with k | k
    · exact I.ok.has _ (.inl k)
    · exact I.ok.has _ (.inr k)
  generalize hcenv : compEnvC scope (cellsFrom (s.heap.objs.size + 1) scope.names (cloFrom X.env.cells scope.names [])) s.heap.objs.size X.env = cenv
  have kp : ∀ b o, s.heap.get? b = some o → (pushCells (s.heap.push { cls := .type "dict", data := .dict #[] }) scope.names).get? b = some o := fun b o e => pushCells_keeps _ _ _ _ (Heap.get?_push_of_some _ e)
  have hL : cenv.locals = s.heap.objs.size := by rw [← hcenv]; rfl
  have hcl : cenv.cells = cellsFrom (s.heap.objs.size + 1) scope.names (cloFrom X.env.cells scope.names []) := by rw [← hcenv]; rfl
  have hsc : cenv.scope = relS scope X.env.scope := by rw [← hcenv]; rfl
  rw [← Heap.size_push s.heap { cls := .type "dict", data := .dict #[] }] at hcl
  have cm : ∀ {y c}, (y, c) ∈ cloFrom X.env.cells scope.names [] → X.env.cells.lookup y = some c ∧ c < s.heap.objs.size := fun {y c} hm => by
    rcases cloFrom_mem hm with hm | ⟨h1, rfl⟩
    · cases hm
    · obtain ⟨c, hc⟩ := hfree _ h1 rfl
      rw [hc]
      obtain ⟨w, z⟩ := I.cell _ _ hc
      exact ⟨rfl, z.lt⟩
  have mem : ∀ {y c}, cenv.cells.lookup y = some c → (X.env.cells.lookup y = some c ∧ c < s.heap.objs.size) ∨ (s.heap.objs.size + 1 ≤ c ∧ CellAt (pushCells (s.heap.push { cls := .type "dict", data := .dict #[] }) scope.names) c none) := fun {y c} e => by
    rw [hcl] at e
    rcases cells_mem (PySem.mem_of_lookup e) with hm | ⟨_, h2, h3⟩
    · exact .inl (cm hm)
    · rw [Heap.size_push] at h2; exact .inr ⟨h2, h3⟩
  have look : ∀ {y}, scope.names.lookup y = some .free → ∃ c, cenv.cells.lookup y = some c ∧ X.env.cells.lookup y = some c := fun {y} hl => by
    have hy : (y, NameKind.free) ∈ scope.names := PySem.mem_of_lookup hl
    obtain ⟨c', e'⟩ := mem_lookup (cells_acc (names := scope.names) (n := (s.heap.push { cls := .type "dict", data := .dict #[] }).objs.size) (cloFrom_has (cells := X.env.cells) (acc := []) hy))
    rw [← hcl] at e'
    refine ⟨c', e', ?_⟩
    rw [hcl] at e'
    rcases cells_mem (PySem.mem_of_lookup e') with hm | ⟨h1, _, _⟩
    · exact (cm hm).1
    · have := ok.uniq _ h1
      rw [hl] at this; cases this
  have okB : (X.blk s H scope cenv fp).Ok := by
    refine ⟨I.ok.mod, by show cenv.scope.kind = _; rw [hsc]; exact ok.kind, by show cenv.globals = _; rw [← hcenv]; exact I.ok.glob, by show cenv.builtins = _; rw [← hcenv]; exact I.ok.blt, by show s.heap.objs.size ≤ cenv.locals; rw [hL]; exact Nat.le_refl _,
      fun y z c e1 e2 => ?_, fun y hy => ?_, fun y c z e => ?_, I.ok.hd, I.ok.frames, .inl rfl, fun b hb => ⟨?_, fun y c e z => ?_⟩, I.bs, Nat.le_trans I.ok.bsz I.sz, fun b o e hb => ?_, fun b hb z => ?_, I.stack, I.stkFree⟩
    · have e1 : cenv.cells.lookup y = some c := e1
      have e2 : cenv.cells.lookup z = some c := e2
      rw [hcl] at e1 e2
      refine cells_inj (fun p hp => ?_) (fun y z c a b => I.ok.inj y z c (cm a).1 (cm b).1) (PySem.mem_of_lookup e1) (PySem.mem_of_lookup e2)
      rw [Heap.size_push]
      exact Nat.lt_succ_of_lt (cm (y := p.1) (c := p.2) hp).2
    · show ∃ c, cenv.cells.lookup y = some c
      have key : ∀ k, cenv.kindOf y = some k → (k = .cell ∨ k = .free) → ∃ c, cenv.cells.lookup y = some c := fun k hk hk' => by
        unfold Env.kindOf at hk
        rw [hsc] at hk
        obtain ⟨k', e, r⟩ := lookup_relS hk
        have : k' = .cell ∨ k' = .free := by
          rcases r with rfl | ⟨rfl, _⟩
          · exact hk'
          · exact .inr rfl
        rcases this with rfl | rfl
        · obtain ⟨c, hm⟩ := cells_has (n := (s.heap.push { cls := .type "dict", data := .dict #[] }).objs.size) (acc := cloFrom X.env.cells scope.names []) (PySem.mem_of_lookup e)
          obtain ⟨c', e'⟩ := mem_lookup hm
          exact ⟨c', by rw [hcl]; exact e'⟩
        · obtain ⟨c, h1, _⟩ := look e
          exact ⟨c, h1⟩
      rcases hy with hy | hy
      · exact key _ hy (.inl rfl)
      · exact key _ hy (.inr rfl)
    · have z : (scope.names.lookup y == some NameKind.cell) = true := z
      have z : scope.names.lookup y = some .cell := by simpa using z
      have e : cenv.cells.lookup y = some c := e
      rw [hcl] at e
      rcases cells_mem (PySem.mem_of_lookup e) with hm | ⟨_, h2, _⟩
      · rcases cloFrom_mem hm with hm | ⟨h1, _⟩
        · cases hm
        · have q := ok.uniq _ h1
          rw [z] at q; cases q
      · rw [Heap.size_push] at h2
        exact Nat.le_of_succ_le h2
    · show b ≠ cenv.locals
      rw [hL]; exact Nat.ne_of_lt (hfp b hb).2
    · have e : cenv.cells.lookup y = some c := e
      rcases mem e with ⟨h1, _⟩ | ⟨h1, _⟩
      · exact (hfp b hb).1.2.2.2.2.1 y c h1 z
      · have h2 : s.heap.objs.size + 1 ≤ b := by rw [← z]; exact h1
        exact absurd (Nat.lt_of_lt_of_le (hfp b hb).2 (Nat.le_of_succ_le h2)) (Nat.lt_irrefl _)
    · rcases (hfp b hb).1.2.2.2.1 with z | z
      · exact I.ok.noex b o e z
      · exact absurd (Nat.lt_of_lt_of_le (Heap.lt_size e) (Nat.le_trans I.ok.bsz z)) (Nat.lt_irrefl _)
    · rcases List.mem_cons.mp (I.stkSub b z) with z | z
      · exact (hfp b hb).1.2.1 z
      · exact (hfp b hb).1.2.2.1 z
  refine ⟨okB, rfl, I.bare, Un.kept kp, ⟨fun _ => none, ?_, fun i y av e1 e2 e3 => ?_⟩, fun y c e => ?_, ?_, fun y c e => ?_, fun p hp => ?_, I.hok.kept kp, by rw [wipe_length]; exact I.len⟩
  · show Heap.Ns _ cenv.locals _
    rw [hL]
    exact Heap.Ns.keeps (Heap.Ns.new ..) fun b o e => pushCells_keeps _ _ _ _ e
  · obtain ⟨e2, hne⟩ := wipe_some e2
    have hfr : scope.names.lookup y = some .free ∧ (cenv.kindOf y = some .cell ∨ cenv.kindOf y = some .free) := by
      have key : ∀ k, cenv.scope.names.lookup y = some k → k = .local ∨ k = .cell ∨ k = .free → scope.names.lookup y = some .free ∧ (cenv.kindOf y = some .cell ∨ cenv.kindOf y = some .free) := fun k hk hk' => by
        have hk0 := hk
        rw [hsc] at hk
        obtain ⟨k', e, r⟩ := lookup_relS hk
        have no : ¬ (k' = .local ∨ k' = .cell) := fun hh => by
          rcases ok.own _ (PySem.mem_of_lookup e) hh with e' | e'
          · obtain ⟨p, hp, hpy⟩ := List.mem_map.mp e'
            have e3 := ok.ix p hp
            have : p.1 = y := hpy
            rw [this] at e3
            exact hne (List.mem_map.mpr ⟨p, hp, nodup_ix hN e3 e1⟩)
          · exact e' (List.mem_of_getElem? e1)
        rcases r with rfl | ⟨rfl, rfl⟩
        · rcases hk' with rfl | rfl | rfl
          · exact absurd (.inl rfl) no
          · exact absurd (.inr rfl) no
          · exact ⟨e, .inr hk0⟩
        · exact ⟨e, .inl hk0⟩
      have e3 : Vis cenv.scope y := e3
      rcases e3 with e3 | e3 | e3
      · exact key _ e3 (.inl rfl)
      · exact key _ e3 (.inr (.inl rfl))
      · exact key _ e3 (.inr (.inr rfl))
    obtain ⟨m, hn, hl⟩ := I.loc
    have hvis : Vis X.env.scope y := (ok.free _ (PySem.mem_of_lookup hfr.1) rfl).elim (fun k => .inr (.inl k)) (fun k => .inr (.inr k))
    obtain ⟨w, r, q⟩ := hl i y av e1 e2 hvis
    refine ⟨w, r, .inr ⟨hfr.2, ?_⟩⟩
    obtain ⟨c, h1, h2⟩ := look hfr.1
    rcases q with ⟨k, _⟩ | ⟨_, c', e', z⟩
    · have k : X.env.scope.names.lookup y = some .local := k
      rcases ok.free _ (PySem.mem_of_lookup hfr.1) rfl with k' | k' <;> rw [show X.env.scope.names.lookup y = _ from k'] at k <;> cases k
    · rw [h2] at e'; cases e'
      exact ⟨c, h1, z.keeps kp⟩
  · have e : cenv.cells.lookup y = some c := e
    rcases mem e with ⟨h1, _⟩ | ⟨_, z⟩
    · obtain ⟨w, z⟩ := I.cell y c h1
      exact ⟨w, z.keeps kp⟩
    · exact ⟨_, z⟩
  · show H cenv.locals = none
    rw [hL]; exact I.hok.fresh (Nat.le_refl _)
  · have e : cenv.cells.lookup y = some c := e
    rcases mem e with ⟨h1, _⟩ | ⟨h1, _⟩
    · exact I.freeC y c h1
    · exact I.hok.fresh (Nat.le_of_succ_le h1)
  · exact absurd (show p ∈ ([] : List (Addr × Obj)) ++ [] from hp) (by simp)
/-- an item appended to a tracked list -/
theorem app_ok {E : Value → Shared → Prop} {D : Addr} {xs : List V} {y : V} {v : Value} {Q : Value → Shared → Prop} (I : Inv X pins σ H s) (hD : H D = some (.lst xs)) (hz : xs.length < sizeLine) (r : RelV y v)
    (h : ∀ s', Inv X pins σ (upd H D (.lst (xs ++ [y]))) s' → Q .none s') : wpAny (model X.prog X.w) X.A (call (.builtin "list.append") [.ref D, v]) Q E s := by
  obtain ⟨hz', its, n, ri, e⟩ := I.hok D _ hD
  have hl := ri.length
  refine append_at (hsz := by rw [List.size_toArray]; omega) e fun h' sb ho' => ?_
  refine h { s with heap := h' } (I.write (t' := s.toks) (by rw [hD]; trivial) (.inl rfl) (fun b u hb q => (sb.2 b hb).trans q) ⟨_, ho'⟩ ⟨by rw [List.length_append]; exact hz, its ++ [v], n + 1, ri.append (.cons r .nil), ?_⟩)
  rw [ho']
  simp
/-- a clause's tests -/
def PTs (X : Cx) (ifs : List Expr) (t : TT) : Prop :=
  ∀ (pins : List (Addr × Obj)) (s : Shared) (σ : St) (H : Hp) (Q : Bool → Hp → Prop), Inv X pins σ H s → t σ H Q →
    wpAny (model X.prog X.w) X.A (forIn ifs true fun c r => if r = true then do let ok ← isTrue c X.env (eval c X.env); pure (ForInStep.yield ok) else pure (ForInStep.yield r)) (TP X pins σ Q) X.xe s
def tYes : TT := fun _ H Q => Q true H
theorem pts_nil : PTs X [] tYes := fun _ _ _ H _ I h => wpAny_tests_nil ⟨H, I, h⟩
end
theorem thnF {α : Type} {t : Sem α} {Q Q' : α → Shared → Prop} {M : Model} {A : Around} {E : Value → Shared → Prop} {s : Shared} (h : wpAny M A t Q (fun _ _ => False) s) (hQ : ∀ a s, Q a s → Q' a s) : wpAny M A t Q' E s := wpAny_mono h hQ fun _ _ z => False.elim z
/-- the loop of a list comprehension's block, the target of any form (codeAny_compLoop_tests asks a target that no tuple goes to; statement and proof follow it, PyProof/CompMap.lean:41-61, with the step letOwnedTupleGo kept) -/
theorem compLoop_any {prog : Program} {w : World} {A : Around} {R : Result → Shared → Prop} {s : Shared} {elt target iter : Expr} {ifs : List Expr} {scope : Scope} {pos : Pos} {it acc : Value} {env : Env} (I : Nat → Shared → Prop)
    (turn : ∀ n s, I n s → wpAny (model prog w) A (pyNext it) (fun r s₁ => match r with
      | none => R (.ok .next) s₁
      | some v => wpAny (model prog w) A (letOwnedTupleGo target it v) (fun _ s₁' => wpAny (model prog w) A (assign target env v) (fun _ s₂ =>
          wpAny (model prog w) A (forIn ifs true fun c r => if r = true then do let ok ← isTrue c env (eval c env); pure (ForInStep.yield ok) else pure (ForInStep.yield r)) (fun ok s₃ =>
            if ok = true then wpAny (model prog w) A (eval elt env) (fun x s₄ =>
              wpAny (model prog w) A (call (.builtin "list.append") [acc, x]) (fun _ s₅ => ∃ m, m < n ∧ I m s₅) (notedBy (model prog w) A env fun e s' => R (.error e) s') s₄) (notedBy (model prog w) A env fun e s' => R (.error e) s') s₃
            else ∃ m, m < n ∧ I m s₃) (notedBy (model prog w) A env fun e s' => R (.error e) s') s₂) (notedBy (model prog w) A env fun e s' => R (.error e) s') s₁') (notedBy (model prog w) A env fun e s' => R (.error e) s') s₁) (notedBy (model prog w) A env fun e s' => R (.error e) s') s)
    (n : Nat) (h : I n s) :
    codeAny (model prog w) A (.compLoop (.ListComp elt [⟨target, iter, ifs, 0⟩] scope pos) 0 it acc env) R s := by
  refine codeAny_loop rfl I (fun n s hI => ?_) n h
  show wpAny _ A ((compTurn (.ListComp elt [⟨target, iter, ifs, 0⟩] scope pos) 0 it acc env).onRaise (fun x => do noteFrame x env; theTreesLotGoes x)) _ _ s
  refine wpAny_noted ?_
  rw [compTurn_list]
  refine wpAny_bind (wpAny_standAt (wpAny_bind (wpAny_mono (turn n s hI) (fun r s₁ h₁ => ?_) fun _ _ h' => h')))
  cases r with
  | none => exact wpAny_pure h₁
  | some v =>
    refine wpAny_bind (wpAny_mono h₁ (fun _ s₁' h₁' => ?_) fun _ _ h' => h')
    refine wpAny_bind (wpAny_mono h₁' (fun _ s₂ h₂ => wpAny_bind (wpAny_mono h₂ (fun ok s₃ h₃ => ?_) fun _ _ h' => h')) fun _ _ h' => h')
    cases ok with
    | false => exact wpAny_pure ⟨rfl, h₃⟩
    | true =>
      exact wpAny_bind (wpAny_bind (wpAny_mono h₃ (fun x s₄ h₄ => wpAny_bind (wpAny_mono h₄ (fun _ s₅ h₅ => wpAny_pure (wpAny_pure ⟨rfl, h₅⟩)) fun _ _ h' => h')) fun _ _ h' => h'))
section
variable {X : Cx}
/-- [elt for target in iter if ..]: D the new list; W by the turn and a measure, Nx what a turn is to reach -/
def tLc (wi : TI) (g : TG) (tt : TT) (te : TE) (vs : List Nat) : TE := fun σ H Q => wi σ H fun J H1 => ∀ D, H1 D = none → ∃ W : Nat → Nat → Hp → Prop, (∃ m, W 0 m (upd H1 D (.lst []))) ∧ ∀ i m H, W i m H →
  (J.stop i H ∧ Q (.ref D) H) ∨ (J.go i H ∧ ∃ Nx : Hp → Prop, (∀ H', Nx H' → ∃ m', m' < m ∧ W (i + 1) m' H') ∧ ∀ x H', J.yld i H x H' → g x (wipe σ vs) H' fun σ2 H2 => wipe σ2 vs = wipe σ vs ∧ tt σ2 H2 fun b H3 =>
    if b = true then te σ2 H3 fun y H4 => ∃ acc, H4 D = some (.lst acc) ∧ acc.length < sizeLine ∧ Nx (upd H4 D (.lst (acc ++ [y]))) else Nx H3)
theorem lc_core {pins : List (Addr × Obj)} {s : Shared} {σ : St} {H : Hp} {Q : VK} {elt tg iter : Expr} {ifs : List Expr} {scope : Scope} {own : List (Str × Nat)} {pos pos' : Pos} {wi : TI} {g : TG} {tt : TT} {te : TE} {use : Option (Value → Sem Unit)} {Qf : Value → Shared → Prop}
    (hc : X.calm = true) (hN : X.N.Nodup) (I : Inv X pins σ H s) (hi : PI X tg iter wi) (ok : BlkOk X.N X.env.scope scope own)
    (hg : ∀ (s : Shared) (H : Hp) (C : Addr) (cl : List (Str × Addr)) (fp : List Addr), PG (X.blk s H scope (compEnvC scope cl C X.env) fp) tg g) (ht : ∀ (s : Shared) (H : Hp) (C : Addr) (cl : List (Str × Addr)) (fp : List Addr), PTs (X.blk s H scope (compEnvC scope cl C X.env) fp) ifs tt)
    (he : ∀ (s : Shared) (H : Hp) (C : Addr) (cl : List (Str × Addr)) (fp : List Addr), PE (X.blk s H scope (compEnvC scope cl C X.env) fp) elt te) (hs : ∀ x, foldedSetIterable iter X.env x = pure x)
    (h : tLc wi g tt te (own.map (·.2)) σ H Q)
    (hRR : ∀ D C s' m H', Inv X pins σ H' s' → Q (.ref D) H' → s'.heap.Ns C m → FpOk X pins H' C → compPost (model X.prog X.w) X.A X.xe use Qf (.ref D) C (.ok .next) s') :
    wpAny (model X.prog X.w) X.A (comprehension (.ListComp elt [⟨tg, iter, ifs, 0⟩] scope pos) scope X.env pos' (newList []) false (eval iter X.env) use) Qf X.xe s := by
  have hfree : ∀ y ∈ scope.names, y.2 = .free → ∃ c, X.env.cells.lookup y.1 = some c := fun y hy e => by
    rcases ok.free y hy e with k | k
    · exact I.ok.has _ (.inl k)
    · exact I.ok.has _ (.inr k)
  refine wpAny_comprehension_free (use := use) rfl hs (closure_ok hfree) ok.kind (fun y hy e => by rw [ok.uniq y hy, e])
    (thn (hi pins s σ H _ I h) fun xv s1 hx => thn hx fun itv s2 h2 => ?_)
  obtain ⟨it, fp, tn, J, H2, e, I2, T, st2, f2, q⟩ := h2
  subst e
  refine wpAny_newObj_type (newEnv_comp ?_) (by show 0 ≤ sizeLine; decide)
  generalize hD : s2.heap.objs.size = D
  have hDn : H2 D = none := I2.hok.fresh (Nat.le_of_eq hD)
  obtain ⟨W, ⟨m0, w0⟩, turn⟩ := q D hDn
  -- the new list
  generalize hs3 : ({ s2 with heap := s2.heap.push { cls := .type "list", data := .seq ([] : List Value).toArray } } : Shared) = s3
  have I3 : Inv X pins σ (upd H2 D (.lst [])) s3 := by
    rw [← hs3]
    refine I2.laid (t' := s2.toks) (fun b o e => Heap.get?_push_of_some _ e) (Nat.le_of_eq hD) ⟨Nat.zero_le _, [], 0, .nil, ?_⟩
    rw [← hD]
    exact Heap.get?_push_size _ rfl
  have h3 : s3.heap = s2.heap.push { cls := .type "list", data := .seq ([] : List Value).toArray } := by rw [← hs3]
  have sz : ∀ b ∈ fp, b < s2.heap.objs.size := fun b hb => by
    obtain ⟨o, e, _⟩ := T.obj _ _ st2 b hb
    exact Heap.lt_size e
  have f3 : ∀ b ∈ fp, FpOk X pins (upd H2 D (.lst [])) b ∧ b < s3.heap.objs.size := fun b hb => by
    have hlt := sz b hb
    refine ⟨⟨?_, (f2 b hb).2⟩, by rw [h3, Heap.size_push]; exact Nat.lt_succ_of_lt hlt⟩
    rw [upd_ne (by rw [← hD]; exact Nat.ne_of_lt hlt)]
    exact (f2 b hb).1
  have st3 : tn 0 s3.heap := T.keep _ _ _ st2 fun b _ o e => by rw [h3]; exact Heap.get?_push_of_some _ e
  have I4 := block_start I3 ok hN f3
  have pg := hg s3 (upd H2 D (.lst [])) s3.heap.objs.size (cellsFrom (s3.heap.objs.size + 1) scope.names (cloFrom X.env.cells scope.names [])) fp
  have pt := ht s3 (upd H2 D (.lst [])) s3.heap.objs.size (cellsFrom (s3.heap.objs.size + 1) scope.names (cloFrom X.env.cells scope.names [])) fp
  have pe := he s3 (upd H2 D (.lst [])) s3.heap.objs.size (cellsFrom (s3.heap.objs.size + 1) scope.names (cloFrom X.env.cells scope.names [])) fp
  show codeAny _ _ (.compStart (.ListComp elt [⟨tg, iter, ifs, 0⟩] scope pos) 0 (.ref it) (.ref D) (compEnvC scope (cellsFrom (s3.heap.objs.size + 1) scope.names (cloFrom X.env.cells scope.names [])) s3.heap.objs.size X.env)) (compPost (model X.prog X.w) X.A X.xe use Qf (.ref D) s3.heap.objs.size) { s3 with heap := pushCells (s3.heap.push { cls := .type "dict", data := .dict #[] }) scope.names }
  have nfp : ∀ b ∈ fp, (upd H2 D (.lst [])) b = none := fun b hb => (f3 b hb).1.1
  generalize hce : compEnvC scope (cellsFrom (s3.heap.objs.size + 1) scope.names (cloFrom X.env.cells scope.names [])) s3.heap.objs.size X.env = ce at I4 pg pt pe ⊢
  have cL : ce.locals = s3.heap.objs.size := by subst hce; rfl
  generalize hH3 : upd H2 D (.lst []) = H3 at I3 I4 pg pt pe w0 nfp f3
  generalize hs4 : ({ s3 with heap := pushCells (s3.heap.push { cls := .type "dict", data := .dict #[] }) scope.names } : Shared) = s4 at I4 ⊢
  have st4 : tn 0 s4.heap := T.keep _ _ _ st3 fun b _ o e => by rw [← hs4]; exact pushCells_keeps _ _ _ _ (Heap.get?_push_of_some _ e)
  have stat : ∀ {σ' : St} {H' : Hp} {s' : Shared}, Inv (X.blk s3 H3 scope ce fp) [] σ' H' s' → (∀ b ∈ fp, H' b = none) → ∀ b ∈ fp, FpOk (X.blk s3 H3 scope ce fp) [] H' b := fun {σ' H' s'} I' hn b hb =>
    ⟨hn b hb, (I'.ok.exf b hb).1, I'.ok.exfs b hb, .inl hb, fun x c e => (I'.ok.exf b hb).2 x c e, fun p hp => absurd (show p ∈ ([] : List (Addr × Obj)) ++ [] from hp) (by simp)⟩
  have loop : codeAny (model X.prog X.w) X.A (.compLoop (.ListComp elt [⟨tg, iter, ifs, 0⟩] scope pos) 0 (.ref it) (.ref D) ce) (compPost (model X.prog X.w) X.A X.xe use Qf (.ref D) s3.heap.objs.size) s4 := by
    refine compLoop_any (fun n s' => ∃ i H', Inv (X.blk s3 H3 scope ce fp) [] (wipe σ (own.map (·.2))) H' s' ∧ tn i s'.heap ∧ (∀ b ∈ fp, H' b = none) ∧ W i n H') ?_ m0 ⟨0, H3, I4, st4, nfp, w0⟩
    rintro n s5 ⟨i, H5, I5, st5, n5, w5⟩
    rcases turn i n H5 w5 with ⟨stop, qq⟩ | ⟨go, Nx, hNx, step⟩
    · have td := T.done (X.blk s3 H3 scope ce fp) rfl rfl rfl hc i [] s5 _ H5 (fun _ _ => False) I5 (stat I5 n5) st5 stop
      refine thnF td fun r s6 ⟨hr, I6⟩ => ?_
      subst hr
      -- back in the def's context
      have I7 : Inv X pins σ H5 s6 := I3.call' (ch := fp) I6.os I6.base I6.hok I6.bare fun b hb => ⟨(f3 b hb).1.2.2.2.1, (f3 b hb).1.2.1, (f3 b hb).1.2.2.2.2.1, (f3 b hb).1.2.2.2.2.2⟩
      have nC : H5 s3.heap.objs.size = none := by
        have z : H5 ce.locals = none := I6.free
        rw [cL] at z
        exact z
      obtain ⟨m, hn, _⟩ := I6.loc
      have hn : s6.heap.Ns ce.locals m := hn
      rw [cL] at hn
      exact hRR D s3.heap.objs.size s6 m H5 I7 qq hn (I3.fpOk (Nat.le_refl _) nC)
    · have ti := T.item (X.blk s3 H3 scope ce fp) rfl rfl rfl hc i [] s5 _ H5 (fun _ _ => False) I5 (stat I5 n5) st5 go
      refine thnF ti fun r s6 ⟨u, hr, h6⟩ => ?_
      subst hr
      refine thnF h6 fun _ s7 ⟨x, H7, I7, r7, y7, st7, n7⟩ => ?_
      have I7' := I7.pinned (stat I7 n7) (T.obj _ _ st7)
      refine thnF (pg _ s7 _ H7 x u _ I7' r7 (step x H7 y7)) fun _ s8 ⟨σ8, H8, I8, hw8, q8⟩ => ?_
      refine thnF (pt _ s8 σ8 H8 _ I8 q8) fun b s9 ⟨H9, I9, q9⟩ => ?_
      -- the turn's end
      have fin : ∀ {s' : Shared} {H' : Hp}, Inv (X.blk s3 H3 scope ce fp) ([] ++ pinsAt fp s7.heap) σ8 H' s' → Nx H' → ∃ m, m < n ∧ ∃ i H', Inv (X.blk s3 H3 scope ce fp) [] (wipe σ (own.map (·.2))) H' s' ∧ tn i s'.heap ∧ (∀ b ∈ fp, H' b = none) ∧ W i m H' := fun {s' H'} I' nx => by
        obtain ⟨m', hm, w'⟩ := hNx H' nx
        have pin' : ∀ b ∈ fp, ∀ o, s7.heap.get? b = some o → s'.heap.get? b = some o ∧ H' b = none := fun b hb o e =>
          let z := I'.pin (b, o) (List.mem_append_right _ (List.mem_append_right _ (mem_pinsAt hb e)))
          ⟨z.1, z.2.1⟩
        have hl : (wipe σ (own.map (·.2))).length = σ8.length := by rw [← hw8, wipe_length]
        refine ⟨m', hm, i + 1, H', (I'.unpinned (pins := [])).weak hl (fun j v e => ?_), T.keep _ _ _ st7 fun b hb o e => (pin' b hb o e).1, fun b hb => ?_, w'⟩
        · rw [← hw8] at e
          exact (wipe_some e).1
        · obtain ⟨o, e, _⟩ := T.obj _ _ st7 b hb
          exact (pin' b hb o e).2
      cases b with
      | false =>
        simp only [Bool.false_eq_true, if_false] at q9 ⊢
        exact fin I9 q9
      | true =>
        simp only [if_true] at q9 ⊢
        refine thnF (pe _ s9 σ8 H9 _ I9 q9) fun z s10 ⟨yv, H10, I10, r10, acc, hD10, hz10, nx⟩ => ?_
        exact app_ok (X := X.blk s3 H3 scope ce fp) I10 hD10 hz10 r10 fun s11 I11 => fin I11 nx
  exact codeAny_compStart_list loop (T.self X.A 0 _ _ _ st4 loop)
/-- as a value -/
theorem pe_lc {elt tg iter : Expr} {ifs : List Expr} {scope : Scope} {own : List (Str × Nat)} {pos : Pos} {wi : TI} {g : TG} {tt : TT} {te : TE} (hc : X.calm = true) (hN : X.N.Nodup) (hi : PI X tg iter wi) (ok : BlkOk X.N X.env.scope scope own)
    (hg : ∀ (s : Shared) (H : Hp) (C : Addr) (cl : List (Str × Addr)) (fp : List Addr), PG (X.blk s H scope (compEnvC scope cl C X.env) fp) tg g) (ht : ∀ (s : Shared) (H : Hp) (C : Addr) (cl : List (Str × Addr)) (fp : List Addr), PTs (X.blk s H scope (compEnvC scope cl C X.env) fp) ifs tt)
    (he : ∀ (s : Shared) (H : Hp) (C : Addr) (cl : List (Str × Addr)) (fp : List Addr), PE (X.blk s H scope (compEnvC scope cl C X.env) fp) elt te) (hs : ∀ x, foldedSetIterable iter X.env x = pure x := by intro _; rfl) :
    PE X (.ListComp elt [⟨tg, iter, ifs, 0⟩] scope pos) (tLc wi g tt te (own.map (·.2))) := by
  intro pins s σ H Q I h
  rw [eval_ListComp]
  refine lc_core hc hN I hi ok hg ht he hs h fun D C s' m H' I' q hn f => ⟨m, hn, fun h'' sb => ?_⟩
  obtain ⟨f0, f1, f2, f3, f4, f5⟩ := f
  exact ⟨.ref D, H', I'.turned (t' := s'.toks) (fun b o hb e => (sb.2 b hb).trans e) f0 f1 f3 f4 f5, rfl, q⟩
end
/-- over a range: Pv by the turn and the heap (the new list at D within) -/
theorem lc_range {lo : Int} {n : Nat} {g : TG} {tt : TT} {te : TE} {vs : List Nat} {σ : St} {H1 : Hp} {D : Addr} {Qd : Hp → Prop} (Pv : Nat → Hp → Prop) (h0 : Pv 0 (upd H1 D (.lst [])))
    (hs : ∀ i H, i < n → Pv i H → g (.int (lo + i)) (wipe σ vs) H fun σ2 H2 => wipe σ2 vs = wipe σ vs ∧ tt σ2 H2 fun b H3 =>
      if b = true then te σ2 H3 fun y H4 => ∃ acc, H4 D = some (.lst acc) ∧ acc.length < sizeLine ∧ Pv (i + 1) (upd H4 D (.lst (acc ++ [y]))) else Pv (i + 1) H3) (hd : ∀ H, Pv n H → Qd H) :
    ∃ W : Nat → Nat → Hp → Prop, (∃ m, W 0 m (upd H1 D (.lst []))) ∧ ∀ i m H, W i m H →
      ((Itr lo n).stop i H ∧ Qd H) ∨ ((Itr lo n).go i H ∧ ∃ Nx : Hp → Prop, (∀ H', Nx H' → ∃ m', m' < m ∧ W (i + 1) m' H') ∧ ∀ x H', (Itr lo n).yld i H x H' → g x (wipe σ vs) H' fun σ2 H2 => wipe σ2 vs = wipe σ vs ∧ tt σ2 H2 fun b H3 =>
        if b = true then te σ2 H3 fun y H4 => ∃ acc, H4 D = some (.lst acc) ∧ acc.length < sizeLine ∧ Nx (upd H4 D (.lst (acc ++ [y]))) else Nx H3) := by
  refine ⟨fun i m H => m = n - i ∧ i ≤ n ∧ Pv i H, ⟨n, by simp, Nat.zero_le _, h0⟩, ?_⟩
  rintro i m H ⟨rfl, hi, p⟩
  by_cases hlt : i < n
  · refine .inr ⟨hlt, Pv (i + 1), fun H' p' => ⟨n - (i + 1), by omega, rfl, hlt, p'⟩, fun x H' y => ?_⟩
    obtain ⟨e, y⟩ := y
    subst e y
    exact hs i _ hlt p
  · have e : i = n := by omega
    subst e
    exact .inl ⟨Nat.le_refl _, hd H p⟩
def blkC (N : List Str) (sc scope : Scope) (own : List (Str × Nat)) : Bool :=
  (match scope.kind with | .function => true | _ => false) && (scope.names.all fun y => decide (scope.names.lookup y.1 = some y.2)) && (own.all fun p => decide (N[p.2]? = some p.1)) &&
    (scope.names.all fun y => match y.2 with
      | .free => (match sc.names.lookup y.1 with | some .cell => true | some .free => true | _ => false)
      | .local => decide (y.1 ∈ own.map (·.1)) || decide (y.1 ∉ N)
      | .cell => decide (y.1 ∈ own.map (·.1)) || decide (y.1 ∉ N)
      | _ => true)
theorem blkOk_by {N : List Str} {sc scope : Scope} {own : List (Str × Nat)} (h : blkC N sc scope own = true) : BlkOk N sc scope own := by
  unfold blkC at h
  simp only [Bool.and_eq_true, List.all_eq_true, decide_eq_true_eq] at h
  obtain ⟨⟨⟨h1, h2⟩, h3⟩, h4⟩ := h
  refine ⟨?_, h2, h3, fun y hy e => ?_, fun y hy e => ?_⟩
  · split at h1
    · assumption
    · cases h1
  · have q := h4 y hy
    simp only [e] at q
    split at q <;> first | exact .inl (by assumption) | exact .inr (by assumption) | cases q
  · have q := h4 y hy
    rcases e with e | e <;> (simp only [e, Bool.or_eq_true, decide_eq_true_eq] at q; exact q)
end L2
namespace L2
open PySem PySem.Spec PyProof.Rows
section
variable {prog : Program} {w : World} {A : Around} {R : Result → Shared → Prop} {s : Shared} {elt t0 i0 t1 i1 : Expr} {ifs0 ifs1 : List Expr} {scope : Scope} {pos : Pos} {it acc : Value} {env : Env}
end
theorem wipe_out {σ : St} {i : Nat} : ∀ {vs : List Nat}, i ∉ vs → (wipe σ vs)[i]? = σ[i]?
  | [], _ => rfl
  | v :: vs, h => by
    have h1 : v ≠ i := fun e => h (by rw [e]; exact List.mem_cons_self)
    have h2 : i ∉ vs := fun m => h (List.mem_cons_of_mem _ m)
    unfold wipe
    rw [List.getElem?_set_ne h1]
    exact wipe_out h2
section
variable {X : Cx}
end
end L2
namespace L2
open PySem PySem.Spec PyProof.Rows
section
variable {κ : Type} [DecidableEq κ]
def valV (kvs : List (κ × V)) (k : κ) : Option V := (kvs.find? fun kv => decide (kv.1 = k)).map (·.2)
/-- in its place, or at the end -/
def putK (kvs : List (κ × V)) (k : κ) (v : V) : List (κ × V) :=
  if (kvs.any fun kv => decide (kv.1 = k)) = true then kvs.map (fun kv => if kv.1 = k then (kv.1, v) else kv) else kvs ++ [(k, v)]
def dropK (kvs : List (κ × V)) (k : κ) : List (κ × V) := kvs.filter fun kv => decide (kv.1 ≠ k)
theorem valV_pos {p : κ × V} {r : List (κ × V)} {k : κ} (e : p.1 = k) : valV (p :: r) k = some p.2 := by simp [valV, List.find?_cons, e]
theorem valV_neg {p : κ × V} {r : List (κ × V)} {k : κ} (e : ¬ p.1 = k) : valV (p :: r) k = valV r k := by simp [valV, List.find?_cons, e]
theorem valV_any (k : κ) : ∀ kvs : List (κ × V), (kvs.any fun kv => decide (kv.1 = k)) = (valV kvs k).isSome
  | [] => rfl
  | p :: r => by
    rw [List.any_cons]
    by_cases e : p.1 = k
    · simp only [valV_pos e, decide_eq_true e, Bool.true_or, Option.isSome_some]
    · rw [valV_neg e, decide_eq_false e, Bool.false_or]; exact valV_any k r
theorem length_putK (kvs : List (κ × V)) (k : κ) (v : V) : (putK kvs k v).length ≤ kvs.length + 1 := by
  unfold putK
  split
  · rw [List.length_map]; omega
  · rw [List.length_append, List.length_cons, List.length_nil]; omega
theorem RelO.isSome_eq {o : Option V} {u : Option Value} (r : RelO o u) : o.isSome = u.isSome := by
  cases o with
  | none => cases u with
    | none => rfl
    | some _ => exact (show False from r).elim
  | some _ => cases u with
    | none => exact (show False from r).elim
    | some _ => rfl
theorem RelO.getD {o : Option V} {u : Option Value} {d : V} {d' : Value} (r : RelO o u) (rd : RelV d d') : RelV (o.getD d) (u.getD d') := by
  cases o with
  | none => cases u with
    | none => exact rd
    | some _ => exact (show False from r).elim
  | some _ => cases u with
    | none => exact (show False from r).elim
    | some _ => exact r
/-- raw tables of the same keys -/
theorem KV.val {kvs : List (κ × V)} {vs : List (κ × Value)} (r : KV kvs vs) (k : κ) : RelO (valV kvs k) (valueAt vs k) := by
  unfold KV at r
  induction r with
  | nil => exact True.intro
  | @cons p q ps qs h t ih =>
    obtain ⟨h1, h2⟩ := h
    by_cases e : p.1 = k
    · have e' : q.1 = k := h1.symm.trans e
      have b : valueAt (q :: qs) k = some q.2 := by simp [valueAt, List.find?_cons, e']
      rw [valV_pos e, b]; exact h2
    · have e' : ¬ q.1 = k := fun z => e (h1.trans z)
      have b : valueAt (q :: qs) k = valueAt qs k := by simp [valueAt, List.find?_cons, e']
      rw [valV_neg e, b]; exact ih
theorem KV.any {kvs : List (κ × V)} {vs : List (κ × Value)} (r : KV kvs vs) (k : κ) : (kvs.any fun kv => decide (kv.1 = k)) = vs.any fun kv => decide (kv.1 = k) := by
  unfold KV at r
  induction r with
  | nil => rfl
  | cons h t ih => rw [List.any_cons, List.any_cons, ih, h.1]
theorem KV.repl {kvs : List (κ × V)} {vs : List (κ × Value)} (r : KV kvs vs) (k : κ) {y : V} {u : Value} (ry : RelV y u) :
    KV (kvs.map fun kv => if kv.1 = k then (kv.1, y) else kv) (vs.map fun kv => if kv.1 = k then (kv.1, u) else kv) := by
  unfold KV at r ⊢
  induction r with
  | nil => exact .nil
  | @cons p q ps qs h t ih =>
    rw [List.map_cons, List.map_cons]
    refine .cons ?_ ih
    obtain ⟨h1, h2⟩ := h
    by_cases e : p.1 = k
    · rw [if_pos e, if_pos (h1.symm.trans e)]; exact ⟨h1, ry⟩
    · rw [if_neg e, if_neg (fun z => e (h1.trans z))]; exact ⟨h1, h2⟩
theorem KV.put {kvs : List (κ × V)} {vs : List (κ × Value)} (r : KV kvs vs) (k : κ) {y : V} {u : Value} (ry : RelV y u) : KV (putK kvs k y) (stored vs k u) := by
  unfold putK stored
  rw [r.any k]
  by_cases e : (vs.any fun kv => decide (kv.1 = k)) = true
  · rw [if_pos e, if_pos e]; exact r.repl k ry
  · rw [if_neg e, if_neg e]; exact Paired.snoc r ⟨rfl, ry⟩
theorem KV.drop {kvs : List (κ × V)} {vs : List (κ × Value)} (r : KV kvs vs) (k : κ) : KV (dropK kvs k) (without vs k) := by
  unfold KV at r ⊢
  unfold dropK without
  induction r with
  | nil => exact .nil
  | @cons p q ps qs h t ih =>
    obtain ⟨h1, h2⟩ := h
    rw [List.filter_cons, List.filter_cons]
    by_cases e : p.1 = k
    · have a : ¬ decide (p.1 ≠ k) = true := by simp [e]
      have b : ¬ decide (q.1 ≠ k) = true := by simp [h1.symm.trans e]
      rw [if_neg a, if_neg b]; exact ih
    · have e' : ¬ q.1 = k := fun z => e (h1.trans z)
      have a : decide (p.1 ≠ k) = true := by simp [e]
      have b : decide (q.1 ≠ k) = true := by simp [e']
      rw [if_pos a, if_pos b]; exact .cons ⟨h1, h2⟩ ih
theorem KV.keys {kvs : List (κ × V)} {vs : List (κ × Value)} (r : KV kvs vs) : kvs.map (·.1) = vs.map (·.1) := by
  unfold KV at r
  induction r with
  | nil => rfl
  | cons h t ih => rw [List.map_cons, List.map_cons, ih, h.1]
theorem KV.length {kvs : List (κ × V)} {vs : List (κ × Value)} (r : KV kvs vs) : kvs.length = vs.length := Paired.length r
end
theorem kV_is {P : Program} {w : World} {k : Key} {u : Value} (r : RelV (kV k) u) : (mixKind P w).is k u = true := by
  cases k with
  | inl i => obtain ⟨t, e⟩ := (show ∃ t, u = Value.int i t from r); subst e; exact mixKind_int P w i t
  | inr x => obtain ⟨t, e⟩ := (show ∃ t, u = Value.str x t from r); subst e; exact mixKind_str P w x t
theorem items_are {P : Program} {w : World} : ∀ {ks : List Key} {us : List Value}, Vals (ks.map kV) us → ItemsAre (mixKind P w) ks us
  | [], _, r => by rw [List.map_nil] at r; cases r; exact .nil
  | k :: ks, _, r => by
    rw [List.map_cons] at r
    cases r with
    | cons h t => exact .cons (kV_is h) (items_are t)
/-- raw entries of a dict with tuple keys -/
abbrev KT (H : Hp) : List (List Key × V) → List (List Key × Addr × Value) → Prop := Paired fun p q => p.1 = q.1 ∧ H q.2.1 = some (.tup (p.1.map kV)) ∧ RelV p.2 q.2.2
theorem KT.val {H : Hp} {kvs : List (List Key × V)} {xs : List (List Key × Addr × Value)} (r : KT H kvs xs) (k : List Key) : RelO (valV kvs k) ((atKey xs k).map (·.2)) := by
  induction r with
  | nil => exact True.intro
  | @cons p q ps qs h t ih =>
    obtain ⟨h1, _, h2⟩ := h
    by_cases e : p.1 = k
    · have e' : q.1 = k := h1.symm.trans e
      have b : atKey (q :: qs) k = some q.2 := by simp [atKey, List.find?_cons, e']
      rw [valV_pos e, b]; exact h2
    · have e' : ¬ q.1 = k := fun z => e (h1.trans z)
      have b : atKey (q :: qs) k = atKey qs k := by simp [atKey, List.find?_cons, e']
      rw [valV_neg e, b]; exact ih
theorem KT.repl {H : Hp} {kvs : List (List Key × V)} {xs : List (List Key × Addr × Value)} (r : KT H kvs xs) (k : List Key) {y : V} {u : Value} (ry : RelV y u) :
    KT H (kvs.map fun kv => if kv.1 = k then (kv.1, y) else kv) (xs.map (putAt k u)) := by
  induction r with
  | nil => exact .nil
  | @cons p q ps qs h t ih =>
    rw [List.map_cons, List.map_cons]
    refine .cons ?_ ih
    obtain ⟨h1, h2, h3⟩ := h
    unfold putAt
    by_cases e : p.1 = k
    · rw [if_pos e, if_pos (h1.symm.trans e)]; exact ⟨h1, h2, ry⟩
    · rw [if_neg e, if_neg (fun z => e (h1.trans z))]; exact ⟨h1, h2, h3⟩
theorem KT.put {H : Hp} {kvs : List (List Key × V)} {xs : List (List Key × Addr × Value)} (r : KT H kvs xs) (k : List Key) {b : Addr} {y : V} {u : Value} (hb : H b = some (.tup (k.map kV))) (ry : RelV y u) :
    KT H (putK kvs k y) (storedH xs k b u) := by
  have e : (kvs.any fun kv => decide (kv.1 = k)) = (atKey xs k).isSome := by
    rw [valV_any, (r.val k).isSome_eq, Option.isSome_map]
  unfold putK storedH
  rw [e]
  by_cases q : (atKey xs k).isSome = true
  · rw [if_pos q, if_pos q]; exact r.repl k ry
  · rw [if_neg q, if_neg q]; exact Paired.snoc r ⟨rfl, hb, ry⟩
theorem KT.keeps {H H' : Hp} {kvs : List (List Key × V)} {xs : List (List Key × Addr × Value)} (r : KT H kvs xs) (ht : ∀ b ys, H b = some (.tup ys) → H' b = some (.tup ys)) : KT H' kvs xs :=
  Paired.mapP r fun _ _ z => ⟨z.1, ht _ _ z.2.1, z.2.2⟩
section
variable {P : Program} {w : World} {H : Hp} {h : Heap} {a : Addr}
theorem rd_of {u : HO} (ok : HOk P w H h) (e : Rd H a u) : ObjOk P w H h a u := e.ok ok
theorem dk_rd {kvs : List (Key × V)} (ok : HOk P w H h) (e : Rd H a (.dK kvs)) : kvs.length ≤ sizeLine ∧ (a == sysModules) = false ∧ ∃ vs, KV kvs vs ∧ h.DictOf (mixKind P w) a vs :=
  show ObjOk P w H h a (.dK kvs) from rd_of ok e
theorem dk_of {kvs : List (Key × V)} (ok : HOk P w H h) (e : H a = some (.dK kvs)) : kvs.length ≤ sizeLine ∧ (a == sysModules) = false ∧ ∃ vs, KV kvs vs ∧ h.DictOf (mixKind P w) a vs := dk_rd ok (.inl e)
/-- a tracked tuple of ints and texts is a key -/
theorem key_of {ks : List Key} (ok : HOk P w H h) (e : H a = some (.tup (ks.map kV))) : (tupleKind (mixKind P w)).is h ks a := by
  obtain ⟨_, its, r, o, h1, ⟨h2, n, h3⟩, _⟩ := (show ObjOk P w H h a (.tup (ks.map kV)) from ok a _ e)
  exact ⟨o, its.toArray, n, h1, h2, h3, by simpa using items_are r⟩
theorem dt_rd {kvs : List (List Key × V)} (ok : HOk P w H h) (e : Rd H a (.dT kvs)) : kvs.length ≤ sizeLine ∧ (a == sysModules) = false ∧
    ∃ xs, KT H kvs xs ∧ h.DictOfH (tupleKind (mixKind P w)) a xs := by
  obtain ⟨z, y, xs, r, o, es, ep, h1, h2, h3, h4, h5⟩ := (show ObjOk P w H h a (.dT kvs) from rd_of ok e)
  refine ⟨z, y, xs, r, o, es, ep, h1, h2, h3, h4, fun x hx => ?_, h5⟩
  have all : ∀ {l : List (List Key × V)} {m : List (List Key × Addr × Value)}, KT H l m → ∀ x ∈ m, (tupleKind (mixKind P w)).is h x.1 x.2.1 := by
    intro l m q
    induction q with
    | nil => intro x hx; exact nomatch hx
    | @cons p q ps qs hq t ih =>
      intro x hx
      rcases List.mem_cons.mp hx with e | hx
      · subst e
        exact key_of ok (by rw [← hq.1]; exact hq.2.1)
      · exact ih x hx
  exact all r x hx
theorem dt_of {kvs : List (List Key × V)} (ok : HOk P w H h) (e : H a = some (.dT kvs)) : kvs.length ≤ sizeLine ∧ (a == sysModules) = false ∧
    ∃ xs, KT H kvs xs ∧ h.DictOfH (tupleKind (mixKind P w)) a xs := dt_rd ok (.inl e)
end
/-- what the dict at a holds at the key y -/
def DGet (H : Hp) (a : Addr) (y : V) (r : Option V) : Prop :=
  (∃ kvs k, Rd H a (.dK kvs) ∧ y = kV k ∧ r = valV kvs k) ∨ ∃ kvs k b, Rd H a (.dT kvs) ∧ y = .ref b ∧ H b = some (.tup (k.map kV)) ∧ r = valV kvs k
/-- the heap behind a[y] = v -/
def DPut (H : Hp) (a : Addr) (y v : V) (H' : Hp) : Prop :=
  (∃ kvs k, H a = some (.dK kvs) ∧ y = kV k ∧ kvs.length < sizeLine ∧ H' = upd H a (.dK (putK kvs k v))) ∨
  ∃ kvs k b, H a = some (.dT kvs) ∧ y = .ref b ∧ H b = some (.tup (k.map kV)) ∧ kvs.length < sizeLine ∧ H' = upd H a (.dT (putK kvs k v))
theorem DGet.k {H : Hp} {a : Addr} {kvs : List (Key × V)} {k : Key} (e : H a = some (.dK kvs)) : DGet H a (kV k) (valV kvs k) := .inl ⟨kvs, k, .inl e, rfl, rfl⟩
theorem DGet.t {H : Hp} {a b : Addr} {kvs : List (List Key × V)} {k : List Key} (e : H a = some (.dT kvs)) (eb : H b = some (.tup (k.map kV))) : DGet H a (.ref b) (valV kvs k) := .inr ⟨kvs, k, b, .inl e, rfl, eb, rfl⟩
theorem DPut.k {H : Hp} {a : Addr} {kvs : List (Key × V)} {k : Key} {v : V} (e : H a = some (.dK kvs)) (hl : kvs.length < sizeLine) : DPut H a (kV k) v (upd H a (.dK (putK kvs k v))) := .inl ⟨kvs, k, e, rfl, hl, rfl⟩
theorem DPut.t {H : Hp} {a b : Addr} {kvs : List (List Key × V)} {k : List Key} {v : V} (e : H a = some (.dT kvs)) (eb : H b = some (.tup (k.map kV))) (hl : kvs.length < sizeLine) :
    DPut H a (.ref b) v (upd H a (.dT (putK kvs k v))) := .inr ⟨kvs, k, b, e, rfl, eb, hl, rfl⟩
section
variable {X : Cx} {pins : List (Addr × Obj)} {σ : St} {H : Hp} {s : Shared} {a : Addr} {y v : V} {u r : Value} {o : Option V} {A : Around} {E : Value → Shared → Prop}
theorem Inv.big (I : Inv X pins σ H s) : sysModules < s.heap.objs.size := by
  have h : mainGlobals < s.heap.objs.size := (I.mod.glob.keeps I.bk).lt
  exact Nat.lt_trans (by decide) h
/-- d[y], there -/
theorem d_getItem {Q : Value → Shared → Prop} (hu : A.units + 1 < cLine) (I : Inv X pins σ H s) (g : DGet H a y (some v)) (ry : RelV y u) (h : ∀ w' s', Inv X pins σ H s' → RelV v w' → Q w' s') :
    wpAny (model X.prog X.w) A (getItem (.ref a) u) Q E s := by
  rcases g with ⟨kvs, k, e, ey, l⟩ | ⟨kvs, k, b, e, ey, eb, l⟩
  · subst ey
    obtain ⟨z, hd, vs, rel, dd⟩ := dk_rd I.hok e
    obtain ⟨w', hw, rw'⟩ := RelO.some_of (v := v) (o := valueAt vs k) (by rw [l]; exact rel.val k)
    exact wpAny_getItem_of (kV_is ry) dd.mapOf hw (h w' _ (I.tok _) rw')
  · subst ey
    cases (show u = Value.ref b from ry)
    obtain ⟨z, hd, xs, rel, dd⟩ := dt_rd I.hok e
    obtain ⟨w', hw, rw'⟩ := RelO.some_of (v := v) (o := (atKey xs k).map (·.2)) (by rw [l]; exact rel.val k)
    obtain ⟨p, hp, hp2⟩ := Option.map_eq_some_iff.mp hw
    refine wpAny_getItem_heap (tupleKind_room_in1 hu) (key_of I.hok eb) dd hp ?_
    rw [hp2]
    exact h w' _ (I.tok _) rw'
/-- y in d -/
theorem d_in {Q : Value → Shared → Prop} (hu : A.units + 1 < cLine) (I : Inv X pins σ H s) (g : DGet H a y o) (ry : RelV y u) (h : ∀ s', Inv X pins σ H s' → Q (.bool o.isSome) s') :
    wpAny (model X.prog X.w) A (compareOp .In u (.ref a)) Q E s := by
  rcases g with ⟨kvs, k, e, ey, l⟩ | ⟨kvs, k, b, e, ey, eb, l⟩
  · subst ey
    obtain ⟨z, hd, vs, rel, dd⟩ := dk_rd I.hok e
    refine wpAny_in_of (kV_is ry) hd dd.mapOf ?_
    rw [← (rel.val k).isSome_eq, ← l]
    exact h _ (I.tok _)
  · subst ey
    cases (show u = Value.ref b from ry)
    obtain ⟨z, hd, xs, rel, dd⟩ := dt_rd I.hok e
    refine wpAny_in_heap (tupleKind_room_in1 hu) (key_of I.hok eb) hd dd ?_
    have q := (rel.val k).isSome_eq
    rw [Option.isSome_map] at q
    rw [← q, ← l]
    exact h _ (I.tok _)
theorem d_notIn {Q : Value → Shared → Prop} (hu : A.units + 1 < cLine) (I : Inv X pins σ H s) (g : DGet H a y o) (ry : RelV y u) (h : ∀ s', Inv X pins σ H s' → Q (.bool (!o.isSome)) s') :
    wpAny (model X.prog X.w) A (compareOp .NotIn u (.ref a)) Q E s := by
  rcases g with ⟨kvs, k, e, ey, l⟩ | ⟨kvs, k, b, e, ey, eb, l⟩
  · subst ey
    obtain ⟨z, hd, vs, rel, dd⟩ := dk_rd I.hok e
    refine wpAny_notIn_of (kV_is ry) hd dd.mapOf ?_
    rw [← (rel.val k).isSome_eq, ← l]
    exact h _ (I.tok _)
  · subst ey
    cases (show u = Value.ref b from ry)
    obtain ⟨z, hd, xs, rel, dd⟩ := dt_rd I.hok e
    refine wpAny_notIn_heap (tupleKind_room_in1 hu) (key_of I.hok eb) hd dd ?_
    have q := (rel.val k).isSome_eq
    rw [Option.isSome_map] at q
    rw [← q, ← l]
    exact h _ (I.tok _)
/-- a dict's object is replaced -/
theorem d_write {h' : Heap} {t' : Nat} {ob : HO} (I : Inv X pins σ H s) (mu : Mut (H a)) (hs : Heap.SameBut a s.heap h') (he : ∃ q, h'.get? a = some q) (new : ObjOk X.prog X.w (upd H a ob) h' a ob) :
    Inv X pins σ (upd H a ob) { s with heap := h', toks := t' } :=
  I.write (x := a) (e := a) mu (.inl rfl) (fun b q hb z => (hs.2 b hb).trans z) he new
theorem dk_new {P : Program} {w : World} {H' : Hp} {h' : Heap} {kvs : List (Key × V)} {vs : List (Key × Value)} (z : kvs.length ≤ sizeLine) (hd : (a == sysModules) = false) (rel : KV kvs vs) (dd : h'.DictOf (mixKind P w) a vs) :
    ObjOk P w H' h' a (.dK kvs) := ⟨z, hd, vs, rel, dd⟩
/-- d[y] = v -/
theorem d_setItem {H' : Hp} {Q : Unit → Shared → Prop} (hu : A.units + 1 < cLine) (I : Inv X pins σ H s) (g : DPut H a y v H') (ry : RelV y u) (rv : RelV v r) (h : ∀ s', Inv X pins σ H' s' → Q () s') :
    wpAny (model X.prog X.w) A (setItem (.ref a) u r) Q E s := by
  rcases g with ⟨kvs, k, e, ey, l, eH⟩ | ⟨kvs, k, b, e, ey, eb, l, eH⟩
  · subst ey eH
    obtain ⟨z, hd, vs, rel, dd⟩ := dk_of I.hok e
    have hz : vs.length ≤ sizeLine := by rw [← rel.length]; exact z
    have hl : (putK kvs k v).length ≤ sizeLine := by have := length_putK kvs k v; omega
    refine wpAny_setItem_pairs (hsz := hz) (kV_is ry) dd fun h' dd' hs => h _ ?_
    have he : ∃ q, h'.get? a = some q := let ⟨q, _, _, hq, _⟩ := dd'; ⟨q, hq⟩
    exact d_write I (by rw [e]; exact True.intro) hs he (dk_new hl hd (rel.put k rv) dd')
  · subst ey eH
    cases (show u = Value.ref b from ry)
    obtain ⟨z, hd, xs, rel, dd⟩ := dt_of I.hok e
    have hz : xs.length ≤ sizeLine := by rw [← Paired.length rel]; exact z
    have hl : (putK kvs k v).length ≤ sizeLine := by have := length_putK kvs k v; omega
    refine wpAny_setItem_heap (hsz := hz) (tupleKind_room_in1 hu) (key_of I.hok eb) dd fun h' dd' hs => h _ ?_
    obtain ⟨q, es, ep, hq, h2, h3, h4, _, h5⟩ := dd'
    refine d_write I (by rw [e]; exact True.intro) hs ⟨q, hq⟩ ⟨hl, hd, _, (rel.put k eb rv).keeps fun c ys ec => ?_, q, es, ep, hq, h2, h3, h4, h5⟩
    rw [upd_ne (ne_of ec e (fun z => nomatch z))]
    exact ec
end
section
variable {X : Cx} {pins : List (Addr × Obj)} {σ : St} {H : Hp} {s : Shared} {a : Addr} {kvs : List (Key × V)} {k : Key} {u : Value} {A : Around} {E : Value → Shared → Prop}
/-- len(d) -/
theorem d_len {Q : Value → Shared → Prop} (I : Inv X pins σ H s) (e : Rd H a (.dK kvs)) (h : ∀ t s', Inv X pins σ H s' → Q (.int kvs.length t) s') : wpAny (model X.prog X.w) A (call (.builtin "len") [.ref a]) Q E s := by
  obtain ⟨z, hd, vs, rel, dd⟩ := dk_rd I.hok e
  refine call_len_dict hd dd (by rw [← rel.length]; rw [sizeLine_eq] at z; omega) ?_
  rw [← rel.length]
  exact h _ _ (I.tok _)
end
/-- the element of a subscription, not a slice -/
def NoSl (i : Expr) : Prop := ∀ ov iv, subscripted i false ov iv = operate [ov, iv] (getItem ov iv)
theorem subD_of {prog : Program} {w : World} {A : Around} {E : Value → Shared → Prop} {s : Shared} {env : Env} {value slice : Expr} {pos : Pos} {T id : String} {Q : Value → Shared → Prop}
    (hl : typeLookup (.type T) "__getitem__" = pure (some (.builtin id))) (hs : NoSl slice)
    (h : wpAny (model prog w) A (eval value env) (fun o s₁ => wpAny (model prog w) A (eval slice env) (fun i s₂ => s₂.TypeIs o T ∧ wpAny (model prog w) A (getItem o i) Q E s₂) E s₁) E s) :
    wpAny (model prog w) A (eval (.Subscript value slice pos) env) Q E s := by
  refine Subscript_ (wpAny_mono h (fun o s₁ h₁ => wpAny_mono h₁ (fun i s₂ h₂ => ?_) fun _ _ x => x) fun _ _ x => x)
  obtain ⟨hT, h₂⟩ := h₂
  unfold subscriptTail
  refine wpAny_bind ?_
  rw [getitemInPython_of_ne hT.not_modules]
  refine wpAny_bind (wpAny_specialOf hT hl ?_)
  have fin : wpAny (model prog w) A (subscripted slice false o i) (fun r s₃ => wpAny (model prog w) A (letTemporaryGo value o r >>= fun _ => pure r) Q E s₃) E s₂ := by
    rw [hs o i]
    exact wpAny_operating (wpAny_mono h₂ (fun r s₃ h₃ => wpAny_bind (wpAny_letTemporaryGo (wpAny_pure h₃))) fun _ _ x => x)
  first
    | exact wpAny_pure (wpAny_bind fin)
    | exact wpAny_bind (wpAny_pure (wpAny_bind fin))
    | exact wpAny_bind fin
theorem dict_typeIs {X : Cx} {pins : List (Addr × Obj)} {σ : St} {H : Hp} {s : Shared} {a : Addr} {y : V} {o : Option V} (I : Inv X pins σ H s) (g : DGet H a y o) : s.TypeIs (.ref a) "dict" := by
  rcases g with ⟨kvs, k, e, _, _⟩ | ⟨kvs, k, b, e, _, _, _⟩
  · obtain ⟨_, _, vs, _, dd⟩ := dk_rd I.hok e
    exact dd.typeIs
  · obtain ⟨_, _, xs, _, dd⟩ := dt_rd I.hok e
    exact dd.typeIs
/-- d[y] -/
def tDGet (td ty : TE) : TE := fun σ H Q => td σ H fun x H1 => ty σ H1 fun y H2 => ∃ a v, x = .ref a ∧ DGet H2 a y (some v) ∧ Q v H2
/-- d[y] = v -/
def sDPut (td ty tv : TE) : TS := fun D σ H => tv σ H fun v H1 => td σ H1 fun x H2 => ty σ H2 fun y H3 => ∃ a H4, x = .ref a ∧ DPut H3 a y v H4 ∧ D.nx σ H4
section
variable {X : Cx} {o i e value : Expr} {pos pos' tpos : Pos} {td ty tv : TE}
theorem pe_dget (hu : X.A.units + 1 < cLine) (ho : PE X o td) (hi : PE X i ty) (hs : NoSl i) : PE X (.Subscript o i pos) (tDGet td ty) := by
  intro pins s σ H Q I h
  refine subD_of PySem.F.slot_dict_getitem.lookup hs (thn (ho pins s σ H _ I h) fun u s1 ⟨x, H1, I1, rx, q1⟩ => thn (hi pins s1 σ H1 _ I1 q1) fun iv s2 ⟨y, H2, I2, ry, a, v, ex, g, q2⟩ => ?_)
  subst ex
  obtain rfl : u = Value.ref a := rx
  exact ⟨dict_typeIs I2 g, d_getItem hu I2 g ry fun w' s3 I3 rw' => ⟨v, H2, I3, rw', q2⟩⟩
theorem ps_dput (hu : X.A.units + 1 < cLine) (ho : PE X o td) (hi : PE X i ty) (hv : PE X value tv) (hs : swapsWith value (some (.Subscript o i pos')) pos.line X.env = pure false) :
    PS X (.Assign [.Subscript o i pos'] value pos) (sDPut td ty tv) := by
  intro pins s σ H D I h
  refine wpAny_Assign_Subscript (thn (hv pins s σ H _ I h) fun r s1 ⟨v, H1, I1, rv, q1⟩ => thn (ho pins s1 σ H1 _ I1 q1) fun u s2 ⟨x, H2, I2, rx, q2⟩ => thn (hi pins s2 σ H2 _ I2 q2) fun iv s3 ⟨y, H3, I3, ry, a, H4, ex, g, q3⟩ => ?_) hs
  subst ex
  obtain rfl : u = Value.ref a := rx
  exact d_setItem hu I3 g ry rv fun s4 I4 => ⟨σ, H4, I4, q3⟩
end
theorem dk_empty {P : Program} {w : World} {H : Hp} (h : Heap) (hb : sysModules < h.objs.size) : ObjOk P w H (h.push { cls := .type "dict", data := .dict #[] }) h.objs.size (.dK []) :=
  ⟨Nat.zero_le _, beq_eq_false_iff_ne.mpr (Ne.symm (Nat.ne_of_lt hb)), [], .nil, Heap.DictOf.new h⟩
section
variable {X : Cx} {pos : Pos}
end
/-- the pairs of a display, from the left -/
def tPairs : List (TE × TE) → St → Hp → (List (V × V) → Hp → Prop) → Prop
  | [], _, H, Q => Q [] H
  | (tk, tv) :: r, σ, H, Q => tk σ H fun x H1 => tv σ H1 fun y H2 => tPairs r σ H2 fun ps H3 => Q ((x, y) :: ps) H3
abbrev VV : List (V × V) → List (Value × Value) → Prop := Paired fun p q => RelV p.1 q.1 ∧ RelV p.2 q.2
def PPs (X : Cx) (pos : Pos) (keys : List (Option Expr)) (values : List Expr) (trs : List (TE × TE)) : Prop :=
  ∀ (pins : List (Addr × Obj)) (s : Shared) (σ : St) (H : Hp) (Q : List (V × V) → Hp → Prop), Inv X pins σ H s → tPairs trs σ H Q →
    wpAny (model X.prog X.w) X.A (evalPairs (pairTrees keys values X.env pos)) (fun vs s' => ∃ ps H', Inv X pins σ H' s' ∧ VV ps vs ∧ Q ps H') X.xe s
theorem pps_nil {X : Cx} {pos : Pos} : PPs X pos [] [] [] := fun pins s σ H Q I h => pairTrees_nil_walk ⟨[], H, I, .nil, h⟩
theorem pps_cons {X : Cx} {pos : Pos} {k v : Expr} {ks : List (Option Expr)} {vs : List Expr} {tk tv : TE} {trs : List (TE × TE)} (hk : PE X k tk) (hv : PE X v tv) (hr : PPs X pos ks vs trs) :
    PPs X pos (some k :: ks) (v :: vs) ((tk, tv) :: trs) := fun pins s σ H Q I h =>
  pairTrees_cons_walk (thn (hk pins s σ H _ I h) fun u s1 ⟨x, H1, I1, rx, q1⟩ => thn (hv pins s1 σ H1 _ I1 q1) fun w2 s2 ⟨y, H2, I2, ry, q2⟩ =>
    thn (hr pins s2 σ H2 _ I2 q2) fun ws s3 ⟨ps, H3, I3, rel, q3⟩ => ⟨(x, y) :: ps, H3, I3, .cons ⟨rx, ry⟩ rel, q3⟩)
def mergeK (kvs more : List (Key × V)) : List (Key × V) := more.foldl (fun acc kv => putK acc kv.1 kv.2) kvs
theorem KV.merge : ∀ {more : List (Key × V)} {rs : List (Key × Value)} {kvs : List (Key × V)} {vs : List (Key × Value)}, KV more rs → KV kvs vs → KV (mergeK kvs more) (merged vs rs) := by
  intro more rs kvs vs r
  unfold KV at r
  induction r generalizing kvs vs with
  | nil => intro q; exact q
  | @cons p q ps qs h t ih =>
    intro r0
    have e : KV (putK kvs p.1 p.2) (stored vs q.1 q.2) := by
      have := r0.put p.1 h.2
      rw [← h.1]; exact this
    exact ih e
theorem length_mergeK : ∀ (more kvs : List (Key × V)), (mergeK kvs more).length ≤ kvs.length + more.length
  | [], kvs => by show kvs.length ≤ kvs.length + 0; omega
  | p :: r, kvs => by
    have h1 := length_mergeK r (putK kvs p.1 p.2)
    have h2 := length_putK kvs p.1 p.2
    show (mergeK (putK kvs p.1 p.2) r).length ≤ _
    rw [List.length_cons]; omega
theorem carries_of {P : Program} {w : World} : ∀ {kvs : List (Key × V)} {ws : List (Value × Value)}, VV (kvs.map fun kv => (kV kv.1, kv.2)) ws → ∃ rs, Carries (mixKind P w) ws rs ∧ KV kvs rs
  | [], _, r => by rw [List.map_nil] at r; cases r; exact ⟨[], True.intro, .nil⟩
  | p :: kvs, _, r => by
    rw [List.map_cons] at r
    cases r with
    | @cons a b as bs h t =>
      obtain ⟨rs, c, q⟩ := carries_of (P := P) (w := w) t
      obtain ⟨b1, b2⟩ := b
      exact ⟨(p.1, b2) :: rs, ⟨kV_is h.1, rfl, c⟩, .cons ⟨rfl, h.2⟩ q⟩
/-- {k: v, ..} with keys ints and texts; the new dict stands empty while the pairs are made -/
def tDisp (trs : List (TE × TE)) : TE := fun σ H Q => ∀ p, H p = none → tPairs trs σ (upd H p (.dK [])) fun ps H2 => H2 p = some (.dK []) ∧ ∃ kvs : List (Key × V), ps = kvs.map (fun kv => (kV kv.1, kv.2)) ∧ kvs.length ≤ 15 ∧ Q (.ref p) (upd H2 p (.dK (mergeK [] kvs)))
theorem pe_disp {X : Cx} {pos : Pos} {keys : List (Option Expr)} {values : List Expr} {trs : List (TE × TE)} (h : PPs X pos keys values trs) (hall : keys.all (·.isSome) = true) (hl : keys.length = values.length) (h0 : keys ≠ [])
    (h15 : keys.length ≤ 15) : PE X (.Dict keys values pos) (tDisp trs) := by
  intro pins s σ H Q I q
  have hn := I.hok.fresh (Nat.le_refl s.heap.objs.size)
  have I1 := I.laid (a := s.heap.objs.size) (o := .dK []) (h' := s.heap.push { cls := .type "dict", data := .dict #[] }) (t' := s.toks) (fun _ _ q => Heap.get?_push_of_some _ q) (Nat.le_refl _) (dk_empty s.heap I.big)
  refine wpAny_Dict_walk (knd := mixKind X.prog X.w) hall hl h0 h15 (thn (h pins _ σ _ _ I1 (q _ hn)) fun ws s2 ⟨ps, H2, I2, rel, e, kvs, ep, lk, q2⟩ => ?_)
  subst ep
  obtain ⟨rs, c, rk⟩ := carries_of (P := X.prog) (w := X.w) rel
  obtain ⟨z, hd, vs0, r0, dd⟩ := dk_of I2.hok e
  cases r0
  refine ⟨rs, c, dd, fun h' dd' hs => ⟨.ref s.heap.objs.size, _, ?_, rfl, q2⟩⟩
  have hz : (mergeK [] kvs).length ≤ sizeLine := by
    have h1 := length_mergeK kvs []
    rw [List.length_nil] at h1
    rw [sizeLine_eq]; omega
  have he : ∃ q, h'.get? s.heap.objs.size = some q := let ⟨q, _, _, hq, _⟩ := dd'; ⟨q, hq⟩
  exact d_write I2 (by rw [e]; exact True.intro) hs he (dk_new hz hd (rk.merge .nil) dd')
/-- a method call o.m(e) of a built-in, with one argument: what must be seen of the text -/
structure M1 (X : Cx) (o : Expr) (m : Str) (apos : Pos) (e : Expr) (cpos : Pos) : Prop where
  base : attributeBase o m X.env (eval o X.env) = eval o X.env
  few : ((backTo cpos (starEach [e] X.env)).all (fun x => !x.1) && (backToKw cpos (keywordEach [] X.env)).all (fun x => x.1.isSome)
    && decide (([e] : List Expr).length + ([] : List Keyword).length + (if ([] : List Keyword).isEmpty then 0 else 1) < 30)) = true
  line : (apos.endLine == cpos.line) = true
  trees : backTo cpos (starEach [e] X.env) = [(false, eval e X.env)]
structure M2 (X : Cx) (o : Expr) (m : Str) (apos : Pos) (e f : Expr) (cpos : Pos) : Prop where
  base : attributeBase o m X.env (eval o X.env) = eval o X.env
  few : ((backTo cpos (starEach [e, f] X.env)).all (fun x => !x.1) && (backToKw cpos (keywordEach [] X.env)).all (fun x => x.1.isSome)
    && decide (([e, f] : List Expr).length + ([] : List Keyword).length + (if ([] : List Keyword).isEmpty then 0 else 1) < 30)) = true
  line : (apos.endLine == cpos.line) = true
  trees : backTo cpos (starEach [e, f] X.env) = [(false, eval e X.env), (false, eval f X.env)]
section
variable {X : Cx} {pins : List (Addr × Obj)} {σ : St} {H : Hp} {s : Shared} {a : Addr} {y d : V} {u r : Value} {o : Option V} {A : Around} {E : Value → Shared → Prop}
end
section
variable {X : Cx} {o e f : Expr} {apos cpos : Pos} {td ty tx : TE}
end
section
variable {X : Cx} {pins : List (Addr × Obj)} {σ : St} {H : Hp} {s : Shared} {a : Addr} {kvs : List (Key × V)} {A : Around} {E : Value → Shared → Prop}
end
section
variable {X : Cx} {pins : List (Addr × Obj)} {σ : St} {H : Hp} {s : Shared} {a : Addr} {y : V} {u : Value} {A : Around} {E : Value → Shared → Prop}
end
end L2
namespace L2
open PySem PySem.Spec PyProof.Rows
section
variable {prog : Program} {w : World} {A : Around} {E : Value → Shared → Prop}
end
section
variable {X : Cx}
end
end L2
namespace L2
open PySem PySem.Spec PyProof.Rows
section
variable {X : Cx} {pins : List (Addr × Obj)} {σ : St} {H : Hp} {s : Shared} {h' : Heap}
/-- several records of ours have turned -/
theorem Inv.turnedL {t' : Nat} {ch : List Addr} (I : Inv X pins σ H s) (k : ∀ b o, b ∉ ch → s.heap.get? b = some o → h'.get? b = some o) (hf : ∀ b ∈ ch, FpOk X pins H b) : Inv X pins σ H { s with heap := h', toks := t' } := by
  have nit : ∀ b u, H b = some u → b ∉ ch := fun b u e z => by
    have q := (hf b z).1
    rw [q] at e; cases e
  refine I.step (g' := s.gens) (d' := s.drawn) (ch := ch) (fun b hb => ⟨(hf b hb).2.2.2.1, (hf b hb).2.1, (hf b hb).2.2.2.2.1, (hf b hb).2.2.2.2.2⟩) (fun b o _ _ hc e _ => k b o hc e) (fun b o _ _ hc e _ => ⟨o.slots, k b o hc e⟩)
    (fun _ _ _ _ n => n) (fun b o hc e => ⟨o, k b o hc e⟩) (fun _ _ e => e) (fun _ _ _ e => e) (fun b ps e => ⟨#[], by rw [e]; simp⟩) (fun m hm => ?_) (fun b u e => ?_) I.bare
  · obtain ⟨o, es, ep, ho, r⟩ := hm
    exact ⟨o, es, ep, k _ o (fun z => (hf _ z).2.1 rfl) ho, r⟩
  · refine (I.hok b u e).stay (fun c v hc q => k c v ?_ q) (fun _ q => q) fun _ _ q => q
    rcases hc with z | z
    · rw [z]; exact nit b u e
    · exact nit c _ z
/-- .. and one new object is laid -/
theorem Inv.turnedNew {t' : Nat} {ch : List Addr} {T : Addr} {ob : HO} (I : Inv X pins σ H s) (k : ∀ b o, b ∉ ch → s.heap.get? b = some o → h'.get? b = some o) (hf : ∀ b ∈ ch, FpOk X pins H b) (hT : s.heap.objs.size ≤ T)
    (new : ObjOk X.prog X.w (upd H T ob) h' T ob) : Inv X pins σ (upd H T ob) { s with heap := h', toks := t' } := by
  have hn : H T = none := I.hok.fresh hT
  have nit : ∀ b u, H b = some u → b ∉ ch := fun b u e z => by
    have q := (hf b z).1
    rw [q] at e; cases e
  refine I.step (g' := s.gens) (d' := s.drawn) (ch := ch) (fun b hb => ⟨(hf b hb).2.2.2.1, (hf b hb).2.1, (hf b hb).2.2.2.2.1, (hf b hb).2.2.2.2.2⟩) (fun b o _ _ hc e _ => k b o hc e) (fun b o _ _ hc e _ => ⟨o.slots, k b o hc e⟩)
    (fun b o _ e n => ?_) (fun b o hc e => ⟨o, k b o hc e⟩) (fun b xs e => ?_) (fun b o u e => ?_) (fun b ps e => ⟨#[], ?_⟩) (fun m hm => ?_) (fun b u e => ?_) I.bare
  · rw [upd_ne (Nat.ne_of_lt (Nat.lt_of_lt_of_le (Heap.lt_size e) hT))]; exact n
  · rw [upd_ne (ne_of_none e hn)]; exact e
  · rw [upd_ne (ne_of_none e hn)]; exact e
  · rw [upd_ne (ne_of_none e hn), e]; simp
  · obtain ⟨o, es, ep, ho, r⟩ := hm
    exact ⟨o, es, ep, k _ o (fun z => (hf _ z).2.1 rfl) ho, r⟩
  · by_cases hb : b = T
    · subst hb
      rw [upd_same] at e
      cases e
      exact new
    · rw [upd_ne hb] at e
      refine (I.hok b u e).stay (fun c v hc q => k c v ?_ q) (fun c q => by rw [upd_ne (ne_of_none q hn)]; exact q) fun c xs q => by rw [upd_ne (ne_of_none q hn)]; exact q
      rcases hc with z | z
      · rw [z]; exact nit b u e
      · exact nit c _ z
end
section
variable {X : Cx}
end
/-- range(i, j, c): small bounds, n items -/
def RgC (i j c : Int) (n : Nat) : Prop := c ≠ 0 ∧ c.natAbs < 1073741824 ∧ Builtin.Range.small i j c = true ∧ Builtin.Range.rangeSize i j c = n
theorem RgC.neg {i j : Int} (ha : -(2 ^ 62) ≤ i) (ha' : i < 2 ^ 62) (hb : -(2 ^ 62) ≤ j) (hb' : j < 2 ^ 62) : RgC i j (-1) (i - j).toNat :=
  ⟨by decide, by decide, PySem.W.small_down ha ha' hb hb', PySem.W.rangeSize_downNat i j⟩
section
variable {X : Cx} {tg : Expr}
end
section
variable {X : Cx} {tg : Expr}
end
section
variable {prog : Program} {w : World} {A : Around} {E : Value → Shared → Prop} {s : Shared}
end
section
variable {X : Cx} {pins : List (Addr × Obj)} {σ : St} {H : Hp} {s : Shared} {d : Addr} {o : Obj}
end
section
variable {P : Program} {w : World} {K : PySem.W.Frag} {tg : Expr} {d : Addr} {o : Obj} {es : Array DictEntry} {ep : Nat}
end
section
variable {X : Cx} {tg e : Expr} {td : TE} {apos cpos : Pos}
end
theorem boot_zip5 : bootBuiltins "zip" = some (.type "zip") := by decide +kernel
end L2
section 
namespace Bits
open PySem PyProof.Rows
theorem nat_xor_add_and (m : Nat) : ∀ n : Nat, (m ^^^ n) + 2 * (m &&& n) = m + n := by
  induction m using Nat.strongRecOn with
  | _ m ih =>
    intro n
    by_cases h0 : m = 0
    · subst h0
      simp
    · have ih' := ih (m / 2) (by omega) (n / 2)
      rw [← Nat.xor_div_two, ← Nat.and_div_two] at ih'
      have o1 := @Nat.xor_mod_two_eq_one m n
      have a1 := @Nat.and_mod_two_eq_one m n
      omega
theorem bitXor_pp {x y : Int} (hx : 0 ≤ x) (hy : 0 ≤ y) : Builtin.bitXor x y = ((x.toNat ^^^ y.toNat : Nat) : Int) := by
  have e := nat_xor_add_and x.toNat y.toNat
  rw [bitXor_and, bitAnd_pp hx hy]
  omega
end Bits
end 
section 
namespace TL
open PySem PySem.Builtin PySem.Builtin.Str PySem.StrLaws
abbrev tl (x : Str) : List Nat := x.cps.toList
/-- S stands at the head of l -/
def pre (S l : List Nat) : Bool := l.take S.length == S
/-- what stands before the first S, and behind it -/
def par (S : List Nat) : List Nat → List Nat → Option (List Nat × List Nat)
  | _, [] => none
  | acc, c :: r => if pre S (c :: r) = true then some (acc, (c :: r).drop S.length) else par S (acc ++ [c]) r
end TL
end 
namespace L2
open PySem PySem.Spec PyProof.Rows
/-- a list of texts, of numbered texts -/
theorem vals_strs : ∀ l : List (Str × Tok), Vals ((l.map (·.1)).map V.str) (strValues l)
  | [] => .nil
  | p :: r => .cons ⟨p.2, rfl⟩ (vals_strs r)
theorem strs_of_vals : ∀ {ys : List Str} {us : List Value}, Vals (ys.map V.str) us → StrsAre us ys
  | [], _, .nil => .nil
  | y :: ys, _, .cons r t => by
    obtain ⟨k, rfl⟩ := r
    exact .cons y k (strs_of_vals t)
/-- a new list of texts, tracked -/
def rNewStrs (ys : List Str) : Hp → VK → Prop := fun H Q => ∀ p, H p = none → Q (.ref p) (upd H p (.lst (ys.map V.str)))
section
variable {X : Cx} {pins : List (Addr × Obj)} {σ : St} {H : Hp} {s : Shared} {Q : VK}
theorem laid_strs {l : List (Str × Tok)} {ys : List Str} {k : Nat} (I : Inv X pins σ H s) (e : l.map (·.1) = ys) (hz : ys.length ≤ sizeLine) (h : rNewStrs ys H Q) :
    EP X pins σ Q (.ref s.heap.objs.size) { s with toks := k, heap := s.heap.push { cls := .type "list", data := .seq (strValues l).toArray } } := by
  have hp := I.hok.fresh (Nat.le_refl _)
  refine ⟨.ref s.heap.objs.size, upd H s.heap.objs.size (.lst (ys.map V.str)), I.laid (fun b u q => Heap.get?_push_of_some _ q) (Nat.le_refl _) ⟨by rw [List.length_map]; exact hz, strValues l, _, ?_, Heap.get?_push_size _ rfl⟩, rfl, h _ hp⟩
  rw [← e]
  exact vals_strs l
end
section
variable {X : Cx}
/-- x.split(sep) -/
theorem mt_split : MtR X "str.split" (fun x xs H Q => ∃ a b, x = .str a ∧ xs = [.str b] ∧ (b.length == 0) = false ∧ a.length + 2 ≤ sizeLine ∧ rNewStrs (Txt.split a b) H Q) := by
  intro pins s σ H x xs v us Q I rx rs h
  obtain ⟨a, b, rfl, rfl, hb, hz, h⟩ := h
  obtain ⟨t, rfl⟩ := rx
  cases rs with
  | cons r1 rs =>
    cases rs
    obtain ⟨u, rfl⟩ := r1
    have hl : (Txt.split a b).length ≤ sizeLine := Nat.le_trans (PyProof.Rows.split_le a b) hz
    have hn : (Builtin.Str.partsBetween a (Builtin.Str.occurrences a b 0 a.length (a.length + 1)) b.length).length ≤ sizeLine := by
      have e1 := StrLaws.occ_length_le a b 0 a.length (a.length + 1)
      rw [length_partsBetween]; omega
    cases h1 : (decide (a.length < b.length) || decide (Builtin.Str.strKind a < Builtin.Str.strKind b))
    · cases hf : (Builtin.Str.occurrences a b 0 a.length (a.length + 1)).isEmpty
      · refine call_meets F.slot_str_split (typeIs_str _ _ _) F.entry_str_split (F.args_str_split_2 _ _) (meets_str_split_sep a b t u h1 hb hf (by omega) hn) ?_
        show EP X pins σ Q (.ref s.heap.objs.size) { s with toks := _, heap := s.heap.push { cls := .type "list", data := .seq (strsFrom s.toks (Builtin.Str.partsBetween a (Builtin.Str.occurrences a b 0 a.length (a.length + 1)) b.length)).toArray } }
        rw [strsFrom_eq]
        exact laid_strs (ys := Txt.split a b) I ((numbered_texts _ _).trans ((if_neg (ne_true_of_eq_false h1)).trans (if_neg (ne_true_of_eq_false hf))).symm) hl h
      · refine call_meets F.slot_str_split (typeIs_str _ _ _) F.entry_str_split (F.args_str_split_2 _ _) (meets_str_split_not_found a b t u h1 hb hf) ?_
        exact laid_strs (l := [(a, t)]) (ys := Txt.split a b) (k := s.toks) I ((if_neg (ne_true_of_eq_false h1)).trans (if_pos hf)).symm hl h
    · refine call_meets F.slot_str_split (typeIs_str _ _ _) F.entry_str_split (F.args_str_split_2 _ _) (meets_str_split_cannot_occur a b t u h1) ?_
      exact laid_strs (l := [(a, t)]) (ys := Txt.split a b) (k := s.toks) I (if_pos h1).symm hl h
/-- sep.join(a list | a tuple of texts) -/
theorem mt_join : MtR X "str.join" (fun x xs H Q => ∃ a p, ∃ ys : List Str, x = .str a ∧ xs = [.ref p] ∧ (SqL X.K H p (ys.map V.str) ∨ SqT X.K H p (ys.map V.str)) ∧
    (ys.map (·.length)).sum + ys.length * a.length ≤ 16777216 ∧ Q (.str (Txt.join a ys)) H) := by
  intro pins s σ H x xs v us Q I rx rs h
  obtain ⟨a, p, ys, rfl, rfl, hp, hz, h⟩ := h
  obtain ⟨t, rfl⟩ := rx
  cases rs with
  | cons r1 rs =>
    cases rs
    cases r1
    rcases hp with hp | hp
    · obtain ⟨its, r, ⟨o, n, ho, hc, _, hd⟩, _⟩ := I.list hp
      exact PyProof.Rows.join_list (items := its.toArray) ⟨o, ho, hc, n, hd⟩ (by rw [List.toList_toArray]; exact strs_of_vals r) hz fun t' k => ⟨.str _, H, I.tok k, ⟨t', rfl⟩, h⟩
    · obtain ⟨its, r, ht, _⟩ := I.tuple hp
      exact PyProof.Rows.join_tuple (items := its.toArray) ht (by rw [List.toList_toArray]; exact strs_of_vals r) hz fun t' k => ⟨.str _, H, I.tok k, ⟨t', rfl⟩, h⟩
end
section
variable {X : Cx} {o e : Expr} {to te : TE}
end
end L2
namespace L2
open PySem PySem.Spec PyProof.Rows
section
variable {X : Cx}
end
theorem IsPart.raw {v : Value} {o : Option Int} (p : IsPart v o) : ∃ l : Option (Int × Tok), v = partValue l ∧ l.map (·.1) = o := by
  cases p with
  | none => exact ⟨none, rfl, rfl⟩
  | int i t => exact ⟨some (i, t), rfl, rfl⟩
end L2
namespace Att
open PySem PySem.W PySem.Calls PyProof.Rows
theorem ints_of_wellAll {P : Params} {h : Heap} : ∀ (ns : List Int) (vs : List Value), WellAll P h vs (ns.map WData.int) → IntsAre vs ns := by
  intro ns
  induction ns with
  | nil =>
    intro vs w
    rw [List.map_nil] at w
    cases w
    exact .nil
  | cons n ns ih =>
    intro vs w
    rw [List.map_cons] at w
    cases w with
    | cons a b =>
      cases a
      exact .cons _ _ (ih _ b)
theorem script_of {l : OpenLaw} {n : Nat} (hn : l.most = some n) {P : Params} {h : Heap} {args : List WData} {vals : List Value}
    (hpre : l.row.toRowW.claim.pre args = true) (hwl : WellAll P h vals args) :
    ∃ a vs ns, vals = [Value.ref a] ∧ args = [WData.list (ns.map WData.int)] ∧ h.get? a = some { cls := .type "list", data := .seq vs.toArray } ∧ IntsAre vs ns ∧ ns.length ≤ n := by
  have hsh : WShape.hasAll [] args [.list .int] = true := (pre_splitW hpre).1
  have hc : l.pre.holds [] { args := args } = true := (pre_splitW hpre).2
  obtain ⟨d, r, rfl, h1, h2⟩ := hasAllW_cons hsh
  obtain rfl := hasAllW_nil h2
  obtain ⟨xs, rfl, h3⟩ := hasW_list h1
  obtain ⟨ns, rfl⟩ := items_int h3
  have hlen : ns.length ≤ n := by
    unfold OpenLaw.pre at hc
    have h4 : (WTm.not (.lt (.lit (.int (n : Int))) (.len (.arg 0)))).holds [] { args := [.list (ns.map .int)] } = true := by
      have h4 := (holds_andW hc).1
      rw [hn] at h4
      exact h4
    have h5 := condW_of h4 (w_not (w_lt w_lit (w_len_list (w_arg rfl))))
    rw [List.length_map] at h5
    refine Nat.le_of_not_lt fun q => ?_
    have q' : (n : Int) < ((ns.length : Nat) : Int) := by omega
    first
      | (rw [decide_eq_true q'] at h5; exact absurd h5 (by decide))
      | (simp at h5; omega)
  cases hwl with
  | cons w1 w2 =>
    cases w2
    cases w1 with
    | list ho hall => exact ⟨_, _, ns, rfl, rfl, ho, ints_of_wellAll ns _ hall, hlen⟩
theorem post_true (l : OpenLaw) (args : List WData) : l.row.toRowW.claim.post args (.bool true) args = true :=
  postW_of (r := l.row.toRowW) (X := (true == true))
    (show WShape.has [] (.bool true) .bool = true by first | rfl | decide | simp [WShape.has, WShape.arms, WShape.armsAll])
    (show (WTm.eq .res (.lit (.bool true))).value [] { args := args, res := some (.bool true), after := args } = some (.bool (true == true)) from w_eq_bool (w_res rfl) w_lit) rfl
/-- the same from a codeAny of the CALL (for a layer whose function contracts speak of calls) -/
theorem attach_call {l : OpenLaw} {n : Nat} {q : Program} {loose : List Str} {XP : (Str → Option Value) → Heap → Prop} {YP : World → Heap → Prop} {d : DefRec}
    (hn : l.most = some n) (hdf : d.params.defaults = [])
    (call : ∀ (w : World) (s₀ s₁ : Shared) (mg mb : Str → Option Value) (fa : Addr) (o : Obj) (pm cd doc : Value) (a : Addr) (vs : List Value) (ns : List Int),
      Ground q loose [] XP w s₀ mg mb s₁.heap → YP w s₁.heap →
      s₁.heap.get? fa = some o → o.data = .func (docDef d.name d.params d.body d.scope pm cd doc) → s₁.heap.CodeRec cd d.name → mg d.name = some (.ref fa) →
      s₁.heap.get? a = some { cls := .type "list", data := .seq vs.toArray } → IntsAre vs ns → ns.length ≤ n → s₁.gens = #[] →
      codeAny (model l.prog w) callerA (.call (.ref fa) ⟨[.ref a], []⟩) (fun r s' => r = .ok (.ret (.bool true)) ∧ OldK s₁.heap s'.heap ∧ s'.os = s₁.os ∧ AllBare s'.gens) s₁) :
    WalkO q loose XP YP l.row.toRowW d [] (fun f vs => PySem.call f vs) := by
  intro w s₀ s₁ mg mb G Y fa o pm cd doc dV kV ho hd hcd hD hmg hg args vals as hpre hlay hrd hwl hlo
  obtain rfl : dV = .none := Dflts.none hD hdf
  obtain rfl : kV = .none := Dflts.noKw hD
  obtain ⟨a, vs, ns, rfl, rfl, hobj, hints, hlen⟩ := script_of hn hpre hwl
  refine enter_call (codeAny_mono (call w s₀ s₁ mg mb fa o pm cd doc a vs ns G Y ho (fd_plain hd) hcd hmg hobj hints hlen hg) fun r s' hq => ?_)
  obtain ⟨rfl, h2, h3, h4⟩ := hq
  exact ⟨.inl ⟨.bool true, .bool true, [], rfl, fun _ => rfl, .bool true, post_true l _, fun _ => ⟨List.Pairwise.nil, fun _ hm => (nomatch hm)⟩⟩, h2, h3, h4⟩
section
variable {prog : Program} {w : World} {A : Around} {E : Value → Shared → Prop} {s : Shared} {K : Frag}
end
end Att
namespace L2
open PySem PySem.Spec PyProof.Rows
theorem vals_ints : ∀ {vs : List Value} {ns : List Int}, IntsAre vs ns → Vals (ns.map V.int) vs
  | _, _, .nil => .nil
  | _, _, .cons n t h => .cons ⟨t, rfl⟩ (vals_ints h)
end L2
namespace L2
open PySem PySem.Spec PyProof.Rows
end L2
namespace L2
open PySem PySem.Spec PyProof.Rows
def defArgs (s : Stmt) : Arguments := match s with
  | .FunctionDef _ a _ _ _ _ _ _ _ _ => a
  | _ => { posonlyargs := [], args := [], vararg := none, kwonlyargs := [], kw_defaults := [], kwarg := none, defaults := [] }
def defBody (s : Stmt) : List Stmt := match s with
  | .FunctionDef _ _ b _ _ _ _ _ _ _ => b
  | _ => []
def defScope (s : Stmt) : Scope := match s with
  | .FunctionDef _ _ _ _ _ _ sc _ _ _ => sc
  | _ => { kind := .function, names := [], isGenerator := false, isCoroutine := false }
abbrev CX0 : CXT := fun _ _ _ _ _ _ => False
abbrev E0 : XK := fun _ _ _ => False
theorem pass0 {X : Cx} : Passes CX0 X E0 := fun _ _ _ _ _ _ _ h => h.elim
structure Fun (K : PySem.W.Frag) (x qual : Str) (st : Stmt) (f : Addr) (fd : FuncData) : Prop where
  ex : ∃ (oc : Value) (od : Option Addr) (kV doc pm : Value) (an : Option Addr) (cdv ct : Value) (osl : Array (Option Value)),
    fd = PySem.W.fnOf x qual (defArgs st) (defBody st) (defScope st) .none kV doc pm an cdv ct ∧ K.lookup f = some ⟨oc, od, .func fd, osl⟩ ∧ PySem.W.codeIn K cdv qual = true
  kp : PySem.W.keepIn K (.ref f) = true
section
variable {P : Program} {w : World} {K : PySem.W.Frag} {mg : Str → Option Value} {base : Heap}
/-- THE RULE for a def: its body as a term of rules, and the reading of that term -/
theorem Fun.ok {x qual : Str} {st : Stmt} {f : Addr} {fd : FuncData} {N ps : List Str} {k : Nat} {sp : Sp} (F : Fun K x qual st f fd) (S : FnScope N ps (defScope st)) (len : ∀ vs H Q E, sp vs H Q E → vs.length = ps.length)
    (hbody : ∀ (cdv : Value) (A : Around) (outer : List Env) (s : Shared) (H : Hp) (vs : List V) (Q : VK) (E : XK), Room k (A.deeper (envOfC qual (defScope st) s.heap.objs.size f cdv)) → sp vs H Q E →
      ∃ t, PSs (cxOf CX0 P w K mg base N qual (defScope st) f cdv A outer s H E).nox (defBody st) t ∧ t { nx := fun _ H' => Q .non H', rt := Q } (start N vs) H) : FnOk P w K mg base CX0 (k + 1) f fd ps sp := by
  obtain ⟨oc, od, kV, doc, pm, an, cdv, ct, osl, rfl, lk, hcd⟩ := F.ex
  refine fn_of lk hcd S len fun A outer s H vs Q E hr hsp => ?_
  obtain ⟨t, h, q⟩ := hbody cdv A outer s H vs Q E hr hsp
  exact ⟨t, h.nox, q⟩
/-- how its arguments bind (no defaults): h is «fun _ _ _ _ _ _ us hl => match us, hl with | [_, _], _ => rfl», one _ a parameter -/
theorem Fun.binds {x qual : Str} {st : Stmt} {f : Addr} {fd : FuncData} {ps : List Str} (F : Fun K x qual st f fd)
    (h : ∀ (kV doc pm : Value) (an : Option Addr) (cdv ct : Value) (us : List Value), us.length = ps.length → bindArgs (PySem.W.fnOf x qual (defArgs st) (defBody st) (defScope st) .none kV doc pm an cdv ct) ⟨us, []⟩ = pure (ps.zip us)) : Binds K fd ps [] := by
  obtain ⟨oc, od, kV, doc, pm, an, cdv, ct, osl, rfl, lk, hcd⟩ := F.ex
  exact .all (h kV doc pm an cdv ct)
theorem fun_mk {x qual : Str} {st : Stmt} {f : Addr} {oc : Value} {od an : Option Addr} {osl : Array (Option Value)} {kV doc pm cdv ct : Value} (l : K.lookup f = some ⟨oc, od, .func (PySem.W.fnOf x qual (defArgs st) (defBody st) (defScope st) .none kV doc pm an cdv ct), osl⟩)
    (c : PySem.W.codeIn K cdv qual = true) (k : PySem.W.keepIn K (.ref f) = true) : Fun K x qual st f (PySem.W.fnOf x qual (defArgs st) (defBody st) (defScope st) .none kV doc pm an cdv ct) := ⟨⟨oc, od, kV, doc, pm, an, cdv, ct, osl, rfl, l, c⟩, k⟩
end
theorem hu_of {A : Around} {k : Nat} (hr : Room k A) : A.units + 1 < cLine := Nat.lt_of_le_of_lt (Nat.add_le_add_left (by decide : 1 ≤ 64) _) hr.units
theorem small1000 {n : Nat} (h : n ≤ 1000) : n < sizeLine := Nat.lt_of_le_of_lt h (by decide)
section
variable {X : Cx}
theorem pv (i : Nat) {x : Str} {pos : Pos} (hN : X.N[i]? = some x := by rfl) (hv : Vis X.env.scope x := by first | exact Or.inl rfl | exact Or.inr (Or.inl rfl) | exact Or.inr (Or.inr rfl)) (hd : (x == ("__debug__" : Str)) = false := by decide)
    (hcd : (x == ("__classdict__" : Str)) = false := by decide) : PE X (.Name x pos) (tVar i) := pe_var hN hv hd hcd
/-- len of a dict -/
theorem call_lenD : CallR X (.builtin "len") (fun xs H Q => ∃ a kvs, xs = [V.ref a] ∧ H a = some (.dK kvs) ∧ Q (.int kvs.length) H) := by
  intro pins s σ H xs us Q I r h
  obtain ⟨a, kvs, rfl, ha, q⟩ := h
  obtain ⟨u, rfl, ru⟩ := vals1 r
  cases ru
  exact d_len I (.inl ha) fun t s' I' => ⟨.int kvs.length, H, I', ⟨t, rfl⟩, q⟩
end
theorem iteF {A B : Prop} (h : B) : if false = true then A else B := by
  rw [if_neg Bool.false_ne_true]
  exact h
theorem iteT {A B : Prop} (h : A) : if true = true then A else B := by
  rw [if_pos rfl]
  exact h
theorem ite2 {c A B : Prop} [Decidable c] (h1 : c → A) (h2 : ¬ c → B) : if c then A else B := by
  by_cases h : c
  · rw [if_pos h]
    exact h1 h
  · rw [if_neg h]
    exact h2 h
/-- all that was tracked is as it was -/
def Same (H H' : Hp) : Prop := ∀ b o, H b = some o → H' b = some o
theorem Same.refl (H : Hp) : Same H H := fun _ _ h => h
theorem Same.trans {H H1 H2 : Hp} (a : Same H H1) (b : Same H1 H2) : Same H H2 := fun c o h => b c o (a c o h)
theorem Same.free {H H' : Hp} (e : Same H H') {l : Addr} (h : H' l = Option.none) : H l = Option.none := by
  cases q : H l with
  | none => rfl
  | some o =>
    rw [e l o q] at h
    cases h
theorem Same.seq {K : PySem.W.Frag} {H H' : Hp} {a : Addr} {xs : List V} (e : Same H H') (h : SqL K H a xs) : SqL K H' a xs := by
  rcases h with (h | ⟨o, h⟩) | h
  · exact .inl (.inl (e _ _ h))
  · exact .inl (.inr ⟨o, e _ _ h⟩)
  · exact .inr h
section
variable {κ : Type} [DecidableEq κ]
end
theorem at_of {xs : List V} {z : Int} {j : Nat} {v : V} (e : z = (j : Int)) (h : xs[j]? = some v) : atI xs z = some v := by
  rw [e]
  exact atI_nat h
/-- a new instance and its __init__ leave all that was tracked as it was -/
theorem Same.made {H H1 : Hp} {x dx C : Addr} (nx : H x = Option.none) (nd : H dx = Option.none) (k : ∀ b o, (upd (upd H dx (.own x)) x (.ins C dx [])) b = some o → b ≠ x → H1 b = some o) : Same H H1 := fun b o e =>
  k b o (by rw [upd_ne (ne_of_none e nx), upd_ne (ne_of_none e nd)]; exact e) (ne_of_none e nx)
end L2
set_option Elab.async false
set_option linter.all false
set_option maxRecDepth 100000
namespace L3
open PySem PySem.Spec PyProof.Rows L2
/-- the iterator's record over a list (false) or a tuple (true) -/
def SqI : Bool → Heap → Addr → Addr → Nat → Prop
  | true, h, it, l, i => h.IsTupleIter it l i
  | false, h, it, l, i => h.IsListIter it l i
def SqH : Bool → Heap → Addr → Array Value → Prop
  | true, h, l, xs => h.IsTuple l xs
  | false, h, l, xs => h.IsList l xs
def itN : Bool → String
  | true => "tuple_iterator"
  | false => "list_iterator"
def itO (k : Bool) (l : Addr) : Obj := { cls := .type (itN k), data := .fields #[.ref l, .int 0 0] }
theorem SqI.keep {k : Bool} {h h' : Heap} {it l : Addr} {i : Nat} (x : SqI k h it l i) (e : ∀ o, h.get? it = some o → h'.get? it = some o) : SqI k h' it l i := by
  cases k
  · obtain ⟨o, a, r⟩ := (show h.IsListIter it l i from x); exact ⟨o, e o a, r⟩
  · obtain ⟨o, a, r⟩ := (show h.IsTupleIter it l i from x); exact ⟨o, e o a, r⟩
theorem SqH.keep {k : Bool} {h h' : Heap} {l : Addr} {xs : Array Value} (x : SqH k h l xs) (e : ∀ o, h.get? l = some o → h'.get? l = some o) : SqH k h' l xs := by
  cases k
  · obtain ⟨o, a, r⟩ := (show h.IsList l xs from x); exact ⟨o, e o a, r⟩
  · obtain ⟨o, a, r⟩ := (show h.IsTuple l xs from x); exact ⟨o, e o a, r⟩
theorem SqI.obj {k : Bool} {h : Heap} {it l : Addr} {i : Nat} (x : SqI k h it l i) : ∃ o, h.get? it = some o ∧ ∀ v, o.data ≠ .cell v := by
  cases k
  · obtain ⟨o, a, _, d⟩ := (show h.IsListIter it l i from x); exact ⟨o, a, fun v q => by rw [d] at q; cases q⟩
  · obtain ⟨o, a, _, d⟩ := (show h.IsTupleIter it l i from x); exact ⟨o, a, fun v q => by rw [d] at q; cases q⟩
theorem SqI.lt {k : Bool} {h : Heap} {it l : Addr} {i : Nat} (x : SqI k h it l i) : it < h.objs.size := let ⟨_, e, _⟩ := x.obj; Heap.lt_size e
theorem SqH.lt {k : Bool} {h : Heap} {l : Addr} {xs : Array Value} (x : SqH k h l xs) : l < h.objs.size := by
  cases k
  · obtain ⟨o, a, r⟩ := (show h.IsList l xs from x); exact Heap.lt_size a
  · obtain ⟨o, a, r⟩ := (show h.IsTuple l xs from x); exact Heap.lt_size a
theorem SqI.new {k : Bool} {h : Heap} {it l : Addr} (e : h.get? it = some (itO k l)) : SqI k h it l 0 := by
  cases k
  · exact ⟨_, e, rfl, rfl⟩
  · exact ⟨_, e, rfl, rfl⟩
section
variable {prog : Program} {w : World} {A : Around} {E : Value → Shared → Prop} {s : Shared}
theorem sq_iter {k : Bool} {l : Addr} {xs : Array Value} {Q : Value → Shared → Prop} (h : SqH k s.heap l xs) (q : Q (.ref s.heap.objs.size) { s with heap := s.heap.push (itO k l) }) :
    wpAny (model prog w) A (pyIter (.ref l)) Q E s := by
  cases k
  · exact wpAny_pyIter_list (show s.heap.IsList l xs from h) q
  · exact wpAny_pyIter_tuple (show s.heap.IsTuple l xs from h) q
theorem tup_next {it t : Addr} {i : Nat} {xs : Array Value} {x : Value} {Q : Value → Shared → Prop} (hit : s.heap.IsTupleIter it t i) (ht : s.heap.IsTuple t xs) (hx : xs[i]? = some x)
    (q : ∀ h', h'.IsTupleIter it t (i + 1) → Heap.SameBut it s.heap h' → Q x { s with heap := h' }) : wpAny (model prog w) A (Builtin.SmallTypes.nextOf (.ref it)) Q E s := by
  have ⟨o, ho, hc, hd⟩ := hit
  have ⟨ot, hot, _, m, hdt⟩ := ht
  have body := F.entry_tuple_iterator_next
  unfold Builtin.SmallTypes.nextOf
  refine wpAny_bind (wpAny_callSpecial?_slot (name := Str.ofString "__next__") hit.typeIs F.slot_tuple_iterator_next (wpAny_call_entry F.slot_tuple_iterator_next hit.typeIs body ?_ (F.args_tuple_iterator_next_1 _)))
  refine wpAny_bind (m := field (.ref it) 0) (wpAny_field ho hd (x := .ref t) rfl ?_)
  refine wpAny_ite_false (c := (Value.ref t == Value.none)) rfl ?_
  refine wpAny_bind (m := field (.ref it) 1) (wpAny_field ho hd (x := .int i 0) rfl (wpAny_bind (m := seqItems? (.ref t)) (wpAny_seqItems hot hdt ?_)))
  simp only [hx, Int.toNat_natCast]
  refine wpAny_bind (wpAny_setField ho hd (by simp) (wpAny_pure ⟨x, rfl, wpAny_pure (q _ ⟨_, Heap.get?_update_self _ ho (Obj.isFreed_of_fields (Obj.data_mapFields hd _)), ?_, ?_⟩ (Heap.SameBut.update ..))⟩))
  · rw [Obj.cls_mapFields]; exact hc
  · rw [Obj.data_mapFields hd]; simp [rawInt]
theorem tup_next_end {it t : Addr} {i : Nat} {xs : Array Value} {Q : Value → Shared → Prop} (hh : A.handled = none) (hit : s.heap.IsTupleIter it t i) (ht : s.heap.IsTuple t xs) (hx : xs[i]? = none)
    (q : ∀ h' e, Heap.ExtBut it s.heap h' → (∃ o, h'.get? e = some o ∧ o.cls = .type "StopIteration") → E (.ref e) { s with heap := h' }) : wpAny (model prog w) A (Builtin.SmallTypes.nextOf (.ref it)) Q E s := by
  have ⟨o, ho, hc, hd⟩ := hit
  have ⟨ot, hot, _, m, hdt⟩ := ht
  have body := F.entry_tuple_iterator_next
  unfold Builtin.SmallTypes.nextOf
  refine wpAny_bind (wpAny_callSpecial?_slot (name := Str.ofString "__next__") hit.typeIs F.slot_tuple_iterator_next (wpAny_call_entry F.slot_tuple_iterator_next hit.typeIs body ?_ (F.args_tuple_iterator_next_1 _)))
  refine wpAny_bind (m := field (.ref it) 0) (wpAny_field ho hd (x := .ref t) rfl ?_)
  refine wpAny_ite_false (c := (Value.ref t == Value.none)) rfl ?_
  refine wpAny_bind (m := field (.ref it) 1) (wpAny_field ho hd (x := .int i 0) rfl (wpAny_bind (m := seqItems? (.ref t)) (wpAny_seqItems hot hdt ?_)))
  simp only [hx, Int.toNat_natCast]
  refine wpAny_bind (wpAny_rule (wpAny_bind (wpAny_setField ho hd (by simp) ?_)))
  refine wpAny_bind (m := newExc (.type "StopIteration") []) ?_
  unfold newExc newTuple
  refine wpAny_bind (wpAny_newObj_type (wpAny_bind (m := firstArgMember _ _) (wpAny_of_eq (a := Value.none) (by first | rfl | (simp only [firstArgMember]; rfl)) ?_)) (by size_fits))
  refine wpAny_newObj_type ?_ (by size_fits)
  unfold raiseNew
  refine wpAny_bind (wpAny_handled ?_)
  first | rw [show A.in1.handled = none from hh] | rw [hh]
  exact wpAny_bind (wpAny_pure (wpAny_throw (q _ _ (((Heap.SameBut.update ..).extBut.push _).push _) ⟨_, Heap.get?_push_size _ rfl, rfl⟩)))
theorem sq_next {k : Bool} {it l : Addr} {i : Nat} {xs : Array Value} {x : Value} {Q : Value → Shared → Prop} (hit : SqI k s.heap it l i) (hl : SqH k s.heap l xs) (hx : xs[i]? = some x)
    (q : ∀ h', SqI k h' it l (i + 1) → Heap.SameBut it s.heap h' → Q x { s with heap := h' }) : wpAny (model prog w) A (Builtin.SmallTypes.nextOf (.ref it)) Q E s := by
  cases k
  · exact wpAny_nextOf_list_item (show s.heap.IsListIter it l i from hit) hl hx q
  · exact tup_next (show s.heap.IsTupleIter it l i from hit) hl hx q
theorem sq_next_end {k : Bool} {it l : Addr} {i : Nat} {xs : Array Value} {Q : Value → Shared → Prop} (hh : A.handled = none) (hit : SqI k s.heap it l i) (hl : SqH k s.heap l xs) (hx : xs[i]? = none)
    (q : ∀ h' e, Heap.ExtBut it s.heap h' → (∃ o, h'.get? e = some o ∧ o.cls = .type "StopIteration") → E (.ref e) { s with heap := h' }) : wpAny (model prog w) A (Builtin.SmallTypes.nextOf (.ref it)) Q E s := by
  cases k
  · exact wpAny_nextOf_list_end hh (show s.heap.IsListIter it l i from hit) hl hx q
  · exact tup_next_end hh (show s.heap.IsTupleIter it l i from hit) hl hx q
end
end L3
set_option Elab.async false
set_option linter.all false
set_option maxRecDepth 100000
namespace L3
open PySem PySem.Spec PyProof.Rows L2
section
variable {X : Cx}
def CDivB (i j : Int) : Prop := 0 < j ∧ j < 10 ^ 60
theorem log2_lt {j : Int} (h1 : 0 < j) (h2 : j < 10 ^ 60) : j.natAbs.log2 < 9000 := by
  have h3 : j.natAbs ≠ 0 := by omega
  have h5 : j.natAbs < 2 ^ 200 := by omega
  have := (Nat.log2_lt h3).mpr h5
  omega
theorem op_fdivB : OpR X (binaryOp .FloorDiv) (rI CDivB fun i j => .int (i / j)) := opI fun i j _ _ _ _ _ hc q => by
  have h1 : (0 : Int) < j := hc.1
  exact floordiv_int (by omega) (by rw [Int.fdiv_eq_ediv_of_nonneg i (by omega)]; exact q) (.inl (PyProof.noPylong_of_log2 (log2_lt hc.1 hc.2)))
def rIsi (K : PySem.W.Frag) : List V → Hp → VK → Prop := fun xs H Q => ∃ x t n b, xs = [x, .ty n] ∧ TyOf K H x t ∧ PySem.W.kitOne K t (.type n) = some b ∧ Q (.bl b) H
theorem call_isi : CallR X (.builtin "isinstance") (rIsi X.K) := by
  intro pins s σ H xs us Q I r h
  obtain ⟨x, t, n, b, rfl, ty, e, q⟩ := h
  cases r with
  | cons r1 rr =>
    cases rr with
    | cons r2 rr =>
      cases rr
      cases r2
      exact isinst_ok I r1 ty e fun tk => ⟨.bl b, H, I.tok tk, rfl, q⟩
def rRng1 : List V → Hp → VK → Prop := fun xs H Q => ∃ j : Int, xs = [.int j] ∧ ∀ p, H p = none → Q (.ref p) (upd H p (.rng 0 j))
theorem call_rng1 : CallR X (.type "range") rRng1 := by
  intro pins s σ H xs us Q I r h
  obtain ⟨j, rfl, q⟩ := h
  obtain ⟨u, rfl, t, rfl⟩ := vals1 r
  refine call_range_1 ?_
  refine ⟨.ref s.heap.objs.size, _, I.laid (t' := s.toks + 1 + 1) (fun b o e => Heap.get?_push_of_some _ e) (Nat.le_refl _) (show ObjOk X.prog X.w _ _ _ (.rng 0 j) from ⟨_, _, _, Heap.get?_push_size _ rfl⟩), rfl, q _ (I.hok.fresh (Nat.le_refl _))⟩
def upto (n : Nat) : List V := (List.range n).map fun i => V.int (i : Nat)
theorem upto_length (n : Nat) : (upto n).length = n := by simp [upto]
theorem vals_from : ∀ (l : List Value) (k : Nat), (∀ (i : Nat) (v : Value), l[i]? = some v → ∃ t, v = Value.int (((k + i : Nat) : Int)) t) → Vals ((List.range' k l.length).map fun (i : Nat) => V.int (i : Int)) l
  | [], k, _ => .nil
  | x :: l, k, h => by
    refine .cons ?_ (vals_from l (k + 1) fun i v hi => ?_)
    · obtain ⟨t, ht⟩ := h 0 x rfl
      exact ⟨t, ht⟩
    · obtain ⟨t, ht⟩ := h (i + 1) v (by simpa using hi)
      exact ⟨t, by rw [ht, show k + 1 + i = k + (i + 1) by omega]⟩
theorem vals_of_items {n : Nat} {acc : Array Value} (h : ItemsOf (fun i v => ∃ t, v = Value.int (0 + (i : Nat) * 1) t) acc n) : Vals (upto n) acc.toList := by
  obtain ⟨hs, hv⟩ := h
  have e : upto n = (List.range' 0 acc.toList.length).map fun (i : Nat) => V.int (i : Int) := by
    rw [Array.length_toList, hs, ← List.range_eq_range']; rfl
  rw [e]
  refine vals_from _ 0 fun i v hi => ?_
  obtain ⟨t, ht⟩ := hv i v (by simpa using hi)
  exact ⟨t, by rw [ht]; simp⟩
def rListRng : List V → Hp → VK → Prop := fun xs H Q => ∃ p j, xs = [.ref p] ∧ H p = some (.rng 0 j) ∧ 0 ≤ j ∧ j ≤ 65536 ∧ ∀ l, H l = none → Q (.ref l) (upd H l (.lst (upto j.toNat)))
theorem small65536 : (65536 : Nat) ≤ sizeLine := by decide
theorem call_list_rng (hc : X.calm = true) : CallR X (.type "list") rListRng := by
  intro pins s σ H xs us Q I r h
  obtain ⟨p, j, rfl, hp, hj0, hj, q⟩ := h
  obtain ⟨u, rfl, rx⟩ := vals1 r
  cases rx
  obtain ⟨t, u, v, hr⟩ := I.hok p _ hp
  have hz : Builtin.Range.rangeSize 0 j 1 = (j.toNat : Int) := by rw [rangeSize_one]; split <;> omega
  refine call_list_range (I.ok.hd hc) hr (small_one (by decide) (by decide) (by omega) (by omega)) hz (by omega) fun h' tk acc c' kp e it => ?_
  refine ⟨.ref s.heap.objs.size, _, I.laid (t' := tk) kp (Nat.le_refl _) (show ObjOk X.prog X.w _ h' _ (.lst (upto j.toNat)) from ⟨?_, acc.toList, c', vals_of_items it, by simpa using e⟩), rfl, q _ (I.hok.fresh (Nat.le_refl _))⟩
  rw [upto_length]; have := small65536; omega
theorem collect_rng {prog : Program} {w : World} {A : Around} {E : Value → Shared → Prop} {s : Shared} {Q : List Value → Shared → Prop} {r : Addr} {b : Int} {t u v : Tok} {n : Nat} (hh : A.handled = none) (hr : IsRange s.heap r 0 b 1 t u v) (hsm : Builtin.Range.small 0 b 1 = true) (hn : Builtin.Range.rangeSize 0 b 1 = n) (hl : n ≤ 2 ^ 24)
    (q : ∀ (h' : Heap) (tk : Nat) (acc : Array Value), (∀ b o, s.heap.get? b = some o → h'.get? b = some o) → ItemsOf (fun i v => ∃ t, v = Value.int (0 + (i : Nat) * 1) t) acc n → Q acc.toList { s with heap := h', toks := tk }) :
    wpAny (model prog w) A (collect (.ref r)) Q E s := by
  unfold collect
  refine wpAny_bind (wpAny_runValue (codeAny_builtin F.entry_proto_collect ?_))
  rw [Around.under_plainId F.plain_proto_collect _]
  refine wpAny_bind (m := newList []) (wpAny_newObj_type (wpAny_pure ⟨plainId_quiet F.plain_list_iadd _, codeAny_builtin F.entry_list_iadd ?_⟩))
  rw [Around.under_plainId F.plain_list_iadd _]
  have hS : (s.heap.push { cls := .type "list", data := .seq ([] : List Value).toArray }).get? s.heap.objs.size = some { cls := .type "list", data := .seq #[] 0 } := Heap.get?_push_size _ rfl
  have last : ∀ h' tk acc' c', (∀ b o, b ≠ s.heap.objs.size → (s.heap.push { cls := .type "list", data := .seq ([] : List Value).toArray }).get? b = some o → h'.get? b = some o) → h'.get? s.heap.objs.size = some { cls := .type "list", dict := none, data := .seq acc' c', slots := #[] } →
      ItemsOf (fun i v => ∃ t, v = Value.int (0 + (i : Nat) * 1) t) acc' n → wpAny (model prog w) A (match Value.ref s.heap.objs.size with
      | Value.ref a => do
        match (← load a).data with
          | Data.seq xs _ => pure xs.toList
          | _ => unsupported "internal:collect"
      | _ => unsupported "internal:collect") Q E { s with heap := h', toks := tk } := fun h' tk acc' c' kp e it => by
    refine wpAny_bind (m := load s.heap.objs.size) (wpAny_load e (wpAny_pure ?_))
    exact q h' tk acc' (fun b o eb => kp b o (Nat.ne_of_lt (Heap.lt_size eb)) (Heap.get?_push_of_some _ eb)) it
  refine wpAny_mono (wpAny_extend_range (A := A) (R := fun r s' => r = .ok (.ret (.ref s.heap.objs.size)) ∧ wpAny (model prog w) A (match Value.ref s.heap.objs.size with
      | Value.ref a => do
        match (← load a).data with
          | Data.seq xs _ => pure xs.toList
          | _ => unsupported "internal:collect"
      | _ => unsupported "internal:collect") Q E s') (s := { s with heap := s.heap.push { cls := .type "list", data := .seq ([] : List Value).toArray } }) hh (Heap.get?_push_of_some _ hr) hsm hn hl _ (.ref s.heap.objs.size) 0 hS
      fun h' tk acc' c' kp e it => ⟨rfl, last h' tk acc' c' kp e it⟩) (fun fin s' h => ?_) (fun e s' h => ?_)
  · cases fin with
    | done f =>
      obtain ⟨e, h⟩ := h
      cases e
      exact h
    | again c' => exact ⟨h.1, codeAny_mono h.2 fun r s'' hr => by obtain ⟨e, h⟩ := hr; cases e; exact h⟩
  · exact absurd h.1 (by simp)
theorem meets_tuple_rng (r : Addr) (b : Int) (t u v : Tok) (n : Nat) (hsm : Builtin.Range.small 0 b 1 = true) (hn : Builtin.Range.rangeSize 0 b 1 = n) (hl : n ≤ 2 ^ 24) {prog : Program} {w : World} {A : Around} {Q : Value → Shared → Prop} {E : Value → Shared → Prop} {s : Shared} (hh : A.handled = none) (hr : IsRange s.heap r 0 b 1 t u v)
    (q : ∀ (h' : Heap) (tk : Nat) (acc : Array Value), (∀ b o, s.heap.get? b = some o → h'.get? b = some o) → ItemsOf (fun i v => ∃ t, v = Value.int (0 + (i : Nat) * 1) t) acc n → Q (.ref h'.objs.size) { s with heap := h'.push { cls := .type "tuple", data := .seq acc }, toks := tk }) :
    codeAny (model prog w) A (.call (.builtin "tuple.__new__") ⟨[.type "tuple", .ref r], []⟩) (wants Q E) s := by
  refine codeAny_of_tree ?_
  show wpAny _ A.in1 (do checkBuiltinCall "tuple.__new__" ⟨[.type "tuple", .ref r], []⟩; again (.builtin "tuple.__new__" ⟨[.type "tuple", .ref r], []⟩)) _ _ s
  refine wpAny_bind (wpAny_of_eq (F.newCall_tuple_1 _) (wpAny_pure ⟨plainId_quiet F.plain_tuple_new _, codeAny_builtin F.entry_tuple_new ?_⟩))
  rw [Around.under_plainId F.plain_tuple_new _]
  have hsub := sub_tuple_self
  have hinit := init_tuple_lookup
  have hmh := madeHere_tuple
  have hT : s.TypeIs (.ref r) "range" := ⟨_, hr, rfl⟩
  have hh1 : A.in1.handled = none := hh
  wp_walk using wpAny_typeOf hT, collect_rng hh1 hr hsm hn hl
  intro h' tk acc kp it
  show wpAny _ _ (Builtin.Tuple.tupleExact acc.toList.toArray >>= fun v => ret v) _ _ _
  unfold Builtin.Tuple.tupleExact
  have e : acc.toList.toArray = acc := by simp
  rw [e]
  refine wpAny_bind (wpAny_newObj_type (wpAny_pure (q h' tk acc kp it)) (by show acc.size ≤ sizeLine; rw [it.1]; exact hl))
theorem call_tuple_rng0 {r : Addr} {b : Int} {t u v : Tok} {n : Nat} (hsm : Builtin.Range.small 0 b 1 = true) (hn : Builtin.Range.rangeSize 0 b 1 = n) (hl : n ≤ 2 ^ 24) {prog : Program} {w : World} {A : Around} {Q : Value → Shared → Prop} {E : Value → Shared → Prop} {s : Shared} (hh : A.handled = none) (hr : IsRange s.heap r 0 b 1 t u v)
    (q : ∀ (h' : Heap) (tk : Nat) (acc : Array Value), (∀ b o, s.heap.get? b = some o → h'.get? b = some o) → ItemsOf (fun i v => ∃ t, v = Value.int (0 + (i : Nat) * 1) t) acc n → Q (.ref h'.objs.size) { s with heap := h'.push { cls := .type "tuple", data := .seq acc }, toks := tk }) :
    wpAny (model prog w) A (call (.type "tuple") [.ref r]) Q E s := by
  refine callType_codes (Q₁ := fun obj s₁ => s₁.TypeIs obj "tuple" ∧ Q obj s₁) F.called_tuple (F.typeCall_tuple_1 _) F.entry_object_init
    (meets_tuple_rng r b t u v n hsm hn hl hh hr fun h' tk acc kp it => ⟨⟨_, Heap.get?_push_size _ rfl, rfl⟩, q h' tk acc kp it⟩) fun obj s₁ h₁ => ?_
  exact ⟨h₁.1, F.args_object_init_2 obj _, object_init_meets F.called_tuple.init.lookup F.called_tuple.made (by decide) prog w A.in1 _ s₁ ⟨h₁.1, rfl, h₁.2⟩⟩
def rTupRng : List V → Hp → VK → Prop := fun xs H Q => ∃ p j, xs = [.ref p] ∧ H p = some (.rng 0 j) ∧ 0 ≤ j ∧ j ≤ 65536 ∧ ∀ l, H l = none → Q (.ref l) (upd H l (.tup (upto j.toNat)))
theorem call_tup_rng (hc : X.calm = true) : CallR X (.type "tuple") rTupRng := by
  intro pins s σ H xs us Q I r h
  obtain ⟨p, j, rfl, hp, hj0, hj, q⟩ := h
  obtain ⟨u, rfl, rx⟩ := vals1 r
  cases rx
  obtain ⟨t, u, v, hr⟩ := I.hok p _ hp
  have hz : Builtin.Range.rangeSize 0 j 1 = (j.toNat : Int) := by rw [rangeSize_one]; split <;> omega
  refine call_tuple_rng0 (small_one (by decide) (by decide) (by omega) (by omega)) hz (by omega) (I.ok.hd hc) hr fun h' tk acc kp it => ?_
  have I1 : Inv X pins σ H { s with heap := h', toks := tk } := I.kept kp
  have I2 : Inv X pins σ (upd H h'.objs.size (.tup (upto j.toNat))) { s with heap := h'.push { cls := .type "tuple", data := .seq acc }, toks := tk } :=
    I1.laid (t' := tk) (fun b o e => Heap.get?_push_of_some _ e) (Nat.le_refl _) (show ObjOk X.prog X.w _ _ _ (.tup (upto j.toNat)) from ⟨by rw [upto_length]; have := small65536; omega, acc.toList, vals_of_items it, by simpa using IsTupD.new h' acc⟩)
  exact ⟨.ref h'.objs.size, _, I2, rfl, q _ (I1.hok.fresh (Nat.le_refl _))⟩
end
end L3
set_option Elab.async false
set_option linter.all false
set_option maxRecDepth 100000
namespace L3
open PySem PySem.Spec PyProof.Rows L2
def SqX : Bool → PySem.W.Frag → Hp → Addr → List V → Prop
  | true, K, H, a, xs => SqT K H a xs
  | false, K, H, a, xs => SqL K H a xs
section
variable {X : Cx} {pins : List (Addr × Obj)} {σ : L2.St} {H : Hp} {s : Shared} {a : Addr} {xs : List V} {k : Bool}
theorem sqx (I : Inv X pins σ H s) (h : SqX k X.K H a xs) : ∃ its : List Value, Vals xs its ∧ SqH k s.heap a its.toArray ∧ xs.length ≤ sizeLine := by
  cases k
  · obtain ⟨its, r, p, z⟩ := I.list (show SqL X.K H a xs from h); exact ⟨its, r, p.isList, z⟩
  · obtain ⟨its, r, p, z⟩ := I.tuple (show SqT X.K H a xs from h); exact ⟨its, r, p, z⟩
theorem SqH.ne {h : Heap} {b : Addr} {o : Obj} {n : String} {its : Array Value} (x : SqH k h a its) (e : h.get? b = some o) (c : o.cls = .type n) (h1 : n ≠ "list") (h2 : n ≠ "tuple") : a ≠ b := by
  intro z
  subst z
  cases k
  · obtain ⟨o', e', c', _⟩ := (show h.IsList a its from x)
    rw [e] at e'; cases e'; rw [c] at c'; injection c' with q; exact h1 q
  · obtain ⟨o', e', c', _⟩ := (show h.IsTuple a its from x)
    rw [e] at e'; cases e'; rw [c] at c'; injection c' with q; exact h2 q
theorem SqI.cls {h : Heap} {it : Addr} {i : Nat} (x : SqI k h it a i) : ∃ o, h.get? it = some o ∧ o.cls = .type (itN k) := by
  cases k
  · obtain ⟨o, e, c, _⟩ := (show h.IsListIter it a i from x); exact ⟨o, e, c⟩
  · obtain ⟨o, e, c, _⟩ := (show h.IsTupleIter it a i from x); exact ⟨o, e, c⟩
end
end L3
set_option Elab.async false
set_option linter.all false
set_option maxRecDepth 100000
namespace L3
open PySem PySem.Spec PyProof.Rows L2
section
variable {prog : Program} {w : World} {A : Around} {E : Value → Shared → Prop} {s : Shared} {z TI TO i1 i2 a b : Addr} {k1 k2 : Bool} {n : Nat} {xs ys : Array Value}
theorem zipX_item {x y u v : Value} {Q : Value → Shared → Prop} (D : ZipApart z TI TO i1 i2 a b) (hz : IsZip s.heap z TI TO .none) (hTI : IsPair s.heap TI (.ref i1) (.ref i2)) (hTO : IsPair s.heap TO u v)
    (h1 : SqI k1 s.heap i1 a n) (h2 : SqI k2 s.heap i2 b n) (ha : SqH k1 s.heap a xs) (hb : SqH k2 s.heap b ys) (hx : xs[n]? = some x) (hy : ys[n]? = some y)
    (q : ∀ h', IsZip h' z TI TO (rawInt s.heap.objs.size) → IsPair h' TO x y → SqI k1 h' i1 a (n + 1) → SqI k2 h' i2 b (n + 1) → IsPair h' s.heap.objs.size x y →
      (∀ c o, c ≠ z → c ≠ TO → c ≠ i1 → c ≠ i2 → s.heap.get? c = some o → h'.get? c = some o) → Q (.ref s.heap.objs.size) { s with heap := h' }) :
    wpAny (model prog w) A (Builtin.«zip.__next__» ⟨[.ref z], []⟩) (fun fin s' => ∃ v, fin = .done (.ret v) ∧ Q v s') E s := by
  refine wpAny_bind (m := field (.ref z) 2) (wpAny_field hz rfl (x := .bool false) rfl ?_)
  refine wpAny_bind (m := field (.ref z) 3) (wpAny_field hz rfl (x := .ref TI) rfl (wpAny_bind (wpAny_seqItems hTI rfl ?_)))
  refine wpAny_bind (m := Builtin.SmallTypes.ownedTupleIsFree (.ref z)) ?_
  unfold Builtin.SmallTypes.ownedTupleIsFree
  refine wpAny_bind (wpAny_field hz rfl (x := .none) rfl (wpAny_pure ?_))
  simp only [if_true]
  refine wpAny_bind (wpAny_rule (wpAny_bind (wpAny_field hz rfl (x := .ref TO) rfl (wpAny_bind (wpAny_setField_rec hz (by simp) fun g1 z1 e1 => ?_)))))
  replace z1 : IsZip g1 z TI TO .ellipsis := z1
  refine wpAny_bind ?_
  simp only [List.zipIdx_cons, List.zipIdx_nil, List.forIn_cons, List.forIn_nil]
  -- the first one's item
  refine wpAny_bind (wpAny_bind (wpAny_onRaise (wpAny_bind (m := Builtin.SmallTypes.nextOf (.ref i1)) ?_)))
  refine sq_next (h1.keep fun o => e1.extBut _ o D.i1z) (ha.keep fun o => e1.extBut _ o D.l1z) hx fun g2 p2 e2 => wpAny_pure ?_
  have t2 : IsPair g2 TO u v := e2.extBut _ _ D.TOi1 (e1.extBut _ _ D.TOz hTO)
  refine wpAny_bind (wpAny_seqItems t2 rfl (wpAny_bind (wpAny_updateSeq_pair t2 fun g3 t3 e3 => wpAny_bind (wpAny_letGo (wpAny_pure ?_)))))
  replace t3 : IsPair g3 TO x v := t3
  -- the second one's
  refine wpAny_bind (wpAny_bind (wpAny_onRaise (wpAny_bind (m := Builtin.SmallTypes.nextOf (.ref i2)) ?_)))
  have up3 : ∀ c o, c ≠ z → c ≠ TO → c ≠ i1 → s.heap.get? c = some o → g3.get? c = some o := fun c o c1 c2 c3 e => e3.extBut _ _ c2 (e2.extBut _ _ c3 (e1.extBut _ _ c1 e))
  refine sq_next (h2.keep fun o => up3 _ o D.i2z D.TOi2.symm D.i12.symm) (hb.keep fun o => up3 _ o D.l2z D.l2TO D.l2i1) hy fun g4 p4 e4 => wpAny_pure ?_
  have t4 : IsPair g4 TO x v := e4.extBut _ _ D.TOi2 t3
  refine wpAny_bind (wpAny_seqItems t4 rfl (wpAny_bind (wpAny_updateSeq_pair t4 fun g5 t5 e5 => wpAny_bind (wpAny_letGo (wpAny_pure (wpAny_pure ?_))))))
  replace t5 : IsPair g5 TO x y := t5
  refine wpAny_bind (wpAny_seqItems t5 rfl (wpAny_bind (wpAny_newTuple ?_)))
  have sz : g5.objs.size = s.heap.objs.size := by rw [e5.1, e4.1, e3.1, e2.1, e1.1]
  have up5 : ∀ c o, c ≠ z → c ≠ TO → c ≠ i1 → c ≠ i2 → s.heap.get? c = some o → g5.get? c = some o := fun c o c1 c2 c3 c4 e => e5.extBut _ _ c2 (e4.extBut _ _ c4 (up3 c o c1 c2 c3 e))
  have z5 : IsZip g5 z TI TO .ellipsis := e5.extBut _ _ D.TOz.symm (e4.extBut _ _ D.i2z.symm (e3.extBut _ _ D.TOz.symm (e2.extBut _ _ D.i1z.symm z1)))
  have a5 : SqI k1 g5 i1 a (n + 1) := p2.keep fun o e => e5.extBut _ _ D.TOi1.symm (e4.extBut _ _ D.i12 (e3.extBut _ _ D.TOi1.symm e))
  have b5 : SqI k2 g5 i2 b (n + 1) := p4.keep fun o e => e5.extBut _ _ D.TOi2.symm e
  refine wpAny_bind (m := Builtin.SmallTypes.ownedTupleHandOut (.ref z) (.ref g5.objs.size)) ?_
  unfold Builtin.SmallTypes.ownedTupleHandOut
  have z6 : IsZip (g5.push { cls := .type "tuple", data := .seq #[x, y] }) z TI TO .ellipsis := Heap.get?_push_of_some _ z5
  refine wpAny_bind (wpAny_setField_rec z6 (by simp) fun g7 z7 e7 => ?_)
  replace z7 : IsZip g7 z TI TO (rawInt g5.objs.size) := z7
  refine wpAny_setField_rec z7 (by simp) fun g8 z8 e8 => ?_
  replace z8 : IsZip g8 z TI TO (rawInt g5.objs.size) := z8
  have up8 : ∀ c o, c ≠ z → g5.get? c = some o → g8.get? c = some o := fun c o c1 e => e8.extBut _ _ c1 (e7.extBut _ _ c1 (Heap.get?_push_of_some _ e))
  have zl : g5.objs.size ≠ z := Nat.ne_of_gt (Heap.lt_size z5)
  have t8 : IsPair g8 g5.objs.size x y := e8.extBut _ _ zl (e7.extBut _ _ zl (Heap.get?_push_size _ rfl))
  rw [sz] at z8 t8
  refine wpAny_pure ⟨_, rfl, ?_⟩
  show Q (.ref g5.objs.size) _
  rw [sz]
  exact q g8 z8 (up8 _ _ D.TOz t5) (a5.keep fun o => up8 _ o D.i1z) (b5.keep fun o => up8 _ o D.i2z) t8 fun c o c1 c2 c3 c4 e => up8 c o c1 (up5 c o c1 c2 c3 c4 e)
theorem zipX_end {u v : Value} {Q : Fin → Shared → Prop} (hh : A.handled = none) (D : ZipApart z TI TO i1 i2 a b) (hz : IsZip s.heap z TI TO .none) (hTI : IsPair s.heap TI (.ref i1) (.ref i2)) (hTO : IsPair s.heap TO u v)
    (h1 : SqI k1 s.heap i1 a n) (h2 : SqI k2 s.heap i2 b n) (ha : SqH k1 s.heap a xs) (hb : SqH k2 s.heap b ys) (hend : xs[n]? = none ∨ ys[n]? = none)
    (q : ∀ h' e, (∀ c o, c ≠ z → c ≠ TO → c ≠ i1 → c ≠ i2 → s.heap.get? c = some o → h'.get? c = some o) → (∃ o, h'.get? e = some o ∧ o.cls = .type "StopIteration") → E (.ref e) { s with heap := h' }) :
    wpAny (model prog w) A (Builtin.«zip.__next__» ⟨[.ref z], []⟩) Q E s := by
  refine wpAny_bind (m := field (.ref z) 2) (wpAny_field hz rfl (x := .bool false) rfl ?_)
  refine wpAny_bind (m := field (.ref z) 3) (wpAny_field hz rfl (x := .ref TI) rfl (wpAny_bind (wpAny_seqItems hTI rfl ?_)))
  refine wpAny_bind (m := Builtin.SmallTypes.ownedTupleIsFree (.ref z)) ?_
  unfold Builtin.SmallTypes.ownedTupleIsFree
  refine wpAny_bind (wpAny_field hz rfl (x := .none) rfl (wpAny_pure ?_))
  simp only [if_true]
  refine wpAny_bind (wpAny_rule (wpAny_bind (wpAny_field hz rfl (x := .ref TO) rfl (wpAny_bind (wpAny_setField_rec hz (by simp) fun g1 z1 e1 => ?_)))))
  replace z1 : IsZip g1 z TI TO .ellipsis := z1
  refine wpAny_bind ?_
  simp only [List.zipIdx_cons, List.zipIdx_nil, List.forIn_cons, List.forIn_nil]
  refine wpAny_bind (wpAny_bind (wpAny_onRaise (wpAny_bind (m := Builtin.SmallTypes.nextOf (.ref i1)) ?_)))
  have h1' := h1.keep fun o => e1.extBut _ o D.i1z
  have ha' := ha.keep fun o => e1.extBut _ o D.l1z
  -- what happens where an iterator is at its end: the zip's record is written once more
  have fin : ∀ (g : Heap) (e : Addr), IsZip g z TI TO .ellipsis → (∀ c o, c ≠ z → c ≠ TO → c ≠ i1 → c ≠ i2 → s.heap.get? c = some o → g.get? c = some o) → (∃ o, g.get? e = some o ∧ o.cls = .type "StopIteration") →
      wpAny (model prog w) A (setField (.ref z) 0 .none) (fun _ s' => E (.ref e) s') E { s with heap := g } := fun g e zg up he => by
    obtain ⟨oe, ho, hc⟩ := he
    have hez : e ≠ z := fun r => by subst r; rw [zg] at ho; cases ho; simp at hc
    exact wpAny_setField_rec zg (by simp) fun g' _ e' => q g' e (fun c o c1 c2 c3 c4 r => e'.extBut _ _ c1 (up c o c1 c2 c3 c4 r)) ⟨oe, e'.extBut _ _ hez ho, hc⟩
  cases hx : xs[n]? with
  | none =>
    refine sq_next_end hh h1' ha' hx fun g2 e e2 he => ?_
    exact fin g2 e (e2 _ _ D.i1z.symm z1) (fun c o c1 _ c3 _ r => e2 _ _ c3 (e1.extBut _ _ c1 r)) he
  | some x =>
    have hy : ys[n]? = none := by rcases hend with h | h; rw [hx] at h; cases h; exact h
    refine sq_next h1' ha' hx fun g2 p2 e2 => wpAny_pure ?_
    have t2 : IsPair g2 TO u v := e2.extBut _ _ D.TOi1 (e1.extBut _ _ D.TOz hTO)
    refine wpAny_bind (wpAny_seqItems t2 rfl (wpAny_bind (wpAny_updateSeq_pair t2 fun g3 t3 e3 => wpAny_bind (wpAny_letGo (wpAny_pure ?_)))))
    refine wpAny_bind (wpAny_bind (wpAny_onRaise (wpAny_bind (m := Builtin.SmallTypes.nextOf (.ref i2)) ?_)))
    have up3 : ∀ c o, c ≠ z → c ≠ TO → c ≠ i1 → s.heap.get? c = some o → g3.get? c = some o := fun c o c1 c2 c3 e => e3.extBut _ _ c2 (e2.extBut _ _ c3 (e1.extBut _ _ c1 e))
    refine sq_next_end hh (h2.keep fun o => up3 _ o D.i2z D.TOi2.symm D.i12.symm) (hb.keep fun o => up3 _ o D.l2z D.l2TO D.l2i1) hy fun g4 e e4 he => ?_
    exact fin g4 e (e4 _ _ D.i2z.symm (e3.extBut _ _ D.TOz.symm (e2.extBut _ _ D.i1z.symm z1))) (fun c o c1 c2 c3 c4 r => e4 _ _ c4 (up3 c o c1 c2 c3 r)) he
/-- the heap behind zip(a, b) -/
def zipHX (k1 k2 : Bool) (h : Heap) (a b : Addr) : Heap :=
  ((((h.push (itO k1 a)).push (itO k2 b)).push { cls := .type "tuple", data := .seq #[.ref h.objs.size, .ref (h.objs.size + 1)] }).push { cls := .type "tuple", data := .seq #[.none, .none] }).push
    { cls := .type "zip", data := .fields #[.none, .bool false, .bool false, .ref (h.objs.size + 2), .ref (h.objs.size + 3)] }
theorem meets_zipX (k1 k2 : Bool) (a b : Addr) (xs ys : Array Value) :
    Meets (Builtin.«zip.__new__» ⟨[.type "zip", .ref a, .ref b], []⟩) (fun _ R s => SqH k1 s.heap a xs ∧ SqH k2 s.heap b ys ∧ R (.ok (.ret (.ref (s.heap.objs.size + 4)))) { s with heap := zipHX k1 k2 s.heap a b }) :=
  .of_wp fun prog w A R s h => by
    obtain ⟨hp, g, d, tk, os⟩ := s
    obtain ⟨ha, hb, h⟩ := h
    have hsub := sub_zip
    have hA : SqH k1 (Shared.heap ⟨hp, g, d, tk, os⟩) a xs := ha
    have hB : SqH k2 (Shared.heap ⟨hp.push (itO k1 a), g, d, tk, os⟩) b ys := hb.keep fun o e => Heap.get?_push_of_some _ e
    wp_walk using sq_iter hA, sq_iter hB
    refine ⟨_, rfl, ?_⟩
    have s1 : (hp.push (itO k1 a)).objs.size = hp.objs.size + 1 := Heap.size_push ..
    have s2 : ((hp.push (itO k1 a)).push (itO k2 b)).objs.size = hp.objs.size + 2 := by rw [Heap.size_push, s1]
    simp only [Heap.size_push]
    exact h
theorem call_zipX {Q : Value → Shared → Prop} (ha : SqH k1 s.heap a xs) (hb : SqH k2 s.heap b ys)
    (h : ∀ h', IsZip h' (s.heap.objs.size + 4) (s.heap.objs.size + 2) (s.heap.objs.size + 3) .none → IsPair h' (s.heap.objs.size + 2) (.ref s.heap.objs.size) (.ref (s.heap.objs.size + 1)) → IsPair h' (s.heap.objs.size + 3) .none .none →
      SqI k1 h' s.heap.objs.size a 0 → SqI k2 h' (s.heap.objs.size + 1) b 0 → (∀ c o, s.heap.get? c = some o → h'.get? c = some o) → Q (.ref (s.heap.objs.size + 4)) { s with heap := h' }) :
    wpAny (model prog w) A (call (.type "zip") [.ref a, .ref b]) Q E s := by
  refine callType_new F.called_zip (by decide) (F.typeCall_zip_2 _ _) (F.newCall_zip_2 _ _) (fun obj => F.args_object_init_3 obj _ _) F.entry_zip_new (meets_zipX k1 k2 a b xs ys) ⟨ha, hb, ?_⟩
  have s1 : (s.heap.push (itO k1 a)).objs.size = s.heap.objs.size + 1 := Heap.size_push ..
  have s2 : ((s.heap.push (itO k1 a)).push (itO k2 b)).objs.size = s.heap.objs.size + 2 := by rw [Heap.size_push, s1]
  have s3 : (((s.heap.push (itO k1 a)).push (itO k2 b)).push { cls := .type "tuple", data := .seq #[.ref s.heap.objs.size, .ref (s.heap.objs.size + 1)] }).objs.size = s.heap.objs.size + 3 := by rw [Heap.size_push, s2]
  have s4 : ((((s.heap.push (itO k1 a)).push (itO k2 b)).push { cls := .type "tuple", data := .seq #[.ref s.heap.objs.size, .ref (s.heap.objs.size + 1)] }).push { cls := .type "tuple", data := .seq #[.none, .none] }).objs.size = s.heap.objs.size + 4 := by rw [Heap.size_push, s3]
  have g4 : IsZip (zipHX k1 k2 s.heap a b) (s.heap.objs.size + 4) (s.heap.objs.size + 2) (s.heap.objs.size + 3) .none := by
    have e := Heap.get?_push_size ((((s.heap.push (itO k1 a)).push (itO k2 b)).push { cls := .type "tuple", data := .seq #[.ref s.heap.objs.size, .ref (s.heap.objs.size + 1)] }).push { cls := .type "tuple", data := .seq #[.none, .none] }) (o := { cls := .type "zip", data := .fields #[.none, .bool false, .bool false, .ref (s.heap.objs.size + 2), .ref (s.heap.objs.size + 3)] }) rfl
    rw [s4] at e; exact e
  have g3 : IsPair (zipHX k1 k2 s.heap a b) (s.heap.objs.size + 3) .none .none := by
    have e := Heap.get?_push_of_some { cls := .type "zip", data := .fields #[.none, .bool false, .bool false, .ref (s.heap.objs.size + 2), .ref (s.heap.objs.size + 3)] } (Heap.get?_push_size (((s.heap.push (itO k1 a)).push (itO k2 b)).push { cls := .type "tuple", data := .seq #[.ref s.heap.objs.size, .ref (s.heap.objs.size + 1)] }) (o := { cls := .type "tuple", data := .seq #[.none, .none] }) rfl)
    rw [s3] at e; exact e
  have g2 : IsPair (zipHX k1 k2 s.heap a b) (s.heap.objs.size + 2) (.ref s.heap.objs.size) (.ref (s.heap.objs.size + 1)) := by
    have e := Heap.get?_push_of_some { cls := .type "zip", data := .fields #[.none, .bool false, .bool false, .ref (s.heap.objs.size + 2), .ref (s.heap.objs.size + 3)] } (Heap.get?_push_of_some { cls := .type "tuple", data := .seq #[.none, .none] } (Heap.get?_push_size ((s.heap.push (itO k1 a)).push (itO k2 b)) (o := { cls := .type "tuple", data := .seq #[.ref s.heap.objs.size, .ref (s.heap.objs.size + 1)] }) rfl))
    rw [s2] at e; exact e
  have g1 : (zipHX k1 k2 s.heap a b).get? (s.heap.objs.size + 1) = some (itO k2 b) := by
    have e := Heap.get?_push_size (s.heap.push (itO k1 a)) (o := itO k2 b) (by cases k2 <;> rfl)
    rw [s1] at e
    exact Heap.get?_push_of_some _ (Heap.get?_push_of_some _ (Heap.get?_push_of_some _ e))
  have g0 : (zipHX k1 k2 s.heap a b).get? s.heap.objs.size = some (itO k1 a) := Heap.get?_push_of_some _ (Heap.get?_push_of_some _ (Heap.get?_push_of_some _ (Heap.get?_push_of_some _ (Heap.get?_push_size _ (by cases k1 <;> rfl)))))
  exact ⟨⟨_, g4, rfl⟩, h _ g4 g2 g3 (SqI.new g0) (SqI.new g1) fun c o e => Heap.get?_push_of_some _ (Heap.get?_push_of_some _ (Heap.get?_push_of_some _ (Heap.get?_push_of_some _ (Heap.get?_push_of_some _ e))))⟩
end
def ItzX (k1 k2 : Bool) (K : PySem.W.Frag) (a b : Addr) (xs ys : List V) : It :=
  ⟨fun i H => SqX k1 K H a xs ∧ SqX k2 K H b ys ∧ i < xs.length ∧ i < ys.length, fun i H v H' => ∃ T x y, v = .ref T ∧ H T = none ∧ H' = upd H T (.tup [x, y]) ∧ xs[i]? = some x ∧ ys[i]? = some y,
    fun i H => SqX k1 K H a xs ∧ SqX k2 K H b ys ∧ (xs.length ≤ i ∨ ys.length ≤ i)⟩
theorem turn_zipX {P : Program} {w : World} {K : PySem.W.Frag} {elts : List Expr} {kk : Nat} {tpos : Pos} {k1 k2 : Bool} {a b z TI TO i1 i2 : Addr} (xs ys : List V) (D : ZipApart z TI TO i1 i2 a b) :
    Turn P w K (.Tuple elts kk tpos) (ItzX k1 k2 K a b xs ys) [z, TI, TO, i1, i2] z (fun i h => IsZip h z TI TO .none ∧ IsPair h TI (.ref i1) (.ref i2) ∧ (∃ x y, IsPair h TO x y) ∧ SqI k1 h i1 a i ∧ SqI k2 h i2 b i) where
  mem := by simp
  obj := fun i h st c hc => by
    obtain ⟨hz, hTI, ⟨x, y, hTO⟩, h1, h2⟩ := st
    have e' : c = z ∨ c = TI ∨ c = TO ∨ c = i1 ∨ c = i2 := by simpa using hc
    rcases e' with q | q | q | q | q
    · rw [q]; exact ⟨_, hz, fun v q => nomatch q⟩
    · rw [q]; exact ⟨_, hTI, fun v q => nomatch q⟩
    · rw [q]; exact ⟨_, hTO, fun v q => nomatch q⟩
    · rw [q]; exact h1.obj
    · rw [q]; exact h2.obj
  keep := fun i h h' st k => by
    obtain ⟨hz, hTI, ⟨x, y, hTO⟩, h1, h2⟩ := st
    exact ⟨k z (by simp) _ hz, k TI (by simp) _ hTI, ⟨x, y, k TO (by simp) _ hTO⟩, h1.keep fun o q => k i1 (by simp) o q, h2.keep fun o q => k i2 (by simp) o q⟩
  item := by
    intro X hP hw hK hc i pins s σ H E I hf st hg
    subst hP hw hK
    obtain ⟨hz, hTI, ⟨x0, y0, hTO⟩, h1, h2⟩ := st
    obtain ⟨hqx, hqy, lx, ly⟩ := hg
    obtain ⟨x, hx⟩ : ∃ x, xs[i]? = some x := ⟨xs[i], by simp [lx]⟩
    obtain ⟨y, hy⟩ : ∃ y, ys[i]? = some y := ⟨ys[i], by simp [ly]⟩
    obtain ⟨its, rv, p, _⟩ := sqx I hqx
    obtain ⟨its2, rv2, p2, _⟩ := sqx I hqy
    obtain ⟨u, hu, ru⟩ := rv.get hx
    obtain ⟨u2, hu2, ru2⟩ := rv2.get hy
    have hzl : z < s.heap.objs.size := Heap.lt_size hz
    have hTz : s.TypeIs (.ref z) "zip" := ⟨_, hz, rfl⟩
    unfold pyNext
    refine wpAny_bind (wpAny_attempt (wpAny_callSpecial?_slot (name := Str.ofString "__next__") hTz F.slot_zip_next (wpAny_call_entry F.slot_zip_next hTz F.entry_zip_next ?_ (F.args_zip_next_1 _))))
    refine zipX_item D hz hTI hTO h1 h2 p p2 (x := u) (y := u2) (by simpa using hu) (by simpa using hu2) fun h' z' TO' h1' h2' hT hk => wpAny_pure ?_
    refine ⟨_, rfl, wpAny_letOwnedTupleGo_zip (s := { s with heap := h' }) z' fun h'' z'' sb => ?_⟩
    have hT2 : h''.get? s.heap.objs.size = some { cls := .type "tuple", data := .seq #[u, u2] } := (sb.2 _ (Nat.ne_of_gt hzl)).trans hT
    have new : ObjOk X.prog X.w (upd H s.heap.objs.size (.tup [x, y])) h'' s.heap.objs.size (.tup [x, y]) :=
      ⟨by show 2 ≤ sizeLine; decide, [u, u2], .cons ru (.cons ru2 .nil), ⟨_, hT2, ⟨rfl, _, rfl⟩, rfl⟩⟩
    have I1 : Inv X pins σ (upd H s.heap.objs.size (.tup [x, y])) { s with heap := h'' } :=
      I.turnedNew (t' := s.toks) (ch := [z, TI, TO, i1, i2]) (fun c o hb q => (sb.2 c (fun q' => hb (by simp [q']))).trans (hk c o (fun q' => hb (by simp [q'])) (fun q' => hb (by simp [q'])) (fun q' => hb (by simp [q'])) (fun q' => hb (by simp [q'])) q)) hf (Nat.le_refl _) new
    refine ⟨.ref s.heap.objs.size, _, I1, rfl, ⟨_, x, y, rfl, I.hok.fresh (Nat.le_refl _), rfl, hx, hy⟩, ⟨z'', ?_, ⟨u, u2, ?_⟩, ?_, ?_⟩, fun c hcm => ?_⟩
    · exact (sb.2 _ D.TIz).trans (hk _ _ D.TIz D.TITO D.TIi1 D.TIi2 hTI)
    · exact (sb.2 _ D.TOz).trans TO'
    · exact h1'.keep fun o q => (sb.2 _ D.i1z).trans q
    · exact h2'.keep fun o q => (sb.2 _ D.i2z).trans q
    · have hlt : c < s.heap.objs.size := by
        have e' : c = z ∨ c = TI ∨ c = TO ∨ c = i1 ∨ c = i2 := by simpa using hcm
        rcases e' with q | q | q | q | q
        · rw [q]; exact hzl
        · rw [q]; exact Heap.lt_size hTI
        · rw [q]; exact Heap.lt_size hTO
        · rw [q]; exact h1.lt
        · rw [q]; exact h2.lt
      rw [upd_ne (Nat.ne_of_lt hlt)]
      exact (hf c hcm).1
  done := by
    intro X hP hw hK hc i pins s σ H E I hf st hg
    subst hP hw hK
    obtain ⟨hz, hTI, ⟨x0, y0, hTO⟩, h1, h2⟩ := st
    obtain ⟨hqx, hqy, hend⟩ := hg
    obtain ⟨its, rv, p, _⟩ := sqx I hqx
    obtain ⟨its2, rv2, p2, _⟩ := sqx I hqy
    have l1 := rv.length
    have l2 := rv2.length
    have he : its.toArray[i]? = none ∨ its2.toArray[i]? = none := by
      rcases hend with q | q
      · exact .inl (by simp; omega)
      · exact .inr (by simp; omega)
    have hTz : s.TypeIs (.ref z) "zip" := ⟨_, hz, rfl⟩
    have hh : X.A.in1.handled = none := I.ok.hd hc
    unfold pyNext
    refine wpAny_bind (wpAny_attempt (wpAny_callSpecial?_slot (name := Str.ofString "__next__") hTz F.slot_zip_next (wpAny_call_entry F.slot_zip_next hTz F.entry_zip_next ?_ (F.args_zip_next_1 _))))
    refine zipX_end hh D hz hTI hTO h1 h2 p p2 he fun h' e hk hx => ?_
    obtain ⟨o, ho, hcl⟩ := hx
    refine wpAny_bind (wpAny_isInstance (T := "StopIteration") (b := true) ⟨o, ho, hcl⟩ isSubtype_stop (wpAny_pure ⟨rfl, I.turnedL (t' := s.toks) (ch := [z, TI, TO, i1, i2]) (fun c o hb q =>
      hk c o (fun q' => hb (by simp [q'])) (fun q' => hb (by simp [q'])) (fun q' => hb (by simp [q'])) (fun q' => hb (by simp [q'])) q) hf⟩))
  self := fun A i s Q E st h => wpAny_pyIter_zip st.1 h
def iZipX (K : PySem.W.Frag) (ta : TA) : TI := fun σ H R => ta σ H fun vs H1 => ∃ k1 k2 a b xs ys, vs = [.ref a, .ref b] ∧ SqX k1 K H1 a xs ∧ SqX k2 K H1 b ys ∧ R (ItzX k1 k2 K a b xs ys) H1
theorem pi_zipX {X : Cx} {e e2 : Expr} {ta : TA} {p pos tpos : Pos} {elts : List Expr} {kk : Nat} (hg : Gl X "zip") (hm : X.mg "zip" = none) (ha : PA X [e, e2] ta)
    (hs : starEach [e, e2] X.env = (false, eval e X.env) :: starEach [e2] X.env := by rfl) (hpl : (backTo pos (starEach [e2] X.env)).any (·.1) = false := by rfl) :
    PI X (.Tuple elts kk tpos) (.Call (.Name "zip" p) [e, e2] [] pos) (iZipX X.K ta) := by
  intro pins s σ H R I h
  refine Call_ (ld_blt I hg hm boot_zip5 (PyProof.Rows.callWith_type1 (thn (ha pos pins s σ H _ I h) fun us s1 ⟨vs, H1, I1, r1, q1⟩ => ?_) hs hpl))
  obtain ⟨k1, k2, a, b, xs, ys, ex, hqx, hqy, q⟩ := q1
  subst ex
  cases r1 with
  | cons r rr =>
    cases rr with
    | cons r' rr =>
      cases rr
      cases r
      cases r'
      obtain ⟨its, rv, p1, _⟩ := sqx I1 hqx
      obtain ⟨its2, rv2, p2, _⟩ := sqx I1 hqy
      refine call_zipX p1 p2 fun h' hz hTI hTO h1 h2 hk => wpAny_pyIter_zip hz ?_
      have I2 : Inv X pins σ H1 { s1 with heap := h' } := I1.kept (t' := s1.toks) hk
      refine ⟨s1.heap.objs.size + 4, [s1.heap.objs.size + 4, s1.heap.objs.size + 2, s1.heap.objs.size + 3, s1.heap.objs.size, s1.heap.objs.size + 1], _, _, H1, rfl, I2, turn_zipX xs ys (PySem.W.ktu_apart s1.heap.objs.size a b p1.lt p2.lt), ⟨hz, hTI, ⟨_, _, hTO⟩, h1, h2⟩, fun c hcm => ?_, q⟩
      have e' : c = s1.heap.objs.size + 4 ∨ c = s1.heap.objs.size + 2 ∨ c = s1.heap.objs.size + 3 ∨ c = s1.heap.objs.size ∨ c = s1.heap.objs.size + 1 := by simpa using hcm
      have hle : s1.heap.objs.size ≤ c := by
        rcases e' with z | z | z | z | z <;> rw [z] <;> first | exact Nat.le_refl _ | exact Nat.le_add_right _ _
      exact I1.fpOk hle (I1.hok.fresh hle)
/-- a comprehension over a zip -/
theorem lc_zipX {K : PySem.W.Frag} {k1 k2 : Bool} {a b : Addr} {xs ys : List V} {g : TG} {tt : TT} {te : TE} {vs : List Nat} {σ : L2.St} {H1 : Hp} {D : Addr} {Qd : Hp → Prop} (n : Nat) (hn : n = min xs.length ys.length) (Pv : Nat → Hp → Prop) (h0 : Pv 0 (upd H1 D (.lst []))) (hl : ∀ i H, i ≤ n → Pv i H → SqX k1 K H a xs ∧ SqX k2 K H b ys)
    (hs : ∀ i x y T H, xs[i]? = some x → ys[i]? = some y → H T = none → Pv i H → g (.ref T) (wipe σ vs) (upd H T (.tup [x, y])) fun σ2 H2 => wipe σ2 vs = wipe σ vs ∧ tt σ2 H2 fun b H3 =>
      if b = true then te σ2 H3 fun y H4 => ∃ acc, H4 D = some (.lst acc) ∧ acc.length < sizeLine ∧ Pv (i + 1) (upd H4 D (.lst (acc ++ [y]))) else Pv (i + 1) H3) (hd : ∀ H, Pv n H → Qd H) :
    ∃ W : Nat → Nat → Hp → Prop, (∃ m, W 0 m (upd H1 D (.lst []))) ∧ ∀ i m H, W i m H →
      ((ItzX k1 k2 K a b xs ys).stop i H ∧ Qd H) ∨ ((ItzX k1 k2 K a b xs ys).go i H ∧ ∃ Nx : Hp → Prop, (∀ H', Nx H' → ∃ m', m' < m ∧ W (i + 1) m' H') ∧ ∀ x H', (ItzX k1 k2 K a b xs ys).yld i H x H' → g x (wipe σ vs) H' fun σ2 H2 => wipe σ2 vs = wipe σ vs ∧ tt σ2 H2 fun b H3 =>
        if b = true then te σ2 H3 fun y H4 => ∃ acc, H4 D = some (.lst acc) ∧ acc.length < sizeLine ∧ Nx (upd H4 D (.lst (acc ++ [y]))) else Nx H3) := by
  refine ⟨fun i m H => m = n - i ∧ i ≤ n ∧ Pv i H, ⟨n, by simp, Nat.zero_le _, h0⟩, ?_⟩
  rintro i m H ⟨rfl, hi, p⟩
  obtain ⟨q1, q2⟩ := hl i H hi p
  by_cases hlt : i < n
  · refine .inr ⟨⟨q1, q2, by omega, by omega⟩, Pv (i + 1), fun H' p' => ⟨n - (i + 1), by omega, rfl, hlt, p'⟩, fun v H' y => ?_⟩
    obtain ⟨T, x, y, rfl, hT, rfl, hx, hy⟩ := y
    exact hs i x y T H hx hy hT p
  · have e : i = n := by omega
    subst e
    exact .inl ⟨⟨q1, q2, by omega⟩, hd H p⟩
end L3
set_option Elab.async false
set_option linter.all false
set_option maxRecDepth 100000
namespace L3
open PySem PySem.Spec PyProof.Rows L2
section
variable {X : Cx}
end
end L3
set_option Elab.async false
set_option linter.all false
set_option maxRecDepth 100000
namespace L3
open PySem PySem.Spec PyProof.Rows L2
structure Def (P : Program) (w : World) (K : PySem.W.Frag) (mg : Str → Option Value) (base : Heap) (x : Str) (k : Nat) (ps : List Str) (sp : Sp) : Prop where
  ex : ∃ (f : Addr) (fd : FuncData), FnOk P w K mg base CX0 k f fd ps sp ∧ mg x = some (.ref f) ∧ PySem.W.keepIn K (.ref f) = true ∧ Binds K fd ps []
theorem pe_def {X : Cx} {x : Str} {k : Nat} {ps : List Str} {sp : Sp} {e : Expr} {es : List Expr} {t : TA} {p pos : Pos} (D : Def X.prog X.w X.K X.mg X.base x k ps sp) (hr : Room k X.A) (hg : Gl X x) (ha : PA X (e :: es) t)
    (hdb : (x == ("__debug__" : Str)) = false := by decide) (he : starEach (e :: es) X.env = (false, eval e X.env) :: starEach es X.env := by rfl) (hpl : (backTo pos (starEach es X.env)).any (·.1) = false := by rfl) :
    PE X (.Call (.Name x p) (e :: es) [] pos) (tCall sp [] E0 t) := by
  obtain ⟨f, fd, F, m, kp, b⟩ := D.ex
  exact pe_call F hr hg m kp b .nil pass0 ha hdb he hpl
def tCut (t : TS) : TS := fun D σ H => ∃ R : L2.St → Hp → Prop, t { D with nx := R } σ H ∧ ∀ σ' H', R σ' H' → D.nx σ' H'
theorem ps_cut {X : Cx} {st : Stmt} {t : TS} (h : PS X st t) : PS X st (tCut t) := by
  intro pins s σ H D I hw
  obtain ⟨R, h1, h2⟩ := hw
  refine thn (h pins s σ H { D with nx := R } I h1) fun f s' q => ?_
  cases f with
  | next => obtain ⟨σ', H', I', r⟩ := q; exact ⟨σ', H', I', h2 _ _ r⟩
  | brk => exact q
  | cont => exact q
  | ret u => exact q
theorem iteB {b : Bool} {A B : Prop} (h : b = false) (q : B) : if b = true then A else B := by subst h; exact iteF q
theorem iteA {b : Bool} {A B : Prop} (h : b = true) (q : A) : if b = true then A else B := by subst h; exact iteT q
/-- the built-ins that no text has bound -/
structure Tn (mg : Str → Option Value) : Prop where
  list_ : mg "list" = none
  tuple_ : mg "tuple" = none
  range_ : mg "range" = none
  int_ : mg "int" = none
  bool_ : mg "bool" = none
  str_ : mg "str" = none
  len_ : mg "len" = none
  isinstance_ : mg "isinstance" = none
  all_ : mg "all" = none
  zip_ : mg "zip" = none
  enumerate_ : mg "enumerate" = none
  max_ : mg "max" = none
  min_ : mg "min" = none
  sorted_ : mg "sorted" = none
  set_ : mg "set" = none
  repr_ : mg "repr" = none
  sum_ : mg "sum" = none
  any_ : mg "any" = none
  abs_ : mg "abs" = none
  dict_ : mg "dict" = none
def Kp (j c : Addr) (H H' : Hp) : Prop := ∀ b o, H b = some o → b ≠ j → b ≠ c → H' b = some o
theorem Kp.refl {j c : Addr} (H : Hp) : Kp j c H H := fun _ _ h _ _ => h
theorem Kp.trans {j c : Addr} {H H1 H2 : Hp} (a : Kp j c H H1) (b : Kp j c H1 H2) : Kp j c H H2 := fun x o h h1 h2 => b x o (a x o h h1 h2) h1 h2
theorem Same.kp {j c : Addr} {H H' : Hp} (a : Same H H') : Kp j c H H' := fun x o h _ _ => a x o h
theorem same_upd {H : Hp} {p : Addr} {o : HO} (h : H p = none) : Same H (upd H p o) := fun b u e => by rw [upd_ne (ne_of_none e h)]; exact e
def kv (c : Addr) (r s t : Int) : List (Key × V) := [(Sum.inr "cells", .ref c), (Sum.inr "rest", .int r), (Sum.inr "seed", .int s), (Sum.inr "turn", .int t)]
theorem kv_made (c : Addr) (r s t : Int) : mergeK [] (kv c r s t) = kv c r s t := rfl
theorem jget_cells {H : Hp} {j c : Addr} {r s t : Int} (h : H j = some (.dK (kv c r s t))) : DGet H j (.str "cells") (some (.ref c)) := DGet.k (k := Sum.inr "cells") h
theorem jget_rest {H : Hp} {j c : Addr} {r s t : Int} (h : H j = some (.dK (kv c r s t))) : DGet H j (.str "rest") (some (.int r)) := DGet.k (k := Sum.inr "rest") h
theorem jget_seed {H : Hp} {j c : Addr} {r s t : Int} (h : H j = some (.dK (kv c r s t))) : DGet H j (.str "seed") (some (.int s)) := DGet.k (k := Sum.inr "seed") h
theorem jget_turn {H : Hp} {j c : Addr} {r s t : Int} (h : H j = some (.dK (kv c r s t))) : DGet H j (.str "turn") (some (.int t)) := DGet.k (k := Sum.inr "turn") h
theorem kv4 {c : Addr} {r s t : Int} : (kv c r s t).length < sizeLine := by show 4 < sizeLine; decide
theorem jput_rest {H : Hp} {j c : Addr} {r s t r' : Int} (h : H j = some (.dK (kv c r s t))) : DPut H j (.str "rest") (.int r') (upd H j (.dK (kv c r' s t))) := DPut.k (k := Sum.inr "rest") h kv4
theorem jput_seed {H : Hp} {j c : Addr} {r s t r' : Int} (h : H j = some (.dK (kv c r s t))) : DPut H j (.str "seed") (.int r') (upd H j (.dK (kv c r r' t))) := DPut.k (k := Sum.inr "seed") h kv4
theorem jput_turn {H : Hp} {j c : Addr} {r s t r' : Int} (h : H j = some (.dK (kv c r s t))) : DPut H j (.str "turn") (.int r') (upd H j (.dK (kv c r s r'))) := DPut.k (k := Sum.inr "turn") h kv4
theorem dpAll_ints {K : PySem.W.Frag} {H : Hp} : ∀ ns : List Int, DpAll K H (ns.map V.int) (ns.map PyData.int)
  | [] => .nil
  | n :: ns => .cons (.int n) (dpAll_ints ns)
structure Jar (H : Hp) (j c : Addr) : Prop where
  ex : ∃ (cells : List Int) (r s t : Int), H j = some (.dK (kv c r s t)) ∧ H c = some (.lst (cells.map V.int)) ∧ cells.length ≤ 63
end L3
set_option Elab.async false
set_option linter.all false
set_option maxRecDepth 100000
namespace L3
open PySem PySem.Spec PyProof.Rows L2
section
variable {X : Cx} {K : PySem.W.Frag}
theorem call_len_seq' (h : X.K = K) : CallR X (.builtin "len") (fun xs H Q => ∃ p ys, xs = [.ref p] ∧ (SqL K H p ys ∨ SqT K H p ys) ∧ Q (.int ys.length) H) := h ▸ call_len_seq
variable {o e : Expr} {es : List Expr} {to : TE} {t : TA} {name : Str} {apos cpos : Pos} {T id : String} {r : V → List V → Hp → VK → Prop}
theorem pe_bm' (h : X.K = K) (pa : PlainAttrs T) (slot : Slot T name id) (hty : typeOf (.builtin id) = pure (.type "method_descriptor")) (hm : MtR X id r) (ho : PE X o to) (ha : PA X (e :: es) t)
    (hbase : attributeBase o name X.env (eval o X.env) = eval o X.env := by rfl)
    (hfew : ((backTo cpos (starEach (e :: es) X.env)).all (fun x => !x.1) && (backToKw cpos (keywordEach [] X.env)).all (fun x => x.1.isSome)
      && decide ((e :: es).length + ([] : List Keyword).length + (if ([] : List Keyword).isEmpty then 0 else 1) < 30)) = true := by rfl)
    (hline : (apos.endLine == cpos.line) = true := by rfl) (hs : starEach (e :: es) X.env = (false, eval e X.env) :: starEach es X.env := by rfl) (hplain : (backTo cpos (starEach es X.env)).any (·.1) = false := by rfl) :
    PE X (.Call (.Attribute o name apos) (e :: es) [] cpos) (tBM K T r to t) := h ▸ pe_bm pa slot hty hm ho ha hbase hfew hline hs hplain
variable {tg : Expr}
theorem pg_tup' {es : List Expr} {k : Nat} {t : TGs} {n : Nat} {pos : Pos} (h : X.K = K) (hc : X.calm = true) (hg : PGs X es t)
    (hn : (assignEach es X.env).length = n := by rfl) (hst : (assignEach es X.env).findIdx? (·.1) = none := by rfl) : PG X (.Tuple es k pos) (gTup K n t) := h ▸ pg_tup hc hg hn hst
end
end L3
set_option Elab.async false
set_option linter.all false
set_option maxRecDepth 100000
namespace L3
open PySem PySem.Spec PyProof.Rows L2
section
variable {prog : Program} {w : World} {A : Around} {E : Value → Shared → Prop} {s : Shared}
end
section
variable {X : Cx} {e c : Expr} {te : TE} {pos p2 : Pos}
end
end L3
set_option Elab.async false
set_option linter.all false
set_option maxRecDepth 100000
namespace L3
open PySem PySem.Spec PyProof.Rows L2
end L3
set_option Elab.async false
set_option linter.all false
set_option maxRecDepth 100000
namespace L3
open PySem PySem.Spec PyProof.Rows L2
theorem tuple_add0 (l : Addr) (items : Array Value) (n : Nat) (d1 : Option Addr) (s1 : Array (Option Value)) (b : Addr) (items2 : Array Value) (n2 : Nat) (d2 : Option Addr) (s2 : Array (Option Value)) (hc : items.isEmpty = true) :
    Meets (Builtin.«tuple.__add__» ⟨[.ref l, .ref b], []⟩) (fun _ R s => s.heap.get? l = some { cls := .type "tuple", dict := d1, data := .seq items n, slots := s1 } ∧ s.heap.get? b = some { cls := .type "tuple", dict := d2, data := .seq items2 n2, slots := s2 } ∧ R (.ok (.ret (.ref b))) s) :=
  .of_wp fun prog w A R s h => by
    obtain ⟨hp, g, d, tk, os⟩ := s
    obtain ⟨h1, h2, h⟩ := h
    have hsub := sub_tuple_self
    wp_walk using AutoSeq1.wpAny_loadPart' h1, AutoSeq1.wpAny_loadPart' h2
    exact ⟨_, rfl, h⟩
section
variable {X : Cx}
def rCatG (K : PySem.W.Frag) : R2 := fun x y H Q => ∃ a b xs ys, x = .ref a ∧ y = .ref b ∧ SqT K H a xs ∧ SqT K H b ys ∧ xs.length + ys.length ≤ sizeLine ∧ (xs = [] → Q (.ref b) H) ∧ (xs ≠ [] → ys = [] → Q (.ref a) H) ∧
  (xs ≠ [] → ys ≠ [] → ∀ p, H p = none → Q (.ref p) (upd H p (.tup (xs ++ ys))))
theorem op_catG : OpR X (binaryOp .Add) (rCatG X.K) := by
  intro pins s σ H x y v u Q I rx ry h
  obtain ⟨a, b, xs, ys, rfl, rfl, ha, hb, hz, q0, q1, q2⟩ := h
  by_cases hx : xs = []
  · cases rx
    cases ry
    obtain ⟨its, r1, p1, _⟩ := I.tuple ha
    obtain ⟨its2, r2, p2, _⟩ := I.tuple hb
    have e0 : its = [] := r1.nil_iff.mpr hx
    obtain ⟨⟨cls, dd, data, sl⟩, ho, hc, n, hd⟩ := id p1
    obtain ⟨⟨cls2, dd2, data2, sl2⟩, ho2, hc2, n2, hd2⟩ := id p2
    simp only at hc hd hc2 hd2
    subst hc hd hc2 hd2
    exact concat_meets ⟨_, ho, rfl⟩ ⟨_, ho2, rfl⟩ noFill_tuple_add seq_tuple_add PySem.F.slot_tuple_add PySem.F.entry_tuple_add (PySem.F.args_tuple_add_2 _ _)
      (tuple_add0 a its.toArray n dd sl b its2.toArray n2 dd2 sl2 (by rw [e0]; rfl)) ⟨ho, ho2, ⟨.ref b, H, I, rfl, q0 hx⟩⟩
  · exact op_catT pins s σ H _ _ v u Q I rx ry ⟨a, b, xs, ys, rfl, rfl, ha, hb, hx, hz, q1 hx, q2 hx⟩
end
end L3
set_option Elab.async false
set_option linter.all false
set_option maxRecDepth 100000
namespace L3
open PySem PySem.Spec PyProof.Rows L2
section
variable {X : Cx}
theorem op_isB : OpR X (compareOp .Is) (fun x y H Q => ∃ c d, x = .bl c ∧ y = .bl d ∧ Q (.bl (c == d)) H) := by
  intro pins s σ H x y v u Q I rx ry h
  obtain ⟨c, d, rfl, rfl, q⟩ := h
  cases rx
  cases ry
  exact is_bool (fin_bl I q rfl)
end
theorem RgC.pos {n c : Int} (h0 : 0 ≤ n) (h1 : n < 1000) (c1 : 1 ≤ c) (c2 : c < 1000) : RgC 0 n c ((n + c - 1) / c).toNat := by
  have e := rangeSize_pos c1 h0
  have e0 : 0 ≤ (n + c - 1) / c := Int.ediv_nonneg (by omega) (by omega)
  refine ⟨by omega, by omega, ?_, by rw [e]; omega⟩
  have e1 : (n + c - 1) / c ≤ n + c - 1 := Int.ediv_le_self _ (by omega)
  have e2 : (n + c - 1) / c * c ≤ n + c - 1 := Int.ediv_mul_le _ (by omega)
  unfold Builtin.Range.small
  rw [e]
  simp only [Builtin.Range.rangeFitsLong, Bool.and_eq_true, Bool.or_eq_true, decide_eq_true_eq, beq_iff_eq, show c > 0 by omega, if_true]
  generalize (n + c - 1) / c = q at *
  omega
end L3
set_option Elab.async false
set_option linter.all false
set_option maxRecDepth 100000
namespace L3
open PySem PySem.Spec PyProof.Rows L2
structure CodeK (K : PySem.W.Frag) (cd : Value) (PT : Addr) : Prop where
  ex : ∃ (c : Addr) (od : Option Addr) (vs : Array Value) (sl : Array (Option Value)) (file : Str) (tf : Tok) (flags : Int) (tg : Tok) (inF : Bool) (text : Int) (tt : Tok), cd = .ref c ∧ K.lookup c = some ⟨.type "code", od, .fields vs, sl⟩ ∧
    vs.getD 11 .none = .ref PT ∧ vs[11]? = some (.ref PT) ∧ vs.getD 18 .none = .str file tf ∧ vs.getD 7 .none = .int flags tg ∧ vs.getD 9 .none = .bool inF ∧ vs.getD 10 .none = .int text tt ∧ c ≠ PT
theorem CodeK.at {K : PySem.W.Frag} {cd : Value} {PT : Addr} (C : CodeK K cd PT) : ∃ c, cd = .ref c ∧ c ≠ PT ∧ ∀ (h : Heap) (ps : Array Value), K.In h → h.get? PT = some { cls := .none, data := .fields ps } → TriplesOk ps.toList → h.IsCode c PT ps ∧ h.TableAt c PT ps := by
  obtain ⟨c, od, vs, sl, file, tf, flags, tg, inF, text, tt, rfl, lk, a1, a2, a3, a4, a5, a6, ne⟩ := C.ex
  exact ⟨c, rfl, ne, fun h ps X t tr => ⟨⟨_, vs, file, tf, flags, tg, inF, text, tt, _, X _ _ lk, rfl, a1, a3, a4, a5, a6, t, rfl, tr, ne⟩, ⟨_, vs, X _ _ lk, rfl, rfl, a2⟩, t⟩⟩
section
variable {X : Cx}
/-- the table has grown, everything else is kept -/
theorem Inv.grown {pins : List (Addr × Obj)} {σ : L2.St} {H : Hp} {s : Shared} {PT : Addr} {ps more : Array Value} {h' : Heap} {g' : Array GenState} {d' : Drawn} {t' : Nat} (I : Inv X pins σ H s) (hP : H PT = some (.tbl ps))
    (k : ∀ b o, b ≠ PT → s.heap.get? b = some o → h'.get? b = some o) (hT : h'.get? PT = some { cls := .none, data := .fields (ps ++ more) }) (hg : AllBare g') :
    Inv X pins σ (upd H PT (.tbl (ps ++ more))) { s with heap := h', gens := g', drawn := d', toks := t' } := by
  have ne : ∀ b, H b = none → b ≠ PT := fun b e z => by rw [z, hP] at e; cases e
  refine I.step (ch := []) (fun _ z => nomatch z) (fun b o _ _ _ e n => k b o (ne b n) e) (fun b o _ _ _ e n => ⟨o.slots, k b o (ne b n) e⟩) (fun b o _ e n => by rw [upd_ne (ne b n)]; exact n) (fun b o _ e => ?_) (fun b xs e => ?_) (fun b o u e => ?_) (fun b qs e => ?_) (fun m hm => ?_) (fun b u e => ?_) hg
  · by_cases z : b = PT
    · exact ⟨_, by rw [z]; exact hT⟩
    · exact ⟨o, k b o z e⟩
  · rw [upd_ne (ne_of e hP (by intro z; cases z))]; exact e
  · rw [upd_ne (ne_of e hP (by intro z; cases z))]; exact e
  · by_cases z : b = PT
    · subst z
      rw [hP] at e; cases e
      exact ⟨more, upd_same⟩
    · exact ⟨#[], by rw [upd_ne z, e]; simp⟩
  · obtain ⟨o, es, ep, ho, r⟩ := hm
    exact ⟨o, es, ep, k _ o (ne _ I.free) ho, r⟩
  · by_cases z : b = PT
    · subst z
      rw [upd_same] at e; cases e
      exact hT
    · rw [upd_ne z] at e
      refine (I.hok b u e).stay (fun c v hc q => k c v ?_ q) (fun c q => ?_) fun c xs q => ?_
      · rcases hc with hc | hc
        · rw [hc]; exact z
        · exact ne_of hc hP (by intro z; cases z)
      · rw [upd_ne (ne_of q hP (by intro z; cases z))]; exact q
      · rw [upd_ne (ne_of q hP (by intro z; cases z))]; exact q
end
end L3
set_option Elab.async false
set_option linter.all false
set_option maxRecDepth 100000
namespace L3
open PySem PySem.Spec PyProof.Rows L2
structure TabAt (K : PySem.W.Frag) (h : Heap) (P : Addr) : Prop where
  tab : h.get? P = some { cls := .none, data := .fields #[] }
  out : K.lookup P = none
  is : isCodeTable h P
/-- what is tracked at first -/
def OnlyT (Ts : List Addr) (H : Hp) : Prop := ∀ b, H b = none ∨ (∃ o xs, H b = some (.frz o (.lst xs))) ∨ (b ∈ Ts ∧ H b = some (.tbl #[]))
end L3
set_option Elab.async false
set_option linter.all false
set_option maxRecDepth 100000
namespace L3
open PySem PySem.Spec PyProof.Rows L2
section
variable {X : Cx}
end
end L3
set_option Elab.async false
set_option linter.all false
set_option maxRecDepth 100000
namespace L3
open PySem PySem.Spec PyProof.Rows L2
end L3
set_option Elab.async false
set_option linter.all false
set_option maxRecDepth 100000
namespace L3
open PySem PySem.Spec PyProof.Rows L2 HT
theorem tup_whole {prog : Program} {w : World} {A : Around} {E : Value → Shared → Prop} {s : Shared} {t sl : Addr} {items : Array Value} {vl vu : Value} {lo hi : Option Int} {Q : Value → Shared → Prop} (ht : IsTup s.heap t items) (hs : s.heap.IsSliceOf sl vl vu .none) (pl : IsPart vl lo) (pu : IsPart vu hi)
    (hw : HT.sIx items.size 0 lo = 0 ∧ HT.sIx items.size items.size hi = items.size) (h : Q (.ref t) s) : wpAny (model prog w) A (getItem (.ref t) (.ref sl)) Q E s := by
  obtain ⟨os, hos, hcs, hds⟩ := id hs
  have hTs : s.TypeIs (.ref sl) "slice" := ⟨os, hos, hcs⟩
  unfold getItem
  try with_reducible refine wpAny_holding ?_
  first | refine wpAny_bind (wpAny_pure ?_) | skip
  refine wpAny_bind (wpAny_sequenceKey ht.typeIs (by decide) ?_)
  refine wpAny_bind (wpAny_callSpecial?_slot (name := Str.ofString "__getitem__") ht.typeIs PyProof.Rows.slot_tuple_getitem
    (wpAny_call_entry PyProof.Rows.slot_tuple_getitem ht.typeIs entry_tuple_getitem ?_ (args_tuple_getitem _ _)))
  show wpAny _ _ (Builtin.Tuple.tupleItemsOf (.ref t) >>= _) _ _ s
  refine wpAny_bind (tupleItemsOf_ ht ?_)
  refine wpAny_bind (wpAny_typeOf hTs ?_)
  rw [if_pos (by decide)]
  refine wpAny_bind (sliceApplied_gen hs pl pu ?_)
  have hyes : (((HT.sIx items.size 0 lo : Nat) : Int) == 0 && (1 : Int) == 1 && (HT.sIx items.size items.size hi - HT.sIx items.size 0 lo) == items.size) = true := by
    rw [hw.1, hw.2]; simp
  show wpAny _ _ (if (((HT.sIx items.size 0 lo : Nat) : Int) == 0 && (1 : Int) == 1 && (HT.sIx items.size items.size hi - HT.sIx items.size 0 lo) == items.size) = true then _ else _) _ _ s
  rw [if_pos hyes]
  refine wpAny_bind ?_
  refine wpAny_bind (wpAny_typeOf ht.typeIs (wpAny_pure ?_))
  rw [if_pos (by decide)]
  refine wpAny_bind (wpAny_rule ?_)
  first
    | exact wpAny_pure ⟨_, rfl, wpAny_pure h⟩
    | exact wpAny_pure ⟨_, rfl, h⟩
section
variable {X : Cx}
def rSlG (K : PySem.W.Frag) : V → Option Int → Option Int → Hp → VK → Prop := fun x lo hi H Q => ∃ a xs, x = .ref a ∧ SqT K H a xs ∧
  ((HT.sIx xs.length 0 lo = 0 ∧ HT.sIx xs.length xs.length hi = xs.length) → Q (.ref a) H) ∧ (¬ (HT.sIx xs.length 0 lo = 0 ∧ HT.sIx xs.length xs.length hi = xs.length) → ∀ p, H p = none → Q (.ref p) (upd H p (.tup (cutV xs lo hi))))
theorem sl_tupG : SlR X (rSlG X.K) := by
  intro pins s σ H x v vl vu lo hi sl Q I rx hs pl pu h
  obtain ⟨a, xs, rfl, hx, q1, q2⟩ := h
  by_cases hw : HT.sIx xs.length 0 lo = 0 ∧ HT.sIx xs.length xs.length hi = xs.length
  · cases rx
    obtain ⟨its, r, ht, hz⟩ := I.tuple hx
    have hlen : its.toArray.size = xs.length := by rw [List.size_toArray]; exact r.length.symm
    refine ⟨"tuple", _, PyProof.Rows.slot_tuple_getitem.lookup, ht.typeIs, ?_⟩
    exact tup_whole ht hs pl pu (by rw [hlen]; exact hw) ⟨.ref a, H, I, rfl, q1 hw⟩
  · exact sl_tup pins s σ H _ v vl vu lo hi sl Q I rx hs pl pu ⟨a, xs, rfl, hx, hw, q2 hw⟩
end
end L3
set_option Elab.async false
set_option linter.all false
set_option maxRecDepth 100000
namespace L3
open PySem PySem.Spec PyProof.Rows L2
section
variable {prog : Program} {w : World} {A : Around} {E : Value → Shared → Prop} {s : Shared} {l : Addr} {xs : Array (Int × Tok)} {Q : Value → Shared → Prop}
end
section
variable {X : Cx} {K : PySem.W.Frag}
end
end L3
set_option Elab.async false
set_option linter.all false
set_option maxRecDepth 100000
namespace L3
open PySem PySem.Spec PyProof.Rows L2
def evL {α : Type} (xs : List α) (a : Nat) : List α := (List.range ((xs.length + 1 - a) / 2)).filterMap fun k => xs[a + 2 * k]?
section
variable {X : Cx} {e c : Expr} {te : TE} {pos p2 : Pos} {lo : Option Expr} {tl : TO}
theorem Vals.evL : ∀ {xs : List V} {us : List Value} (a : Nat), Vals xs us → Vals (L3.evL xs a) (L3.evL us a) := by
  intro xs us a r
  have ln := r.length
  unfold L3.evL
  rw [ln]
  generalize (us.length + 1 - a) / 2 = n
  induction n with
  | zero => exact .nil
  | succ n ih =>
    rw [List.range_succ, List.filterMap_append, List.filterMap_append]
    refine ih.append ?_
    cases hx : xs[a + 2 * n]? with
    | none =>
      have : us[a + 2 * n]? = none := by
        rw [List.getElem?_eq_none_iff] at hx ⊢; omega
      simp [hx, this]; exact .nil
    | some v =>
      obtain ⟨u, hu, rv⟩ := r.get hx
      simp [hx, hu]; exact .cons rv .nil
end
end L3
set_option Elab.async false
set_option linter.all false
set_option maxRecDepth 100000
namespace L3
open PySem PySem.Spec PyProof.Rows L2
def IsZ2 (h : Heap) (z TI TO a0 : Addr) (f1 : Bool) : Prop := h.get? z = some { cls := .type "zip", data := .fields #[rawInt (a0 : Nat), .bool f1, .bool false, .ref TI, .ref TO] }
section
variable {prog : Program} {w : World} {A : Around} {E : Value → Shared → Prop} {s : Shared} {z TI TO i1 i2 a b : Addr} {k1 k2 : Bool} {n : Nat} {xs ys : Array Value}
end
/-- the zip between two items of a list's making -/
structure ZS (h : Heap) (z TI TO i1 i2 a b : Addr) (i : Nat) : Prop where
  rc : (i = 0 ∧ IsZip h z TI TO .none) ∨ ∃ a0 f1, IsZ2 h z TI TO a0 f1 ∧ ∃ o, h.get? a0 = some o
  pI : IsPair h TI (.ref i1) (.ref i2)
  pO : ∃ x y, IsPair h TO x y
  s1 : SqI false h i1 a i
  s2 : SqI false h i2 b i
theorem ZS.zip {h : Heap} {z TI TO i1 i2 a b : Addr} {i : Nat} (Z : ZS h z TI TO i1 i2 a b i) : ∃ o, h.get? z = some o ∧ o.cls = .type "zip" := by
  rcases Z.rc with ⟨_, e⟩ | ⟨a0, f1, e, _⟩
  · exact ⟨_, e, rfl⟩
  · exact ⟨_, e, rfl⟩
section
variable {X : Cx} {pins : List (Addr × Obj)} {σ : L2.St} {A : Around} {R : Result → Shared → Prop} {z TI TO i1 i2 a b : Addr} {xs ys : List V}
end
end L3
set_option Elab.async false
set_option linter.all false
set_option maxRecDepth 100000
namespace L3
open PySem PySem.Spec PyProof.Rows L2
section
variable {X : Cx} {e e2 : Expr} {ta : TA} {p p2 pos pos2 : Pos}
end
end L3
set_option Elab.async false
set_option linter.all false
set_option maxRecDepth 100000
namespace L3
open PySem PySem.Spec PyProof.Rows L2
structure Pen (H : Hp) (p c : Addr) (n : Nat) : Prop where
  ex : ∃ (cells : List Int) (at_ : Nat) (r : Int), H p = some (.lst [.ref c, .int (at_ : Int), .int r]) ∧ H c = some (.lst (cells.map V.int)) ∧ cells.length ≤ 63 ∧ at_ ≤ n ∧ p ≠ c
/-- all but the pen stays -/
def Kq (p : Addr) (H H' : Hp) : Prop := ∀ b o, H b = some o → b ≠ p → H' b = some o
theorem Kq.refl {p : Addr} (H : Hp) : Kq p H H := fun _ _ h _ => h
theorem Kq.trans {p : Addr} {H H1 H2 : Hp} (a : Kq p H H1) (b : Kq p H1 H2) : Kq p H H2 := fun x o h h1 => b x o (a x o h h1) h1
theorem Pen.mono {H : Hp} {p c : Addr} {n m : Nat} (h : Pen H p c n) (e : n ≤ m) : Pen H p c m := by
  obtain ⟨cells, a, r, h1, h2, h3, h4, h5⟩ := h.ex
  exact ⟨cells, a, r, h1, h2, h3, by omega, h5⟩
theorem Pen.keep {H H' : Hp} {p c : Addr} {n : Nat} (h : Pen H p c n) (hp : ∀ o, H p = some o → H' p = some o) (hc : ∀ o, H c = some o → H' c = some o) : Pen H' p c n := by
  obtain ⟨cells, a, r, h1, h2, h3, h4, h5⟩ := h.ex
  exact ⟨cells, a, r, hp _ h1, hc _ h2, h3, h4, h5⟩
theorem Pen.same {H H' : Hp} {p c : Addr} {n : Nat} (h : Pen H p c n) (s : Same H H') : Pen H' p c n := h.keep (fun o => s p o) (fun o => s c o)
theorem Pen.nep {H : Hp} {p c S : Addr} {n : Nat} (h : Pen H p c n) (e : H S = none) : S ≠ p := by
  obtain ⟨cells, a, r, h1, h2, _⟩ := h.ex
  exact (ne_of_none h1 e).symm
theorem Pen.nec {H : Hp} {p c S : Addr} {n : Nat} (h : Pen H p c n) (e : H S = none) : S ≠ c := by
  obtain ⟨cells, a, r, h1, h2, _⟩ := h.ex
  exact (ne_of_none h2 e).symm
theorem Pen.upd {H : Hp} {p c S : Addr} {n : Nat} {o : HO} (h : Pen H p c n) (h1 : S ≠ p) (h2 : S ≠ c) : Pen (upd H S o) p c n := h.keep (fun u e => by rw [upd_ne h1.symm]; exact e) (fun u e => by rw [upd_ne h2.symm]; exact e)
theorem Kq.free {p c : Addr} {H H' : Hp} {S : Addr} {n : Nat} (k : Kq p H H') (J : Pen H' p c n) (h : H' S = none) : H S = none := by
  cases q : H S with
  | none => rfl
  | some o =>
    rw [k S o q (J.nep h)] at h
    cases h
end L3
set_option Elab.async false
set_option linter.all false
set_option maxRecDepth 100000
namespace L3
open PySem PySem.Spec PyProof.Rows L2
section
variable {M : Model} {A : Around} {E : Value → Shared → Prop} {s : Shared}
/-- an exception's own object -/
def ExcO (a : Addr) (C : Value) (dx : Option Addr) : Heap → Prop := fun h => ∃ o, h.get? a = some o ∧ o.cls = C ∧ o.dict = dx ∧ ∃ vs, o.data = .fields vs
/-- what was there ahead, and what is tracked, is kept, frames up to their slots -/
structure Chg (F : List Addr) (h0 : Heap) (H : Hp) (h h' : Heap) : Prop where
  keep : ∀ b o, h.get? b = some o → (h0.get? b ≠ none ∨ H b ≠ none) → b ∉ F → h'.get? b = some o
  slot : ∀ b o, h.get? b = some o → (h0.get? b ≠ none ∨ H b ≠ none) → ∃ sl, h'.get? b = some { o with slots := sl }
theorem Chg.trans {F : List Addr} {h0 h h1 h2 : Heap} {H : Hp} (a : Chg F h0 H h h1) (b : Chg F h0 H h1 h2) : Chg F h0 H h h2 :=
  ⟨fun c o g n hF => b.keep c o (a.keep c o g n hF) n hF, fun c o g n => by
    obtain ⟨sl, g1⟩ := a.slot c o g n
    obtain ⟨sl2, g2⟩ := b.slot c _ g1 n
    exact ⟨sl2, g2⟩⟩
variable {P : Program} {w : World} {h0 : Heap} {H : Hp} {e : Addr} {C : Value} {dx : Option Addr}
end
end L3
set_option Elab.async false
set_option linter.all false
set_option maxRecDepth 100000
namespace L3
open PySem PySem.Spec PyProof.Rows L2
def CodeH (H : Hp) (c : Addr) : Prop := ∃ (oc : Obj) (vs : Array Value) (q : Str) (t : Tok), H c = some (.frz oc (.own c)) ∧ oc.data = .fields vs ∧ vs[1]? = some (.str q t)
def Cods (H : Hp) (l : List Value) : Prop := ∀ pos cv, codeAmong pos l = some cv → ∃ c, cv = .ref c ∧ CodeH H c
def TabO (H : Hp) (P : Addr) : Prop := ∃ ps, H P = some (.tbl ps) ∧ TriplesOk ps.toList ∧ Cods H ps.toList
theorem CodeH.keep {H H' : Hp} {c : Addr} (h : CodeH H c) (k : ∀ a oc c, H a = some (.frz oc (.own c)) → H' a = some (.frz oc (.own c))) : CodeH H' c :=
  let ⟨oc, vs, q, t, e, r⟩ := h; ⟨oc, vs, q, t, k _ _ _ e, r⟩
theorem Cods.keep {H H' : Hp} {l : List Value} (h : Cods H l) (k : ∀ a oc c, H a = some (.frz oc (.own c)) → H' a = some (.frz oc (.own c))) : Cods H' l :=
  fun pos cv e => let ⟨c, e1, r⟩ := h pos cv e; ⟨c, e1, r.keep k⟩
theorem TabO.keep {H H' : Hp} {P : Addr} (h : TabO H P) (hP : ∀ ps, H P = some (.tbl ps) → H' P = some (.tbl ps)) (k : ∀ a oc c, H a = some (.frz oc (.own c)) → H' a = some (.frz oc (.own c))) : TabO H' P :=
  let ⟨ps, e, tok, cd⟩ := h; ⟨ps, hP _ e, tok, cd.keep k⟩
end L3
set_option Elab.async false
set_option linter.all false
set_option maxRecDepth 100000
namespace L4
open PySem PySem.Spec PyProof.Rows L2 L3
inductive PV where
  | non | bl (b : Bool) | int (i : Int) | str (x : Str) | ty (n : String) | glb (a : Addr)
  | tup (xs : List PV) | ref (i : Nat) | scr (ns : List Int)
inductive Ob where
  | lst (xs : List PV) | dct (kvs : List (Key × PV)) | ins (C : Addr) (fs : List (Str × PV)) | jar | frd (o : Obj) (us : List (Key × V)) (kvs : List (Key × PV)) | pen (n : Nat) | exc (C : Addr) (fs : List (Str × Int))
abbrev Sto := List Ob
structure Map where
  m : Nat → Addr
  q : Nat → Addr
def Scr (K : PySem.W.Frag) (H : Hp) (a : Addr) (ns : List Int) : Prop :=
  (∃ o, H a = some (.frz o (.lst (ns.map V.int)))) ∨
    ∃ (o : Obj) (its : Array Value) (n : Nat), K.lookup a = some o ∧ o.cls = .type "list" ∧ o.dict = none ∧ o.data = .seq its n ∧ its.size ≤ sizeLine ∧ Vals (ns.map V.int) its.toList
theorem Scr.sql {K : PySem.W.Frag} {H : Hp} {a : Addr} {ns : List Int} (h : Scr K H a ns) : SqL K H a (ns.map V.int) := by
  rcases h with ⟨o, h⟩ | h
  · exact .inl (.inr ⟨o, h⟩)
  · exact .inr h
mutual
inductive RP (K : PySem.W.Frag) (M : Map) (n : Nat) (H : Hp) : PV → V → Prop
  | non : RP K M n H .non .non
  | bl (b : Bool) : RP K M n H (.bl b) (.bl b)
  | int (i : Int) : RP K M n H (.int i) (.int i)
  | str (x : Str) : RP K M n H (.str x) (.str x)
  | ty (x : String) : RP K M n H (.ty x) (.ty x)
  | glb (a : Addr) : RP K M n H (.glb a) (.ref a)
  | tup {xs : List PV} {us : List V} {a : Addr} : SqT K H a us → RPs K M n H xs us → RP K M n H (.tup xs) (.ref a)
  | ref {i : Nat} : i < n → RP K M n H (.ref i) (.ref (M.m i))
  | scr {ns : List Int} {a : Addr} : Scr K H a ns → RP K M n H (.scr ns) (.ref a)
inductive RPs (K : PySem.W.Frag) (M : Map) (n : Nat) (H : Hp) : List PV → List V → Prop
  | nil : RPs K M n H [] []
  | cons {x : PV} {u : V} {xs : List PV} {us : List V} : RP K M n H x u → RPs K M n H xs us → RPs K M n H (x :: xs) (u :: us)
end
/-- an address of a thing of the store -/
def Own (M : Map) (n : Nat) (a : Addr) : Prop := ∃ i, i < n ∧ (a = M.m i ∨ a = M.q i)
structure Stp (Ts : List Addr) (K : PySem.W.Frag) (M : Map) (n : Nat) (H : Hp) (M' : Map) (n' : Nat) (H' : Hp) : Prop where
  le : n ≤ n'
  m : ∀ i, i < n → M'.m i = M.m i
  q : ∀ i, i < n → M'.q i = M.q i
  tup : ∀ a us, SqT K H a us → SqT K H' a us
  scr : ∀ a ns, Scr K H a ns → Scr K H' a ns
  fr : ∀ a o, H a = some o → ¬ Own M n a → a ∉ Ts → H' a = some o
  grow : ∀ a, H' a = none → H a = none
  new : ∀ i, n ≤ i → i < n' → H (M'.m i) = none ∧ H (M'.q i) = none
theorem Stp.refl {Ts : List Addr} (K : PySem.W.Frag) (M : Map) (n : Nat) (H : Hp) : Stp Ts K M n H M n H := ⟨Nat.le_refl _, fun _ _ => rfl, fun _ _ => rfl, fun _ _ h => h, fun _ _ h => h, fun _ _ h _ _ => h, fun _ h => h, fun i h1 h2 => by omega⟩
theorem Stp.trans {K : PySem.W.Frag} {M M1 M2 : Map} {n n1 n2 : Nat} {H H1 H2 : Hp} (a : Stp Ts K M n H M1 n1 H1) (b : Stp Ts K M1 n1 H1 M2 n2 H2) : Stp Ts K M n H M2 n2 H2 where
  le := Nat.le_trans a.le b.le
  m := fun i h => (b.m i (Nat.lt_of_lt_of_le h a.le)).trans (a.m i h)
  q := fun i h => (b.q i (Nat.lt_of_lt_of_le h a.le)).trans (a.q i h)
  tup := fun x us h => b.tup x us (a.tup x us h)
  scr := fun x us h => b.scr x us (a.scr x us h)
  fr := fun x o h h1 h2 => by
    refine b.fr x o (a.fr x o h h1 h2) ?_ h2
    rintro ⟨i, hi, hx⟩
    by_cases c : i < n
    · refine h1 ⟨i, c, ?_⟩
      rw [a.m i c, a.q i c] at hx; exact hx
    · obtain ⟨p, q⟩ := a.new i (by omega) hi
      rcases hx with rfl | rfl
      · rw [p] at h; cases h
      · rw [q] at h; cases h
  grow := fun x h => a.grow x (b.grow x h)
  new := fun i h1 h2 => by
    by_cases c : i < n1
    · rw [b.m i c, b.q i c]; exact a.new i h1 c
    · obtain ⟨p, q⟩ := b.new i (by omega) h2
      exact ⟨a.grow _ p, a.grow _ q⟩
mutual
theorem RP.mono {K : PySem.W.Frag} {M M' : Map} {n n' : Nat} {H H' : Hp} (hle : n ≤ n') (hm : ∀ i, i < n → M'.m i = M.m i) (ht : ∀ a us, SqT K H a us → SqT K H' a us) (hs : ∀ a ns, Scr K H a ns → Scr K H' a ns) : ∀ {v : PV} {u : V}, RP K M n H v u → RP K M' n' H' v u
  | _, _, .non => .non
  | _, _, .bl b => .bl b
  | _, _, .int i => .int i
  | _, _, .str x => .str x
  | _, _, .ty x => .ty x
  | _, _, .glb a => .glb a
  | _, _, .tup a b => .tup (ht _ _ a) (RPs.mono hle hm ht hs b)
  | _, _, .ref (i := i) h => by rw [← hm i h]; exact .ref (Nat.lt_of_lt_of_le h hle)
  | _, _, .scr h => .scr (hs _ _ h)
theorem RPs.mono {K : PySem.W.Frag} {M M' : Map} {n n' : Nat} {H H' : Hp} (hle : n ≤ n') (hm : ∀ i, i < n → M'.m i = M.m i) (ht : ∀ a us, SqT K H a us → SqT K H' a us) (hs : ∀ a ns, Scr K H a ns → Scr K H' a ns) : ∀ {v : List PV} {u : List V}, RPs K M n H v u → RPs K M' n' H' v u
  | _, _, .nil => .nil
  | _, _, .cons a b => .cons (RP.mono hle hm ht hs a) (RPs.mono hle hm ht hs b)
end
theorem RP.stp {K : PySem.W.Frag} {M M' : Map} {n n' : Nat} {H H' : Hp} {v : PV} {u : V} (h : RP K M n H v u) (s : Stp Ts K M n H M' n' H') : RP K M' n' H' v u := h.mono s.le s.m s.tup s.scr
theorem RPs.stp {K : PySem.W.Frag} {M M' : Map} {n n' : Nat} {H H' : Hp} {v : List PV} {u : List V} (h : RPs K M n H v u) (s : Stp Ts K M n H M' n' H') : RPs K M' n' H' v u := h.mono s.le s.m s.tup s.scr
section
variable {K : PySem.W.Frag} {M : Map} {n : Nat} {H : Hp}
theorem RPs.length : ∀ {xs : List PV} {us : List V}, RPs K M n H xs us → xs.length = us.length
  | _, _, .nil => rfl
  | _, _, .cons _ t => by simp [RPs.length t]
theorem RPs.get : ∀ {xs : List PV} {us : List V} {i : Nat} {x : PV}, RPs K M n H xs us → xs[i]? = some x → ∃ u, us[i]? = some u ∧ RP K M n H x u
  | _, _, _, _, .nil, e => by simp at e
  | _, _, 0, _, .cons r _, e => by simp at e; subst e; exact ⟨_, rfl, r⟩
  | _, _, i + 1, x, .cons _ t, e => by
    obtain ⟨u, h1, h2⟩ := RPs.get (i := i) (x := x) t (by simpa using e)
    exact ⟨u, by simpa using h1, h2⟩
theorem RPs.set {x : PV} {u : V} (r : RP K M n H x u) : ∀ {xs : List PV} {us : List V} (i : Nat), RPs K M n H xs us → RPs K M n H (xs.set i x) (us.set i u)
  | _, _, _, .nil => .nil
  | _, _, 0, .cons _ t => .cons r t
  | _, _, i + 1, .cons q t => .cons q (RPs.set r i t)
theorem RPs.append : ∀ {xs ys : List PV} {us ws : List V}, RPs K M n H xs us → RPs K M n H ys ws → RPs K M n H (xs ++ ys) (us ++ ws)
  | _, _, _, _, .nil, s => s
  | _, _, _, _, .cons r t, s => .cons r (RPs.append t s)
theorem RPs.take : ∀ {xs : List PV} {us : List V} (k : Nat), RPs K M n H xs us → RPs K M n H (xs.take k) (us.take k)
  | _, _, 0, _ => .nil
  | _, _, _ + 1, .nil => .nil
  | _, _, k + 1, .cons r t => .cons r (RPs.take k t)
theorem RPs.drop : ∀ {xs : List PV} {us : List V} (k : Nat), RPs K M n H xs us → RPs K M n H (xs.drop k) (us.drop k)
  | _, _, 0, r => r
  | _, _, _ + 1, .nil => .nil
  | _, _, k + 1, .cons _ t => RPs.drop k t
theorem RPs.reverse : ∀ {xs : List PV} {us : List V}, RPs K M n H xs us → RPs K M n H xs.reverse us.reverse
  | _, _, .nil => .nil
  | _, _, .cons r t => by rw [List.reverse_cons, List.reverse_cons]; exact t.reverse.append (.cons r .nil)
theorem RPs.ints : ∀ ns : List Int, RPs K M n H (ns.map PV.int) (ns.map V.int)
  | [] => .nil
  | k :: ns => .cons (.int k) (RPs.ints ns)
theorem RPs.bls : ∀ ns : List Bool, RPs K M n H (ns.map PV.bl) (ns.map V.bl)
  | [] => .nil
  | k :: ns => .cons (.bl k) (RPs.bls ns)
theorem RPs.of_bls : ∀ {ns : List Bool} {us : List V}, RPs K M n H (ns.map PV.bl) us → us = ns.map V.bl
  | [], _, h => by cases h; rfl
  | k :: ns, _, h => by
    cases h with
    | cons r t => cases r; rw [List.map_cons, RPs.of_bls t]
end
/-- what reading wants of a later state -/
structure Stw (K : PySem.W.Frag) (M : Map) (n : Nat) (H : Hp) (M' : Map) (n' : Nat) (H' : Hp) : Prop where
  le : n ≤ n'
  m : ∀ i, i < n → M'.m i = M.m i
  tup : ∀ a us, SqT K H a us → SqT K H' a us
  scr : ∀ a ns, Scr K H a ns → Scr K H' a ns
theorem Stp.w {Ts : List Addr} {K : PySem.W.Frag} {M M' : Map} {n n' : Nat} {H H' : Hp} (s : Stp Ts K M n H M' n' H') : Stw K M n H M' n' H' := ⟨s.le, s.m, s.tup, s.scr⟩
theorem Stw.trans {K : PySem.W.Frag} {M M1 M2 : Map} {n n1 n2 : Nat} {H H1 H2 : Hp} (a : Stw K M n H M1 n1 H1) (b : Stw K M1 n1 H1 M2 n2 H2) : Stw K M n H M2 n2 H2 :=
  ⟨Nat.le_trans a.le b.le, fun i h => (b.m i (Nat.lt_of_lt_of_le h a.le)).trans (a.m i h), fun x us h => b.tup x us (a.tup x us h), fun x us h => b.scr x us (a.scr x us h)⟩
theorem RP.stw {K : PySem.W.Frag} {M M' : Map} {n n' : Nat} {H H' : Hp} {v : PV} {u : V} (h : RP K M n H v u) (s : Stw K M n H M' n' H') : RP K M' n' H' v u := h.mono s.le s.m s.tup s.scr
/-- pairs of a key and a value -/
inductive KR {κ : Type} (K : PySem.W.Frag) (M : Map) (n : Nat) (H : Hp) : List (κ × PV) → List (κ × V) → Prop
  | nil : KR K M n H [] []
  | cons {k : κ} {x : PV} {u : V} {xs : List (κ × PV)} {us : List (κ × V)} : RP K M n H x u → KR K M n H xs us → KR K M n H ((k, x) :: xs) ((k, u) :: us)
theorem KR.mono {κ : Type} {K : PySem.W.Frag} {M M' : Map} {n n' : Nat} {H H' : Hp} (hle : n ≤ n') (hm : ∀ i, i < n → M'.m i = M.m i) (ht : ∀ a us, SqT K H a us → SqT K H' a us) (hs : ∀ a ns, Scr K H a ns → Scr K H' a ns) : ∀ {v : List (κ × PV)} {u : List (κ × V)}, KR K M n H v u → KR K M' n' H' v u
  | _, _, .nil => .nil
  | _, _, .cons a b => .cons (a.mono hle hm ht hs) (KR.mono hle hm ht hs b)
def ObR (K : PySem.W.Frag) (M : Map) (n : Nat) (H : Hp) : Ob → Addr → Addr → Prop
  | .lst xs, a, b => b = a ∧ ∃ us, H a = some (.lst us) ∧ RPs K M n H xs us
  | .dct kvs, a, b => b = a ∧ ∃ us, H a = some (.dK us) ∧ KR K M n H kvs us
  | .ins C fs, a, b => ∃ us, H a = some (.ins C b us) ∧ H b = some (.own a) ∧ KR K M n H fs us
  | .jar, a, b => Jar H a b
  | .frd o us kvs, a, b => b = a ∧ H a = some (.frz o (.dK us)) ∧ KR K M n H kvs us
  | .pen m, a, b => Pen H a b m
  | .exc c fs, a, b => (fs = [] ∧ b = a ∧ H a = some (.ext (ExcO a (.ref c) none))) ∨ (fs ≠ [] ∧ H a = some (.ext (ExcO a (.ref c) (some b))) ∧ H b = some (.xd (fs.map fun f => (f.1, V.int f.2))))
theorem ObR.mono {K : PySem.W.Frag} {M M' : Map} {n n' : Nat} {H H' : Hp} {o : Ob} {a b : Addr} (h : ObR K M n H o a b) (hle : n ≤ n') (hm : ∀ i, i < n → M'.m i = M.m i) (ht : ∀ a us, SqT K H a us → SqT K H' a us) (hs : ∀ a ns, Scr K H a ns → Scr K H' a ns) (ha : H' a = H a) (hb : H' b = H b) : ObR K M' n' H' o a b := by
  cases o with
  | lst xs =>
    obtain ⟨e, us, h1, h2⟩ := h
    exact ⟨e, us, by rw [ha]; exact h1, h2.mono hle hm ht hs⟩
  | dct kvs =>
    obtain ⟨e, us, h1, h2⟩ := h
    exact ⟨e, us, by rw [ha]; exact h1, h2.mono hle hm ht hs⟩
  | ins C fs =>
    obtain ⟨us, h1, h2, h3⟩ := h
    exact ⟨us, by rw [ha]; exact h1, by rw [hb]; exact h2, h3.mono hle hm ht hs⟩
  | jar =>
    obtain ⟨cs, r, s, t, h1, h2, h3⟩ := (show Jar H a b from h).ex
    exact ⟨cs, r, s, t, by rw [ha]; exact h1, by rw [hb]; exact h2, h3⟩
  | frd o us kvs =>
    obtain ⟨e, h1, h2⟩ := h
    exact ⟨e, by rw [ha]; exact h1, h2.mono hle hm ht hs⟩
  | pen m => exact (show Pen H a b m from h).keep (fun o e => by rw [ha]; exact e) (fun o e => by rw [hb]; exact e)
  | exc c fs =>
    rcases h with ⟨e, e2, h1⟩ | ⟨e, h1, h2⟩
    · exact .inl ⟨e, e2, by rw [ha]; exact h1⟩
    · exact .inr ⟨e, by rw [ha]; exact h1, by rw [hb]; exact h2⟩
/-- what stands at a thing's addresses -/
def muts : HO → Prop
  | .lst _ => True
  | .dK _ => True
  | .ins _ _ _ => True
  | .own _ => True
  | .frz _ (.dK _) => True
  | .ext _ => True
  | .xd _ => True
  | _ => False
theorem ObR.at {K : PySem.W.Frag} {M : Map} {n : Nat} {H : Hp} {o : Ob} {a b : Addr} (h : ObR K M n H o a b) : (∃ x, H a = some x ∧ muts x) ∧ ∃ x, H b = some x ∧ muts x := by
  cases o with
  | lst xs => obtain ⟨rfl, us, h1, _⟩ := h; exact ⟨⟨_, h1, trivial⟩, _, h1, trivial⟩
  | dct kvs => obtain ⟨rfl, us, h1, _⟩ := h; exact ⟨⟨_, h1, trivial⟩, _, h1, trivial⟩
  | ins C fs => obtain ⟨us, h1, h2, _⟩ := h; exact ⟨⟨_, h1, trivial⟩, _, h2, trivial⟩
  | jar => obtain ⟨cs, r, s, t, h1, h2, h3⟩ := (show Jar H a b from h).ex; exact ⟨⟨_, h1, trivial⟩, _, h2, trivial⟩
  | frd o us kvs => obtain ⟨rfl, h1, _⟩ := h; exact ⟨⟨_, h1, trivial⟩, _, h1, trivial⟩
  | pen m => obtain ⟨cs, r, s, h1, h2, _⟩ := (show Pen H a b m from h).ex; exact ⟨⟨_, h1, trivial⟩, _, h2, trivial⟩
  | exc c fs =>
    rcases h with ⟨_, rfl, h1⟩ | ⟨_, h1, h2⟩
    · exact ⟨⟨_, h1, trivial⟩, _, h1, trivial⟩
    · exact ⟨⟨_, h1, trivial⟩, _, h2, trivial⟩
structure Sim (Ts : List Addr) (K : PySem.W.Frag) (M : Map) (S : Sto) (H : Hp) : Prop where
  ob : ∀ (i : Nat) (o : Ob), S[i]? = some o → ObR K M S.length H o (M.m i) (M.q i)
  sep : ∀ i j, i < S.length → j < S.length → i ≠ j → M.m i ≠ M.m j ∧ M.m i ≠ M.q j ∧ M.q i ≠ M.q j
  tab : ∀ P ∈ Ts, TabO H P
section
variable {K : PySem.W.Frag} {M : Map} {S : Sto} {H : Hp}
theorem Sim.own (s : Sim Ts K M S H) {a : Addr} (h : Own M S.length a) : ∃ x, H a = some x ∧ muts x := by
  obtain ⟨i, hi, e⟩ := h
  obtain ⟨o, ho⟩ : ∃ o, S[i]? = some o := ⟨S[i], by simp [hi]⟩
  obtain ⟨h1, h2⟩ := (s.ob i o ho).at
  rcases e with rfl | rfl
  · exact h1
  · exact h2
theorem Sim.notOwn (s : Sim Ts K M S H) {a : Addr} {o : HO} (h : H a = some o) (n : ¬ muts o) : ¬ Own M S.length a := fun z => by
  obtain ⟨x, h1, h2⟩ := s.own z
  rw [h] at h1; cases h1
  exact n h2
theorem Sim.free (s : Sim Ts K M S H) {a : Addr} (h : H a = none) : ¬ Own M S.length a ∧ a ∉ Ts := by
  refine ⟨fun z => ?_, fun z => ?_⟩
  · obtain ⟨x, h1, h2⟩ := s.own z
    rw [h] at h1; cases h1
  · obtain ⟨ps, h1, _⟩ := s.tab a z
    rw [h] at h1; cases h1
/-- reading is kept where nothing but things of the store, or new ones, is written -/
theorem sqt_upd {a : Addr} {us : List V} {p : Addr} {o : HO} (h : SqT K H a us) (hp : ∀ x, H p = some x → muts x) : SqT K (upd H p o) a us := by
  rcases h with (h | ⟨ob, h⟩) | h
  · refine .inl (.inl ?_)
    rw [upd_ne]; exact h
    rintro rfl; exact hp _ h
  · refine .inl (.inr ⟨ob, ?_⟩)
    rw [upd_ne]; exact h
    rintro rfl; exact hp _ h
  · exact .inr h
theorem scr_upd {a : Addr} {us : List Int} {p : Addr} {o : HO} (h : Scr K H a us) (hp : ∀ x, H p = some x → muts x) : Scr K (upd H p o) a us := by
  rcases h with ⟨ob, h⟩ | h
  · refine .inl ⟨ob, ?_⟩
    rw [upd_ne]; exact h
    rintro rfl; exact hp _ h
  · exact .inr h
theorem none_upd {p a : Addr} {o : HO} (h : upd H p o a = none) : H a = none := by
  unfold upd at h
  split at h
  · cases h
  · exact h
/-- a new thing beside the store -/
theorem Sim.beside (s : Sim Ts K M S H) {p : Addr} {o : HO} (hp : H p = none) : Sim Ts K M S (upd H p o) ∧ Stp Ts K M S.length H M S.length (upd H p o) := by
  have hm : ∀ x, H p = some x → muts x := fun x h => by rw [hp] at h; cases h
  have hf := s.free hp
  refine ⟨⟨fun i ob h => ?_, s.sep, fun P hP => ?_⟩, ⟨Nat.le_refl _, fun _ _ => rfl, fun _ _ => rfl, fun a us h => sqt_upd h hm, fun a us h => scr_upd h hm, fun a u h h1 h2 => ?_, fun a h => none_upd h, fun i h1 h2 => by omega⟩⟩
  · have hi := (List.getElem?_eq_some_iff.mp h).1
    refine (s.ob i ob h).mono (Nat.le_refl _) (fun _ _ => rfl) (fun a us h => sqt_upd h hm) (fun a us h => scr_upd h hm) (upd_ne ?_) (upd_ne ?_)
    · rintro rfl; exact hf.1 ⟨i, hi, .inl rfl⟩
    · rintro rfl; exact hf.1 ⟨i, hi, .inr rfl⟩
  · refine (s.tab P hP).keep (fun ps h => ?_) fun a oc c h => ?_
    · rw [upd_ne]; exact h
      rintro rfl; rw [hp] at h; cases h
    · rw [upd_ne]; exact h
      rintro rfl; rw [hp] at h; cases h
  · rw [upd_ne]; exact h
    rintro rfl; rw [hp] at h; cases h
def Map.add (M : Map) (n : Nat) (p q : Addr) : Map := ⟨fun i => if i = n then p else M.m i, fun i => if i = n then q else M.q i⟩
theorem Map.add_m (M : Map) (n : Nat) (p q : Addr) : (M.add n p q).m n = p := if_pos rfl
theorem Map.add_q (M : Map) (n : Nat) (p q : Addr) : (M.add n p q).q n = q := if_pos rfl
theorem Map.add_m' (M : Map) {n i : Nat} {p q : Addr} (h : i < n) : (M.add n p q).m i = M.m i := if_neg (by omega)
theorem Map.add_q' (M : Map) {n i : Nat} {p q : Addr} (h : i < n) : (M.add n p q).q i = M.q i := if_neg (by omega)
/-- what stands beside the store becomes its newest thing: from H0, where p and q were free -/
theorem Sim.take (s : Sim Ts K M S H) {ob : Ob} {p q : Addr} (hp : ¬ Own M S.length p) (hq : ¬ Own M S.length q) (ho : ObR K (M.add S.length p q) (S.length + 1) H ob p q) : Sim Ts K (M.add S.length p q) (S ++ [ob]) H := by
  refine ⟨fun i o h => ?_, fun i j hi hj ne => ?_, s.tab⟩
  · rw [List.length_append, List.length_singleton]
    by_cases c : i < S.length
    · rw [List.getElem?_append_left c] at h
      rw [M.add_m' c, M.add_q' c]
      exact (s.ob i o h).mono (by omega) (fun j hj => M.add_m' hj) (fun _ _ h => h) (fun _ _ h => h) rfl rfl
    · rw [List.getElem?_append_right (by omega)] at h
      have : i = S.length := by
        have := (List.getElem?_eq_some_iff.mp h).1
        simp at this; omega
      subst this
      rw [Nat.sub_self] at h
      cases h
      rw [M.add_m, M.add_q]; exact ho
  · rw [List.length_append, List.length_singleton] at hi hj
    by_cases c : i < S.length
    · by_cases d : j < S.length
      · rw [M.add_m' c, M.add_m' d, M.add_q' c, M.add_q' d]; exact s.sep i j c d ne
      · have : j = S.length := by omega
        subst this
        rw [M.add_m' c, M.add_q' c, M.add_m, M.add_q]
        exact ⟨fun e => hp ⟨i, c, .inl e.symm⟩, fun e => hq ⟨i, c, .inl e.symm⟩, fun e => hq ⟨i, c, .inr e.symm⟩⟩
    · have : i = S.length := by omega
      subst this
      have d : j < S.length := by omega
      rw [M.add_m' d, M.add_q' d, M.add_m, M.add_q]
      exact ⟨fun e => hp ⟨j, d, .inl e⟩, fun e => hp ⟨j, d, .inr e⟩, fun e => hq ⟨j, d, .inr e⟩⟩
theorem Stp.take {M1 : Map} {n n1 : Nat} {H0 : Hp} (s : Stp Ts K M n H0 M1 n1 H) {p q : Addr} (hp : H0 p = none) (hq : H0 q = none) : Stp Ts K M n H0 (M1.add n1 p q) (n1 + 1) H where
  le := Nat.le_succ_of_le s.le
  m := fun i h => (M1.add_m' (Nat.lt_of_lt_of_le h s.le)).trans (s.m i h)
  q := fun i h => (M1.add_q' (Nat.lt_of_lt_of_le h s.le)).trans (s.q i h)
  tup := s.tup
  scr := s.scr
  fr := s.fr
  grow := s.grow
  new := fun i h1 h2 => by
    by_cases c : i < n1
    · rw [M1.add_m' c, M1.add_q' c]; exact s.new i h1 c
    · have : i = n1 := by omega
      subst this
      rw [M1.add_m, M1.add_q]; exact ⟨hp, hq⟩
/-- a new thing of the store: a list or a dict -/
theorem Sim.alloc (s : Sim Ts K M S H) {p : Addr} {o : HO} {ob : Ob} (hp : H p = none) (ho : ∀ M' H', Stp Ts K M S.length H M' S.length H' → H' p = some o → ObR K M' S.length H' ob p p) :
    Sim Ts K (M.add S.length p p) (S ++ [ob]) (upd H p o) ∧ Stp Ts K M S.length H (M.add S.length p p) (S ++ [ob]).length (upd H p o) := by
  obtain ⟨s1, t1⟩ := s.beside (o := o) hp
  have hf := s.free hp
  refine ⟨s1.take hf.1 hf.1 ?_, ?_⟩
  · exact (ho M _ t1 upd_same).mono (by omega) (fun j hj => M.add_m' hj) (fun _ _ h => h) (fun _ _ h => h) rfl rfl
  · rw [List.length_append, List.length_singleton]
    exact t1.take hp hp
/-- a thing of the store is written -/
theorem Sim.put (s : Sim Ts K M S H) {i : Nat} {ob new : Ob} {o : HO} (hi : S[i]? = some ob) (ho : ∀ H', Stp Ts K M S.length H M S.length H' → H' (M.m i) = some o → (M.q i ≠ M.m i → H' (M.q i) = H (M.q i)) → ObR K M S.length H' new (M.m i) (M.q i)) :
    Sim Ts K M (S.set i new) (upd H (M.m i) o) ∧ Stp Ts K M S.length H M (S.set i new).length (upd H (M.m i) o) := by
  have hl := (List.getElem?_eq_some_iff.mp hi).1
  have hm : ∀ x, H (M.m i) = some x → muts x := fun x h => by
    obtain ⟨y, h1, h2⟩ := s.own ⟨i, hl, .inl rfl⟩
    rw [h] at h1; cases h1; exact h2
  have hs : H (M.m i) ≠ none := by
    obtain ⟨y, h1, h2⟩ := s.own ⟨i, hl, .inl rfl⟩
    rw [h1]; simp
  have t : Stp Ts K M S.length H M S.length (upd H (M.m i) o) := ⟨Nat.le_refl _, fun _ _ => rfl, fun _ _ => rfl, fun a us h => sqt_upd h hm, fun a us h => scr_upd h hm, fun a u h h1 h2 => by
    rw [upd_ne]; exact h
    rintro rfl; exact h1 ⟨i, hl, .inl rfl⟩, fun a h => none_upd h, fun i h1 h2 => by omega⟩
  refine ⟨⟨fun j oj h => ?_, fun j k hj hk => ?_, fun P hP => ?_⟩, by rw [List.length_set]; exact t⟩
  · rw [List.length_set]
    by_cases c : j = i
    · subst c
      rw [List.getElem?_set_self hl] at h
      cases h
      exact ho _ t upd_same fun z => upd_ne z
    · rw [List.getElem?_set_ne (fun z => c z.symm)] at h
      have hj := (List.getElem?_eq_some_iff.mp h).1
      have hsp := s.sep i j hl hj (fun z => c z.symm)
      have hsp2 := s.sep j i hj hl c
      refine (s.ob j oj h).mono (Nat.le_refl _) (fun _ _ => rfl) (fun a us h => sqt_upd h hm) (fun a us h => scr_upd h hm) (upd_ne hsp2.1) (upd_ne ?_)
      exact fun e => hsp.2.1 e.symm
  · rw [List.length_set] at hj hk
    exact s.sep j k hj hk
  · refine (s.tab P hP).keep (fun ps h => ?_) fun a oc c h => ?_
    · rw [upd_ne]; exact h
      rintro rfl
      exact hm _ h
    · rw [upd_ne]; exact h
      rintro rfl
      exact hm _ h
end
mutual
def PV.Cl (n : Nat) : PV → Prop
  | .tup xs => Cls n xs
  | .ref i => i < n
  | .non => True
  | .bl _ => True
  | .int _ => True
  | .str _ => True
  | .ty _ => True
  | .glb _ => True
  | .scr _ => True
def Cls (n : Nat) : List PV → Prop
  | [] => True
  | x :: xs => x.Cl n ∧ Cls n xs
end
def Ob.Cl (n : Nat) : Ob → Prop
  | .lst xs => Cls n xs
  | .dct kvs => Cls n (kvs.map (·.2))
  | .ins _ fs => Cls n (fs.map (·.2))
  | .jar => True
  | .frd _ _ kvs => Cls n (kvs.map (·.2))
  | .pen _ => True
  | .exc _ _ => True
def Closed (n : Nat) (S : Sto) : Prop := ∀ (i : Nat) (o : Ob), S[i]? = some o → o.Cl n
section
variable {K : PySem.W.Frag} {M : Map} {n k : Nat} {H : Hp}
mutual
theorem RP.cl : ∀ {v : PV} {u : V}, RP K M n H v u → v.Cl n
  | _, _, .non => by simp [PV.Cl]
  | _, _, .bl b => by simp [PV.Cl]
  | _, _, .int i => by simp [PV.Cl]
  | _, _, .str x => by simp [PV.Cl]
  | _, _, .ty x => by simp [PV.Cl]
  | _, _, .glb a => by simp [PV.Cl]
  | _, _, .tup a b => by unfold PV.Cl; exact RPs.cl b
  | _, _, .ref (i := i) h => by unfold PV.Cl; exact h
  | _, _, .scr h => by simp [PV.Cl]
theorem RPs.cl : ∀ {v : List PV} {u : List V}, RPs K M n H v u → Cls n v
  | _, _, .nil => by simp [Cls]
  | _, _, .cons a b => by unfold Cls; exact ⟨RP.cl a, RPs.cl b⟩
end
mutual
theorem RP.cut : ∀ {v : PV} {u : V}, RP K M n H v u → v.Cl k → RP K M k H v u
  | _, _, .non, _ => .non
  | _, _, .bl b, _ => .bl b
  | _, _, .int i, _ => .int i
  | _, _, .str x, _ => .str x
  | _, _, .ty x, _ => .ty x
  | _, _, .glb a, _ => .glb a
  | _, _, .tup a b, c => .tup a (RPs.cut b (by unfold PV.Cl at c; exact c))
  | _, _, .ref (i := i) h, c => .ref (by unfold PV.Cl at c; exact c)
  | _, _, .scr h, _ => .scr h
theorem RPs.cut : ∀ {v : List PV} {u : List V}, RPs K M n H v u → Cls k v → RPs K M k H v u
  | _, _, .nil, _ => .nil
  | _, _, .cons a b, c => by unfold Cls at c; exact .cons (RP.cut a c.1) (RPs.cut b c.2)
end
theorem KR.cl {κ : Type} : ∀ {v : List (κ × PV)} {u : List (κ × V)}, KR K M n H v u → Cls n (v.map (·.2))
  | _, _, .nil => by simp [Cls]
  | _, _, .cons a b => by rw [List.map_cons]; unfold Cls; exact ⟨a.cl, KR.cl b⟩
theorem KR.cut {κ : Type} : ∀ {v : List (κ × PV)} {u : List (κ × V)}, KR K M n H v u → Cls k (v.map (·.2)) → KR K M k H v u
  | _, _, .nil, _ => .nil
  | _, _, .cons a b, c => by rw [List.map_cons] at c; unfold Cls at c; exact .cons (a.cut c.1) (KR.cut b c.2)
theorem ObR.cl {o : Ob} {a b : Addr} (h : ObR K M n H o a b) : o.Cl n := by
  cases o with
  | lst xs => obtain ⟨_, _, _, r⟩ := h; exact r.cl
  | dct xs => obtain ⟨_, _, _, r⟩ := h; exact r.cl
  | ins C fs => obtain ⟨_, _, _, r⟩ := h; exact r.cl
  | jar => exact True.intro
  | frd o us kvs => obtain ⟨_, _, r⟩ := h; exact r.cl
  | pen m => exact True.intro
  | exc c fs => exact True.intro
theorem ObR.cut {o : Ob} {a b : Addr} (h : ObR K M n H o a b) (c : o.Cl k) : ObR K M k H o a b := by
  cases o with
  | lst xs => obtain ⟨e, us, p, r⟩ := h; exact ⟨e, us, p, r.cut c⟩
  | dct xs => obtain ⟨e, us, p, r⟩ := h; exact ⟨e, us, p, r.cut c⟩
  | ins C fs => obtain ⟨us, p, q, r⟩ := h; exact ⟨us, p, q, r.cut c⟩
  | jar => exact h
  | frd o us kvs => obtain ⟨e, p, r⟩ := h; exact ⟨e, p, r.cut c⟩
  | pen m => exact h
  | exc c fs => exact h
end
section
variable {K : PySem.W.Frag} {M : Map} {S : Sto} {H : Hp}
theorem Sim.closed (s : Sim Ts K M S H) : Closed S.length S := fun i o h => (s.ob i o h).cl
/-- the newest things are forgotten -/
theorem Sim.forget {G : Sto} (s : Sim Ts K M (S ++ G) H) (c : Closed S.length S) : Sim Ts K M S H := by
  refine ⟨fun i o h => ?_, fun i j hi hj => s.sep i j (by rw [List.length_append]; omega) (by rw [List.length_append]; omega), s.tab⟩
  have hi := (List.getElem?_eq_some_iff.mp h).1
  exact (s.ob i o (by rw [List.getElem?_append_left hi]; exact h)).cut (c i o h)
theorem Stp.forget {M0 : Map} {n : Nat} {H0 : Hp} {k k' : Nat} (t : Stp Ts K M0 n H0 M k H) (h1 : n ≤ k') (h2 : k' ≤ k) : Stp Ts K M0 n H0 M k' H :=
  ⟨h1, t.m, t.q, t.tup, t.scr, t.fr, t.grow, fun i a b => t.new i a (by omega)⟩
end
abbrev Ev := List (Option PV)
structure StR (K : PySem.W.Frag) (M : Map) (n : Nat) (H : Hp) (τ : Ev) (σ : L2.St) : Prop where
  len : τ.length = σ.length
  get : ∀ (i : Nat) (v : PV), τ[i]? = some (some v) → ∃ u, σ[i]? = some (some u) ∧ RP K M n H v u
section
variable {K : PySem.W.Frag} {M M' : Map} {n n' : Nat} {H H' : Hp} {τ : Ev} {σ : L2.St}
theorem StR.stp (r : StR K M n H τ σ) (s : Stp Ts K M n H M' n' H') : StR K M' n' H' τ σ := ⟨r.len, fun i v h => let ⟨u, h1, h2⟩ := r.get i v h; ⟨u, h1, h2.stp s⟩⟩
theorem StR.set (r : StR K M n H τ σ) {v : PV} {u : V} (h : RP K M n H v u) (i : Nat) : StR K M n H (τ.set i (some v)) (σ.set i (some u)) := by
  refine ⟨by rw [List.length_set, List.length_set, r.len], fun j x hj => ?_⟩
  by_cases c : i = j
  · subst c
    have hl : i < τ.length := by
      have := (List.getElem?_eq_some_iff.mp hj).1
      rw [List.length_set] at this; exact this
    rw [List.getElem?_set_self hl] at hj
    cases hj
    exact ⟨u, by rw [List.getElem?_set_self (by rw [← r.len]; exact hl)], h⟩
  · rw [List.getElem?_set_ne c] at hj ⊢
    exact r.get j x hj
def wipeW (τ : Ev) : List Nat → Ev
  | [] => τ
  | v :: vs => (wipeW τ vs).set v none
theorem StR.none (r : StR K M n H τ σ) (i : Nat) : StR K M n H (τ.set i .none) (σ.set i .none) := by
  refine ⟨by rw [List.length_set, List.length_set, r.len], fun j x hj => ?_⟩
  by_cases c : i = j
  · subst c
    by_cases hl : i < τ.length
    · rw [List.getElem?_set_self hl] at hj; cases hj
    · rw [List.getElem?_eq_none (by rw [List.length_set]; omega)] at hj; cases hj
  · rw [List.getElem?_set_ne c] at hj ⊢
    exact r.get j x hj
theorem StR.wipe (r : StR K M n H τ σ) : ∀ vs : List Nat, StR K M n H (wipeW τ vs) (wipe σ vs)
  | [] => r
  | v :: vs => (StR.wipe r vs).none v
def startW (k : Nat) (vs : List PV) : Ev := vs.map some ++ List.replicate (k - vs.length) none
theorem RPs.start {N : List Str} {vs : List PV} {us : List V} (r : RPs K M n H vs us) : StR K M n H (startW N.length vs) (start N us) := by
  have e := r.length
  refine ⟨by simp [startW, L2.start, e], fun i v h => ?_⟩
  unfold startW at h
  unfold L2.start
  by_cases c : i < vs.length
  · rw [List.getElem?_append_left (by simpa using c), List.getElem?_map] at h
    cases q : vs[i]? with
    | none => rw [q] at h; cases h
    | some y =>
      rw [q] at h
      cases h
      obtain ⟨u, h1, h2⟩ := r.get q
      exact ⟨u, by rw [List.getElem?_append_left (by simp; omega), List.getElem?_map, h1]; rfl, h2⟩
  · rw [List.getElem?_append_right (by simp; omega)] at h
    rw [List.getElem?_replicate] at h
    split at h
    · cases h
    · cases h
end
end L4
set_option Elab.async false
set_option linter.all false
set_option maxRecDepth 100000
namespace L4
open PySem PySem.Spec PyProof.Rows L2 L3
abbrev WQ := PV → Sto → Prop
abbrev WE := Ev → Sto → WQ → Prop
abbrev WT := Ev → Sto → (Bool → Sto → Prop) → Prop
abbrev WA := Ev → Sto → (List PV → Sto → Prop) → Prop
section
variable (Ts : List Addr) (K : PySem.W.Frag) (M : Map) (n : Nat) (H : Hp)
def upQ (Q : VK) : WQ := fun v S => ∀ M' H' u, Stp Ts K M n H M' S.length H' → Sim Ts K M' S H' → RP K M' S.length H' v u → Q u H'
def upB (Q : Bool → Hp → Prop) : Bool → Sto → Prop := fun b S => ∀ M' H', Stp Ts K M n H M' S.length H' → Sim Ts K M' S H' → Q b H'
def upL (Q : List V → Hp → Prop) : List PV → Sto → Prop := fun v S => ∀ M' H' u, Stp Ts K M n H M' S.length H' → Sim Ts K M' S H' → RPs K M' S.length H' v u → Q u H'
end
def upE (Ts : List Addr) (K : PySem.W.Frag) (w : WE) : TE := fun σ H Q => ∃ M S τ, Sim Ts K M S H ∧ StR K M S.length H τ σ ∧ w τ S (upQ Ts K M S.length H Q)
def upT (Ts : List Addr) (K : PySem.W.Frag) (w : WT) : TT := fun σ H Q => ∃ M S τ, Sim Ts K M S H ∧ StR K M S.length H τ σ ∧ w τ S (upB Ts K M S.length H Q)
def upA (Ts : List Addr) (K : PySem.W.Frag) (w : WA) : TA := fun σ H Q => ∃ M S τ, Sim Ts K M S H ∧ StR K M S.length H τ σ ∧ w τ S (upL Ts K M S.length H Q)
abbrev MoE (w : WE) : Prop := ∀ (τ : Ev) (S : Sto) (Q Q' : WQ), w τ S Q → (∀ v S', Q v S' → Q' v S') → w τ S Q'
abbrev MoT (w : WT) : Prop := ∀ (τ : Ev) (S : Sto) (Q Q' : Bool → Sto → Prop), w τ S Q → (∀ v S', Q v S' → Q' v S') → w τ S Q'
abbrev MoA (w : WA) : Prop := ∀ (τ : Ev) (S : Sto) (Q Q' : List PV → Sto → Prop), w τ S Q → (∀ v S', Q v S' → Q' v S') → w τ S Q'
structure SE (Ts : List Addr) (X : Cx) (e : Expr) (w : WE) : Prop where
  pe : PE X e (upE Ts X.K w)
  mo : MoE w
structure ST (Ts : List Addr) (X : Cx) (e : Expr) (w : WT) : Prop where
  pt : PT X e (upT Ts X.K w)
  mo : MoT w
structure SW (Ts : List Addr) (X : Cx) (e : Expr) (w : WT) : Prop where
  pw : PW X e (upT Ts X.K w)
  mo : MoT w
structure SA (Ts : List Addr) (X : Cx) (es : List Expr) (w : WA) : Prop where
  pa : PA X es (upA Ts X.K w)
  mo : MoA w
theorem pe_imp {X : Cx} {e : Expr} {t t' : TE} (h : PE X e t) (k : ∀ σ H Q, t' σ H Q → t σ H Q) : PE X e t' := fun pins s σ H Q I q => h pins s σ H Q I (k _ _ _ q)
theorem pt_imp {X : Cx} {e : Expr} {t t' : TT} (h : PT X e t) (k : ∀ σ H Q, t' σ H Q → t σ H Q) : PT X e t' := fun pins s σ H Q I q => h pins s σ H Q I (k _ _ _ q)
theorem pw_imp {X : Cx} {e : Expr} {t t' : TT} (h : PW X e t) (k : ∀ σ H Q, t' σ H Q → t σ H Q) : PW X e t' := fun wh pins s σ H Q I q => h wh pins s σ H Q I (k _ _ _ q)
theorem pa_imp {X : Cx} {e : List Expr} {t t' : TA} (h : PA X e t) (k : ∀ σ H Q, t' σ H Q → t σ H Q) : PA X e t' := fun po pins s σ H Q I q => h po pins s σ H Q I (k _ _ _ q)
section
variable {K : PySem.W.Frag} {M : Map} {S : Sto} {H : Hp} {τ : Ev} {σ : L2.St}
theorem runE {w : WE} (mo : MoE w) (s : Sim Ts K M S H) (r : StR K M S.length H τ σ) {F : WQ} (hw : w τ S F) {Q : VK} (k : ∀ v S1 M1 H1 u, F v S1 → Stp Ts K M S.length H M1 S1.length H1 → Sim Ts K M1 S1 H1 → RP K M1 S1.length H1 v u → Q u H1) : upE Ts K w σ H Q :=
  ⟨M, S, τ, s, r, mo _ _ _ _ hw fun v S1 f M1 H1 u t s r => k v S1 M1 H1 u f t s r⟩
theorem runT {w : WT} (mo : MoT w) (s : Sim Ts K M S H) (r : StR K M S.length H τ σ) {F : Bool → Sto → Prop} (hw : w τ S F) {Q : Bool → Hp → Prop} (k : ∀ v S1 M1 H1, F v S1 → Stp Ts K M S.length H M1 S1.length H1 → Sim Ts K M1 S1 H1 → Q v H1) : upT Ts K w σ H Q :=
  ⟨M, S, τ, s, r, mo _ _ _ _ hw fun v S1 f M1 H1 t s => k v S1 M1 H1 f t s⟩
theorem runA {w : WA} (mo : MoA w) (s : Sim Ts K M S H) (r : StR K M S.length H τ σ) {F : List PV → Sto → Prop} (hw : w τ S F) {Q : List V → Hp → Prop} (k : ∀ v S1 M1 H1 u, F v S1 → Stp Ts K M S.length H M1 S1.length H1 → Sim Ts K M1 S1 H1 → RPs K M1 S1.length H1 v u → Q u H1) : upA Ts K w σ H Q :=
  ⟨M, S, τ, s, r, mo _ _ _ _ hw fun v S1 f M1 H1 u t s r => k v S1 M1 H1 u f t s r⟩
theorem upQ.go {n : Nat} {Q : VK} {v : PV} {M1 : Map} {H1 : Hp} {S1 : Sto} {u : V} (h : upQ Ts K M n H Q v S1) (t : Stp Ts K M n H M1 S1.length H1) (s : Sim Ts K M1 S1 H1) (r : RP K M1 S1.length H1 v u) : Q u H1 := h M1 H1 u t s r
theorem upQ.base {n n2 : Nat} {Q : VK} {v : PV} {M2 : Map} {H2 : Hp} {S1 : Sto} (h : upQ Ts K M n H Q v S1) (t : Stp Ts K M n H M2 n2 H2) : upQ Ts K M2 n2 H2 Q v S1 := fun M' H' u t' s r => h M' H' u (t.trans t') s r
theorem upQ.here {Q : VK} {v : PV} {u : V} (h : upQ Ts K M S.length H Q v S) (s : Sim Ts K M S H) (r : RP K M S.length H v u) : Q u H := h M H u (.refl _ _ _ _) s r
theorem upQ.tup {Q : VK} {xs : List PV} {us : List V} (h : upQ Ts K M S.length H Q (.tup xs) S) (s : Sim Ts K M S H) (r : RPs K M S.length H xs us) : ∀ p, H p = none → Q (.ref p) (upd H p (.tup us)) := fun p hp =>
  let ⟨s1, t1⟩ := s.beside (o := .tup us) hp
  h M _ _ t1 s1 (.tup (SqT.of upd_same) (r.stp t1))
theorem upQ.lst {Q : VK} {xs : List PV} {us : List V} (h : upQ Ts K M S.length H Q (.ref S.length) (S ++ [.lst xs])) (s : Sim Ts K M S H) (r : RPs K M S.length H xs us) : ∀ p, H p = none → Q (.ref p) (upd H p (.lst us)) := fun p hp => by
  obtain ⟨s1, t1⟩ := s.alloc (o := .lst us) (ob := .lst xs) hp (fun M' H' t e => ⟨rfl, us, e, r.stp t⟩)
  refine h _ _ _ t1 s1 ?_
  have := RP.ref (K := K) (M := M.add S.length p p) (n := (S ++ [Ob.lst xs]).length) (H := upd H p (.lst us)) (i := S.length) (by simp)
  rw [M.add_m] at this
  exact this
theorem upQ.put {Q : VK} {v : PV} {u : V} {i : Nat} {old xs : List PV} {us : List V} (h : upQ Ts K M S.length H Q v (S.set i (.lst xs))) (s : Sim Ts K M S H) (hi : S[i]? = some (.lst old)) (r : RPs K M S.length H xs us) (rv : RP K M S.length H v u) : Q u (upd H (M.m i) (.lst us)) := by
  have e := (s.ob i _ hi).1
  obtain ⟨s1, t1⟩ := s.put (new := .lst xs) (o := .lst us) hi (fun H' t e1 _ => ⟨e, us, e1, r.stp t⟩)
  exact h _ _ _ t1 s1 (rv.stp t1)
theorem Sim.lst (s : Sim Ts K M S H) {i : Nat} {xs : List PV} (h : S[i]? = some (.lst xs)) : ∃ us, H (M.m i) = some (.lst us) ∧ RPs K M S.length H xs us := (s.ob i _ h).2
theorem Sim.dct (s : Sim Ts K M S H) {i : Nat} {xs : List (Key × PV)} (h : S[i]? = some (.dct xs)) : ∃ us, H (M.m i) = some (.dK us) ∧ KR K M S.length H xs us := (s.ob i _ h).2
end
def seqW (S : Sto) : PV → Option (Bool × List PV)
  | .tup xs => some (true, xs)
  | .ref i => match S[i]? with
    | some (.lst xs) => some (false, xs)
    | _ => none
  | .scr ns => some (false, ns.map .int)
  | _ => none
theorem seqW_tup (S : Sto) (xs : List PV) : seqW S (.tup xs) = some (true, xs) := rfl
theorem seqW_ref {S : Sto} {i : Nat} {xs : List PV} (h : S[i]? = some (.lst xs)) : seqW S (.ref i) = some (false, xs) := by simp only [seqW, h]
section
variable {K : PySem.W.Frag} {M : Map} {S : Sto} {H : Hp}
theorem Sim.seq (s : Sim Ts K M S H) {x : PV} {u : V} {k : Bool} {xs : List PV} (h : seqW S x = some (k, xs)) (r : RP K M S.length H x u) : ∃ a us, u = .ref a ∧ SqX k K H a us ∧ RPs K M S.length H xs us := by
  cases r with
  | tup h1 h2 => cases h; exact ⟨_, _, rfl, h1, h2⟩
  | @ref i hi =>
    cases q : S[i]? with
    | none => simp only [seqW, q] at h; cases h
    | some o =>
      simp only [seqW, q] at h
      cases o with
      | lst ys =>
        cases h
        obtain ⟨us, h1, h2⟩ := s.lst q
        exact ⟨_, us, rfl, SqL.of h1, h2⟩
      | dct _ => cases h
      | ins _ _ => cases h
      | jar => cases h
      | frd _ _ _ => cases h
      | pen _ => cases h
      | exc _ _ => cases h
  | scr h1 => cases h; exact ⟨_, _, rfl, h1.sql, .ints _⟩
  | _ => cases h
end
abbrev W2 := PV → PV → Sto → WQ → Prop
def Snd2 (Ts : List Addr) (K : PySem.W.Frag) (R : R2) (r : W2) : Prop := ∀ (M : Map) (S : Sto) (H : Hp) (x y : PV) (a b : V) (Q : VK), Sim Ts K M S H → RP K M S.length H x a → RP K M S.length H y b → r x y S (upQ Ts K M S.length H Q) → R a b H Q
abbrev Mo2 (r : W2) : Prop := ∀ (x y : PV) (S : Sto) (Q Q' : WQ), r x y S Q → (∀ v S', Q v S' → Q' v S') → r x y S Q'
structure S2 (Ts : List Addr) (X : Cx) (f : Value → Value → Sem Value) (r : W2) : Prop where
  ex : ∃ R, OpR X f R ∧ Snd2 Ts X.K R r
  mo : Mo2 r
def wOp (r : W2) (wa wb : WE) : WE := fun τ S Q => wa τ S fun x S1 => wb τ S1 fun y S2 => r x y S2 Q
theorem opR_or {X : Cx} {f : Value → Value → Sem Value} {r r' : R2} (h : OpR X f r) (h' : OpR X f r') : OpR X f (fun x y H Q => r x y H Q ∨ r' x y H Q) := fun pins s σ H x y v u Q I rx ry q => q.elim (h pins s σ H x y v u Q I rx ry) (h' pins s σ H x y v u Q I rx ry)
section
variable {X : Cx} {a b c : Expr} {wa wb wc : WE} {pos : Pos}
theorem mo_op {r : W2} (h : Mo2 r) (ha : MoE wa) (hb : MoE wb) : MoE (wOp r wa wb) := fun τ S Q Q' h0 k => ha _ _ _ _ h0 fun v S1 h1 => hb _ _ _ _ h1 fun u S2 h2 => h _ _ _ _ _ h2 k
theorem op_bind {K : PySem.W.Frag} {R : R2} {r : W2} (hs : Snd2 Ts K R r) (hm : Mo2 r) (ha : MoE wa) (hb : MoE wb) {σ : L2.St} {H : Hp} {Q : VK} (h : upE Ts K (wOp r wa wb) σ H Q) : tOp R (upE Ts K wa) (upE Ts K wb) σ H Q := by
  obtain ⟨M, S, τ, s, st, h⟩ := h
  refine runE ha s st h fun v S1 M1 H1 u f t1 s1 r1 => ?_
  refine runE hb s1 (st.stp t1) f fun v2 S2 M2 H2 u2 f2 t2 s2 r2 => ?_
  exact hs M2 S2 H2 v v2 u u2 Q s2 (r1.stp t2) r2 (hm _ _ _ _ _ f2 fun w S3 h3 => h3.base (t1.trans t2))
theorem se_op {op : Operator} {r : W2} (ho : S2 Ts X (binaryOp op) r) (ha : SE Ts X a wa) (hb : SE Ts X b wb) : SE Ts X (.BinOp a op b pos) (wOp r wa wb) :=
  let ⟨_, o, s⟩ := ho.ex
  ⟨pe_imp (pe_op o ha.pe hb.pe) fun _ _ _ h => op_bind s ho.mo ha.mo hb.mo h, mo_op ho.mo ha.mo hb.mo⟩
theorem se_cmp {op : CmpOp} {r : W2} (ho : S2 Ts X (compareOp op) r) (ha : SE Ts X a wa) (hb : SE Ts X b wb) (hm : behindInMarks op b = false) : SE Ts X (.Compare a [op] [b] pos) (wOp r wa wb) :=
  let ⟨_, o, s⟩ := ho.ex
  ⟨pe_imp (pe_cmpR o ha.pe hb.pe hm) fun _ _ _ h => op_bind s ho.mo ha.mo hb.mo h, mo_op ho.mo ha.mo hb.mo⟩
/-- a truth as a test -/
def wTest (w : WE) : WT := fun τ S Q => w τ S fun v S1 => ∃ b, v = .bl b ∧ Q b S1
theorem mo_test (ha : MoE wa) : MoT (wTest wa) := fun τ S Q Q' h0 k => ha _ _ _ _ h0 fun v S1 ⟨b, e, q⟩ => ⟨b, e, k _ _ q⟩
theorem test_bind {K : PySem.W.Frag} (ha : MoE wa) {σ : L2.St} {H : Hp} {Q : Bool → Hp → Prop} (h : upT Ts K (wTest wa) σ H Q) : tB (upE Ts K wa) σ H Q := by
  obtain ⟨M, S, τ, s, st, h⟩ := h
  refine runE ha s st h fun v S1 M1 H1 u f t1 s1 r1 => ?_
  obtain ⟨b, rfl, q⟩ := f
  cases r1
  exact ⟨b, rfl, q M1 H1 t1 s1⟩
theorem st_val (ha : SE Ts X a wa) (he : ∀ whole, isTrue a X.env whole = (do let v ← whole; standAt a.pos; holding [v] (truthy v)) := by intro _; rfl) : ST Ts X a (wTest wa) :=
  ⟨pt_imp (pt_val ha.pe he) fun _ _ _ h => test_bind ha.mo h, mo_test ha.mo⟩
theorem st_cmp {op : CmpOp} {r : W2} (ho : S2 Ts X (compareOp op) r) (ha : SE Ts X a wa) (hb : SE Ts X b wb) (hm : behindInMarks op b = false) : ST Ts X (.Compare a [op] [b] pos) (wTest (wOp r wa wb)) := by
  obtain ⟨R, o, s⟩ := ho.ex
  refine ⟨pt_imp (pt_cmpR o ha.pe hb.pe hm) fun σ H Q h => ?_, mo_test (mo_op ho.mo ha.mo hb.mo)⟩
  obtain ⟨M, S, τ, s0, st, h⟩ := h
  refine op_bind s ho.mo ha.mo hb.mo ⟨M, S, τ, s0, st, mo_op ho.mo ha.mo hb.mo _ _ _ _ h fun v S1 ⟨b, e, q⟩ M1 H1 u t1 s1 r1 => ?_⟩
  subst e
  cases r1
  exact ⟨b, rfl, q M1 H1 t1 s1⟩
def wVar (i : Nat) : WE := fun τ S Q => ∃ v, τ[i]? = some (some v) ∧ Q v S
def wC (v : PV) : WE := fun _ S Q => Q v S
theorem se_var {i : Nat} {x : Str} (hN : X.N[i]? = some x) (hv : Vis X.env.scope x) (hd : (x == ("__debug__" : Str)) = false := by decide) (hcd : (x == ("__classdict__" : Str)) = false := by decide) : SE Ts X (.Name x pos) (wVar i) := by
  refine ⟨pe_imp (pe_var hN hv hd hcd) fun σ H Q h => ?_, fun τ S Q Q' ⟨v, e, q⟩ k => ⟨v, e, k _ _ q⟩⟩
  obtain ⟨M, S, τ, s, st, v, e, h⟩ := h
  obtain ⟨u, e1, r⟩ := st.get i v e
  exact ⟨u, e1, h.here s r⟩
theorem se_c {e : Expr} {v : PV} {u : V} (h : PE X e (tC u)) (r : ∀ M n H, RP X.K M n H v u) : SE Ts X e (wC v) := by
  refine ⟨pe_imp h fun σ H Q h => ?_, fun τ S Q Q' q k => k _ _ q⟩
  obtain ⟨M, S, τ, s, st, h⟩ := h
  exact upQ.here h s (r _ _ _)
theorem se_int {i j} : SE Ts X (.Constant (.int i) j pos) (wC (.int i)) := se_c pe_int fun _ _ _ => .int _
theorem se_bl {b j} : SE Ts X (.Constant (.bool b) j pos) (wC (.bl b)) := se_c pe_bl fun _ _ _ => .bl _
theorem se_non {j} : SE Ts X (.Constant .none j pos) (wC .non) := se_c pe_non fun _ _ _ => .non
theorem se_str {x j} : SE Ts X (.Constant (.str x) j pos) (wC (.str x)) := se_c pe_str fun _ _ _ => .str _
def wAnd (u v : WT) : WT := fun τ S Q => u τ S fun c S1 => if c = true then v τ S1 Q else Q false S1
def wOr (u v : WT) : WT := fun τ S Q => u τ S fun c S1 => if c = true then Q true S1 else v τ S1 Q
def wNot (u : WT) : WT := fun τ S Q => u τ S fun c S1 => Q (!c) S1
theorem upB.base {K : PySem.W.Frag} {M M2 : Map} {n n2 : Nat} {H H2 : Hp} {Q : Bool → Hp → Prop} {b : Bool} {S : Sto} (t : Stp Ts K M n H M2 n2 H2) (h : upB Ts K M n H Q b S) : upB Ts K M2 n2 H2 Q b S := fun M' H' t' s => h M' H' (t.trans t') s
theorem ite_imp {c : Bool} {A B A' B' : Prop} (h : if c = true then A else B) (ha : A → A') (hb : B → B') : if c = true then A' else B' := by
  cases c
  · exact hb h
  · exact ha h
theorem sw_or1 {wt : WT} (ha : ST Ts X a wt) : SW Ts X (.BoolOp .Or [a] pos) wt := ⟨pw_or1 ha.pt, ha.mo⟩
theorem sw_or {rest : List Expr} {wt wu : WT} (ha : ST Ts X a wt) (hb : SW Ts X (.BoolOp .Or (b :: rest) pos) wu) : SW Ts X (.BoolOp .Or (a :: b :: rest) pos) (wOr wt wu) := by
  refine ⟨pw_imp (pw_or ha.pt hb.pw) fun σ H Q h => ?_, fun τ S Q Q' h0 k => ha.mo _ _ _ _ h0 fun v S1 h1 => ite_imp h1 (fun h => k _ _ h) (fun h => hb.mo _ _ _ _ h k)⟩
  obtain ⟨M, S, τ, s, st, h⟩ := h
  refine runT ha.mo s st h fun c S1 M1 H1 f t1 s1 => ite_imp f (fun f => f M1 H1 t1 s1) fun f => ?_
  exact runT hb.mo s1 (st.stp t1) f fun d S2 M2 H2 f2 t2 s2 => f2 M2 H2 (t1.trans t2) s2
theorem SW.st {wt : WT} (h : SW Ts X a wt) : ST Ts X a wt := ⟨h.pw.pt, h.mo⟩
theorem st_not {wt : WT} (ha : ST Ts X a wt) : ST Ts X (.UnaryOp .Not a pos) (wNot wt) := by
  refine ⟨pt_imp (pt_not ha.pt) fun σ H Q h => ?_, fun τ S Q Q' h0 k => ha.mo _ _ _ _ h0 fun v S1 h1 => k _ _ h1⟩
  obtain ⟨M, S, τ, s, st, h⟩ := h
  exact runT ha.mo s st h fun c S1 M1 H1 f t1 s1 => f M1 H1 t1 s1
def wAndV (u v : WE) : WE := fun τ S Q => u τ S fun x S1 => ∃ c, x = .bl c ∧ if c = true then v τ S1 Q else Q (.bl false) S1
def wOrV (u v : WE) : WE := fun τ S Q => u τ S fun x S1 => ∃ c, x = .bl c ∧ if c = true then Q (.bl true) S1 else v τ S1 Q
def wNotV (u : WE) : WE := fun τ S Q => u τ S fun x S1 => ∃ c, x = .bl c ∧ Q (.bl (!c)) S1
theorem se_one {op} (h : SE Ts X a wa) : SE Ts X (.BoolOp op [a] pos) wa := ⟨pe_one h.pe, h.mo⟩
theorem se_and {rest : List Expr} (ha : SE Ts X a wa) (hb : SE Ts X (.BoolOp .And (b :: rest) pos) wb) : SE Ts X (.BoolOp .And (a :: b :: rest) pos) (wAndV wa wb) := by
  refine ⟨pe_imp (pe_and ha.pe hb.pe) fun σ H Q h => ?_, fun τ S Q Q' h0 k => ha.mo _ _ _ _ h0 fun v S1 ⟨c, e, h1⟩ => ⟨c, e, ite_imp h1 (fun h => hb.mo _ _ _ _ h k) (fun h => k _ _ h)⟩⟩
  obtain ⟨M, S, τ, s, st, h⟩ := h
  refine runE ha.mo s st h fun v S1 M1 H1 u f t1 s1 r1 => ?_
  obtain ⟨c, rfl, f⟩ := f
  cases r1
  refine ⟨c, rfl, ite_imp f (fun f => ?_) fun f => f M1 H1 _ t1 s1 (.bl _)⟩
  exact runE hb.mo s1 (st.stp t1) f fun d S2 M2 H2 u f2 t2 s2 r2 => f2 M2 H2 u (t1.trans t2) s2 r2
theorem se_not (ha : SE Ts X a wa) : SE Ts X (.UnaryOp .Not a pos) (wNotV wa) := by
  refine ⟨pe_imp (pe_not ha.pe) fun σ H Q h => ?_, fun τ S Q Q' h0 k => ha.mo _ _ _ _ h0 fun v S1 ⟨c, e, h1⟩ => ⟨c, e, k _ _ h1⟩⟩
  obtain ⟨M, S, τ, s, st, h⟩ := h
  refine runE ha.mo s st h fun v S1 M1 H1 u f t1 s1 r1 => ?_
  obtain ⟨c, rfl, f⟩ := f
  cases r1
  exact ⟨c, rfl, f M1 H1 _ t1 s1 (.bl _)⟩
def wIf (c : WT) (u v : WE) : WE := fun τ S Q => c τ S fun b S1 => if b = true then u τ S1 Q else v τ S1 Q
def wNil : WA := fun _ S Q => Q [] S
def wCons (wa : WE) (wr : WA) : WA := fun τ S Q => wa τ S fun x S1 => wr τ S1 fun xs S2 => Q (x :: xs) S2
theorem sa_nil : SA Ts X [] wNil := by
  refine ⟨pa_imp pa_nil fun σ H Q h => ?_, fun τ S Q Q' h0 k => k _ _ h0⟩
  obtain ⟨M, S, τ, s, st, h⟩ := h
  exact h M H [] (.refl _ _ _ _) s .nil
theorem sa_cons {es : List Expr} {wr : WA} (ha : SE Ts X a wa) (hr : SA Ts X es wr) (hs : starEach (a :: es) X.env = (false, eval a X.env) :: starEach es X.env := by rfl) : SA Ts X (a :: es) (wCons wa wr) := by
  refine ⟨pa_imp (pa_cons ha.pe hr.pa hs) fun σ H Q h => ?_, fun τ S Q Q' h0 k => ha.mo _ _ _ _ h0 fun v S1 h1 => hr.mo _ _ _ _ h1 fun vs S2 h2 => k _ _ h2⟩
  obtain ⟨M, S, τ, s, st, h⟩ := h
  refine runE ha.mo s st h fun v S1 M1 H1 u f t1 s1 r1 => ?_
  exact runA hr.mo s1 (st.stp t1) f fun d S2 M2 H2 us f2 t2 s2 r2 => f2 M2 H2 _ (t1.trans t2) s2 (.cons (r1.stp t2) r2)
def wTup (w : WA) : WE := fun τ S Q => w τ S fun xs S1 => xs.length ≤ 16777216 ∧ Q (.tup xs) S1
def wLst (w : WA) : WE := fun τ S Q => w τ S fun xs S1 => xs.length ≤ 16777216 ∧ Q (.ref S1.length) (S1 ++ [.lst xs])
theorem se_tup {es : List Expr} {w : WA} {x1} (h : SA Ts X es w) : SE Ts X (.Tuple es x1 pos) (wTup w) := by
  refine ⟨pe_imp (pe_tup h.pa) fun σ H Q q => ?_, fun τ S Q Q' h0 k => h.mo _ _ _ _ h0 fun v S1 h1 => ⟨h1.1, k _ _ h1.2⟩⟩
  obtain ⟨M, S, τ, s, st, q⟩ := q
  refine runA h.mo s st q fun v S1 M1 H1 us f t1 s1 r1 => ⟨by rw [← r1.length, sizeLine_eq]; exact f.1, (f.2.base t1).tup s1 r1⟩
theorem se_lst {es : List Expr} {w : WA} (h : SA Ts X es w) : SE Ts X (.List es pos) (wLst w) := by
  refine ⟨pe_imp (pe_lst h.pa) fun σ H Q q => ?_, fun τ S Q Q' h0 k => h.mo _ _ _ _ h0 fun v S1 h1 => ⟨h1.1, k _ _ h1.2⟩⟩
  obtain ⟨M, S, τ, s, st, q⟩ := q
  refine runA h.mo s st q fun v S1 M1 H1 us f t1 s1 r1 => ⟨by rw [← r1.length, sizeLine_eq]; exact f.1, (f.2.base t1).lst s1 r1⟩
end
end L4
set_option Elab.async false
set_option linter.all false
set_option maxRecDepth 100000
namespace L4
open PySem PySem.Spec PyProof.Rows L2 L3
section
variable {X : Cx}
def rAddW : W2
  | .int i, .int j, S, Q => Q (.int (i + j)) S
  | .str i, .str j, S, Q => i.length + j.length ≤ 16777216 ∧ Q (.str (i ++ j)) S
  | .tup xs, .tup ys, S, Q => xs.length + ys.length ≤ 16777216 ∧ Q (.tup (xs ++ ys)) S
  | .ref i, .ref j, S, Q => ∃ xs ys, S[i]? = some (.lst xs) ∧ S[j]? = some (.lst ys) ∧ xs.length + ys.length ≤ 16777216 ∧ Q (.ref S.length) (S ++ [.lst (xs ++ ys)])
  | _, _, _, _ => False
theorem s_add : S2 Ts X (binaryOp .Add) rAddW := by
  refine ⟨⟨_, opR_or op_add (opR_or op_add_str (opR_or op_catG op_cat)), fun M S H x y a b Q s rx ry h => ?_⟩, fun x y S Q Q' h k => ?_⟩
  · cases rx <;> cases ry <;> try exact False.elim h
    case int.int => exact .inl ⟨_, _, rfl, rfl, upQ.here h s (.int _)⟩
    case str.str => exact .inr (.inl ⟨_, _, rfl, rfl, by rw [sizeLine_eq]; exact h.1, h.2.here s (.str _)⟩)
    case tup.tup h1 r1 _ _ _ h2 r2 =>
      refine .inr (.inr (.inl ⟨_, _, _, _, rfl, rfl, h1, h2, by rw [sizeLine_eq, ← r1.length, ← r2.length]; exact h.1, fun e => ?_, fun _ e => ?_, fun _ _ => ?_⟩))
      · subst e; cases r1
        exact h.2.here s (.tup h2 r2)
      · subst e; cases r2
        have q := h.2
        rw [List.append_nil] at q
        exact q.here s (.tup h1 r1)
      · exact h.2.tup s (r1.append r2)
    case ref.ref i hi j hj =>
      obtain ⟨xs, ys, e1, e2, hl, q⟩ := h
      obtain ⟨us, p1, r1⟩ := s.lst e1
      obtain ⟨ws, p2, r2⟩ := s.lst e2
      exact .inr (.inr (.inr ⟨_, _, _, _, rfl, rfl, p1, p2, by rw [sizeLine_eq, ← r1.length, ← r2.length]; exact hl, q.lst s (r1.append r2)⟩))
  · cases x <;> cases y <;> try exact False.elim h
    case int.int => exact k _ _ h
    case str.str => exact ⟨h.1, k _ _ h.2⟩
    case tup.tup => exact ⟨h.1, k _ _ h.2⟩
    case ref.ref =>
      obtain ⟨xs, ys, e1, e2, hl, q⟩ := h
      exact ⟨xs, ys, e1, e2, hl, k _ _ q⟩
/-- whole numbers -/
def rIW (C : Int → Int → Prop) (g : Int → Int → PV) : W2
  | .int i, .int j, S, Q => C i j ∧ Q (g i j) S
  | _, _, _, _ => False
def rI0W (g : Int → Int → PV) : W2
  | .int i, .int j, S, Q => Q (g i j) S
  | _, _, _, _ => False
theorem s_int0b {f : Value → Value → Sem Value} {g : Int → Int → Bool} (h : OpR X f (rI0 fun i j => .bl (g i j))) : S2 Ts X f (rI0W fun i j => .bl (g i j)) := by
  refine ⟨⟨_, h, fun M S H x y a b Q s rx ry h => ?_⟩, fun x y S Q Q' h k => ?_⟩
  · cases rx <;> cases ry <;> try exact False.elim h
    exact ⟨_, _, rfl, rfl, upQ.here h s (.bl _)⟩
  · cases x <;> cases y <;> try exact False.elim h
    exact k _ _ h
theorem s_gt : S2 Ts X (compareOp .Gt) (rI0W fun i j => .bl (decide (j < i))) := s_int0b op_gt
def rMulW : W2
  | .int i, .int j, S, Q => CMul i j ∧ Q (.int (i * j)) S
  | .tup xs, .int k, S, Q => -9223372036854775808 ≤ k ∧ k < 9223372036854775808 ∧ xs.length * k.toNat ≤ 16777216 ∧ Q (.tup (List.replicate k.toNat xs).flatten) S
  | .ref i, .int k, S, Q => ∃ xs, S[i]? = some (.lst xs) ∧ -9223372036854775808 ≤ k ∧ k < 9223372036854775808 ∧ xs.length * k.toNat ≤ 16777216 ∧ Q (.ref S.length) (S ++ [.lst (List.replicate k.toNat xs).flatten])
  | _, _, _, _ => False
mutual
inductive DV (S : Sto) : PV → PyData → Prop
  | non : DV S .non .none
  | bl (b : Bool) : DV S (.bl b) (.bool b)
  | int (i : Int) : DV S (.int i) (.int i)
  | str (x : Str) : DV S (.str x) (.str x)
  | lst {i : Nat} {xs : List PV} {ds : List PyData} : S[i]? = some (.lst xs) → DVs S xs ds → DV S (.ref i) (.list ds)
  | tup {xs : List PV} {ds : List PyData} : DVs S xs ds → DV S (.tup xs) (.tuple ds)
inductive DVs (S : Sto) : List PV → List PyData → Prop
  | nil : DVs S [] []
  | cons {v : PV} {vs : List PV} {d : PyData} {ds : List PyData} : DV S v d → DVs S vs ds → DVs S (v :: vs) (d :: ds)
end
section
variable {K : PySem.W.Frag} {M : Map} {S : Sto} {H : Hp}
mutual
theorem DV.dp (s : Sim Ts K M S H) : ∀ {x : PV} {d : PyData} {a : V}, DV S x d → RP K M S.length H x a → Dp K H a d
  | _, _, _, .non, r => by cases r; exact .non
  | _, _, _, .bl b, r => by cases r; exact .bl b
  | _, _, _, .int b, r => by cases r; exact .int b
  | _, _, _, .str b, r => by cases r; exact .str b
  | _, _, _, .lst e h, r => by
    cases r
    obtain ⟨us, p1, r1⟩ := s.lst e
    exact .lst (SqL.of p1) (DVs.dp s h r1)
  | _, _, _, .tup h, r => by
    cases r with
    | tup h1 r1 => exact .tup h1 (DVs.dp s h r1)
theorem DVs.dp (s : Sim Ts K M S H) : ∀ {x : List PV} {d : List PyData} {a : List V}, DVs S x d → RPs K M S.length H x a → DpAll K H a d
  | _, _, _, .nil, r => by cases r; exact .nil
  | _, _, _, .cons h1 h2, r => by
    cases r with
    | cons r1 r2 => exact .cons (DV.dp s h1 r1) (DVs.dp s h2 r2)
end
end
def rEqW (neg : Bool) : W2
  | .int i, .int j, S, Q => Q (.bl (neg ^^ decide (i = j))) S
  | .bl i, .bl j, S, Q => Q (.bl (neg ^^ decide (i = j))) S
  | .str i, .str j, S, Q => Q (.bl (neg ^^ decide (i = j))) S
  | x, y, S, Q => ∃ d e, DV S x d ∧ DV S y e ∧ SeqAt.shaped d = true ∧ SeqAt.shaped e = true ∧ Q (.bl (neg ^^ PyData.eqv d e)) S
theorem mo_eq (neg : Bool) : Mo2 (rEqW neg) := fun x y S Q Q' h k => by
  cases x <;> cases y <;> first
    | exact k _ _ h
    | exact (let ⟨d, e, h1, h2, h3, h4, q⟩ := h; ⟨d, e, h1, h2, h3, h4, k _ _ q⟩)
theorem s_eq (hu : X.A.units + 64 < cLine) : S2 Ts X (compareOp .Eq) (rEqW false) := by
  refine ⟨⟨_, opR_or op_eq (op_eqD hu), fun M S H x y a b Q s rx ry h => ?_⟩, mo_eq _⟩
  have D : (∃ d e, DV S x d ∧ DV S y e ∧ SeqAt.shaped d = true ∧ SeqAt.shaped e = true ∧ upQ Ts X.K M S.length H Q (.bl (false ^^ PyData.eqv d e)) S) → rEq a b H Q ∨ rEqD X.K a b H Q := fun ⟨d, e, h1, h2, h3, h4, q⟩ =>
    .inr ⟨d, e, h1.dp s rx, h2.dp s ry, h3, h4, by have := upQ.here q s (.bl _); simpa using this⟩
  cases rx <;> cases ry <;> first
    | exact D h
    | exact .inl ⟨rfl, by have := upQ.here h s (.bl _); simpa [rEqW] using this⟩
theorem s_ne (hu : X.A.units + 64 < cLine) : S2 Ts X (compareOp .NotEq) (rEqW true) := by
  refine ⟨⟨_, opR_or op_ne (op_neD hu), fun M S H x y a b Q s rx ry h => ?_⟩, mo_eq _⟩
  have D : (∃ d e, DV S x d ∧ DV S y e ∧ SeqAt.shaped d = true ∧ SeqAt.shaped e = true ∧ upQ Ts X.K M S.length H Q (.bl (true ^^ PyData.eqv d e)) S) → rNe a b H Q ∨ rNeD X.K a b H Q := fun ⟨d, e, h1, h2, h3, h4, q⟩ =>
    .inr ⟨d, e, h1.dp s rx, h2.dp s ry, h3, h4, by have := upQ.here q s (.bl _); simpa using this⟩
  cases rx <;> cases ry <;> first
    | exact D h
    | exact .inl ⟨rfl, by have := upQ.here h s (.bl _); simpa [rEqW] using this⟩
def isNonP : PV → Bool
  | .non => true
  | _ => false
def rIsW (neg : Bool) : W2
  | x, .non, S, Q => Q (.bl (neg ^^ isNonP x)) S
  | .bl i, .bl j, S, Q => Q (.bl (neg ^^ (i == j))) S
  | _, _, _, _ => False
theorem mo_is (neg : Bool) : Mo2 (rIsW neg) := fun x y S Q Q' h k => by
  cases x <;> cases y <;> first
    | exact k _ _ h
    | exact False.elim h
theorem s_is : S2 Ts X (compareOp .Is) (rIsW false) := by
  refine ⟨⟨_, opR_or op_isN op_isB, fun M S H x y a b Q s rx ry h => ?_⟩, mo_is _⟩
  cases rx <;> cases ry <;> first
    | exact False.elim h
    | exact .inr ⟨_, _, rfl, rfl, by have := upQ.here h s (.bl _); simpa [rIsW] using this⟩
    | exact .inl ⟨rfl, by have := upQ.here h s (.bl _); simpa [rIsW, isNonP] using this⟩
def flatP : PV → Bool
  | .non => true
  | .bl _ => true
  | .int _ => true
  | .str _ => true
  | _ => false
def flV : PV → V
  | .non => .non
  | .bl b => .bl b
  | .int i => .int i
  | .str x => .str x
  | _ => .non
theorem flat_rp {K : PySem.W.Frag} {M : Map} {n : Nat} {H : Hp} {x : PV} {u : V} (r : RP K M n H x u) (h : flatP x = true) : u = flV x ∧ flatV u = true := by
  cases r <;> first | exact ⟨rfl, rfl⟩ | cases h
theorem flat_rps {K : PySem.W.Frag} {M : Map} {n : Nat} {H : Hp} : ∀ {x : List PV} {u : List V}, RPs K M n H x u → x.all flatP = true → u = x.map flV ∧ u.all flatV = true
  | _, _, .nil, _ => ⟨rfl, rfl⟩
  | _, _, .cons r t, h => by
    rw [List.all_cons, Bool.and_eq_true] at h
    obtain ⟨e, f⟩ := flat_rp r h.1
    obtain ⟨es, fs⟩ := flat_rps t h.2
    refine ⟨by rw [List.map_cons, ← e, ← es], ?_⟩
    rw [List.all_cons, f, fs]; rfl
def inP (x : PV) (xs : List PV) : Bool := inV (flV x) (xs.map flV)
def keyW : PV → Option Key
  | .int i => some (.inl i)
  | .str x => some (.inr x)
  | _ => none
def valP {κ : Type} [DecidableEq κ] (kvs : List (κ × PV)) (k : κ) : Option PV := (kvs.find? fun kv => decide (kv.1 = k)).map (·.2)
theorem KR.val {κ : Type} [DecidableEq κ] {K : PySem.W.Frag} {M : Map} {n : Nat} {H : Hp} (k : κ) : ∀ {v : List (κ × PV)} {u : List (κ × V)}, KR K M n H v u → (valP v k = none ∧ valV u k = none) ∨ ∃ x y, valP v k = some x ∧ valV u k = some y ∧ RP K M n H x y
  | _, _, .nil => .inl ⟨rfl, rfl⟩
  | _, _, .cons (k := j) (xs := xs) (us := us) r t => by
    by_cases e : j = k
    · refine .inr ⟨_, _, ?_, ?_, r⟩
      · simp [valP, e]
      · simp [valV, e]
    · have h1 : ∀ z : PV, valP ((j, z) :: xs) k = valP xs k := fun z => by simp [valP, e]
      have h2 : ∀ z : V, valV ((j, z) :: us) k = valV us k := fun z => by simp [valV, e]
      rw [h1, h2]
      exact KR.val k t
theorem key_rp {K : PySem.W.Frag} {M : Map} {n : Nat} {H : Hp} {x : PV} {u : V} {k : Key} (r : RP K M n H x u) (h : keyW x = some k) : u = kV k := by
  cases r <;> first | (cases h; rfl) | cases h
theorem op_din (hu : X.A.units + 1 < cLine) : OpR X (compareOp .In) (fun y x H Q => ∃ a o, x = .ref a ∧ DGet H a y o ∧ Q (.bl o.isSome) H) := by
  intro pins s σ H y x v u Q I ry rx ⟨a, ov, ex, g, q⟩
  subst ex
  obtain rfl : u = Value.ref a := rx
  exact d_in hu I g ry fun s3 I3 => ⟨.bl ov.isSome, H, I3, rfl, q⟩
theorem op_dnotin (hu : X.A.units + 1 < cLine) : OpR X (compareOp .NotIn) (fun y x H Q => ∃ a o, x = .ref a ∧ DGet H a y o ∧ Q (.bl (!o.isSome)) H) := by
  intro pins s σ H y x v u Q I ry rx ⟨a, ov, ex, g, q⟩
  subst ex
  obtain rfl : u = Value.ref a := rx
  exact d_notIn hu I g ry fun s3 I3 => ⟨.bl (!ov.isSome), H, I3, rfl, q⟩
/-- x in y: a sequence of flat things, a dict, a text -/
def rInW (neg : Bool) : W2 := fun x y S Q => (∃ k xs, seqW S y = some (k, xs) ∧ flatP x = true ∧ xs.all flatP = true ∧ Q (.bl (neg ^^ inP x xs)) S) ∨
  (∃ i kvs k, y = .ref i ∧ S[i]? = some (.dct kvs) ∧ keyW x = some k ∧ Q (.bl (neg ^^ (valP kvs k).isSome)) S) ∨
  ∃ a b, x = .str a ∧ y = .str b ∧ Q (.bl (neg ^^ !(Builtin.Str.occurrences b a 0 b.length 1).isEmpty)) S
theorem mo_in (neg : Bool) : Mo2 (rInW neg) := fun x y S Q Q' h k => by
  rcases h with ⟨b, xs, h1, h2, h3, q⟩ | ⟨i, kvs, c, h1, h2, h3, q⟩ | ⟨a, b, h1, h2, q⟩
  · exact .inl ⟨b, xs, h1, h2, h3, k _ _ q⟩
  · exact .inr (.inl ⟨i, kvs, c, h1, h2, h3, k _ _ q⟩)
  · exact .inr (.inr ⟨a, b, h1, h2, k _ _ q⟩)
theorem s_in (hu : X.A.units + 1 < cLine) : S2 Ts X (compareOp .In) (rInW false) := by
  refine ⟨⟨_, opR_or op_in_seq (opR_or (op_din hu) op_in_str), fun M S H x y a b Q s rx ry h => ?_⟩, mo_in _⟩
  rcases h with ⟨k, xs, h1, h2, h3, q⟩ | ⟨i, kvs, c, rfl, h2, h3, q⟩ | ⟨i, j, rfl, rfl, q⟩
  · obtain ⟨p, us, rfl, h4, r4⟩ := s.seq h1 ry
    obtain ⟨e1, f1⟩ := flat_rp rx h2
    obtain ⟨e2, f2⟩ := flat_rps r4 h3
    refine .inl ⟨p, us, rfl, ?_, f1, f2, ?_⟩
    · cases k
      · exact .inl h4
      · exact .inr h4
    · have := upQ.here q s (.bl _)
      rw [e1, e2]
      simpa [inP] using this
  · cases ry
    obtain ⟨us, p1, r1⟩ := s.dct h2
    obtain rfl := key_rp rx h3
    refine .inr (.inl ⟨_, _, rfl, DGet.k p1, ?_⟩)
    have := upQ.here q s (.bl _)
    rcases r1.val c with ⟨e1, e2⟩ | ⟨v, u, e1, e2, _⟩
    · rw [e1] at this; rw [e2]; simpa using this
    · rw [e1] at this; rw [e2]; simpa using this
  · cases rx; cases ry
    refine .inr (.inr ⟨_, _, rfl, rfl, ?_⟩)
    have := upQ.here q s (.bl _)
    simpa using this
theorem s_notin (hu : X.A.units + 1 < cLine) : S2 Ts X (compareOp .NotIn) (rInW true) := by
  refine ⟨⟨_, opR_or op_notIn_seq (opR_or (op_dnotin hu) op_notin_str), fun M S H x y a b Q s rx ry h => ?_⟩, mo_in _⟩
  rcases h with ⟨k, xs, h1, h2, h3, q⟩ | ⟨i, kvs, c, rfl, h2, h3, q⟩ | ⟨i, j, rfl, rfl, q⟩
  · obtain ⟨p, us, rfl, h4, r4⟩ := s.seq h1 ry
    obtain ⟨e1, f1⟩ := flat_rp rx h2
    obtain ⟨e2, f2⟩ := flat_rps r4 h3
    refine .inl ⟨p, us, rfl, ?_, f1, f2, ?_⟩
    · cases k
      · exact .inl h4
      · exact .inr h4
    · have := upQ.here q s (.bl _)
      rw [e1, e2]
      simpa [inP] using this
  · cases ry
    obtain ⟨us, p1, r1⟩ := s.dct h2
    obtain rfl := key_rp rx h3
    refine .inr (.inl ⟨_, _, rfl, DGet.k p1, ?_⟩)
    have := upQ.here q s (.bl _)
    rcases r1.val c with ⟨e1, e2⟩ | ⟨v, u, e1, e2, _⟩
    · rw [e1] at this; rw [e2]; simpa using this
    · rw [e1] at this; rw [e2]; simpa using this
  · cases rx; cases ry
    refine .inr (.inr ⟨_, _, rfl, rfl, ?_⟩)
    have := upQ.here q s (.bl _)
    simpa using this
end
end L4
set_option Elab.async false
set_option linter.all false
set_option maxRecDepth 100000
namespace L4
open PySem PySem.Spec PyProof.Rows L2 L3
section
variable {X : Cx} {a b c e : Expr} {wa wb wc : WE} {pos : Pos}
theorem atI_rp {K : PySem.W.Frag} {M : Map} {n : Nat} {H : Hp} {xs : List PV} {us : List V} {i : Int} {v : PV} (r : RPs K M n H xs us) (h : atI xs i = some v) : ∃ u, atI us i = some u ∧ RP K M n H v u := by
  unfold atI at h ⊢
  rw [← r.length]
  cases q : ixN xs.length i with
  | none => rw [q] at h; cases h
  | some j =>
    rw [q] at h
    exact r.get h
theorem ix_dict (hu : X.A.units + 1 < cLine) : IxR X (fun x y H Q => ∃ a v, x = .ref a ∧ DGet H a y (some v) ∧ Q v H) := by
  intro value slice pins s σ H x y v u Q I rx ry h hs
  obtain ⟨a, w, rfl, g, q⟩ := h
  obtain rfl : v = Value.ref a := rx
  have hT := dict_typeIs I g
  unfold subscriptTail
  refine wpAny_bind ?_
  rw [getitemInPython_of_ne hT.not_modules]
  refine wpAny_bind (wpAny_specialOf hT PySem.F.slot_dict_getitem.lookup ?_)
  have fin : wpAny (model X.prog X.w) X.A (subscripted slice false (.ref a) u) (fun r s₃ => wpAny (model X.prog X.w) X.A (letTemporaryGo value (.ref a) r >>= fun _ => pure r) (EP X pins σ Q) X.xe s₃) X.xe s := by
    rw [hs]
    exact wpAny_operating (wpAny_mono (d_getItem hu I g ry fun w' s3 I3 rw' => (⟨w, H, I3, rw', q⟩ : EP X pins σ Q w' s3)) (fun r s₃ h₃ => wpAny_bind (wpAny_letTemporaryGo (wpAny_pure h₃))) fun _ _ x => x)
  first
    | exact wpAny_pure (wpAny_bind fin)
    | exact wpAny_bind (wpAny_pure (wpAny_bind fin))
    | exact wpAny_bind fin
def rIxW : W2 := fun x y S Q => (∃ k xs i v, seqW S x = some (k, xs) ∧ y = .int i ∧ atI xs i = some v ∧ Q v S) ∨ (∃ i kvs k v, x = .ref i ∧ S[i]? = some (.dct kvs) ∧ keyW y = some k ∧ valP kvs k = some v ∧ Q v S) ∨
  ∃ z i c, x = .str z ∧ y = .int i ∧ z.length ≤ 16777216 ∧ atI z.cps.toList i = some c ∧ Q (.str ⟨#[c]⟩) S
theorem mo_ix : Mo2 rIxW := fun x y S Q Q' h k => by
  rcases h with ⟨b, xs, i, v, h1, h2, h3, q⟩ | ⟨i, kvs, c, v, h1, h2, h3, h4, q⟩ | ⟨z, i, c, h1, h2, h3, h4, q⟩
  · exact .inl ⟨b, xs, i, v, h1, h2, h3, k _ _ q⟩
  · exact .inr (.inl ⟨i, kvs, c, v, h1, h2, h3, h4, k _ _ q⟩)
  · exact .inr (.inr ⟨z, i, c, h1, h2, h3, h4, k _ _ q⟩)
theorem se_ix (hu : X.A.units + 1 < cLine) (ha : SE Ts X a wa) (hb : SE Ts X b wb) (hs : PlainIx b) : SE Ts X (.Subscript a b pos) (wOp rIxW wa wb) := by
  refine ⟨pe_imp (pe_ix (ix_seq.or (ix_dict hu)) ha.pe hb.pe hs) fun σ H Q h => op_bind (fun M S H x y a b Q s rx ry h => ?_) mo_ix ha.mo hb.mo h, mo_op mo_ix ha.mo hb.mo⟩
  rcases h with ⟨k, xs, i, v, h1, rfl, h3, q⟩ | ⟨i, kvs, c, v, rfl, h2, h3, h4, q⟩ | ⟨z, i, c, rfl, rfl, h3, h4, q⟩
  · obtain ⟨p, us, rfl, h4, r4⟩ := s.seq h1 rx
    cases ry
    obtain ⟨u, h5, r5⟩ := atI_rp r4 h3
    cases k
    · exact .inl (.inl ⟨p, us, i, u, rfl, rfl, h4, h5, q.here s r5⟩)
    · exact .inl (.inr (.inl ⟨p, us, i, u, rfl, rfl, h4, h5, q.here s r5⟩))
  · cases rx
    obtain ⟨us, p1, r1⟩ := s.dct h2
    obtain rfl := key_rp ry h3
    rcases r1.val c with ⟨e1, e2⟩ | ⟨x, u, e1, e2, r2⟩
    · rw [h4] at e1; cases e1
    · rw [h4] at e1; cases e1
      exact .inr ⟨_, u, rfl, by rw [← e2]; exact DGet.k p1, q.here s r2⟩
  · cases rx; cases ry
    exact .inl (.inr (.inr ⟨z, i, c, rfl, rfl, by rw [sizeLine_eq]; exact h3, h4, q.here s (.str _)⟩))
abbrev WO := Ev → Sto → (Option Int → Sto → Prop) → Prop
def upO (Ts : List Addr) (K : PySem.W.Frag) (w : WO) : TO := fun σ H Q => ∃ M S τ, Sim Ts K M S H ∧ StR K M S.length H τ σ ∧ w τ S (fun b S1 => ∀ M' H', Stp Ts K M S.length H M' S1.length H' → Sim Ts K M' S1 H' → Q b H')
structure SO (Ts : List Addr) (X : Cx) (e : Option Expr) (w : WO) : Prop where
  po : PO X e (upO Ts X.K w)
  mo : ∀ (τ : Ev) (S : Sto) (Q Q' : Option Int → Sto → Prop), w τ S Q → (∀ v S', Q v S' → Q' v S') → w τ S Q'
theorem po_imp {X : Cx} {e : Option Expr} {t t' : TO} (h : PO X e t) (k : ∀ σ H Q, t' σ H Q → t σ H Q) : PO X e t' := fun pins s σ H Q I q => h pins s σ H Q I (k _ _ _ q)
def wNoPart : WO := fun _ S Q => Q none S
def wPart (w : WE) : WO := fun τ S Q => w τ S fun x S1 => ∃ i, x = .int i ∧ Q (some i) S1
theorem so_some (h : SE Ts X a wa) : SO Ts X (some a) (wPart wa) := by
  refine ⟨po_imp (po_some h.pe) fun σ H Q q => ?_, fun τ S Q Q' q k => h.mo _ _ _ _ q fun v S1 ⟨i, e, q⟩ => ⟨i, e, k _ _ q⟩⟩
  obtain ⟨M, S, τ, s, st, q⟩ := q
  refine runE h.mo s st q fun v S1 M1 H1 u f t1 s1 r1 => ?_
  obtain ⟨i, rfl, f⟩ := f
  cases r1
  exact ⟨i, rfl, f M1 H1 t1 s1⟩
def cutP {α : Type} (xs : List α) (lo hi : Option Int) : List α := (xs.drop (HT.sIx xs.length 0 lo)).take (HT.sIx xs.length xs.length hi - HT.sIx xs.length 0 lo)
theorem cutP_rps {K : PySem.W.Frag} {M : Map} {n : Nat} {H : Hp} {xs : List PV} {us : List V} (r : RPs K M n H xs us) (lo hi : Option Int) : RPs K M n H (cutP xs lo hi) (cutV us lo hi) := by
  unfold cutP cutV
  rw [← r.length]
  exact (r.drop _).take _
theorem cutP_whole {α : Type} {xs : List α} {lo hi : Option Int} (h : HT.sIx xs.length 0 lo = 0 ∧ HT.sIx xs.length xs.length hi = xs.length) : cutP xs lo hi = xs := by
  unfold cutP
  rw [h.1, h.2, List.drop_zero, Nat.sub_zero, List.take_length]
/-- x[lo:hi]: of a tuple, of a list, of a text -/
def rSlW (x : PV) (lo hi : Option Int) (S : Sto) (Q : WQ) : Prop := (∃ xs, x = .tup xs ∧ Q (.tup (cutP xs lo hi)) S) ∨ ∃ xs, seqW S x = some (false, xs) ∧ Q (.ref S.length) (S ++ [.lst (cutP xs lo hi)])
def wSl (we : WE) (wl wh : WO) : WE := fun τ S Q => we τ S fun x S1 => wl τ S1 fun l S2 => wh τ S2 fun h S3 => rSlW x l h S3 Q
theorem mo_sl {x : PV} {lo hi : Option Int} {S : Sto} {Q Q' : WQ} (h : rSlW x lo hi S Q) (k : ∀ v S', Q v S' → Q' v S') : rSlW x lo hi S Q' := by
  rcases h with ⟨xs, h1, q⟩ | ⟨xs, h1, q⟩
  · exact .inl ⟨xs, h1, k _ _ q⟩
  · exact .inr ⟨xs, h1, k _ _ q⟩
theorem se_slice {lo hi : Option Expr} {wl wh : WO} {p2 : Pos} (he : SE Ts X a wa) (hl : SO Ts X lo wl) (hh : SO Ts X hi wh) : SE Ts X (.Subscript a (.Slice lo hi none p2) pos) (wSl wa wl wh) := by
  refine ⟨pe_imp (pe_slice (sl_tupG.or sl_list) he.pe hl.po hh.po) fun σ H Q h => ?_, fun τ S Q Q' q k => he.mo _ _ _ _ q fun v S1 q => hl.mo _ _ _ _ q fun l S2 q => hh.mo _ _ _ _ q fun u S3 q => mo_sl q k⟩
  obtain ⟨M, S, τ, s, st, q⟩ := h
  refine runE he.mo s st q fun v S1 M1 H1 u f t1 s1 r1 => ⟨M1, S1, τ, s1, st.stp t1, hl.mo _ _ _ _ f fun l S2 f M2 H2 t2 s2 => ⟨M2, S2, τ, s2, (st.stp t1).stp t2, hh.mo _ _ _ _ f fun h S3 f M3 H3 t3 s3 => ?_⟩⟩
  have r3 := (r1.stp t2).stp t3
  have t := (t1.trans t2).trans t3
  rcases f with ⟨xs, rfl, q⟩ | ⟨xs, e, q⟩
  · cases r3 with
    | tup h3 r3 =>
      refine .inl ⟨_, _, rfl, h3, fun z => ?_, fun _ => (q.base t).tup s3 (cutP_rps r3 _ _)⟩
      rw [← r3.length] at z
      rw [cutP_whole z] at q
      exact (q.base t).here s3 (.tup h3 r3)
  · obtain ⟨p, us, rfl, h4, r4⟩ := s3.seq e r3
    exact .inr ⟨p, us, rfl, h4, (q.base t).lst s3 (cutP_rps r4 _ _)⟩
abbrev WC := List PV → Sto → WQ → Prop
structure SC (Ts : List Addr) (X : Cx) (f : Value) (r : WC) : Prop where
  ex : ∃ R, CallR X f R ∧ ∀ (M : Map) (S : Sto) (H : Hp) (xs : List PV) (us : List V) (Q : VK), Sim Ts X.K M S H → RPs X.K M S.length H xs us → r xs S (upQ Ts X.K M S.length H Q) → R us H Q
  mo : ∀ (xs : List PV) (S : Sto) (Q Q' : WQ), r xs S Q → (∀ v S', Q v S' → Q' v S') → r xs S Q'
def wCall (r : WC) (w : WA) : WE := fun τ S Q => w τ S fun xs S1 => r xs S1 Q
theorem callR_or {f : Value} {r r' : List V → Hp → VK → Prop} (h : CallR X f r) (h' : CallR X f r') : CallR X f (fun xs H Q => r xs H Q ∨ r' xs H Q) := fun pins s σ H x v Q I rx q => q.elim (h pins s σ H x v Q I rx) (h' pins s σ H x v Q I rx)
theorem call_bind {R : List V → Hp → VK → Prop} {r : WC} {w : WA} (hs : ∀ (M : Map) (S : Sto) (H : Hp) (xs : List PV) (us : List V) (Q : VK), Sim Ts X.K M S H → RPs X.K M S.length H xs us → r xs S (upQ Ts X.K M S.length H Q) → R us H Q)
    (hm : ∀ (xs : List PV) (S : Sto) (Q Q' : WQ), r xs S Q → (∀ v S', Q v S' → Q' v S') → r xs S Q') (ha : MoA w) {σ : L2.St} {H : Hp} {Q : VK} (h : upE Ts X.K (wCall r w) σ H Q) : tCB R (upA Ts X.K w) σ H Q := by
  obtain ⟨M, S, τ, s, st, h⟩ := h
  refine runA ha s st h fun v S1 M1 H1 u f t1 s1 r1 => hs M1 S1 H1 v u Q s1 r1 (hm _ _ _ _ f fun w S3 h3 => h3.base t1)
theorem mo_call {r : WC} {w : WA} (hm : ∀ (xs : List PV) (S : Sto) (Q Q' : WQ), r xs S Q → (∀ v S', Q v S' → Q' v S') → r xs S Q') (ha : MoA w) : MoE (wCall r w) := fun τ S Q Q' q k => ha _ _ _ _ q fun v S1 q => hm _ _ _ _ q k
theorem se_callB {id : String} {r : WC} {x : Str} {es : List Expr} {w : WA} {p : Pos} (hc : SC Ts X (.builtin id) r) (hg : Gl X x) (hm : X.mg x = none) (hv : bootBuiltins x = some (.builtin id)) (ha : SA Ts X (e :: es) w) (hn : x ≠ "__name__" := by decide) (hdb : (x == ("__debug__" : Str)) = false := by decide)
    (he : starEach (e :: es) X.env = (false, eval e X.env) :: starEach es X.env := by rfl) (hpl : (backTo pos (starEach es X.env)).any (·.1) = false := by rfl) : SE Ts X (.Call (.Name x p) (e :: es) [] pos) (wCall r w) :=
  let ⟨_, o, s⟩ := hc.ex
  ⟨pe_imp (pe_callB o hg hm hv ha.pa hn hdb he hpl) fun _ _ _ h => call_bind s hc.mo ha.mo h, mo_call hc.mo ha.mo⟩
theorem se_callTy {T : String} {r : WC} {x : Str} {es : List Expr} {w : WA} {p : Pos} (hc : SC Ts X (.type T) r) (hg : Gl X x) (hm : X.mg x = none) (hv : bootBuiltins x = some (.type T)) (ha : SA Ts X (e :: es) w) (hn : x ≠ "__name__" := by decide) (hdb : (x == ("__debug__" : Str)) = false := by decide)
    (he : starEach (e :: es) X.env = (false, eval e X.env) :: starEach es X.env := by rfl) (hpl : (backTo pos (starEach es X.env)).any (·.1) = false := by rfl) : SE Ts X (.Call (.Name x p) (e :: es) [] pos) (wCall r w) :=
  let ⟨_, o, s⟩ := hc.ex
  ⟨pe_imp (pe_callTy o hg hm hv ha.pa hn hdb he hpl) fun _ _ _ h => call_bind s hc.mo ha.mo h, mo_call hc.mo ha.mo⟩
theorem RPs.one {K : PySem.W.Frag} {M : Map} {n : Nat} {H : Hp} {x : PV} {us : List V} (r : RPs K M n H [x] us) : ∃ u, us = [u] ∧ RP K M n H x u := by
  cases r with
  | cons r t => cases t; exact ⟨_, rfl, r⟩
theorem RPs.two {K : PySem.W.Frag} {M : Map} {n : Nat} {H : Hp} {x y : PV} {us : List V} (r : RPs K M n H [x, y] us) : ∃ u v, us = [u, v] ∧ RP K M n H x u ∧ RP K M n H y v := by
  cases r with
  | cons r t =>
    cases t with
    | cons r2 t => cases t; exact ⟨_, _, rfl, r, r2⟩
/-- len -/
def rLenW : WC := fun xs S Q => ∃ x, xs = [x] ∧ ((∃ k ys, seqW S x = some (k, ys) ∧ Q (.int ys.length) S) ∨ (∃ z, x = .str z ∧ z.length ≤ 16777216 ∧ Q (.int z.length) S) ∨ ∃ i kvs, x = .ref i ∧ S[i]? = some (.dct kvs) ∧ Q (.int kvs.length) S)
theorem KR.length {κ : Type} {K : PySem.W.Frag} {M : Map} {n : Nat} {H : Hp} : ∀ {v : List (κ × PV)} {u : List (κ × V)}, KR K M n H v u → v.length = u.length
  | _, _, .nil => rfl
  | _, _, .cons _ t => by rw [List.length_cons, List.length_cons, KR.length t]
theorem c_len : SC Ts X (.builtin "len") rLenW := by
  refine ⟨⟨_, callR_or call_len_seq (callR_or call_len_str call_lenD), fun M S H xs us Q s r h => ?_⟩, fun xs S Q Q' h k => ?_⟩
  · obtain ⟨x, rfl, h⟩ := h
    obtain ⟨u, rfl, r0⟩ := r.one
    rcases h with ⟨k, ys, h1, q⟩ | ⟨z, rfl, h1, q⟩ | ⟨i, kvs, rfl, h1, q⟩
    · obtain ⟨p, us, rfl, h4, r4⟩ := s.seq h1 r0
      refine .inl ⟨p, us, rfl, ?_, ?_⟩
      · cases k
        · exact .inl h4
        · exact .inr h4
      · rw [← r4.length]; exact q.here s (.int _)
    · cases r0
      exact .inr (.inl ⟨z, rfl, by rw [sizeLine_eq]; exact h1, q.here s (.int _)⟩)
    · cases r0
      obtain ⟨us, p1, r1⟩ := s.dct h1
      exact .inr (.inr ⟨_, us, rfl, p1, by rw [← r1.length]; exact q.here s (.int _)⟩)
  · obtain ⟨x, rfl, h⟩ := h
    rcases h with ⟨b, ys, h1, q⟩ | ⟨z, rfl, h1, q⟩ | ⟨i, kvs, rfl, h1, q⟩
    · exact ⟨x, rfl, .inl ⟨b, ys, h1, k _ _ q⟩⟩
    · exact ⟨_, rfl, .inr (.inl ⟨z, rfl, h1, k _ _ q⟩)⟩
    · exact ⟨_, rfl, .inr (.inr ⟨i, kvs, rfl, h1, k _ _ q⟩)⟩
/-- list(xs), tuple(xs) -/
def rListW : WC := fun xs S Q => ∃ x k ys, xs = [x] ∧ seqW S x = some (k, ys) ∧ Q (.ref S.length) (S ++ [.lst ys])
def rTupleW : WC := fun xs S Q => ∃ x k ys, xs = [x] ∧ seqW S x = some (k, ys) ∧ Q (.tup ys) S
theorem c_tuple : SC Ts X (.type "tuple") rTupleW := by
  refine ⟨⟨_, call_tuple_of, fun M S H xs us Q s r h => ?_⟩, fun xs S Q Q' ⟨x, b, ys, e, h, q⟩ k => ⟨x, b, ys, e, h, k _ _ q⟩⟩
  obtain ⟨x, k, ys, rfl, h1, q⟩ := h
  obtain ⟨u, rfl, r0⟩ := r.one
  cases k
  · obtain ⟨p, us, rfl, h4, r4⟩ := s.seq h1 r0
    exact ⟨p, us, rfl, .inl ⟨h4, q.tup s r4⟩⟩
  · obtain ⟨p, us, rfl, h4, r4⟩ := s.seq h1 r0
    exact ⟨p, us, rfl, .inr ⟨h4, q.here s (.tup h4 r4)⟩⟩
/-- int(x) of a number or a truth -/
def rIntW : WC := fun xs S Q => match xs with
  | [.int i] => Q (.int i) S
  | [.bl b] => Q (.int (if b then 1 else 0)) S
  | _ => False
/-- max(i, j), min(i, j) -/
def rMax2W : WC := fun xs S Q => match xs with
  | [.int i, .int j] => Q (.int (if j > i then j else i)) S
  | _ => False
def rMin2W : WC := fun xs S Q => match xs with
  | [.int i, .int j] => Q (.int (if j < i then j else i)) S
  | _ => False
end
end L4
set_option Elab.async false
set_option linter.all false
set_option maxRecDepth 100000
namespace L4
open PySem PySem.Spec PyProof.Rows L2 L3
section
variable {X : Cx} {a b c e o : Expr} {wa wb wc wo : WE} {pos : Pos}
abbrev WM := PV → List PV → Sto → WQ → Prop
structure SM (Ts : List Addr) (X : Cx) (id : String) (r : WM) : Prop where
  ex : ∃ R, MtR X id R ∧ ∀ (M : Map) (S : Sto) (H : Hp) (x : PV) (xs : List PV) (u : V) (us : List V) (Q : VK), Sim Ts X.K M S H → RP X.K M S.length H x u → RPs X.K M S.length H xs us → r x xs S (upQ Ts X.K M S.length H Q) → R u us H Q
  mo : ∀ (x : PV) (xs : List PV) (S : Sto) (Q Q' : WQ), r x xs S Q → (∀ v S', Q v S' → Q' v S') → r x xs S Q'
def tyW (S : Sto) (T : String) (x : PV) : Prop := (T = "list" ∧ ∃ ys, seqW S x = some (false, ys)) ∨ (T = "str" ∧ ∃ z, x = .str z) ∨ (T = "dict" ∧ ∃ i kvs, x = .ref i ∧ S[i]? = some (.dct kvs)) ∨ (T = "tuple" ∧ ∃ ys, x = .tup ys)
theorem ty_rp {K : PySem.W.Frag} {M : Map} {S : Sto} {H : Hp} {T : String} {x : PV} {u : V} (s : Sim Ts K M S H) (r : RP K M S.length H x u) (h : tyW S T x) : tyV K T u H := by
  rcases h with ⟨rfl, ys, h⟩ | ⟨rfl, z, rfl⟩ | ⟨rfl, i, kvs, rfl, h⟩ | ⟨rfl, ys, rfl⟩
  · obtain ⟨p, us, rfl, h4, r4⟩ := s.seq h r
    exact .inl ⟨rfl, us, h4⟩
  · cases r; exact rfl
  · cases r
    obtain ⟨us, p1, _⟩ := s.dct h
    exact .inr (.inr (.inl ⟨rfl, .inl ⟨us, p1⟩⟩))
  · obtain ⟨p, us, rfl, h4, r4⟩ := s.seq rfl r
    exact .inr (.inl ⟨rfl, us, h4⟩)
def wMeth (T : String) (r : WM) (wo : WE) (w : WA) : WE := fun τ S Q => wo τ S fun x S1 => tyW S1 T x ∧ w τ S1 fun xs S2 => r x xs S2 Q
theorem mo_meth {T : String} {r : WM} {w : WA} (hm : ∀ (x : PV) (xs : List PV) (S : Sto) (Q Q' : WQ), r x xs S Q → (∀ v S', Q v S' → Q' v S') → r x xs S Q') (ho : MoE wo) (ha : MoA w) : MoE (wMeth T r wo w) := fun τ S Q Q' q k => ho _ _ _ _ q fun v S1 q => ⟨q.1, ha _ _ _ _ q.2 fun xs S2 q => hm _ _ _ _ _ q k⟩
theorem se_bm {T id : String} {name : Str} {r : WM} {es : List Expr} {w : WA} {apos cpos : Pos} (pa : PlainAttrs T) (slot : Slot T name id) (hty : typeOf (.builtin id) = pure (.type "method_descriptor")) (hm : SM Ts X id r) (ho : SE Ts X o wo) (ha : SA Ts X (e :: es) w)
    (hbase : attributeBase o name X.env (eval o X.env) = eval o X.env := by rfl)
    (hfew : ((backTo cpos (starEach (e :: es) X.env)).all (fun x => !x.1) && (backToKw cpos (keywordEach [] X.env)).all (fun x => x.1.isSome)
      && decide ((e :: es).length + ([] : List Keyword).length + (if ([] : List Keyword).isEmpty then 0 else 1) < 30)) = true := by rfl)
    (hline : (apos.endLine == cpos.line) = true := by rfl) (hs : starEach (e :: es) X.env = (false, eval e X.env) :: starEach es X.env := by rfl) (hplain : (backTo cpos (starEach es X.env)).any (·.1) = false := by rfl) :
    SE Ts X (.Call (.Attribute o name apos) (e :: es) [] cpos) (wMeth T r wo w) := by
  obtain ⟨R, m, s⟩ := hm.ex
  refine ⟨pe_imp (pe_bm pa slot hty m ho.pe ha.pa hbase hfew hline hs hplain) fun σ H Q h => ?_, mo_meth hm.mo ho.mo ha.mo⟩
  obtain ⟨M, S, τ, s0, st, h⟩ := h
  refine runE ho.mo s0 st h fun v S1 M1 H1 u f t1 s1 r1 => ⟨ty_rp s1 r1 f.1, ?_⟩
  exact runA ha.mo s1 (st.stp t1) f.2 fun d S2 M2 H2 us f2 t2 s2 r2 => s M2 S2 H2 v d u us Q s2 (r1.stp t2) r2 (hm.mo _ _ _ _ _ f2 fun w S3 h3 => h3.base (t1.trans t2))
def rAppendW : WM := fun x xs S Q => ∃ i y ys, x = .ref i ∧ xs = [y] ∧ S[i]? = some (.lst ys) ∧ ys.length < 16777216 ∧ Q .non (S.set i (.lst (ys ++ [y])))
theorem m_append : SM Ts X "list.append" rAppendW := by
  refine ⟨⟨_, mt_append, fun M S H x xs u us Q s r rs h => ?_⟩, fun x xs S Q Q' ⟨i, y, ys, h1, h2, h3, h4, q⟩ k => ⟨i, y, ys, h1, h2, h3, h4, k _ _ q⟩⟩
  obtain ⟨i, y, ys, rfl, rfl, h3, h4, q⟩ := h
  cases r
  obtain ⟨v, rfl, r1⟩ := rs.one
  obtain ⟨ws, p1, r2⟩ := s.lst h3
  exact ⟨_, ws, v, rfl, rfl, p1, by rw [sizeLine_eq, ← r2.length]; exact h4, q.put s h3 (r2.append (.cons r1 .nil)) .non⟩
theorem RPs.dropLast {K : PySem.W.Frag} {M : Map} {n : Nat} {H : Hp} {xs : List PV} {us : List V} (r : RPs K M n H xs us) : RPs K M n H xs.dropLast us.dropLast := by
  rw [List.dropLast_eq_take, List.dropLast_eq_take, r.length]
  exact r.take _
theorem RPs.eraseIdx {K : PySem.W.Frag} {M : Map} {n : Nat} {H : Hp} {xs : List PV} {us : List V} (r : RPs K M n H xs us) (k : Nat) : RPs K M n H (xs.eraseIdx k) (us.eraseIdx k) := by
  rw [List.eraseIdx_eq_take_drop_succ, List.eraseIdx_eq_take_drop_succ]
  exact (r.take _).append (r.drop _)
def rExtendW : WM := fun x xs S Q => ∃ i j ys zs, x = .ref i ∧ xs = [.ref j] ∧ S[i]? = some (.lst ys) ∧ S[j]? = some (.lst zs) ∧ ys.length + zs.length ≤ 16777216 ∧ Q .non (S.set i (.lst (ys ++ zs)))
theorem m_extend : SM Ts X "list.extend" rExtendW := by
  refine ⟨⟨_, mt_extend, fun M S H x xs u us Q s r rs h => ?_⟩, fun x xs S Q Q' ⟨i, y, ys, zs, h1, h2, h3, h4, h5, q⟩ k => ⟨i, y, ys, zs, h1, h2, h3, h4, h5, k _ _ q⟩⟩
  obtain ⟨i, j, ys, zs, rfl, rfl, h3, h4, h5, q⟩ := h
  cases r
  obtain ⟨v, rfl, r1⟩ := rs.one
  cases r1
  obtain ⟨ws, p1, r2⟩ := s.lst h3
  obtain ⟨vs, p3, r4⟩ := s.lst h4
  exact ⟨_, _, ws, vs, rfl, rfl, p1, p3, by rw [sizeLine_eq, ← r2.length, ← r4.length]; exact h5, q.put s h3 (r2.append r4) .non⟩
def tyP (S : Sto) : PV → Option String
  | .non => some "NoneType"
  | .bl _ => some "bool"
  | .int _ => some "int"
  | .str _ => some "str"
  | .tup _ => some "tuple"
  | .scr _ => some "list"
  | .ref i => match S[i]? with
    | some (.lst _) => some "list"
    | some (.dct _) => some "dict"
    | _ => none
  | _ => none
def isiB (t n : String) : Option Bool :=
  if n = "int" then some (t == "int" || t == "bool") else if n = "bool" then some (t == "bool") else if n = "str" then some (t == "str") else if n = "list" then some (t == "list") else if n = "tuple" then some (t == "tuple") else if n = "dict" then some (t == "dict") else none
def rIsiX (K : PySem.W.Frag) : List V → Hp → VK → Prop := fun xs H Q => ∃ x t n b, xs = [x, .ty n] ∧ (TyOf K H x (.type t) ∨ (t = "tuple" ∧ ∃ a us, x = .ref a ∧ SqT K H a us) ∨ (t = "list" ∧ ∃ a us, x = .ref a ∧ SqL K H a us)) ∧ PySem.W.kitOne K (.type t) (.type n) = some b ∧ Q (.bl b) H
theorem call_isiX : CallR X (.builtin "isinstance") (rIsiX X.K) := by
  intro pins s σ H xs us Q I r h
  obtain ⟨x, t, n, b, rfl, ty, e, q⟩ := h
  cases r with
  | cons r1 rr =>
    cases rr with
    | cons r2 rr =>
      cases rr
      cases r2
      rcases ty with ty | ⟨rfl, a, us, rfl, hq⟩ | ⟨rfl, a, us, rfl, hq⟩
      · exact isinst_ok I r1 ty e fun tk => ⟨.bl b, H, I.tok tk, rfl, q⟩
      · cases r1
        obtain ⟨_, _, ⟨o, h1, h2, _⟩, _⟩ := I.tuple hq
        exact PySem.W.kia_one PySem.W.kitx_tuple I.kIn ⟨o, h1, h2⟩ e (fun z => nomatch z) fun tk => ⟨.bl b, H, I.tok tk, rfl, q⟩
      · cases r1
        obtain ⟨_, _, ⟨o, n, h1, h2, _⟩, _⟩ := I.list hq
        exact PySem.W.kia_one PySem.W.kitx_list I.kIn ⟨o, h1, h2⟩ e (fun z => nomatch z) fun tk => ⟨.bl b, H, I.tok tk, rfl, q⟩
theorem kit_all (K : PySem.W.Frag) {t n : String} {b : Bool} (ht : t = "NoneType" ∨ t = "bool" ∨ t = "int" ∨ t = "str" ∨ t = "tuple" ∨ t = "list" ∨ t = "dict") (h : isiB t n = some b) : PySem.W.kitOne K (.type t) (.type n) = some b := by
  have hn : n = "int" ∨ n = "bool" ∨ n = "str" ∨ n = "list" ∨ n = "tuple" ∨ n = "dict" := by
    unfold isiB at h
    repeat' split at h
    all_goals first | (cases h; done) | simp_all
  rcases ht with rfl | rfl | rfl | rfl | rfl | rfl | rfl <;> rcases hn with rfl | rfl | rfl | rfl | rfl | rfl <;> (revert h; simp only [isiB]; intro h; rw [← h]; rfl)
def rIsiW : WC := fun xs S Q => ∃ x n t b, xs = [x, .ty n] ∧ tyP S x = some t ∧ isiB t n = some b ∧ Q (.bl b) S
theorem c_isi : SC Ts X (.builtin "isinstance") rIsiW := by
  refine ⟨⟨_, call_isiX, fun M S H xs us Q s r h => ?_⟩, fun xs S Q Q' ⟨x, n, t, b, e, h1, h2, q⟩ k => ⟨x, n, t, b, e, h1, h2, k _ _ q⟩⟩
  obtain ⟨x, n, t, b, rfl, h1, h2, q⟩ := h
  obtain ⟨u, v, rfl, r1, r2⟩ := r.two
  cases r2
  cases r1 with
  | non => cases h1; exact ⟨_, _, _, b, rfl, .inl .non, kit_all _ (by simp) h2, q.here s (.bl _)⟩
  | bl x => cases h1; exact ⟨_, _, _, b, rfl, .inl (.bl x), kit_all _ (by simp) h2, q.here s (.bl _)⟩
  | int x => cases h1; exact ⟨_, _, _, b, rfl, .inl (.int x), kit_all _ (by simp) h2, q.here s (.bl _)⟩
  | str x => cases h1; exact ⟨_, _, _, b, rfl, .inl (.str x), kit_all _ (by simp) h2, q.here s (.bl _)⟩
  | ty x => cases h1
  | glb x => cases h1
  | tup h3 h4 => cases h1; exact ⟨_, _, _, b, rfl, .inr (.inl ⟨rfl, _, _, rfl, h3⟩), kit_all _ (by simp) h2, q.here s (.bl _)⟩
  | scr h3 => cases h1; exact ⟨_, _, _, b, rfl, .inr (.inr ⟨rfl, _, _, rfl, h3.sql⟩), kit_all _ (by simp) h2, q.here s (.bl _)⟩
  | @ref i hi =>
    cases z : S[i]? with
    | none => simp only [tyP, z] at h1; cases h1
    | some o =>
      cases o with
      | lst ys =>
        simp only [tyP, z] at h1; cases h1
        obtain ⟨ws, p1, _⟩ := s.lst z
        exact ⟨_, _, _, b, rfl, .inl (.lst p1), kit_all _ (by simp) h2, q.here s (.bl _)⟩
      | dct ys =>
        simp only [tyP, z] at h1; cases h1
        obtain ⟨ws, p1, _⟩ := s.dct z
        exact ⟨_, _, _, b, rfl, .inl (.dK p1), kit_all _ (by simp) h2, q.here s (.bl _)⟩
      | ins _ _ => simp only [tyP, z] at h1; cases h1
      | jar => simp only [tyP, z] at h1; cases h1
      | frd _ _ _ => simp only [tyP, z] at h1; cases h1
      | pen _ => simp only [tyP, z] at h1; cases h1
      | exc _ _ => simp only [tyP, z] at h1; cases h1
def uptoP (n : Nat) : List PV := (List.range n).map fun (i : Nat) => PV.int (i : Int)
theorem upto_rps {K : PySem.W.Frag} {M : Map} {n : Nat} {H : Hp} (k : Nat) : RPs K M n H (uptoP k) (upto k) := by
  have h := RPs.ints (K := K) (M := M) (n := n) (H := H) ((List.range k).map fun (i : Nat) => (i : Int))
  unfold uptoP upto
  rw [List.map_map, List.map_map] at h
  exact h
def wRngL (w : WE) : WE := fun τ S Q => w τ S fun x S1 => ∃ j, x = .int j ∧ 0 ≤ j ∧ j ≤ 65536 ∧ Q (.ref S1.length) (S1 ++ [.lst (uptoP j.toNat)])
def wRngT (w : WE) : WE := fun τ S Q => w τ S fun x S1 => ∃ j, x = .int j ∧ 0 ≤ j ∧ j ≤ 65536 ∧ Q (.tup (uptoP j.toNat)) S1
theorem se_rngL {p1 p2 pos2 : Pos} (hc : X.calm = true) (hg1 : Gl X "list") (hm1 : X.mg "list" = none) (hg2 : Gl X "range") (hm2 : X.mg "range" = none) (ha : SE Ts X a wa) (hs : starEach [a] X.env = (false, eval a X.env) :: starEach [] X.env := by rfl)
    (hs2 : starEach [Expr.Call (.Name "range" p2) [a] [] pos2] X.env = (false, eval (Expr.Call (.Name "range" p2) [a] [] pos2) X.env) :: starEach [] X.env := by rfl) :
    SE Ts X (.Call (.Name "list" p1) [.Call (.Name "range" p2) [a] [] pos2] [] pos) (wRngL wa) := by
  refine ⟨pe_imp (pe_callTy (call_list_rng hc) hg1 hm1 (by decide +kernel) (pa_cons (pe_callTy call_rng1 hg2 hm2 (by decide +kernel) (pa_cons ha.pe pa_nil hs) (by decide) (by decide) hs (by rfl)) pa_nil hs2) (by decide) (by decide) hs2 (by rfl)) fun σ H Q h => ?_, fun τ S Q Q' q k => ha.mo _ _ _ _ q fun v S1 ⟨j, h1, h2, h3, q⟩ => ⟨j, h1, h2, h3, k _ _ q⟩⟩
  obtain ⟨M, S, τ, s, st, h⟩ := h
  refine runE ha.mo s st h fun v S1 M1 H1 u f t1 s1 r1 => ?_
  obtain ⟨j, rfl, h2, h3, q⟩ := f
  cases r1
  refine ⟨j, rfl, fun p hp => ?_⟩
  obtain ⟨s2, t2⟩ := s1.beside (o := .rng 0 j) hp
  exact ⟨p, j, rfl, upd_same, h2, h3, (q.base (t1.trans t2)).lst s2 (upto_rps _)⟩
def wNeg (w : WE) : WE := fun τ S Q => w τ S fun x S1 => ∃ i, x = .int i ∧ Q (.int (-i)) S1
def wChain (r r' : W2) (wa wb wc : WE) : WE := fun τ S Q => wa τ S fun x S1 => wb τ S1 fun y S2 => r x y S2 fun z S3 => ∃ k, z = .bl k ∧ if k = true then wc τ S3 fun v S4 => r' y v S4 Q else Q (.bl false) S3
end
end L4
set_option Elab.async false
set_option linter.all false
set_option maxRecDepth 100000
namespace L4
open PySem PySem.Spec PyProof.Rows L2 L3
section
variable {X : Cx} {a b c e o : Expr} {wa wb wc wo : WE} {pos : Pos}
end
abbrev WG := PV → Ev → (Ev → Prop) → Prop
abbrev WGs := List PV → Ev → (Ev → Prop) → Prop
def GR (K : PySem.W.Frag) (g : TG) (wg : WG) (vs : List Nat) : Prop := ∀ (M : Map) (n : Nat) (H : Hp) (τ : Ev) (σ : L2.St) (pv : PV) (v : V) (R : Ev → Prop) (Q : L2.St → Hp → Prop), StR K M n H τ σ → RP K M n H pv v → wg pv τ R → (∀ τ2 σ2, R τ2 → StR K M n H τ2 σ2 → wipe σ2 vs = wipe σ vs → Q σ2 H) → g v σ H Q
def GRs (K : PySem.W.Frag) (g : TGs) (wg : WGs) (vs : List Nat) : Prop := ∀ (M : Map) (n : Nat) (H : Hp) (τ : Ev) (σ : L2.St) (pv : List PV) (v : List V) (R : Ev → Prop) (Q : L2.St → Hp → Prop), StR K M n H τ σ → RPs K M n H pv v → wg pv τ R → (∀ τ2 σ2, R τ2 → StR K M n H τ2 σ2 → wipe σ2 vs = wipe σ vs → Q σ2 H) → g v σ H Q
def wgName (i : Nat) : WG := fun v τ R => R (τ.set i (some v))
def wgNil : WGs := fun vs τ R => vs = [] ∧ R τ
def wgCons (g : WG) (gs : WGs) : WGs := fun vs τ R => ∃ v r, vs = v :: r ∧ g v τ fun τ' => gs r τ' R
def wgTup (n : Nat) (gs : WGs) : WG := fun v τ R => ∃ xs, v = .tup xs ∧ xs.length = n ∧ gs xs τ R
theorem wipe_in {σ : L2.St} {i : Nat} : ∀ {vs : List Nat}, i ∈ vs → (wipe σ vs)[i]? = if i < σ.length then some none else none
  | v :: vs, h => by
    unfold wipe
    by_cases e : v = i
    · subst e
      by_cases l : v < σ.length
      · rw [List.getElem?_set_self (by rw [wipe_length]; exact l), if_pos l]
      · rw [if_neg l, List.getElem?_eq_none (by rw [List.length_set, wipe_length]; omega)]
    · rw [List.getElem?_set_ne e]
      exact wipe_in (by
        rcases List.mem_cons.mp h with z | z
        · exact absurd z.symm e
        · exact z)
theorem wipe_set {σ : L2.St} {i : Nat} {x : Option V} {vs : List Nat} (h : i ∈ vs) : wipe (σ.set i x) vs = wipe σ vs := by
  apply List.ext_getElem?
  intro j
  by_cases m : j ∈ vs
  · rw [wipe_in m, wipe_in m, List.length_set]
  · rw [wipe_out m, wipe_out m, List.getElem?_set_ne (by rintro rfl; exact m h)]
section
variable {K : PySem.W.Frag} {vs : List Nat}
theorem gr_name {i : Nat} (h : i ∈ vs) : GR K (gName i) (wgName i) vs := fun M n H τ σ pv v R Q st r w k => k _ _ w (st.set r i) (wipe_set h)
theorem gr_nil : GRs K gNil wgNil vs := fun M n H τ σ pv v R Q st r w k => by
  obtain ⟨rfl, w⟩ := w
  cases r
  exact ⟨rfl, k _ _ w st rfl⟩
theorem gr_cons {g : TG} {gs : TGs} {wg : WG} {ws : WGs} (h1 : GR K g wg vs) (h2 : GRs K gs ws vs) : GRs K (gCons g gs) (wgCons wg ws) vs := fun M n H τ σ pv v R Q st r w k => by
  obtain ⟨x, xs, rfl, w⟩ := w
  cases r with
  | cons r1 r2 => exact ⟨_, _, rfl, h1 M n H τ σ x _ _ _ st r1 w fun τ2 σ2 w2 st2 e2 => h2 M n H τ2 σ2 xs _ R Q st2 r2 w2 fun τ3 σ3 w3 st3 e3 => k τ3 σ3 w3 st3 (e3.trans e2)⟩
theorem gr_tup {n : Nat} {gs : TGs} {ws : WGs} (h : GRs K gs ws vs) : GR K (gTup K n gs) (wgTup n ws) vs := fun M m H τ σ pv v R Q st r w k => by
  obtain ⟨xs, rfl, hl, w⟩ := w
  cases r with
  | tup r1 r2 => exact ⟨_, _, rfl, r1, by rw [← r2.length]; exact hl, h M m H τ σ xs _ R Q st r2 w k⟩
end
abbrev MoG (w : WG) : Prop := ∀ (v : PV) (τ : Ev) (R R' : Ev → Prop), w v τ R → (∀ τ', R τ' → R' τ') → w v τ R'
abbrev MoGs (w : WGs) : Prop := ∀ (v : List PV) (τ : Ev) (R R' : Ev → Prop), w v τ R → (∀ τ', R τ' → R' τ') → w v τ R'
theorem mg_name (i : Nat) : MoG (wgName i) := fun v τ R R' h k => k _ h
theorem mg_nil : MoGs wgNil := fun v τ R R' h k => ⟨h.1, k _ h.2⟩
theorem mg_cons {g : WG} {gs : WGs} (h1 : MoG g) (h2 : MoGs gs) : MoGs (wgCons g gs) := fun v τ R R' ⟨x, r, e, h⟩ k => ⟨x, r, e, h1 _ _ _ _ h fun τ' h => h2 _ _ _ _ h k⟩
theorem mg_tup {n : Nat} {gs : WGs} (h : MoGs gs) : MoG (wgTup n gs) := fun v τ R R' ⟨x, e, l, q⟩ k => ⟨x, e, l, h _ _ _ _ q k⟩
structure WEnds where
  nx : Ev → Sto → Prop
  rt : WQ
  bk : Ev → Sto → Prop
  ct : Ev → Sto → Prop
abbrev WS := WEnds → Ev → Sto → Prop
structure WEnds.le (D D' : WEnds) : Prop where
  nx : ∀ τ S, D.nx τ S → D'.nx τ S
  rt : ∀ v S, D.rt v S → D'.rt v S
  bk : ∀ τ S, D.bk τ S → D'.bk τ S
  ct : ∀ τ S, D.ct τ S → D'.ct τ S
theorem WEnds.le.refl (D : WEnds) : D.le D := ⟨fun _ _ h => h, fun _ _ h => h, fun _ _ h => h, fun _ _ h => h⟩
abbrev MoS (w : WS) : Prop := ∀ (D D' : WEnds) (τ : Ev) (S : Sto), w D τ S → D.le D' → w D' τ S
def upN (Ts : List Addr) (K : PySem.W.Frag) (M : Map) (n : Nat) (H : Hp) (N : L2.St → Hp → Prop) : Ev → Sto → Prop := fun τ S => ∀ M' H' σ', Stp Ts K M n H M' S.length H' → Sim Ts K M' S H' → StR K M' S.length H' τ σ' → N σ' H'
def dn (Ts : List Addr) (K : PySem.W.Frag) (M : Map) (n : Nat) (H : Hp) (D : Ends) : WEnds := ⟨upN Ts K M n H D.nx, upQ Ts K M n H D.rt, upN Ts K M n H D.bk, upN Ts K M n H D.ct⟩
theorem upN.base {K : PySem.W.Frag} {M M2 : Map} {n n2 : Nat} {H H2 : Hp} {N : L2.St → Hp → Prop} {τ : Ev} {S : Sto} (h : upN Ts K M n H N τ S) (t : Stp Ts K M n H M2 n2 H2) : upN Ts K M2 n2 H2 N τ S := fun M' H' σ' t' s st => h M' H' σ' (t.trans t') s st
theorem dn_base {K : PySem.W.Frag} {M M2 : Map} {n n2 : Nat} {H H2 : Hp} (D : Ends) (t : Stp Ts K M n H M2 n2 H2) : (dn Ts K M n H D).le (dn Ts K M2 n2 H2 D) := ⟨fun _ _ h => h.base t, fun _ _ h => h.base t, fun _ _ h => h.base t, fun _ _ h => h.base t⟩
def upS (Ts : List Addr) (K : PySem.W.Frag) (w : WS) : TS := fun D σ H => ∃ M S τ, Sim Ts K M S H ∧ StR K M S.length H τ σ ∧ w (dn Ts K M S.length H D) τ S
structure SS (Ts : List Addr) (X : Cx) (st : Stmt) (w : WS) : Prop where
  ps : PS X st (upS Ts X.K w)
  mo : MoS w
structure SSs (Ts : List Addr) (X : Cx) (st : List Stmt) (w : WS) : Prop where
  ps : PSs X st (upS Ts X.K w)
  mo : MoS w
theorem ps_imp {X : Cx} {e : Stmt} {t t' : TS} (h : PS X e t) (k : ∀ D σ H, t' D σ H → t D σ H) : PS X e t' := fun pins s σ H D I q => h pins s σ H D I (k _ _ _ q)
theorem pss_imp {X : Cx} {e : List Stmt} {t t' : TS} (h : PSs X e t) (k : ∀ D σ H, t' D σ H → t D σ H) : PSs X e t' := fun pins s σ H D I q => h pins s σ H D I (k _ _ _ q)
def wNext : WS := fun D τ S => D.nx τ S
def wSeq (t u : WS) : WS := fun D τ S => t { D with nx := u D } τ S
section
variable {X : Cx} {a b c e o : Expr} {wa wb wc wo : WE} {pos : Pos}
theorem sss_nil : SSs Ts X [] wNext := ⟨pss_imp pss_nil fun D σ H ⟨M, S, τ, s, st, h⟩ => h M H σ (.refl _ _ _ _) s st, fun D D' τ S h k => k.nx _ _ h⟩
theorem sss_one {st : Stmt} {w : WS} (h : SS Ts X st w) : SSs Ts X [st] w := ⟨pss_one h.ps, h.mo⟩
theorem le_seq {D D' : WEnds} {u : WS} (mo : MoS u) (h : D.le D') : ({ D with nx := u D } : WEnds).le { D' with nx := u D' } := ⟨fun _ _ q => mo _ _ _ _ q h, h.rt, h.bk, h.ct⟩
theorem sss_cons {st : Stmt} {rest : List Stmt} {t u : WS} (h1 : SS Ts X st t) (h2 : SSs Ts X rest u) : SSs Ts X (st :: rest) (wSeq t u) := by
  refine ⟨pss_imp (pss_cons h1.ps h2.ps) fun D σ H h => ?_, fun D D' τ S h k => h1.mo _ _ _ _ h (le_seq h2.mo k)⟩
  obtain ⟨M, S, τ, s, st, h⟩ := h
  refine ⟨M, S, τ, s, st, h1.mo _ _ _ _ h ⟨fun τ1 S1 q M1 H1 σ1 t1 s1 st1 => ?_, fun _ _ q => q, fun _ _ q => q, fun _ _ q => q⟩⟩
  exact ⟨M1, S1, τ1, s1, st1, h2.mo _ _ _ _ q (dn_base D t1)⟩
def wNever : WS := fun _ _ _ => False
theorem ss_never {st : Stmt} : SS Ts X st wNever := ⟨ps_imp ps_never fun D σ H ⟨M, S, τ, s, st, h⟩ => h, fun D D' τ S h k => h⟩
def wRet (w : WE) : WS := fun D τ S => w τ S D.rt
def wRetN : WS := fun D _ S => D.rt .non S
theorem ss_ret (h : SE Ts X a wa) : SS Ts X (.Return (some a) pos) (wRet wa) := ⟨ps_imp (ps_ret h.pe) fun D σ H h => h, fun D D' τ S q k => h.mo _ _ _ _ q k.rt⟩
def wDrop (w : WE) : WS := fun D τ S => w τ S fun _ S1 => D.nx τ S1
theorem ss_expr (h : SE Ts X a wa) (hs : swapsWith a none pos.line X.env = pure false := by rfl) : SS Ts X (.Expr a pos) (wDrop wa) := by
  refine ⟨ps_imp (ps_expr h.pe hs) fun D σ H q => ?_, fun D D' τ S q k => h.mo _ _ _ _ q fun _ S1 q => k.nx _ _ q⟩
  obtain ⟨M, S, τ, s, st, q⟩ := q
  exact runE h.mo s st q fun v S1 M1 H1 u f t1 s1 r1 => f M1 H1 σ t1 s1 (st.stp t1)
def wIfS (c : WT) (t u : WS) : WS := fun D τ S => c τ S fun b S1 => if b = true then t D τ S1 else u D τ S1
theorem ss_if {as bs : List Stmt} {wt : WT} {t u : WS} (hc : ST Ts X c wt) (ha : SSs Ts X as t) (hb : SSs Ts X bs u) : SS Ts X (.If c as bs pos) (wIfS wt t u) := by
  refine ⟨ps_imp (ps_if hc.pt ha.ps hb.ps) fun D σ H q => ?_, fun D D' τ S q k => hc.mo _ _ _ _ q fun b S1 q => ite_imp q (fun q => ha.mo _ _ _ _ q k) fun q => hb.mo _ _ _ _ q k⟩
  obtain ⟨M, S, τ, s, st, q⟩ := q
  refine runT hc.mo s st q fun v S1 M1 H1 f t1 s1 => ite_imp f (fun f => ?_) fun f => ?_
  · exact ⟨M1, S1, τ, s1, st.stp t1, ha.mo _ _ _ _ f (dn_base D t1)⟩
  · exact ⟨M1, S1, τ, s1, st.stp t1, hb.mo _ _ _ _ f (dn_base D t1)⟩
/-- x = e, (x, y) = e -/
def wAsg (w : WE) (g : WG) : WS := fun D τ S => w τ S fun v S1 => g v τ fun τ1 => D.nx τ1 S1
theorem mo_asg {g : WG} (h : MoE wa) (hg : MoG g) : MoS (wAsg wa g) := fun D D' τ S q k => h _ _ _ _ q fun v S1 q => hg _ _ _ _ q fun τ1 q => k.nx _ _ q
theorem asg_bind {K : PySem.W.Frag} {g : TG} {wg : WG} {vs : List Nat} (h : MoE wa) (hg : GR K g wg vs) {D : Ends} {σ : L2.St} {H : Hp} (q : upS Ts K (wAsg wa wg) D σ H) : tAsg (upE Ts K wa) g D σ H := by
  obtain ⟨M, S, τ, s, st, q⟩ := q
  exact runE h s st q fun v S1 M1 H1 u f t1 s1 r1 => hg M1 _ H1 τ σ v u _ _ (st.stp t1) r1 f fun τ2 σ2 w2 st2 _ => w2 M1 H1 σ2 t1 s1 st2
theorem ss_set {i : Nat} {x : Str} {pos' : Pos} (hN : X.N.Nodup) (hi : X.N[i]? = some x) (hx : Loc X.env.scope x) (he : SE Ts X e wa) (hs : swapsWith e (some (.Name x pos')) pos.line X.env = pure false := by rfl) (hf : X.fn x = true ∨ X.env.scope.names.lookup x = some .local := by first | exact .inl rfl | exact .inr rfl | assumption) :
    SS Ts X (.Assign [.Name x pos'] e pos) (wAsg wa (wgName i)) := ⟨ps_imp (ps_set hN hi hx he.pe hs hf) fun D σ H q => asg_bind he.mo (gr_name (vs := [i]) (by simp)) q, mo_asg he.mo (mg_name i)⟩
theorem ss_asg {tg : Expr} {g : TG} {wg : WG} {vs : List Nat} (he : SE Ts X e wa) (hg : PG X tg g) (gr : GR X.K g wg vs) (mg : MoG wg) (hs : swapsWithSole [tg] e pos.line X.env = pure false := by rfl) (hw : swappedStores [tg] e X.env = pure none := by rfl)
    (h1 : (assignEach [tg] X.env).map (·.2) = [assign tg X.env] := by rfl) : SS Ts X (.Assign [tg] e pos) (wAsg wa wg) := ⟨ps_imp (ps_asg he.pe hg hs hw h1) fun D σ H q => asg_bind he.mo gr q, mo_asg he.mo mg⟩
/-- x, y = e1, e2 -/
def wPar (i j : Nat) (w : WA) : WS := fun D τ S => w τ S fun vs S1 => ∃ x y, vs = [x, y] ∧ D.nx ((τ.set i (some x)).set j (some y)) S1
end
end L4
set_option Elab.async false
set_option linter.all false
set_option maxRecDepth 100000
namespace L4
open PySem PySem.Spec PyProof.Rows L2 L3
def putP {κ : Type} [DecidableEq κ] (kvs : List (κ × PV)) (k : κ) (v : PV) : List (κ × PV) :=
  if (kvs.any fun kv => decide (kv.1 = k)) = true then kvs.map (fun kv => if kv.1 = k then (kv.1, v) else kv) else kvs ++ [(k, v)]
def dropP {κ : Type} [DecidableEq κ] (kvs : List (κ × PV)) (k : κ) : List (κ × PV) := kvs.filter fun kv => decide (kv.1 ≠ k)
section
variable {κ : Type} [DecidableEq κ] {K : PySem.W.Frag} {M : Map} {n : Nat} {H : Hp}
theorem KR.any (k : κ) : ∀ {v : List (κ × PV)} {u : List (κ × V)}, KR K M n H v u → (v.any fun kv => decide (kv.1 = k)) = (u.any fun kv => decide (kv.1 = k))
  | _, _, .nil => rfl
  | _, _, .cons _ t => by rw [List.any_cons, List.any_cons, KR.any k t]
theorem KR.append : ∀ {v v' : List (κ × PV)} {u u' : List (κ × V)}, KR K M n H v u → KR K M n H v' u' → KR K M n H (v ++ v') (u ++ u')
  | _, _, _, _, .nil, s => s
  | _, _, _, _, .cons r t, s => .cons r (KR.append t s)
theorem KR.over {x : PV} {y : V} (r : RP K M n H x y) (k : κ) : ∀ {v : List (κ × PV)} {u : List (κ × V)}, KR K M n H v u → KR K M n H (v.map (fun kv => if kv.1 = k then (kv.1, x) else kv)) (u.map (fun kv => if kv.1 = k then (kv.1, y) else kv))
  | _, _, .nil => .nil
  | _, _, .cons (k := j) q t => by
    rw [List.map_cons, List.map_cons]
    by_cases e : j = k
    · rw [if_pos e, if_pos e]; exact .cons r (KR.over r k t)
    · rw [if_neg e, if_neg e]; exact .cons q (KR.over r k t)
theorem KR.put {x : PV} {y : V} (r : RP K M n H x y) (k : κ) {v : List (κ × PV)} {u : List (κ × V)} (h : KR K M n H v u) : KR K M n H (putP v k x) (putK u k y) := by
  unfold putP putK
  rw [h.any k]
  split
  · exact h.over r k
  · exact h.append (.cons r .nil)
theorem KR.drop (k : κ) : ∀ {v : List (κ × PV)} {u : List (κ × V)}, KR K M n H v u → KR K M n H (dropP v k) (dropK u k)
  | _, _, .nil => .nil
  | _, _, .cons (k := j) q t => by
    unfold dropP dropK
    rw [List.filter_cons, List.filter_cons]
    by_cases e : j = k
    · simp only [e, ne_eq, not_true, decide_false]; exact KR.drop k t
    · simp only [ne_eq, e, not_false_eq_true, decide_true]; exact .cons q (KR.drop k t)
end
section
variable {K : PySem.W.Frag} {M : Map} {S : Sto} {H : Hp}
end
def rSetW (x i v : PV) (S : Sto) (Q : Sto → Prop) : Prop := (∃ k xs j n, x = .ref k ∧ i = .int j ∧ S[k]? = some (.lst xs) ∧ ixN xs.length j = some n ∧ Q (S.set k (.lst (xs.set n v)))) ∨ ∃ k kvs y, x = .ref k ∧ S[k]? = some (.dct kvs) ∧ keyW i = some y ∧ kvs.length < 16777216 ∧ Q (S.set k (.dct (putP kvs y v)))
section
variable {X : Cx} {a b c e o i : Expr} {wa wb wc wo wi : WE} {pos : Pos}
def wPut (wo wi wv : WE) : WS := fun D τ S => wv τ S fun v S1 => wo τ S1 fun x S2 => wi τ S2 fun i S3 => rSetW x i v S3 fun S4 => D.nx τ S4
def wAug (i : Nat) (w : WE) (r : W2) : WS := fun D τ S => ∃ x, τ[i]? = some (some x) ∧ w τ S fun y S1 => r x y S1 fun z S2 => D.nx (τ.set i (some z)) S2
abbrev WI := Ev → Sto → (List PV → (Sto → Prop) → Sto → Prop) → Prop
def ItR (Ts : List Addr) (K : PySem.W.Frag) (J : It) (xs : List PV) (G : Sto → Prop) (M : Map) (n : Nat) (H : Hp) : Prop := ∀ (M' : Map) (S' : Sto) (H' : Hp), Stw K M n H M' S'.length H' → Sim Ts K M' S' H' → G S' →
  (∀ (i : Nat) (x : PV), xs[i]? = some x → J.go i H' ∧ ∀ u H2, J.yld i H' u H2 → Stp Ts K M' S'.length H' M' S'.length H2 ∧ Sim Ts K M' S' H2 ∧ RP K M' S'.length H2 x u) ∧ ∀ i, xs.length ≤ i → J.stop i H'
def upI (Ts : List Addr) (K : PySem.W.Frag) (w : WI) : TI := fun σ H R => ∃ M S τ, Sim Ts K M S H ∧ StR K M S.length H τ σ ∧ w τ S fun xs G S1 => ∀ M1 H1 J, Stp Ts K M S.length H M1 S1.length H1 → Sim Ts K M1 S1 H1 → ItR Ts K J xs G M1 S1.length H1 → R J H1
abbrev MoI (w : WI) : Prop := ∀ (τ : Ev) (S : Sto) (R R' : List PV → (Sto → Prop) → Sto → Prop), w τ S R → (∀ xs G S', R xs G S' → R' xs G S') → w τ S R'
structure SI (Ts : List Addr) (X : Cx) (tg iter : Expr) (w : WI) : Prop where
  pi : PI X tg iter (upI Ts X.K w)
  mo : MoI w
theorem pi_imp {X : Cx} {tg e : Expr} {t t' : TI} (h : PI X tg e t) (k : ∀ σ H R, t' σ H R → t σ H R) : PI X tg e t' := fun pins s σ H R I q => h pins s σ H R I (k _ _ _ q)
def wLoop (g : WG) (t : WS) (G : Sto → Prop) : List PV → WS
  | [] => fun D τ S => G S ∧ D.nx τ S
  | x :: xs => fun D τ S => G S ∧ g x τ fun τ1 => t { nx := wLoop g t G xs D, rt := D.rt, bk := D.nx, ct := wLoop g t G xs D } τ1 S
def wFor (wi : WI) (g : WG) (t : WS) : WS := fun D τ S => wi τ S fun xs G S1 => wLoop g t G xs D τ S1
theorem mo_loop {g : WG} {t : WS} {G : Sto → Prop} (hg : MoG g) (ht : MoS t) : ∀ xs, MoS (wLoop g t G xs)
  | [] => fun D D' τ S h k => ⟨h.1, k.nx _ _ h.2⟩
  | x :: xs => fun D D' τ S h k => ⟨h.1, hg _ _ _ _ h.2 fun τ1 h => ht _ _ _ _ h ⟨fun _ _ h => mo_loop hg ht xs _ _ _ _ h k, k.rt, k.nx, fun _ _ h => mo_loop hg ht xs _ _ _ _ h k⟩⟩
theorem ss_for {tg iter : Expr} {body : List Stmt} {wi : WI} {g : TG} {wg : WG} {t : WS} {vs : List Nat} (hp : PassesOwn (model X.prog X.w) X.A X.env X.xe) (hc : X.calm = true) (hi : SI Ts X tg iter wi) (hg : PG X tg g) (gr : GR X.K g wg vs) (mg : MoG wg) (hb : SSs Ts X body t)
    (hs : ∀ x, foldedSetIterable iter X.env x = pure x := by intro _; rfl) : SS Ts X (.For tg iter body [] pos) (wFor wi wg t) := by
  refine ⟨ps_imp (ps_for hp hc hi.pi hg hb.ps hs) fun D σ H q => ?_, fun D D' τ S q k => hi.mo _ _ _ _ q fun xs G S1 q => mo_loop mg hb.mo xs _ _ _ _ q k⟩
  obtain ⟨M, S, τ, s, st, q⟩ := q
  refine ⟨M, S, τ, s, st, hi.mo _ _ _ _ q fun xs G S1 q M1 H1 J t1 s1 it => ?_⟩
  refine ⟨fun i m σ' H' => m = xs.length - i ∧ i ≤ xs.length ∧ ∃ M' S' τ', Stp Ts X.K M1 S1.length H1 M' S'.length H' ∧ Sim Ts X.K M' S' H' ∧ StR X.K M' S'.length H' τ' σ' ∧ wLoop wg t G (xs.drop i) (dn Ts X.K M S.length H D) τ' S', ⟨_, rfl, Nat.zero_le _, M1, S1, τ, .refl _ _ _ _, s1, st.stp t1, q⟩, ?_⟩
  rintro i m σ2 H2 ⟨rfl, hil, M2, S2, τ2, t2, s2, st2, q2⟩
  by_cases hl : i < xs.length
  · obtain ⟨x, hx⟩ : ∃ x, xs[i]? = some x := ⟨xs[i], by simp [hl]⟩
    have ed : xs.drop i = x :: xs.drop (i + 1) := by
      rw [List.drop_eq_getElem_cons hl]
      have := List.getElem?_eq_getElem hl
      rw [hx] at this
      rw [Option.some.inj this]
    rw [ed] at q2
    obtain ⟨hG, q2⟩ := q2
    obtain ⟨h1, _⟩ := it M2 S2 H2 t2.w s2 hG
    obtain ⟨hgo, hy⟩ := h1 i x hx
    refine .inr ⟨hgo, fun σ' H' => ∃ M' S' τ', Stp Ts X.K M1 S1.length H1 M' S'.length H' ∧ Sim Ts X.K M' S' H' ∧ StR X.K M' S'.length H' τ' σ' ∧ wLoop wg t G (xs.drop (i + 1)) (dn Ts X.K M S.length H D) τ' S', fun σ' H' h => ⟨_, ?_, rfl, hl, h⟩, fun u H3 yl => ?_⟩
    · omega
    · obtain ⟨t3, s3, r3⟩ := hy u H3 yl
      refine gr M2 S2.length H3 τ2 σ2 x u _ _ (st2.stp t3) r3 q2 fun τ4 σ4 q4 st4 _ => ?_
      have tt := (t1.trans t2).trans t3
      refine ⟨M2, S2, τ4, s3, st4, hb.mo _ _ _ _ q4 ⟨?_, ?_, ?_, ?_⟩⟩
      · exact fun τ5 S5 h M5 H5 σ5 t5 s5 st5 => ⟨M5, S5, τ5, (t2.trans t3).trans t5, s5, st5, h⟩
      · exact fun v S5 h => h.base tt
      · exact fun τ5 S5 h => h.base tt
      · exact fun τ5 S5 h M5 H5 σ5 t5 s5 st5 => ⟨M5, S5, τ5, (t2.trans t3).trans t5, s5, st5, h⟩
  · have : i = xs.length := by omega
    subst this
    rw [List.drop_length] at q2
    obtain ⟨hG, q2⟩ := q2
    obtain ⟨_, h1⟩ := it M2 S2 H2 t2.w s2 hG
    exact .inl ⟨h1 _ (Nat.le_refl _), q2 M2 H2 σ2 (t1.trans t2) s2 st2⟩
end
end L4
set_option Elab.async false
set_option linter.all false
set_option maxRecDepth 100000
namespace L4
open PySem PySem.Spec PyProof.Rows L2 L3
section
variable {X : Cx} {a b c e o i tg : Expr} {wa wb wc wo : WE} {pos : Pos}
theorem pi_seqX {l : Expr} {tl : TE} (hl : PE X l tl) : PI X tg l (fun σ H R => tl σ H fun x H1 => ∃ k a xs, x = .ref a ∧ SqX k X.K H1 a xs ∧ R (match k with | true => Itt X.K a | false => Itl X.K a) H1) := by
  intro pins s σ H R I h
  refine thn (hl pins s σ H _ I h) fun v s1 ⟨x, H1, I1, r1, q1⟩ => ?_
  obtain ⟨k, a, xs, e, hq, q⟩ := q1
  subst e
  cases r1
  cases k
  · obtain ⟨its, rv, p, hz⟩ := I1.list hq
    refine wpAny_pyIter_list p.isList ?_
    refine ⟨s1.heap.objs.size, [s1.heap.objs.size], _, _, H1, rfl, I1.kept (t' := s1.toks) fun b o e => Heap.get?_push_of_some _ e, turn_list a _, ⟨_, Heap.get?_push_size _ rfl, rfl, rfl⟩, fun b hb => ?_, q⟩
    have e : b = s1.heap.objs.size := by simpa using hb
    subst e
    exact I1.fpOk (Nat.le_refl _) (I1.hok.fresh (Nat.le_refl _))
  · obtain ⟨its, rv, p, hz⟩ := I1.tuple hq
    refine wpAny_pyIter_tuple (show s1.heap.IsTuple a its.toArray from p) ?_
    refine ⟨s1.heap.objs.size, [s1.heap.objs.size], _, _, H1, rfl, I1.kept (t' := s1.toks) fun b o e => Heap.get?_push_of_some _ e, turn_tuple a _, ⟨_, Heap.get?_push_size _ rfl, rfl, rfl⟩, fun b hb => ?_, q⟩
    have e : b = s1.heap.objs.size := by simpa using hb
    subst e
    exact I1.fpOk (Nat.le_refl _) (I1.hok.fresh (Nat.le_refl _))
def wSq (w : WE) : WI := fun τ S R => w τ S fun x S1 => ∃ k xs, seqW S1 x = some (k, xs) ∧ R xs (fun S' => seqW S' x = some (k, xs)) S1
/-- the same value at a later state -/
theorem seq_later {K : PySem.W.Frag} {M M' : Map} {S S' : Sto} {H H' : Hp} {x : PV} {k : Bool} {ys : List PV} {a : Addr} (r : RP K M S.length H x (.ref a)) (t : Stw K M S.length H M' S'.length H') (s' : Sim Ts K M' S' H') (h : seqW S' x = some (k, ys)) : ∃ us, SqX k K H' a us ∧ RPs K M' S'.length H' ys us := by
  obtain ⟨p, us, e, h4, r4⟩ := s'.seq h (r.stw t)
  cases e
  exact ⟨us, h4, r4⟩
theorem RPs.none {K : PySem.W.Frag} {M : Map} {n : Nat} {H : Hp} {xs : List PV} {us : List V} (r : RPs K M n H xs us) {i : Nat} (h : xs.length ≤ i) : us.length ≤ i := by rw [← r.length]; exact h
theorem si_seq (h : SE Ts X a wa) : SI Ts X tg a (wSq wa) := by
  refine ⟨pi_imp (pi_seqX h.pe) fun σ H R q => ?_, fun τ S R R' q k => h.mo _ _ _ _ q fun x S1 ⟨b, xs, e, q⟩ => ⟨b, xs, e, k _ _ _ q⟩⟩
  obtain ⟨M, S, τ, s, st, q⟩ := q
  refine runE h.mo s st q fun v S1 M1 H1 u f t1 s1 r1 => ?_
  obtain ⟨k, xs, e1, f⟩ := f
  obtain ⟨p, us, rfl, h4, r4⟩ := s1.seq e1 r1
  refine ⟨k, p, us, rfl, h4, f M1 H1 _ t1 s1 fun M2 S2 H2 t2 s2 hG => ?_⟩
  obtain ⟨ws, h5, r5⟩ := seq_later r1 t2 s2 hG (ys := xs)
  cases k
  · refine ⟨fun i x hx => ?_, fun i hi => ⟨ws, h5, r5.none hi⟩⟩
    obtain ⟨u, h6, r6⟩ := r5.get hx
    refine ⟨⟨ws, u, h5, h6⟩, fun u2 H3 yl => ?_⟩
    obtain ⟨rfl, y2⟩ := yl
    have := y2 ws h5
    rw [h6] at this
    cases this
    exact ⟨.refl _ _ _ _, s2, r6⟩
  · refine ⟨fun i x hx => ?_, fun i hi => ⟨ws, h5, r5.none hi⟩⟩
    obtain ⟨u, h6, r6⟩ := r5.get hx
    refine ⟨⟨ws, u, h5, h6⟩, fun u2 H3 yl => ?_⟩
    obtain ⟨rfl, y2⟩ := yl
    have := y2 ws h5
    rw [h6] at this
    cases this
    exact ⟨.refl _ _ _ _, s2, r6⟩
def rngP (lo : Int) (n : Nat) : List PV := (List.range n).map fun (i : Nat) => PV.int (lo + (i : Int))
theorem rngP_length (lo : Int) (n : Nat) : (rngP lo n).length = n := by simp [rngP]
theorem rngP_get {lo : Int} {n i : Nat} {x : PV} (h : (rngP lo n)[i]? = some x) : i < n ∧ x = .int (lo + (i : Int)) := by
  unfold rngP at h
  rw [List.getElem?_map] at h
  by_cases c : i < n
  · rw [List.getElem?_range c] at h
    cases h
    exact ⟨c, rfl⟩
  · rw [List.getElem?_eq_none (by simpa using c)] at h
    cases h
theorem it_rng {K : PySem.W.Frag} {lo : Int} {n k : Nat} {M : Map} {H : Hp} : ItR Ts K (Itr lo n) (rngP lo n) (fun _ => True) M k H := fun M2 S2 H2 t2 s2 _ => by
  refine ⟨fun i x hx => ?_, fun i hi => by rw [rngP_length] at hi; exact hi⟩
  obtain ⟨h1, rfl⟩ := rngP_get hx
  exact ⟨h1, fun u H3 ⟨h2, h3⟩ => by subst h2 h3; exact ⟨.refl _ _ _ _, s2, .int _⟩⟩
def wRng1 (w : WA) : WI := fun τ S R => w τ S fun vs S1 => ∃ j : Int, vs = [.int j] ∧ -4611686018427387904 ≤ j ∧ j < 4611686018427387904 ∧ R (rngP 0 j.toNat) (fun _ => True) S1
def wRng2 (w : WA) : WI := fun τ S R => w τ S fun vs S1 => ∃ i j : Int, vs = [.int i, .int j] ∧ (-4611686018427387904 ≤ i ∧ i < 4611686018427387904 ∧ -4611686018427387904 ≤ j ∧ j < 4611686018427387904) ∧ R (rngP i (j - i).toNat) (fun _ => True) S1
theorem si_range1 {w : WA} {p : Pos} (hg : Gl X "range") (hm : X.mg "range" = none) (ha : SA Ts X [a] w) (hs : starEach [a] X.env = [(false, eval a X.env)] := by rfl) : SI Ts X tg (.Call (.Name "range" p) [a] [] pos) (wRng1 w) := by
  refine ⟨pi_imp (pi_range1 hg hm ha.pa hs) fun σ H R q => ?_, fun τ S R R' q k => ha.mo _ _ _ _ q fun x S1 ⟨j, e, h1, h2, q⟩ => ⟨j, e, h1, h2, k _ _ _ q⟩⟩
  obtain ⟨M, S, τ, s, st, q⟩ := q
  refine runA ha.mo s st q fun v S1 M1 H1 u f t1 s1 r1 => ?_
  obtain ⟨j, rfl, h1, h2, f⟩ := f
  obtain ⟨u1, rfl, r2⟩ := r1.one
  cases r2
  exact ⟨j, rfl, by omega, by omega, f M1 H1 _ t1 s1 it_rng⟩
theorem si_range2 {w : WA} {p : Pos} (hg : Gl X "range") (hm : X.mg "range" = none) (ha : SA Ts X [a, b] w) (hs : starEach [a, b] X.env = [(false, eval a X.env), (false, eval b X.env)] := by rfl) (hs2 : starEach [b] X.env = [(false, eval b X.env)] := by rfl) : SI Ts X tg (.Call (.Name "range" p) [a, b] [] pos) (wRng2 w) := by
  refine ⟨pi_imp (pi_range2 hg hm ha.pa hs hs2) fun σ H R q => ?_, fun τ S R R' q k => ha.mo _ _ _ _ q fun x S1 ⟨i, j, e, h1, q⟩ => ⟨i, j, e, h1, k _ _ _ q⟩⟩
  obtain ⟨M, S, τ, s, st, q⟩ := q
  refine runA ha.mo s st q fun v S1 M1 H1 u f t1 s1 r1 => ?_
  obtain ⟨i, j, rfl, h1, f⟩ := f
  obtain ⟨u1, u2, rfl, r2, r3⟩ := r1.two
  cases r2; cases r3
  exact ⟨i, j, rfl, by omega, f M1 H1 _ t1 s1 it_rng⟩
end
theorem sqx_inj {X : Cx} {pins : List (Addr × Obj)} {σ : L2.St} {H : Hp} {s : Shared} {k : Bool} {a : Addr} {xs ys : List V} (I : Inv X pins σ H s) (h : SqX k X.K H a xs) (h' : SqX k X.K H a ys) : xs = ys := by
  cases k
  · exact I.list_inj h h'
  · exact I.tuple_inj h h'
def ItzY (k1 k2 : Bool) (K : PySem.W.Frag) (a b : Addr) : It :=
  ⟨fun i H => ∃ xs ys, SqX k1 K H a xs ∧ SqX k2 K H b ys ∧ i < xs.length ∧ i < ys.length, fun i H v H' => ∃ T x y, v = .ref T ∧ H T = none ∧ H' = upd H T (.tup [x, y]) ∧ (∀ xs, SqX k1 K H a xs → xs[i]? = some x) ∧ ∀ ys, SqX k2 K H b ys → ys[i]? = some y,
    fun i H => ∃ xs ys, SqX k1 K H a xs ∧ SqX k2 K H b ys ∧ (xs.length ≤ i ∨ ys.length ≤ i)⟩
theorem turn_zipY {P : Program} {w : World} {K : PySem.W.Frag} {elts : List Expr} {kk : Nat} {tpos : Pos} {k1 k2 : Bool} {a b z TI TO i1 i2 : Addr} (D : ZipApart z TI TO i1 i2 a b) :
    Turn P w K (.Tuple elts kk tpos) (ItzY k1 k2 K a b) [z, TI, TO, i1, i2] z (fun i h => IsZip h z TI TO .none ∧ IsPair h TI (.ref i1) (.ref i2) ∧ (∃ x y, IsPair h TO x y) ∧ SqI k1 h i1 a i ∧ SqI k2 h i2 b i) where
  mem := (turn_zipX (P := P) (w := w) (K := K) (elts := elts) (kk := kk) (tpos := tpos) (k1 := k1) (k2 := k2) [] [] D).mem
  obj := (turn_zipX (P := P) (w := w) (K := K) (elts := elts) (kk := kk) (tpos := tpos) (k1 := k1) (k2 := k2) [] [] D).obj
  keep := (turn_zipX (P := P) (w := w) (K := K) (elts := elts) (kk := kk) (tpos := tpos) (k1 := k1) (k2 := k2) [] [] D).keep
  item := fun X h1 h2 h3 h4 i pins s σ H E I hf tn ⟨xs, ys, hq, hq2, hl⟩ => by
    refine thn ((turn_zipX xs ys D).item X h1 h2 h3 h4 i pins s σ H E I hf tn ⟨hq, hq2, hl⟩) fun r s1 ⟨u, e1, q⟩ => ⟨u, e1, thn q fun _ s2 ⟨x, H', I2, rx, ⟨T, y, y2, e2, e3, e4, e5, e6⟩, tn2, hb⟩ => ⟨x, H', I2, rx, ⟨T, y, y2, e2, e3, e4, fun zs hzs => ?_, fun zs hzs => ?_⟩, tn2, hb⟩⟩
    · subst h3
      rw [sqx_inj I hzs hq]; exact e5
    · subst h3
      rw [sqx_inj I hzs hq2]; exact e6
  done := fun X h1 h2 h3 h4 i pins s σ H E I hf tn ⟨xs, ys, hq, hq2, hl⟩ => (turn_zipX (elts := elts) (kk := kk) (tpos := tpos) xs ys D).done X h1 h2 h3 h4 i pins s σ H E I hf tn ⟨hq, hq2, hl⟩
  self := (turn_zipX (P := P) (w := w) (K := K) (elts := elts) (kk := kk) (tpos := tpos) (k1 := k1) (k2 := k2) [] [] D).self
def iZipY (K : PySem.W.Frag) (ta : TA) : TI := fun σ H R => ta σ H fun vs H1 => ∃ k1 k2 a b xs ys, vs = [.ref a, .ref b] ∧ SqX k1 K H1 a xs ∧ SqX k2 K H1 b ys ∧ R (ItzY k1 k2 K a b) H1
theorem pi_zipY {X : Cx} {e e2 : Expr} {ta : TA} {p pos tpos : Pos} {elts : List Expr} {kk : Nat} (hg : Gl X "zip") (hm : X.mg "zip" = none) (ha : PA X [e, e2] ta)
    (hs : starEach [e, e2] X.env = (false, eval e X.env) :: starEach [e2] X.env := by rfl) (hpl : (backTo pos (starEach [e2] X.env)).any (·.1) = false := by rfl) :
    PI X (.Tuple elts kk tpos) (.Call (.Name "zip" p) [e, e2] [] pos) (iZipY X.K ta) := by
  intro pins s σ H R I h
  refine Call_ (ld_blt I hg hm boot_zip5 (PyProof.Rows.callWith_type1 (thn (ha pos pins s σ H _ I h) fun us s1 ⟨vs, H1, I1, r1, q1⟩ => ?_) hs hpl))
  obtain ⟨k1, k2, a, b, xs, ys, ex, hqx, hqy, q⟩ := q1
  subst ex
  cases r1 with
  | cons r rr =>
    cases rr with
    | cons r' rr =>
      cases rr
      cases r
      cases r'
      obtain ⟨its, rv, p1, _⟩ := sqx I1 hqx
      obtain ⟨its2, rv2, p2, _⟩ := sqx I1 hqy
      refine call_zipX p1 p2 fun h' hz hTI hTO h1 h2 hk => wpAny_pyIter_zip hz ?_
      have I2 : Inv X pins σ H1 { s1 with heap := h' } := I1.kept (t' := s1.toks) hk
      refine ⟨s1.heap.objs.size + 4, [s1.heap.objs.size + 4, s1.heap.objs.size + 2, s1.heap.objs.size + 3, s1.heap.objs.size, s1.heap.objs.size + 1], _, _, H1, rfl, I2, turn_zipY (PySem.W.ktu_apart s1.heap.objs.size a b p1.lt p2.lt), ⟨hz, hTI, ⟨_, _, hTO⟩, h1, h2⟩, fun c hcm => ?_, q⟩
      have e' : c = s1.heap.objs.size + 4 ∨ c = s1.heap.objs.size + 2 ∨ c = s1.heap.objs.size + 3 ∨ c = s1.heap.objs.size ∨ c = s1.heap.objs.size + 1 := by simpa using hcm
      have hle : s1.heap.objs.size ≤ c := by
        rcases e' with z | z | z | z | z <;> rw [z] <;> first | exact Nat.le_refl _ | exact Nat.le_add_right _ _
      exact I1.fpOk hle (I1.hok.fresh hle)
section
variable {X : Cx} {a b c e o i tg : Expr} {wa wb wc wo : WE} {pos : Pos}
/-- enumerate(xs) -/
def enumP (xs : List PV) : List PV := xs.zipIdx.map fun p => PV.tup [.int (p.2 : Nat), p.1]
def wEnum (w : WA) : WI := fun τ S R => w τ S fun vs S1 => ∃ x k xs, vs = [x] ∧ seqW S1 x = some (k, xs) ∧ R (enumP xs) (fun S' => seqW S' x = some (k, xs)) S1
/-- zip(xs, ys) -/
def zipP (xs ys : List PV) : List PV := (xs.zip ys).map fun p => PV.tup [p.1, p.2]
theorem zipP_length (xs ys : List PV) : (zipP xs ys).length = min xs.length ys.length := by simp [zipP]
theorem zipP_get {xs ys : List PV} {i : Nat} {x : PV} (h : (zipP xs ys)[i]? = some x) : ∃ y z, xs[i]? = some y ∧ ys[i]? = some z ∧ x = .tup [y, z] := by
  unfold zipP at h
  rw [List.getElem?_map] at h
  cases q : (xs.zip ys)[i]? with
  | none => rw [q] at h; cases h
  | some y =>
    rw [q] at h
    cases h
    obtain ⟨h1, h2⟩ := List.getElem?_zip_eq_some.mp q
    exact ⟨_, _, h1, h2, rfl⟩
def wZip (w : WA) : WI := fun τ S R => w τ S fun vs S1 => ∃ x y k xs l ys, vs = [x, y] ∧ seqW S1 x = some (k, xs) ∧ seqW S1 y = some (l, ys) ∧ R (zipP xs ys) (fun S' => seqW S' x = some (k, xs) ∧ seqW S' y = some (l, ys)) S1
theorem si_zip {w : WA} {p tpos : Pos} {elts : List Expr} {kk : Nat} (hg : Gl X "zip") (hm : X.mg "zip" = none) (ha : SA Ts X [a, b] w)
    (hs : starEach [a, b] X.env = (false, eval a X.env) :: starEach [b] X.env := by rfl) (hpl : (backTo pos (starEach [b] X.env)).any (·.1) = false := by rfl) : SI Ts X (.Tuple elts kk tpos) (.Call (.Name "zip" p) [a, b] [] pos) (wZip w) := by
  refine ⟨pi_imp (pi_zipY hg hm ha.pa hs hpl) fun σ H R q => ?_, fun τ S R R' q k => ha.mo _ _ _ _ q fun x S1 ⟨v, v2, b, xs, b2, ys, e, h1, h2, q⟩ => ⟨v, v2, b, xs, b2, ys, e, h1, h2, k _ _ _ q⟩⟩
  obtain ⟨M, S, τ, s, st, q⟩ := q
  refine runA ha.mo s st q fun v S1 M1 H1 u f t1 s1 r1 => ?_
  obtain ⟨x, y, k, xs, l, ys, rfl, h1, h1', f⟩ := f
  obtain ⟨u1, u2, rfl, r2, r3⟩ := r1.two
  obtain ⟨p, us, rfl, h4, r4⟩ := s1.seq h1 r2
  obtain ⟨p2, us2, rfl, h4', r4'⟩ := s1.seq h1' r3
  refine ⟨k, l, p, p2, us, us2, rfl, h4, h4', f M1 H1 _ t1 s1 fun M2 S2 H2 t2 s2 hG => ?_⟩
  obtain ⟨ws, h5, r5⟩ := seq_later r2 t2 s2 hG.1
  obtain ⟨ws2, h5', r5'⟩ := seq_later r3 t2 s2 hG.2
  refine ⟨fun i x hx => ?_, fun i hi => ⟨ws, ws2, h5, h5', ?_⟩⟩
  · obtain ⟨y, z, hy, hz, rfl⟩ := zipP_get hx
    obtain ⟨u, h6, r6⟩ := r5.get hy
    obtain ⟨u', h6', r6'⟩ := r5'.get hz
    refine ⟨⟨ws, ws2, h5, h5', (List.getElem?_eq_some_iff.mp h6).1, (List.getElem?_eq_some_iff.mp h6').1⟩, fun u2 H3 yl => ?_⟩
    obtain ⟨T, x2, y2, rfl, h7, rfl, h8, h8'⟩ := yl
    have h9 := h8 ws h5
    have h9' := h8' ws2 h5'
    rw [h6] at h9
    rw [h6'] at h9'
    cases h9; cases h9'
    obtain ⟨s3, t3⟩ := s2.beside (o := .tup [u, u']) h7
    exact ⟨t3, s3, .tup (SqT.of upd_same) (.cons (r6.stp t3) (.cons (r6'.stp t3) .nil))⟩
  · rw [zipP_length] at hi
    rw [← r5.length, ← r5'.length]
    omega
end
end L4
set_option Elab.async false
set_option linter.all false
set_option maxRecDepth 100000
namespace L4
open PySem PySem.Spec PyProof.Rows L2 L3
section
variable {K : PySem.W.Frag} {M M' : Map} {S : Sto} {n n' : Nat} {H H' H0 : Hp} {D : Addr} {o : HO} {us us' : List V}
theorem Stp.notOwn (t : Stp Ts K M n H M' n' H') (h : ¬ Own M n D) (hd : H D = some o) : ¬ Own M' n' D := by
  rintro ⟨i, hi, e⟩
  by_cases c : i < n
  · rw [t.m i c, t.q i c] at e
    exact h ⟨i, c, e⟩
  · obtain ⟨p, q⟩ := t.new i (by omega) hi
    rcases e with rfl | rfl
    · rw [p] at hd; cases hd
    · rw [q] at hd; cases hd
theorem Sim.notT (s : Sim Ts K M S H) (hd : H D = some (.lst us)) : D ∉ Ts := fun z => by
  obtain ⟨ps, e, _⟩ := s.tab D z
  rw [hd] at e; cases e
theorem muts_lst (hd : H D = some (.lst us)) : ∀ x, H D = some x → muts x := fun x e => by rw [hd] at e; cases e; trivial
theorem Sim.side (s : Sim Ts K M S H) (h : ¬ Own M S.length D) (hd : H D = some (.lst us)) : Sim Ts K M S (upd H D (.lst us')) := by
  refine ⟨fun i ob hi => ?_, s.sep, fun P hP => ?_⟩
  · have hl := (List.getElem?_eq_some_iff.mp hi).1
    refine (s.ob i ob hi).mono (Nat.le_refl _) (fun _ _ => rfl) (fun a us h => sqt_upd h (muts_lst hd)) (fun a us h => scr_upd h (muts_lst hd)) (upd_ne ?_) (upd_ne ?_)
    · rintro rfl; exact h ⟨i, hl, .inl rfl⟩
    · rintro rfl; exact h ⟨i, hl, .inr rfl⟩
  · refine (s.tab P hP).keep (fun ps e => ?_) fun a oc c e => ?_
    · rw [upd_ne]; exact e
      rintro rfl; rw [hd] at e; cases e
    · rw [upd_ne]; exact e
      rintro rfl; rw [hd] at e; cases e
theorem Stp.side (t : Stp Ts K M n H0 M' n' H) (h0 : H0 D = none) (hd : H D = some (.lst us)) : Stp Ts K M n H0 M' n' (upd H D (.lst us')) where
  le := t.le
  m := t.m
  q := t.q
  tup := fun a us h => sqt_upd (t.tup a us h) (muts_lst hd)
  scr := fun a us h => scr_upd (t.scr a us h) (muts_lst hd)
  fr := fun a u h h1 h2 => by
    rw [upd_ne]; exact t.fr a u h h1 h2
    rintro rfl; rw [h0] at h; cases h
  grow := fun a h => t.grow a (none_upd h)
  new := t.new
theorem RPs.side {xs : List PV} {ws : List V} (r : RPs K M n H xs ws) (hd : H D = some (.lst us)) : RPs K M n (upd H D (.lst us')) xs ws := r.mono (Nat.le_refl _) (fun _ _ => rfl) (fun a us h => sqt_upd h (muts_lst hd)) (fun a us h => scr_upd h (muts_lst hd))
theorem StR.side {τ : Ev} {σ : L2.St} (r : StR K M n H τ σ) (hd : H D = some (.lst us)) : StR K M n (upd H D (.lst us')) τ σ := ⟨r.len, fun i v h => let ⟨u, h1, h2⟩ := r.get i v h; ⟨u, h1, h2.mono (Nat.le_refl _) (fun _ _ => rfl) (fun a us h => sqt_upd h (muts_lst hd)) (fun a us h => scr_upd h (muts_lst hd))⟩⟩
end
theorem wipe_twice (σ : L2.St) (vs : List Nat) : wipe (wipe σ vs) vs = wipe σ vs := by
  apply List.ext_getElem?
  intro j
  by_cases m : j ∈ vs
  · rw [wipe_in m, wipe_in m, wipe_length]
  · rw [wipe_out m]
def wYes : WT := fun _ S Q => Q true S
def wLcGo (g : WG) (wt : WT) (we : WE) (τ : Ev) (G : Sto → Prop) : List PV → List PV → Sto → (List PV → Sto → Prop) → Prop
  | [], acc, S, F => G S ∧ F acc S
  | x :: xs, acc, S, F => G S ∧ g x τ fun τ2 => wt τ2 S fun b S3 => if b = true then we τ2 S3 fun y S4 => wLcGo g wt we τ G xs (acc ++ [y]) S4 F else wLcGo g wt we τ G xs acc S3 F
theorem mo_lcGo {g : WG} {wt : WT} {we : WE} {τ : Ev} {G : Sto → Prop} (mg : MoG g) (mt : MoT wt) (me : MoE we) : ∀ (xs acc : List PV) (S : Sto) (F F' : List PV → Sto → Prop), wLcGo g wt we τ G xs acc S F → (∀ ys S', F ys S' → F' ys S') → wLcGo g wt we τ G xs acc S F'
  | [], acc, S, F, F', h, k => ⟨h.1, k _ _ h.2⟩
  | x :: xs, acc, S, F, F', h, k => ⟨h.1, mg _ _ _ _ h.2 fun τ2 h => mt _ _ _ _ h fun b S3 h => ite_imp h (fun h => me _ _ _ _ h fun y S4 h => mo_lcGo mg mt me xs _ _ _ _ h k) fun h => mo_lcGo mg mt me xs _ _ _ _ h k⟩
def wLcV (wi : WI) (g : WG) (wt : WT) (we : WE) (vs : List Nat) : WA := fun τ S F => wi τ S fun xs G S1 => xs.length ≤ 16777216 ∧ wLcGo g wt we (wipeW τ vs) G xs [] S1 F
theorem mo_lcV {wi : WI} {g : WG} {wt : WT} {we : WE} {vs : List Nat} (mi : MoI wi) (mg : MoG g) (mt : MoT wt) (me : MoE we) : MoA (wLcV wi g wt we vs) := fun τ S F F' h k => mi _ _ _ _ h fun xs G S1 h => ⟨h.1, mo_lcGo mg mt me _ _ _ _ _ h.2 k⟩
/-- a list that was made beside the store -/
def LcQ (Ts : List Addr) (K : PySem.W.Frag) (M : Map) (n : Nat) (H : Hp) (Q : VK) : List PV → Sto → Prop := fun ys S2 => ys.length ≤ 16777216 → ∀ M2 H2 D us, Stp Ts K M n H M2 S2.length H2 → Sim Ts K M2 S2 H2 → ¬ Own M2 S2.length D → H D = none → H2 D = some (.lst us) → RPs K M2 S2.length H2 ys us → Q (.ref D) H2
theorem lc_sound {K : PySem.W.Frag} {wi : WI} {g : TG} {wg : WG} {wt : WT} {we : WE} {vs : List Nat} (mi : MoI wi) (gr : GR K g wg vs) (mg : MoG wg) (mt : MoT wt) (me : MoE we) {M : Map} {S : Sto} {τ : Ev} {σ : L2.St} {H : Hp} {Q : VK} (s : Sim Ts K M S H) (st : StR K M S.length H τ σ)
    (h : wLcV wi wg wt we vs τ S (LcQ Ts K M S.length H Q)) : tLc (upI Ts K wi) g (upT Ts K wt) (upE Ts K we) vs σ H Q := by
  refine ⟨M, S, τ, s, st, mi _ _ _ _ h fun xs G S1 ⟨hlen, f⟩ M1 H1 J t1 s1 it D hD => ?_⟩
  obtain ⟨s1', t1'⟩ := s1.beside (o := .lst []) hD
  have hf := s1.free hD
  refine ⟨fun i m H2 => m = xs.length - i ∧ i ≤ xs.length ∧ ∃ M2 S2 acc us, Stp Ts K M1 S1.length H1 M2 S2.length H2 ∧ Sim Ts K M2 S2 H2 ∧ ¬ Own M2 S2.length D ∧ H2 D = some (.lst us) ∧ RPs K M2 S2.length H2 acc us ∧ acc.length ≤ i ∧ wLcGo wg wt we (wipeW τ vs) G (xs.drop i) acc S2 (LcQ Ts K M S.length H Q),
    ⟨_, rfl, Nat.zero_le _, M1, S1, [], [], t1', s1', hf.1, upd_same, .nil, Nat.le_refl _, f⟩, ?_⟩
  rintro i m H2 ⟨rfl, hil, M2, S2, acc, us, t2, s2, no, hD2, ra, hal, q2⟩
  by_cases hl : i < xs.length
  · obtain ⟨x, hx⟩ : ∃ x, xs[i]? = some x := ⟨xs[i], by simp [hl]⟩
    have ed : xs.drop i = x :: xs.drop (i + 1) := by
      rw [List.drop_eq_getElem_cons hl]
      have := List.getElem?_eq_getElem hl
      rw [hx] at this
      rw [Option.some.inj this]
    rw [ed] at q2
    obtain ⟨hG, q2⟩ := q2
    obtain ⟨h1, _⟩ := it M2 S2 H2 t2.w s2 hG
    obtain ⟨hgo, hy⟩ := h1 i x hx
    refine .inr ⟨hgo, fun H3 => ∃ M2 S2 acc us, Stp Ts K M1 S1.length H1 M2 S2.length H3 ∧ Sim Ts K M2 S2 H3 ∧ ¬ Own M2 S2.length D ∧ H3 D = some (.lst us) ∧ RPs K M2 S2.length H3 acc us ∧ acc.length ≤ i + 1 ∧ wLcGo wg wt we (wipeW τ vs) G (xs.drop (i + 1)) acc S2 (LcQ Ts K M S.length H Q), fun H3 h => ⟨_, ?_, rfl, hl, h⟩, fun u H3 yl => ?_⟩
    · omega
    · obtain ⟨t3, s3, r3⟩ := hy u H3 yl
      have hD3 := t3.fr D _ hD2 no (s2.notT hD2)
      have st3 : StR K M2 S2.length H3 (wipeW τ vs) (wipe σ vs) := (((st.stp t1).stp t2).stp t3).wipe vs
      refine gr M2 S2.length H3 _ _ x u _ _ st3 r3 q2 fun τ4 σ4 q4 st4 e4 => ⟨by rw [e4]; exact wipe_twice σ vs, ?_⟩
      refine runT mt s3 st4 q4 fun b S5 M5 H5 f5 t5 s5 => ?_
      have no5 := t5.notOwn no hD3
      have hD5 := t5.fr D _ hD3 no (s3.notT hD3)
      refine ite_imp f5 (fun f5 => ?_) fun f5 => ⟨M5, S5, acc, us, (t2.trans t3).trans t5, s5, no5, hD5, (ra.stp t3).stp t5, by omega, f5⟩
      refine runE me s5 (st4.stp t5) f5 fun y S6 M6 H6 uy f6 t6 s6 r6 => ?_
      have no6 := t6.notOwn no5 hD5
      have hD6 := t6.fr D _ hD5 no5 (s5.notT hD5)
      have ra6 := ((ra.stp t3).stp t5).stp t6
      have el := ra6.length
      refine ⟨us, hD6, by rw [sizeLine_eq, ← el]; omega, M6, S6, acc ++ [y], us ++ [uy], (((t2.trans t3).trans t5).trans t6).side hD hD6, s6.side no6 hD6, no6, upd_same, ?_, by rw [List.length_append, List.length_singleton]; omega, f6⟩
      exact (ra6.append (.cons r6 .nil)).side hD6
  · have : i = xs.length := by omega
    subst this
    rw [List.drop_length] at q2
    obtain ⟨hG, q2⟩ := q2
    obtain ⟨_, h1⟩ := it M2 S2 H2 t2.w s2 hG
    exact .inl ⟨h1 _ (Nat.le_refl _), q2 (by omega) M2 H2 D us (t1.trans t2) s2 no (t1.grow D hD) hD2 ra⟩
end L4
set_option Elab.async false
set_option linter.all false
set_option maxRecDepth 100000
namespace L4
open PySem PySem.Spec PyProof.Rows L2 L3
section
variable {X : Cx} {a b c e elt iter tg : Expr} {ifs : List Expr} {scope : Scope} {own : List (Str × Nat)} {pos : Pos} {wi : WI} {g : TG} {wg : WG} {wt : WT} {we : WE}
structure STs (Ts : List Addr) (X : Cx) (ifs : List Expr) (w : WT) : Prop where
  pt : PTs X ifs (upT Ts X.K w)
  mo : MoT w
theorem sts_nil : STs Ts X [] wYes := ⟨fun pins s σ H Q I ⟨M, S, τ, s0, st, h⟩ => pts_nil pins s σ H Q I (h M H (.refl _ _ _ _) s0), fun τ S Q Q' h k => k _ _ h⟩
theorem mo_of {Y : Shared → Hp → Addr → List (Str × Addr) → List Addr → Cx} {elt : Expr} {we : WE} (X : Cx) (he : ∀ s H C cl fp, SE Ts (Y s H C cl fp) elt we) : MoE we := (he X.s_0 X.H_0 0 [] []).mo
theorem mt_of {Y : Shared → Hp → Addr → List (Str × Addr) → List Addr → Cx} {ifs : List Expr} {wt : WT} (X : Cx) (he : ∀ s H C cl fp, STs Ts (Y s H C cl fp) ifs wt) : MoT wt := (he X.s_0 X.H_0 0 [] []).mo
/-- the list, then what is done with it -/
def wLc (wi : WI) (g : WG) (wt : WT) (we : WE) (vs : List Nat) : WE := fun τ S Q => wLcV wi g wt we vs τ S fun ys S2 => Q (.ref S2.length) (S2 ++ [.lst ys])
theorem lc_take {K : PySem.W.Frag} {M : Map} {n : Nat} {H : Hp} {Q : VK} {ys : List PV} {S2 : Sto} (h : upQ Ts K M n H Q (.ref S2.length) (S2 ++ [.lst ys])) : LcQ Ts K M n H Q ys S2 := fun _ M2 H2 D us t s no h0 hD r => by
  have s' : Sim Ts K (M2.add S2.length D D) (S2 ++ [.lst ys]) H2 := s.take no no ⟨rfl, us, hD, r.mono (by omega) (fun j hj => M2.add_m' hj) (fun _ _ h => h) (fun _ _ h => h)⟩
  have t' : Stp Ts K M n H (M2.add S2.length D D) (S2 ++ [Ob.lst ys]).length H2 := by
    rw [List.length_append, List.length_singleton]
    exact t.take h0 h0
  refine h _ _ _ t' s' ?_
  have := RP.ref (K := K) (M := M2.add S2.length D D) (n := (S2 ++ [Ob.lst ys]).length) (H := H2) (i := S2.length) (by simp)
  rw [M2.add_m] at this
  exact this
theorem se_lc (hc : X.calm = true) (hN : X.N.Nodup) (hi : SI Ts X tg iter wi) (ok : BlkOk X.N X.env.scope scope own)
    (hg : ∀ (s : Shared) (H : Hp) (C : Addr) (cl : List (Str × Addr)) (fp : List Addr), PG (X.blk s H scope (compEnvC scope cl C X.env) fp) tg g) (gr : GR X.K g wg (own.map (·.2))) (mg : MoG wg)
    (ht : ∀ (s : Shared) (H : Hp) (C : Addr) (cl : List (Str × Addr)) (fp : List Addr), STs Ts (X.blk s H scope (compEnvC scope cl C X.env) fp) ifs wt)
    (he : ∀ (s : Shared) (H : Hp) (C : Addr) (cl : List (Str × Addr)) (fp : List Addr), SE Ts (X.blk s H scope (compEnvC scope cl C X.env) fp) elt we) (hs : ∀ x, foldedSetIterable iter X.env x = pure x := by intro _; rfl) :
    SE Ts X (.ListComp elt [⟨tg, iter, ifs, 0⟩] scope pos) (wLc wi wg wt we (own.map (·.2))) := by
  have mt := mt_of X ht
  have me := mo_of X he
  refine ⟨pe_imp (pe_lc (te := upE Ts X.K we) (tt := upT Ts X.K wt) hc hN hi.pi ok hg (fun s H C cl fp => (ht s H C cl fp).pt) (fun s H C cl fp => (he s H C cl fp).pe) hs) fun σ H Q h => ?_, fun τ S Q Q' h k => mo_lcV hi.mo mg mt me _ _ _ _ h fun ys S2 h => k _ _ h⟩
  obtain ⟨M, S, τ, s, st, h⟩ := h
  exact lc_sound hi.mo gr mg mt me s st (mo_lcV hi.mo mg mt me _ _ _ _ h fun ys S2 h => lc_take h)
structure SCL (Ts : List Addr) (X : Cx) (f : Value) (r : WC) : Prop where
  ex : ∃ R, CallR X f R ∧ ∀ (M : Map) (S : Sto) (H : Hp) (ys : List PV) (us : List V) (D : Addr) (Q : VK), Sim Ts X.K M S H → H D = some (.lst us) → ys.length ≤ 16777216 → RPs X.K M S.length H ys us → r ys S (upQ Ts X.K M S.length H Q) → R [.ref D] H Q
  mo : ∀ (xs : List PV) (S : Sto) (Q Q' : WQ), r xs S Q → (∀ v S', Q v S' → Q' v S') → r xs S Q'
def wLcU (r : WC) (wi : WI) (g : WG) (wt : WT) (we : WE) (vs : List Nat) : WE := fun τ S Q => wLcV wi g wt we vs τ S fun ys S2 => r ys S2 Q
section
variable {f : Value} {r : WC} {x : Str} {p lpos : Pos}
theorem lcu_core {R : List V → Hp → VK → Prop} {t : TE} (hm : ∀ (xs : List PV) (S : Sto) (Q Q' : WQ), r xs S Q → (∀ v S', Q v S' → Q' v S') → r xs S Q')
    (snd : ∀ (M : Map) (S : Sto) (H : Hp) (ys : List PV) (us : List V) (D : Addr) (Q : VK), Sim Ts X.K M S H → H D = some (.lst us) → ys.length ≤ 16777216 → RPs X.K M S.length H ys us → r ys S (upQ Ts X.K M S.length H Q) → R [.ref D] H Q)
    {M : Map} {S : Sto} {H : Hp} {Q : VK} {ys : List PV} {S2 : Sto} (h : r ys S2 (upQ Ts X.K M S.length H Q)) : LcQ Ts X.K M S.length H (fun v H' => R [v] H' Q) ys S2 :=
  fun hl M2 H2 D us t s no h0 hD rr => snd M2 S2 H2 ys us D Q s hD hl rr (hm _ _ _ _ h fun v S3 h => h.base t)
theorem se_lcB {id : String} (hcl : SCL Ts X (.builtin id) r) (hgx : Gl X x) (hm : X.mg x = none) (hv : bootBuiltins x = some (.builtin id)) (hc : X.calm = true) (hN : X.N.Nodup) (hi : SI Ts X tg iter wi) (ok : BlkOk X.N X.env.scope scope own)
    (hg : ∀ (s : Shared) (H : Hp) (C : Addr) (cl : List (Str × Addr)) (fp : List Addr), PG (X.blk s H scope (compEnvC scope cl C X.env) fp) tg g) (gr : GR X.K g wg (own.map (·.2))) (mg : MoG wg)
    (ht : ∀ (s : Shared) (H : Hp) (C : Addr) (cl : List (Str × Addr)) (fp : List Addr), STs Ts (X.blk s H scope (compEnvC scope cl C X.env) fp) ifs wt)
    (he : ∀ (s : Shared) (H : Hp) (C : Addr) (cl : List (Str × Addr)) (fp : List Addr), SE Ts (X.blk s H scope (compEnvC scope cl C X.env) fp) elt we) (hs : ∀ x, foldedSetIterable iter X.env x = pure x := by intro _; rfl)
    (hn : x ≠ "__name__" := by decide) (hdb : (x == ("__debug__" : Str)) = false := by decide)
    (hst : starEach [Expr.ListComp elt [⟨tg, iter, ifs, 0⟩] scope lpos] X.env = (false, eval (Expr.ListComp elt [⟨tg, iter, ifs, 0⟩] scope lpos) X.env) :: starEach [] X.env := by rfl) :
    SE Ts X (.Call (.Name x p) [.ListComp elt [⟨tg, iter, ifs, 0⟩] scope lpos] [] pos) (wLcU r wi wg wt we (own.map (·.2))) := by
  obtain ⟨R, o, snd⟩ := hcl.ex
  have mt := mt_of X ht
  have me := mo_of X he
  refine ⟨pe_imp (pe_callB o hgx hm hv (pa_cons (pe_lc (te := upE Ts X.K we) (tt := upT Ts X.K wt) hc hN hi.pi ok hg (fun s H C cl fp => (ht s H C cl fp).pt) (fun s H C cl fp => (he s H C cl fp).pe) hs) pa_nil hst) hn hdb hst (by rfl)) fun σ H Q h => ?_, fun τ S Q Q' h k => mo_lcV hi.mo mg mt me _ _ _ _ h fun ys S2 h => hcl.mo _ _ _ _ h k⟩
  obtain ⟨M, S, τ, s, st, h⟩ := h
  exact lc_sound hi.mo gr mg mt me s st (mo_lcV hi.mo mg mt me _ _ _ _ h fun ys S2 h => lcu_core (t := upE Ts X.K we) hcl.mo snd h)
end
def uTuple : WC := fun ys S Q => Q (.tup ys) S
def uAll : WC := fun ys S Q => ∃ bs : List Bool, ys = bs.map PV.bl ∧ Q (.bl (bs.all id)) S
def uAny : WC := fun ys S Q => ∃ bs : List Bool, ys = bs.map PV.bl ∧ Q (.bl (bs.any id)) S
theorem u_all (hc : X.calm = true) : SCL Ts X (.builtin "all") uAll := ⟨⟨_, cr_all hc, fun M S H ys us D Q s hD hl r ⟨bs, e, h⟩ => by
  subst e
  exact ⟨D, bs, rfl, by rw [← r.of_bls]; exact SqL.of hD, h.here s (.bl _)⟩⟩, fun xs S Q Q' ⟨bs, e, h⟩ k => ⟨bs, e, k _ _ h⟩⟩
def uSum : WC := fun ys S Q => ∃ ns : List Int, ys = ns.map PV.int ∧ Q (.int ns.sum) S
end
end L4
set_option Elab.async false
set_option linter.all false
set_option maxRecDepth 100000
namespace L4
open PySem PySem.Spec PyProof.Rows L2 L3
def spW (Ts : List Addr) (K : PySem.W.Frag) (wf : WC) : Sp := fun vs H Q _ => ∃ M S pvs, Sim Ts K M S H ∧ RPs K M S.length H pvs vs ∧ wf pvs S (upQ Ts K M S.length H Q)
abbrev MoC (wf : WC) : Prop := ∀ (xs : List PV) (S : Sto) (Q Q' : WQ), wf xs S Q → (∀ v S', Q v S' → Q' v S') → wf xs S Q'
structure DefW (Ts : List Addr) (P : Program) (w : World) (K : PySem.W.Frag) (mg : Str → Option Value) (base : Heap) (x : Str) (k : Nat) (ps : List Str) (wf : WC) : Prop where
  d : Def P w K mg base x k ps (spW Ts K wf)
  mo : MoC wf
section
variable {X : Cx} {e : Expr} {es : List Expr} {w : WA} {pos p : Pos}
theorem se_def {x : Str} {k : Nat} {ps : List Str} {wf : WC} (D : DefW Ts X.prog X.w X.K X.mg X.base x k ps wf) (hr : Room k X.A) (hg : Gl X x) (ha : SA Ts X (e :: es) w)
    (hdb : (x == ("__debug__" : Str)) = false := by decide) (he : starEach (e :: es) X.env = (false, eval e X.env) :: starEach es X.env := by rfl) (hpl : (backTo pos (starEach es X.env)).any (·.1) = false := by rfl) : SE Ts X (.Call (.Name x p) (e :: es) [] pos) (wCall wf w) := by
  refine ⟨pe_imp (pe_def D.d hr hg ha.pa hdb he hpl) fun σ H Q h => ?_, mo_call D.mo ha.mo⟩
  obtain ⟨M, S, τ, s, st, h⟩ := h
  refine runA ha.mo s st h fun vs S1 M1 H1 us f t1 s1 r1 => ?_
  show spW Ts X.K wf (us ++ []) H1 Q _
  rw [List.append_nil]
  exact ⟨M1, S1, vs, s1, r1, D.mo _ _ _ _ f fun v S2 h => h.base t1⟩
end
/-- the newest things may be forgotten at the end -/
def Fg (n : Nat) (Q : WQ) : WQ := fun v S => Q v S ∨ ∃ k, n ≤ k ∧ k ≤ S.length ∧ v.Cl k ∧ Closed k (S.take k) ∧ Q v (S.take k)
theorem fg_here {n : Nat} {Q : WQ} {v : PV} {S : Sto} (h : Q v S) : Fg n Q v S := .inl h
theorem fg_drop {Q : WQ} {v : PV} {S G : Sto} (c : Closed S.length S) (hv : v.Cl S.length) (h : Q v S) : Fg S.length Q v (S ++ G) := by
  refine .inr ⟨S.length, Nat.le_refl _, by simp, hv, ?_, ?_⟩
  · rw [List.take_left]; exact c
  · rw [List.take_left]; exact h
def endsW (n : Nat) (Q : WQ) : WEnds := ⟨fun _ S => Fg n Q .non S, Fg n Q, fun _ _ => False, fun _ _ => False⟩
theorem fg_use {K : PySem.W.Frag} {M : Map} {S S1 : Sto} {H : Hp} {Q : VK} {v : PV} (h : Fg S.length (upQ Ts K M S.length H Q) v S1) {M1 : Map} {H1 : Hp} {u : V} (t : Stp Ts K M S.length H M1 S1.length H1) (s : Sim Ts K M1 S1 H1) (r : RP K M1 S1.length H1 v u) : Q u H1 := by
  rcases h with h | ⟨k, h1, h2, h3, h4, h⟩
  · exact h M1 H1 u t s r
  · have hl : (S1.take k).length = k := by rw [List.length_take]; omega
    have e : S1 = S1.take k ++ S1.drop k := (List.take_append_drop k S1).symm
    rw [e] at s
    have s' := Sim.forget s (by rw [hl]; exact h4)
    refine h M1 H1 u ?_ s' ?_
    · rw [hl]; exact t.forget h1 h2
    · rw [hl]; exact r.cut h3
theorem ok_body {P : Program} {w : World} {K : PySem.W.Frag} {mg : Str → Option Value} {base : Heap} {x qual : Str} {st : Stmt} {f : Addr} {fd : FuncData} {N ps : List Str} {k : Nat} {wf : WC} (F : Fun K x qual st f fd) (Sc : FnScope N ps (defScope st)) (len : ∀ pvs S Q, wf pvs S Q → pvs.length = ps.length)
    (hb : ∀ (cdv : Value) (A : Around) (outer : List Env) (s : Shared) (H : Hp) (E : XK), Room k (A.deeper (envOfC qual (defScope st) s.heap.objs.size f cdv)) →
      ∃ wb : WS, SSs Ts (cxOf CX0 P w K mg base N qual (defScope st) f cdv A outer s H E).nox (defBody st) wb ∧ ∀ pvs S Q, Closed S.length S → Cls S.length pvs → wf pvs S Q → wb (endsW S.length Q) (startW N.length pvs) S) :
    FnOk P w K mg base CX0 (k + 1) f fd ps (spW Ts K wf) := by
  refine F.ok Sc (fun vs H Q E h => ?_) (fun cdv A outer s H vs Q E hr h => ?_)
  · obtain ⟨M, S, pvs, sm, r, h⟩ := h
    rw [← r.length]; exact len _ _ _ h
  · obtain ⟨M, S, pvs, sm, r, h⟩ := h
    obtain ⟨wb, hwb, k⟩ := hb cdv A outer s H E hr
    refine ⟨_, hwb.ps, M, S, startW N.length pvs, sm, r.start, ?_⟩
    refine hwb.mo _ _ _ _ (k pvs S _ sm.closed r.cl h) ⟨?_, ?_, ?_, ?_⟩
    · exact fun τ1 S1 q M1 H1 σ1 t1 s1 st1 => fg_use q t1 s1 .non
    · exact fun v S1 q M1 H1 u t1 s1 r1 => fg_use q t1 s1 r1
    · exact fun τ1 S1 q => q.elim
    · exact fun τ1 S1 q => q.elim
theorem law_callW {P : Program} {w : World} {K : PySem.W.Frag} {mg mb : Str → Option Value} {CX : CXT} {k : Nat} {fa a : Addr} {fd : FuncData} {x : Str} {sp : Sp} {s₁ : Shared} {vs : List Value} {ns : List Int} {Ts : List Addr}
    (KX : K.In s₁.heap) (hns : s₁.heap.Ns mainGlobals mg) (hb : s₁.heap.Ns builtinsNs mb) (hbb : ∀ x : Str, x ≠ "__name__" → mb x = bootBuiltins x) (hlim : s₁.heap.NoLimit) (hg : s₁.gens = #[])
    (ha : s₁.heap.get? a = some { cls := .type "list", data := .seq vs.toArray }) (hi : IntsAre vs ns) (hl : ns.length ≤ sizeLine) (hr : Room k callerA)
    (hT : ∀ P ∈ Ts, TabAt K s₁.heap P) (hM : ∃ bm ob, BMod s₁.heap mainGlobals mg bm ob)
    (F : ∀ base : Heap, K.In base → base.Ns mainGlobals mg → (∃ bm ob, BMod base mainGlobals mg bm ob) → FnOk P w K mg base CX k fa fd [x] sp) (hbind : ∀ (s : Shared) (u : Value), BindsTo s fd ⟨[u], []⟩ [(x, u)])
    (hsp : ∀ H : Hp, (∀ P ∈ Ts, H P = some (.tbl #[])) → Scr K H a ns → sp [.ref a] H (fun v _ => v = .bl true) fun _ _ _ => False)
    (hCX : ∀ H e s', CX [] H s₁ (fun _ _ _ => False) e s' → False) :
    codeAny (model P w) callerA (.call (.ref fa) ⟨[.ref a], []⟩) (fun r s' => r = .ok (.ret (.bool true)) ∧ OldK s₁.heap s'.heap ∧ s'.os = s₁.os ∧ AllBare s'.gens) s₁ := by
  have rv := vals_ints hi
  have lenV := hi.length
  have nTa : a ∉ Ts := fun z => by
    have := (hT a z).tab
    rw [ha] at this; cases this
  have core : ∀ H : Hp, OnlyT Ts H → (∀ P ∈ Ts, H P = some (.tbl #[])) → Scr K H a ns → HOk P w H s₁.heap → (∀ b, H b ≠ none → b = a ∨ b ∈ Ts) → (H a ≠ none → K.lookup a = none) →
      codeAny (model P w) callerA (.call (.ref fa) ⟨[.ref a], []⟩) (fun r s' => r = .ok (.ret (.bool true)) ∧ OldK s₁.heap s'.heap ∧ s'.os = s₁.os ∧ AllBare s'.gens) s₁ := by
    intro H hO hTs hS hok hA hK
    have base_of : ∀ {b : Addr} {o : Obj}, s₁.heap.get? b = some o → H b = none → (hidT s₁.heap H).get? b = some o := fun e n => hidT_get e n
    have noA : ∀ {b : Addr} {o : Obj}, s₁.heap.get? b = some o → ((∃ es ep, o.data = .dict es ep) ∨ o.data = .plain) → H b = none := fun {b o} e d => by
      cases q : H b with
      | none => rfl
      | some u =>
        rcases hA b (by rw [q]; simp) with e' | e'
        · subst e'
          rw [ha] at e; cases e
          rcases d with ⟨es, ep, d⟩ | d
          · have d' : Data.seq vs.toArray _ = Data.dict es ep := d
            cases d'
          · have d' : Data.seq vs.toArray _ = Data.plain := d
            cases d'
        · rw [(hT b e').tab] at e; cases e
          rcases d with ⟨es, ep, d⟩ | d
          · have d' : Data.fields #[] = Data.dict es ep := d
            cases d'
          · have d' : Data.fields #[] = Data.plain := d
            cases d'
    have nsK : ∀ {b : Addr} {m : Str → Option Value}, s₁.heap.Ns b m → (hidT s₁.heap H).Ns b m := fun {b m} ⟨o, es, ep, e, d, r⟩ => ⟨o, es, ep, base_of e (noA e (.inl ⟨es, ep, d⟩)), d, r⟩
    have hKb : K.In (hidT s₁.heap H) := fun b o e => base_of (KX b o e) (by
      cases q : H b with
      | none => rfl
      | some u =>
        rcases hA b (by rw [q]; simp) with e' | e'
        · subst e'
          rw [hK (by rw [q]; simp)] at e; cases e
        · rw [(hT b e').out] at e; cases e)
    have hMb : ∃ bm ob, BMod (hidT s₁.heap H) mainGlobals mg bm ob := by
      obtain ⟨bm, ob, B⟩ := hM
      exact ⟨bm, ob, nsK B.ns, B.name, B.ne, base_of B.obj (noA B.obj (.inr B.data)), B.cls, B.dict, B.data⟩
    have hMd : Mod K mg (hidT s₁.heap H) := ⟨hKb, nsK hns, ⟨mb, nsK hb, hbb⟩, let ⟨mc, h1, h2⟩ := hlim; ⟨mc, nsK h1, h2⟩⟩
    have e0 : Env0 P w K mg (hidT s₁.heap H) callerA [] s₁ H := ⟨rfl, hMd, fun b o e => of_hidT e, Nat.le_of_eq (hidT_size _ _), trivial, fun b hb => absurd (show b ∈ ([] : List Addr) from hb) (by simp), hok, .of_eq hg⟩
    refine codeAny_mono ((F _ hKb (nsK hns) hMb).run callerA [] s₁ H ⟨[.ref a], []⟩ [.ref a] [.ref a] _ _ hr e0 (hbind s₁ (.ref a)) (.cons rfl .nil) (hsp H hTs hS)) fun r s' h => ?_
    cases r with
    | error e => exact (hCX H e s' h).elim
    | ok fl =>
      cases fl with
      | next => exact False.elim h
      | brk => exact False.elim h
      | cont => exact False.elim h
      | ret u =>
        obtain ⟨v, H', os, bare, un, hok', r', q⟩ := h
        have q' : v = .bl true := q
        subst q'
        obtain rfl : u = Value.bool true := r'
        have what : ∀ b o, s₁.heap.get? b = some o → asItWas s₁.heap s'.heap b o ∧ ∃ o', s'.heap.get? b = some o' := fun b o e => by
          rcases hO b with z | ⟨ob, xs, z⟩ | ⟨hm, z⟩
          · have := un.keep b o e z (by intro z; exact absurd (show b ∈ ([] : List Addr) from z) (by simp)) (by simp)
            exact ⟨.inl this, _, this⟩
          · have z2 := un.frzs b ob _ z
            obtain ⟨e1, _⟩ := hok b _ z
            obtain ⟨e2, _⟩ := hok' b _ z2
            rw [e] at e1; cases e1
            exact ⟨.inl e2, _, e2⟩
          · obtain ⟨more, z2⟩ := un.tbls b _ z
            have e2 : s'.heap.get? b = some { cls := .none, data := .fields (#[] ++ more) } := hok' b _ z2
            rw [(hT b hm).tab] at e; cases e
            exact ⟨.inr (.inl ⟨(hT b hm).is, rfl, #[], more, rfl, e2⟩), _, e2⟩
        exact ⟨rfl, ⟨fun b o e => (what b o e).1, fun b o e => (what b o e).2⟩, os, bare⟩
  cases hk : K.lookup a with
  | some o =>
    have e := KX a o hk
    rw [ha] at e
    cases e
    refine core (fun b => if b ∈ Ts then some (.tbl #[]) else none) (fun b => ?_) (fun P hP => if_pos hP) (.inr ⟨_, vs.toArray, _, hk, rfl, rfl, rfl, by rw [List.size_toArray, lenV]; exact hl, by simpa using rv⟩) (fun b u z => ?_) (fun b z => ?_) fun z => absurd (if_neg nTa) z
    · by_cases hb : b ∈ Ts
      · exact .inr (.inr ⟨hb, if_pos hb⟩)
      · exact .inl (if_neg hb)
    · by_cases hb : b ∈ Ts
      · have z' := (if_pos hb).symm.trans z
        cases z'
        exact (hT b hb).tab
      · have z' := (if_neg hb).symm.trans z
        cases z'
    · by_cases hb : b ∈ Ts
      · exact .inr hb
      · exact absurd (if_neg hb) z
  | none =>
    have neTs : ∀ P ∈ Ts, P ≠ a := fun P hP e => nTa (e ▸ hP)
    refine core (fun b => if b = a then some (.frz { cls := .type "list", data := .seq vs.toArray } (.lst (ns.map V.int))) else if b ∈ Ts then some (.tbl #[]) else none) (fun b => ?_) (fun P hP => ?_) (.inl ⟨{ cls := .type "list", data := .seq vs.toArray }, if_pos rfl⟩) (fun b u z => ?_) (fun b z => ?_) fun _ => hk
    · by_cases hb : b = a
      · exact .inr (.inl ⟨_, _, if_pos hb⟩)
      · by_cases hT' : b ∈ Ts
        · exact .inr (.inr ⟨hT', (if_neg hb).trans (if_pos hT')⟩)
        · exact .inl ((if_neg hb).trans (if_neg hT'))
    · exact (if_neg (neTs P hP)).trans (if_pos hP)
    · by_cases hb : b = a
      · have z' := (if_pos hb).symm.trans z
        cases z'
        subst hb
        exact ⟨ha, by rw [List.length_map]; exact hl, vs, _, rv, ha⟩
      · by_cases hT' : b ∈ Ts
        · have z' : some (HO.tbl #[]) = some u := ((if_neg hb).trans (if_pos hT')).symm.trans z
          cases z'
          exact (hT b hT').tab
        · have z' : none = some u := ((if_neg hb).trans (if_neg hT')).symm.trans z
          cases z'
    · by_cases hb : b = a
      · exact .inl hb
      · by_cases hT' : b ∈ Ts
        · exact .inr hT'
        · exact absurd ((if_neg hb).trans (if_neg hT')) z
theorem walk_ofW {l : PySem.W.OpenLaw} {n k : Nat} {q : Program} {loose : List Str} {XP : (Str → Option Value) → Heap → Prop} {YP : World → Heap → Prop} {d : DefRec} {K : Params → PySem.W.Frag} {CX : World → CXT} {sp : World → List Addr → Sp} {x : Str}
    (hn : l.most = some n) (hn2 : n ≤ sizeLine) (hdf : d.params.defaults = []) (hr : Room k callerA)
    (hY : ∀ (w : World) (h : Heap), YP w h → (K w.params).In h)
    (F : ∀ (w : World) (mg : Str → Option Value) (fa : Addr) (h : Heap), (K w.params).In h → h.Ns mainGlobals mg → mg d.name = some (.ref fa) →
      (∀ d ∈ recsOf q, ∃ a o fd c P, mg d.name = some (.ref a) ∧ h.get? a = some o ∧ o.data = .func fd ∧ fd.code = .ref c ∧ h.IsCode c P #[] ∧ h.TableAt c P #[]) →
      ∃ (Ts : List Addr) (fd : FuncData), (∀ P ∈ Ts, TabAt (K w.params) h P) ∧ (∀ (s : Shared) (u : Value), BindsTo s fd ⟨[u], []⟩ [(x, u)]) ∧
        ∀ base : Heap, (K w.params).In base → base.Ns mainGlobals mg → (∃ bm ob, BMod base mainGlobals mg bm ob) → FnOk l.prog w (K w.params) mg base (CX w) k fa fd [x] (sp w Ts))
    (hsp : ∀ (w : World) (Ts : List Addr) (H : Hp) (a : Addr) (ns : List Int), ns.length ≤ n → (∀ P ∈ Ts, H P = some (.tbl #[])) → Scr (K w.params) H a ns → sp w Ts [.ref a] H (fun v _ => v = .bl true) fun _ _ _ => False)
    (hCX : ∀ (w : World) (H : Hp) (s : Shared) (e : Value) (s' : Shared), CX w [] H s (fun _ _ _ => False) e s' → False) :
    PySem.W.WalkO q loose XP YP l.row.toRowW d [] (fun f vs => PySem.call f vs) := by
  refine Att.attach_call hn hdf fun w s₀ s₁ mg mb fa o pm cd doc a vs ns G Y ho hd hcd hmg hobj hints hlen hg => ?_
  have KX := hY w _ Y
  obtain ⟨Ts, fd, hT, hb, hF⟩ := F w mg fa _ KX G.T.g hmg G.T.tab
  obtain ⟨bm, ob, b1, b2, b3, b4, b5, b6⟩ := G.T.bmain
  exact law_callW KX G.T.g G.T.b G.T.builtins G.T.nolimit hg hobj hints (Nat.le_trans hlen hn2) hr hT ⟨bm, ob, G.T.g, b1, b2, b3, b4, b5, b6⟩ hF hb (fun H hO hS => hsp w Ts H a ns hlen hO hS) fun H e s' => hCX w H s₁ e s'
def wLaw : WC := fun vs S Q => ∃ ns : List Int, vs = [.scr ns] ∧ ns.length ≤ 63 ∧ S = [] ∧ ∀ S', Q (.bl true) S'
theorem walkW {l : PySem.W.OpenLaw} {k : Nat} {q : Program} {loose : List Str} {XP : (Str → Option Value) → Heap → Prop} {YP : World → Heap → Prop} {d : DefRec} {K : Params → PySem.W.Frag} (hr : Room k callerA) (hn : l.most = some 63) (hdf : d.params.defaults = [])
    (hY : ∀ (w : World) (h : Heap), YP w h → (K w.params).In h)
    (F : ∀ (w : World) (mg : Str → Option Value) (fa : Addr) (h : Heap), (K w.params).In h → h.Ns mainGlobals mg → mg d.name = some (.ref fa) →
      (∀ d ∈ recsOf q, ∃ a o fd c P, mg d.name = some (.ref a) ∧ h.get? a = some o ∧ o.data = .func fd ∧ fd.code = .ref c ∧ h.IsCode c P #[] ∧ h.TableAt c P #[]) →
      ∃ (Ts : List Addr) (fd : FuncData), (∀ P ∈ Ts, TabAt (K w.params) h P) ∧ (∀ (s : Shared) (u : Value), BindsTo s fd ⟨[u], []⟩ [("script", u)]) ∧
        ∀ base : Heap, (K w.params).In base → base.Ns mainGlobals mg → (∃ bm ob, BMod base mainGlobals mg bm ob) → FnOk l.prog w (K w.params) mg base CX0 k fa fd ["script"] (spW Ts (K w.params) wLaw)) :
    PySem.W.WalkO q loose XP YP l.row.toRowW d [] (fun f vs => PySem.call f vs) :=
  walk_ofW (n := 63) (k := k) (x := "script") (CX := fun _ => CX0) (sp := fun w Ts => spW Ts (K w.params) wLaw) hn (by decide) hdf hr hY F (fun w Ts H a ns hl hT hS => ⟨⟨fun _ => 0, fun _ => 0⟩, [], [.scr ns], ⟨fun i o h => (by simp at h), fun i j h => (by simp at h), fun P hP => ⟨_, hT P hP, trivial, fun pos cv h => by cases h⟩⟩, .cons (.scr hS) .nil, ns, rfl, hl, rfl, fun S' M' H' u t s r => by cases r; rfl⟩) fun _ _ _ _ _ z => z
end L4
set_option Elab.async false
set_option linter.all false
set_option maxRecDepth 100000
namespace L4
open PySem PySem.Spec PyProof.Rows L2 L3
theorem sv {X : Cx} (i : Nat) {x : Str} {pos : Pos} (hN : X.N[i]? = some x := by rfl) (hv : Vis X.env.scope x := by first | exact Or.inl rfl | exact Or.inr (Or.inl rfl) | exact Or.inr (Or.inr rfl)) (hd : (x == ("__debug__" : Str)) = false := by decide)
    (hcd : (x == ("__classdict__" : Str)) = false := by decide) : SE Ts X (.Name x pos) (wVar i) := se_var hN hv hd hcd
theorem se_ty {X : Cx} {x : Str} {n : String} {pos : Pos} (hg : Gl X x) (hm : X.mg x = none) (hv : bootBuiltins x = some (.type n)) (hn : x ≠ "__name__" := by decide) (hd : (x == ("__debug__" : Str)) = false := by decide) : SE Ts X (.Name x pos) (wC (.ty n)) := se_c (pe_bltn hg hm hv (v := .ty n) rfl hn hd) fun _ _ _ => .ty n
theorem se_gint {X : Cx} {x : Str} {i : Int} {t : Tok} {pos : Pos} (hg : Gl X x) (hm : X.mg x = some (.int i t)) (hd : (x == ("__debug__" : Str)) = false := by decide) : SE Ts X (.Name x pos) (wC (.int i)) := se_c (pe_glob hg hm (v := .int i) ⟨_, rfl⟩ hd) fun _ _ _ => .int i
/-- a value of trees -/
def ctrF {α : Type} (enc : α → List PV) (pre : α → Sto → Prop) (f : α → PV) : WC := fun vs S Q => ∃ a, vs = enc a ∧ pre a S ∧ Q (f a) S
theorem mo_ctrF {α : Type} {enc : α → List PV} {pre : α → Sto → Prop} {f : α → PV} : MoC (ctrF enc pre f) := fun xs S Q Q' ⟨a, e, p, q⟩ k => ⟨a, e, p, k _ _ q⟩
section
variable {K : PySem.W.Frag} {M : Map} {S : Sto} {H H' : Hp}
theorem Sim.jarKp (s : Sim Ts K M S H) {j : Nat} (hj : S[j]? = some .jar) (h1 : Jar H' (M.m j) (M.q j)) (h2 : Kp (M.m j) (M.q j) H H') : Sim Ts K M S H' ∧ Stp Ts K M S.length H M S.length H' := by
  have hl := (List.getElem?_eq_some_iff.mp hj).1
  obtain ⟨cs, r, sd, t, e1, e2, e3⟩ := (show Jar H (M.m j) (M.q j) from s.ob j _ hj).ex
  obtain ⟨cs', r', sd', t', e1', e2', e3'⟩ := h1.ex
  have ht : ∀ a us, SqT K H a us → SqT K H' a us := fun a us h => by
    rcases h with (h | ⟨ob, h⟩) | h
    · exact .inl (.inl (h2 _ _ h (ne_of h e1 (by intro z; cases z)) (ne_of h e2 (by intro z; cases z))))
    · exact .inl (.inr ⟨ob, h2 _ _ h (ne_of h e1 (by intro z; cases z)) (ne_of h e2 (by intro z; cases z))⟩)
    · exact .inr h
  have hs : ∀ a us, Scr K H a us → Scr K H' a us := fun a us h => by
    rcases h with ⟨ob, h⟩ | h
    · exact .inl ⟨ob, h2 _ _ h (ne_of h e1 (by intro z; cases z)) (ne_of h e2 (by intro z; cases z))⟩
    · exact .inr h
  refine ⟨⟨fun i o hi => ?_, s.sep, fun P hP => ?_⟩, ⟨Nat.le_refl _, fun _ _ => rfl, fun _ _ => rfl, ht, hs, fun a o h n1 n2 => ?_, fun a h => ?_, fun i h1 h2 => by omega⟩⟩
  · have hil := (List.getElem?_eq_some_iff.mp hi).1
    by_cases c : i = j
    · subst c
      rw [hj] at hi; cases hi
      exact h1
    · have sp := s.sep i j hil hl c
      have sp2 := s.sep j i hl hil (fun z => c z.symm)
      obtain ⟨⟨x, h3, _⟩, y, h4, _⟩ := (s.ob i o hi).at
      refine (s.ob i o hi).mono (Nat.le_refl _) (fun _ _ => rfl) ht hs ?_ ?_
      · rw [h3]; exact h2 _ _ h3 sp.1 sp.2.1
      · rw [h4]; exact h2 _ _ h4 (fun z => sp2.2.1 z.symm) sp.2.2
  · exact (s.tab P hP).keep (fun ps h => h2 _ _ h (ne_of h e1 (by intro z; cases z)) (ne_of h e2 (by intro z; cases z))) fun a oc c h => h2 _ _ h (ne_of h e1 (by intro z; cases z)) (ne_of h e2 (by intro z; cases z))
  · exact h2 a o h (fun z => n1 ⟨j, hl, .inl z⟩) (fun z => n1 ⟨j, hl, .inr z⟩)
  · by_cases c1 : a = M.m j
    · subst c1; rw [e1'] at h; cases h
    · by_cases c2 : a = M.q j
      · subst c2; rw [e2'] at h; cases h
      · cases q : H a with
        | none => rfl
        | some o => rw [h2 _ _ q c1 c2] at h; cases h
theorem Sim.ext (s : Sim Ts K M S H) (h : Same H H') : Sim Ts K M S H' ∧ Stp Ts K M S.length H M S.length H' := by
  have ht : ∀ a us, SqT K H a us → SqT K H' a us := fun a us e => by
    rcases e with (e | ⟨ob, e⟩) | e
    · exact .inl (.inl (h _ _ e))
    · exact .inl (.inr ⟨ob, h _ _ e⟩)
    · exact .inr e
  have hs : ∀ a us, Scr K H a us → Scr K H' a us := fun a us e => by
    rcases e with ⟨ob, e⟩ | e
    · exact .inl ⟨ob, h _ _ e⟩
    · exact .inr e
  refine ⟨⟨fun i o hi => ?_, s.sep, fun P hP => ?_⟩, ⟨Nat.le_refl _, fun _ _ => rfl, fun _ _ => rfl, ht, hs, fun a o e _ _ => h _ _ e, fun a e => ?_, fun i h1 h2 => by omega⟩⟩
  · obtain ⟨⟨x, h3, _⟩, y, h4, _⟩ := (s.ob i o hi).at
    exact (s.ob i o hi).mono (Nat.le_refl _) (fun _ _ => rfl) ht hs (by rw [h3]; exact h _ _ h3) (by rw [h4]; exact h _ _ h4)
  · exact (s.tab P hP).keep (fun ps e => h _ _ e) fun a oc c e => h _ _ e
  · cases q : H a with
    | none => rfl
    | some o => rw [h _ _ q] at e; cases e
end
/-- a number is drawn -/
def wPick : WC := fun vs S Q => ∃ (j : Nat) (n : Int), vs = [.ref j, .int n] ∧ S[j]? = some .jar ∧ 0 < n ∧ n < 10 ^ 60 ∧ ∀ f : Int, 0 ≤ f → f < n → Q (.int f) S
def wJar : WC := fun vs S Q => ∃ ns : List Int, vs = [.scr ns] ∧ Q (.ref S.length) (S ++ [.jar])
theorem mo_pick : MoC wPick := fun xs S Q Q' ⟨j, n, e, h1, h2, h3, q⟩ k => ⟨j, n, e, h1, h2, h3, fun f a b => k _ _ (q f a b)⟩
theorem mo_jar : MoC wJar := fun xs S Q Q' ⟨ns, e, q⟩ k => ⟨ns, e, k _ _ q⟩
theorem pick_imp {K : PySem.W.Frag} {spP : Sp} (h : ∀ vs H Q E, (∃ (j c : Addr) (n : Int), vs = [.ref j, .int n] ∧ Jar H j c ∧ 0 < n ∧ n < 10 ^ 60 ∧ ∀ (f : Int) (H' : Hp), 0 ≤ f → f < n → Jar H' j c → Kp j c H H' → Q (.int f) H') → spP vs H Q E) : ∀ vs H Q E, spW Ts K wPick vs H Q E → spP vs H Q E := fun vs H Q E q => by
  obtain ⟨M, S, pvs, s, r, j, n, rfl, hj, h1, h2, q⟩ := q
  obtain ⟨u, v, rfl, r1, r2⟩ := r.two
  cases r1; cases r2
  refine h _ _ _ _ ⟨_, _, n, rfl, s.ob j _ hj, h1, h2, fun f H' a b J k => ?_⟩
  obtain ⟨s', t'⟩ := s.jarKp hj J k
  exact q f a b M H' _ t' s' (.int f)
theorem jar_imp {K : PySem.W.Frag} {spJ : Sp} (h : ∀ vs H Q E, (∃ (a : Addr) (ns : List Int), vs = [.ref a] ∧ SqL K H a (ns.map V.int) ∧ ∀ (j c : Addr) (H' : Hp), H j = none → H c = none → Same H H' → Jar H' j c → Q (.ref j) H') → spJ vs H Q E) : ∀ vs H Q E, spW Ts K wJar vs H Q E → spJ vs H Q E := fun vs H Q E q => by
  obtain ⟨M, S, pvs, s, r, ns, rfl, q⟩ := q
  obtain ⟨u, rfl, r1⟩ := r.one
  cases r1 with
  | scr r1 =>
    refine h _ _ _ _ ⟨_, ns, rfl, r1.sql, fun j c H' hj hc hs J => ?_⟩
    obtain ⟨s1, t1⟩ := s.ext hs
    have s2 : Sim Ts K (M.add S.length j c) (S ++ [.jar]) H' := s1.take (s.free hj).1 (s.free hc).1 J
    have t2 : Stp Ts K M S.length H (M.add S.length j c) (S ++ [Ob.jar]).length H' := by
      rw [List.length_append, List.length_singleton]; exact t1.take hj hc
    refine q _ _ _ t2 s2 ?_
    have := RP.ref (K := K) (M := M.add S.length j c) (n := (S ++ [Ob.jar]).length) (H := H') (i := S.length) (by simp)
    rw [M.add_m] at this
    exact this
end L4
set_option Elab.async false
set_option linter.all false
set_option maxRecDepth 100000
namespace L4
open PySem PySem.Spec PyProof.Rows L2 L3
theorem rSlW_tup {xs : List PV} {lo hi : Option Int} {S : Sto} {Q : WQ} : rSlW (.tup xs) lo hi S Q = Q (.tup (cutP xs lo hi)) S := by
  unfold rSlW
  simp [seqW]
theorem cutP_map {α β : Type} (f : α → β) (xs : List α) (lo hi : Option Int) : cutP (xs.map f) lo hi = (cutP xs lo hi).map f := by
  unfold cutP
  rw [List.length_map, List.map_take, List.map_drop]
theorem cutP_from {α : Type} (xs : List α) (k : Nat) : cutP xs (some (k : Int)) none = xs.drop k := by
  unfold cutP
  rw [HT.sIx_nat, HT.sIx_none]
  by_cases h : k ≤ xs.length
  · rw [Nat.min_eq_left h, List.take_of_length_le (by rw [List.length_drop]; omega)]
  · rw [Nat.min_eq_right (by omega), List.drop_eq_nil_of_le (Nat.le_refl _), List.drop_eq_nil_of_le (by omega), List.take_nil]
theorem cutP_0 {α : Type} (xs : List α) : cutP xs (some 0) none = xs := cutP_from xs 0
theorem cutP_1 {α : Type} (xs : List α) : cutP xs (some 1) none = xs.drop 1 := cutP_from xs 1
theorem cutP_2 {α : Type} (xs : List α) : cutP xs (some 2) none = xs.drop 2 := cutP_from xs 2
theorem cutP_all {α : Type} (xs : List α) : cutP xs none none = xs := by
  unfold cutP
  rw [HT.sIx_none, HT.sIx_none, List.drop_zero, Nat.sub_zero, List.take_length]
theorem rngP_map (lo : Int) (n : Nat) : rngP lo n = (List.range n).map fun (i : Nat) => PV.int (lo + (i : Int)) := rfl
section
variable {g : WG} {wt : WT} {we : WE} {τ : Ev} {G : Sto → Prop} {F : List PV → Sto → Prop} {S : Sto} {acc : List PV} {α : Type}
theorem lc_map {e : α → PV} (f : α → PV) : ∀ {l : List α} {acc : List PV}, G S → (∀ a ∈ l, ∀ R : WQ, R (f a) S → g (e a) τ fun τ2 => we τ2 S R) → F (acc ++ l.map f) S → wLcGo g wYes we τ G (l.map e) acc S F
  | [], acc, hG, h, hF => ⟨hG, by simpa using hF⟩
  | a :: l, acc, hG, h, hF => by
    refine ⟨hG, h a List.mem_cons_self _ ?_⟩
    exact lc_map f hG (fun b hb => h b (List.mem_cons_of_mem _ hb)) (by simpa using hF)
end
theorem loop_inv {g : WG} {t : WS} {G : Sto → Prop} {xs : List PV} {D : WEnds} {τ : Ev} {S : Sto} (I : Nat → Ev → Sto → Prop) (h0 : I 0 τ S)
    (step : ∀ i x τ S (N : Ev → Sto → Prop), xs[i]? = some x → I i τ S → (∀ τ' S', I (i + 1) τ' S' → N τ' S') → G S ∧ g x τ fun τ1 => t ⟨N, D.rt, D.nx, N⟩ τ1 S)
    (fin : ∀ τ S, I xs.length τ S → G S ∧ D.nx τ S) : wLoop g t G xs D τ S := by
  have main : ∀ (ys : List PV) (k : Nat) (τ : Ev) (S : Sto), xs.drop k = ys → k ≤ xs.length → I k τ S → wLoop g t G ys D τ S := by
    intro ys
    induction ys with
    | nil =>
      intro k τ S e hk hI
      have : k = xs.length := by
        have := List.drop_eq_nil_iff.mp e
        omega
      subst this
      exact fin τ S hI
    | cons x ys ih =>
      intro k τ S e hk hI
      have hl : k < xs.length := by
        have h1 := congrArg List.length e
        rw [List.length_drop, List.length_cons] at h1
        omega
      have hx : xs[k]? = some x := by
        have h1 := congrArg (·[0]?) e
        simpa using h1
      have hd : xs.drop (k + 1) = ys := by
        rw [← List.drop_drop, e]; rfl
      exact step k x τ S _ hx hI fun τ' S' hI' => ih (k + 1) τ' S' hd hl hI'
  exact main xs 0 τ S rfl (Nat.zero_le _) h0
/-- the items are a mapped list -/
theorem loop_map {α : Type} {e : α → PV} {g : WG} {t : WS} {G : Sto → Prop} {l : List α} {D : WEnds} {τ : Ev} {S : Sto} (I : Nat → Ev → Sto → Prop) (h0 : I 0 τ S)
    (step : ∀ i a τ S (N : Ev → Sto → Prop), l[i]? = some a → I i τ S → (∀ τ' S', I (i + 1) τ' S' → N τ' S') → G S ∧ g (e a) τ fun τ1 => t ⟨N, D.rt, D.nx, N⟩ τ1 S)
    (fin : ∀ τ S, I l.length τ S → G S ∧ D.nx τ S) : wLoop g t G (l.map e) D τ S := by
  refine loop_inv I h0 (fun i x τ S N hx hI hN => ?_) (fun τ S hI => fin τ S (by rw [List.length_map] at hI; exact hI))
  rw [List.getElem?_map] at hx
  cases q : l[i]? with
  | none => rw [q] at hx; cases hx
  | some a =>
    rw [q] at hx
    cases hx
    exact step i a τ S N q hI hN
theorem get_app {S G : Sto} {i : Nat} {o : Ob} (h : S[i]? = some o) : (S ++ G)[i]? = some o := by
  rw [List.getElem?_append_left (List.getElem?_eq_some_iff.mp h).1]; exact h
theorem get_new (S : Sto) (o : Ob) (G : Sto) : (S ++ o :: G)[S.length]? = some o := by
  rw [List.getElem?_append_right (Nat.le_refl _), Nat.sub_self]; rfl
theorem get_new1 (S : Sto) (o : Ob) : (S ++ [o])[S.length]? = some o := get_new S o []
def natP (n : Nat) : PV := .int (n : Int)
def natsP (l : List Nat) : PV := .tup (l.map natP)
def swP (s : Nat × Nat) : PV := .tup [natP s.1, natP s.2]
def intsP (ns : List Int) : PV := .tup (ns.map .int)
end L4
set_option Elab.async false
set_option linter.all false
set_option maxRecDepth 100000
namespace L4
open PySem PySem.Spec PyProof.Rows L2 L3
theorem rIxW_tup {xs : List PV} {i : Int} {S : Sto} {Q : WQ} : rIxW (.tup xs) (.int i) S Q = ∃ v, atI xs i = some v ∧ Q v S := by
  unfold rIxW
  simp [seqW]
theorem rIxW_lst {k : Nat} {xs : List PV} {i : Int} {S : Sto} {Q : WQ} (h : S[k]? = some (.lst xs)) : rIxW (.ref k) (.int i) S Q = ∃ v, atI xs i = some v ∧ Q v S := by
  unfold rIxW
  simp [seqW, h]
theorem rIxW_dct {k : Nat} {kvs : List (Key × PV)} {y : PV} {S : Sto} {Q : WQ} (h : S[k]? = some (.dct kvs)) : rIxW (.ref k) y S Q = ∃ c v, keyW y = some c ∧ valP kvs c = some v ∧ Q v S := by
  unfold rIxW
  simp [seqW, h]
theorem rLenW_tup {xs : List PV} {S : Sto} {Q : WQ} : rLenW [.tup xs] S Q = Q (.int xs.length) S := by
  unfold rLenW
  simp [seqW]
theorem rLenW_lst {k : Nat} {xs : List PV} {S : Sto} {Q : WQ} (h : S[k]? = some (.lst xs)) : rLenW [.ref k] S Q = Q (.int xs.length) S := by
  unfold rLenW
  simp [seqW, h]
theorem rListW_tup {xs : List PV} {S : Sto} {Q : WQ} : rListW [.tup xs] S Q = Q (.ref S.length) (S ++ [.lst xs]) := by
  unfold rListW
  simp [seqW]
theorem atI_nat' {α : Type} {xs : List α} {i : Nat} {v : α} (h : xs[i]? = some v) : atI xs (i : Int) = some v := by
  have hl := (List.getElem?_eq_some_iff.mp h).1
  unfold atI ixN
  rw [if_pos (by omega), if_pos (by omega)]
  simpa using h
theorem loop_rng {g : WG} {t : WS} {n : Nat} {D : WEnds} {τ : Ev} {S : Sto} {G : Sto → Prop} (hG : ∀ S, G S) (I : Nat → Ev → Sto → Prop) (h0 : I 0 τ S)
    (step : ∀ i τ S (N : Ev → Sto → Prop), i < n → I i τ S → (∀ τ' S', I (i + 1) τ' S' → N τ' S') → g (natP i) τ fun τ1 => t ⟨N, D.rt, D.nx, N⟩ τ1 S)
    (fin : ∀ τ S, I n τ S → D.nx τ S) : wLoop g t G (rngP 0 n) D τ S := by
  rw [rngP_map]
  refine loop_map I h0 (fun i a τ S N ha hI hN => ⟨hG S, ?_⟩) (fun τ S hI => ⟨hG S, fin τ S (by rw [List.length_range] at hI; exact hI)⟩)
  obtain ⟨h1, h2⟩ := List.getElem?_eq_some_iff.mp ha
  rw [List.getElem_range] at h2
  subst h2
  rw [Int.zero_add]
  exact step i τ S N (by simpa using h1) hI hN
theorem atI_0 {α : Type} {x : α} {xs : List α} : atI (x :: xs) 0 = some x := by
  unfold atI ixN; rw [if_pos (by omega), if_pos (by first | (simp; done) | (simp; omega))]; rfl
theorem atI_1 {α : Type} {x y : α} {xs : List α} : atI (x :: y :: xs) 1 = some y := by
  unfold atI ixN; rw [if_pos (by omega), if_pos (by first | (simp; done) | (simp; omega))]; rfl
theorem atI_2 {α : Type} {x y z : α} {xs : List α} : atI (x :: y :: z :: xs) 2 = some z := by
  unfold atI ixN; rw [if_pos (by omega), if_pos (by first | (simp; done) | (simp; omega))]; rfl
theorem atI_3 {α : Type} {x y z u : α} {xs : List α} : atI (x :: y :: z :: u :: xs) 3 = some u := by
  unfold atI ixN; rw [if_pos (by omega), if_pos (by first | (simp; done) | (simp; omega))]; rfl
theorem rIsiW_eq {x : PV} {n : String} {S : Sto} {Q : WQ} : rIsiW [x, .ty n] S Q = ∃ t, tyP S x = some t ∧ ∃ b, isiB t n = some b ∧ Q (.bl b) S := by
  unfold rIsiW
  apply propext
  constructor
  · rintro ⟨x', n', t', b, e, h1, h2, q⟩
    cases e
    exact ⟨_, h1, b, h2, q⟩
  · rintro ⟨t, h1, b, h2, q⟩
    exact ⟨x, n, t, b, rfl, h1, h2, q⟩
theorem tyP_non {S : Sto} : tyP S .non = some "NoneType" := rfl
theorem tyP_bl {S : Sto} {b : Bool} : tyP S (.bl b) = some "bool" := rfl
theorem tyP_int {S : Sto} {i : Int} : tyP S (.int i) = some "int" := rfl
theorem tyP_str {S : Sto} {x : Str} : tyP S (.str x) = some "str" := rfl
theorem tyP_tup {S : Sto} {xs : List PV} : tyP S (.tup xs) = some "tuple" := rfl
theorem tyP_lst {S : Sto} {i : Nat} {xs : List PV} (h : S[i]? = some (.lst xs)) : tyP S (.ref i) = some "list" := by simp only [tyP, h]
theorem isi_NoneType_int : isiB "NoneType" "int" = some false := rfl
theorem isi_NoneType_bool : isiB "NoneType" "bool" = some false := rfl
theorem isi_NoneType_str : isiB "NoneType" "str" = some false := rfl
theorem isi_NoneType_list : isiB "NoneType" "list" = some false := rfl
theorem isi_NoneType_tuple : isiB "NoneType" "tuple" = some false := rfl
theorem isi_NoneType_dict : isiB "NoneType" "dict" = some false := rfl
theorem isi_bool_int : isiB "bool" "int" = some true := rfl
theorem isi_bool_bool : isiB "bool" "bool" = some true := rfl
theorem isi_bool_str : isiB "bool" "str" = some false := rfl
theorem isi_bool_list : isiB "bool" "list" = some false := rfl
theorem isi_bool_tuple : isiB "bool" "tuple" = some false := rfl
theorem isi_bool_dict : isiB "bool" "dict" = some false := rfl
theorem isi_int_int : isiB "int" "int" = some true := rfl
theorem isi_int_bool : isiB "int" "bool" = some false := rfl
theorem isi_int_str : isiB "int" "str" = some false := rfl
theorem isi_int_list : isiB "int" "list" = some false := rfl
theorem isi_int_tuple : isiB "int" "tuple" = some false := rfl
theorem isi_int_dict : isiB "int" "dict" = some false := rfl
theorem isi_str_int : isiB "str" "int" = some false := rfl
theorem isi_str_bool : isiB "str" "bool" = some false := rfl
theorem isi_str_str : isiB "str" "str" = some true := rfl
theorem isi_str_list : isiB "str" "list" = some false := rfl
theorem isi_str_tuple : isiB "str" "tuple" = some false := rfl
theorem isi_str_dict : isiB "str" "dict" = some false := rfl
theorem isi_tuple_int : isiB "tuple" "int" = some false := rfl
theorem isi_tuple_bool : isiB "tuple" "bool" = some false := rfl
theorem isi_tuple_str : isiB "tuple" "str" = some false := rfl
theorem isi_tuple_list : isiB "tuple" "list" = some false := rfl
theorem isi_tuple_tuple : isiB "tuple" "tuple" = some true := rfl
theorem isi_tuple_dict : isiB "tuple" "dict" = some false := rfl
theorem isi_list_int : isiB "list" "int" = some false := rfl
theorem isi_list_bool : isiB "list" "bool" = some false := rfl
theorem isi_list_str : isiB "list" "str" = some false := rfl
theorem isi_list_list : isiB "list" "list" = some true := rfl
theorem isi_list_tuple : isiB "list" "tuple" = some false := rfl
theorem isi_list_dict : isiB "list" "dict" = some false := rfl
theorem isi_dict_int : isiB "dict" "int" = some false := rfl
theorem isi_dict_bool : isiB "dict" "bool" = some false := rfl
theorem isi_dict_str : isiB "dict" "str" = some false := rfl
theorem isi_dict_list : isiB "dict" "list" = some false := rfl
theorem isi_dict_tuple : isiB "dict" "tuple" = some false := rfl
theorem isi_dict_dict : isiB "dict" "dict" = some true := rfl
end L4
set_option Elab.async false
set_option linter.all false
set_option maxRecDepth 100000
namespace L3
open PySem PySem.Spec PyProof.Rows L2
section
variable {prog : Program} {w : World} {A : Around} {E : Value → Shared → Prop} {s : Shared}
end
section
variable {X : Cx} {e c : Expr} {te : TE} {pos p2 : Pos} {lo : Option Expr} {tl : TO}
end
end L3
set_option Elab.async false
set_option linter.all false
set_option maxRecDepth 100000
namespace L3
open PySem PySem.Spec PyProof.Rows L2
section
variable {prog : Program} {w : World} {A : Around} {E : Value → Shared → Prop} {s : Shared} {z TI TO i1 i2 a b : Addr} {k1 k2 : Bool} {n : Nat} {xs ys : Array Value}
end
structure ZSX (k1 k2 : Bool) (h : Heap) (z TI TO i1 i2 a b : Addr) (i : Nat) : Prop where
  rc : IsZip h z TI TO .none ∨ ∃ a0 f1, IsZ2 h z TI TO a0 f1
  pI : IsPair h TI (.ref i1) (.ref i2)
  pO : ∃ x y, IsPair h TO x y
  s1 : SqI k1 h i1 a i
  s2 : SqI k2 h i2 b i
theorem ZSX.zip {k1 k2 : Bool} {h : Heap} {z TI TO i1 i2 a b : Addr} {i : Nat} (Z : ZSX k1 k2 h z TI TO i1 i2 a b i) : ∃ o, h.get? z = some o ∧ o.cls = .type "zip" ∧ ∀ v, o.data ≠ .cell v := by
  rcases Z.rc with e | ⟨a0, f1, e⟩
  · exact ⟨_, e, rfl, fun v q => nomatch q⟩
  · exact ⟨_, e, rfl, fun v q => nomatch q⟩
section
variable {X : Cx} {pins : List (Addr × Obj)} {σ : L2.St} {A : Around} {z TI TO i1 i2 a b : Addr} {xs ys : List V} {k1 k2 : Bool} {E : Value → Shared → Prop}
end
end L3
set_option Elab.async false
set_option linter.all false
set_option maxRecDepth 100000
namespace L3
open PySem PySem.Spec PyProof.Rows L2
section
variable {K : PySem.W.Frag} {H : Hp} {k : Bool} {a p : Addr} {xs : List V} {o : HO}
end
section
variable {X : Cx} {pins : List (Addr × Obj)} {σ : L2.St} {A : Around} {R : Result → Shared → Prop} {z TI TO i1 i2 a b : Addr} {xs ys : List V} {k1 k2 : Bool}
end
end L3
set_option Elab.async false
set_option linter.all false
set_option maxRecDepth 100000
namespace L3
open PySem PySem.Spec PyProof.Rows L2
section
variable {X : Cx} {e e2 : Expr} {ta : TA} {p p2 pos pos2 : Pos}
end
end L3
set_option Elab.async false
set_option linter.all false
set_option maxRecDepth 100000
namespace L3
open PySem PySem.Spec PyProof.Rows L2
section
variable {X : Cx} {pins : List (Addr × Obj)} {σ : L2.St} {A : Around} {z TI TO i1 i2 a b : Addr} {xs ys : List V} {k1 k2 : Bool} {E : Value → Shared → Prop}
end
section
variable {X : Cx} {e e2 : Expr} {ta : TA} {p p2 pos pos2 : Pos}
end
end L3
set_option Elab.async false
set_option linter.all false
set_option maxRecDepth 100000
namespace L4
open PySem PySem.Spec PyProof.Rows L2 L3
def wLcGo2 (g : WG) (wt : WT) (wi1 : WI) (g1 : WG) (wt1 : WT) (we : WE) (τ : Ev) (vs1 : List Nat) (G : Sto → Prop) : List PV → List PV → Sto → (List PV → Sto → Prop) → Prop
  | [], acc, S, F => G S ∧ F acc S
  | x :: xs, acc, S, F => G S ∧ g x τ fun τ2 => wt τ2 S fun b S3 => if b = true then wi1 τ2 S3 fun ys G1 S4 => acc.length + ys.length ≤ 16777216 ∧ wLcGo g1 wt1 we (wipeW τ2 vs1) G1 ys acc S4 fun acc' S5 => wLcGo2 g wt wi1 g1 wt1 we τ vs1 G xs acc' S5 F
      else wLcGo2 g wt wi1 g1 wt1 we τ vs1 G xs acc S3 F
def wLcV2 (wi : WI) (g : WG) (wt : WT) (wi1 : WI) (g1 : WG) (wt1 : WT) (we : WE) (vs vs1 : List Nat) : WA := fun τ S F => wi τ S fun xs G S1 => wLcGo2 g wt wi1 g1 wt1 we (wipeW τ vs) vs1 G xs [] S1 F
end L4
set_option Elab.async false
set_option linter.all false
set_option maxRecDepth 100000
namespace L4
open PySem PySem.Spec PyProof.Rows L2 L3
section
variable {X : Cx} {a b c e elt iter tg iter1 tg1 : Expr} {ifs ifs1 : List Expr} {scope : Scope} {own : List (Str × Nat)} {pos : Pos} {wi wi1 : WI} {g g1 : TG} {wg wg1 : WG} {wt wt1 : WT} {wa we : WE} {vs1 : List Nat}
def wLcU2 (r : WC) (wi : WI) (g : WG) (wt : WT) (wi1 : WI) (g1 : WG) (wt1 : WT) (we : WE) (vs vs1 : List Nat) : WE := fun τ S Q => wLcV2 wi g wt wi1 g1 wt1 we vs vs1 τ S fun ys S2 => r ys S2 Q
def wRev (w : WE) : WE := fun τ S Q => w τ S fun x S1 => (∃ xs, x = .tup xs ∧ Q (.tup xs.reverse) S1) ∨ ∃ xs, seqW S1 x = some (false, xs) ∧ Q (.ref S1.length) (S1 ++ [.lst xs.reverse])
theorem RPs.evL {K : PySem.W.Frag} {M : Map} {n : Nat} {H : Hp} {xs : List PV} {us : List V} (r : RPs K M n H xs us) (st : Nat) : RPs K M n H (L3.evL xs st) (L3.evL us st) := by
  unfold L3.evL
  rw [r.length]
  generalize (us.length + 1 - st) / 2 = m
  induction m with
  | zero => exact .nil
  | succ m ih =>
    rw [List.range_succ, List.filterMap_append, List.filterMap_append]
    refine ih.append ?_
    cases hx : xs[st + 2 * m]? with
    | none =>
      have : us[st + 2 * m]? = Option.none := by
        have := r.length
        rw [List.getElem?_eq_none_iff] at hx ⊢; omega
      simp [hx, this]; exact .nil
    | some v =>
      obtain ⟨u, hu, rv⟩ := r.get hx
      simp [hx, hu]; exact .cons rv .nil
def wStep (w : WE) (wl : WO) : WE := fun τ S Q => w τ S fun x S1 => wl τ S1 fun l S2 => ∃ k xs, seqW S2 x = some (k, xs) ∧ ∃ st : Nat, ((l = none ∧ st = 0) ∨ l = some (st : Int)) ∧ st ≤ xs.length ∧ (if k = true then Q (.tup (L3.evL xs st)) S2 else Q (.ref S2.length) (S2 ++ [.lst (L3.evL xs st)]))
def wTupZip (w : WA) : WE := fun τ S Q => w τ S fun vs S1 => ∃ x y k xs l ys, vs = [x, y] ∧ seqW S1 x = some (k, xs) ∧ seqW S1 y = some (l, ys) ∧ xs.length = ys.length ∧ Q (.tup (zipP xs ys)) S1
/-- for x in zip(a, b) -/
def wZipN (w : WA) : WI := fun τ S R => w τ S fun vs S1 => ∃ x y k xs l ys, vs = [x, y] ∧ seqW S1 x = some (k, xs) ∧ seqW S1 y = some (l, ys) ∧ xs.length = ys.length ∧ R (zipP xs ys) (fun S' => seqW S' x = some (k, xs) ∧ seqW S' y = some (l, ys)) S1
theorem se_gstr {x y : Str} {t : Tok} (hg : Gl X x) (hm : X.mg x = some (.str y t)) (hd : (x == ("__debug__" : Str)) = false := by decide) : SE Ts X (.Name x pos) (wC (.str y)) := se_c (pe_glob hg hm (v := .str y) ⟨_, rfl⟩ hd) fun _ _ _ => .str y
def wMaxD (w wd : WE) : WE := fun τ S Q => w τ S fun x S1 => wd τ S1 fun _ S2 => ∃ ns : List Int, x = intsP ns ∧ 0 < ns.length ∧ ∀ m, m ∈ ns → (∀ y, y ∈ ns → y ≤ m) → Q (.int m) S2
def wMinD (w wd : WE) : WE := fun τ S Q => w τ S fun x S1 => wd τ S1 fun _ S2 => ∃ ns : List Int, x = intsP ns ∧ 0 < ns.length ∧ ∀ m, m ∈ ns → (∀ y, y ∈ ns → m ≤ y) → Q (.int m) S2
end
theorem inP_int (i : Int) (ns : List Int) : inP (.int i) (ns.map .int) = decide (i ∈ ns) := by
  unfold inP inV
  rw [List.map_map, List.any_map]
  induction ns with
  | nil => rfl
  | cons n ns ih =>
    rw [List.any_cons, ih]
    simp only [Function.comp_apply, flV, eqV, List.mem_cons, Bool.decide_or]
    congr 1
    exact Bool.eq_iff_iff.mpr ⟨fun h => decide_eq_true (by simpa using (beq_iff_eq.mp h).symm), fun h => beq_iff_eq.mpr (by simpa using (of_decide_eq_true h).symm)⟩
theorem all_flat_int (ns : List Int) : (ns.map PV.int).all flatP = true := by
  rw [List.all_map]
  exact List.all_eq_true.mpr fun _ _ => rfl
theorem rInW_ints {neg : Bool} {i : Int} {ns : List Int} {S : Sto} {Q : WQ} : rInW neg (.int i) (.tup (ns.map .int)) S Q = Q (.bl (neg ^^ decide (i ∈ ns))) S := by
  unfold rInW
  apply propext
  constructor
  · rintro (⟨k, xs, e, _, _, q⟩ | ⟨j, kvs, k, e, _⟩ | ⟨a, b, e, _⟩)
    · cases e; rw [inP_int] at q; exact q
    · cases e
    · cases e
  · intro q
    exact .inl ⟨true, _, rfl, rfl, all_flat_int ns, by rw [inP_int]; exact q⟩
end L4
set_option Elab.async false
set_option linter.all false
namespace L4
end L4
set_option Elab.async false
set_option linter.all false
namespace L4
open L3
end L4
set_option Elab.async false
set_option linter.all false
namespace L3
end L3
set_option Elab.async false
set_option linter.all false
namespace L3
def on (s : Nat × Nat) (x : Nat) : Prop := x = s.1 ∨ x = s.2
instance (s : Nat × Nat) (x : Nat) : Decidable (on s x) := inferInstanceAs (Decidable (_ ∨ _))
def sh (s t : Nat × Nat) : Prop := on t s.1 ∨ on t s.2
instance (s t : Nat × Nat) : Decidable (sh s t) := inferInstanceAs (Decidable (_ ∨ _))
end L3
set_option Elab.async false
set_option linter.all false
namespace L3
def Even (ns : List Int) : Prop := ∀ (i j : Nat) (x y : Int), i < j → ns[i]? = some x → ns[j]? = some y → 0 ≤ x - y ∧ x - y ≤ 1
end L3
set_option Elab.async false
set_option linter.all false
namespace L3
def Bit (t : Int) : Prop := t = 0 ∨ t = 1
def Bits (ts : List Int) : Prop := ∀ t ∈ ts, Bit t
section
variable {sw : List (Nat × Nat)} {ord : List Nat} {ts u v : List Int}
end
end L3
set_option Elab.async false
set_option linter.all false
namespace L3
def Dv (d : Nat) (z : Int) : Prop := ∃ q : Int, z = 2 ^ d * q
theorem Dv.add {d e f : Nat} {x y : Int} (hx : Dv d x) (hy : Dv e y) (h1 : f ≤ d) (h2 : f ≤ e) : Dv f (x + y) := by
  obtain ⟨p, rfl⟩ := hx
  obtain ⟨q, rfl⟩ := hy
  refine ⟨2 ^ (d - f) * p + 2 ^ (e - f) * q, ?_⟩
  have a1 : (2 : Int) ^ d = 2 ^ f * 2 ^ (d - f) := by rw [← Int.pow_add]; congr 1; omega
  have a2 : (2 : Int) ^ e = 2 ^ f * 2 ^ (e - f) := by rw [← Int.pow_add]; congr 1; omega
  rw [a1, a2, Int.mul_add, Int.mul_assoc, Int.mul_assoc]
theorem gd_some {ws : List Int} {i : Nat} (h : i < ws.length) : ws[i]? = some (ws.getD i 0) := by
  simp [List.getD_eq_getElem?_getD, h]
theorem Even.gd {ns : List Int} (h : Even ns) {i j : Nat} (hij : i < j) (hj : j < ns.length) : 0 ≤ ns.getD i 0 - ns.getD j 0 ∧ ns.getD i 0 - ns.getD j 0 ≤ 1 :=
  h i j _ _ hij (gd_some (by omega)) (gd_some hj)
end L3
set_option Elab.async false
set_option linter.all false
namespace L4
open L3
end L4
set_option Elab.async false
set_option linter.all false
namespace L4
open L3
def vals (u : List Int) (l : List Nat) : List Int := l.map fun x => u.getD x 0
end L4
set_option Elab.async false
set_option linter.all false
namespace L4
open L3
end L4
set_option Elab.async false
set_option linter.all false
set_option maxRecDepth 100000
namespace L4
open PySem PySem.Spec PyProof.Rows L2 L3
end L4
set_option Elab.async false
set_option linter.all false
set_option maxRecDepth 100000
namespace L4
open PySem PySem.Spec PyProof.Rows L2 L3
inductive Sh : Nat → PyData → Prop
  | non {n : Nat} : Sh n .none
  | bl {n : Nat} (b : Bool) : Sh n (.bool b)
  | int {n : Nat} (i : Int) : Sh n (.int i)
  | str {n : Nat} {x : Str} (h : PyData.strOk x = true) : Sh n (.str x)
  | tup {n : Nat} {ds : List PyData} (h : ∀ d ∈ ds, Sh n d) : Sh (n + 1) (.tuple ds)
  | lst {n : Nat} {ds : List PyData} (h : ∀ d ∈ ds, Sh n d) : Sh (n + 1) (.list ds)
theorem all_lay : ∀ {ds : List PyData}, (∀ d ∈ ds, PyData.canLay0 d = true) → PyData.canLayAll0 ds = true
  | [], _ => rfl
  | d :: ds, h => by
    show (PyData.canLay0 d && PyData.canLayAll0 ds) = true
    rw [h d List.mem_cons_self, all_lay fun e he => h e (List.mem_cons_of_mem _ he)]; rfl
theorem all_dep {n : Nat} : ∀ {ds : List PyData}, (∀ d ∈ ds, PyData.depth d ≤ n) → PyData.depthAll ds ≤ n
  | [], _ => Nat.zero_le _
  | d :: ds, h => by
    show max (PyData.depth d) (PyData.depthAll ds) ≤ n
    exact Nat.max_le.mpr ⟨h d List.mem_cons_self, all_dep fun e he => h e (List.mem_cons_of_mem _ he)⟩
theorem Sh.ok {n : Nat} {d : PyData} (h : Sh n d) : PyData.canLay0 d = true ∧ PyData.depth d ≤ n := by
  induction h with
  | non => exact ⟨rfl, Nat.zero_le _⟩
  | bl => exact ⟨rfl, Nat.zero_le _⟩
  | int => exact ⟨rfl, Nat.zero_le _⟩
  | str h => exact ⟨h, Nat.zero_le _⟩
  | tup h ih => exact ⟨all_lay fun d hd => (ih d hd).1, Nat.succ_le_succ (all_dep fun d hd => (ih d hd).2)⟩
  | lst h ih => exact ⟨all_lay fun d hd => (ih d hd).1, Nat.succ_le_succ (all_dep fun d hd => (ih d hd).2)⟩
theorem Sh.shaped {n : Nat} {d : PyData} (h : Sh n d) (hn : n ≤ 64 := by decide) : SeqAt.shaped d = true := by
  show (PyData.canLay0 d && decide (PyData.depth d ≤ 64)) = true
  rw [h.ok.1, decide_eq_true (Nat.le_trans h.ok.2 hn)]; rfl
theorem Sh.map {α : Type} {n : Nat} {g : α → PyData} {l : List α} (h : ∀ a ∈ l, Sh n (g a)) : ∀ d ∈ l.map g, Sh n d := fun d hd => by
  obtain ⟨a, ha, rfl⟩ := List.mem_map.mp hd
  exact h a ha
inductive NoB : PyData → Prop
  | non : NoB .none
  | int (i : Int) : NoB (.int i)
  | str (x : Str) : NoB (.str x)
  | tup {ds : List PyData} (h : ∀ d ∈ ds, NoB d) : NoB (.tuple ds)
  | lst {ds : List PyData} (h : ∀ d ∈ ds, NoB d) : NoB (.list ds)
theorem eqv_all {ds : List PyData} (ih : ∀ d ∈ ds, ∀ e, NoB e → PyData.eqv d e = true → d = e) : ∀ es : List PyData, (∀ e ∈ es, NoB e) → PyData.eqvAll ds es = true → ds = es := by
  induction ds with
  | nil => intro es _ q; cases es with
    | nil => rfl
    | cons _ _ => cases q
  | cons d ds ihd => intro es he q; cases es with
    | nil => cases q
    | cons e es =>
      have q' : (PyData.eqv d e && PyData.eqvAll ds es) = true := q
      obtain ⟨q1, q2⟩ := Bool.and_eq_true_iff.mp q'
      rw [ih d List.mem_cons_self e (he e List.mem_cons_self) q1, ihd (fun d hd => ih d (List.mem_cons_of_mem _ hd)) es (fun e h => he e (List.mem_cons_of_mem _ h)) q2]
theorem NoB.eqv {d : PyData} (h : NoB d) : ∀ e, NoB e → PyData.eqv d e = true → d = e := by
  induction h with
  | non => intro e he q; cases he <;> first | rfl | (simp [PyData.eqv] at q)
  | int i => intro e he q; cases he <;> first | (simp [PyData.eqv] at q; rw [q]) | (simp [PyData.eqv] at q)
  | str x => intro e he q; cases he <;> first | (simp [PyData.eqv] at q; rw [q]) | (simp [PyData.eqv] at q)
  | tup h ih => intro e he q; cases he with
    | tup h' => rw [PyData.eqv] at q; rw [eqv_all ih _ h' q]
    | _ => simp [PyData.eqv] at q
  | lst h ih => intro e he q; cases he with
    | lst h' => rw [PyData.eqv] at q; rw [eqv_all ih _ h' q]
    | _ => simp [PyData.eqv] at q
section
variable {S : Sto} {Q : WQ} {neg : Bool} {i j : Int} {x y : Str} {a b : Bool} {xs ys : List PV}
theorem rEqW_ii : rEqW neg (.int i) (.int j) S Q = Q (.bl (neg ^^ decide (i = j))) S := rfl
theorem rEqW_bb : rEqW neg (.bl a) (.bl b) S Q = Q (.bl (neg ^^ decide (a = b))) S := rfl
theorem rEqW_ss : rEqW neg (.str x) (.str y) S Q = Q (.bl (neg ^^ decide (x = y))) S := rfl
theorem rIsW_n {v : PV} : rIsW neg v .non S Q = Q (.bl (neg ^^ isNonP v)) S := by cases v <;> rfl
theorem rIsW_bb : rIsW neg (.bl a) (.bl b) S Q = Q (.bl (neg ^^ (a == b))) S := rfl
theorem rAddW_ii : rAddW (.int i) (.int j) S Q = Q (.int (i + j)) S := rfl
theorem rAddW_ss : rAddW (.str x) (.str y) S Q = (x.length + y.length ≤ 16777216 ∧ Q (.str (x ++ y)) S) := rfl
theorem rAddW_tt : rAddW (.tup xs) (.tup ys) S Q = (xs.length + ys.length ≤ 16777216 ∧ Q (.tup (xs ++ ys)) S) := rfl
theorem rAddW_ll {p q : Nat} (h1 : S[p]? = some (.lst xs)) (h2 : S[q]? = some (.lst ys)) : rAddW (.ref p) (.ref q) S Q = (xs.length + ys.length ≤ 16777216 ∧ Q (.ref S.length) (S ++ [.lst (xs ++ ys)])) := by
  show (∃ xs ys, S[p]? = some (.lst xs) ∧ S[q]? = some (.lst ys) ∧ xs.length + ys.length ≤ 16777216 ∧ Q (.ref S.length) (S ++ [.lst (xs ++ ys)])) = _
  rw [h1, h2]
  simp
theorem rIW_ii {C : Int → Int → Prop} {g : Int → Int → PV} : rIW C g (.int i) (.int j) S Q = (C i j ∧ Q (g i j) S) := rfl
theorem rI0W_ii {g : Int → Int → PV} : rI0W g (.int i) (.int j) S Q = Q (g i j) S := rfl
theorem rMulW_ii : rMulW (.int i) (.int j) S Q = (CMul i j ∧ Q (.int (i * j)) S) := rfl
theorem rMulW_ti : rMulW (.tup xs) (.int j) S Q = (-9223372036854775808 ≤ j ∧ j < 9223372036854775808 ∧ xs.length * j.toNat ≤ 16777216 ∧ Q (.tup (List.replicate j.toNat xs).flatten) S) := rfl
theorem rIntW_i : rIntW [.int i] S Q = Q (.int i) S := rfl
theorem rIntW_b : rIntW [.bl a] S Q = Q (.int (if a = true then 1 else 0)) S := by cases a <;> rfl
theorem rMax2W_ii : rMax2W [.int i, .int j] S Q = Q (.int (if j > i then j else i)) S := rfl
theorem rMin2W_ii : rMin2W [.int i, .int j] S Q = Q (.int (if j < i then j else i)) S := rfl
end
end L4
set_option Elab.async false
set_option linter.all false
set_option maxRecDepth 100000
namespace L4
open PySem PySem.Spec PyProof.Rows L2 L3
theorem loop_rngF {g : WG} {t : WS} {lo : Int} {n : Nat} {D : WEnds} {τ : Ev} {S : Sto} {G : Sto → Prop} (hG : ∀ S, G S) (I : Nat → Ev → Sto → Prop) (h0 : I 0 τ S)
    (step : ∀ i τ S (N : Ev → Sto → Prop), i < n → I i τ S → (∀ τ' S', I (i + 1) τ' S' → N τ' S') → g (.int (lo + (i : Int))) τ fun τ1 => t ⟨N, D.rt, D.nx, N⟩ τ1 S)
    (fin : ∀ τ S, I n τ S → D.nx τ S) : wLoop g t G (rngP lo n) D τ S := by
  rw [rngP_map]
  refine loop_map I h0 (fun i a τ S N ha hI hN => ⟨hG S, ?_⟩) (fun τ S hI => ⟨hG S, fin τ S (by rw [List.length_range] at hI; exact hI)⟩)
  obtain ⟨h1, h2⟩ := List.getElem?_eq_some_iff.mp ha
  rw [List.getElem_range] at h2
  subst h2
  exact step i τ S N (by simpa using h1) hI hN
end L4
set_option Elab.async false
set_option linter.all false
set_option maxRecDepth 100000
namespace L4
open PySem PySem.Spec PyProof.Rows L2 L3
section
variable {K : PySem.W.Frag} {M : Map} {n : Nat} {H : Hp} {f : Str}
theorem KR.lookup : ∀ {v : List (Str × PV)} {u : List (Str × V)}, KR K M n H v u → (v.lookup f = none ∧ u.lookup f = none) ∨ ∃ x y, v.lookup f = some x ∧ u.lookup f = some y ∧ RP K M n H x y
  | _, _, .nil => .inl ⟨rfl, rfl⟩
  | _, _, .cons (k := j) (x := x) (u := y) (xs := xs) (us := us) r t => by
    by_cases e : f = j
    · have hb : (f == j) = true := beq_iff_eq.mpr e
      refine .inr ⟨x, y, ?_, ?_, r⟩ <;> simp only [List.lookup, hb]
    · have hb : (f == j) = false := beq_eq_false_iff_ne.mpr e
      simp only [List.lookup, hb]
      exact KR.lookup t
end
theorem KR.length2 {κ : Type} {K : PySem.W.Frag} {M : Map} {n : Nat} {H : Hp} : ∀ {v : List (κ × PV)} {u : List (κ × V)}, KR K M n H v u → v.length = u.length
  | _, _, .nil => rfl
  | _, _, .cons _ t => by rw [List.length_cons, List.length_cons, KR.length2 t]
section
variable {K : PySem.W.Frag} {M : Map} {S : Sto} {H : Hp} {C : Addr}
theorem Sim.ins (s : Sim Ts K M S H) {i : Nat} {fs : List (Str × PV)} (h : S[i]? = some (.ins C fs)) : ∃ us, H (M.m i) = some (.ins C (M.q i) us) ∧ H (M.q i) = some (.own (M.m i)) ∧ KR K M S.length H fs us := s.ob i _ h
end
section
variable {X : Cx} {e o value : Expr} {es : List Expr} {we wo wv : WE} {w : WA} {C : Addr} {f m x : Str} {pos apos pos' tpos p : Pos}
end
end L4
set_option Elab.async false
set_option linter.all false
set_option maxRecDepth 100000
namespace L4
open PySem PySem.Spec PyProof.Rows L2 L3
section
variable {K : PySem.W.Frag} {M : Map} {S : Sto} {H : Hp}
theorem upQ.dct {Q : VK} {xs : List (Key × PV)} {us : List (Key × V)} (h : upQ Ts K M S.length H Q (.ref S.length) (S ++ [.dct xs])) (s : Sim Ts K M S H) (r : KR K M S.length H xs us) : ∀ p, H p = none → Q (.ref p) (upd H p (.dK us)) := fun p hp => by
  obtain ⟨s1, t1⟩ := s.alloc (o := .dK us) (ob := .dct xs) hp (fun M' H' t e => ⟨rfl, us, e, r.mono t.le t.m t.tup t.scr⟩)
  refine h _ _ _ t1 s1 ?_
  have := RP.ref (K := K) (M := M.add S.length p p) (n := (S ++ [Ob.dct xs]).length) (H := upd H p (.dK us)) (i := S.length) (by simp)
  rw [M.add_m] at this
  exact this
end
def keysW : List (PV × PV) → Option (List (Key × PV))
  | [] => some []
  | (x, y) :: r => match keyW x, keysW r with
    | some k, some l => some ((k, y) :: l)
    | _, _ => none
def mergeP (kvs more : List (Key × PV)) : List (Key × PV) := more.foldl (fun acc kv => putP acc kv.1 kv.2) kvs
inductive PRs (K : PySem.W.Frag) (M : Map) (n : Nat) (H : Hp) : List (PV × PV) → List (V × V) → Prop
  | nil : PRs K M n H [] []
  | cons {x y : PV} {u v : V} {xs : List (PV × PV)} {us : List (V × V)} : RP K M n H x u → RP K M n H y v → PRs K M n H xs us → PRs K M n H ((x, y) :: xs) ((u, v) :: us)
theorem PRs.keys {K : PySem.W.Frag} {M : Map} {n : Nat} {H : Hp} : ∀ {ps : List (PV × PV)} {us : List (V × V)} {kvs : List (Key × PV)}, PRs K M n H ps us → keysW ps = some kvs → ∃ ws : List (Key × V), us = ws.map (fun kv => (kV kv.1, kv.2)) ∧ KR K M n H kvs ws
  | _, _, _, .nil, e => by cases e; exact ⟨[], rfl, .nil⟩
  | _, _, _, .cons (x := x) (y := y) (xs := xs) r1 r2 t, e => by
    unfold keysW at e
    cases h1 : keyW x with
    | none => rw [h1] at e; simp at e
    | some k =>
      cases h2 : keysW xs with
      | none => rw [h1, h2] at e; simp at e
      | some l =>
        rw [h1, h2] at e
        cases e
        obtain ⟨ws, e1, r3⟩ := PRs.keys t h2
        obtain rfl := key_rp r1 h1
        exact ⟨(k, _) :: ws, by rw [e1]; rfl, .cons r2 r3⟩
theorem KR.merge {K : PySem.W.Frag} {M : Map} {n : Nat} {H : Hp} : ∀ {more : List (Key × PV)} {rs : List (Key × V)} {kvs : List (Key × PV)} {vs : List (Key × V)}, KR K M n H more rs → KR K M n H kvs vs → KR K M n H (mergeP kvs more) (mergeK vs rs)
  | _, _, _, _, .nil, q => q
  | _, _, kvs, vs, .cons (k := k) (x := x) (u := u) (xs := xs) (us := us) r t, q => by
    show KR K M n H (mergeP (putP kvs k x) xs) (mergeK (putK vs k u) us)
    exact KR.merge t (q.put r k)
section
variable {X : Cx} {pos : Pos}
theorem PRs.stp {K : PySem.W.Frag} {M M' : Map} {n n' : Nat} {H H' : Hp} (t : Stp Ts K M n H M' n' H') : ∀ {ps : List (PV × PV)} {us : List (V × V)}, PRs K M n H ps us → PRs K M' n' H' ps us
  | _, _, .nil => .nil
  | _, _, .cons a b c => .cons (a.stp t) (b.stp t) (PRs.stp t c)
end
end L4
set_option Elab.async false
set_option linter.all false
set_option maxRecDepth 100000
namespace L3
open PySem PySem.Spec PyProof PyProof.Rows L2
section
variable {X : Cx}
def rRng2 : List V → Hp → VK → Prop := fun xs H Q => ∃ i j : Int, xs = [.int i, .int j] ∧ ∀ p, H p = none → Q (.ref p) (upd H p (.rng i j))
theorem call_rng2 : CallR X (.type "range") rRng2 := by
  intro pins s σ H xs us Q I r h
  obtain ⟨i, j, rfl, q⟩ := h
  cases r with
  | cons r1 rr =>
    obtain ⟨u, rfl, t, rfl⟩ := vals1 rr
    obtain ⟨t1, rfl⟩ := r1
    refine call_range_2 ?_
    refine ⟨.ref s.heap.objs.size, _, I.laid (t' := s.toks + 1) (fun b o e => Heap.get?_push_of_some _ e) (Nat.le_refl _) (show ObjOk X.prog X.w _ _ _ (.rng i j) from ⟨_, _, _, Heap.get?_push_size _ rfl⟩), rfl, q _ (I.hok.fresh (Nat.le_refl _))⟩
def fromV (lo : Int) (n : Nat) : List V := (List.range n).map fun (i : Nat) => V.int (lo + (i : Int))
theorem fromV_length (lo : Int) (n : Nat) : (fromV lo n).length = n := by simp [fromV]
theorem vals_fromA (lo : Int) : ∀ (l : List Value) (k : Nat), (∀ (i : Nat) (v : Value), l[i]? = some v → ∃ t, v = Value.int (lo + ((k + i : Nat) : Int)) t) → Vals ((List.range' k l.length).map fun (i : Nat) => V.int (lo + (i : Int))) l
  | [], k, _ => .nil
  | x :: l, k, h => by
    refine .cons ?_ (vals_fromA lo l (k + 1) fun i v hi => ?_)
    · obtain ⟨t, ht⟩ := h 0 x rfl
      exact ⟨t, ht⟩
    · obtain ⟨t, ht⟩ := h (i + 1) v (by simpa using hi)
      exact ⟨t, by rw [ht, show k + 1 + i = k + (i + 1) by omega]⟩
theorem vals_of_itemsA {lo : Int} {n : Nat} {acc : Array Value} (h : ItemsOf (fun i v => ∃ t, v = Value.int (lo + (i : Nat) * 1) t) acc n) : Vals (fromV lo n) acc.toList := by
  obtain ⟨hs, hv⟩ := h
  have e : fromV lo n = (List.range' 0 acc.toList.length).map fun (i : Nat) => V.int (lo + (i : Int)) := by
    rw [Array.length_toList, hs, ← List.range_eq_range']; rfl
  rw [e]
  refine vals_fromA lo _ 0 fun i v hi => ?_
  obtain ⟨t, ht⟩ := hv i v (by simpa using hi)
  exact ⟨t, by rw [ht]; simp⟩
end
end L3
set_option Elab.async false
set_option linter.all false
set_option maxRecDepth 100000
namespace L3
open PySem PySem.Spec PyProof PyProof.Rows L2
section
variable {prog : Program} {w : World} {A : Around} {E : Value → Shared → Prop} {s : Shared}
end
section
variable {X : Cx}
end
end L3
set_option Elab.async false
set_option linter.all false
set_option maxRecDepth 100000
namespace L3
open PySem PySem.Spec PyProof.Rows L2
section
variable {X : Cx}
end
end L3
set_option Elab.async false
set_option linter.all false
set_option maxRecDepth 100000
namespace L4
open PySem PySem.Spec PyProof.Rows L2 L3
section
variable {K : PySem.W.Frag} {M : Map} {S : Sto} {H : Hp}
theorem Sim.tabU (s : Sim Ts K M S H) {PT : Addr} (hT : PT ∈ Ts) {ps' : Array Value} (tok : TriplesOk ps'.toList) (cd : Cods H ps'.toList) (hK : K.lookup PT = none) : Sim Ts K M S (upd H PT (.tbl ps')) ∧ Stp Ts K M S.length H M S.length (upd H PT (.tbl ps')) := by
  obtain ⟨ps, hP, _⟩ := s.tab PT hT
  have ht : ∀ a us, SqT K H a us → SqT K (upd H PT (.tbl ps')) a us := fun a us h => by
    rcases h with (h | ⟨ob, h⟩) | h
    · exact .inl (.inl (by rw [upd_ne (ne_of h hP (by intro z; cases z))]; exact h))
    · exact .inl (.inr ⟨ob, by rw [upd_ne (ne_of h hP (by intro z; cases z))]; exact h⟩)
    · exact .inr h
  have hs : ∀ a us, Scr K H a us → Scr K (upd H PT (.tbl ps')) a us := fun a us h => by
    rcases h with ⟨ob, h⟩ | h
    · exact .inl ⟨ob, by rw [upd_ne (ne_of h hP (by intro z; cases z))]; exact h⟩
    · exact .inr h
  have hc : ∀ a oc c, H a = some (.frz oc (.own c)) → upd H PT (.tbl ps') a = some (.frz oc (.own c)) := fun a oc c h => by
    rw [upd_ne (ne_of h hP (by intro z; cases z))]; exact h
  refine ⟨⟨fun i o hi => ?_, s.sep, fun P hQ => ?_⟩, ⟨Nat.le_refl _, fun _ _ => rfl, fun _ _ => rfl, ht, hs, fun a o h n1 n2 => ?_, fun a h => none_upd h, fun i h1 h2 => by omega⟩⟩
  · obtain ⟨⟨x, h3, m3⟩, y, h4, m4⟩ := (s.ob i o hi).at
    refine (s.ob i o hi).mono (Nat.le_refl _) (fun _ _ => rfl) ht hs (upd_ne ?_) (upd_ne ?_)
    · intro z; rw [z, hP] at h3; cases h3; exact m3
    · intro z; rw [z, hP] at h4; cases h4; exact m4
  · by_cases e : P = PT
    · subst e; exact ⟨ps', upd_same, tok, cd.keep hc⟩
    · exact (s.tab P hQ).keep (fun q h => by rw [upd_ne e]; exact h) hc
  · rw [upd_ne]; exact h
    rintro rfl; exact n2 hT
end
end L4
namespace L4
open PySem PySem.Spec PyProof.Rows L2 L3
end L4
set_option Elab.async false
set_option linter.all false
set_option maxRecDepth 100000
namespace L4
open PySem PySem.Spec PyProof.Rows L2 L3
section
variable {K : PySem.W.Frag} {M : Map} {S : Sto} {H H' : Hp}
end
theorem pen_at {S G : Sto} {j : Nat} {o : Ob} (h : S[j]? = some o) : (S ++ G)[j]? = some o := by rw [List.getElem?_append_left (List.getElem?_eq_some_iff.mp h).1]; exact h
end L4
set_option Elab.async false
set_option linter.all false
set_option maxRecDepth 100000
namespace L4
open PySem PySem.Spec PyProof.Rows L2 L3
/-- the store has grown -/
def Pre (S S' : Sto) : Prop := ∃ G, S' = S ++ G
theorem Pre.refl (S : Sto) : Pre S S := ⟨[], by simp⟩
theorem Pre.trans {S S1 S2 : Sto} (a : Pre S S1) (b : Pre S1 S2) : Pre S S2 := by
  obtain ⟨G, rfl⟩ := a
  obtain ⟨G', rfl⟩ := b
  exact ⟨G ++ G', by rw [List.append_assoc]⟩
theorem Pre.add (S G : Sto) : Pre S (S ++ G) := ⟨G, rfl⟩
theorem Pre.get {S S' : Sto} (a : Pre S S') {i : Nat} {o : Ob} (h : S[i]? = some o) : S'[i]? = some o := by
  obtain ⟨G, rfl⟩ := a
  exact pen_at h
theorem Pre.len {S S' : Sto} (a : Pre S S') : S.length ≤ S'.length := by
  obtain ⟨G, rfl⟩ := a
  simp
/-- a thing behind it may change -/
theorem Pre.set {S S' : Sto} (a : Pre S S') {k : Nat} {o : Ob} (h : S.length ≤ k) : Pre S (S'.set k o) := by
  obtain ⟨G, rfl⟩ := a
  exact ⟨G.set (k - S.length) o, List.set_append_right _ _ h⟩
theorem st0 {A : Sto} {n : Nat} (hn : A.length = n) {x z : Ob} {G : Sto} : (A ++ x :: G).set n z = A ++ z :: G := by subst hn; rw [List.set_append_right _ _ (Nat.le_refl _), Nat.sub_self]; rfl
theorem st1 {A : Sto} {n : Nat} (hn : A.length = n) {x y z : Ob} {G : Sto} : (A ++ x :: y :: G).set (n + 1) z = A ++ x :: z :: G := by subst hn; rw [List.set_append_right _ _ (by omega), show A.length + 1 - A.length = 1 by omega]; rfl
end L4
set_option Elab.async false
set_option linter.all false
set_option maxRecDepth 100000
namespace L4
open PySem PySem.Spec PyProof.Rows L2 L3
section
variable {X : Cx} {e o i p j : Expr} {wv wo wi wp wj : WE} {pos : Pos}
end
end L4
set_option Elab.async false
set_option linter.all false
set_option maxRecDepth 100000
namespace L3
open PySem PySem.Spec PyProof.Rows L2
section
variable {X : Cx}
end
end L3
set_option Elab.async false
set_option linter.all false
set_option maxRecDepth 100000
namespace L4
open PySem PySem.Spec PyProof.Rows L2 L3
section
variable {X : Cx} {pos : Pos}
end
end L4
set_option Elab.async false
set_option linter.all false
set_option maxRecDepth 100000
namespace L4
open PySem PySem.Spec PyProof.Rows L2 L3
section
variable {X : Cx} {a b e o i tg : Expr} {wa wb wo wi : WE} {pos : Pos}
def keyP : Key → PV
  | .inl i => .int i
  | .inr x => .str x
theorem KR.keys {K : PySem.W.Frag} {M : Map} {n : Nat} {H : Hp} : ∀ {v : List (Key × PV)} {u : List (Key × V)}, KR K M n H v u → RPs K M n H (v.map fun kv => keyP kv.1) (u.map fun kv => kV kv.1)
  | _, _, .nil => .nil
  | _, _, .cons (k := k) r t => .cons (by cases k <;> first | exact .int _ | exact .str _) (KR.keys t)
theorem KR.get {κ : Type} {K : PySem.W.Frag} {M : Map} {n : Nat} {H : Hp} : ∀ {v : List (κ × PV)} {u : List (κ × V)} {i : Nat} {k : κ} {x : PV}, KR K M n H v u → v[i]? = some (k, x) → ∃ y, u[i]? = some (k, y) ∧ RP K M n H x y
  | _, _, _, _, _, .nil, e => by simp at e
  | _, _, 0, _, _, .cons r _, e => by simp at e; obtain ⟨rfl, rfl⟩ := e; exact ⟨_, rfl, r⟩
  | _, _, i + 1, k, x, .cons _ t, e => by
    obtain ⟨y, h1, h2⟩ := KR.get (i := i) (k := k) (x := x) t (by simpa using e)
    exact ⟨y, by simpa using h1, h2⟩
end
end L4
set_option Elab.async false
set_option linter.all false
set_option maxRecDepth 100000
namespace L4
open PySem PySem.Spec PyProof.Rows L2 L3
section
variable {X : Cx}
end
section
variable {X : Cx} {a b c e elt iter tg iter1 tg1 : Expr} {ifs ifs1 : List Expr} {scope : Scope} {own : List (Str × Nat)} {pos : Pos} {wi wi1 : WI} {g g1 : TG} {wg wg1 : WG} {wt wt1 : WT} {wa we : WE} {vs1 : List Nat}
end
end L4
set_option Elab.async false
set_option linter.all false
set_option maxRecDepth 100000
namespace L4
open PySem PySem.Spec PyProof.Rows L2 L3
section
variable {X : Cx}
end
end L4
set_option Elab.async false
set_option linter.all false
set_option maxRecDepth 100000
namespace L4
open PySem PySem.Spec PyProof.Rows L2 L3
end L4
set_option Elab.async false
set_option linter.all false
set_option maxRecDepth 100000
namespace L4
open PySem PySem.Spec PyProof.Rows L2 L3
section
variable {Ts : List Addr}
variable {X : Cx} {a b c e elt iter tg iter1 tg1 : Expr} {ifs ifs1 : List Expr} {scope : Scope} {own : List (Str × Nat)} {pos : Pos} {wi wi1 : WI} {g g1 : TG} {wg wg1 : WG} {wt wt1 : WT} {wa we : WE} {vs1 : List Nat}
end
end L4
set_option Elab.async false
set_option linter.all false
set_option maxRecDepth 100000
namespace L3
open PySem PySem.Spec PyProof.Rows L2
section
variable {X : Cx}
end
end L3
set_option Elab.async false
set_option linter.all false
set_option maxRecDepth 100000
namespace L4
open PySem PySem.Spec PyProof.Rows L2 L3
section
variable {Ts : List Addr} {X : Cx}
end
end L4
set_option Elab.async false
set_option linter.all false
set_option maxRecDepth 100000
namespace L4
open PySem PySem.Spec PyProof.Rows L2 L3
section
variable {Ts : List Addr} {X : Cx}
end
end L4
set_option Elab.async false
set_option linter.all false
set_option maxRecDepth 100000
namespace L3
open PySem PySem.Spec PyProof.Rows L2
theorem Chg.more {F F' : List Addr} {h0 h h' : Heap} {H : Hp} (c : Chg F h0 H h h') (hF : ∀ b ∈ F, b ∈ F') : Chg F' h0 H h h' := ⟨fun b o g n z => c.keep b o g n fun y => z (hF b y), c.slot⟩
section
variable {X : Cx} {pins : List (Addr × Obj)} {σ σ0 : L2.St} {H H0 H' : Hp} {s s0 : Shared} {h' : Heap}
end
section
variable {P : Program} {w : World} {K : PySem.W.Frag} {mg : Str → Option Value} {base : Heap} {N : List Str} {qual : Str} {scope : Scope} {f : Addr} {cd : Value} {A : Around} {outer : List Env} {s : Shared} {H : Hp} {E : XK}
end
section
variable {X : Cx} {EX : Value → Option Addr → L2.St → Hp → Prop}
variable {k : Nat} {f : Addr} {fd : FuncData} {ps : List Str} {sp : Sp} {x m : Str} {p pos apos : Pos} {e o : Expr} {es : List Expr} {ta : TE} {t : TA} {C : Addr}
end
end L3
set_option Elab.async false
set_option linter.all false
set_option maxRecDepth 100000
namespace L3
open PySem PySem.Spec PyProof.Rows L2
abbrev TJ := L2.St → Hp → (Hp → Prop) → Prop
section
variable {X : Cx} {e : Expr} {es : List Expr} {te : TE} {t : TJ} {n : Nat}
end
abbrev bmV : List Value := [.type "ValueError", .type "Exception", .type "BaseException", .type "object"]
def mroK (K : PySem.W.Frag) (C : Addr) : List Value := match K.lookup C with
  | some ⟨_, _, .cls cd, _⟩ => cd.mro
  | _ => []
structure ExcC (K : PySem.W.Frag) (mg : Str → Option Value) (x : Str) (C : Addr) : Prop where
  nm : mg x = some (.ref C)
  ex : PySem.W.excIn K C bmV "ValueError.__new__" = true
theorem ExcC.obj {K : PySem.W.Frag} {mg : Str → Option Value} {x : Str} {C : Addr} {h : Heap} (c : ExcC K mg x C) (k : K.In h) : ∃ bm N nm q bs hd sn sub ab col dd k0 k1 k2 k3 k5 mN,
    h.get? C = some (excClassObj nm q C N bs bm hd sn sub ab col dd k0 k1 k2 k3 k5 "ValueError.__new__") ∧ h.Ns N mN ∧ mN "__init__" = none ∧ OwnTail h bmV bm ∧ mroK K C = .ref C :: bm := by
  have q := c.ex
  unfold PySem.W.excIn at q
  split at q
  · rename_i dd cd sl ho
    split at q
    · rename_i C' bm k0 k1 k2 k3 n k5 hm hs
      simp only [Bool.and_eq_true, beq_iff_eq, Bool.not_eq_true'] at q
      obtain ⟨⟨⟨⟨⟨rfl, rfl⟩, del⟩, ht⟩, okn⟩, ni⟩ := q
      have em : mroK K C' = .ref C' :: bm := by unfold mroK; rw [ho]; exact hm
      obtain ⟨nm, bs, mro, ns, qn, hd, sn, sub, ab, col, dl⟩ := cd
      dsimp only at hm del okn ni
      subst hm del
      have es : sl = #[k0, k1, k2, k3, some (.builtin "ValueError.__new__"), k5] := by
        obtain ⟨l⟩ := sl
        simp only at hs
        rw [hs]
      subst es
      exact ⟨bm, ns, nm, qn, bs, hd, sn, sub, ab, col, dd, k0, k1, k2, k3, k5, _, k _ _ ho, .of_isNs (PySem.W.isNs_of_in k okn), PySem.W.nsMap_none_of_in k okn ni, PySem.W.tail_of_in k ht, em⟩
    · cases q
  · cases q
section
variable {X : Cx} {EX : Value → Option Addr → L2.St → Hp → Prop} {x : Str} {C : Addr} {e : Expr} {te : TE} {np cpos pos : Pos}
end
end L3
set_option Elab.async false
set_option linter.all false
set_option maxRecDepth 100000
namespace L3
open PySem PySem.Spec PyProof.Rows L2
section
variable {X : Cx} {pins p : List (Addr × Obj)} {σ : L2.St} {H : Hp} {s : Shared} {E : Value → Shared → Prop} {a : Addr}
end
section
variable {X : Cx} {body suite : List Stmt} {b₀ : Stmt} {n cls : Str} {i : Nat} {F : Addr} {np hpos pos : Pos} {tb : (Value → Option Addr → L2.St → Hp → Prop) → TS} {th : TS}
end
end L3
set_option Elab.async false
set_option linter.all false
set_option maxRecDepth 100000
namespace L4
open PySem PySem.Spec PyProof.Rows L2 L3
/-- where a body began -/
structure Bs where
  M : Map
  n : Nat
  H : Hp
section
variable {Ts : List Addr} {X : Cx} {B : Bs} {a b c e o : Expr} {wa wb : WE} {pos p : Pos} {st : Stmt} {rest as bs : List Stmt} {t u : WS} {wt : WT}
end
end L4
set_option Elab.async false
set_option linter.all false
set_option maxRecDepth 100000
namespace L3
open PySem PySem.Spec PySem.Calls PyProof.Rows L2
structure ExcI (K : PySem.W.Frag) (C : Addr) : Prop where
  ga : PySem.W.findIn K (.ref C) "__getattribute__" = some (some (.builtin "BaseException.__getattribute__"))
  gh : PySem.W.findIn K (.ref C) "__getattr__" = some none
  cl : PySem.W.findIn K (.ref C) "__class__" = some (some (.builtin "object.__class__"))
  get : PySem.W.specialIn K (.builtin "object.__class__") "__get__" = some (some (.builtin "getset_descriptor.__get__"))
  tk : PySem.W.takesIn K (.builtin "object.__class__") = some true
  ob : PySem.W.mroIn K C (.type "object") = some true
  be : PySem.W.mroIn K C (.type "BaseException") = some true
  ex : PySem.W.excIn K C bmV "ValueError.__new__" = true
section
variable {prog : Program} {w : World} {A : Around} {E : Value → Shared → Prop} {s : Shared} {K : PySem.W.Frag} {x C : Addr} {ox : Obj}
theorem ExcI.cls (e : ExcI K C) : ∃ cd, PySem.W.clsIn K C = some cd := by
  have q := e.ex
  unfold PySem.W.excIn at q
  split at q
  · rename_i dd cd sl ho
    exact ⟨cd, by unfold PySem.W.clsIn; rw [ho]⟩
  · cases q
end
section
variable {X : Cx}
end
end L3
set_option Elab.async false
set_option linter.all false
set_option maxRecDepth 100000
namespace L4
open PySem PySem.Spec PyProof.Rows L2 L3
section
variable {Ts : List Addr} {X : Cx} {a b c e o : Expr} {wa wb : WE} {pos p : Pos}
theorem WEnds.le.trans {D D1 D2 : WEnds} (a : D.le D1) (b : D1.le D2) : D.le D2 := ⟨fun _ _ h => b.nx _ _ (a.nx _ _ h), fun _ _ h => b.rt _ _ (a.rt _ _ h), fun _ _ h => b.bk _ _ (a.bk _ _ h), fun _ _ h => b.ct _ _ (a.ct _ _ h)⟩
end
end L4
set_option Elab.async false
set_option linter.all false
set_option maxRecDepth 100000
namespace L2
open PySem PySem.Spec PyProof.Rows
section
variable {X : Cx}
end
end L2
set_option Elab.async false
set_option linter.all false
set_option maxRecDepth 100000
namespace L4
open PySem PySem.Spec PyProof.Rows L2 L3
section
variable {Ts : List Addr} {X : Cx}
end
end L4
set_option Elab.async false
set_option linter.all false
set_option maxRecDepth 100000
namespace L4
open PySem PySem.Spec PyProof.Rows L2 L3
section
variable {Ts : List Addr} {X : Cx}
end
end L4
set_option Elab.async false
set_option linter.all false
set_option maxRecDepth 100000
namespace L3
open PySem PySem.Spec PySem.Calls PyProof.Rows L2
section
variable {prog : Program} {w : World} {A : Around} {R : Result → Shared → Prop} {s : Shared}
end
abbrev lamFn (qual : Str) (params : Arguments) (body : Expr) (scope : Scope) (cl : List (Str × Addr)) (pm : Value) (c : Addr) (ctv : Value) : FuncData := PySem.W.kla_fn "<lambda>" qual params body scope cl pm (.ref c) ctv
/-- the lambda at f, what its names hold: all untracked but its code -/
structure Lam (s : Shared) (H : Hp) (N : List Str) (f c : Addr) (qual : Str) (params : Arguments) (body : Expr) (scope : Scope) (cl : List (Str × Addr)) (pm ctv : Value) (σ : L2.St) : Prop where
  at_ : ∃ o, s.heap.get? f = some o ∧ o.data = .func (lamFn qual params body scope cl pm c ctv)
  nf : H f = none
  code : CodeH H c
  cell : ∀ x a, cl.lookup x = some a → (∃ v, s.heap.IsCell a v) ∧ H a = none
  val : ∀ (i : Nat) (x : Str) (v : V), N[i]? = some x → σ[i]? = some (some v) → ∃ u a, RelV v u ∧ cl.lookup x = some a ∧ s.heap.IsCell a (some u) ∧ scope.names.lookup x = some .free
  len : σ.length = N.length
  inj : ∀ x y a, cl.lookup x = some a → cl.lookup y = some a → x = y
  has : ∀ x, (scope.names.lookup x = some .cell ∨ scope.names.lookup x = some .free) → ∃ a, cl.lookup x = some a
section
variable {X : Cx} {pins : List (Addr × Obj)} {σ σl : L2.St} {H H' : Hp} {s s' : Shared} {N : List Str} {f c : Addr} {qual : Str} {params : Arguments} {body : Expr} {scope : Scope} {cl : List (Str × Addr)} {pm ctv : Value} {E : XK} {Q : VK} {tl : TE} {fs : List Addr}
theorem Lam.later (L : Lam s H N f c qual params body scope cl pm ctv σl) (u : Un fs [] H H' s.heap s'.heap) : Lam s' H' N f c qual params body scope cl pm ctv σl := by
  have nex : ∀ b : Addr, b ∉ ([] : List Addr) := fun b z => by cases z
  have cellK : ∀ a v, s.heap.IsCell a v → H a = none → s'.heap.IsCell a v := fun a v ⟨o, ho, hd⟩ n => by
    obtain ⟨sl, e⟩ := u.any ho n (nex a)
    exact ⟨_, e, hd⟩
  refine ⟨?_, ?_, L.code.keep fun a oc c e => u.frzs a oc _ e, fun x a e => ?_, fun i x v e1 e2 => ?_, L.len, L.inj, L.has⟩
  · obtain ⟨o, ho, hd⟩ := L.at_
    obtain ⟨sl, e⟩ := u.any ho L.nf (nex f)
    exact ⟨_, e, hd⟩
  · obtain ⟨o, ho, hd⟩ := L.at_
    exact u.free f o ho L.nf (nex f)
  · obtain ⟨⟨v, o, ho, hd⟩, n⟩ := L.cell x a e
    exact ⟨⟨v, cellK a v ⟨o, ho, hd⟩ n⟩, u.free a o ho n (nex a)⟩
  · obtain ⟨u', a, r, hl, hc, hf⟩ := L.val i x v e1 e2
    exact ⟨u', a, r, hl, cellK a _ hc (L.cell x a hl).2, hf⟩
end
end L3
set_option Elab.async false
set_option linter.all false
set_option maxRecDepth 100000
namespace L3
open PySem PySem.Spec PySem.Calls PyProof.Rows L2
theorem CodeK.hd {K : PySem.W.Frag} {cd : Value} {PT : Addr} (C : CodeK K cd PT) : ∃ c, cd = .ref c ∧ ∀ h : Heap, K.In h → PySem.W.CodeHd h c PT := by
  obtain ⟨c, od, vs, sl, file, tf, flags, tg, inF, text, tt, rfl, lk, a1, a2, a3, a4, a5, a6, ne⟩ := C.ex
  exact ⟨c, rfl, fun h X => ⟨_, vs, file, tf, flags, tg, inF, text, tt, X _ _ lk, rfl, rfl, a2, a1, a3, a4, a5, a6, ne⟩⟩
/-- how the abstract heap has changed -/
def LamGrow (PT : Addr) (H H1 : Hp) : Prop := H1 = H ∨ ∃ (c : Addr) (oc : Obj) (ps : Array Value), H c = none ∧ c ≠ PT ∧ H1 = upd (upd H c (.frz oc (.own c))) PT (.tbl ps) ∧ TriplesOk ps.toList ∧ Cods (upd H c (.frz oc (.own c))) ps.toList
section
variable {X : Cx} {pins : List (Addr × Obj)} {σ σl : L2.St} {H : Hp} {s : Shared} {N : List Str} {params : Arguments} {body : Expr} {scope : Scope} {PT : Addr} {lpos : Pos}
end
end L3
set_option Elab.async false
set_option linter.all false
set_option maxRecDepth 100000
namespace L4
open PySem PySem.Spec PyProof.Rows L2 L3
section
variable {Ts : List Addr} {X : Cx} {B B0 : Bs} {e : Expr} {we : WE} {pos p : Pos} {x : Str}
end
end L4
set_option Elab.async false
set_option linter.all false
set_option maxRecDepth 100000
namespace L4
open PySem PySem.Spec PyProof.Rows L2 L3
theorem Sim.grow {Ts : List Addr} {K : PySem.W.Frag} {M : Map} {S : Sto} {H H1 : Hp} {PT : Addr} (s : Sim Ts K M S H) (hT : PT ∈ Ts) (hK : K.lookup PT = none) (g : LamGrow PT H H1) : Sim Ts K M S H1 ∧ Stp Ts K M S.length H M S.length H1 := by
  rcases g with rfl | ⟨c, oc, ps, hc, nc, rfl, tok, cd⟩
  · exact ⟨s, .refl _ _ _ _⟩
  · obtain ⟨s1, t1⟩ := s.beside (o := .frz oc (.own c)) hc
    obtain ⟨s2, t2⟩ := s1.tabU hT tok cd hK
    exact ⟨s2, t1.trans t2⟩
section
variable {Ts : List Addr} {X : Cx} {pos p lpos : Pos} {x : Str} {N ps : List Str} {PT : Addr} {params : Arguments} {body : Expr} {scope : Scope}
end
end L4
set_option Elab.async false
set_option linter.all false
set_option maxRecDepth 100000
namespace L3
open PySem PySem.Spec PyProof.Rows L2
section
variable {X : Cx}
end
end L3
set_option Elab.async false
set_option linter.all false
set_option maxRecDepth 100000
namespace L4
open PySem PySem.Spec PyProof.Rows L2 L3
section
variable {X : Cx}
end
end L4
set_option Elab.async false
set_option linter.all false
set_option maxRecDepth 100000
namespace L3
open PySem PySem.Spec PyProof.Rows L2
section
variable {Y : Cx} {A0 : Around} {tg elt iter : Expr} {gsc : Scope} {gpos : Pos} {J : It} {fp : List Addr} {it : Addr} {tn : Nat → Heap → Prop} {gp : List (Addr × Obj)} {n g : Nat} {G : Nat → L2.St → Hp → Prop} {tr : Nat → Bool} {tt : TG} {te : TE}
end
end L3
set_option Elab.async false
set_option linter.all false
set_option maxRecDepth 100000
namespace L3
open PySem PySem.Spec PyProof.Rows L2
section
variable {Y : Cx} {A : Around} {gp : List (Addr × Obj)} {tn : Nat → Heap → Prop} {fp : List Addr} {G : Nat → L2.St → Hp → Prop} {g n : Nat} {tr : Nat → Bool} {a : Addr}
end
section
variable {X : Cx} {pins : List (Addr × Obj)} {σ σl : L2.St} {H : Hp} {s : Shared} {Nt NF : List Str} {gsc : Scope} {fp : List Addr} {A' : Around} {code : Value} {PT : Addr} {gpos : Pos}
end
end L3
set_option Elab.async false
set_option linter.all false
set_option maxRecDepth 100000
namespace L3
open PySem PySem.Spec PyProof.Rows L2
section
variable {X : Cx}
end
end L3
set_option Elab.async false
set_option linter.all false
set_option maxRecDepth 100000
namespace L4
open PySem PySem.Spec PyProof.Rows L2 L3
section
variable {Ts : List Addr} {X : Cx}
end
end L4
set_option Elab.async false
set_option linter.all false
set_option maxRecDepth 100000
namespace L4
open PySem PySem.Spec PyProof.Rows L2 L3
end L4
set_option Elab.async false
set_option linter.all false
set_option maxRecDepth 100000
namespace L4
open PySem PySem.Spec PyProof.Rows L2 L3
end L4
set_option Elab.async false
set_option linter.all false
set_option maxRecDepth 100000
namespace L4
open PySem PySem.Spec PyProof.Rows L2 L3
end L4
set_option Elab.async false
set_option linter.all false
set_option maxRecDepth 100000
namespace L3
open PySem PySem.Spec PyProof.Rows L2
theorem dloop_any {prog : Program} {w : World} {A : Around} {R : Result → Shared → Prop} {s : Shared} {kx vx target iter : Expr} {ifs : List Expr} {scope : Scope} {pos : Pos} {it : Value} {D : Addr} {env : Env} (I : Nat → Shared → Prop)
    (turn : ∀ n s, I n s → wpAny (model prog w) A (pyNext it) (fun r s₁ => match r with
      | none => R (.ok .next) s₁
      | some v => wpAny (model prog w) A (letOwnedTupleGo target it v) (fun _ s₁' => wpAny (model prog w) A (assign target env v) (fun _ s₂ =>
          wpAny (model prog w) A (forIn ifs true fun c r => if r = true then do let ok ← isTrue c env (eval c env); pure (ForInStep.yield ok) else pure (ForInStep.yield r)) (fun ok s₃ =>
            if ok = true then wpAny (model prog w) A (eval kx env) (fun kv s₄ => wpAny (model prog w) A (eval vx env) (fun vv s₅ =>
              wpAny (model prog w) A (dictSet D kv vv) (fun _ s₆ => ∃ m, m < n ∧ I m s₆) (notedBy (model prog w) A env fun e s' => R (.error e) s') s₅) (notedBy (model prog w) A env fun e s' => R (.error e) s') s₄) (notedBy (model prog w) A env fun e s' => R (.error e) s') s₃
            else ∃ m, m < n ∧ I m s₃) (notedBy (model prog w) A env fun e s' => R (.error e) s') s₂) (notedBy (model prog w) A env fun e s' => R (.error e) s') s₁') (notedBy (model prog w) A env fun e s' => R (.error e) s') s₁) (notedBy (model prog w) A env fun e s' => R (.error e) s') s)
    (n : Nat) (h : I n s) : codeAny (model prog w) A (.compLoop (.DictComp kx vx [⟨target, iter, ifs, 0⟩] scope pos) 0 it (.ref D) env) R s := by
  refine codeAny_loop rfl I (fun n s hI => ?_) n h
  show wpAny _ A ((compTurn (.DictComp kx vx [⟨target, iter, ifs, 0⟩] scope pos) 0 it (.ref D) env).onRaise (fun x => do noteFrame x env; theTreesLotGoes x)) _ _ s
  refine wpAny_noted ?_
  rw [compTurn_dict]
  refine wpAny_bind (wpAny_standAt (wpAny_bind (thn (turn n s hI) fun r s₁ h₁ => ?_)))
  cases r with
  | none => exact wpAny_pure h₁
  | some v =>
    refine wpAny_bind (thn h₁ fun _ s₁' h₁' => wpAny_bind (thn h₁' fun _ s₂ h₂ => wpAny_bind (thn h₂ fun ok s₃ h₃ => ?_)))
    cases ok with
    | false => exact wpAny_pure ⟨rfl, h₃⟩
    | true => exact wpAny_bind (wpAny_bind (thn h₃ fun kv s₄ h₄ => wpAny_bind (wpAny_holding (thn h₄ fun vv s₅ h₅ => wpAny_bind (wpAny_standAt (wpAny_holding (thn h₅ fun _ s₆ h₆ => wpAny_pure ⟨rfl, h₆⟩)))))))
section
variable {X : Cx} {pins : List (Addr × Obj)} {σ : L2.St} {H : Hp} {s : Shared}
theorem d_dictSet {D : Addr} {kvs : List (Key × V)} {k : Key} {v : V} {u r : Value} {E : Value → Shared → Prop} {A : Around} {Q : Unit → Shared → Prop} (I : Inv X pins σ H s) (e : H D = some (.dK kvs)) (l : kvs.length < sizeLine) (ry : RelV (kV k) u) (rv : RelV v r)
    (h : ∀ s', Inv X pins σ (upd H D (.dK (putK kvs k v))) s' → Q () s') : wpAny (model X.prog X.w) A (dictSet D u r) Q E s := by
  obtain ⟨z, hd, vs, rel, dd⟩ := dk_of I.hok e
  have hz : vs.length ≤ sizeLine := by rw [← rel.length]; exact z
  have hl : (putK kvs k v).length ≤ sizeLine := by have := length_putK kvs k v; omega
  refine wpAny_dictSet_pairs (hsz := hz) (kV_is ry) dd fun h' dd' hs => ?_
  have he : ∃ q, h'.get? D = some q := let ⟨q, _, _, hq, _⟩ := dd'; ⟨q, hq⟩
  exact h _ (d_write I (by rw [e]; exact True.intro) hs he (dk_new hl hd (rel.put k rv) dd'))
end
/-- W by the turn and a measure; Nx what a turn is to reach -/
def tDc (wi : TI) (g : TG) (tt : TT) (tk tv : TE) (vs : List Nat) : TE := fun σ H Q => wi σ H fun J H1 => ∀ D, H1 D = none → ∃ W : Nat → Nat → Hp → Prop, (∃ m, W 0 m (upd H1 D (.dK []))) ∧ ∀ i m H, W i m H →
  (J.stop i H ∧ Q (.ref D) H) ∨ (J.go i H ∧ ∃ Nx : Hp → Prop, (∀ H', Nx H' → ∃ m', m' < m ∧ W (i + 1) m' H') ∧ ∀ x H', J.yld i H x H' → g x (wipe σ vs) H' fun σ2 H2 => wipe σ2 vs = wipe σ vs ∧ tt σ2 H2 fun b H3 =>
    if b = true then tk σ2 H3 fun k H4 => tv σ2 H4 fun y H5 => ∃ kvs key, H5 D = some (.dK kvs) ∧ kvs.length < sizeLine ∧ k = kV key ∧ Nx (upd H5 D (.dK (putK kvs key y))) else Nx H3)
section
variable {X : Cx}
theorem dc_core {pins : List (Addr × Obj)} {s : Shared} {σ : L2.St} {H : Hp} {Q : VK} {kx vx tg iter : Expr} {ifs : List Expr} {scope : Scope} {own : List (Str × Nat)} {pos pos' : Pos} {wi : TI} {g : TG} {tt : TT} {tk tv : TE} {use : Option (Value → Sem Unit)} {Qf : Value → Shared → Prop}
    (hc : X.calm = true) (hN : X.N.Nodup) (I : Inv X pins σ H s) (hi : PI X tg iter wi) (ok : BlkOk X.N X.env.scope scope own)
    (hg : ∀ (s : Shared) (H : Hp) (C : Addr) (cl : List (Str × Addr)) (fp : List Addr), PG (X.blk s H scope (compEnvC scope cl C X.env) fp) tg g) (ht : ∀ (s : Shared) (H : Hp) (C : Addr) (cl : List (Str × Addr)) (fp : List Addr), PTs (X.blk s H scope (compEnvC scope cl C X.env) fp) ifs tt)
    (hk : ∀ (s : Shared) (H : Hp) (C : Addr) (cl : List (Str × Addr)) (fp : List Addr), PE (X.blk s H scope (compEnvC scope cl C X.env) fp) kx tk) (hv : ∀ (s : Shared) (H : Hp) (C : Addr) (cl : List (Str × Addr)) (fp : List Addr), PE (X.blk s H scope (compEnvC scope cl C X.env) fp) vx tv) (hs : ∀ x, foldedSetIterable iter X.env x = pure x)
    (h : tDc wi g tt tk tv (own.map (·.2)) σ H Q)
    (hRR : ∀ D C s' m H', Inv X pins σ H' s' → Q (.ref D) H' → s'.heap.Ns C m → FpOk X pins H' C → compPost (model X.prog X.w) X.A X.xe use Qf (.ref D) C (.ok .next) s') :
    wpAny (model X.prog X.w) X.A (comprehension (.DictComp kx vx [⟨tg, iter, ifs, 0⟩] scope pos) scope X.env pos' newDict false (eval iter X.env) use) Qf X.xe s := by
  have hfree : ∀ y ∈ scope.names, y.2 = .free → ∃ c, X.env.cells.lookup y.1 = some c := fun y hy e => (ok.free y hy e).elim (fun k => I.ok.has _ (.inl k)) fun k => I.ok.has _ (.inr k)
  refine wpAny_comprehension_free (use := use) rfl hs (closure_ok hfree) ok.kind (fun y hy e => by rw [ok.uniq y hy, e]) (thn (hi pins s σ H _ I h) fun xv s1 hx => thn hx fun itv s2 ⟨it, fp, tn, J, H2, e, I2, T, st2, f2, q⟩ => ?_)
  subst e
  refine wpAny_newObj_type (newEnv_comp ?_) (by first | trivial | decide | (show 0 ≤ _; exact Nat.zero_le _))
  obtain ⟨D, hD⟩ : ∃ D, D = s2.heap.objs.size := ⟨_, rfl⟩
  obtain ⟨W, ⟨m0, w0⟩, turn⟩ := q D (I2.hok.fresh (Nat.le_of_eq hD.symm))
  obtain ⟨s3, hs3⟩ : ∃ s3 : Shared, s3 = { s2 with heap := s2.heap.push { cls := .type "dict", data := .dict #[] } } := ⟨_, rfl⟩
  obtain ⟨H3, hH3⟩ : ∃ H3, H3 = upd H2 D (.dK []) := ⟨_, rfl⟩
  have h3 : s3.heap = s2.heap.push { cls := .type "dict", data := .dict #[] } := by rw [hs3]
  have I3 : Inv X pins σ H3 s3 := by
    rw [hs3, hH3, hD]
    exact I2.laid (a := s2.heap.objs.size) (o := .dK []) (t' := s2.toks) (fun _ _ q => Heap.get?_push_of_some _ q) (Nat.le_refl _) (dk_empty s2.heap I2.big)
  have f3 : ∀ b ∈ fp, FpOk X pins H3 b ∧ b < s3.heap.objs.size := fun b hb => by
    obtain ⟨o, eo, _⟩ := T.obj _ _ st2 b hb
    have hlt := Heap.lt_size eo
    refine ⟨⟨?_, (f2 b hb).2⟩, by rw [h3, Heap.size_push]; exact Nat.lt_succ_of_lt hlt⟩
    rw [hH3, upd_ne (by rw [hD]; exact Nat.ne_of_lt hlt)]
    exact (f2 b hb).1
  have st3 : tn 0 s3.heap := T.keep _ _ _ st2 fun b _ o e => by rw [h3]; exact Heap.get?_push_of_some _ e
  have I4 := block_start I3 ok hN f3
  obtain ⟨cl, hcl⟩ : ∃ cl, cl = cellsFrom (s3.heap.objs.size + 1) scope.names (cloFrom X.env.cells scope.names []) := ⟨_, rfl⟩
  rw [← hcl] at I4
  obtain ⟨s4, hs4⟩ : ∃ s4 : Shared, s4 = { s3 with heap := pushCells (s3.heap.push { cls := .type "dict", data := .dict #[] }) scope.names } := ⟨_, rfl⟩
  rw [← hs4] at I4
  obtain ⟨ce, hce⟩ : ∃ ce, ce = compEnvC scope cl s3.heap.objs.size X.env := ⟨_, rfl⟩
  have pg := hg s3 H3 s3.heap.objs.size cl fp
  have pt := ht s3 H3 s3.heap.objs.size cl fp
  have pk := hk s3 H3 s3.heap.objs.size cl fp
  have pv := hv s3 H3 s3.heap.objs.size cl fp
  rw [← hce] at I4 pg pt pk pv
  have cL : ce.locals = s3.heap.objs.size := by rw [hce]; rfl
  have st4 : tn 0 s4.heap := T.keep _ _ _ st3 fun b _ o e => by rw [hs4]; exact pushCells_keeps _ _ _ _ (Heap.get?_push_of_some _ e)
  have main : codeAny (model X.prog X.w) X.A (.compStart (.DictComp kx vx [⟨tg, iter, ifs, 0⟩] scope pos) 0 (.ref it) (.ref D) ce) (compPost (model X.prog X.w) X.A X.xe use Qf (.ref D) s3.heap.objs.size) s4 := by
    have stat : ∀ {σ' : L2.St} {H' : Hp} {s' : Shared}, Inv (X.blk s3 H3 scope ce fp) [] σ' H' s' → (∀ b ∈ fp, H' b = none) → ∀ b ∈ fp, FpOk (X.blk s3 H3 scope ce fp) [] H' b := fun {σ' H' s'} I' hn b hb =>
      ⟨hn b hb, (I'.ok.exf b hb).1, I'.ok.exfs b hb, .inl hb, fun x c e => (I'.ok.exf b hb).2 x c e, fun p hp => absurd (show p ∈ ([] : List (Addr × Obj)) ++ [] from hp) (by simp)⟩
    have loop : codeAny (model X.prog X.w) X.A (.compLoop (.DictComp kx vx [⟨tg, iter, ifs, 0⟩] scope pos) 0 (.ref it) (.ref D) ce) (compPost (model X.prog X.w) X.A X.xe use Qf (.ref D) s3.heap.objs.size) s4 := by
      refine dloop_any (fun n s' => ∃ i H', Inv (X.blk s3 H3 scope ce fp) [] (wipe σ (own.map (·.2))) H' s' ∧ tn i s'.heap ∧ (∀ b ∈ fp, H' b = none) ∧ W i n H') ?_ m0 ⟨0, H3, I4, st4, fun b hb => (f3 b hb).1.1, by rw [hH3]; exact w0⟩
      rintro n s5 ⟨i, H5, I5, st5, n5, w5⟩
      rcases turn i n H5 w5 with ⟨stop, qq⟩ | ⟨go, Nx, hNx, step⟩
      · refine thnF (T.done (X.blk s3 H3 scope ce fp) rfl rfl rfl hc i [] s5 _ H5 (fun _ _ => False) I5 (stat I5 n5) st5 stop) fun r s6 ⟨hr, I6⟩ => ?_
        subst hr
        have I7 : Inv X pins σ H5 s6 := I3.call' (ch := fp) I6.os I6.base I6.hok I6.bare fun b hb => ⟨(f3 b hb).1.2.2.2.1, (f3 b hb).1.2.1, (f3 b hb).1.2.2.2.2.1, (f3 b hb).1.2.2.2.2.2⟩
        have nC : H5 ce.locals = none := I6.free
        obtain ⟨m, hn, _⟩ := I6.loc
        have hn : s6.heap.Ns ce.locals m := hn
        rw [cL] at hn nC
        exact hRR D s3.heap.objs.size s6 m H5 I7 qq hn (I3.fpOk (Nat.le_refl _) nC)
      · refine thnF (T.item (X.blk s3 H3 scope ce fp) rfl rfl rfl hc i [] s5 _ H5 (fun _ _ => False) I5 (stat I5 n5) st5 go) fun r s6 ⟨u, hr, h6⟩ => ?_
        subst hr
        refine thnF h6 fun _ s7 ⟨x, H7, I7, r7, y7, st7, n7⟩ => ?_
        refine thnF (pg _ s7 _ H7 x u _ (I7.pinned (stat I7 n7) (T.obj _ _ st7)) r7 (step x H7 y7)) fun _ s8 ⟨σ8, H8, I8, hw8, q8⟩ => ?_
        refine thnF (pt _ s8 σ8 H8 _ I8 q8) fun b s9 ⟨H9, I9, q9⟩ => ?_
        have fin : ∀ {s' : Shared} {H' : Hp}, Inv (X.blk s3 H3 scope ce fp) ([] ++ pinsAt fp s7.heap) σ8 H' s' → Nx H' → ∃ m, m < n ∧ ∃ i H', Inv (X.blk s3 H3 scope ce fp) [] (wipe σ (own.map (·.2))) H' s' ∧ tn i s'.heap ∧ (∀ b ∈ fp, H' b = none) ∧ W i m H' := fun {s' H'} I' nx => by
          obtain ⟨m', hm, w'⟩ := hNx H' nx
          have pin' : ∀ b ∈ fp, ∀ o, s7.heap.get? b = some o → s'.heap.get? b = some o ∧ H' b = none := fun b hb o e =>
            let z := I'.pin (b, o) (List.mem_append_right _ (List.mem_append_right _ (mem_pinsAt hb e)))
            ⟨z.1, z.2.1⟩
          refine ⟨m', hm, i + 1, H', (I'.unpinned (pins := [])).weak (by rw [← hw8, wipe_length]) (fun j v e => ?_), T.keep _ _ _ st7 fun b hb o e => (pin' b hb o e).1, fun b hb => ?_, w'⟩
          · rw [← hw8] at e
            exact (wipe_some e).1
          · obtain ⟨o, e, _⟩ := T.obj _ _ st7 b hb
            exact (pin' b hb o e).2
        cases b with
        | false =>
          simp only [Bool.false_eq_true, if_false] at q9 ⊢
          exact fin I9 q9
        | true =>
          simp only [if_true] at q9 ⊢
          refine thnF (pk _ s9 σ8 H9 _ I9 q9) fun z s10 ⟨kv, H10, I10, r10, q10⟩ => ?_
          refine thnF (pv _ s10 σ8 H10 _ I10 q10) fun z2 s11 ⟨yv, H11, I11, r11, kvs, key, hD11, hz11, ek, nx⟩ => ?_
          have ry : RelV (kV key) z := by rw [← ek]; exact r10
          exact d_dictSet (X := X.blk s3 H3 scope ce fp) I11 hD11 hz11 ry r11 fun s12 I12 => fin I12 nx
    exact codeAny_compStart_dict loop (T.self X.A 0 _ _ _ st4 loop)
  subst hs4 hce hcl hs3 hD
  exact main
/-- as a value -/
theorem pe_dc {kx vx tg iter : Expr} {ifs : List Expr} {scope : Scope} {own : List (Str × Nat)} {pos : Pos} {wi : TI} {g : TG} {tt : TT} {tk tv : TE} (hc : X.calm = true) (hN : X.N.Nodup) (hi : PI X tg iter wi) (ok : BlkOk X.N X.env.scope scope own)
    (hg : ∀ (s : Shared) (H : Hp) (C : Addr) (cl : List (Str × Addr)) (fp : List Addr), PG (X.blk s H scope (compEnvC scope cl C X.env) fp) tg g) (ht : ∀ (s : Shared) (H : Hp) (C : Addr) (cl : List (Str × Addr)) (fp : List Addr), PTs (X.blk s H scope (compEnvC scope cl C X.env) fp) ifs tt)
    (hk : ∀ (s : Shared) (H : Hp) (C : Addr) (cl : List (Str × Addr)) (fp : List Addr), PE (X.blk s H scope (compEnvC scope cl C X.env) fp) kx tk) (hv : ∀ (s : Shared) (H : Hp) (C : Addr) (cl : List (Str × Addr)) (fp : List Addr), PE (X.blk s H scope (compEnvC scope cl C X.env) fp) vx tv) (hs : ∀ x, foldedSetIterable iter X.env x = pure x := by intro _; rfl) :
    PE X (.DictComp kx vx [⟨tg, iter, ifs, 0⟩] scope pos) (tDc wi g tt tk tv (own.map (·.2))) := by
  intro pins s σ H Q I h
  rw [arm_eval_DictComp]
  refine dc_core (use := none) hc hN I hi ok hg ht hk hv hs h fun D C s' m H' I' q hn f => ⟨m, hn, fun h'' sb => ?_⟩
  obtain ⟨f0, f1, f2, f3, f4, f5⟩ := f
  exact ⟨.ref D, H', I'.turned (t' := s'.toks) (fun b o hb e => (sb.2 b hb).trans e) f0 f1 f3 f4 f5, rfl, q⟩
end
end L3
set_option Elab.async false
set_option linter.all false
set_option maxRecDepth 100000
namespace L4
open PySem PySem.Spec PyProof.Rows L2 L3
section
variable {K : PySem.W.Frag} {M M' : Map} {S : Sto} {n n' : Nat} {H H' H0 : Hp} {D : Addr} {o : HO} {us us' : List (Key × V)}
theorem muts_dK (hd : H D = some (.dK us)) : ∀ x, H D = some x → muts x := fun x e => by rw [hd] at e; cases e; trivial
theorem Sim.notTD (s : Sim Ts K M S H) (hd : H D = some (.dK us)) : D ∉ Ts := fun z => by
  obtain ⟨ps, e, _⟩ := s.tab D z
  rw [hd] at e; cases e
theorem Sim.sideD (s : Sim Ts K M S H) (h : ¬ Own M S.length D) (hd : H D = some (.dK us)) : Sim Ts K M S (upd H D (.dK us')) := by
  refine ⟨fun i ob hi => ?_, s.sep, fun P hP => ?_⟩
  · have hl := (List.getElem?_eq_some_iff.mp hi).1
    refine (s.ob i ob hi).mono (Nat.le_refl _) (fun _ _ => rfl) (fun a us h => sqt_upd h (muts_dK hd)) (fun a us h => scr_upd h (muts_dK hd)) (upd_ne ?_) (upd_ne ?_)
    · rintro rfl; exact h ⟨i, hl, .inl rfl⟩
    · rintro rfl; exact h ⟨i, hl, .inr rfl⟩
  · refine (s.tab P hP).keep (fun ps e => ?_) fun a oc c e => ?_
    · rw [upd_ne]; exact e
      rintro rfl; rw [hd] at e; cases e
    · rw [upd_ne]; exact e
      rintro rfl; rw [hd] at e; cases e
theorem Stp.sideD (t : Stp Ts K M n H0 M' n' H) (h0 : H0 D = none) (hd : H D = some (.dK us)) : Stp Ts K M n H0 M' n' (upd H D (.dK us')) where
  le := t.le
  m := t.m
  q := t.q
  tup := fun a us h => sqt_upd (t.tup a us h) (muts_dK hd)
  scr := fun a us h => scr_upd (t.scr a us h) (muts_dK hd)
  fr := fun a u h h1 h2 => by
    rw [upd_ne]; exact t.fr a u h h1 h2
    rintro rfl; rw [h0] at h; cases h
  grow := fun a h => t.grow a (none_upd h)
  new := t.new
theorem KR.sideD {xs : List (Key × PV)} {ws : List (Key × V)} (r : KR K M n H xs ws) (hd : H D = some (.dK us)) : KR K M n (upd H D (.dK us')) xs ws := r.mono (Nat.le_refl _) (fun _ _ => rfl) (fun a us h => sqt_upd h (muts_dK hd)) (fun a us h => scr_upd h (muts_dK hd))
theorem KR.stp' {xs : List (Key × PV)} {ws : List (Key × V)} (r : KR K M n H xs ws) (t : Stp Ts K M n H M' n' H') : KR K M' n' H' xs ws := r.mono t.le t.m t.tup t.scr
end
def wDcGo (g : WG) (wt : WT) (wk wv : WE) (τ : Ev) (G : Sto → Prop) : List PV → List (Key × PV) → Sto → (List (Key × PV) → Sto → Prop) → Prop
  | [], acc, S, F => G S ∧ F acc S
  | x :: xs, acc, S, F => G S ∧ g x τ fun τ2 => wt τ2 S fun b S3 => if b = true then wk τ2 S3 fun k S4 => wv τ2 S4 fun y S5 => ∃ key, keyW k = some key ∧ wDcGo g wt wk wv τ G xs (putP acc key y) S5 F else wDcGo g wt wk wv τ G xs acc S3 F
theorem mo_dcGo {g : WG} {wt : WT} {wk wv : WE} {τ : Ev} {G : Sto → Prop} (mg : MoG g) (mt : MoT wt) (mk : MoE wk) (mv : MoE wv) : ∀ (xs : List PV) (acc : List (Key × PV)) (S : Sto) (F F' : List (Key × PV) → Sto → Prop), wDcGo g wt wk wv τ G xs acc S F → (∀ ys S', F ys S' → F' ys S') → wDcGo g wt wk wv τ G xs acc S F'
  | [], acc, S, F, F', h, k => ⟨h.1, k _ _ h.2⟩
  | x :: xs, acc, S, F, F', h, k => ⟨h.1, mg _ _ _ _ h.2 fun τ2 h => mt _ _ _ _ h fun b S3 h => ite_imp h (fun h => mk _ _ _ _ h fun z S4 h => mv _ _ _ _ h fun y S5 ⟨key, e, h⟩ => ⟨key, e, mo_dcGo mg mt mk mv xs _ _ _ _ h k⟩) fun h => mo_dcGo mg mt mk mv xs _ _ _ _ h k⟩
def wDc (wi : WI) (g : WG) (wt : WT) (wk wv : WE) (vs : List Nat) : WE := fun τ S Q => wi τ S fun xs G S1 => xs.length ≤ 16777216 ∧ wDcGo g wt wk wv (wipeW τ vs) G xs [] S1 fun kvs S2 => Q (.ref S2.length) (S2 ++ [.dct kvs])
theorem mo_dc {wi : WI} {g : WG} {wt : WT} {wk wv : WE} {vs : List Nat} (mi : MoI wi) (mg : MoG g) (mt : MoT wt) (mk : MoE wk) (mv : MoE wv) : MoE (wDc wi g wt wk wv vs) := fun τ S Q Q' h k => mi _ _ _ _ h fun xs G S1 h => ⟨h.1, mo_dcGo mg mt mk mv _ _ _ _ _ h.2 fun _ _ q => k _ _ q⟩
theorem put_len {κ : Type} [DecidableEq κ] (kvs : List (κ × PV)) (k : κ) (v : PV) : (putP kvs k v).length ≤ kvs.length + 1 := by
  unfold putP
  split
  · rw [List.length_map]; omega
  · rw [List.length_append]; simp
theorem dc_sound {K : PySem.W.Frag} {wi : WI} {g : TG} {wg : WG} {wt : WT} {wk wv : WE} {vs : List Nat} (mi : MoI wi) (gr : GR K g wg vs) (mg : MoG wg) (mt : MoT wt) (mk : MoE wk) (mv : MoE wv) {M : Map} {S : Sto} {τ : Ev} {σ : L2.St} {H : Hp} {Q : VK} (s : Sim Ts K M S H) (st : StR K M S.length H τ σ)
    (h : wDc wi wg wt wk wv vs τ S (upQ Ts K M S.length H Q)) : tDc (upI Ts K wi) g (upT Ts K wt) (upE Ts K wk) (upE Ts K wv) vs σ H Q := by
  refine ⟨M, S, τ, s, st, mi _ _ _ _ h fun xs G S1 ⟨hlen, f⟩ M1 H1 J t1 s1 it D hD => ?_⟩
  obtain ⟨s1', t1'⟩ := s1.beside (o := .dK []) hD
  have hf := s1.free hD
  let F : List (Key × PV) → Sto → Prop := fun kvs S2 => upQ Ts K M S.length H Q (.ref S2.length) (S2 ++ [.dct kvs])
  let St (i : Nat) (H2 : Hp) : Prop := ∃ M2 S2 acc us, Stp Ts K M1 S1.length H1 M2 S2.length H2 ∧ Sim Ts K M2 S2 H2 ∧ ¬ Own M2 S2.length D ∧ H2 D = some (.dK us) ∧ KR K M2 S2.length H2 acc us ∧ acc.length ≤ i ∧ wDcGo wg wt wk wv (wipeW τ vs) G (xs.drop i) acc S2 F
  refine ⟨fun i m H2 => m = xs.length - i ∧ i ≤ xs.length ∧ St i H2, ⟨_, rfl, Nat.zero_le _, M1, S1, [], [], t1', s1', hf.1, upd_same, .nil, Nat.le_refl _, f⟩, ?_⟩
  rintro i m H2 ⟨rfl, hil, M2, S2, acc, us, t2, s2, no, hD2, ra, hal, q2⟩
  by_cases hl : i < xs.length
  · obtain ⟨x, hx⟩ : ∃ x, xs[i]? = some x := ⟨xs[i], by simp [hl]⟩
    have ed : xs.drop i = x :: xs.drop (i + 1) := by
      rw [List.drop_eq_getElem_cons hl]
      have := List.getElem?_eq_getElem hl
      rw [hx] at this
      rw [Option.some.inj this]
    rw [ed] at q2
    obtain ⟨hG, q2⟩ := q2
    obtain ⟨h1, _⟩ := it M2 S2 H2 t2.w s2 hG
    obtain ⟨hgo, hy⟩ := h1 i x hx
    refine .inr ⟨hgo, St (i + 1), fun H3 h => ⟨_, ?_, rfl, hl, h⟩, fun u H3 yl => ?_⟩
    · omega
    · obtain ⟨t3, s3, r3⟩ := hy u H3 yl
      have hD3 := t3.fr D _ hD2 no (s2.notTD hD2)
      have st3 : StR K M2 S2.length H3 (wipeW τ vs) (wipe σ vs) := (((st.stp t1).stp t2).stp t3).wipe vs
      refine gr M2 S2.length H3 _ _ x u _ _ st3 r3 q2 fun τ4 σ4 q4 st4 e4 => ⟨by rw [e4]; exact wipe_twice σ vs, ?_⟩
      refine runT mt s3 st4 q4 fun b S5 M5 H5 f5 t5 s5 => ?_
      have no5 := t5.notOwn no hD3
      have hD5 := t5.fr D _ hD3 no (s3.notTD hD3)
      refine ite_imp f5 (fun f5 => ?_) fun f5 => ⟨M5, S5, acc, us, (t2.trans t3).trans t5, s5, no5, hD5, (ra.stp' t3).stp' t5, by omega, f5⟩
      refine runE mk s5 (st4.stp t5) f5 fun z S6 M6 H6 uz f6 t6 s6 r6 => ?_
      have no6 := t6.notOwn no5 hD5
      have hD6 := t6.fr D _ hD5 no5 (s5.notTD hD5)
      refine runE mv s6 ((st4.stp t5).stp t6) f6 fun y S7 M7 H7 uy f7 t7 s7 r7 => ?_
      obtain ⟨key, hkey, f7⟩ := f7
      have no7 := t7.notOwn no6 hD6
      have hD7 := t7.fr D _ hD6 no6 (s6.notTD hD6)
      have ra7 := (((ra.stp' t3).stp' t5).stp' t6).stp' t7
      have el := ra7.length2
      have ek := key_rp r6 hkey
      have hp := put_len acc key y
      refine ⟨us, key, hD7, by rw [sizeLine_eq, ← el]; omega, ek, M7, S7, putP acc key y, putK us key uy, ((((t2.trans t3).trans t5).trans t6).trans t7).sideD hD hD7, s7.sideD no7 hD7, no7, upd_same, ?_, by omega, f7⟩
      exact (ra7.put r7 key).sideD hD7
  · have : i = xs.length := by omega
    subst this
    rw [List.drop_length] at q2
    obtain ⟨hG, q2⟩ := q2
    obtain ⟨_, h1⟩ := it M2 S2 H2 t2.w s2 hG
    refine .inl ⟨h1 _ (Nat.le_refl _), ?_⟩
    have s' : Sim Ts K (M2.add S2.length D D) (S2 ++ [.dct acc]) H2 := s2.take no no ⟨rfl, us, hD2, ra.mono (by omega) (fun j hj => M2.add_m' hj) (fun _ _ h => h) (fun _ _ h => h)⟩
    have t' : Stp Ts K M S.length H (M2.add S2.length D D) (S2 ++ [Ob.dct acc]).length H2 := by
      rw [List.length_append, List.length_singleton]
      exact (t1.trans t2).take (t1.grow D hD) (t1.grow D hD)
    refine q2 _ _ _ t' s' ?_
    have := RP.ref (K := K) (M := M2.add S2.length D D) (n := (S2 ++ [Ob.dct acc]).length) (H := H2) (i := S2.length) (by simp)
    rw [M2.add_m] at this
    exact this
section
variable {X : Cx} {tg iter kx vx : Expr} {ifs : List Expr} {scope : Scope} {own : List (Str × Nat)} {pos : Pos} {wi : WI} {g : TG} {wg : WG} {wt : WT} {wk wv : WE}
theorem se_dc (hc : X.calm = true) (hN : X.N.Nodup) (hi : SI Ts X tg iter wi) (ok : BlkOk X.N X.env.scope scope own)
    (hg : ∀ (s : Shared) (H : Hp) (C : Addr) (cl : List (Str × Addr)) (fp : List Addr), PG (X.blk s H scope (compEnvC scope cl C X.env) fp) tg g) (gr : GR X.K g wg (own.map (·.2))) (mg : MoG wg)
    (ht : ∀ (s : Shared) (H : Hp) (C : Addr) (cl : List (Str × Addr)) (fp : List Addr), STs Ts (X.blk s H scope (compEnvC scope cl C X.env) fp) ifs wt)
    (hk : ∀ (s : Shared) (H : Hp) (C : Addr) (cl : List (Str × Addr)) (fp : List Addr), SE Ts (X.blk s H scope (compEnvC scope cl C X.env) fp) kx wk) (hv : ∀ (s : Shared) (H : Hp) (C : Addr) (cl : List (Str × Addr)) (fp : List Addr), SE Ts (X.blk s H scope (compEnvC scope cl C X.env) fp) vx wv) (hs : ∀ x, foldedSetIterable iter X.env x = pure x := by intro _; rfl) :
    SE Ts X (.DictComp kx vx [⟨tg, iter, ifs, 0⟩] scope pos) (wDc wi wg wt wk wv (own.map (·.2))) := by
  have mt := mt_of X ht
  have mk := mo_of X hk
  have mv := mo_of X hv
  refine ⟨pe_imp (pe_dc (tk := upE Ts X.K wk) (tv := upE Ts X.K wv) (tt := upT Ts X.K wt) hc hN hi.pi ok hg (fun s H C cl fp => (ht s H C cl fp).pt) (fun s H C cl fp => (hk s H C cl fp).pe) (fun s H C cl fp => (hv s H C cl fp).pe) hs) fun σ H Q h => ?_, mo_dc hi.mo mg mt mk mv⟩
  obtain ⟨M, S, τ, s, st, h⟩ := h
  exact dc_sound hi.mo gr mg mt mk mv s st h
end
end L4
set_option Elab.async false
set_option linter.all false
set_option maxRecDepth 100000
namespace L3
open PySem PySem.Spec PyProof.Rows L2
section
variable {prog : Program} {w : World} {A : Around} {E : Value → Shared → Prop} {s : Shared}
end
section
variable {X : Cx} {e c u : Expr} {te : TE} {pos p2 : Pos}
end
end L3
set_option Elab.async false
set_option linter.all false
set_option maxRecDepth 100000
namespace L4
open PySem PySem.Spec PyProof.Rows L2 L3
section
variable {Ts : List Addr} {X : Cx} {a : Expr} {wa : WE} {pos : Pos}
end
end L4
set_option Elab.async false
set_option linter.all false
set_option maxRecDepth 100000
namespace L3
open PySem PySem.Spec PyProof PyProof.Rows L2
def UpN (l : List Nat) : Prop := l.Pairwise (· < ·)
theorem UpN.at {xs : Array Nat} (u : UpN xs.toList) {i j : Nat} (h : i < j) (hj : j < xs.size) : xs.getD i 0 < xs.getD j 0 := by
  have hi : i < xs.size := by omega
  have e := List.pairwise_iff_getElem.mp u i j (by simpa using hi) (by simpa using hj) h
  simpa [Array.getD, hi, hj] using e
/-- a table in order -/
def GoodT (bt : Bool) (t : SetTable) : Prop := UpN t.place.toList ∧ t.dummies = #[] ∧ (bt = false → t.led = true)
theorem GoodT.plain {bt : Bool} {t : SetTable} (g : GoodT bt t) (b : Bool) : GoodT bt { t with plain := b } := g
end L3
set_option Elab.async false
set_option linter.all false
set_option maxRecDepth 100000
namespace L3
open PySem PySem.Spec PyProof PyProof.Rows L2
def intOf : Value → Int
  | .int k _ => k
  | _ => 0
def byText (w : World) : Bool := w.params.followText "set-order"
def SetV (prog : Program) (w : World) (h : Heap) (a : Addr) (σ : List Int) : Prop :=
  ∃ o es ep t, h.get? a = some o ∧ o.ExactSet ∧ o.data = .set es ep t ∧ ElemsOf (intKind prog w) es.toList ∧ (es.toList.map fun e => intOf e.2).Perm σ ∧ σ.length < scanBound ∧ t.fits es.size = true ∧ GoodT (byText w) t
section
variable {prog : Program} {w : World} {A : Around} {E : Value → Shared → Prop} {s : Shared} {σ : List Int} {a : Addr}
theorem SetV.at {h h' : Heap} (x : SetV prog w h a σ) (e : ∀ o, h.get? a = some o → h'.get? a = some o) : SetV prog w h' a σ := let ⟨o, es, ep, t, ho, r⟩ := x; ⟨o, es, ep, t, e _ ho, r⟩
theorem SetV.lt {h : Heap} (x : SetV prog w h a σ) : a < h.objs.size := let ⟨_, _, _, _, ho, _⟩ := x; Heap.lt_size ho
theorem SetV.typeIs (x : SetV prog w s.heap a σ) : s.TypeIs (.ref a) "set" := let ⟨o, _, _, _, ho, hx, _⟩ := x; ⟨o, ho, hx.1⟩
end
end L3
set_option Elab.async false
set_option linter.all false
set_option maxRecDepth 100000
namespace L3
open PySem PySem.Spec PyProof PyProof.Rows L2
section
variable {prog : Program} {w : World} {A : Around} {E : Value → Shared → Prop} {s : Shared}
end
end L3
set_option Elab.async false
set_option linter.all false
set_option maxRecDepth 100000
namespace L3
open PySem PySem.Spec PyProof PyProof.Rows L2
namespace SF
end SF
section
variable {M : Model} {prog : Program} {w : World} {A : Around} {E : Value → Shared → Prop} {s : Shared} {a I : Addr} {o : Obj} {es : Array (Int × Value)} {ep : Nat} {t : SetTable}
/-- the walker of a set -/
def SetIt (h : Heap) (I a : Addr) (f : Value) (k n ep : Nat) : Prop := h.get? I = some { cls := .type "set_iterator", data := .fields #[f, .int k 0, .ref a, .int n 0, .int ep 0] }
theorem SetIt.typeIs {f : Value} {k n : Nat} (x : SetIt s.heap I a f k n ep) : s.TypeIs (.ref I) "set_iterator" := ⟨_, x, rfl⟩
end
end L3
set_option Elab.async false
set_option linter.all false
set_option maxRecDepth 100000
namespace L3
open PySem PySem.Spec PyProof PyProof.Rows L2
section
variable {M : Model} {prog : Program} {w : World} {A : Around} {E : Value → Shared → Prop} {s : Shared} {a I T : Addr} {o : Obj} {es : Array (Int × Value)} {ep : Nat} {t : SetTable}
theorem SetIt.put {h : Heap} {f g : Value} {k n : Nat} (it : SetIt h I a f k n ep) : h.get? I = some { cls := .type "set_iterator", dict := none, data := .fields #[f, .int k 0, .ref a, .int n 0, .int ep 0], slots := #[] } := it
end
end L3
set_option Elab.async false
set_option linter.all false
set_option maxRecDepth 100000
namespace L3
open PySem PySem.Spec PyProof PyProof.Rows L2
section
variable {M : Model} {prog : Program} {w : World} {A : Around} {E : Value → Shared → Prop} {s : Shared} {a : Addr} {σ : List Int}
end
end L3
set_option Elab.async false
set_option linter.all false
set_option maxRecDepth 100000
namespace L3
open PySem PySem.Spec PyProof PyProof.Rows L2
section
variable {X : Cx} {e : Expr} {ta : TA} {p p2 pos pos2 : Pos}
end
end L3
set_option Elab.async false
set_option linter.all false
set_option maxRecDepth 100000
namespace L4
open PySem PySem.Spec PyProof.Rows L2 L3
section
variable {Ts : List Addr} {X : Cx} {a b : Expr} {wa wb : WE} {pos : Pos}
end
end L4
set_option Elab.async false
set_option linter.all false
set_option maxRecDepth 100000
namespace L3
open PySem PySem.Spec PyProof.Rows L2
section
variable {X : Cx}
end
end L3
set_option Elab.async false
set_option linter.all false
set_option maxRecDepth 100000
namespace L4
open PySem PySem.Spec PyProof.Rows L2 L3
section
variable {Ts : List Addr} {X : Cx}
end
end L4
set_option Elab.async false
set_option linter.all false
set_option maxRecDepth 100000
namespace L4
open PySem PySem.Spec PyProof.Rows L2 L3
mutual
def toD : PV → PyData
  | .non => .none
  | .bl b => .bool b
  | .int i => .int i
  | .str x => .str x
  | .tup xs => .tuple (toDs xs)
  | .ty _ => .none
  | .glb _ => .none
  | .ref _ => .none
  | .scr _ => .none
def toDs : List PV → List PyData
  | [] => []
  | x :: xs => toD x :: toDs xs
end
mutual
def shOk : PV → Prop
  | .non => True
  | .bl _ => True
  | .int _ => True
  | .str _ => True
  | .tup xs => shOks xs
  | .ty _ => False
  | .glb _ => False
  | .ref _ => False
  | .scr _ => False
def shOks : List PV → Prop
  | [] => True
  | x :: xs => shOk x ∧ shOks xs
end
mutual
inductive RdV (K : PySem.W.Frag) (H : Hp) : V → PyData → Prop
  | non : RdV K H .non .none
  | bl (b : Bool) : RdV K H (.bl b) (.bool b)
  | int (i : Int) : RdV K H (.int i) (.int i)
  | str (x : Str) : RdV K H (.str x) (.str x)
  | tup {a : Addr} {us : List V} {ds : List PyData} : SqT K H a us → RdVs K H us ds → RdV K H (.ref a) (.tuple ds)
inductive RdVs (K : PySem.W.Frag) (H : Hp) : List V → List PyData → Prop
  | nil : RdVs K H [] []
  | cons {u : V} {us : List V} {d : PyData} {ds : List PyData} : RdV K H u d → RdVs K H us ds → RdVs K H (u :: us) (d :: ds)
end
section
variable {X : Cx} {pins : List (Addr × Obj)} {σ : L2.St} {H : Hp} {s : Shared}
mutual
theorem RdV.reads (I : Inv X pins σ H s) : ∀ {v : V} {d : PyData} {u : Value}, RdV X.K H v d → RelV v u → (∃ as, Reads s.heap u d as) ∧ d.hasDict = false
  | _, _, _, .non, r => by cases (show _ = Value.none from r); exact ⟨⟨_, .none⟩, by simp only [PyData.hasDict]⟩
  | _, _, _, .bl b, r => by cases (show _ = Value.bool b from r); exact ⟨⟨_, .bool b⟩, by simp only [PyData.hasDict]⟩
  | _, _, _, .int i, r => by obtain ⟨t, rfl⟩ := (show ∃ t, _ = Value.int i t from r); exact ⟨⟨_, .int i t⟩, by simp only [PyData.hasDict]⟩
  | _, _, _, .str x, r => by obtain ⟨t, rfl⟩ := (show ∃ t, _ = Value.str x t from r); exact ⟨⟨_, .str x t⟩, by simp only [PyData.hasDict]⟩
  | _, _, _, .tup (a := a) h hs, r => by
    cases (show _ = Value.ref a from r)
    obtain ⟨its, rv, ⟨o, ho, hc, n, hd⟩, _⟩ := I.tuple h
    obtain ⟨⟨as, rs⟩, hh⟩ := RdVs.reads I hs rv
    exact ⟨⟨as, .tuple ho hc hd (by simpa using rs)⟩, by simp only [PyData.hasDict]; exact hh⟩
theorem RdVs.reads (I : Inv X pins σ H s) : ∀ {vs : List V} {ds : List PyData} {us : List Value}, RdVs X.K H vs ds → Vals vs us → (∃ as, ReadsAll s.heap us ds as) ∧ PyData.hasDictAll ds = false
  | _, _, _, .nil, r => by cases r; exact ⟨⟨_, .nil⟩, by simp only [PyData.hasDictAll]⟩
  | _, _, _, .cons h hs, r => by
    cases r with
    | cons r1 r2 =>
      obtain ⟨⟨as, h1⟩, k1⟩ := RdV.reads I h r1
      obtain ⟨⟨bs, h2⟩, k2⟩ := RdVs.reads I hs r2
      exact ⟨⟨_, .cons h1 h2⟩, by simp only [PyData.hasDictAll, k1, k2, Bool.or_self]⟩
end
end
section
variable {K : PySem.W.Frag} {M : Map} {n : Nat} {H : Hp}
mutual
theorem RP.rd : ∀ {v : PV} {u : V}, RP K M n H v u → shOk v → RdV K H u (toD v)
  | _, _, .non, _ => by unfold toD; exact .non
  | _, _, .bl b, _ => by unfold toD; exact .bl b
  | _, _, .int i, _ => by unfold toD; exact .int i
  | _, _, .str x, _ => by unfold toD; exact .str x
  | _, _, .ty x, h => by unfold shOk at h; exact h.elim
  | _, _, .glb a, h => by unfold shOk at h; exact h.elim
  | _, _, .tup a b, h => by unfold toD; unfold shOk at h; exact .tup a (RPs.rd b h)
  | _, _, .ref _, h => by unfold shOk at h; exact h.elim
  | _, _, .scr _, h => by unfold shOk at h; exact h.elim
theorem RPs.rd : ∀ {v : List PV} {u : List V}, RPs K M n H v u → shOks v → RdVs K H u (toDs v)
  | _, _, .nil, _ => by unfold toDs; exact .nil
  | _, _, .cons a b, h => by unfold toDs; unfold shOks at h; exact .cons (RP.rd a h.1) (RPs.rd b h.2)
end
end
end L4
set_option Elab.async false
set_option linter.all false
set_option maxRecDepth 100000
namespace L3
open PySem PySem.Spec PyProof PyProof.Rows L2
section
variable {prog : Program} {w : World} {A : Around} {E : Value → Shared → Prop} {s : Shared}
end
section
variable {X : Cx} {e : Expr} {ta : TA} {p p2 pos pos2 : Pos}
end
end L3
set_option Elab.async false
set_option linter.all false
set_option maxRecDepth 100000
namespace L4
open PySem PySem.Spec PyProof.Rows L2 L3
section
variable {X : Cx} {pins : List (Addr × Obj)} {σ : L2.St} {H : Hp} {s : Shared}
end
section
variable {Ts : List Addr} {X : Cx} {a b : Expr} {wa wb : WE} {pos : Pos}
end
end L4
set_option Elab.async false
set_option linter.all false
set_option maxRecDepth 100000
namespace L3
open PySem PySem.Spec PyProof PyProof.Rows L2
open Builtin Builtin.Str
theorem strs_vals : ∀ {ts : List Str} {us : List Value}, Vals (ts.map V.str) us → ∃ l : List (Str × Tok), us = strValues l ∧ l.map (·.1) = ts
  | [], us, h => by
    cases h
    exact ⟨[], rfl, rfl⟩
  | t :: ts, us, h => by
    cases h with
    | cons r1 r2 =>
      obtain ⟨k, rfl⟩ := r1
      obtain ⟨l, rfl, e⟩ := strs_vals r2
      exact ⟨(t, k) :: l, rfl, by rw [List.map_cons, e]⟩
theorem vals_strs : ∀ l : List (Str × Tok), Vals ((l.map (·.1)).map V.str) (strValues l)
  | [] => .nil
  | p :: l => .cons ⟨p.2, rfl⟩ (vals_strs l)
section
variable {X : Cx}
def rJoin (K : PySem.W.Frag) : V → List V → Hp → VK → Prop := fun x xs H Q => ∃ (sep : Str) (p : Addr) (ts : List Str), x = .str sep ∧ xs = [.ref p] ∧ SqL K H p (ts.map V.str) ∧ JoinOk sep ts = true ∧ Q (.str (Txt.join sep ts)) H
theorem mt_join : MtR X "str.join" (rJoin X.K) := by
  intro pins s σ H x xs v us Q I rx rxs h
  obtain ⟨sep, p, ts, rfl, rfl, hs, hok, q⟩ := h
  obtain ⟨t, rfl⟩ := rx
  obtain ⟨u, rfl, ru⟩ := vals1 rxs
  cases ru
  obtain ⟨its, r', pl, hz⟩ := I.list hs
  obtain ⟨l, rfl, rfl⟩ := strs_vals r'
  unfold JoinOk at hok
  rw [Bool.not_eq_true'] at hok
  exact call_meets F.slot_str_join (typeIs_str _ _ _) F.entry_str_join (F.args_str_join_2 _ _) (meets_str_join_list sep t p l hok) ⟨pl.isList, post_join l ⟨joinFit_length hok, fun t' k => ⟨.str (Txt.join sep (l.map (·.1))), H, I.tok k, ⟨_, rfl⟩, q⟩⟩⟩
def rSplit : V → List V → Hp → VK → Prop := fun x xs H Q => ∃ (z y : Str), x = .str z ∧ xs = [.str y] ∧ (y.length == 0) = false ∧ z.length ≤ 1000000 ∧ ∀ l, H l = none → Q (.ref l) (upd H l (.lst ((Txt.split z y).map V.str)))
theorem mt_split : MtR X "str.split" rSplit := by
  intro pins s σ H x xs v us Q I rx rxs h
  obtain ⟨z, y, rfl, rfl, hy, hz, q⟩ := h
  obtain ⟨t, rfl⟩ := rx
  obtain ⟨u, rfl, u', rfl⟩ := vals1 rxs
  have hzs : z.length ≤ sizeLine := by rw [sizeLine_eq]; omega
  have hn : (Txt.split z y).length ≤ sizeLine := by
    have := split_le z y
    rw [sizeLine_eq]; omega
  have fin : ∀ (l : List (Str × Tok)) (k : Nat), l.map (·.1) = Txt.split z y → wants (EP X pins σ Q) X.xe (.ok (.ret (.ref s.heap.objs.size))) { s with toks := k, heap := s.heap.push { cls := .type "list", data := .seq (strValues l).toArray } } := fun l k e => by
    refine ⟨.ref s.heap.objs.size, _, I.laid (t' := k) (fun b o e => Heap.get?_push_of_some _ e) (Nat.le_refl _) (show ObjOk X.prog X.w _ _ _ (.lst ((Txt.split z y).map V.str)) from ⟨by rw [List.length_map]; exact hn, strValues l, _, by rw [← e]; exact vals_strs l, Heap.get?_push_size _ rfl⟩), rfl, q _ (I.hok.fresh (Nat.le_refl _))⟩
  cases h1 : (decide (z.length < y.length) || decide (strKind z < strKind y))
  · cases hf : (occurrences z y 0 z.length (z.length + 1)).isEmpty
    · have e : Txt.split z y = partsBetween z (occurrences z y 0 z.length (z.length + 1)) y.length := (if_neg (ne_true_of_eq_false h1)).trans (if_neg (ne_true_of_eq_false hf))
      refine call_meets F.slot_str_split (typeIs_str _ _ _) F.entry_str_split (F.args_str_split_2 _ _) (meets_str_split_sep z y t u' h1 hy hf hzs (by rw [← e]; exact hn)) ?_
      rw [strsFrom_eq]
      exact fin _ _ ((numbered_texts _ _).trans e.symm)
    · exact call_meets F.slot_str_split (typeIs_str _ _ _) F.entry_str_split (F.args_str_split_2 _ _) (meets_str_split_not_found z y t u' h1 hy hf) (fin [(z, t)] s.toks ((if_neg (ne_true_of_eq_false h1)).trans (if_pos hf)).symm)
  · exact call_meets F.slot_str_split (typeIs_str _ _ _) F.entry_str_split (F.args_str_split_2 _ _) (meets_str_split_cannot_occur z y t u' h1) (fin [(z, t)] s.toks (if_pos h1).symm)
def partT (x y : Str) : List Str := match occurrences x y 0 x.length 1 with
  | i :: _ => [strSub x 0 i, y, strSub x (i + y.length) x.length]
  | [] => [x, Str.empty, Str.empty]
def rPart : V → List V → Hp → VK → Prop := fun x xs H Q => ∃ (z y : Str), x = .str z ∧ xs = [.str y] ∧ (y.length == 0) = false ∧ z.length ≤ 1000000 ∧ ∀ l, H l = none → Q (.ref l) (upd H l (.tup ((partT z y).map V.str)))
theorem mt_part : MtR X "str.partition" rPart := by
  intro pins s σ H x xs v us Q I rx rxs h
  obtain ⟨z, y, rfl, rfl, hy, hz, q⟩ := h
  obtain ⟨t, rfl⟩ := rx
  obtain ⟨u, rfl, u', rfl⟩ := vals1 rxs
  have hzs : z.length ≤ sizeLine := by rw [sizeLine_eq]; omega
  have fin : ∀ (l : List (Str × Tok)) (k : Nat), l.map (·.1) = partT z y → wants (EP X pins σ Q) X.xe (.ok (.ret (.ref s.heap.objs.size))) { s with toks := k, heap := s.heap.push { cls := .type "tuple", data := .seq (strValues l).toArray } } := fun l k e => by
    refine ⟨.ref s.heap.objs.size, _, I.laid (t' := k) (fun b o e => Heap.get?_push_of_some _ e) (Nat.le_refl _) (show ObjOk X.prog X.w _ _ _ (.tup ((partT z y).map V.str)) from ⟨?_, strValues l, by rw [← e]; exact vals_strs l, ⟨_, Heap.get?_push_size _ rfl, ⟨rfl, _, rfl⟩, rfl⟩⟩), rfl, q _ (I.hok.fresh (Nat.le_refl _))⟩
    rw [List.length_map]
    unfold partT
    rw [sizeLine_eq]
    split <;> exact Nat.le_of_ble_eq_true rfl
  refine call_meets F.slot_str_partition (typeIs_str _ _ _) F.entry_str_partition (F.args_str_partition_2 _ _) (meets_str_partition z y t u' hy hzs) ?_
  unfold partT at fin
  cases e : occurrences z y 0 z.length 1 with
  | nil =>
    rw [e] at fin
    exact fin [(z, t), (Str.empty, s.toks), (Str.empty, s.toks)] _ rfl
  | cons i r =>
    rw [e] at fin
    exact fin [(strSub z 0 i, s.toks), (y, u'), (strSub z (i + y.length) z.length, s.toks + 1)] _ rfl
theorem call_str_of : CallR X (.type "str") (fun xs H Q => (∃ i : Int, xs = [.int i] ∧ i.natAbs.log2 < 1920 ∧ Q (.str (toString i : String)) H) ∨ ∃ z : Str, xs = [.str z] ∧ Q (.str z) H) := by
  intro pins s σ H xs us Q I r h
  rcases h with ⟨i, rfl, hi, q⟩ | ⟨z, rfl, q⟩
  · obtain ⟨u, rfl, t, rfl⟩ := vals1 r
    exact P.str_of_int hi ⟨.str _, H, I.tok _, ⟨_, rfl⟩, q⟩
  · obtain ⟨u, rfl, t, rfl⟩ := vals1 r
    exact P.str_of_str ⟨.str z, H, I, ⟨_, rfl⟩, q⟩
abbrev TJX := L2.St → Hp → (Str → Hp → Prop) → Prop
def PJX (X : Cx) (es : List Expr) (n : Nat) (t : TJX) : Prop := ∀ (acc : Str) (pins : List (Addr × Obj)) (s : Shared) (σ : L2.St) (H : Hp) (Q : Str → Hp → Prop), acc.length + n ≤ sizeLine → Inv X pins σ H s → t σ H Q →
  wpAny (model X.prog X.w) X.A (joinParts acc (evalEach es X.env)) (fun v s' => ∃ x tk H', v = .str (acc ++ x) tk ∧ Inv X pins σ H' s' ∧ Q x H') X.xe s
variable {e : Expr} {es : List Expr} {te : TE} {t : TJX} {n : Nat}
theorem pjx_nil : PJX X [] 0 (fun _ H Q => Q Str.empty H) := fun acc pins s σ H Q hl I h => PyProof.Rows.joinParts_nil ⟨Str.empty, _, H, by rw [Str.append_empty], I.tok _, h⟩ hl
theorem pjx_str (he : PE X e te) (hr : PJX X es n t) : PJX X (e :: es) (n + 2000) (fun σ H Q => te σ H fun v H1 => ∃ y, v = .str y ∧ y.length ≤ 2000 ∧ t σ H1 fun x H2 => Q (y ++ x) H2) := by
  intro acc pins s σ H Q hl I h
  show wpAny _ _ (joinParts acc (eval e X.env :: evalEach es X.env)) _ _ s
  refine PyProof.Rows.joinParts_cons (thn (he pins s σ H _ I h) fun u s1 ⟨v, H1, I1, r, y, ev, hy, q⟩ => ?_)
  subst ev
  obtain ⟨tk, rfl⟩ := r
  have hs := strLen_append acc y
  refine ⟨by omega, thn (hr (acc ++ y) pins _ σ H1 _ (by omega) I1 q) fun v s2 ⟨x, tk2, H2, ev, I2, q2⟩ => ⟨y ++ x, tk2, H2, by rw [ev, Str.append_assoc], I2, q2⟩⟩
theorem pjx_int {pos : Pos} (he : PE X e te) (hr : PJX X es n t) : PJX X (.FormattedValue e (-1) none pos :: es) (n + 2000) (fun σ H Q => te σ H fun v H1 => ∃ i : Int, v = .int i ∧ i.natAbs.log2 < 1920 ∧ t σ H1 fun x H2 => Q (Str.ofString (toString i) ++ x) H2) := by
  intro acc pins s σ H Q hl I h
  show wpAny _ _ (joinParts acc (eval (.FormattedValue e (-1) none pos) X.env :: evalEach es X.env)) _ _ s
  refine PyProof.Rows.joinParts_cons (PyProof.Rows.FormattedValue_plain (thn (he pins s σ H _ I h) fun u s1 ⟨v, H1, I1, r, i, ev, hi, q⟩ => ?_))
  subst ev
  obtain ⟨tk, rfl⟩ := r
  refine wpAny_formatField_int hi ?_
  have ht := int_text_length_le (k := 1920) (by decide) hi
  have e1 : (Str.ofString (toString i)).length = (toString i).length := PySem.ofString_length _
  have hs := strLen_append acc (Str.ofString (toString i))
  refine ⟨by omega, thn (hr (acc ++ Str.ofString (toString i)) pins _ σ H1 _ (by omega) (I1.tok _) q) fun v s2 ⟨x, tk2, H2, ev, I2, q2⟩ => ⟨Str.ofString (toString i) ++ x, tk2, H2, by rw [ev, Str.append_assoc], I2, q2⟩⟩
theorem pe_fstrX {e1 e2 : Expr} {pos : Pos} (h : PJX X (e1 :: e2 :: es) n t) (hn : n ≤ sizeLine) : PE X (.JoinedStr (e1 :: e2 :: es) pos) (fun σ H Q => t σ H fun x H' => Q (.str x) H') := by
  intro pins s σ H Q I hw
  refine PyProof.Rows.JoinedStr_many (thn (h Str.empty pins s σ H _ (by show 0 + n ≤ sizeLine; omega) I hw) fun v s1 ⟨x, tk, H', ev, I', q⟩ => ?_)
  exact ⟨.str x, H', I', ⟨tk, by rw [ev, Str.empty_append]⟩, q⟩
end
end L3
set_option Elab.async false
set_option linter.all false
set_option maxRecDepth 100000
namespace L4
open PySem PySem.Spec PyProof.Rows L2 L3
theorem rps_strs {K : PySem.W.Frag} {M : Map} {n : Nat} {H : Hp} : ∀ {ts : List Str} {us : List V}, RPs K M n H (ts.map PV.str) us → us = ts.map V.str
  | [], _, r => by cases r; rfl
  | t :: ts, _, r => by
    cases r with
    | cons r1 r2 =>
      cases r1
      rw [rps_strs r2]; rfl
theorem strs_rps {K : PySem.W.Frag} {M : Map} {n : Nat} {H : Hp} : ∀ ts : List Str, RPs K M n H (ts.map PV.str) (ts.map V.str)
  | [] => .nil
  | t :: ts => .cons (.str t) (strs_rps ts)
section
variable {Ts : List Addr} {X : Cx}
def rJoinW : WM := fun x xs S Q => ∃ (sep : Str) (i : Nat) (ts : List Str), x = .str sep ∧ xs = [.ref i] ∧ S[i]? = some (.lst (ts.map PV.str)) ∧ JoinOk sep ts = true ∧ Q (.str (Txt.join sep ts)) S
theorem m_join : SM Ts X "str.join" rJoinW := by
  refine ⟨⟨_, L3.mt_join, fun M S H x xs u us Q s r rs h => ?_⟩, fun x xs S Q Q' ⟨sep, i, ts, h1, h2, h3, h4, q⟩ k => ⟨sep, i, ts, h1, h2, h3, h4, k _ _ q⟩⟩
  obtain ⟨sep, i, ts, rfl, rfl, h3, h4, q⟩ := h
  cases r
  obtain ⟨v, rfl, r1⟩ := rs.one
  cases r1
  obtain ⟨ws, p1, r2⟩ := s.lst h3
  have e := rps_strs r2
  subst e
  exact ⟨sep, _, ts, rfl, rfl, SqL.of p1, h4, q.here s (.str _)⟩
def rSplitW : WM := fun x xs S Q => ∃ (z y : Str), x = .str z ∧ xs = [.str y] ∧ (y.length == 0) = false ∧ z.length ≤ 1000000 ∧ Q (.ref S.length) (S ++ [.lst ((Txt.split z y).map PV.str)])
theorem m_split : SM Ts X "str.split" rSplitW := by
  refine ⟨⟨_, L3.mt_split, fun M S H x xs u us Q s r rs h => ?_⟩, fun x xs S Q Q' ⟨z, y, h1, h2, h3, h4, q⟩ k => ⟨z, y, h1, h2, h3, h4, k _ _ q⟩⟩
  obtain ⟨z, y, rfl, rfl, h3, h4, q⟩ := h
  cases r
  obtain ⟨v, rfl, r1⟩ := rs.one
  cases r1
  exact ⟨z, y, rfl, rfl, h3, h4, q.lst s (strs_rps _)⟩
def rPartW : WM := fun x xs S Q => ∃ (z y : Str), x = .str z ∧ xs = [.str y] ∧ (y.length == 0) = false ∧ z.length ≤ 1000000 ∧ Q (.tup ((partT z y).map PV.str)) S
theorem m_partition : SM Ts X "str.partition" rPartW := by
  refine ⟨⟨_, L3.mt_part, fun M S H x xs u us Q s r rs h => ?_⟩, fun x xs S Q Q' ⟨z, y, h1, h2, h3, h4, q⟩ k => ⟨z, y, h1, h2, h3, h4, k _ _ q⟩⟩
  obtain ⟨z, y, rfl, rfl, h3, h4, q⟩ := h
  cases r
  obtain ⟨v, rfl, r1⟩ := rs.one
  cases r1
  exact ⟨z, y, rfl, rfl, h3, h4, q.tup s (strs_rps _)⟩
def rStrW : WC := fun xs S Q => match xs with
  | [.int i] => i.natAbs.log2 < 1920 ∧ Q (.str (Str.ofString (toString i))) S
  | [.str z] => Q (.str z) S
  | _ => False
theorem c_str : SC Ts X (.type "str") rStrW := by
  refine ⟨⟨_, call_str_of, fun M S H xs us Q s r h => ?_⟩, fun xs S Q Q' h k => ?_⟩
  · unfold rStrW at h
    split at h
    · obtain ⟨u, rfl, r1⟩ := r.one
      cases r1
      exact .inl ⟨_, rfl, h.1, h.2.here s (.str _)⟩
    · obtain ⟨u, rfl, r1⟩ := r.one
      cases r1
      exact .inr ⟨_, rfl, h.here s (.str _)⟩
    · exact h.elim
  · unfold rStrW at h ⊢
    split at h
    · exact ⟨h.1, k _ _ h.2⟩
    · exact k _ _ h
    · exact h.elim
def wJX : List WE → Ev → Sto → (Str → Sto → Prop) → Prop
  | [], _, S, Q => Q Str.empty S
  | w :: ws, τ, S, Q => w τ S fun v S1 => match v with
    | .str y => y.length ≤ 2000 ∧ wJX ws τ S1 fun x S2 => Q (y ++ x) S2
    | .int i => i.natAbs.log2 < 1920 ∧ wJX ws τ S1 fun x S2 => Q (Str.ofString (toString i) ++ x) S2
    | _ => False
def wFstrX (ws : List WE) : WE := fun τ S Q => wJX ws τ S fun x S1 => Q (.str x) S1
theorem mo_jx : ∀ {ws : List WE}, (∀ w ∈ ws, MoE w) → ∀ (τ : Ev) (S : Sto) (Q Q' : Str → Sto → Prop), wJX ws τ S Q → (∀ x S', Q x S' → Q' x S') → wJX ws τ S Q'
  | [], _, _, _, _, _, h, k => k _ _ h
  | w :: ws, m, τ, S, Q, Q', h, k => m w List.mem_cons_self _ _ _ _ h fun v S1 h1 => by
    cases v with
    | str y => exact ⟨h1.1, mo_jx (fun w hw => m w (List.mem_cons_of_mem _ hw)) _ _ _ _ h1.2 fun _ _ q => k _ _ q⟩
    | int i => exact ⟨h1.1, mo_jx (fun w hw => m w (List.mem_cons_of_mem _ hw)) _ _ _ _ h1.2 fun _ _ q => k _ _ q⟩
    | _ => all_goals exact h1.elim
structure SJX (Ts : List Addr) (X : Cx) (es : List Expr) (n : Nat) (ws : List WE) : Prop where
  pj : PJX X es n (fun σ H Q => ∃ M S τ, Sim Ts X.K M S H ∧ StR X.K M S.length H τ σ ∧ wJX ws τ S fun x S1 => ∀ M1 H1, Stp Ts X.K M S.length H M1 S1.length H1 → Sim Ts X.K M1 S1 H1 → Q x H1)
  mo : ∀ w ∈ ws, MoE w
theorem pjx_imp {es : List Expr} {n : Nat} {t t' : TJX} (h : PJX X es n t) (k : ∀ σ H Q, t' σ H Q → t σ H Q) : PJX X es n t' := fun acc pins s σ H Q hl I q => h acc pins s σ H Q hl I (k _ _ _ q)
theorem sjx_nil : SJX Ts X [] 0 [] := ⟨pjx_imp pjx_nil fun σ H Q ⟨M, S, τ, s, st, h⟩ => h M H (.refl _ _ _ _) s, fun w h => by cases h⟩
variable {pos : Pos} {e : Expr} {wa : WE}
theorem sjx_str {x : Str} {j : Nat} {es : List Expr} {n : Nat} {ws : List WE} (hx : x.length ≤ 2000) (hr : SJX Ts X es n ws) : SJX Ts X (.Constant (.str x) j pos :: es) (n + 2000) (wC (.str x) :: ws) := by
  refine ⟨pjx_imp (pjx_str pe_str hr.pj) fun σ H Q ⟨M, S, τ, s, st, h⟩ => ⟨x, rfl, hx, M, S, τ, s, st, h.2⟩, fun w h => ?_⟩
  rcases List.mem_cons.mp h with rfl | h
  · exact fun τ S Q Q' h k => k _ _ h
  · exact hr.mo w h
theorem sjx_int {fpos : Pos} {es : List Expr} {n : Nat} {ws : List WE} (he : SE Ts X e wa) (hr : SJX Ts X es n ws) : SJX Ts X (.FormattedValue e (-1) none fpos :: es) (n + 2000) ((fun τ S Q => wa τ S fun v S1 => (∃ i : Int, v = .int i) ∧ Q v S1) :: ws) := by
  refine ⟨pjx_imp (pjx_int he.pe hr.pj) fun σ H Q ⟨M, S, τ, s, st, h⟩ => ?_, fun w h => ?_⟩
  · refine runE he.mo s st h fun v S1 M1 H1 u f t1 s1 r1 => ?_
    obtain ⟨⟨i, rfl⟩, hi, q⟩ := f
    cases r1
    exact ⟨i, rfl, hi, M1, S1, τ, s1, st.stp t1, mo_jx hr.mo _ _ _ _ q fun x S2 q M2 H2 t2 s2 => q M2 H2 (t1.trans t2) s2⟩
  · rcases List.mem_cons.mp h with rfl | h
    · exact fun τ S Q Q' h k => he.mo _ _ _ _ h fun v S1 ⟨h1, h2⟩ => ⟨h1, k _ _ h2⟩
    · exact hr.mo w h
theorem se_fstrX {e1 e2 : Expr} {es : List Expr} {n : Nat} {ws : List WE} (h : SJX Ts X (e1 :: e2 :: es) n ws) (hn : n ≤ sizeLine) : SE Ts X (.JoinedStr (e1 :: e2 :: es) pos) (wFstrX ws) := by
  refine ⟨pe_imp (pe_fstrX h.pj hn) fun σ H Q ⟨M, S, τ, s, st, q⟩ => ⟨M, S, τ, s, st, mo_jx h.mo _ _ _ _ q fun x S1 q M1 H1 t1 s1 => q M1 H1 _ t1 s1 (.str x)⟩, fun τ S Q Q' q k => mo_jx h.mo _ _ _ _ q fun x S1 q => k _ _ q⟩
end
end L4
set_option Elab.async false
set_option linter.all false
set_option maxRecDepth 100000
namespace L4
open PySem PySem.Spec PyProof.Rows L2 L3
theorem cut_eq {c : Nat} : ∀ {a b u v : List Nat}, c ∉ a → c ∉ b → a ++ c :: u = b ++ c :: v → a = b ∧ u = v
  | [], [], u, v, _, _, e => by
    simp only [List.nil_append, List.cons.injEq, true_and] at e
    exact ⟨rfl, e⟩
  | [], y :: b, u, v, _, hb, e => by
    simp only [List.nil_append, List.cons_append, List.cons.injEq] at e
    exact absurd (by rw [e.1]; exact List.mem_cons_self) hb
  | x :: a, [], u, v, ha, _, e => by
    simp only [List.nil_append, List.cons_append, List.cons.injEq] at e
    exact absurd (by rw [e.1]; exact List.mem_cons_self) ha
  | x :: a, y :: b, u, v, ha, hb, e => by
    simp only [List.cons_append, List.cons.injEq] at e
    obtain ⟨h1, h2⟩ := cut_eq (fun z => ha (List.mem_cons_of_mem _ z)) (fun z => hb (List.mem_cons_of_mem _ z)) e.2
    exact ⟨by rw [e.1, h1], h2⟩
theorem cps_inj {a b : Str} (h : a.cps.toList = b.cps.toList) : a = b := by
  cases a; cases b
  simp only at h
  rw [Array.toList_inj] at h
  rw [h]
theorem join_list {c : Nat} (x y : Str) (r : List Str) : (Str.join ⟨#[c]⟩ (x :: y :: r)).cps.toList = x.cps.toList ++ c :: (Str.join ⟨#[c]⟩ (y :: r)).cps.toList := by
  show (x ++ ⟨#[c]⟩ ++ Str.join ⟨#[c]⟩ (y :: r)).cps.toList = _
  show (x.cps ++ #[c] ++ (Str.join ⟨#[c]⟩ (y :: r)).cps).toList = _
  simp
theorem join_inj {c : Nat} : ∀ {as bs : List Str}, as ≠ [] → bs ≠ [] → (∀ w ∈ as, c ∉ w.cps.toList) → (∀ w ∈ bs, c ∉ w.cps.toList) → (Str.join ⟨#[c]⟩ as).cps.toList = (Str.join ⟨#[c]⟩ bs).cps.toList → as = bs
  | [], _, h, _, _, _, _ => absurd rfl h
  | _, [], _, h, _, _, _ => absurd rfl h
  | [a], [b], _, _, _, _, e => by rw [cps_inj (a := a) (b := b) e]
  | [a], b :: d :: r, _, _, ha, hb, e => by
    rw [join_list] at e
    have e : a.cps.toList = b.cps.toList ++ c :: (Str.join ⟨#[c]⟩ (d :: r)).cps.toList := e
    exact absurd (by rw [e]; simp) (ha a List.mem_cons_self)
  | a :: d :: r, [b], _, _, ha, hb, e => by
    rw [join_list] at e
    have e : a.cps.toList ++ c :: (Str.join ⟨#[c]⟩ (d :: r)).cps.toList = b.cps.toList := e
    exact absurd (by rw [← e]; simp) (hb b List.mem_cons_self)
  | a :: d :: r, b :: f :: q, _, _, ha, hb, e => by
    rw [join_list, join_list] at e
    obtain ⟨h1, h2⟩ := cut_eq (ha a List.mem_cons_self) (hb b List.mem_cons_self) e
    rw [cps_inj h1, join_inj (as := d :: r) (bs := f :: q) (by simp) (by simp) (fun w hw => ha w (List.mem_cons_of_mem _ hw)) (fun w hw => hb w (List.mem_cons_of_mem _ hw)) h2]
theorem join_is (sep : Str) (ts : List Str) : Txt.join sep ts = Str.join sep ts := StrLaws.glued_eq_join sep ts
theorem split_join_c {c : Nat} {ws : List Str} (hne : ws ≠ []) (h : ∀ w ∈ ws, c ∉ w.cps.toList) : Txt.split (Txt.join ⟨#[c]⟩ ws) ⟨#[c]⟩ = ws := by
  refine join_inj (c := c) (fun z => ?_) hne (StrLaws.split_free _ _) h ?_
  · have := split_pos (Txt.join ⟨#[c]⟩ ws) ⟨#[c]⟩
    rw [z] at this
    simp at this
  · rw [StrLaws.join_split, join_is]
def natS (k : Nat) : Str := Str.ofString (toString (k : Int))
def swS (p : Nat × Nat) : Str := natS p.1 ++ ((Str.ofString "-") ++ natS p.2)
def wordsT (w : Nat) (sw : List (Nat × Nat)) (ord : List Nat) : List Str := natS w :: (sw.map swS ++ (Str.ofString ":") :: ord.map natS)
def textT (w : Nat) (sw : List (Nat × Nat)) (ord : List Nat) : Str := Txt.join (Str.ofString " ") (wordsT w sw ord)
theorem natS_free : ∀ k, k < 17 → 32 ∉ (natS k).cps.toList ∧ (natS k).length ≤ 2 ∧ natS k ≠ Str.ofString ":" ∧ natS k ≠ Str.empty := fun k hk => by
  have : ∀ k : Fin 17, 32 ∉ (natS k.val).cps.toList ∧ (natS k.val).length ≤ 2 ∧ natS k.val ≠ Str.ofString ":" ∧ natS k.val ≠ Str.empty := by decide +kernel
  exact this ⟨k, hk⟩
theorem natS_inj : ∀ {a b : Nat}, a < 17 → b < 17 → natS a = natS b → a = b := fun {a b} ha hb e => by
  have : ∀ a b : Fin 17, natS a.val = natS b.val → a.val = b.val := by decide +kernel
  exact this ⟨a, ha⟩ ⟨b, hb⟩ e
theorem swS_free : ∀ p : Nat × Nat, p.1 < 16 → p.2 < 16 → 32 ∉ (swS p).cps.toList ∧ (swS p).length ≤ 5 ∧ swS p ≠ Str.ofString ":" := fun p h1 h2 => by
  have : ∀ a b : Fin 16, 32 ∉ (swS (a.val, b.val)).cps.toList ∧ (swS (a.val, b.val)).length ≤ 5 ∧ swS (a.val, b.val) ≠ Str.ofString ":" := by decide +kernel
  exact this ⟨p.1, h1⟩ ⟨p.2, h2⟩
set_option maxHeartbeats 3200000 in
theorem part_sw : ∀ p : Nat × Nat, p.1 < 16 → p.2 < 16 → partT (swS p) (Str.ofString "-") = [natS p.1, Str.ofString "-", natS p.2] := fun p h1 h2 => by
  have : ∀ a b : Fin 16, partT (swS (a.val, b.val)) (Str.ofString "-") = [natS a.val, Str.ofString "-", natS b.val] := by decide +kernel
  exact this ⟨p.1, h1⟩ ⟨p.2, h2⟩
theorem part_colon : partT (Str.ofString ":") (Str.ofString "-") = [Str.ofString ":", Str.empty, Str.empty] := by decide +kernel
theorem blank_is : Str.ofString " " = ⟨#[32]⟩ := by decide +kernel
section
variable {w : Nat} {sw : List (Nat × Nat)} {ord : List Nat}
theorem words_all (hw : w < 17) (hs : ∀ p ∈ sw, p.1 < 16 ∧ p.2 < 16) (ho : ∀ k ∈ ord, k < 16) : ∀ x ∈ wordsT w sw ord, 32 ∉ x.cps.toList ∧ x.length ≤ 5 := fun x hx => by
  rcases List.mem_cons.mp hx with rfl | hx
  · have := natS_free w hw
    exact ⟨this.1, by omega⟩
  rcases List.mem_append.mp hx with hx | hx
  · obtain ⟨p, hp, rfl⟩ := List.mem_map.mp hx
    have := swS_free p (hs p hp).1 (hs p hp).2
    exact ⟨this.1, this.2.1⟩
  rcases List.mem_cons.mp hx with rfl | hx
  · decide +kernel
  · obtain ⟨k, hk, rfl⟩ := List.mem_map.mp hx
    have := natS_free k (by have := ho k hk; omega)
    exact ⟨this.1, by omega⟩
theorem words_len : (wordsT w sw ord).length = sw.length + ord.length + 2 := by
  unfold wordsT
  simp only [List.length_cons, List.length_append, List.length_map]
  omega
theorem words_ok (hw : w < 17) (hs : ∀ p ∈ sw, p.1 < 16 ∧ p.2 < 16) (ho : ∀ k ∈ ord, k < 16) (l1 : sw.length ≤ 160) (l2 : ord.length ≤ 16) : JoinOk (Str.ofString " ") (wordsT w sw ord) = true ∧ (textT w sw ord).length ≤ 1000000 ∧ Txt.split (textT w sw ord) (Str.ofString " ") = wordsT w sw ord := by
  have all := words_all hw hs ho
  have len := words_len (w := w) (sw := sw) (ord := ord)
  have b1 : (Str.ofString " ").length = 1 := by decide +kernel
  refine ⟨?_, ?_, ?_⟩
  · unfold JoinOk
    rw [StrLaws.joinFits (B := 5) (fun y hy => (all y hy).2) (by rw [b1, len]; omega)]
    rfl
  · unfold textT
    rw [join_is]
    have h1 := StrLaws.join_length_le (Str.ofString " ") (wordsT w sw ord)
    have h2 := StrLaws.sumLen_le (B := 5) (wordsT w sw ord) fun y hy => (all y hy).2
    rw [b1, len] at h1
    rw [len] at h2
    omega
  · unfold textT
    rw [blank_is]
    exact split_join_c (by unfold wordsT; simp) fun x hx => (all x hx).1
end
theorem valP_consT {κ : Type} [DecidableEq κ] (c : κ) (y : PV) (r : List (κ × PV)) (j : κ) : valP ((c, y) :: r) j = if c = j then some y else valP r j := by
  unfold valP
  by_cases e : c = j
  · simp [e]
  · simp [e]
theorem valP_overT {κ : Type} [DecidableEq κ] (k : κ) (v : PV) (j : κ) : ∀ kvs : List (κ × PV), valP (kvs.map (fun kv => if kv.1 = k then (kv.1, v) else kv)) j = if j = k then (valP kvs j).map (fun _ => v) else valP kvs j
  | [] => by simp [valP]
  | (c, y) :: r => by
    have ih := valP_overT k v j r
    rw [List.map_cons, valP_consT]
    by_cases e : c = k
    · subst e
      simp only [if_true]
      rw [valP_consT, ih]
      by_cases e2 : c = j
      · subst e2; simp
      · have : ¬ j = c := fun z => e2 z.symm
        simp [e2, this]
    · simp only [if_neg e]
      rw [valP_consT, ih]
      by_cases e2 : c = j
      · subst e2; simp [e]
      · simp [e2]
theorem any_valPT {κ : Type} [DecidableEq κ] (k : κ) : ∀ kvs : List (κ × PV), (kvs.any fun kv => decide (kv.1 = k)) = (valP kvs k).isSome
  | [] => rfl
  | (c, y) :: r => by
    rw [List.any_cons, any_valPT k r, valP_consT]
    by_cases e : c = k <;> simp [e]
theorem valP_appT {κ : Type} [DecidableEq κ] (k : κ) : ∀ a b : List (κ × PV), valP (a ++ b) k = (valP a k).or (valP b k)
  | [], b => by simp [valP]
  | (c, y) :: r, b => by
    rw [List.cons_append, valP_consT, valP_consT, valP_appT k r b]
    by_cases e : c = k <;> simp [e]
theorem valP_putT {κ : Type} [DecidableEq κ] (kvs : List (κ × PV)) (k j : κ) (v : PV) : valP (putP kvs k v) j = if j = k then some v else valP kvs j := by
  unfold putP
  rw [any_valPT]
  cases h : valP kvs k with
  | none =>
    simp only [Option.isSome_none, Bool.false_eq_true, if_false]
    rw [valP_appT, valP_consT]
    by_cases e : j = k
    · subst e; rw [h]; simp
    · have e' : ¬ k = j := fun z => e z.symm
      rw [if_neg e, if_neg e']; simp [valP]
  | some y =>
    simp only [Option.isSome_some, if_true]
    rw [valP_overT]
    by_cases e : j = k
    · subst e; rw [h]; simp
    · simp [e]
theorem dc_mapT {g : WG} {wk wv : WE} {τ : Ev} {G : Sto → Prop} {S : Sto} {F : List (Key × PV) → Sto → Prop} {α : Type} {e : α → PV} (kf : α → Key) (vf : α → PV) : ∀ {l : List α} {acc : List (Key × PV)}, G S →
    (∀ a ∈ l, ∀ R : Key → PV → Sto → Prop, R (kf a) (vf a) S → g (e a) τ fun τ2 => wk τ2 S fun k S4 => wv τ2 S4 fun y S5 => ∃ key, keyW k = some key ∧ R key y S5) → F (l.foldl (fun acc a => putP acc (kf a) (vf a)) acc) S → wDcGo g wYes wk wv τ G (l.map e) acc S F
  | [], acc, hG, _, hF => ⟨hG, hF⟩
  | a :: l, acc, hG, h, hF => by
    refine ⟨hG, ?_⟩
    have := h a List.mem_cons_self (fun key y S5 => wDcGo g wYes wk wv τ G (l.map e) (putP acc key y) S5 F) (dc_mapT kf vf hG (fun b hb => h b (List.mem_cons_of_mem _ hb)) hF)
    exact this
def tabT (l : List Nat) : List (Key × PV) := l.foldl (fun acc k => putP acc (.inr (natS k)) (natP k)) []
theorem put_keepT (x : Str) : ∀ (l : List Nat) (acc : List (Key × PV)), (∀ a ∈ l, natS a ≠ x) → valP (l.foldl (fun acc k => putP acc (.inr (natS k)) (natP k)) acc) (.inr x) = valP acc (.inr x)
  | [], _, _ => rfl
  | a :: l, acc, h => by
    rw [List.foldl_cons, put_keepT x l _ fun b hb => h b (List.mem_cons_of_mem _ hb), valP_putT, if_neg (fun z => h a List.mem_cons_self (by cases z; rfl))]
theorem put_getT : ∀ (l : List Nat) (acc : List (Key × PV)), (∀ k ∈ l, k < 17) → l.Nodup → ∀ a ∈ l, valP (l.foldl (fun acc k => putP acc (.inr (natS k)) (natP k)) acc) (.inr (natS a)) = some (natP a)
  | [], _, _, _, a, h => by cases h
  | b :: l, acc, lt, nd, a, h => by
    rw [List.nodup_cons] at nd
    rw [List.foldl_cons]
    have lb := lt b List.mem_cons_self
    rcases List.mem_cons.mp h with rfl | h
    · rw [put_keepT _ l _ fun c hc z => nd.1 (by rw [← natS_inj (lt c (List.mem_cons_of_mem _ hc)) lb z]; exact hc), valP_putT, if_pos rfl]
    · exact put_getT l _ (fun k hk => lt k (List.mem_cons_of_mem _ hk)) nd.2 a h
theorem tab_get {l : List Nat} (lt : ∀ k ∈ l, k < 17) (nd : l.Nodup) {a : Nat} (h : a ∈ l) : valP (tabT l) (.inr (natS a)) = some (natP a) := put_getT l [] lt nd a h
theorem tab_not {l : List Nat} {x : Str} (h : ∀ k ∈ l, natS k ≠ x) : valP (tabT l) (.inr x) = none := put_keepT x l [] h
end L4
set_option Elab.async false
set_option linter.all false
set_option maxRecDepth 100000
namespace L4
open PySem PySem.Spec PyProof.Rows L2 L3
section
variable {Ts : List Addr} {X : Cx} {a b : Expr} {wa wb : WE} {pos : Pos}
theorem from_rps {K : PySem.W.Frag} {M : Map} {n : Nat} {H : Hp} (lo : Int) (k : Nat) : RPs K M n H (rngP lo k) (fromV lo k) := by
  have h := RPs.ints (K := K) (M := M) (n := n) (H := H) ((List.range k).map fun (i : Nat) => lo + (i : Int))
  unfold rngP fromV
  rw [List.map_map, List.map_map] at h
  exact h
end
end L4
set_option Elab.async false
set_option linter.all false
set_option maxRecDepth 100000
namespace L3
open PySem PySem.Spec PyProof PyProof.Rows L2
section
variable {X : Cx}
def rListRng2 : List V → Hp → VK → Prop := fun xs H Q => ∃ p i j, xs = [.ref p] ∧ H p = some (.rng i j) ∧ 0 ≤ i ∧ i ≤ j ∧ j ≤ 65536 ∧ ∀ l, H l = none → Q (.ref l) (upd H l (.lst (fromV i (j - i).toNat)))
theorem call_list_rng2 (hc : X.calm = true) : CallR X (.type "list") rListRng2 := by
  intro pins s σ H xs us Q I r h
  obtain ⟨p, i, j, rfl, hp, hi0, hij, hj, q⟩ := h
  obtain ⟨u, rfl, rx⟩ := vals1 r
  cases rx
  obtain ⟨t, u, v, hr⟩ := I.hok p _ hp
  have hz : Builtin.Range.rangeSize i j 1 = ((j - i).toNat : Int) := by rw [rangeSize_one]; split <;> omega
  refine call_list_range (I.ok.hd hc) hr (small_one (by omega) (by omega) (by omega) (by omega)) hz (by omega) fun h' tk acc c' kp e it => ?_
  refine ⟨.ref s.heap.objs.size, _, I.laid (t' := tk) kp (Nat.le_refl _) (show ObjOk X.prog X.w _ h' _ (.lst (fromV i (j - i).toNat)) from ⟨?_, acc.toList, c', vals_of_itemsA it, by simpa using e⟩), rfl, q _ (I.hok.fresh (Nat.le_refl _))⟩
  rw [fromV_length]; have := small65536; omega
end
end L3
set_option Elab.async false
set_option linter.all false
set_option maxRecDepth 100000
namespace L4
open PySem PySem.Spec PyProof.Rows L2 L3
section
variable {Ts : List Addr} {X : Cx} {a b : Expr} {wa wb : WE} {pos : Pos}
def wRngL2 (wa wb : WE) : WE := fun τ S Q => wa τ S fun x S1 => wb τ S1 fun y S2 => ∃ i j, x = .int i ∧ y = .int j ∧ 0 ≤ i ∧ i ≤ j ∧ j ≤ 65536 ∧ Q (.ref S2.length) (S2 ++ [.lst (rngP i (j - i).toNat)])
theorem se_rngL2 {p1 p2 pos2 : Pos} (hc : X.calm = true) (hg1 : Gl X "list") (hm1 : X.mg "list" = none) (hg2 : Gl X "range") (hm2 : X.mg "range" = none) (ha : SE Ts X a wa) (hb : SE Ts X b wb) (hs : starEach [a, b] X.env = (false, eval a X.env) :: starEach [b] X.env := by rfl) (hs1 : starEach [b] X.env = (false, eval b X.env) :: starEach [] X.env := by rfl)
    (hs2 : starEach [Expr.Call (.Name "range" p2) [a, b] [] pos2] X.env = (false, eval (Expr.Call (.Name "range" p2) [a, b] [] pos2) X.env) :: starEach [] X.env := by rfl) :
    SE Ts X (.Call (.Name "list" p1) [.Call (.Name "range" p2) [a, b] [] pos2] [] pos) (wRngL2 wa wb) := by
  have sa := sa_cons ha (sa_cons hb sa_nil hs1) hs
  refine ⟨pe_imp (pe_callTy (call_list_rng2 hc) hg1 hm1 (by decide +kernel) (pa_cons (pe_callTy call_rng2 hg2 hm2 (by decide +kernel) sa.pa (by decide) (by decide) hs (by rw [hs1]; rfl)) pa_nil hs2) (by decide) (by decide) hs2 (by rfl)) fun σ H Q h => ?_, fun τ S Q Q' q k => ha.mo _ _ _ _ q fun v S1 q => hb.mo _ _ _ _ q fun v2 S2 ⟨i, j, h1, h2, h3, h4, h5, q⟩ => ⟨i, j, h1, h2, h3, h4, h5, k _ _ q⟩⟩
  obtain ⟨M, S, τ, s, st, h⟩ := h
  refine runA sa.mo s st (show wCons wa (wCons wb wNil) τ S (fun vs S2 => ∃ i j, vs = [.int i, .int j] ∧ 0 ≤ i ∧ i ≤ j ∧ j ≤ 65536 ∧ upQ Ts X.K M S.length H Q (.ref S2.length) (S2 ++ [.lst (rngP i (j - i).toNat)])) from ha.mo _ _ _ _ h fun x S1 q => hb.mo _ _ _ _ q fun y S2 ⟨i, j, h1, h2, h3, h4, h5, q⟩ => ⟨i, j, by rw [h1, h2], h3, h4, h5, q⟩) fun vs S1 M1 H1 us f t1 s1 r1 => ?_
  obtain ⟨i, j, rfl, h3, h4, h5, q⟩ := f
  obtain ⟨u1, u2, rfl, r2, r3⟩ := r1.two
  cases r2; cases r3
  refine ⟨i, j, rfl, fun p hp => ?_⟩
  obtain ⟨s2, t2⟩ := s1.beside (o := .rng i j) hp
  exact ⟨p, i, j, rfl, upd_same, h3, h4, h5, (q.base (t1.trans t2)).lst s2 (from_rps _ _)⟩
end
end L4
set_option Elab.async false
set_option linter.all false
set_option maxRecDepth 100000
namespace L3
open PySem PySem.Spec PyProof.Rows L2
def top (i : Nat) : Stmt := PySem.Challenge.pw_turnfork_k80_nets_written.main.body.getD i (.Pass ⟨0, 0, 0, 0⟩)
section
variable {P : Program} {w : World} {K : PySem.W.Frag} {mg : Str → Option Value} {base : Heap}
def spMix : Sp := fun vs H Q _ => ∃ n : Int, vs = [.int n] ∧ 0 ≤ n ∧ n < 2 ^ 64 ∧ ∀ m : Int, 0 ≤ m → m < 2 ^ 64 → Q (.int m) H
theorem xor_lt {x y : Int} (hx : 0 ≤ x) (hy : 0 ≤ y) (hx2 : x < 2 ^ 64) (hy2 : y < 2 ^ 64) : 0 ≤ Builtin.bitXor x y ∧ Builtin.bitXor x y < 2 ^ 64 := by
  rw [Bits.bitXor_pp hx hy]
  have h : x.toNat ^^^ y.toNat < 2 ^ 64 := Nat.xor_lt_two_pow (by omega) (by omega)
  omega
abbrev s_law_mix : Stmt := top 14
theorem sc_law_mix : FnScope ["one"] ["one"] (defScope s_law_mix) := ⟨rfl, rfl, rfl, by decide +kernel, rfl, by decide +kernel, by decide +kernel⟩
theorem ok_law_mix {f : Addr} {fd : FuncData} (F : Fun K "_law_mix" "_law_mix" s_law_mix f fd) : FnOk P w K mg base CX0 1 f fd ["one"] spMix := by
  refine F.ok sc_law_mix (fun vs H Q E h => ?_) (fun cdv A outer s H vs Q E hr h => ?_)
  · obtain ⟨n, rfl, _⟩ := h
    rfl
  · obtain ⟨n, rfl, h0, h1, k⟩ := h
    refine ⟨_, (pss_cons (ps_set (i := 0) sc_law_mix.nd rfl (by first | exact Or.inl rfl | exact Or.inr rfl) (pe_op op_mod (pe_op op_mul (pe_op op_xor (pv 0) (pe_op op_fdivB (pv 0) pe_int)) pe_int) pe_int))
      (pss_cons (ps_set (i := 0) sc_law_mix.nd rfl (by first | exact Or.inl rfl | exact Or.inr rfl) (pe_op op_mod (pe_op op_mul (pe_op op_xor (pv 0) (pe_op op_fdivB (pv 0) pe_int)) pe_int) pe_int))
      (pss_one (ps_ret (pe_op op_xor (pv 0) (pe_op op_fdivB (pv 0) pe_int)))))), ?_⟩
    refine ⟨_, rfl, _, rfl, _, _, rfl, rfl, ⟨by decide, by decide⟩, _, _, rfl, rfl, _, _, rfl, rfl, .inr ⟨by decide, by decide⟩, _, _, rfl, rfl, (by show (0 : Int) < 18446744073709551616; decide), ?_⟩
    refine ⟨_, rfl, _, rfl, _, _, rfl, rfl, ⟨by decide, by decide⟩, _, _, rfl, rfl, _, _, rfl, rfl, .inr ⟨by decide, by decide⟩, _, _, rfl, rfl, (by show (0 : Int) < 18446744073709551616; decide), ?_⟩
    refine ⟨_, rfl, _, rfl, _, _, rfl, rfl, ⟨by decide, by decide⟩, _, _, rfl, rfl, ?_⟩
    generalize hz : Builtin.bitXor _ _ * 10723151780598845931 % 18446744073709551616 = z
    have z0 : 0 ≤ z := by rw [← hz]; exact Int.emod_nonneg _ (by decide)
    have z1 : z < 2 ^ 64 := by rw [← hz]; exact Int.emod_lt_of_pos _ (by decide)
    have q := xor_lt z0 (y := z / 2147483648) (by omega) z1 (by omega)
    exact k _ q.1 q.2
end
end L3
set_option Elab.async false
set_option linter.all false
set_option maxRecDepth 100000
namespace L3
open PySem PySem.Spec PyProof.Rows L2
theorem shaped_ints (ns : List Int) : SeqAt.shaped (.list (ns.map PyData.int)) = true := by
  have h1 : ∀ l : List Int, PyData.canLayAll0 (l.map PyData.int) = true := fun l => by
    induction l with
    | nil => rfl
    | cons _ _ ih => exact ih
  have h2 : ∀ l : List Int, PyData.depthAll (l.map PyData.int) = 0 := fun l => by
    induction l with
    | nil => rfl
    | cons _ _ ih => show max 0 (PyData.depthAll _) = 0; rw [ih]; rfl
  have h3 : PyData.depth (.list (ns.map PyData.int)) = 1 := by show PyData.depthAll _ + 1 = 1; rw [h2]
  show (PyData.canLayAll0 _ && decide (PyData.depth _ ≤ 64)) = true
  rw [h1, h3]; rfl
theorem cut63 (ns : List Int) : cutV (ns.map V.int) none (some 63) = (ns.take 63).map V.int := by
  unfold cutV
  rw [show HT.sIx (ns.map V.int).length (ns.map V.int).length (some 63) = min 63 (ns.map V.int).length from HT.sIx_nat _ _ 63]
  show ((ns.map V.int).drop 0).take (min 63 (ns.map V.int).length - 0) = _
  rw [List.drop_zero, Nat.sub_zero, List.map_take]
  simp [List.take_eq_take_iff]
theorem get_int {ns : List Int} {i : Nat} {y : V} (h : (ns.map V.int)[i]? = some y) : ∃ z, y = V.int z ∧ ns[i]? = some z := by
  rw [List.getElem?_map] at h
  cases e : ns[i]? with
  | none => rw [e] at h; cases h
  | some z => rw [e] at h; exact ⟨z, (Option.some.inj h).symm, rfl⟩
section
variable {P : Program} {w : World} {K : PySem.W.Frag} {mg : Str → Option Value} {base : Heap}
def spJar (K : PySem.W.Frag) : Sp := fun vs H Q _ => ∃ (a : Addr) (ns : List Int), vs = [.ref a] ∧ SqL K H a (ns.map V.int) ∧ ∀ (j c : Addr) (H' : Hp), H j = none → H c = none → Same H H' → Jar H' j c → Q (.ref j) H'
abbrev s_law_jar : Stmt := top 15
theorem sc_law_jar : FnScope ["script", "seed", "cell"] ["script"] (defScope s_law_jar) := ⟨rfl, rfl, rfl, by decide +kernel, rfl, by decide +kernel, by decide +kernel⟩
theorem ok_law_jar {f : Addr} {fd : FuncData} (F : Fun K "_law_jar" "_law_jar" s_law_jar f fd) (T : Tn mg) (D_law_mix : Def P w K mg base "_law_mix" 1 ["one"] spMix) : FnOk P w K mg base CX0 2 f fd ["script"] (spJar K) := by
  refine F.ok sc_law_jar (fun vs H Q E h => ?_) (fun cdv A outer s H vs Q E hr h => ?_)
  · obtain ⟨a, ns, rfl, _⟩ := h
    rfl
  · obtain ⟨a, ns, rfl, hS, k⟩ := h
    have hu := hu_of hr
    refine ⟨_, (pss_cons (ps_set (i := 1) sc_law_jar.nd rfl (by first | exact Or.inl rfl | exact Or.inr rfl) pe_int)
      (pss_cons (ps_for PassesOwn.never rfl (pi_list (pe_slice sl_list (pv 0) po_none (po_some pe_int))) (pg_name (i := 2) sc_law_jar.nd rfl (by first | exact Or.inl rfl | exact Or.inr rfl)) (pss_one (ps_set (i := 1) sc_law_jar.nd rfl (by first | exact Or.inl rfl | exact Or.inr rfl) (pe_def D_law_mix (hr.mono (by first | decide | omega)) (by rfl) (pa_cons (pe_op op_mod (pe_op op_add (pe_op op_mul (pv 1) pe_int) (pv 2)) pe_int) pa_nil)))))
      (pss_one (ps_ret (pe_disp (pps_cons pe_str (pe_callTy call_list_of (by rfl) T.list_ (by decide +kernel) (pa_cons (pe_slice sl_list (pv 0) po_none (po_some pe_int)) pa_nil)) (pps_cons pe_str pe_int (pps_cons pe_str (pv 1) (pps_cons pe_str pe_int pps_nil)))) (by rfl) (by rfl) (fun z => by cases z) (by decide)))))), ?_⟩
    refine ⟨_, rfl, _, rfl, a, _, rfl, hS, fun p hp => ⟨p, rfl, ⟨_, SqL.of upd_same⟩, ?_⟩⟩
    have s1 : Same H (upd H p (.lst (cutV (ns.map V.int) none (some 63)))) := same_upd hp
    refine for_list (K := K) (a := p) (xs := cutV (ns.map V.int) none (some 63)) (fun i σ H2 => ∃ (z : Int) (v : Option V), σ = [some (.ref a), some (.int z), v] ∧ Same (upd H p (.lst (cutV (ns.map V.int) none (some 63)))) H2) ⟨_, none, rfl, Same.refl _⟩ (fun i σ H2 _ ⟨_, _, _, s2⟩ => SqL.of (s2 _ _ upd_same)) ?_ ?_
    · rintro i y σ H2 hi ⟨z, v, rfl, s2⟩
      rw [cut63] at hi
      obtain ⟨n, rfl, _⟩ := get_int hi
      refine ⟨_, rfl, _, _, rfl, rfl, .inr ⟨by decide, by decide⟩, _, rfl, _, _, rfl, rfl, _, _, rfl, rfl, (by show (0 : Int) < 18446744073709551616; decide), _, rfl, Int.emod_nonneg _ (by decide), Int.emod_lt_of_pos _ (by decide), fun m m0 m1 => ?_⟩
      exact ⟨m, _, rfl, s2⟩
    · rintro σ H2 ⟨z, v, rfl, s2⟩
      have hS2 : SqL K H2 a (ns.map V.int) := s2.seq (s1.seq hS)
      intro j hj
      refine ⟨_, rfl, _, rfl, a, _, rfl, (same_upd hj).seq hS2, fun p2 hp2 => ⟨p2, _, rfl, .inl (SqL.of upd_same), fun c hc => ?_⟩⟩
      have e1 : upd H2 j (.dK []) j = some (.dK []) := upd_same
      have nj2 : j ≠ p2 := ne_of_none e1 hp2
      have e2 : upd (upd H2 j (.dK [])) p2 (.lst (cutV (ns.map V.int) none (some 63))) j = some (.dK []) := by rw [upd_ne nj2]; exact e1
      have njc : j ≠ c := ne_of_none e2 hc
      refine ⟨_, rfl, ⟨by rw [upd_ne njc]; exact e2, kv c 0 z 0, rfl, (by show 4 ≤ 15; decide), ?_⟩⟩
      have hcH : H c = none := by
        have := (same_upd hp2).free hc
        exact (s1.trans (s2.trans (same_upd hj))).free this
      have hjH : H j = none := (s1.trans s2).free hj
      refine k j c _ hjH hcH ?_ ⟨(ns.take 63), 0, z, 0, by rw [kv_made]; exact upd_same, ?_, by rw [List.length_take]; omega⟩
      · intro b o e
        have b1 : b ≠ j := ne_of_none e hjH
        have b2 : b ≠ c := ne_of_none e hcH
        have b3 : b ≠ p2 := ne_of_none ((s1.trans (s2.trans (same_upd hj))) b o e) hp2
        rw [upd_ne b1, upd_ne b2, upd_ne b3, upd_ne b1]
        exact s2 _ _ (s1 _ _ e)
      · rw [upd_ne njc.symm, upd_same, cut63]
end
end L3
set_option Elab.async false
set_option linter.all false
set_option maxRecDepth 100000
namespace L3
open PySem PySem.Spec PyProof.Rows L2
section
variable {P : Program} {w : World} {K : PySem.W.Frag} {mg : Str → Option Value} {base : Heap}
def spPick : Sp := fun vs H Q _ => ∃ (j c : Addr) (n : Int), vs = [.ref j, .int n] ∧ Jar H j c ∧ 0 < n ∧ n < 10 ^ 60 ∧ ∀ (f : Int) (H' : Hp), 0 ≤ f → f < n → Jar H' j c → Kp j c H H' → Q (.int f) H'
abbrev s_law_pick : Stmt := top 16
theorem sc_law_pick : FnScope ["jar", "many", "cell", "turned", "one", "found"] ["jar", "many"] (defScope s_law_pick) := ⟨rfl, rfl, rfl, by decide +kernel, rfl, by decide +kernel, by decide +kernel⟩
theorem ok_law_pick {f : Addr} {fd : FuncData} (F : Fun K "_law_pick" "_law_pick" s_law_pick f fd) (D_law_mix : Def P w K mg base "_law_mix" 1 ["one"] spMix) : FnOk P w K mg base CX0 2 f fd ["jar", "many"] spPick := by
  refine F.ok sc_law_pick (fun vs H Q E h => ?_) (fun cdv A outer s H vs Q E hr h => ?_)
  · obtain ⟨j, c, n, rfl, _⟩ := h
    rfl
  · obtain ⟨j, c, n, rfl, J, n0, n1, k⟩ := h
    have hu := hu_of hr
    obtain ⟨cells, r, sd, t, hj, hc, hl⟩ := J.ex
    have njc : j ≠ c := ne_of hj hc (by intro z; cases z)
    refine ⟨_, (pss_cons (ps_cut (ps_if (pt_cmpR op_lt (pe_dget hu (pv 0) pe_str (fun _ _ => rfl)) (pv 1) (nomark _)) (pss_cons (ps_dput hu (pv 0) pe_str (pe_op op_add (pe_dget hu (pv 0) pe_str (fun _ _ => rfl)) pe_int) rfl)
      (pss_one (ps_if (pt_cmpR (op_neD hr.units) (pe_dget hu (pv 0) pe_str (fun _ _ => rfl)) (pe_lst pa_nil) (nomark _)) (pss_cons (ps_set (i := 2) sc_law_pick.nd rfl (by first | exact Or.inl rfl | exact Or.inr rfl) (pe_bm PySem.F.plainAttrs_list PySem.F.slot_list_pop PySem.F.type_list_pop mt_popAt (pe_dget hu (pv 0) pe_str (fun _ _ => rfl)) (pa_cons pe_int pa_nil)))
      (pss_cons (ps_dput hu (pv 0) pe_str (pv 2) rfl)
      (pss_one (ps_if (pt_cmpR op_lt (pv 2) (pe_op op_pow pe_int pe_int) (nomark _)) (pss_cons (ps_set (i := 3) sc_law_pick.nd rfl (by first | exact Or.inl rfl | exact Or.inr rfl) (pe_op op_add (pe_op op_mul (pv 2) pe_int) (pe_op op_mul (pe_dget hu (pv 0) pe_str (fun _ _ => rfl)) pe_int)))
      (pss_cons (ps_set (i := 4) sc_law_pick.nd rfl (by first | exact Or.inl rfl | exact Or.inr rfl) (pe_def D_law_mix (hr.mono (by first | decide | omega)) (by rfl) (pa_cons (pe_op op_mod (pv 3) pe_int) pa_nil)))
      (pss_one (ps_dput hu (pv 0) pe_str (pe_op op_add (pe_op op_mul (pv 4) pe_int) (pe_def D_law_mix (hr.mono (by first | decide | omega)) (by rfl) (pa_cons (pe_op op_xor (pv 4) pe_int) pa_nil))) rfl)))) pss_nil)))) (pss_cons (ps_dput hu (pv 0) pe_str (pe_def D_law_mix (hr.mono (by first | decide | omega)) (by rfl) (pa_cons (pe_op op_mod (pe_op op_add (pe_dget hu (pv 0) pe_str (fun _ _ => rfl)) pe_int) pe_int) pa_nil)) rfl)
      (pss_one (ps_dput hu (pv 0) pe_str (pe_dget hu (pv 0) pe_str (fun _ _ => rfl)) rfl)))))) pss_nil))
      (pss_cons (ps_set (i := 5) sc_law_pick.nd rfl (by first | exact Or.inl rfl | exact Or.inr rfl) (pe_op op_mod (pe_dget hu (pv 0) pe_str (fun _ _ => rfl)) (pv 1)))
      (pss_cons (ps_dput hu (pv 0) pe_str (pe_op op_fdivB (pe_dget hu (pv 0) pe_str (fun _ _ => rfl)) (pv 1)) rfl)
      (pss_one (ps_ret (pv 5)))))), ?_⟩
    refine ⟨fun σ H1 => (∃ x y z, σ = [some (.ref j), some (.int n), x, y, z, none]) ∧ Jar H1 j c ∧ Kp j c H H1, ?_, ?_⟩
    · refine ⟨_, rfl, j, _, rfl, jget_rest hj, _, rfl, _, _, rfl, rfl, _, rfl, ?_⟩
      refine ite2 (fun _ => ?_) (fun _ => ⟨⟨_, _, _, rfl⟩, J, Kp.refl _⟩)
      -- jar['turn'] = jar['turn'] + 1
      refine ⟨_, rfl, j, _, rfl, jget_turn hj, _, _, rfl, rfl, _, rfl, j, _, rfl, jput_turn hj, ?_⟩
      -- if jar['cells'] != []
      have hj1 : upd H j (.dK (kv c r sd (t + 1))) j = some (.dK (kv c r sd (t + 1))) := upd_same
      refine ⟨_, rfl, j, _, rfl, jget_cells hj1, Nat.zero_le _, fun l hl0 => ?_⟩
      have njl : j ≠ l := ne_of_none hj1 hl0
      have hc1 : upd H j (.dK (kv c r sd (t + 1))) c = some (.lst (cells.map V.int)) := by rw [upd_ne njc.symm]; exact hc
      have ncl : c ≠ l := ne_of_none hc1 hl0
      have hlH : H l = none := by rw [upd_ne njl.symm] at hl0; exact hl0
      have hj2 : upd (upd H j (.dK (kv c r sd (t + 1)))) l (.lst []) j = some (.dK (kv c r sd (t + 1))) := by rw [upd_ne njl]; exact hj1
      have hc2 : upd (upd H j (.dK (kv c r sd (t + 1)))) l (.lst []) c = some (.lst (cells.map V.int)) := by rw [upd_ne ncl]; exact hc1
      have kp2 : Kp j c H (upd (upd H j (.dK (kv c r sd (t + 1)))) l (.lst [])) := fun b o e b1 b2 => by
        rw [upd_ne (ne_of_none e hlH), upd_ne b1]; exact e
      have hl2 : upd (upd H j (.dK (kv c r sd (t + 1)))) l (.lst []) l = some (.lst []) := upd_same
      generalize upd (upd H j (.dK (kv c r sd (t + 1)))) l (.lst []) = H2 at hj2 hc2 hl2 kp2 ⊢
      cases cells with
      | nil =>
        refine ⟨.list [], .list [], .lst (SqL.of hc2) .nil, .lst (SqL.of hl2) .nil, rfl, rfl, _, rfl, iteB (by decide) ?_⟩
        refine ⟨_, rfl, j, _, rfl, jget_seed hj2, _, _, rfl, rfl, _, _, rfl, rfl, (by show (0 : Int) < 18446744073709551616; decide), _, rfl, Int.emod_nonneg _ (by decide), Int.emod_lt_of_pos _ (by decide), fun m m0 m1 => ?_⟩
        refine ⟨_, rfl, j, _, rfl, jput_seed hj2, ?_⟩
        refine ⟨_, rfl, j, _, rfl, jget_seed upd_same, _, rfl, j, _, rfl, jput_rest upd_same, ⟨_, _, _, rfl⟩, ⟨[], _, _, _, upd_same, ?_, Nat.zero_le _⟩, fun b o e b1 b2 => ?_⟩
        · rw [upd_ne njc.symm, upd_ne njc.symm]; exact hc2
        · rw [upd_ne b1, upd_ne b1]; exact kp2 b o e b1 b2
      | cons z zs =>
        refine ⟨.list ((z :: zs).map PyData.int), .list [], .lst (SqL.of hc2) (dpAll_ints _), .lst (SqL.of hl2) .nil, shaped_ints _, rfl, _, rfl, iteA rfl ?_⟩
        -- cell = jar['cells'].pop(0)
        have hz : ((z :: zs).map V.int)[0]? = some (V.int z) := rfl
        refine ⟨_, rfl, j, _, rfl, jget_cells hj2, .inl ⟨rfl, _, SqL.of hc2⟩, c, _, 0, 0, V.int z, rfl, rfl, hc2, by decide, by decide, seqIndex_of (by decide) (by simp), hz, ?_⟩
        have hj3 : upd H2 c (.lst (((z :: zs).map V.int).eraseIdx 0)) j = some (.dK (kv c r sd (t + 1))) := by rw [upd_ne njc]; exact hj2
        have hc3 : upd H2 c (.lst (((z :: zs).map V.int).eraseIdx 0)) c = some (.lst (zs.map V.int)) := upd_same
        have kp3 : Kp j c H (upd H2 c (.lst (((z :: zs).map V.int).eraseIdx 0))) := fun b o e b1 b2 => by rw [upd_ne b2]; exact kp2 b o e b1 b2
        generalize upd H2 c (.lst (((z :: zs).map V.int).eraseIdx 0)) = H3 at hj3 hc3 kp3 ⊢
        have hlz : zs.length ≤ 63 := by simp at hl; omega
        -- jar['rest'] = cell
        refine ⟨_, rfl, _, rfl, j, _, rfl, jput_rest hj3, ?_⟩
        have hj4 : upd H3 j (.dK (kv c z sd (t + 1))) j = some (.dK (kv c z sd (t + 1))) := upd_same
        have hc4 : upd H3 j (.dK (kv c z sd (t + 1))) c = some (.lst (zs.map V.int)) := by rw [upd_ne njc.symm]; exact hc3
        have kp4 : Kp j c H (upd H3 j (.dK (kv c z sd (t + 1)))) := fun b o e b1 b2 => by rw [upd_ne b1]; exact kp3 b o e b1 b2
        generalize upd H3 j (.dK (kv c z sd (t + 1))) = H4 at hj4 hc4 kp4 ⊢
        refine ⟨_, rfl, _, _, rfl, rfl, ⟨by decide, by decide, by decide⟩, _, _, rfl, rfl, _, rfl, ?_⟩
        refine ite2 (fun _ => ?_) (fun _ => ⟨⟨_, _, _, rfl⟩, ⟨zs, _, _, _, hj4, hc4, hlz⟩, kp4⟩)
        refine ⟨_, rfl, _, _, rfl, rfl, .inr ⟨by decide, by decide⟩, _, rfl, j, _, rfl, jget_turn hj4, _, _, rfl, rfl, .inr ⟨by decide, by decide⟩, _, _, rfl, rfl, ?_⟩
        refine ⟨_, rfl, _, _, rfl, rfl, (by show (0 : Int) < 18446744073709551616; decide), _, rfl, Int.emod_nonneg _ (by decide), Int.emod_lt_of_pos _ (by decide), fun m m0 m1 => ?_⟩
        have q := xor_lt m0 (y := 91) (by decide) m1 (by decide)
        refine ⟨_, rfl, _, _, rfl, rfl, .inl ⟨by omega, m1⟩, _, rfl, _, _, rfl, rfl, _, rfl, q.1, q.2, fun m' m0' m1' => ?_⟩
        refine ⟨_, _, rfl, rfl, _, rfl, j, _, rfl, jput_rest hj4, ⟨_, _, _, rfl⟩, ⟨zs, _, _, _, upd_same, ?_, hlz⟩, fun b o e b1 b2 => ?_⟩
        · rw [upd_ne njc.symm]; exact hc4
        · rw [upd_ne b1]; exact kp4 b o e b1 b2
    · rintro σ H1 ⟨⟨x, y, z, rfl⟩, J1, kp⟩
      obtain ⟨cells1, r1, sd1, t1, hj1, hc1, hl1⟩ := J1.ex
      refine ⟨_, rfl, j, _, rfl, jget_rest hj1, _, rfl, _, _, rfl, rfl, n0, ?_⟩
      refine ⟨_, rfl, j, _, rfl, jget_rest hj1, _, rfl, _, _, rfl, rfl, ⟨n0, n1⟩, _, rfl, j, _, rfl, jput_rest hj1, ?_⟩
      refine ⟨_, rfl, k _ _ (Int.emod_nonneg _ (by omega)) (Int.emod_lt_of_pos _ n0) ⟨cells1, _, sd1, t1, upd_same, by rw [upd_ne njc.symm]; exact hc1, hl1⟩ fun b o e b1 b2 => ?_⟩
      rw [upd_ne b1]; exact kp b o e b1 b2
end
end L3
set_option Elab.async false
set_option linter.all false
set_option maxRecDepth 100000
namespace L3
open PySem PySem.Spec PyProof.Rows L2
abbrev nV : Nat → V := fun i => V.int (i : Int)
theorem perm_erase : ∀ {rest : List Nat} {k y : Nat}, rest[k]? = some y → (y :: rest.eraseIdx k).Perm rest
  | [], k, y, h => by simp at h
  | x :: r, 0, y, h => by
    have e : x = y := Option.some.inj h
    subst e
    exact List.Perm.refl _
  | x :: r, k + 1, y, h => by
    have q := perm_erase (rest := r) (k := k) (y := y) h
    exact (List.Perm.swap x y _).trans (List.Perm.cons x q)
theorem perm_pop {acc rest all : List Nat} {k y : Nat} (h : (acc ++ rest).Perm all) (hk : rest[k]? = some y) : (acc ++ [y] ++ rest.eraseIdx k).Perm all := by
  rw [List.append_assoc]
  exact (List.Perm.append_left acc (perm_erase hk)).trans h
theorem erase_map : ∀ (l : List Nat) (k : Nat), (l.map nV).eraseIdx k = (l.eraseIdx k).map nV
  | [], _ => rfl
  | _ :: _, 0 => rfl
  | x :: r, k + 1 => by
    show nV x :: (r.map nV).eraseIdx k = nV x :: (r.eraseIdx k).map nV
    rw [erase_map r k]
section
variable {P : Program} {w : World} {K : PySem.W.Frag} {mg : Str → Option Value} {base : Heap}
def spOrder : Sp := fun vs H Q _ => ∃ (j c : Addr) (n : Nat), vs = [.ref j, nV n] ∧ Jar H j c ∧ n ≤ 1000 ∧ ∀ (l : Addr) (xs : List Nat) (H' : Hp), H l = none → H' l = some (.lst (xs.map nV)) → xs.Perm (List.range n) → Jar H' j c → Kp j c H H' → Q (.ref l) H'
abbrev s_law_order : Stmt := top 17
theorem sc_law_order : FnScope ["jar", "many", "left", "thing"] ["jar", "many"] (defScope s_law_order) := ⟨rfl, rfl, rfl, by decide +kernel, rfl, by decide +kernel, by decide +kernel⟩
theorem ok_law_order {f : Addr} {fd : FuncData} (F : Fun K "_law_order" "_law_order" s_law_order f fd) (T : Tn mg) (D_law_pick : Def P w K mg base "_law_pick" 2 ["jar", "many"] spPick) : FnOk P w K mg base CX0 3 f fd ["jar", "many"] spOrder := by
  refine F.ok sc_law_order (fun vs H Q E h => ?_) (fun cdv A outer s H vs Q E hr h => ?_)
  · obtain ⟨j, c, n, rfl, _⟩ := h
    rfl
  · obtain ⟨j, c, n, rfl, J, n1, k⟩ := h
    refine ⟨_, (pss_cons (ps_set (i := 2) sc_law_order.nd rfl (by first | exact Or.inl rfl | exact Or.inr rfl) (pe_callTy (call_list_rng rfl) (by rfl) T.list_ (by decide +kernel) (pa_cons (pe_callTy call_rng1 (by rfl) T.range_ (by decide +kernel) (pa_cons (pv 1) pa_nil)) pa_nil)))
      (pss_one (ps_ret (pe_lc (own := [("thing", 3)]) (g := (gName 3)) (by rfl) sc_law_order.nd (pi_range1 (by rfl) T.range_ (pa_cons (pv 1) pa_nil)) (blkOk_by (own := [("thing", 3)]) (N := ["jar", "many", "left", "thing"]) (sc := defScope s_law_order) (by decide +kernel)) (fun _ _ _ _ _ => (pg_name (i := 3) sc_law_order.nd rfl (by first | exact Or.inl rfl | exact Or.inr rfl))) (fun _ _ _ _ _ => pts_nil) (fun _ _ _ _ _ => (pe_bm' (K := K) rfl PySem.F.plainAttrs_list PySem.F.slot_list_pop PySem.F.type_list_pop mt_popAt (pv 2) (pa_cons (pe_def D_law_pick (hr.mono (by first | decide | omega)) (by rfl) (pa_cons (pv 0) (pa_cons (pe_callB (call_len_seq' (K := K) rfl) (by rfl) T.len_ (by decide +kernel) (pa_cons (pv 2) pa_nil)) pa_nil))) pa_nil))))))), ?_⟩
    refine ⟨_, rfl, _, rfl, fun p hp => ⟨p, _, rfl, upd_same, by omega, by omega, fun L hL => ?_⟩⟩
    refine ⟨_, rfl, _, rfl, by omega, by omega, fun D hD => ?_⟩
    have J0 := J
    obtain ⟨cells, r, sd, t, hj, hc, hl⟩ := J0.ex
    have hL0 : upd (upd H p (.rng 0 (n : Int))) L (.lst (upto (n : Int).toNat)) L = some (.lst (upto (n : Int).toNat)) := upd_same
    have sm : Same H (upd (upd H p (.rng 0 (n : Int))) L (.lst (upto (n : Int).toNat))) := (same_upd hp).trans (same_upd hL)
    have nLD : L ≠ D := ne_of_none hL0 hD
    have hLH : H L = none := (same_upd hp).free hL
    have hDH : H D = none := sm.free hD
    have nLj : L ≠ j := (ne_of_none hj hLH).symm
    have nLc : L ≠ c := (ne_of_none hc hLH).symm
    have nDj : D ≠ j := (ne_of_none hj hDH).symm
    have nDc : D ≠ c := (ne_of_none hc hDH).symm
    have en : (n : Int).toNat = n := by omega
    refine lc_range (lo := 0) (n := (n : Int).toNat) (fun i H1 => ∃ (acc rest : List Nat), H1 D = some (.lst (acc.map nV)) ∧ H1 L = some (.lst (rest.map nV)) ∧ (acc ++ rest).Perm (List.range n) ∧ acc.length = i ∧ Jar H1 j c ∧ Kp j c H H1) ?_ ?_ ?_
    · refine ⟨[], List.range n, upd_same, ?_, List.Perm.refl _, rfl, ⟨cells, r, sd, t, ?_, ?_, hl⟩, fun b o e b1 b2 => ?_⟩
      · rw [upd_ne nLD, hL0, en]; rfl
      · rw [upd_ne nDj.symm]; exact sm _ _ hj
      · rw [upd_ne nDc.symm]; exact sm _ _ hc
      · rw [upd_ne (ne_of_none e hDH)]; exact sm _ _ e
    · rintro i H2 hi ⟨acc, rest, hD2, hL2, pm, hal, J2, kp2⟩
      have hlen : acc.length + rest.length = n := by
        have := pm.length_eq
        rw [List.length_append, List.length_range] at this
        exact this
      refine ⟨rfl, ?_⟩
      refine ⟨_, rfl, .inl ⟨rfl, _, SqL.of hL2⟩, _, rfl, _, rfl, L, _, rfl, .inl (SqL.of hL2), j, c, _, rfl, J2, ?_, ?_, fun f H3 f0 f1 J3 kp3 => ?_⟩
      · rw [List.length_map]; omega
      · rw [List.length_map]; omega
      · rw [List.length_map] at f1
        have hL3 : H3 L = some (.lst (rest.map nV)) := kp3 _ _ hL2 nLj nLc
        have hD3 : H3 D = some (.lst (acc.map nV)) := kp3 _ _ hD2 nDj nDc
        have hfl : f.toNat < rest.length := by omega
        have hy : rest[f.toNat]? = some rest[f.toNat] := by simp [hfl]
        obtain ⟨cells3, r3, sd3, t3, hj3, hc3, hl3⟩ := J3.ex
        refine ⟨L, _, f, f.toNat, nV rest[f.toNat], rfl, rfl, hL3, by omega, by omega, seqIndex_of f0 (by rw [List.length_map]; omega), by rw [List.getElem?_map, hy]; rfl, ?_⟩
        refine ⟨_, by rw [upd_ne nLD.symm]; exact hD3, small1000 (by rw [List.length_map]; omega), acc ++ [rest[f.toNat]], rest.eraseIdx f.toNat, ?_, ?_, perm_pop pm hy, by rw [List.length_append, hal]; rfl, ⟨cells3, r3, sd3, t3, ?_, ?_, hl3⟩, fun b o e b1 b2 => ?_⟩
        · rw [upd_same, List.map_append]; rfl
        · rw [upd_ne nLD, upd_same, erase_map]
        · rw [upd_ne nDj.symm, upd_ne nLj.symm]; exact hj3
        · rw [upd_ne nDc.symm, upd_ne nLc.symm]; exact hc3
        · rw [upd_ne (ne_of_none e hDH), upd_ne (ne_of_none e hLH)]; exact kp3 b o (kp2 b o e b1 b2) b1 b2
    · rintro H2 ⟨acc, rest, hD2, hL2, pm, hal, J2, kp2⟩
      have hlen : acc.length + rest.length = n := by
        have := pm.length_eq
        rw [List.length_append, List.length_range] at this
        exact this
      have hr0 : rest = [] := List.eq_nil_of_length_eq_zero (by omega)
      subst hr0
      rw [List.append_nil] at pm
      exact k D acc H2 hDH hD2 pm J2 kp2
end
end L3
set_option Elab.async false
set_option linter.all false
set_option maxRecDepth 100000
namespace L3
open PySem PySem.Spec PyProof.Rows L2
structure Net where
  w : Nat
  sw : List (Nat × Nat)
  ord : List Nat
structure Net.Ok (N : Net) : Prop where
  w1 : 1 ≤ N.w
  w16 : N.w ≤ 16
  sw : ∀ p ∈ N.sw, p.1 < N.w ∧ p.2 < N.w ∧ p.1 ≠ p.2
  ord : N.ord.Perm (List.range N.w)
def PairsAt (H : Hp) (as : List Addr) (sw : List (Nat × Nat)) : Prop := as.length = sw.length ∧ ∀ (i : Nat) (a : Addr) (p : Nat × Nat), as[i]? = some a → sw[i]? = some p → H a = some (.tup [nV p.1, nV p.2])
structure NetAt (H : Hp) (p : Addr) (N : Net) : Prop where
  ex : ∃ (ps po : Addr) (as : List Addr), H p = some (.tup [nV N.w, .ref ps, .ref po]) ∧ H ps = some (.tup (as.map V.ref)) ∧ PairsAt H as N.sw ∧ H po = some (.tup (N.ord.map nV))
/-- tuples stay -/
def Tk (H H' : Hp) : Prop := ∀ b xs, H b = some (.tup xs) → H' b = some (.tup xs)
theorem Tk.refl (H : Hp) : Tk H H := fun _ _ h => h
theorem Tk.trans {H H1 H2 : Hp} (a : Tk H H1) (b : Tk H1 H2) : Tk H H2 := fun x o h => b x o (a x o h)
theorem tk_same {H H' : Hp} (s : Same H H') : Tk H H' := fun b xs h => s b _ h
theorem tk_new {H : Hp} {p : Addr} {o : HO} (h : H p = none) : Tk H (upd H p o) := tk_same (same_upd h)
theorem tk_upd {H : Hp} {p : Addr} {o u : HO} (h : H p = some u) (hu : ∀ xs, u ≠ .tup xs) : Tk H (upd H p o) := fun b xs e => by
  rw [upd_ne (ne_of e h (fun z => hu xs z.symm))]; exact e
theorem Kp.tk {j c : Addr} {H H' : Hp} (k : Kp j c H H') (J : Jar H j c) : Tk H H' := fun b xs e => by
  obtain ⟨_, _, _, _, hj, hc, _⟩ := J.ex
  exact k b _ e (ne_of e hj (by intro z; cases z)) (ne_of e hc (by intro z; cases z))
theorem PairsAt.tk {H H' : Hp} {as : List Addr} {sw : List (Nat × Nat)} (h : PairsAt H as sw) (t : Tk H H') : PairsAt H' as sw := ⟨h.1, fun i a p ha hp => t _ _ (h.2 i a p ha hp)⟩
theorem NetAt.tk {H H' : Hp} {p : Addr} {N : Net} (h : NetAt H p N) (t : Tk H H') : NetAt H' p N := by
  obtain ⟨ps, po, as, h1, h2, h3, h4⟩ := h.ex
  exact ⟨ps, po, as, t _ _ h1, t _ _ h2, h3.tk t, t _ _ h4⟩
theorem PairsAt.snoc {H : Hp} {as : List Addr} {sw : List (Nat × Nat)} {a : Addr} {p : Nat × Nat} (h : PairsAt H as sw) (e : H a = some (.tup [nV p.1, nV p.2])) : PairsAt H (as ++ [a]) (sw ++ [p]) := by
  refine ⟨by simp [h.1], fun i b q hb hq => ?_⟩
  by_cases hi : i < as.length
  · rw [List.getElem?_append_left hi] at hb
    rw [List.getElem?_append_left (by rw [← h.1]; exact hi)] at hq
    exact h.2 i b q hb hq
  · rw [List.getElem?_append_right (by omega)] at hb
    rw [List.getElem?_append_right (by rw [← h.1]; omega)] at hq
    have e0 : i - as.length = 0 := by
      have := (List.getElem?_eq_some_iff.mp hb).1
      simp at this; omega
    rw [e0] at hb
    rw [← h.1, e0] at hq
    cases (Option.some.inj hb)
    cases (Option.some.inj hq)
    exact e
theorem dec_eq {a b : Int} (h : decide (V.int a = V.int b) = true) : a = b := by
  have := of_decide_eq_true h
  injection this
theorem dec_ne {a b : Int} (h : ¬ decide (V.int a = V.int b) = true) : a ≠ b := fun e => h (by rw [e]; exact decide_eq_true rfl)
/-- between two turns of the net's loop -/
structure NetSt (H0 : Hp) (j c S : Addr) (w : Nat) (Lf : Addr) (lf : List Nat) (as : List Addr) (sw : List (Nat × Nat)) (H1 : Hp) : Prop where
  hS : H1 S = some (.lst (as.map V.ref))
  hP : PairsAt H1 as sw
  val : ∀ p ∈ sw, p.1 < w ∧ p.2 < w ∧ p.1 ≠ p.2
  hL : H1 Lf = some (.lst (lf.map nV))
  nd : lf.Nodup
  lt : ∀ x ∈ lf, x < w
  J : Jar H1 j c
  kp : Kp j c H0 H1
  nSL : S ≠ Lf
  S0 : H0 S = none
  L0 : H0 Lf = none
theorem Kp.free {j c : Addr} {H H' : Hp} {S : Addr} (k : Kp j c H H') (J' : Jar H' j c) (h : H' S = none) : H S = none := by
  obtain ⟨_, _, _, _, hj, hc, _⟩ := J'.ex
  cases q : H S with
  | none => rfl
  | some o =>
    rw [k S o q (ne_of_none hj h).symm (ne_of_none hc h).symm] at h
    cases h
theorem Jar.nej {j c S : Addr} {H : Hp} (J : Jar H j c) (h : H S = none) : S ≠ j := by
  obtain ⟨_, _, _, _, hj, hc, _⟩ := J.ex
  exact (ne_of_none hj h).symm
theorem Jar.nec {j c S : Addr} {H : Hp} (J : Jar H j c) (h : H S = none) : S ≠ c := by
  obtain ⟨_, _, _, _, hj, hc, _⟩ := J.ex
  exact (ne_of_none hc h).symm
theorem Jar.keep {j c : Addr} {H H' : Hp} (J : Jar H j c) (h1 : ∀ o, H j = some o → H' j = some o) (h2 : ∀ o, H c = some o → H' c = some o) : Jar H' j c := by
  obtain ⟨a, b, d, e, hj, hc, hl⟩ := J.ex
  exact ⟨a, b, d, e, h1 _ hj, h2 _ hc, hl⟩
theorem Jar.same {j c : Addr} {H H' : Hp} (J : Jar H j c) (s : Same H H') : Jar H' j c := J.keep (fun o => s j o) (fun o => s c o)
/-- a list of ours is written: the jar stays -/
theorem Jar.upd {j c S : Addr} {H : Hp} {o : HO} (J : Jar H j c) (h1 : S ≠ j) (h2 : S ≠ c) : Jar (upd H S o) j c := J.keep (fun u e => by rw [upd_ne h1.symm]; exact e) (fun u e => by rw [upd_ne h2.symm]; exact e)
section
variable {H0 H1 H2 : Hp} {j c S : Addr} {w : Nat} {Lf : Addr} {lf : List Nat} {as : List Addr} {sw : List (Nat × Nat)}
theorem NetSt.pick (N : NetSt H0 j c S w Lf lf as sw H1) (J0 : Jar H0 j c) (k : Kp j c H1 H2) (J2 : Jar H2 j c) : NetSt H0 j c S w Lf lf as sw H2 :=
  ⟨k _ _ N.hS (J0.nej N.S0) (J0.nec N.S0), N.hP.tk (k.tk N.J), N.val, k _ _ N.hL (J0.nej N.L0) (J0.nec N.L0), N.nd, N.lt, J2, N.kp.trans k, N.nSL, N.S0, N.L0⟩
/-- another list at left -/
theorem NetSt.left {L2 : Addr} {l2 : List Nat} (N : NetSt H0 j c S w Lf lf as sw H1) (h : H1 L2 = some (.lst (l2.map nV))) (nd : l2.Nodup) (lt : ∀ x ∈ l2, x < w) (n : S ≠ L2) (h0 : H0 L2 = none) : NetSt H0 j c S w L2 l2 as sw H1 :=
  ⟨N.hS, N.hP, N.val, h, nd, lt, N.J, N.kp, n, N.S0, h0⟩
/-- the last one popped off left -/
theorem NetSt.pop (N : NetSt H0 j c S w Lf lf as sw H1) (J0 : Jar H0 j c) : NetSt H0 j c S w Lf lf.dropLast as sw (upd H1 Lf (.lst (lf.map nV).dropLast)) := by
  refine ⟨by rw [upd_ne N.nSL]; exact N.hS, N.hP.tk (tk_upd N.hL (by intro xs z; cases z)), N.val, ?_, N.nd.sublist (List.dropLast_sublist _), fun x hx => N.lt x ((List.dropLast_sublist _).subset hx), N.J.upd (J0.nej N.L0) (J0.nec N.L0), fun b o e b1 b2 => ?_, N.nSL, N.S0, N.L0⟩
  · rw [upd_same, List.map_dropLast]
  · rw [upd_ne (ne_of_none e N.L0)]; exact N.kp b o e b1 b2
/-- a new switch -/
theorem NetSt.more {a : Addr} {p : Nat × Nat} (N : NetSt H0 j c S w Lf lf as sw H1) (J0 : Jar H0 j c) (ha : H1 a = none) (hp : p.1 < w ∧ p.2 < w ∧ p.1 ≠ p.2) :
    NetSt H0 j c S w Lf lf (as ++ [a]) (sw ++ [p]) (upd (upd H1 a (.tup [nV p.1, nV p.2])) S (.lst (as.map V.ref ++ [.ref a]))) := by
  have nSa : S ≠ a := ne_of_none N.hS ha
  have nLa : Lf ≠ a := ne_of_none N.hL ha
  have hS1 : upd H1 a (.tup [nV p.1, nV p.2]) S = some (.lst (as.map V.ref)) := by rw [upd_ne nSa]; exact N.hS
  have t : Tk (upd H1 a (.tup [nV p.1, nV p.2])) (upd (upd H1 a (.tup [nV p.1, nV p.2])) S (.lst (as.map V.ref ++ [.ref a]))) := tk_upd hS1 (by intro xs z; cases z)
  refine ⟨by rw [upd_same, List.map_append]; rfl, (((N.hP.tk (tk_new ha)).snoc (p := p) upd_same).tk t), fun q hq => ?_, by rw [upd_ne N.nSL.symm, upd_ne nLa]; exact N.hL, N.nd, N.lt, ?_, fun b o e b1 b2 => ?_, N.nSL, N.S0, N.L0⟩
  · rcases List.mem_append.mp hq with h | h
    · exact N.val q h
    · rw [List.mem_singleton.mp h]; exact hp
  · exact (N.J.same (same_upd ha)).upd (J0.nej N.S0) (J0.nec N.S0)
  · have e1 := N.kp b o e b1 b2
    rw [upd_ne (ne_of_none e N.S0), upd_ne (ne_of_none e1 ha)]; exact e1
end
theorem two_last {l : List Nat} (h : 2 ≤ l.length) : ∃ l0 y x, l = l0 ++ [y] ++ [x] := by
  obtain ⟨l1, x, rfl⟩ : ∃ l1 x, l = l1 ++ [x] := ⟨l.dropLast, l.getLast (by intro z; subst z; simp at h), (List.dropLast_concat_getLast _).symm⟩
  obtain ⟨l0, y, rfl⟩ : ∃ l0 y, l1 = l0 ++ [y] := ⟨l1.dropLast, l1.getLast (by intro z; subst z; simp at h), (List.dropLast_concat_getLast _).symm⟩
  exact ⟨l0, y, x, rfl⟩
theorem perm_lt {xs : List Nat} {n : Nat} (h : xs.Perm (List.range n)) : xs.Nodup ∧ ∀ x ∈ xs, x < n := ⟨h.nodup_iff.mpr List.nodup_range, fun x hx => List.mem_range.mp (h.mem_iff.mp hx)⟩
section
variable {P : Program} {w : World} {K : PySem.W.Frag} {mg : Str → Option Value} {base : Heap}
def spNet : Sp := fun vs H Q _ => ∃ (j c : Addr) (wd mo : Nat), vs = [.ref j, nV wd, nV mo] ∧ Jar H j c ∧ 1 ≤ wd ∧ wd ≤ 16 ∧ mo ≤ 160 ∧
  ∀ (p : Addr) (N : Net) (H' : Hp), N.Ok → N.w ≤ wd → N.sw.length ≤ mo → NetAt H' p N → Jar H' j c → Kp j c H H' → Q (.ref p) H'
abbrev s_law_net : Stmt := top 18
theorem sc_law_net : FnScope ["jar", "widest", "most", "width", "form", "many", "switches", "left", "k", "a", "step", "b", "order"] ["jar", "widest", "most"] (defScope s_law_net) := ⟨rfl, rfl, rfl, by decide +kernel, rfl, by decide +kernel, by decide +kernel⟩
set_option maxHeartbeats 1000000 in
theorem ok_law_net {f : Addr} {fd : FuncData} (F : Fun K "_law_net" "_law_net" s_law_net f fd) (T : Tn mg) (D_law_pick : Def P w K mg base "_law_pick" 2 ["jar", "many"] spPick) (D_law_order : Def P w K mg base "_law_order" 3 ["jar", "many"] spOrder) : FnOk P w K mg base CX0 4 f fd ["jar", "widest", "most"] spNet := by
  refine F.ok sc_law_net (fun vs H Q E h => ?_) (fun cdv A outer s H vs Q E hr h => ?_)
  · obtain ⟨j, c, wd, mo, rfl, _⟩ := h
    rfl
  · obtain ⟨j, c, wd, mo, rfl, J, wd1, wd16, mo1, k⟩ := h
    refine ⟨_, (pss_cons (ps_set (i := 3) sc_law_net.nd rfl (by first | exact Or.inl rfl | exact Or.inr rfl) (pe_op op_add pe_int (pe_def D_law_pick (hr.mono (by first | decide | omega)) (by rfl) (pa_cons (pv 0) (pa_cons (pv 1) pa_nil)))))
      (pss_cons (ps_set (i := 4) sc_law_net.nd rfl (by first | exact Or.inl rfl | exact Or.inr rfl) (pe_def D_law_pick (hr.mono (by first | decide | omega)) (by rfl) (pa_cons (pv 0) (pa_cons pe_int pa_nil))))
      (pss_cons (ps_set (i := 5) sc_law_net.nd rfl (by first | exact Or.inl rfl | exact Or.inr rfl) (pe_op op_mul (pe_def D_law_pick (hr.mono (by first | decide | omega)) (by rfl) (pa_cons (pv 0) (pa_cons (pe_op op_add (pv 2) pe_int) pa_nil))) (pe_callTy call_int1 (by rfl) T.int_ (by decide +kernel) (pa_cons (pe_cmpR op_gt (pv 3) pe_int (nomark _)) pa_nil))))
      (pss_cons (ps_set (i := 6) sc_law_net.nd rfl (by first | exact Or.inl rfl | exact Or.inr rfl) (pe_lst pa_nil))
      (pss_cons (ps_set (i := 7) sc_law_net.nd rfl (by first | exact Or.inl rfl | exact Or.inr rfl) (pe_lst pa_nil))
      (pss_cons (ps_for PassesOwn.never rfl (pi_range1 (by rfl) T.range_ (pa_cons (pv 5) pa_nil)) (pg_name (i := 8) sc_law_net.nd rfl (by first | exact Or.inl rfl | exact Or.inr rfl)) (pss_cons (ps_set (i := 9) sc_law_net.nd rfl (by first | exact Or.inl rfl | exact Or.inr rfl) (pe_def D_law_pick (hr.mono (by first | decide | omega)) (by rfl) (pa_cons (pv 0) (pa_cons (pv 3) pa_nil))))
      (pss_cons (ps_set (i := 10) sc_law_net.nd rfl (by first | exact Or.inl rfl | exact Or.inr rfl) (pe_op op_add pe_int (pe_def D_law_pick (hr.mono (by first | decide | omega)) (by rfl) (pa_cons (pv 0) (pa_cons (pe_op op_sub (pv 3) pe_int) pa_nil)))))
      (pss_cons (ps_cut (ps_if (pt_cmpR op_eq (pv 4) pe_int (nomark _)) (pss_one (ps_set (i := 10) sc_law_net.nd rfl (by first | exact Or.inl rfl | exact Or.inr rfl) pe_int)) pss_nil))
      (pss_cons (ps_cut (ps_if (pt_cmpR op_eq (pv 4) pe_int (nomark _)) (pss_one (ps_set (i := 9) sc_law_net.nd rfl (by first | exact Or.inl rfl | exact Or.inr rfl) pe_int)) pss_nil))
      (pss_cons (ps_cut (ps_if (PW.pt (pw_and (pt_cmpR op_eq (pv 4) pe_int (nomark _)) (pw_and1 (pt_cmpR op_lt (pe_callB call_len_seq (by rfl) T.len_ (by decide +kernel) (pa_cons (pv 7) pa_nil)) pe_int (nomark _))))) (pss_one (ps_set (i := 7) sc_law_net.nd rfl (by first | exact Or.inl rfl | exact Or.inr rfl) (pe_def D_law_order (hr.mono (by first | decide | omega)) (by rfl) (pa_cons (pv 0) (pa_cons (pv 3) pa_nil))))) pss_nil))
      (pss_cons (ps_cut (ps_if (PW.pt (pw_and (pt_cmpR op_eq (pv 4) pe_int (nomark _)) (pw_and1 (pt_cmpR op_gt (pv 8) pe_int (nomark _))))) (pss_one (ps_par (i := 9) (j := 10) (by rfl) sc_law_net.nd rfl rfl (by decide) rfl rfl (pa_cons (pe_ix ix_tup (pe_ix ix_list (pv 6) pe_int (fun _ _ => rfl)) pe_int (fun _ _ => rfl)) (pa_cons (pe_op op_sub (pe_ix ix_tup (pe_ix ix_list (pv 6) pe_int (fun _ _ => rfl)) pe_int (fun _ _ => rfl)) (pe_ix ix_tup (pe_ix ix_list (pv 6) pe_int (fun _ _ => rfl)) pe_int (fun _ _ => rfl))) pa_nil)) (by rfl))) pss_nil))
      (pss_cons (ps_set (i := 11) sc_law_net.nd rfl (by first | exact Or.inl rfl | exact Or.inr rfl) (pe_op op_mod (pe_op op_add (pv 9) (pv 10)) (pv 3)))
      (pss_cons (ps_cut (ps_if (pt_cmpR op_eq (pv 4) pe_int (nomark _)) (pss_cons (ps_set (i := 9) sc_law_net.nd rfl (by first | exact Or.inl rfl | exact Or.inr rfl) (pe_bm0 PySem.F.plainAttrs_list PySem.F.slot_list_pop PySem.F.type_list_pop mt_pop (pv 7)))
      (pss_one (ps_set (i := 11) sc_law_net.nd rfl (by first | exact Or.inl rfl | exact Or.inr rfl) (pe_bm0 PySem.F.plainAttrs_list PySem.F.slot_list_pop PySem.F.type_list_pop mt_pop (pv 7))))) pss_nil))
      (pss_one (ps_expr (pe_bm PySem.F.plainAttrs_list PySem.F.slot_list_append PySem.F.type_list_append mt_append (pv 6) (pa_cons (pe_tup (pa_cons (pv 9) (pa_cons (pv 11) pa_nil))) pa_nil)))))))))))))
      (pss_cons (ps_set (i := 12) sc_law_net.nd rfl (by first | exact Or.inl rfl | exact Or.inr rfl) (pe_callTy (call_tup_rng rfl) (by rfl) T.tuple_ (by decide +kernel) (pa_cons (pe_callTy call_rng1 (by rfl) T.range_ (by decide +kernel) (pa_cons (pv 3) pa_nil)) pa_nil)))
      (pss_cons (ps_cut (ps_if (pt_cmpR op_eq (pe_def D_law_pick (hr.mono (by first | decide | omega)) (by rfl) (pa_cons (pv 0) (pa_cons pe_int pa_nil))) pe_int (nomark _)) (pss_one (ps_set (i := 12) sc_law_net.nd rfl (by first | exact Or.inl rfl | exact Or.inr rfl) (pe_callTy call_tuple_of (by rfl) T.tuple_ (by decide +kernel) (pa_cons (pe_def D_law_order (hr.mono (by first | decide | omega)) (by rfl) (pa_cons (pv 0) (pa_cons (pv 3) pa_nil))) pa_nil)))) pss_nil))
      (pss_one (ps_ret (pe_tup (pa_cons (pv 3) (pa_cons (pe_callTy call_tuple_of (by rfl) T.tuple_ (by decide +kernel) (pa_cons (pv 6) pa_nil)) (pa_cons (pv 12) pa_nil)))))))))))))), ?_⟩
    -- width, form, many
    refine ⟨_, rfl, _, rfl, j, c, _, rfl, J, by omega, by omega, fun f1 H1 f1a f1b J1 kp1 => ⟨_, _, rfl, rfl, ?_⟩⟩
    obtain ⟨wn, rfl⟩ : ∃ wn : Nat, f1 = (wn : Int) := ⟨f1.toNat, by omega⟩
    refine ⟨_, rfl, j, c, _, rfl, J1, by decide, by decide, fun f2 H2 f2a f2b J2 kp2 => ?_⟩
    refine ⟨_, rfl, _, rfl, _, _, rfl, rfl, j, c, _, rfl, J2, by omega, by omega, fun f3 H3 f3a f3b J3 kp3 => ?_⟩
    refine ⟨_, rfl, _, _, rfl, rfl, .inr ⟨_, rfl, _, _, rfl, rfl, .inr ⟨by split <;> decide, by split <;> decide⟩, ?_⟩⟩
    -- switches = [], left = []
    refine ⟨Nat.zero_le _, fun S hS => ⟨Nat.zero_le _, fun L hL => ?_⟩⟩
    have nSL : S ≠ L := ne_of_none (upd_same (o := .lst [])) hL
    have kpa : Kp j c H H3 := (kp1.trans kp2).trans kp3
    have hS0 : H S = none := kpa.free J3 hS
    have hL3 : H3 L = none := (same_upd hS).free hL
    have hL0 : H L = none := kpa.free J3 hL3
    have sm : Same H3 (upd (upd H3 S (.lst [])) L (.lst [])) := (same_upd hS).trans (same_upd hL)
    have N0 : NetSt H j c S (1 + wn) L [] [] [] (upd (upd H3 S (.lst [])) L (.lst [])) :=
      ⟨by rw [upd_ne nSL]; exact upd_same, ⟨rfl, fun i a p h => by simp at h⟩, fun p h => by simp at h, upd_same, List.nodup_nil, fun x h => by simp at h, J3.same sm, kpa.trans (Same.kp sm), nSL, hS0, hL0⟩
    generalize upd (upd H3 S (.lst [])) L (.lst []) = H4 at N0 ⊢
    dsimp only
    generalize hm : (f3 * if decide (1 < 1 + (wn : Int)) = true then 1 else 0) = m
    have m0 : 0 ≤ m ∧ m ≤ mo ∧ (0 < m → 1 ≤ wn) := by
      rw [← hm]; split
      · rename_i h
        have := of_decide_eq_true h
        omega
      · omega
    refine ⟨_, rfl, m, rfl, by omega, by omega, ?_⟩
    refine for_range (lo := 0) (n := m.toNat) (fun i σ H1 => ∃ (Lf : Addr) (lf : List Nat) (as : List Addr) (sw : List (Nat × Nat)) (x8 x9 x10 x11 : Option V), σ = [some (.ref j), some (nV wd), some (nV mo), some (.int (1 + (wn : Int))), some (.int f2), some (.int m), some (.ref S), some (.ref Lf), x8, x9, x10, x11, none] ∧
      NetSt H j c S (1 + wn) Lf lf as sw H1 ∧ sw.length = i) ⟨L, [], [], [], _, _, _, _, rfl, N0, rfl⟩ ?_ ?_
    · rintro i σ H5 hi ⟨Lf, lf, as, sw, x8, x9, x10, x11, rfl, N5, hlen⟩
      have wn1 : 1 ≤ wn := m0.2.2 (by omega)
      -- a, step
      refine ⟨_, rfl, _, rfl, j, c, _, rfl, N5.J, by omega, by omega, fun a H6 a0 a1 J6 kp6 => ?_⟩
      have N6 := N5.pick J kp6 J6
      refine ⟨_, rfl, _, rfl, _, _, rfl, rfl, j, c, _, rfl, J6, by omega, by omega, fun st H7 st0 st1 J7 kp7 => ⟨_, _, rfl, rfl, ?_⟩⟩
      have N7 := N6.pick J kp7 J7
      -- if form == 1
      refine ⟨fun σ H' => ∃ st' : Int, 1 ≤ st' ∧ st' ≤ wn ∧ H7 = H' ∧ σ = [some (.ref j), some (nV wd), some (nV mo), some (.int (1 + (wn : Int))), some (.int f2), some (.int m), some (.ref S), some (.ref Lf), some (.int (0 + (i : Int))), some (.int a), some (.int st'), x11, none], ?_, ?_⟩
      · refine ⟨_, rfl, rfl, _, rfl, ite2 (fun _ => ⟨1, by omega, by omega, rfl, rfl⟩) (fun _ => ⟨1 + st, by omega, by omega, rfl, rfl⟩)⟩
      rintro _ _ ⟨st', s1, s2, rfl, rfl⟩
      -- if form == 2
      refine ⟨fun σ H'' => ∃ a' : Int, 0 ≤ a' ∧ a' ≤ wn ∧ H7 = H'' ∧ σ = [some (.ref j), some (nV wd), some (nV mo), some (.int (1 + (wn : Int))), some (.int f2), some (.int m), some (.ref S), some (.ref Lf), some (.int (0 + (i : Int))), some (.int a'), some (.int st'), x11, none], ?_, ?_⟩
      · refine ⟨_, rfl, rfl, _, rfl, ite2 (fun _ => ⟨0, by omega, by omega, rfl, rfl⟩) (fun _ => ⟨a, by omega, by omega, rfl, rfl⟩)⟩
      rintro _ _ ⟨a', a2, a3, rfl, rfl⟩
      -- if form == 3 and len(left) < 2
      refine ⟨fun σ H'' => ∃ (Lg : Addr) (lg : List Nat), NetSt H j c S (1 + wn) Lg lg as sw H'' ∧ (f2 = 3 → 2 ≤ lg.length) ∧ σ = [some (.ref j), some (nV wd), some (nV mo), some (.int (1 + (wn : Int))), some (.int f2), some (.int m), some (.ref S), some (.ref Lg), some (.int (0 + (i : Int))), some (.int a'), some (.int st'), x11, none], ?_, ?_⟩
      · refine ⟨_, rfl, rfl, _, rfl, ite2 (fun e3 => ?_) (fun e3 => ?_)⟩
        · refine ⟨_, rfl, Lf, _, rfl, .inl (SqL.of N7.hL), _, _, rfl, rfl, _, rfl, ite2 (fun e2 => ?_) (fun e2 => ?_)⟩
          · refine ⟨_, rfl, _, rfl, j, c, 1 + wn, rfl, J7, by omega, fun Lg lg H8 h8 hg pm J8 kp8 => ?_⟩
            have N8 := N7.pick J kp8 J8
            have q := perm_lt pm
            exact ⟨Lg, lg, N8.left hg q.1 q.2 (ne_of_none N7.hS h8) (N7.kp.free J7 h8), fun _ => by rw [pm.length_eq, List.length_range]; omega, rfl⟩
          · refine ⟨Lf, lf, N7, fun _ => ?_, rfl⟩
            have : ¬ ((lf.map nV).length : Int) < 2 := fun z => e2 (decide_eq_true z)
            rw [List.length_map] at this
            omega
        · exact ⟨Lf, lf, N7, fun z => absurd z (dec_ne e3), rfl⟩
      rintro _ H8 ⟨Lg, lg, N8, hlg, rfl⟩
      -- if form == 4 and k > 0
      refine ⟨fun σ H'' => ∃ a'' st'' : Int, 0 ≤ a'' ∧ a'' ≤ wn ∧ (a'' + st'') % (1 + (wn : Int)) ≠ a'' ∧ H8 = H'' ∧ σ = [some (.ref j), some (nV wd), some (nV mo), some (.int (1 + (wn : Int))), some (.int f2), some (.int m), some (.ref S), some (.ref Lg), some (.int (0 + (i : Int))), some (.int a''), some (.int st''), x11, none], ?_, ?_⟩
      · have plain : (a' + st') % (1 + (wn : Int)) ≠ a' := by
          by_cases hlt : a' + st' < 1 + (wn : Int)
          · rw [Int.emod_eq_of_lt (by omega) hlt]; omega
          · rw [← Int.sub_emod_right, Int.emod_eq_of_lt (by omega) (by omega)]; omega
        refine ⟨_, rfl, rfl, _, rfl, ite2 (fun e4 => ?_) (fun e4 => ⟨a', st', a2, a3, plain, rfl, rfl⟩)⟩
        refine ⟨_, rfl, _, _, rfl, rfl, _, rfl, ite2 (fun e5 => ?_) (fun e5 => ⟨a', st', a2, a3, plain, rfl, rfl⟩)⟩
        have i0 : 0 < i := by have := of_decide_eq_true e5; omega
        have hs0 : 0 < sw.length := by omega
        have ha0 : 0 < as.length := by rw [N8.hP.1]; omega
        obtain ⟨p, hp⟩ : ∃ p, sw[0]? = some p := ⟨sw[0], by simp [hs0]⟩
        obtain ⟨b, hb⟩ : ∃ b, as[0]? = some b := ⟨as[0], by simp [ha0]⟩
        have hpb := N8.hP.2 0 b p hb hp
        have hv := N8.val p (List.mem_of_getElem? hp)
        have hbV : (as.map V.ref)[0]? = some (V.ref b) := by rw [List.getElem?_map, hb]; rfl
        have g0 : atI ([nV p.1, nV p.2] : List V) 0 = some (nV p.1) := rfl
        have g1 : atI ([nV p.1, nV p.2] : List V) 1 = some (nV p.2) := rfl
        refine ⟨_, rfl, S, _, _, _, rfl, rfl, SqL.of N8.hS, at_of (j := 0) rfl hbV, b, _, _, _, rfl, rfl, SqT.of hpb, g0, _, rfl, S, _, _, _, rfl, rfl, SqL.of N8.hS, at_of (j := 0) rfl hbV, b, _, _, _, rfl, rfl, SqT.of hpb, g1, _, rfl, S, _, _, _, rfl, rfl, SqL.of N8.hS, at_of (j := 0) rfl hbV, b, _, _, _, rfl, rfl, SqT.of hpb, g0, _, _, rfl, rfl, _, _, rfl, (p.1 : Int), (p.2 : Int) - (p.1 : Int), by omega, by omega, ?_, rfl, rfl⟩
        have e : (p.1 : Int) + ((p.2 : Int) - (p.1 : Int)) = (p.2 : Int) := by omega
        rw [e, Int.emod_eq_of_lt (by omega) (by omega)]
        omega
      rintro _ _ ⟨a'', st'', c1, c2, c3, rfl, rfl⟩
      -- b
      refine ⟨_, rfl, _, rfl, _, _, rfl, rfl, _, rfl, _, _, rfl, rfl, (by show (0 : Int) < 1 + (wn : Int); omega), ?_⟩
      -- if form == 3
      refine ⟨fun σ H'' => ∃ (x y : Nat) (lh : List Nat), x < 1 + wn ∧ y < 1 + wn ∧ x ≠ y ∧ NetSt H j c S (1 + wn) Lg lh as sw H'' ∧ ∃ x10 : Option V, σ = [some (.ref j), some (nV wd), some (nV mo), some (.int (1 + (wn : Int))), some (.int f2), some (.int m), some (.ref S), some (.ref Lg), some (.int (0 + (i : Int))), some (nV x), x10, some (nV y), none], ?_, ?_⟩
      · refine ⟨_, rfl, rfl, _, rfl, ite2 (fun e3 => ?_) (fun e3 => ?_)⟩
        · obtain ⟨l0, y, x, rfl⟩ := two_last (hlg (dec_eq e3))
          have d1 : (l0 ++ [y] ++ [x]).dropLast = l0 ++ [y] := List.dropLast_concat
          have d2 : (l0 ++ [y]).dropLast = l0 := List.dropLast_concat
          have N9 := N8.pop J
          rw [d1] at N9
          have N10 := N9.pop J
          rw [d2] at N10
          refine ⟨_, rfl, .inl ⟨rfl, _, SqL.of N8.hL⟩, Lg, _, nV x, rfl, rfl, N8.hL, by simp, ?_⟩
          refine ⟨_, rfl, .inl ⟨rfl, _, SqL.of N9.hL⟩, Lg, _, nV y, rfl, rfl, N9.hL, by simp, ?_⟩
          refine ⟨x, y, l0, N8.lt x (by simp), N8.lt y (by simp), ?_, N10, some (.int st''), rfl⟩
          have nd := N8.nd
          rw [List.nodup_append] at nd
          exact fun e => nd.2.2 y (by simp) x (by simp) e.symm
        · have b0 := Int.emod_nonneg (a'' + st'') (show (1 + (wn : Int)) ≠ 0 by omega)
          have b1 := Int.emod_lt_of_pos (a'' + st'') (show 0 < (1 + (wn : Int)) by omega)
          refine ⟨a''.toNat, ((a'' + st'') % (1 + (wn : Int))).toNat, lg, by omega, by omega, by omega, N8, some (.int st''), ?_⟩
          have ea : nV a''.toNat = V.int a'' := congrArg V.int (by omega)
          have eb : nV ((a'' + st'') % (1 + (wn : Int))).toNat = V.int ((a'' + st'') % (1 + (wn : Int))) := congrArg V.int (by omega)
          rw [ea, eb]; rfl
      rintro _ H9 ⟨x, y, lh, hx, hy, hxy, N9, x10', rfl⟩
      -- switches.append((a, b))
      refine ⟨_, rfl, .inl ⟨rfl, _, SqL.of N9.hS⟩, _, rfl, _, rfl, (by show 2 ≤ sizeLine; decide), fun q hq => ⟨S, _, _, rfl, rfl, (by rw [upd_ne (ne_of_none N9.hS hq)]; exact N9.hS), small1000 (by rw [List.length_map, N9.hP.1]; omega), ?_⟩⟩
      exact ⟨Lg, lh, as ++ [q], sw ++ [(x, y)], _, _, _, _, rfl, N9.more J hq ⟨hx, hy, hxy⟩, by rw [List.length_append, hlen]; rfl⟩
    · rintro σ H5 ⟨Lf, lf, as, sw, x8, x9, x10, x11, rfl, N5, hlen⟩
      have hlm : sw.length ≤ mo := by omega
      -- order = tuple(range(width))
      refine ⟨_, rfl, _, rfl, fun p hp => ⟨p, _, rfl, upd_same, by omega, by omega, fun q hq => ?_⟩⟩
      have sm : Same H5 (upd (upd H5 p (.rng 0 (1 + (wn : Int)))) q (.tup (upto (1 + (wn : Int)).toNat))) := (same_upd hp).trans (same_upd hq)
      have hq1 : upd (upd H5 p (.rng 0 (1 + (wn : Int)))) q (.tup (upto (1 + (wn : Int)).toNat)) q = some (.tup ((List.range (1 + wn)).map nV)) := by
        rw [upd_same, show (1 + (wn : Int)).toNat = 1 + wn by omega]; rfl
      have N6 := N5.pick J (Same.kp sm) (N5.J.same sm)
      generalize upd (upd H5 p (.rng 0 (1 + (wn : Int)))) q (.tup (upto (1 + (wn : Int)).toNat)) = H6 at N6 hq1 ⊢
      refine ⟨fun σ H'' => ∃ (po : Addr) (ord : List Nat), NetSt H j c S (1 + wn) Lf lf as sw H'' ∧ H'' po = some (.tup (ord.map nV)) ∧ ord.Perm (List.range (1 + wn)) ∧ σ = [some (.ref j), some (nV wd), some (nV mo), some (.int (1 + (wn : Int))), some (.int f2), some (.int m), some (.ref S), some (.ref Lf), x8, x9, x10, x11, some (.ref po)], ?_, ?_⟩
      · refine ⟨_, rfl, j, c, _, rfl, N6.J, by decide, by decide, fun z H7 z0 z1 J7 kp7 => ⟨rfl, _, rfl, ?_⟩⟩
        have N7 := N6.pick J kp7 J7
        refine ite2 (fun _ => ?_) (fun _ => ⟨q, _, N7, kp7.tk N6.J _ _ hq1, List.Perm.refl _, rfl⟩)
        refine ⟨_, rfl, _, rfl, j, c, 1 + wn, rfl, J7, by omega, fun l xs H8 h8 hl pm J8 kp8 => ⟨l, _, rfl, .inl ⟨SqL.of hl, fun r hr => ?_⟩⟩⟩
        have N8 := N7.pick J kp8 J8
        have N9 := N8.pick J (Same.kp (same_upd (o := .tup (xs.map nV)) hr)) (N8.J.same (same_upd hr))
        exact ⟨r, xs, N9, upd_same, pm, rfl⟩
      rintro _ H7 ⟨po, ord, N7, hpo, pm, rfl⟩
      refine ⟨_, rfl, _, rfl, S, _, rfl, .inl ⟨SqL.of N7.hS, fun ps hps => ⟨_, rfl, (by show 3 ≤ sizeLine; decide), fun pp hpp => ?_⟩⟩⟩
      have t1 : Same H7 (upd (upd H7 ps (.tup (as.map V.ref))) pp (.tup [.int (1 + (wn : Int)), .ref ps, .ref po])) := (same_upd hps).trans (same_upd hpp)
      refine k pp ⟨1 + wn, sw, ord⟩ _ ⟨by show 1 ≤ 1 + wn; omega, by show 1 + wn ≤ 16; omega, N7.val, pm⟩ (by show 1 + wn ≤ wd; omega) hlm ⟨ps, po, as, upd_same, ?_, N7.hP.tk (tk_same t1), t1 _ _ hpo⟩ (N7.J.same t1) (N7.kp.trans (Same.kp t1))
      exact (same_upd hpp) _ _ upd_same
end
end L3
set_option Elab.async false
set_option linter.all false
set_option maxRecDepth 100000
namespace L3
open PySem PySem.Spec PyProof.Rows L2
section
variable {K : PySem.W.Frag}
theorem kit_bb : PySem.W.kitOne K (.type "bool") (.type "bool") = some true := rfl
theorem kit_ib : PySem.W.kitOne K (.type "int") (.type "bool") = some false := by rfl
theorem kit_ii : PySem.W.kitOne K (.type "int") (.type "int") = some true := by rfl
theorem kit_sb : PySem.W.kitOne K (.type "str") (.type "bool") = some false := by rfl
theorem kit_si : PySem.W.kitOne K (.type "str") (.type "int") = some false := by rfl
theorem kit_ss : PySem.W.kitOne K (.type "str") (.type "str") = some true := by rfl
theorem kit_tb : PySem.W.kitOne K (.type "tuple") (.type "bool") = some false := by rfl
theorem kit_ti : PySem.W.kitOne K (.type "tuple") (.type "int") = some false := by rfl
theorem kit_ts : PySem.W.kitOne K (.type "tuple") (.type "str") = some false := by rfl
theorem kit_tt : PySem.W.kitOne K (.type "tuple") (.type "tuple") = some true := by rfl
theorem kit_tl : PySem.W.kitOne K (.type "tuple") (.type "list") = some false := by rfl
theorem kit_lb : PySem.W.kitOne K (.type "list") (.type "bool") = some false := by rfl
theorem kit_li : PySem.W.kitOne K (.type "list") (.type "int") = some false := by rfl
theorem kit_ls : PySem.W.kitOne K (.type "list") (.type "str") = some false := by rfl
theorem kit_lt : PySem.W.kitOne K (.type "list") (.type "tuple") = some false := by rfl
theorem kit_ll : PySem.W.kitOne K (.type "list") (.type "list") = some true := by rfl
end
def sq : Bool → List V → HO
  | true, xs => .tup xs
  | false, xs => .lst xs
inductive Flat : V → Prop where
  | int (i : Int) : Flat (.int i)
  | bl (b : Bool) : Flat (.bl b)
  | str (x : Str) : Flat (.str x)
  | non : Flat .non
/-- the same data, of a depth below n -/
def EqS : Nat → Hp → V → V → Prop
  | 0, _, _, _ => False
  | n + 1, H, x, y => (x = y ∧ Flat x) ∨ ∃ (t : Bool) (a b : Addr) (xs ys : List V), x = .ref a ∧ y = .ref b ∧ H a = some (sq t xs) ∧ H b = some (sq t ys) ∧ xs.length = ys.length ∧ xs.length ≤ 1000 ∧
      ∀ (i : Nat) (u v : V), xs[i]? = some u → ys[i]? = some v → EqS n H u v
theorem sqx_of {K : PySem.W.Frag} {H : Hp} {t : Bool} {a : Addr} {xs : List V} (h : H a = some (sq t xs)) : SqX t K H a xs := by
  cases t
  · exact SqL.of h
  · exact SqT.of h
theorem EqS.same {H H' : Hp} (s : Same H H') : ∀ {n : Nat} {x y : V}, EqS n H x y → EqS n H' x y
  | 0, _, _, h => h
  | n + 1, x, y, h => by
    rcases h with h | ⟨t, a, b, xs, ys, e1, e2, h1, h2, h3, h4, h5⟩
    · exact .inl h
    · exact .inr ⟨t, a, b, xs, ys, e1, e2, s _ _ h1, s _ _ h2, h3, h4, fun i u v hu hv => EqS.same s (h5 i u v hu hv)⟩
section
variable {P : Program} {w : World} {K : PySem.W.Frag} {mg : Str → Option Value} {base : Heap}
def spSame (n : Nat) : Sp := fun vs H Q _ => ∃ (x y : V), vs = [x, y] ∧ EqS n H x y ∧ ∀ H', Same H H' → Q (.bl true) H'
abbrev s_law_same : Stmt := top 20
theorem sc_law_same : FnScope ["found", "due", "one", "other"] ["found", "due"] (defScope s_law_same) := ⟨rfl, rfl, rfl, by decide +kernel, rfl, by decide +kernel, by decide +kernel⟩
theorem reps (i : Nat) : (List.replicate i true).all id = true := by
  induction i with
  | zero => rfl
  | succ i ih => rw [List.replicate_succ]; exact ih
set_option maxHeartbeats 1000000 in
theorem ok_law_same {f : Addr} {fd : FuncData} (F : Fun K "_law_same" "_law_same" s_law_same f fd) (T : Tn mg) (hm : mg "_law_same" = some (.ref f)) (hb : Binds K fd ["found", "due"] []) : ∀ n : Nat, FnOk P w K mg base CX0 n f fd ["found", "due"] (spSame n)
  | 0 => ⟨fun vs H Q E h => by obtain ⟨x, y, rfl, _⟩ := h; rfl, fun A outer s H args us vs Q E hr e0 hbd hv h => by obtain ⟨x, y, _, h, _⟩ := h; exact False.elim h⟩
  | n + 1 => by
    have D_law_same : Def P w K mg base "_law_same" n ["found", "due"] (spSame n) := ⟨f, fd, ok_law_same F T hm hb n, hm, F.kp, hb⟩
    refine F.ok sc_law_same (fun vs H Q E h => ?_) (fun cdv A outer s H vs Q E hr h => ?_)
    · obtain ⟨x, y, rfl, _⟩ := h
      rfl
    · obtain ⟨x, y, rfl, e, k⟩ := h
      refine ⟨_, (pss_cons (ps_if (pt_cmpR op_isN (pv 1) pe_non (nomark _)) (pss_one (ps_ret (pe_cmpR op_isN (pv 0) pe_non (nomark _)))) pss_nil)
      (pss_cons (ps_if (pt_val (pe_callB call_isi (by rfl) T.isinstance_ (by decide +kernel) (pa_cons (pv 1) (pa_cons (pe_bltn (v := V.ty "bool") (by rfl) T.bool_ (by decide +kernel) rfl) pa_nil)))) (pss_one (ps_ret (pe_and (pe_callB call_isi (by rfl) T.isinstance_ (by decide +kernel) (pa_cons (pv 0) (pa_cons (pe_bltn (v := V.ty "bool") (by rfl) T.bool_ (by decide +kernel) rfl) pa_nil))) (pe_one (pe_cmpR op_eq (pv 0) (pv 1) (nomark _)))))) pss_nil)
      (pss_cons (ps_if (pt_val (pe_callB call_isi (by rfl) T.isinstance_ (by decide +kernel) (pa_cons (pv 1) (pa_cons (pe_bltn (v := V.ty "int") (by rfl) T.int_ (by decide +kernel) rfl) pa_nil)))) (pss_one (ps_ret (pe_and (pe_callB call_isi (by rfl) T.isinstance_ (by decide +kernel) (pa_cons (pv 0) (pa_cons (pe_bltn (v := V.ty "int") (by rfl) T.int_ (by decide +kernel) rfl) pa_nil))) (pe_and (pe_not (pe_callB call_isi (by rfl) T.isinstance_ (by decide +kernel) (pa_cons (pv 0) (pa_cons (pe_bltn (v := V.ty "bool") (by rfl) T.bool_ (by decide +kernel) rfl) pa_nil)))) (pe_one (pe_cmpR op_eq (pv 0) (pv 1) (nomark _))))))) pss_nil)
      (pss_cons (ps_if (pt_val (pe_callB call_isi (by rfl) T.isinstance_ (by decide +kernel) (pa_cons (pv 1) (pa_cons (pe_bltn (v := V.ty "str") (by rfl) T.str_ (by decide +kernel) rfl) pa_nil)))) (pss_one (ps_ret (pe_and (pe_callB call_isi (by rfl) T.isinstance_ (by decide +kernel) (pa_cons (pv 0) (pa_cons (pe_bltn (v := V.ty "str") (by rfl) T.str_ (by decide +kernel) rfl) pa_nil))) (pe_one (pe_cmpR op_eq (pv 0) (pv 1) (nomark _)))))) pss_nil)
      (pss_cons (ps_if (PW.pt (pw_or (pt_cmpR op_ne (pe_callB call_isi (by rfl) T.isinstance_ (by decide +kernel) (pa_cons (pv 1) (pa_cons (pe_bltn (v := V.ty "tuple") (by rfl) T.tuple_ (by decide +kernel) rfl) pa_nil))) (pe_callB call_isi (by rfl) T.isinstance_ (by decide +kernel) (pa_cons (pv 0) (pa_cons (pe_bltn (v := V.ty "tuple") (by rfl) T.tuple_ (by decide +kernel) rfl) pa_nil))) (nomark _)) (pw_or1 (pt_cmpR op_ne (pe_callB call_isi (by rfl) T.isinstance_ (by decide +kernel) (pa_cons (pv 1) (pa_cons (pe_bltn (v := V.ty "list") (by rfl) T.list_ (by decide +kernel) rfl) pa_nil))) (pe_callB call_isi (by rfl) T.isinstance_ (by decide +kernel) (pa_cons (pv 0) (pa_cons (pe_bltn (v := V.ty "list") (by rfl) T.list_ (by decide +kernel) rfl) pa_nil))) (nomark _))))) (pss_one (ps_ret pe_bl)) pss_nil)
      (pss_cons (ps_if (pt_cmpR op_ne (pe_callB call_len_seq (by rfl) T.len_ (by decide +kernel) (pa_cons (pv 0) pa_nil)) (pe_callB call_len_seq (by rfl) T.len_ (by decide +kernel) (pa_cons (pv 1) pa_nil)) (nomark _)) (pss_one (ps_ret pe_bl)) pss_nil)
      (pss_one (ps_ret (pe_callB (cr_all rfl) (by rfl) T.all_ (by decide +kernel) (pa_cons (pe_lc (own := [("one", 2), ("other", 3)]) (g := (gTup K 2 (gCons (gName 2) (gCons (gName 3) gNil)))) (by rfl) sc_law_same.nd (pi_zipX (by rfl) T.zip_ (pa_cons (pv 0) (pa_cons (pv 1) pa_nil))) (blkOk_by (own := [("one", 2), ("other", 3)]) (N := ["found", "due", "one", "other"]) (sc := defScope s_law_same) (by decide +kernel)) (fun _ _ _ _ _ => (pg_tup' (n := 2) (K := K) rfl rfl (pgs_cons (pg_name (i := 2) sc_law_same.nd rfl (by first | exact Or.inl rfl | exact Or.inr rfl)) (pgs_cons (pg_name (i := 3) sc_law_same.nd rfl (by first | exact Or.inl rfl | exact Or.inr rfl)) pgs_nil)))) (fun _ _ _ _ _ => pts_nil) (fun _ _ _ _ _ => (pe_def D_law_same (hr.mono (by first | decide | omega)) (by rfl) (pa_cons (pv 2) (pa_cons (pv 3) pa_nil))))) pa_nil)))))))))), ?_⟩
      rcases e with ⟨rfl, fl⟩ | ⟨t, a, b, xs, ys, rfl, rfl, ha, hb', hl, hl2, hi⟩
      · cases fl with
        | non => exact ⟨_, rfl, rfl, _, rfl, iteA rfl ⟨_, rfl, rfl, k _ (Same.refl _)⟩⟩
        | bl c =>
          refine ⟨_, rfl, rfl, _, rfl, iteB rfl ?_⟩
          refine ⟨_, rfl, _, _, _, _, rfl, .bl c, kit_bb, _, rfl, iteA rfl ?_⟩
          refine ⟨_, rfl, _, _, _, _, rfl, .bl c, kit_bb, _, rfl, iteA rfl ⟨_, rfl, _, rfl, rfl, ?_⟩⟩
          rw [decide_eq_true (rfl : V.bl c = V.bl c)]
          exact k _ (Same.refl _)
        | int i =>
          refine ⟨_, rfl, rfl, _, rfl, iteB rfl ?_⟩
          refine ⟨_, rfl, _, _, _, _, rfl, .int i, kit_ib, _, rfl, iteB rfl ?_⟩
          refine ⟨_, rfl, _, _, _, _, rfl, .int i, kit_ii, _, rfl, iteA rfl ?_⟩
          refine ⟨_, rfl, _, _, _, _, rfl, .int i, kit_ii, _, rfl, iteA rfl ⟨_, rfl, _, _, _, _, rfl, .int i, kit_ib, _, rfl, _, rfl, iteA rfl ⟨_, rfl, _, rfl, rfl, ?_⟩⟩⟩
          rw [decide_eq_true (rfl : V.int i = V.int i)]
          exact k _ (Same.refl _)
        | str z =>
          refine ⟨_, rfl, rfl, _, rfl, iteB rfl ?_⟩
          refine ⟨_, rfl, _, _, _, _, rfl, .str z, kit_sb, _, rfl, iteB rfl ?_⟩
          refine ⟨_, rfl, _, _, _, _, rfl, .str z, kit_si, _, rfl, iteB rfl ?_⟩
          refine ⟨_, rfl, _, _, _, _, rfl, .str z, kit_ss, _, rfl, iteA rfl ?_⟩
          refine ⟨_, rfl, _, _, _, _, rfl, .str z, kit_ss, _, rfl, iteA rfl ⟨_, rfl, _, rfl, rfl, ?_⟩⟩
          rw [decide_eq_true (rfl : V.str z = V.str z)]
          exact k _ (Same.refl _)
      · have el : (!decide (V.int (xs.length : Int) = V.int (ys.length : Int))) = false := by rw [hl]; simp
        -- the items, at the end of both ways
        have fin : ∀ (H1 : Hp) (D : Addr), H = H1 → H1 D = none → ∃ W : Nat → Nat → Hp → Prop, (∃ m, W 0 m (upd H1 D (.lst []))) ∧ ∀ i m H2, W i m H2 →
            ((ItzX t t K a b xs ys).stop i H2 ∧ (∃ (a : Addr) (bs : List Bool), [V.ref D] = [V.ref a] ∧ SqL K H2 a (bs.map V.bl) ∧ Q (.bl (bs.all id)) H2)) ∨ ((ItzX t t K a b xs ys).go i H2 ∧ ∃ Nx : Hp → Prop, (∀ H', Nx H' → ∃ m', m' < m ∧ W (i + 1) m' H') ∧ ∀ x H', (ItzX t t K a b xs ys).yld i H2 x H' →
              gTup K 2 (gCons (gName 2) (gCons (gName 3) gNil)) x (wipe [some (.ref a), some (.ref b), none, none] [2, 3]) H' fun σ2 H2 => wipe σ2 [2, 3] = wipe [some (.ref a), some (.ref b), none, none] [2, 3] ∧ tYes σ2 H2 fun b H3 =>
              if b = true then tCall (spSame n) [] E0 (tCons (tVar 2) (tCons (tVar 3) tNil)) σ2 H3 fun y H4 => ∃ acc, H4 D = some (.lst acc) ∧ acc.length < sizeLine ∧ Nx (upd H4 D (.lst (acc ++ [y]))) else Nx H3) := by
          rintro _ D rfl hD
          refine lc_zipX xs.length (by omega) (fun i H2 => Same H H2 ∧ H2 D = some (.lst ((List.replicate i true).map V.bl)) ∧ i ≤ 1000) ⟨same_upd hD, upd_same, Nat.zero_le _⟩ (fun i H2 _ hp => ⟨sqx_of (hp.1 _ _ ha), sqx_of (hp.1 _ _ hb')⟩) ?_ ?_
          · rintro i u v T' H2 hu hv hT ⟨sm, hD2, _⟩
            have hi2 : i < xs.length := (List.getElem?_eq_some_iff.mp hu).1
            refine ⟨T', _, rfl, SqT.of upd_same, rfl, _, _, rfl, _, _, rfl, rfl, rfl, ?_⟩
            refine ⟨_, rfl, _, rfl, u, v, rfl, (hi i u v hu hv).same (sm.trans (same_upd hT)), fun H3 s3 => ?_⟩
            have nDT : D ≠ T' := ne_of_none hD2 hT
            have hD3 : H3 D = some (.lst ((List.replicate i true).map V.bl)) := s3 _ _ (by rw [upd_ne nDT]; exact hD2)
            refine ⟨_, hD3, small1000 (by simp; omega), fun c o e => ?_, ?_, by omega⟩
            · rw [upd_ne (ne_of_none e hD)]
              exact s3 _ _ ((same_upd hT) _ _ (sm _ _ e))
            · rw [upd_same, List.replicate_succ', List.map_append]; rfl
          · rintro H2 ⟨sm, hD2, _⟩
            refine ⟨D, _, rfl, SqL.of hD2, ?_⟩
            rw [reps]
            exact k H2 sm
        cases t with
        | true =>
          refine ⟨_, rfl, rfl, _, rfl, iteB rfl ?_⟩
          refine ⟨_, rfl, _, _, _, _, rfl, .tup hb', kit_tb, _, rfl, iteB rfl ?_⟩
          refine ⟨_, rfl, _, _, _, _, rfl, .tup hb', kit_ti, _, rfl, iteB rfl ?_⟩
          refine ⟨_, rfl, _, _, _, _, rfl, .tup hb', kit_ts, _, rfl, iteB rfl ?_⟩
          refine ⟨_, rfl, _, _, _, _, rfl, .tup hb', kit_tt, _, rfl, _, _, _, _, rfl, .tup ha, kit_tt, rfl, _, rfl, iteB rfl ?_⟩
          refine ⟨_, rfl, _, _, _, _, rfl, .tup hb', kit_tl, _, rfl, _, _, _, _, rfl, .tup ha, kit_tl, rfl, _, rfl, iteB rfl ?_⟩
          refine ⟨_, rfl, a, _, rfl, .inr (SqT.of ha), _, rfl, b, _, rfl, .inr (SqT.of hb'), rfl, _, rfl, iteB el ?_⟩
          exact ⟨_, rfl, _, rfl, true, true, a, b, xs, ys, rfl, SqT.of ha, SqT.of hb', fun D hD => fin _ D rfl hD⟩
        | false =>
          refine ⟨_, rfl, rfl, _, rfl, iteB rfl ?_⟩
          refine ⟨_, rfl, _, _, _, _, rfl, .lst hb', kit_lb, _, rfl, iteB rfl ?_⟩
          refine ⟨_, rfl, _, _, _, _, rfl, .lst hb', kit_li, _, rfl, iteB rfl ?_⟩
          refine ⟨_, rfl, _, _, _, _, rfl, .lst hb', kit_ls, _, rfl, iteB rfl ?_⟩
          refine ⟨_, rfl, _, _, _, _, rfl, .lst hb', kit_lt, _, rfl, _, _, _, _, rfl, .lst ha, kit_lt, rfl, _, rfl, iteB rfl ?_⟩
          refine ⟨_, rfl, _, _, _, _, rfl, .lst hb', kit_ll, _, rfl, _, _, _, _, rfl, .lst ha, kit_ll, rfl, _, rfl, iteB rfl ?_⟩
          refine ⟨_, rfl, a, _, rfl, .inl (SqL.of ha), _, rfl, b, _, rfl, .inl (SqL.of hb'), rfl, _, rfl, iteB el ?_⟩
          exact ⟨_, rfl, _, rfl, false, false, a, b, xs, ys, rfl, SqL.of ha, SqL.of hb', fun D hD => fin _ D rfl hD⟩
end
end L3
set_option Elab.async false
set_option linter.all false
set_option maxRecDepth 100000
namespace L3
open PySem PySem.Spec PyProof.Rows L2
section
variable {P : Program} {w : World} {K : PySem.W.Frag} {mg : Str → Option Value} {base : Heap}
/-- the list at L grows, or is written in, beside the jar -/
structure ListSt (H0 : Hp) (j c L : Addr) (cs : List Int) (H1 : Hp) : Prop where
  hL : H1 L = some (.lst (cs.map V.int))
  J : Jar H1 j c
  kp : Kp j c H0 H1
  L0 : H0 L = none
theorem ListSt.pick {H0 H1 H2 : Hp} {j c L : Addr} {cs : List Int} (S : ListSt H0 j c L cs H1) (J0 : Jar H0 j c) (k : Kp j c H1 H2) (J2 : Jar H2 j c) : ListSt H0 j c L cs H2 :=
  ⟨k _ _ S.hL (J0.nej S.L0) (J0.nec S.L0), J2, S.kp.trans k, S.L0⟩
theorem ListSt.put {H0 H1 : Hp} {j c L : Addr} {cs : List Int} (S : ListSt H0 j c L cs H1) (J0 : Jar H0 j c) (ds : List Int) (vs : List V) (e : vs = ds.map V.int) : ListSt H0 j c L ds (upd H1 L (.lst vs)) :=
  ⟨by rw [upd_same, e], S.J.upd (J0.nej S.L0) (J0.nec S.L0), fun b o h b1 b2 => by rw [upd_ne (ne_of_none h S.L0)]; exact S.kp b o h b1 b2, S.L0⟩
end
end L3
set_option Elab.async false
set_option linter.all false
set_option maxRecDepth 100000
namespace L4
open PySem PySem.Spec PyProof.Rows L2 L3
theorem rp_nats {K : PySem.W.Frag} {M : Map} {n : Nat} {H : Hp} : ∀ l : List Nat, RPs K M n H (l.map natP) (l.map nV)
  | [] => .nil
  | x :: l => .cons (.int _) (rp_nats l)
theorem rp_pairs {K : PySem.W.Frag} {M : Map} {n : Nat} {H : Hp} : ∀ {as : List Addr} {sw : List (Nat × Nat)}, PairsAt H as sw → RPs K M n H (sw.map swP) (as.map V.ref)
  | [], [], _ => .nil
  | a :: as, p :: sw, h => .cons (.tup (SqT.of (h.2 0 a p rfl rfl)) (.cons (.int _) (.cons (.int _) .nil))) (rp_pairs ⟨by simpa using h.1, fun i b q hb hq => h.2 (i + 1) b q (by simpa using hb) (by simpa using hq)⟩)
  | [], _ :: _, h => by have := h.1; simp at this
  | _ :: _, [], h => by have := h.1; simp at this
def netP (N : Net) : PV := .tup [natP N.w, .tup (N.sw.map swP), natsP N.ord]
theorem rp_net {K : PySem.W.Frag} {M : Map} {n : Nat} {H : Hp} {p : Addr} {N : Net} (h : NetAt H p N) : RP K M n H (netP N) (.ref p) := by
  obtain ⟨ps, po, as, h1, h2, h3, h4⟩ := h.ex
  exact .tup (SqT.of h1) (.cons (.int _) (.cons (.tup (SqT.of h2) (rp_pairs h3)) (.cons (.tup (SqT.of h4) (rp_nats _)) .nil)))
def wOrder : WC := fun vs S Q => ∃ (j n : Nat), vs = [.ref j, natP n] ∧ S[j]? = some .jar ∧ n ≤ 1000 ∧ ∀ xs : List Nat, xs.Perm (List.range n) → Q (.ref S.length) (S ++ [.lst (xs.map natP)])
theorem mo_order : MoC wOrder := fun xs S Q Q' ⟨j, n, e, h1, h2, q⟩ k => ⟨j, n, e, h1, h2, fun xs h => k _ _ (q xs h)⟩
theorem order_imp {K : PySem.W.Frag} : ∀ vs H Q E, spW Ts K wOrder vs H Q E → spOrder vs H Q E := fun vs H Q E q => by
  obtain ⟨M, S, pvs, s, r, j, n, rfl, hj, h1, q⟩ := q
  obtain ⟨u, v, rfl, r1, r2⟩ := r.two
  cases r1; cases r2
  refine ⟨_, _, n, rfl, s.ob j _ hj, h1, fun l xs H' hl hl' hp J k => ?_⟩
  obtain ⟨s1, t1⟩ := s.jarKp hj J k
  have no := (s.free hl).1
  have s2 : Sim Ts K (M.add S.length l l) (S ++ [.lst (xs.map natP)]) H' := s1.take no no ⟨rfl, _, hl', rp_nats _⟩
  have t2 : Stp Ts K M S.length H (M.add S.length l l) (S ++ [Ob.lst (xs.map natP)]).length H' := by
    rw [List.length_append, List.length_singleton]; exact t1.take hl hl
  refine q xs hp _ _ _ t2 s2 ?_
  have := RP.ref (K := K) (M := M.add S.length l l) (n := (S ++ [Ob.lst (xs.map natP)]).length) (H := H') (i := S.length) (by simp)
  rw [M.add_m] at this
  exact this
def wNet : WC := fun vs S Q => ∃ (j wd mo : Nat), vs = [.ref j, natP wd, natP mo] ∧ S[j]? = some .jar ∧ 1 ≤ wd ∧ wd ≤ 16 ∧ mo ≤ 160 ∧ ∀ N : Net, N.Ok → N.w ≤ wd → N.sw.length ≤ mo → Q (netP N) S
theorem mo_net : MoC wNet := fun xs S Q Q' ⟨j, wd, m, e, h1, h2, h3, h4, q⟩ k => ⟨j, wd, m, e, h1, h2, h3, h4, fun N a b c => k _ _ (q N a b c)⟩
theorem net_imp {K : PySem.W.Frag} : ∀ vs H Q E, spW Ts K wNet vs H Q E → spNet vs H Q E := fun vs H Q E q => by
  obtain ⟨M, S, pvs, s, r, j, wd, m, rfl, hj, h1, h2, h3, q⟩ := q
  cases r with
  | cons r1 rr =>
    obtain ⟨u, v, rfl, r2, r3⟩ := rr.two
    cases r1; cases r2; cases r3
    refine ⟨_, _, wd, m, rfl, s.ob j _ hj, h1, h2, h3, fun p N H' a b c d J k => ?_⟩
    obtain ⟨s1, t1⟩ := s.jarKp hj J k
    exact q N a b c M H' _ t1 s1 (rp_net d)
end L4
set_option Elab.async false
set_option linter.all false
set_option maxRecDepth 100000
namespace L4
open PySem PySem.Spec PyProof.Rows L2 L3
section
variable {P : Program} {w : World} {K : PySem.W.Frag} {mg : Str → Option Value} {base : Heap}
mutual
inductive EqW (S : Sto) : Nat → PV → PV → Prop
  | non {n : Nat} : EqW S (n + 1) .non .non
  | bl {n : Nat} (b : Bool) : EqW S (n + 1) (.bl b) (.bl b)
  | int {n : Nat} (i : Int) : EqW S (n + 1) (.int i) (.int i)
  | str {n : Nat} (x : Str) : EqW S (n + 1) (.str x) (.str x)
  | tup {n : Nat} {xs ys : List PV} : EqWs S n xs ys → xs.length ≤ 100000 → EqW S (n + 1) (.tup xs) (.tup ys)
  | lst {n : Nat} {i j : Nat} {xs ys : List PV} : S[i]? = some (.lst xs) → S[j]? = some (.lst ys) → EqWs S n xs ys → xs.length ≤ 100000 → EqW S (n + 1) (.ref i) (.ref j)
inductive EqWs (S : Sto) : Nat → List PV → List PV → Prop
  | nil {n : Nat} : EqWs S n [] []
  | cons {n : Nat} {x y : PV} {xs ys : List PV} : EqW S n x y → EqWs S n xs ys → EqWs S n (x :: xs) (y :: ys)
end
theorem EqWs.length {S : Sto} {n : Nat} : ∀ {xs ys : List PV}, EqWs S n xs ys → xs.length = ys.length
  | _, _, .nil => rfl
  | _, _, .cons _ t => by rw [List.length_cons, List.length_cons, EqWs.length t]
theorem EqWs.mem {S : Sto} {n : Nat} : ∀ {xs ys : List PV}, EqWs S n xs ys → ∀ p ∈ xs.zip ys, EqW S n p.1 p.2
  | _, _, .nil, p, h => by simp at h
  | _, _, .cons a t, p, h => by
    rw [List.zip_cons_cons] at h
    rcases List.mem_cons.mp h with rfl | h
    · exact a
    · exact EqWs.mem t p h
theorem EqWs.map {α : Type} {S : Sto} {n : Nat} (f : α → PV) : ∀ {l : List α}, (∀ a ∈ l, EqW S n (f a) (f a)) → EqWs S n (l.map f) (l.map f)
  | [], _ => .nil
  | a :: l, h => .cons (h a List.mem_cons_self) (EqWs.map f fun b hb => h b (List.mem_cons_of_mem _ hb))
def wSame (n : Nat) : WC := ctrF (fun p : PV × PV => [p.1, p.2]) (fun p S => EqW S n p.1 p.2) (fun _ => .bl true)
theorem mo_same (n : Nat) : MoC (wSame n) := mo_ctrF
theorem emp_same (pvs : List PV) (S : Sto) (Q : WQ) : ¬ wSame 0 pvs S Q := fun ⟨a, _, h, _⟩ => by cases h
abbrev s_law_same : Stmt := top 20
theorem sc_law_same : FnScope ["found", "due", "one", "other"] ["found", "due"] (defScope s_law_same) := ⟨rfl, rfl, rfl, by decide +kernel, rfl, by decide +kernel, by decide +kernel⟩
set_option maxHeartbeats 1000000 in
theorem ok_law_same {f : Addr} {fd : FuncData} (F : Fun K "_law_same" "_law_same" s_law_same f fd) (T : Tn mg) (hm : mg "_law_same" = some (.ref f)) (hb : Binds K fd ["found", "due"] [])  : ∀ n : Nat, FnOk P w K mg base CX0 (n + 1) f fd ["found", "due"] (spW Ts K (wSame n))
  | 0 => ⟨fun vs H Q E h => by obtain ⟨M, S, pvs, _, _, h⟩ := h; exact absurd h (emp_same _ _ _), fun A outer s H args us vs Q E _ _ _ _ h => by obtain ⟨M, S, pvs, _, _, h⟩ := h; exact absurd h (emp_same _ _ _)⟩
  | n + 1 => by
    have D_self : DefW Ts P w K mg base "_law_same" (n + 1) ["found", "due"] (wSame n) := ⟨⟨f, fd, ok_law_same F T hm hb  n, hm, F.kp, hb⟩, mo_same n⟩
    have e : n + 1 + 1 = n + 1 + 1 := by omega
    rw [e]
    refine ok_body (k := n + 1) F sc_law_same (fun pvs S Q h => by obtain ⟨a, rfl, _⟩ := h; rfl) (fun cdv A outer s H E hr => ?_)
    have hu := hu_of hr
    refine ⟨_, (sss_cons (ss_if (st_cmp s_is (sv 1) se_non (nomark _)) (sss_one (ss_ret (se_cmp s_is (sv 0) se_non (nomark _)))) sss_nil)
      (sss_cons (ss_if (st_val (se_callB c_isi (by rfl) T.isinstance_ (by decide +kernel) (sa_cons (sv 1) (sa_cons (se_ty (n := "bool") (by rfl) T.bool_ (by decide +kernel)) sa_nil)))) (sss_one (ss_ret (se_and (se_callB c_isi (by rfl) T.isinstance_ (by decide +kernel) (sa_cons (sv 0) (sa_cons (se_ty (n := "bool") (by rfl) T.bool_ (by decide +kernel)) sa_nil))) (se_one (se_cmp (s_eq hr.units) (sv 0) (sv 1) (nomark _)))))) sss_nil)
      (sss_cons (ss_if (st_val (se_callB c_isi (by rfl) T.isinstance_ (by decide +kernel) (sa_cons (sv 1) (sa_cons (se_ty (n := "int") (by rfl) T.int_ (by decide +kernel)) sa_nil)))) (sss_one (ss_ret (se_and (se_callB c_isi (by rfl) T.isinstance_ (by decide +kernel) (sa_cons (sv 0) (sa_cons (se_ty (n := "int") (by rfl) T.int_ (by decide +kernel)) sa_nil))) (se_and (se_not (se_callB c_isi (by rfl) T.isinstance_ (by decide +kernel) (sa_cons (sv 0) (sa_cons (se_ty (n := "bool") (by rfl) T.bool_ (by decide +kernel)) sa_nil)))) (se_one (se_cmp (s_eq hr.units) (sv 0) (sv 1) (nomark _))))))) sss_nil)
      (sss_cons (ss_if (st_val (se_callB c_isi (by rfl) T.isinstance_ (by decide +kernel) (sa_cons (sv 1) (sa_cons (se_ty (n := "str") (by rfl) T.str_ (by decide +kernel)) sa_nil)))) (sss_one (ss_ret (se_and (se_callB c_isi (by rfl) T.isinstance_ (by decide +kernel) (sa_cons (sv 0) (sa_cons (se_ty (n := "str") (by rfl) T.str_ (by decide +kernel)) sa_nil))) (se_one (se_cmp (s_eq hr.units) (sv 0) (sv 1) (nomark _)))))) sss_nil)
      (sss_cons (ss_if (SW.st (sw_or (st_cmp (s_ne hr.units) (se_callB c_isi (by rfl) T.isinstance_ (by decide +kernel) (sa_cons (sv 1) (sa_cons (se_ty (n := "tuple") (by rfl) T.tuple_ (by decide +kernel)) sa_nil))) (se_callB c_isi (by rfl) T.isinstance_ (by decide +kernel) (sa_cons (sv 0) (sa_cons (se_ty (n := "tuple") (by rfl) T.tuple_ (by decide +kernel)) sa_nil))) (nomark _)) (sw_or1 (st_cmp (s_ne hr.units) (se_callB c_isi (by rfl) T.isinstance_ (by decide +kernel) (sa_cons (sv 1) (sa_cons (se_ty (n := "list") (by rfl) T.list_ (by decide +kernel)) sa_nil))) (se_callB c_isi (by rfl) T.isinstance_ (by decide +kernel) (sa_cons (sv 0) (sa_cons (se_ty (n := "list") (by rfl) T.list_ (by decide +kernel)) sa_nil))) (nomark _))))) (sss_one (ss_ret se_bl)) sss_nil)
      (sss_cons (ss_if (st_cmp (s_ne hr.units) (se_callB c_len (by rfl) T.len_ (by decide +kernel) (sa_cons (sv 0) sa_nil)) (se_callB c_len (by rfl) T.len_ (by decide +kernel) (sa_cons (sv 1) sa_nil)) (nomark _)) (sss_one (ss_ret se_bl)) sss_nil)
      (sss_one (ss_ret (se_lcB (own := [("one", 2), ("other", 3)]) (g := (gTup K 2 (gCons (gName 2) (gCons (gName 3) gNil)))) (u_all rfl) (by rfl) T.all_ (by decide +kernel) rfl sc_law_same.nd (si_zip (by rfl) T.zip_ (sa_cons (sv 0) (sa_cons (sv 1) sa_nil))) (blkOk_by (own := [("one", 2), ("other", 3)]) (N := ["found", "due", "one", "other"]) (sc := defScope s_law_same) (by decide +kernel)) (fun _ _ _ _ _ => (pg_tup' (n := 2) (K := K) rfl rfl (pgs_cons (pg_name (i := 2) sc_law_same.nd rfl (by first | exact Or.inl rfl | exact Or.inr rfl)) (pgs_cons (pg_name (i := 3) sc_law_same.nd rfl (by first | exact Or.inl rfl | exact Or.inr rfl)) pgs_nil)))) (gr_tup (gr_cons (gr_name (i := 2) (by decide)) (gr_cons (gr_name (i := 3) (by decide)) gr_nil))) (mg_tup (mg_cons (mg_name _) (mg_cons (mg_name _) mg_nil))) (fun _ _ _ _ _ => sts_nil) (fun _ _ _ _ _ => (se_def D_self (hr.mono (by first | decide | omega)) (by rfl) (sa_cons (sv 2) (sa_cons (sv 3) sa_nil))))))))))))), fun pvs S Q hcl hca h => ?_⟩
    obtain ⟨⟨x, y⟩, rfl, hE, h⟩ := h
    have key : ∀ (k : Bool) (xs ys : List PV) (G : Sto → Prop), G S → EqWs S n xs ys → wLcGo (wgTup 2 (wgCons (wgName 2) (wgCons (wgName 3) wgNil))) wYes (wCall (wSame n) (wCons (wVar 2) (wCons (wVar 3) wNil))) [some x, some y, none, none] G (zipP xs ys) [] S (fun zs S2 => ∃ bs : List Bool, zs = bs.map PV.bl ∧ Fg S.length Q (.bl (bs.all id)) S2) := by
      intro k xs ys G hG hq
      refine lc_map (e := fun p : PV × PV => PV.tup [p.1, p.2]) (fun _ => PV.bl true) hG (fun p hp R hR => ?_) ?_
      · simp only [wSeq, wAsg, wRet, wRetN, wDrop, wIfS, wVar, wC, wOp, wCall, wCons, wNil, wTup, wTest, wAnd, wOr, wNot, wAndV, wOrV, wNotV, wIf, wNext, wgName, wgTup, wgCons, wgNil, wFor, wSq, wYes, wLcU, wLcV, wLc, uTuple, uAll, uAny, uSum, wNeg, wSl, wPart, wNoPart, rSlW_tup, rAddW, rI0W, rIW, rMulW, rEqW, rIsW, isNonP, seqW_tup, wLst, wipeW, wPar, wPut, wAug, wZip, wEnum, wRng1, wRng2, wChain, List.getElem?_cons_zero, List.getElem?_cons_succ, List.set_cons_zero, List.set_cons_succ, Option.some.injEq, exists_eq_left', exists_eq_left, exists_and_left, exists_eq_right, exists_eq_right', and_assoc, true_and, and_true, List.cons.injEq, and_self, if_true, if_false, Bool.false_eq_true, PV.int.injEq, PV.bl.injEq, PV.tup.injEq, PV.ref.injEq, PV.str.injEq, Bool.false_xor, Bool.true_xor, List.length_cons, List.length_nil, Nat.reduceAdd, Nat.reduceLeDiff, Nat.reduceEqDiff, Prod.mk.injEq, cutP_map, cutP_0, cutP_1, cutP_2, cutP_all, decide_eq_true_eq, startW, endsW, List.map_cons, List.map_nil, List.cons_append, List.nil_append, List.replicate, Nat.reduceSub, rIxW_tup, rLenW_tup, rListW_tup, wMeth, wRngL, wRngT, rIsiW_eq, tyP_non, tyP_bl, tyP_int, tyP_str, tyP_tup, isi_NoneType_int, isi_NoneType_bool, isi_NoneType_str, isi_NoneType_list, isi_NoneType_tuple, isi_NoneType_dict, isi_bool_int, isi_bool_bool, isi_bool_str, isi_bool_list, isi_bool_tuple, isi_bool_dict, isi_int_int, isi_int_bool, isi_int_str, isi_int_list, isi_int_tuple, isi_int_dict, isi_str_int, isi_str_bool, isi_str_str, isi_str_list, isi_str_tuple, isi_str_dict, isi_tuple_int, isi_tuple_bool, isi_tuple_str, isi_tuple_list, isi_tuple_tuple, isi_tuple_dict, isi_list_int, isi_list_bool, isi_list_str, isi_list_list, isi_list_tuple, isi_list_dict, isi_dict_int, isi_dict_bool, isi_dict_str, isi_dict_list, isi_dict_tuple, isi_dict_dict, decide_true, decide_false, Bool.not_true, Bool.not_false, Bool.not_eq_true', decide_eq_false_iff_not, ite_not, natP, swP, natsP, intsP, atI_0, atI_1, atI_2, atI_3, wLcU2, wLcV2, wTupZip, wZipN, wStep, wRev, wMaxD, wMinD, rInW_ints]
        exact ⟨(p.1, p.2), rfl, hq.mem p hp, hR⟩
      · refine ⟨(xs.zip ys).map fun _ => true, by simp, ?_⟩
        have e : ((xs.zip ys).map fun _ => true).all id = true := by simp
        rw [e]
        exact fg_here h
    cases hE with
    | non => simp only [wSeq, wAsg, wRet, wRetN, wDrop, wIfS, wVar, wC, wOp, wCall, wCons, wNil, wTup, wTest, wAnd, wOr, wNot, wAndV, wOrV, wNotV, wIf, wNext, wgName, wgTup, wgCons, wgNil, wFor, wSq, wYes, wLcU, wLcV, wLc, uTuple, uAll, uAny, uSum, wNeg, wSl, wPart, wNoPart, rSlW_tup, rAddW, rI0W, rIW, rMulW, rEqW, rIsW, isNonP, seqW_tup, wLst, wipeW, wPar, wPut, wAug, wZip, wEnum, wRng1, wRng2, wChain, List.getElem?_cons_zero, List.getElem?_cons_succ, List.set_cons_zero, List.set_cons_succ, Option.some.injEq, exists_eq_left', exists_eq_left, exists_and_left, exists_eq_right, exists_eq_right', and_assoc, true_and, and_true, List.cons.injEq, and_self, if_true, if_false, Bool.false_eq_true, PV.int.injEq, PV.bl.injEq, PV.tup.injEq, PV.ref.injEq, PV.str.injEq, Bool.false_xor, Bool.true_xor, List.length_cons, List.length_nil, Nat.reduceAdd, Nat.reduceLeDiff, Nat.reduceEqDiff, Prod.mk.injEq, cutP_map, cutP_0, cutP_1, cutP_2, cutP_all, decide_eq_true_eq, startW, endsW, List.map_cons, List.map_nil, List.cons_append, List.nil_append, List.replicate, Nat.reduceSub, rIxW_tup, rLenW_tup, rListW_tup, wMeth, wRngL, wRngT, rIsiW_eq, tyP_non, tyP_bl, tyP_int, tyP_str, tyP_tup, isi_NoneType_int, isi_NoneType_bool, isi_NoneType_str, isi_NoneType_list, isi_NoneType_tuple, isi_NoneType_dict, isi_bool_int, isi_bool_bool, isi_bool_str, isi_bool_list, isi_bool_tuple, isi_bool_dict, isi_int_int, isi_int_bool, isi_int_str, isi_int_list, isi_int_tuple, isi_int_dict, isi_str_int, isi_str_bool, isi_str_str, isi_str_list, isi_str_tuple, isi_str_dict, isi_tuple_int, isi_tuple_bool, isi_tuple_str, isi_tuple_list, isi_tuple_tuple, isi_tuple_dict, isi_list_int, isi_list_bool, isi_list_str, isi_list_list, isi_list_tuple, isi_list_dict, isi_dict_int, isi_dict_bool, isi_dict_str, isi_dict_list, isi_dict_tuple, isi_dict_dict, decide_true, decide_false, Bool.not_true, Bool.not_false, Bool.not_eq_true', decide_eq_false_iff_not, ite_not, natP, swP, natsP, intsP, atI_0, atI_1, atI_2, atI_3, wLcU2, wLcV2, wTupZip, wZipN, wStep, wRev, wMaxD, wMinD, rInW_ints]; exact fg_here h
    | bl b => simp only [wSeq, wAsg, wRet, wRetN, wDrop, wIfS, wVar, wC, wOp, wCall, wCons, wNil, wTup, wTest, wAnd, wOr, wNot, wAndV, wOrV, wNotV, wIf, wNext, wgName, wgTup, wgCons, wgNil, wFor, wSq, wYes, wLcU, wLcV, wLc, uTuple, uAll, uAny, uSum, wNeg, wSl, wPart, wNoPart, rSlW_tup, rAddW, rI0W, rIW, rMulW, rEqW, rIsW, isNonP, seqW_tup, wLst, wipeW, wPar, wPut, wAug, wZip, wEnum, wRng1, wRng2, wChain, List.getElem?_cons_zero, List.getElem?_cons_succ, List.set_cons_zero, List.set_cons_succ, Option.some.injEq, exists_eq_left', exists_eq_left, exists_and_left, exists_eq_right, exists_eq_right', and_assoc, true_and, and_true, List.cons.injEq, and_self, if_true, if_false, Bool.false_eq_true, PV.int.injEq, PV.bl.injEq, PV.tup.injEq, PV.ref.injEq, PV.str.injEq, Bool.false_xor, Bool.true_xor, List.length_cons, List.length_nil, Nat.reduceAdd, Nat.reduceLeDiff, Nat.reduceEqDiff, Prod.mk.injEq, cutP_map, cutP_0, cutP_1, cutP_2, cutP_all, decide_eq_true_eq, startW, endsW, List.map_cons, List.map_nil, List.cons_append, List.nil_append, List.replicate, Nat.reduceSub, rIxW_tup, rLenW_tup, rListW_tup, wMeth, wRngL, wRngT, rIsiW_eq, tyP_non, tyP_bl, tyP_int, tyP_str, tyP_tup, isi_NoneType_int, isi_NoneType_bool, isi_NoneType_str, isi_NoneType_list, isi_NoneType_tuple, isi_NoneType_dict, isi_bool_int, isi_bool_bool, isi_bool_str, isi_bool_list, isi_bool_tuple, isi_bool_dict, isi_int_int, isi_int_bool, isi_int_str, isi_int_list, isi_int_tuple, isi_int_dict, isi_str_int, isi_str_bool, isi_str_str, isi_str_list, isi_str_tuple, isi_str_dict, isi_tuple_int, isi_tuple_bool, isi_tuple_str, isi_tuple_list, isi_tuple_tuple, isi_tuple_dict, isi_list_int, isi_list_bool, isi_list_str, isi_list_list, isi_list_tuple, isi_list_dict, isi_dict_int, isi_dict_bool, isi_dict_str, isi_dict_list, isi_dict_tuple, isi_dict_dict, decide_true, decide_false, Bool.not_true, Bool.not_false, Bool.not_eq_true', decide_eq_false_iff_not, ite_not, natP, swP, natsP, intsP, atI_0, atI_1, atI_2, atI_3, wLcU2, wLcV2, wTupZip, wZipN, wStep, wRev, wMaxD, wMinD, rInW_ints]; exact fg_here h
    | int i => simp only [wSeq, wAsg, wRet, wRetN, wDrop, wIfS, wVar, wC, wOp, wCall, wCons, wNil, wTup, wTest, wAnd, wOr, wNot, wAndV, wOrV, wNotV, wIf, wNext, wgName, wgTup, wgCons, wgNil, wFor, wSq, wYes, wLcU, wLcV, wLc, uTuple, uAll, uAny, uSum, wNeg, wSl, wPart, wNoPart, rSlW_tup, rAddW, rI0W, rIW, rMulW, rEqW, rIsW, isNonP, seqW_tup, wLst, wipeW, wPar, wPut, wAug, wZip, wEnum, wRng1, wRng2, wChain, List.getElem?_cons_zero, List.getElem?_cons_succ, List.set_cons_zero, List.set_cons_succ, Option.some.injEq, exists_eq_left', exists_eq_left, exists_and_left, exists_eq_right, exists_eq_right', and_assoc, true_and, and_true, List.cons.injEq, and_self, if_true, if_false, Bool.false_eq_true, PV.int.injEq, PV.bl.injEq, PV.tup.injEq, PV.ref.injEq, PV.str.injEq, Bool.false_xor, Bool.true_xor, List.length_cons, List.length_nil, Nat.reduceAdd, Nat.reduceLeDiff, Nat.reduceEqDiff, Prod.mk.injEq, cutP_map, cutP_0, cutP_1, cutP_2, cutP_all, decide_eq_true_eq, startW, endsW, List.map_cons, List.map_nil, List.cons_append, List.nil_append, List.replicate, Nat.reduceSub, rIxW_tup, rLenW_tup, rListW_tup, wMeth, wRngL, wRngT, rIsiW_eq, tyP_non, tyP_bl, tyP_int, tyP_str, tyP_tup, isi_NoneType_int, isi_NoneType_bool, isi_NoneType_str, isi_NoneType_list, isi_NoneType_tuple, isi_NoneType_dict, isi_bool_int, isi_bool_bool, isi_bool_str, isi_bool_list, isi_bool_tuple, isi_bool_dict, isi_int_int, isi_int_bool, isi_int_str, isi_int_list, isi_int_tuple, isi_int_dict, isi_str_int, isi_str_bool, isi_str_str, isi_str_list, isi_str_tuple, isi_str_dict, isi_tuple_int, isi_tuple_bool, isi_tuple_str, isi_tuple_list, isi_tuple_tuple, isi_tuple_dict, isi_list_int, isi_list_bool, isi_list_str, isi_list_list, isi_list_tuple, isi_list_dict, isi_dict_int, isi_dict_bool, isi_dict_str, isi_dict_list, isi_dict_tuple, isi_dict_dict, decide_true, decide_false, Bool.not_true, Bool.not_false, Bool.not_eq_true', decide_eq_false_iff_not, ite_not, natP, swP, natsP, intsP, atI_0, atI_1, atI_2, atI_3, wLcU2, wLcV2, wTupZip, wZipN, wStep, wRev, wMaxD, wMinD, rInW_ints]; exact fg_here h
    | str z => simp only [wSeq, wAsg, wRet, wRetN, wDrop, wIfS, wVar, wC, wOp, wCall, wCons, wNil, wTup, wTest, wAnd, wOr, wNot, wAndV, wOrV, wNotV, wIf, wNext, wgName, wgTup, wgCons, wgNil, wFor, wSq, wYes, wLcU, wLcV, wLc, uTuple, uAll, uAny, uSum, wNeg, wSl, wPart, wNoPart, rSlW_tup, rAddW, rI0W, rIW, rMulW, rEqW, rIsW, isNonP, seqW_tup, wLst, wipeW, wPar, wPut, wAug, wZip, wEnum, wRng1, wRng2, wChain, List.getElem?_cons_zero, List.getElem?_cons_succ, List.set_cons_zero, List.set_cons_succ, Option.some.injEq, exists_eq_left', exists_eq_left, exists_and_left, exists_eq_right, exists_eq_right', and_assoc, true_and, and_true, List.cons.injEq, and_self, if_true, if_false, Bool.false_eq_true, PV.int.injEq, PV.bl.injEq, PV.tup.injEq, PV.ref.injEq, PV.str.injEq, Bool.false_xor, Bool.true_xor, List.length_cons, List.length_nil, Nat.reduceAdd, Nat.reduceLeDiff, Nat.reduceEqDiff, Prod.mk.injEq, cutP_map, cutP_0, cutP_1, cutP_2, cutP_all, decide_eq_true_eq, startW, endsW, List.map_cons, List.map_nil, List.cons_append, List.nil_append, List.replicate, Nat.reduceSub, rIxW_tup, rLenW_tup, rListW_tup, wMeth, wRngL, wRngT, rIsiW_eq, tyP_non, tyP_bl, tyP_int, tyP_str, tyP_tup, isi_NoneType_int, isi_NoneType_bool, isi_NoneType_str, isi_NoneType_list, isi_NoneType_tuple, isi_NoneType_dict, isi_bool_int, isi_bool_bool, isi_bool_str, isi_bool_list, isi_bool_tuple, isi_bool_dict, isi_int_int, isi_int_bool, isi_int_str, isi_int_list, isi_int_tuple, isi_int_dict, isi_str_int, isi_str_bool, isi_str_str, isi_str_list, isi_str_tuple, isi_str_dict, isi_tuple_int, isi_tuple_bool, isi_tuple_str, isi_tuple_list, isi_tuple_tuple, isi_tuple_dict, isi_list_int, isi_list_bool, isi_list_str, isi_list_list, isi_list_tuple, isi_list_dict, isi_dict_int, isi_dict_bool, isi_dict_str, isi_dict_list, isi_dict_tuple, isi_dict_dict, decide_true, decide_false, Bool.not_true, Bool.not_false, Bool.not_eq_true', decide_eq_false_iff_not, ite_not, natP, swP, natsP, intsP, atI_0, atI_1, atI_2, atI_3, wLcU2, wLcV2, wTupZip, wZipN, wStep, wRev, wMaxD, wMinD, rInW_ints]; exact fg_here h
    | @tup n xs ys hq hl => simp only [wSeq, wAsg, wRet, wRetN, wDrop, wIfS, wVar, wC, wOp, wCall, wCons, wNil, wTup, wTest, wAnd, wOr, wNot, wAndV, wOrV, wNotV, wIf, wNext, wgName, wgTup, wgCons, wgNil, wFor, wSq, wYes, wLcU, wLcV, wLc, uTuple, uAll, uAny, uSum, wNeg, wSl, wPart, wNoPart, rSlW_tup, rAddW, rI0W, rIW, rMulW, rEqW, rIsW, isNonP, seqW_tup, wLst, wipeW, wPar, wPut, wAug, wZip, wEnum, wRng1, wRng2, wChain, List.getElem?_cons_zero, List.getElem?_cons_succ, List.set_cons_zero, List.set_cons_succ, Option.some.injEq, exists_eq_left', exists_eq_left, exists_and_left, exists_eq_right, exists_eq_right', and_assoc, true_and, and_true, List.cons.injEq, and_self, if_true, if_false, Bool.false_eq_true, PV.int.injEq, PV.bl.injEq, PV.tup.injEq, PV.ref.injEq, PV.str.injEq, Bool.false_xor, Bool.true_xor, List.length_cons, List.length_nil, Nat.reduceAdd, Nat.reduceLeDiff, Nat.reduceEqDiff, Prod.mk.injEq, cutP_map, cutP_0, cutP_1, cutP_2, cutP_all, decide_eq_true_eq, startW, endsW, List.map_cons, List.map_nil, List.cons_append, List.nil_append, List.replicate, Nat.reduceSub, rIxW_tup, rLenW_tup, rListW_tup, wMeth, wRngL, wRngT, rIsiW_eq, tyP_non, tyP_bl, tyP_int, tyP_str, tyP_tup, isi_NoneType_int, isi_NoneType_bool, isi_NoneType_str, isi_NoneType_list, isi_NoneType_tuple, isi_NoneType_dict, isi_bool_int, isi_bool_bool, isi_bool_str, isi_bool_list, isi_bool_tuple, isi_bool_dict, isi_int_int, isi_int_bool, isi_int_str, isi_int_list, isi_int_tuple, isi_int_dict, isi_str_int, isi_str_bool, isi_str_str, isi_str_list, isi_str_tuple, isi_str_dict, isi_tuple_int, isi_tuple_bool, isi_tuple_str, isi_tuple_list, isi_tuple_tuple, isi_tuple_dict, isi_list_int, isi_list_bool, isi_list_str, isi_list_list, isi_list_tuple, isi_list_dict, isi_dict_int, isi_dict_bool, isi_dict_str, isi_dict_list, isi_dict_tuple, isi_dict_dict, decide_true, decide_false, Bool.not_true, Bool.not_false, Bool.not_eq_true', decide_eq_false_iff_not, ite_not, natP, swP, natsP, intsP, atI_0, atI_1, atI_2, atI_3, wLcU2, wLcV2, wTupZip, wZipN, wStep, wRev, wMaxD, wMinD, rInW_ints]; rw [if_pos (by rw [hq.length])]; exact ⟨by rw [zipP_length]; omega, key true xs ys _ trivial hq⟩
    | @lst n i j xs ys h1 h2 hq hl => simp only [wSeq, wAsg, wRet, wRetN, wDrop, wIfS, wVar, wC, wOp, wCall, wCons, wNil, wTup, wTest, wAnd, wOr, wNot, wAndV, wOrV, wNotV, wIf, wNext, wgName, wgTup, wgCons, wgNil, wFor, wSq, wYes, wLcU, wLcV, wLc, uTuple, uAll, uAny, uSum, wNeg, wSl, wPart, wNoPart, rSlW_tup, rAddW, rI0W, rIW, rMulW, rEqW, rIsW, isNonP, seqW_tup, wLst, wipeW, wPar, wPut, wAug, wZip, wEnum, wRng1, wRng2, wChain, List.getElem?_cons_zero, List.getElem?_cons_succ, List.set_cons_zero, List.set_cons_succ, Option.some.injEq, exists_eq_left', exists_eq_left, exists_and_left, exists_eq_right, exists_eq_right', and_assoc, true_and, and_true, List.cons.injEq, and_self, if_true, if_false, Bool.false_eq_true, PV.int.injEq, PV.bl.injEq, PV.tup.injEq, PV.ref.injEq, PV.str.injEq, Bool.false_xor, Bool.true_xor, List.length_cons, List.length_nil, Nat.reduceAdd, Nat.reduceLeDiff, Nat.reduceEqDiff, Prod.mk.injEq, cutP_map, cutP_0, cutP_1, cutP_2, cutP_all, decide_eq_true_eq, startW, endsW, List.map_cons, List.map_nil, List.cons_append, List.nil_append, List.replicate, Nat.reduceSub, rIxW_tup, rLenW_tup, rListW_tup, wMeth, wRngL, wRngT, rIsiW_eq, tyP_non, tyP_bl, tyP_int, tyP_str, tyP_tup, isi_NoneType_int, isi_NoneType_bool, isi_NoneType_str, isi_NoneType_list, isi_NoneType_tuple, isi_NoneType_dict, isi_bool_int, isi_bool_bool, isi_bool_str, isi_bool_list, isi_bool_tuple, isi_bool_dict, isi_int_int, isi_int_bool, isi_int_str, isi_int_list, isi_int_tuple, isi_int_dict, isi_str_int, isi_str_bool, isi_str_str, isi_str_list, isi_str_tuple, isi_str_dict, isi_tuple_int, isi_tuple_bool, isi_tuple_str, isi_tuple_list, isi_tuple_tuple, isi_tuple_dict, isi_list_int, isi_list_bool, isi_list_str, isi_list_list, isi_list_tuple, isi_list_dict, isi_dict_int, isi_dict_bool, isi_dict_str, isi_dict_list, isi_dict_tuple, isi_dict_dict, decide_true, decide_false, Bool.not_true, Bool.not_false, Bool.not_eq_true', decide_eq_false_iff_not, ite_not, natP, swP, natsP, intsP, atI_0, atI_1, atI_2, atI_3, wLcU2, wLcV2, wTupZip, wZipN, wStep, wRev, wMaxD, wMinD, rInW_ints, (tyP_lst h1), (tyP_lst h2), (rLenW_lst h1), (rLenW_lst h2), (seqW_ref h1), (seqW_ref h2)]; rw [if_pos (by rw [hq.length])]; exact ⟨by rw [zipP_length]; omega, key false xs ys _ ⟨seqW_ref h1, seqW_ref h2⟩ hq⟩
end
end L4
set_option Elab.async false
set_option linter.all false
set_option maxRecDepth 100000
namespace L4
open PySem PySem.Spec PyProof.Rows L2 L3
def Xn (S S' : Sto) : Prop := ∀ (i : Nat) (o : Ob), S[i]? = some o → S'[i]? = some o
theorem Xn.app (S G : Sto) : Xn S (S ++ G) := fun i o h => get_app h
theorem Xn.more {A B : Sto} (h : Xn A B) (G : Sto) : Xn A (B ++ G) := fun i o e => get_app (h i o e)
theorem Xn.trans {A B C : Sto} (h : Xn A B) (k : Xn B C) : Xn A C := fun i o e => k i o (h i o e)
theorem Xn.refl (S : Sto) : Xn S S := fun _ _ h => h
structure NetB (N : Net) : Prop where
  ok : N.Ok
  l160 : N.sw.length ≤ 160
def wNetText : WC := ctrF (fun N : Net => [netP N]) (fun N _ => NetB N) (fun N => .str (textT N.w N.sw N.ord))
def wSpelled : WC := fun vs S Q => ∃ a : Nat × List Nat, vs = [.ref a.1] ∧ (S[a.1]? = some (.lst (a.2.map natP)) ∧ a.2.length ≤ 1000 ∧ ∀ k ∈ a.2, k < 17) ∧ Q (.ref S.length) (S ++ [.dct (tabT a.2)])
theorem mo_spelled : MoC wSpelled := fun xs S Q Q' ⟨a, e, h, q⟩ k => ⟨a, e, h, k _ _ q⟩
def swW : Option (Nat × Nat) → Str
  | some p => swS p
  | none => Str.ofString ":"
def swR : Option (Nat × Nat) → PV
  | some p => swP p
  | none => .non
def wReadSwitch : WC := ctrF (fun a : Option (Nat × Nat) × Nat × Nat => [.str (swW a.1), .ref a.2.1]) (fun a S => S[a.2.1]? = some (.dct (tabT (List.range a.2.2))) ∧ a.2.2 ≤ 16 ∧ ∀ p, a.1 = some p → p.1 < a.2.2 ∧ p.2 < a.2.2 ∧ p.1 ≠ p.2) (fun a => swR a.1)
def RdAt (S : Sto) (N : Net) (i j : Nat) : Prop := NetB N ∧ S[i]? = some (.lst ((wordsT N.w N.sw N.ord).map PV.str)) ∧ S[j]? = some (.dct (tabT (List.range N.w)))
def wReadSwitches : WC := fun vs S Q => ∃ a : Net × Nat × Nat, vs = [.ref a.2.1, .ref a.2.2] ∧ RdAt S a.1 a.2.1 a.2.2 ∧ ∀ S', Xn S S' → Q (.tup (a.1.sw.map swP)) S'
theorem mo_readSwitches : MoC wReadSwitches := fun xs S Q Q' ⟨a, e, h, q⟩ k => ⟨a, e, h, fun S' x => k _ _ (q S' x)⟩
def wReadOrder : WC := fun vs S Q => ∃ a : Net × Nat × Nat, vs = [.ref a.2.1, natP (a.1.sw.length + 2), .ref a.2.2] ∧ RdAt S a.1 a.2.1 a.2.2 ∧ ∀ S', Xn S S' → Q (natsP a.1.ord) S'
theorem mo_readOrder : MoC wReadOrder := fun xs S Q Q' ⟨a, e, h, q⟩ k => ⟨a, e, h, fun S' x => k _ _ (q S' x)⟩
def wReadNet : WC := fun vs S Q => ∃ N : Net, vs = [.str (textT N.w N.sw N.ord)] ∧ NetB N ∧ ∀ S', Xn S S' → Q (netP N) S'
theorem mo_readNet : MoC wReadNet := fun xs S Q Q' ⟨a, e, h, q⟩ k => ⟨a, e, h, fun S' x => k _ _ (q S' x)⟩
theorem log_small {k : Nat} (h : k < 1000) : ((k : Int)).natAbs.log2 < 1920 := by
  rw [Int.natAbs_natCast]
  by_cases z : k = 0
  · rw [z]; decide
  · exact (Nat.log2_lt z).mpr (Nat.lt_of_lt_of_le h (by decide +kernel))
theorem set_two (S : Sto) (a b c : Ob) : (S ++ [a] ++ [b]).set S.length c = S ++ [c] ++ [b] := by
  rw [List.append_assoc, List.append_assoc, List.set_append_right _ _ (Nat.le_refl _), Nat.sub_self]; rfl
theorem set_three (S : Sto) (a b c d : Ob) : (S ++ [a] ++ [b] ++ [d]).set S.length c = S ++ [c] ++ [b] ++ [d] := by
  rw [List.append_assoc, List.append_assoc, List.append_assoc, List.append_assoc, List.set_append_right _ _ (Nat.le_refl _), Nat.sub_self]; rfl
theorem set_one (S : Sto) (a c : Ob) : (S ++ [a]).set S.length c = S ++ [c] := by
  rw [List.set_append_right _ _ (Nat.le_refl _), Nat.sub_self]; rfl
theorem cl_strT {n : Nat} {x : Str} : (PV.str x).Cl n := by simp [PV.Cl]
theorem words_map (N : Net) : (wordsT N.w N.sw N.ord).map PV.str = [PV.str (natS N.w)] ++ N.sw.map (fun p => PV.str (swS p)) ++ [PV.str (Str.ofString ":")] ++ N.ord.map (fun k => PV.str (natS k)) := by
  unfold wordsT
  simp
  rfl
theorem NetB.words {N : Net} (h : NetB N) : JoinOk (Str.ofString " ") (wordsT N.w N.sw N.ord) = true ∧ (textT N.w N.sw N.ord).length ≤ 1000000 ∧ Txt.split (textT N.w N.sw N.ord) (Str.ofString " ") = wordsT N.w N.sw N.ord := by
  have w16 := h.ok.w16
  have lor : N.ord.length = N.w := by rw [h.ok.ord.length_eq, List.length_range]
  refine words_ok (by omega) (fun p hp => ?_) (fun k hk => ?_) h.l160 (by omega)
  · obtain ⟨a, b, _⟩ := h.ok.sw p hp
    exact ⟨by omega, by omega⟩
  · have := List.mem_range.mp (h.ok.ord.mem_iff.mp hk)
    omega
theorem tab_len : ∀ n, n ≤ 16 → (tabT (List.range n)).length = n := fun n hn => by
  have : ∀ n : Fin 17, (tabT (List.range n.val)).length = n.val := by decide +kernel
  exact this ⟨n, by omega⟩
theorem tabW {n k : Nat} (hn : n ≤ 16) (h : k < n) : valP (tabT (List.range n)) (.inr (natS k)) = some (natP k) := tab_get (fun k hk => by have := List.mem_range.mp hk; omega) List.nodup_range (List.mem_range.mpr h)
theorem tabC {n : Nat} (hn : n ≤ 16) : valP (tabT (List.range n)) (.inr (Str.ofString ":")) = none := tab_not fun k hk => (natS_free k (by have := List.mem_range.mp hk; omega)).2.2.1
theorem nno {α : Type} {x : α} : ¬ (true ^^ (some x).isSome) = true := fun z => by cases z
theorem tupW_ref {i : Nat} {xs : List PV} {S : Sto} {Q : WQ} (h : S[i]? = some (.lst xs)) (q : Q (.tup xs) S) : rTupleW [.ref i] S Q := ⟨_, _, _, rfl, seqW_ref h, q⟩
section
variable {P : Program} {w : World} {K : PySem.W.Frag} {mg : Str → Option Value} {base : Heap}
abbrev s_net_text : Stmt := top 7
theorem sc_net_text : FnScope ["net", "width", "switches", "order", "words", "a", "b", "wire"] ["net"] (defScope s_net_text) := ⟨rfl, rfl, rfl, by decide +kernel, rfl, by decide +kernel, by decide +kernel⟩
set_option maxHeartbeats 1000000 in
theorem ok_net_text {f : Addr} {fd : FuncData} (F : Fun K "net_text" "net_text" s_net_text f fd) (T : Tn mg) {tk_COLON : Tok} (C_COLON : mg "COLON" = some (.str ":" tk_COLON)) : FnOk P w K mg base CX0 1 f fd ["net"] (spW Ts K wNetText) := by
  refine ok_body (k := 0) F sc_net_text (fun pvs S Q h => by obtain ⟨a, rfl, _⟩ := h; rfl) (fun cdv A outer s H E hr => ?_)
  have hu := hu_of hr
  refine ⟨_, (sss_cons (ss_asg (vs := [1, 2, 3]) (sv 0) (pg_tup (n := 3) rfl (pgs_cons (pg_name (i := 1) sc_net_text.nd rfl (by first | exact Or.inl rfl | exact Or.inr rfl)) (pgs_cons (pg_name (i := 2) sc_net_text.nd rfl (by first | exact Or.inl rfl | exact Or.inr rfl)) (pgs_cons (pg_name (i := 3) sc_net_text.nd rfl (by first | exact Or.inl rfl | exact Or.inr rfl)) pgs_nil)))) (gr_tup (gr_cons (gr_name (i := 1) (by decide)) (gr_cons (gr_name (i := 2) (by decide)) (gr_cons (gr_name (i := 3) (by decide)) gr_nil)))) (mg_tup (mg_cons (mg_name _) (mg_cons (mg_name _) (mg_cons (mg_name _) mg_nil)))))
      (sss_cons (ss_set (i := 4) sc_net_text.nd rfl (by first | exact Or.inl rfl | exact Or.inr rfl) (se_lst (sa_cons (se_callTy c_str (by rfl) T.str_ (by decide +kernel) (sa_cons (sv 1) sa_nil)) sa_nil)))
      (sss_cons (ss_expr (se_bm PySem.F.plainAttrs_list PySem.F.slot_list_extend PySem.F.type_list_extend m_extend (sv 4) (sa_cons (se_lc (own := [("a", 5), ("b", 6)]) (g := (gTup K 2 (gCons (gName 5) (gCons (gName 6) gNil)))) rfl sc_net_text.nd (si_seq (sv 2)) (blkOk_by (own := [("a", 5), ("b", 6)]) (N := ["net", "width", "switches", "order", "words", "a", "b", "wire"]) (sc := defScope s_net_text) (by decide +kernel)) (fun _ _ _ _ _ => (pg_tup' (n := 2) (K := K) rfl rfl (pgs_cons (pg_name (i := 5) sc_net_text.nd rfl (by first | exact Or.inl rfl | exact Or.inr rfl)) (pgs_cons (pg_name (i := 6) sc_net_text.nd rfl (by first | exact Or.inl rfl | exact Or.inr rfl)) pgs_nil)))) (gr_tup (gr_cons (gr_name (i := 5) (by decide)) (gr_cons (gr_name (i := 6) (by decide)) gr_nil))) (mg_tup (mg_cons (mg_name _) (mg_cons (mg_name _) mg_nil))) (fun _ _ _ _ _ => sts_nil) (fun _ _ _ _ _ => (se_fstrX (sjx_int (sv 5) (sjx_str (by decide +kernel) (sjx_int (sv 6) sjx_nil))) (by decide)))) sa_nil)))
      (sss_cons (ss_expr (se_bm PySem.F.plainAttrs_list PySem.F.slot_list_append PySem.F.type_list_append m_append (sv 4) (sa_cons (se_gstr (by rfl) C_COLON) sa_nil)))
      (sss_cons (ss_expr (se_bm PySem.F.plainAttrs_list PySem.F.slot_list_extend PySem.F.type_list_extend m_extend (sv 4) (sa_cons (se_lc (own := [("wire", 7)]) (g := (gName 7)) rfl sc_net_text.nd (si_seq (sv 3)) (blkOk_by (own := [("wire", 7)]) (N := ["net", "width", "switches", "order", "words", "a", "b", "wire"]) (sc := defScope s_net_text) (by decide +kernel)) (fun _ _ _ _ _ => (pg_name (i := 7) sc_net_text.nd rfl (by first | exact Or.inl rfl | exact Or.inr rfl))) (gr_name (i := 7) (by decide)) (mg_name _) (fun _ _ _ _ _ => sts_nil) (fun _ _ _ _ _ => (se_callTy c_str (by rfl) T.str_ (by decide +kernel) (sa_cons (sv 7) sa_nil)))) sa_nil)))
      (sss_one (ss_ret (se_bm PySem.F.plainAttrs_str PySem.F.slot_str_join PySem.F.type_str_join m_join se_str (sa_cons (sv 4) sa_nil))))))))), fun pvs S Q hcl hca h => ?_⟩
  obtain ⟨N, rfl, hN, h⟩ := h
  have ok := hN.ok
  have w16 := ok.w16
  have lor : N.ord.length = N.w := by rw [ok.ord.length_eq, List.length_range]
  have l160 := hN.l160
  unfold netP
  simp only [wSeq, wAsg, wRet, wRetN, wDrop, wIfS, wVar, wC, wOp, wCall, wCons, wNil, wTup, wTest, wAnd, wOr, wNot, wAndV, wOrV, wNotV, wIf, wNext, wgName, wgTup, wgCons, wgNil, wFor, wSq, wYes, wLcU, wLcV, wLc, uTuple, uAll, uAny, uSum, wNeg, wSl, wPart, wNoPart, rSlW_tup, isNonP, seqW_tup, wLst, wipeW, wPar, wPut, wAug, wZip, wEnum, wRng1, wRng2, wChain, List.getElem?_cons_zero, List.getElem?_cons_succ, List.set_cons_zero, List.set_cons_succ, Option.some.injEq, exists_eq_left', exists_eq_left, exists_and_left, exists_eq_right, exists_eq_right', and_assoc, true_and, and_true, List.cons.injEq, and_self, if_true, if_false, Bool.false_eq_true, PV.int.injEq, PV.bl.injEq, PV.tup.injEq, PV.ref.injEq, PV.str.injEq, Bool.false_xor, Bool.true_xor, List.length_cons, List.length_nil, Nat.reduceAdd, Nat.reduceLeDiff, Nat.reduceEqDiff, Prod.mk.injEq, cutP_map, cutP_0, cutP_1, cutP_2, cutP_all, decide_eq_true_eq, startW, endsW, List.map_cons, List.map_nil, List.cons_append, List.nil_append, List.replicate, Nat.reduceSub, rIxW_tup, rLenW_tup, rListW_tup, wMeth, wRngL, wRngT, rIsiW_eq, tyP_non, tyP_bl, tyP_int, tyP_str, tyP_tup, isi_NoneType_int, isi_NoneType_bool, isi_NoneType_str, isi_NoneType_list, isi_NoneType_tuple, isi_NoneType_dict, isi_bool_int, isi_bool_bool, isi_bool_str, isi_bool_list, isi_bool_tuple, isi_bool_dict, isi_int_int, isi_int_bool, isi_int_str, isi_int_list, isi_int_tuple, isi_int_dict, isi_str_int, isi_str_bool, isi_str_str, isi_str_list, isi_str_tuple, isi_str_dict, isi_tuple_int, isi_tuple_bool, isi_tuple_str, isi_tuple_list, isi_tuple_tuple, isi_tuple_dict, isi_list_int, isi_list_bool, isi_list_str, isi_list_list, isi_list_tuple, isi_list_dict, isi_dict_int, isi_dict_bool, isi_dict_str, isi_dict_list, isi_dict_tuple, isi_dict_dict, decide_true, decide_false, Bool.not_true, Bool.not_false, Bool.not_eq_true', decide_eq_false_iff_not, ite_not, natP, swP, natsP, intsP, atI_0, atI_1, atI_2, atI_3, wLcU2, wLcV2, wTupZip, wZipN, wStep, wRev, wMaxD, wMinD, rInW_ints, rEqW_ii, rEqW_bb, rEqW_ss, rIsW_n, rIsW_bb, rAddW_ii, rAddW_ss, rAddW_tt, rIW_ii, rI0W_ii, rMulW_ii, rMulW_ti, rIntW_i, rIntW_b, rMax2W_ii, rMin2W_ii, rStrW]
  refine ⟨log_small (by omega), .inl ⟨rfl, _, seqW_ref (get_new1 _ _)⟩, by rw [List.length_map]; omega, ?_⟩
  refine lc_map (e := swP) (fun p => PV.str (swS p)) trivial (fun p hp R hR => ?_) ?_
  · obtain ⟨p1, p2, _⟩ := ok.sw p hp
    simp only [wSeq, wAsg, wRet, wRetN, wDrop, wIfS, wVar, wC, wOp, wCall, wCons, wNil, wTup, wTest, wAnd, wOr, wNot, wAndV, wOrV, wNotV, wIf, wNext, wgName, wgTup, wgCons, wgNil, wFor, wSq, wYes, wLcU, wLcV, wLc, uTuple, uAll, uAny, uSum, wNeg, wSl, wPart, wNoPart, rSlW_tup, isNonP, seqW_tup, wLst, wipeW, wPar, wPut, wAug, wZip, wEnum, wRng1, wRng2, wChain, List.getElem?_cons_zero, List.getElem?_cons_succ, List.set_cons_zero, List.set_cons_succ, Option.some.injEq, exists_eq_left', exists_eq_left, exists_and_left, exists_eq_right, exists_eq_right', and_assoc, true_and, and_true, List.cons.injEq, and_self, if_true, if_false, Bool.false_eq_true, PV.int.injEq, PV.bl.injEq, PV.tup.injEq, PV.ref.injEq, PV.str.injEq, Bool.false_xor, Bool.true_xor, List.length_cons, List.length_nil, Nat.reduceAdd, Nat.reduceLeDiff, Nat.reduceEqDiff, Prod.mk.injEq, cutP_map, cutP_0, cutP_1, cutP_2, cutP_all, decide_eq_true_eq, startW, endsW, List.map_cons, List.map_nil, List.cons_append, List.nil_append, List.replicate, Nat.reduceSub, rIxW_tup, rLenW_tup, rListW_tup, wMeth, wRngL, wRngT, rIsiW_eq, tyP_non, tyP_bl, tyP_int, tyP_str, tyP_tup, isi_NoneType_int, isi_NoneType_bool, isi_NoneType_str, isi_NoneType_list, isi_NoneType_tuple, isi_NoneType_dict, isi_bool_int, isi_bool_bool, isi_bool_str, isi_bool_list, isi_bool_tuple, isi_bool_dict, isi_int_int, isi_int_bool, isi_int_str, isi_int_list, isi_int_tuple, isi_int_dict, isi_str_int, isi_str_bool, isi_str_str, isi_str_list, isi_str_tuple, isi_str_dict, isi_tuple_int, isi_tuple_bool, isi_tuple_str, isi_tuple_list, isi_tuple_tuple, isi_tuple_dict, isi_list_int, isi_list_bool, isi_list_str, isi_list_list, isi_list_tuple, isi_list_dict, isi_dict_int, isi_dict_bool, isi_dict_str, isi_dict_list, isi_dict_tuple, isi_dict_dict, decide_true, decide_false, Bool.not_true, Bool.not_false, Bool.not_eq_true', decide_eq_false_iff_not, ite_not, natP, swP, natsP, intsP, atI_0, atI_1, atI_2, atI_3, wLcU2, wLcV2, wTupZip, wZipN, wStep, wRev, wMaxD, wMinD, rInW_ints, rEqW_ii, rEqW_bb, rEqW_ss, rIsW_n, rIsW_bb, rAddW_ii, rAddW_ss, rAddW_tt, rIW_ii, rI0W_ii, rMulW_ii, rMulW_ti, rIntW_i, rIntW_b, rMax2W_ii, rMin2W_ii, wFstrX, wJX]
    refine ⟨⟨_, rfl⟩, log_small (by omega), by decide +kernel, ⟨_, rfl⟩, log_small (by omega), ?_⟩
    rw [Str.append_empty]
    exact hR
  rw [List.nil_append]
  refine ⟨S.length, _, _, _, rfl, rfl, get_app (get_new1 _ _), get_new1 _ _, by simp only [List.length_cons, List.length_nil, List.length_map]; omega, ?_⟩
  rw [set_two]
  refine ⟨.inl ⟨rfl, _, seqW_ref (get_app (get_new1 _ _))⟩, S.length, _, _, rfl, rfl, get_app (get_new1 _ _), by simp only [List.length_append, List.length_cons, List.length_nil, List.length_map]; omega, ?_⟩
  rw [set_two]
  refine ⟨.inl ⟨rfl, _, seqW_ref (get_app (get_new1 _ _))⟩, by rw [List.length_map]; omega, ?_⟩
  refine lc_map (e := natP) (fun k => PV.str (natS k)) trivial (fun k hk R hR => ?_) ?_
  · have := List.mem_range.mp (ok.ord.mem_iff.mp hk)
    simp only [wSeq, wAsg, wRet, wRetN, wDrop, wIfS, wVar, wC, wOp, wCall, wCons, wNil, wTup, wTest, wAnd, wOr, wNot, wAndV, wOrV, wNotV, wIf, wNext, wgName, wgTup, wgCons, wgNil, wFor, wSq, wYes, wLcU, wLcV, wLc, uTuple, uAll, uAny, uSum, wNeg, wSl, wPart, wNoPart, rSlW_tup, isNonP, seqW_tup, wLst, wipeW, wPar, wPut, wAug, wZip, wEnum, wRng1, wRng2, wChain, List.getElem?_cons_zero, List.getElem?_cons_succ, List.set_cons_zero, List.set_cons_succ, Option.some.injEq, exists_eq_left', exists_eq_left, exists_and_left, exists_eq_right, exists_eq_right', and_assoc, true_and, and_true, List.cons.injEq, and_self, if_true, if_false, Bool.false_eq_true, PV.int.injEq, PV.bl.injEq, PV.tup.injEq, PV.ref.injEq, PV.str.injEq, Bool.false_xor, Bool.true_xor, List.length_cons, List.length_nil, Nat.reduceAdd, Nat.reduceLeDiff, Nat.reduceEqDiff, Prod.mk.injEq, cutP_map, cutP_0, cutP_1, cutP_2, cutP_all, decide_eq_true_eq, startW, endsW, List.map_cons, List.map_nil, List.cons_append, List.nil_append, List.replicate, Nat.reduceSub, rIxW_tup, rLenW_tup, rListW_tup, wMeth, wRngL, wRngT, rIsiW_eq, tyP_non, tyP_bl, tyP_int, tyP_str, tyP_tup, isi_NoneType_int, isi_NoneType_bool, isi_NoneType_str, isi_NoneType_list, isi_NoneType_tuple, isi_NoneType_dict, isi_bool_int, isi_bool_bool, isi_bool_str, isi_bool_list, isi_bool_tuple, isi_bool_dict, isi_int_int, isi_int_bool, isi_int_str, isi_int_list, isi_int_tuple, isi_int_dict, isi_str_int, isi_str_bool, isi_str_str, isi_str_list, isi_str_tuple, isi_str_dict, isi_tuple_int, isi_tuple_bool, isi_tuple_str, isi_tuple_list, isi_tuple_tuple, isi_tuple_dict, isi_list_int, isi_list_bool, isi_list_str, isi_list_list, isi_list_tuple, isi_list_dict, isi_dict_int, isi_dict_bool, isi_dict_str, isi_dict_list, isi_dict_tuple, isi_dict_dict, decide_true, decide_false, Bool.not_true, Bool.not_false, Bool.not_eq_true', decide_eq_false_iff_not, ite_not, natP, swP, natsP, intsP, atI_0, atI_1, atI_2, atI_3, wLcU2, wLcV2, wTupZip, wZipN, wStep, wRev, wMaxD, wMinD, rInW_ints, rEqW_ii, rEqW_bb, rEqW_ss, rIsW_n, rIsW_bb, rAddW_ii, rAddW_ss, rAddW_tt, rIW_ii, rI0W_ii, rMulW_ii, rMulW_ti, rIntW_i, rIntW_b, rMax2W_ii, rMin2W_ii, rStrW]
    exact ⟨log_small (by omega), hR⟩
  rw [List.nil_append]
  refine ⟨S.length, _, _, _, rfl, rfl, get_app (get_app (get_new1 _ _)), get_new1 _ _, by simp only [List.length_append, List.length_cons, List.length_nil, List.length_map]; omega, ?_⟩
  rw [set_three]
  have e := words_map N
  refine ⟨.inr (.inl ⟨rfl, _, rfl⟩), _, S.length, wordsT N.w N.sw N.ord, rfl, rfl, ?_, hN.words.1, ?_⟩
  · rw [e]
    exact get_app (get_app (get_new1 _ _))
  · rw [List.append_assoc, List.append_assoc]
    exact fg_drop hcl cl_strT h
abbrev s_law_net_text : Stmt := top 19
theorem sc_law_net_text : FnScope ["net", "words", "a", "b", "wire"] ["net"] (defScope s_law_net_text) := ⟨rfl, rfl, rfl, by decide +kernel, rfl, by decide +kernel, by decide +kernel⟩
set_option maxHeartbeats 1000000 in
theorem ok_law_net_text {f : Addr} {fd : FuncData} (F : Fun K "_law_net_text" "_law_net_text" s_law_net_text f fd) (T : Tn mg)  : FnOk P w K mg base CX0 1 f fd ["net"] (spW Ts K wNetText) := by
  refine ok_body (k := 0) F sc_law_net_text (fun pvs S Q h => by obtain ⟨a, rfl, _⟩ := h; rfl) (fun cdv A outer s H E hr => ?_)
  have hu := hu_of hr
  refine ⟨_, (sss_cons (ss_set (i := 1) sc_law_net_text.nd rfl (by first | exact Or.inl rfl | exact Or.inr rfl) (se_op s_add (se_lst (sa_cons (se_callTy c_str (by rfl) T.str_ (by decide +kernel) (sa_cons (se_ix hu (sv 0) se_int (fun _ _ => rfl)) sa_nil)) sa_nil)) (se_lc (own := [("a", 2), ("b", 3)]) (g := (gTup K 2 (gCons (gName 2) (gCons (gName 3) gNil)))) rfl sc_law_net_text.nd (si_seq (se_ix hu (sv 0) se_int (fun _ _ => rfl))) (blkOk_by (own := [("a", 2), ("b", 3)]) (N := ["net", "words", "a", "b", "wire"]) (sc := defScope s_law_net_text) (by decide +kernel)) (fun _ _ _ _ _ => (pg_tup' (n := 2) (K := K) rfl rfl (pgs_cons (pg_name (i := 2) sc_law_net_text.nd rfl (by first | exact Or.inl rfl | exact Or.inr rfl)) (pgs_cons (pg_name (i := 3) sc_law_net_text.nd rfl (by first | exact Or.inl rfl | exact Or.inr rfl)) pgs_nil)))) (gr_tup (gr_cons (gr_name (i := 2) (by decide)) (gr_cons (gr_name (i := 3) (by decide)) gr_nil))) (mg_tup (mg_cons (mg_name _) (mg_cons (mg_name _) mg_nil))) (fun _ _ _ _ _ => sts_nil) (fun _ _ _ _ _ => (se_op s_add (se_op s_add (se_callTy c_str (by rfl) T.str_ (by decide +kernel) (sa_cons (sv 2) sa_nil)) se_str) (se_callTy c_str (by rfl) T.str_ (by decide +kernel) (sa_cons (sv 3) sa_nil)))))))
      (sss_one (ss_ret (se_bm PySem.F.plainAttrs_str PySem.F.slot_str_join PySem.F.type_str_join m_join se_str (sa_cons (se_op s_add (se_op s_add (sv 1) (se_lst (sa_cons se_str sa_nil))) (se_lc (own := [("wire", 4)]) (g := (gName 4)) rfl sc_law_net_text.nd (si_seq (se_ix hu (sv 0) se_int (fun _ _ => rfl))) (blkOk_by (own := [("wire", 4)]) (N := ["net", "words", "a", "b", "wire"]) (sc := defScope s_law_net_text) (by decide +kernel)) (fun _ _ _ _ _ => (pg_name (i := 4) sc_law_net_text.nd rfl (by first | exact Or.inl rfl | exact Or.inr rfl))) (gr_name (i := 4) (by decide)) (mg_name _) (fun _ _ _ _ _ => sts_nil) (fun _ _ _ _ _ => (se_callTy c_str (by rfl) T.str_ (by decide +kernel) (sa_cons (sv 4) sa_nil))))) sa_nil))))), fun pvs S Q hcl hca h => ?_⟩
  obtain ⟨N, rfl, hN, h⟩ := h
  have ok := hN.ok
  have w16 := ok.w16
  have lor : N.ord.length = N.w := by rw [ok.ord.length_eq, List.length_range]
  have l160 := hN.l160
  unfold netP
  simp only [wSeq, wAsg, wRet, wRetN, wDrop, wIfS, wVar, wC, wOp, wCall, wCons, wNil, wTup, wTest, wAnd, wOr, wNot, wAndV, wOrV, wNotV, wIf, wNext, wgName, wgTup, wgCons, wgNil, wFor, wSq, wYes, wLcU, wLcV, wLc, uTuple, uAll, uAny, uSum, wNeg, wSl, wPart, wNoPart, rSlW_tup, isNonP, seqW_tup, wLst, wipeW, wPar, wPut, wAug, wZip, wEnum, wRng1, wRng2, wChain, List.getElem?_cons_zero, List.getElem?_cons_succ, List.set_cons_zero, List.set_cons_succ, Option.some.injEq, exists_eq_left', exists_eq_left, exists_and_left, exists_eq_right, exists_eq_right', and_assoc, true_and, and_true, List.cons.injEq, and_self, if_true, if_false, Bool.false_eq_true, PV.int.injEq, PV.bl.injEq, PV.tup.injEq, PV.ref.injEq, PV.str.injEq, Bool.false_xor, Bool.true_xor, List.length_cons, List.length_nil, Nat.reduceAdd, Nat.reduceLeDiff, Nat.reduceEqDiff, Prod.mk.injEq, cutP_map, cutP_0, cutP_1, cutP_2, cutP_all, decide_eq_true_eq, startW, endsW, List.map_cons, List.map_nil, List.cons_append, List.nil_append, List.replicate, Nat.reduceSub, rIxW_tup, rLenW_tup, rListW_tup, wMeth, wRngL, wRngT, rIsiW_eq, tyP_non, tyP_bl, tyP_int, tyP_str, tyP_tup, isi_NoneType_int, isi_NoneType_bool, isi_NoneType_str, isi_NoneType_list, isi_NoneType_tuple, isi_NoneType_dict, isi_bool_int, isi_bool_bool, isi_bool_str, isi_bool_list, isi_bool_tuple, isi_bool_dict, isi_int_int, isi_int_bool, isi_int_str, isi_int_list, isi_int_tuple, isi_int_dict, isi_str_int, isi_str_bool, isi_str_str, isi_str_list, isi_str_tuple, isi_str_dict, isi_tuple_int, isi_tuple_bool, isi_tuple_str, isi_tuple_list, isi_tuple_tuple, isi_tuple_dict, isi_list_int, isi_list_bool, isi_list_str, isi_list_list, isi_list_tuple, isi_list_dict, isi_dict_int, isi_dict_bool, isi_dict_str, isi_dict_list, isi_dict_tuple, isi_dict_dict, decide_true, decide_false, Bool.not_true, Bool.not_false, Bool.not_eq_true', decide_eq_false_iff_not, ite_not, natP, swP, natsP, intsP, atI_0, atI_1, atI_2, atI_3, wLcU2, wLcV2, wTupZip, wZipN, wStep, wRev, wMaxD, wMinD, rInW_ints, rEqW_ii, rEqW_bb, rEqW_ss, rIsW_n, rIsW_bb, rAddW_ii, rAddW_ss, rAddW_tt, rIW_ii, rI0W_ii, rMulW_ii, rMulW_ti, rIntW_i, rIntW_b, rMax2W_ii, rMin2W_ii, rStrW]
  refine ⟨log_small (by omega), by rw [List.length_map]; omega, ?_⟩
  refine lc_map (e := swP) (fun p => PV.str (swS p)) trivial (fun p hp R hR => ?_) ?_
  · obtain ⟨p1, p2, _⟩ := ok.sw p hp
    have f1 := natS_free p.1 (by omega)
    have f2 := natS_free p.2 (by omega)
    have l1 : (natS p.1).length ≤ 2 := f1.2.1
    have l2 : (natS p.2).length ≤ 2 := f2.2.1
    have b1 : (Str.ofString "-").length = 1 := by decide +kernel
    simp only [wSeq, wAsg, wRet, wRetN, wDrop, wIfS, wVar, wC, wOp, wCall, wCons, wNil, wTup, wTest, wAnd, wOr, wNot, wAndV, wOrV, wNotV, wIf, wNext, wgName, wgTup, wgCons, wgNil, wFor, wSq, wYes, wLcU, wLcV, wLc, uTuple, uAll, uAny, uSum, wNeg, wSl, wPart, wNoPart, rSlW_tup, isNonP, seqW_tup, wLst, wipeW, wPar, wPut, wAug, wZip, wEnum, wRng1, wRng2, wChain, List.getElem?_cons_zero, List.getElem?_cons_succ, List.set_cons_zero, List.set_cons_succ, Option.some.injEq, exists_eq_left', exists_eq_left, exists_and_left, exists_eq_right, exists_eq_right', and_assoc, true_and, and_true, List.cons.injEq, and_self, if_true, if_false, Bool.false_eq_true, PV.int.injEq, PV.bl.injEq, PV.tup.injEq, PV.ref.injEq, PV.str.injEq, Bool.false_xor, Bool.true_xor, List.length_cons, List.length_nil, Nat.reduceAdd, Nat.reduceLeDiff, Nat.reduceEqDiff, Prod.mk.injEq, cutP_map, cutP_0, cutP_1, cutP_2, cutP_all, decide_eq_true_eq, startW, endsW, List.map_cons, List.map_nil, List.cons_append, List.nil_append, List.replicate, Nat.reduceSub, rIxW_tup, rLenW_tup, rListW_tup, wMeth, wRngL, wRngT, rIsiW_eq, tyP_non, tyP_bl, tyP_int, tyP_str, tyP_tup, isi_NoneType_int, isi_NoneType_bool, isi_NoneType_str, isi_NoneType_list, isi_NoneType_tuple, isi_NoneType_dict, isi_bool_int, isi_bool_bool, isi_bool_str, isi_bool_list, isi_bool_tuple, isi_bool_dict, isi_int_int, isi_int_bool, isi_int_str, isi_int_list, isi_int_tuple, isi_int_dict, isi_str_int, isi_str_bool, isi_str_str, isi_str_list, isi_str_tuple, isi_str_dict, isi_tuple_int, isi_tuple_bool, isi_tuple_str, isi_tuple_list, isi_tuple_tuple, isi_tuple_dict, isi_list_int, isi_list_bool, isi_list_str, isi_list_list, isi_list_tuple, isi_list_dict, isi_dict_int, isi_dict_bool, isi_dict_str, isi_dict_list, isi_dict_tuple, isi_dict_dict, decide_true, decide_false, Bool.not_true, Bool.not_false, Bool.not_eq_true', decide_eq_false_iff_not, ite_not, natP, swP, natsP, intsP, atI_0, atI_1, atI_2, atI_3, wLcU2, wLcV2, wTupZip, wZipN, wStep, wRev, wMaxD, wMinD, rInW_ints, rEqW_ii, rEqW_bb, rEqW_ss, rIsW_n, rIsW_bb, rAddW_ii, rAddW_ss, rAddW_tt, rIW_ii, rI0W_ii, rMulW_ii, rMulW_ti, rIntW_i, rIntW_b, rMax2W_ii, rMin2W_ii, rStrW]
    refine ⟨log_small (by omega), ?_, log_small (by omega), ?_, ?_⟩
    · show (natS p.1).length + _ ≤ _
      omega
    · show (natS p.1 ++ _).length + (natS p.2).length ≤ _
      rw [strLen_append]
      omega
    · rw [Str.append_assoc]
      exact hR
  rw [List.nil_append, rAddW_ll (get_app (get_new1 _ _)) (get_new1 _ _)]
  refine ⟨by simp only [List.length_cons, List.length_nil, List.length_map]; omega, .inr (.inl ⟨rfl, _, rfl⟩), ?_⟩
  rw [rAddW_ll (get_app (get_new1 _ _)) (get_new1 _ _)]
  refine ⟨by simp only [List.length_append, List.length_cons, List.length_nil, List.length_map]; omega, by rw [List.length_map]; omega, ?_⟩
  refine lc_map (e := natP) (fun k => PV.str (natS k)) trivial (fun k hk R hR => ?_) ?_
  · have := List.mem_range.mp (ok.ord.mem_iff.mp hk)
    simp only [wSeq, wAsg, wRet, wRetN, wDrop, wIfS, wVar, wC, wOp, wCall, wCons, wNil, wTup, wTest, wAnd, wOr, wNot, wAndV, wOrV, wNotV, wIf, wNext, wgName, wgTup, wgCons, wgNil, wFor, wSq, wYes, wLcU, wLcV, wLc, uTuple, uAll, uAny, uSum, wNeg, wSl, wPart, wNoPart, rSlW_tup, isNonP, seqW_tup, wLst, wipeW, wPar, wPut, wAug, wZip, wEnum, wRng1, wRng2, wChain, List.getElem?_cons_zero, List.getElem?_cons_succ, List.set_cons_zero, List.set_cons_succ, Option.some.injEq, exists_eq_left', exists_eq_left, exists_and_left, exists_eq_right, exists_eq_right', and_assoc, true_and, and_true, List.cons.injEq, and_self, if_true, if_false, Bool.false_eq_true, PV.int.injEq, PV.bl.injEq, PV.tup.injEq, PV.ref.injEq, PV.str.injEq, Bool.false_xor, Bool.true_xor, List.length_cons, List.length_nil, Nat.reduceAdd, Nat.reduceLeDiff, Nat.reduceEqDiff, Prod.mk.injEq, cutP_map, cutP_0, cutP_1, cutP_2, cutP_all, decide_eq_true_eq, startW, endsW, List.map_cons, List.map_nil, List.cons_append, List.nil_append, List.replicate, Nat.reduceSub, rIxW_tup, rLenW_tup, rListW_tup, wMeth, wRngL, wRngT, rIsiW_eq, tyP_non, tyP_bl, tyP_int, tyP_str, tyP_tup, isi_NoneType_int, isi_NoneType_bool, isi_NoneType_str, isi_NoneType_list, isi_NoneType_tuple, isi_NoneType_dict, isi_bool_int, isi_bool_bool, isi_bool_str, isi_bool_list, isi_bool_tuple, isi_bool_dict, isi_int_int, isi_int_bool, isi_int_str, isi_int_list, isi_int_tuple, isi_int_dict, isi_str_int, isi_str_bool, isi_str_str, isi_str_list, isi_str_tuple, isi_str_dict, isi_tuple_int, isi_tuple_bool, isi_tuple_str, isi_tuple_list, isi_tuple_tuple, isi_tuple_dict, isi_list_int, isi_list_bool, isi_list_str, isi_list_list, isi_list_tuple, isi_list_dict, isi_dict_int, isi_dict_bool, isi_dict_str, isi_dict_list, isi_dict_tuple, isi_dict_dict, decide_true, decide_false, Bool.not_true, Bool.not_false, Bool.not_eq_true', decide_eq_false_iff_not, ite_not, natP, swP, natsP, intsP, atI_0, atI_1, atI_2, atI_3, wLcU2, wLcV2, wTupZip, wZipN, wStep, wRev, wMaxD, wMinD, rInW_ints, rEqW_ii, rEqW_bb, rEqW_ss, rIsW_n, rIsW_bb, rAddW_ii, rAddW_ss, rAddW_tt, rIW_ii, rI0W_ii, rMulW_ii, rMulW_ti, rIntW_i, rIntW_b, rMax2W_ii, rMin2W_ii, rStrW]
    exact ⟨log_small (by omega), hR⟩
  rw [List.nil_append, rAddW_ll (get_app (get_new1 _ _)) (get_new1 _ _)]
  refine ⟨by simp only [List.length_append, List.length_cons, List.length_nil, List.length_map]; omega, ?_⟩
  have e := words_map N
  refine ⟨_, _, wordsT N.w N.sw N.ord, rfl, rfl, ?_, hN.words.1, ?_⟩
  · rw [e]
    exact get_new1 _ _
  · simp only [List.append_assoc]
    exact fg_drop hcl cl_strT h
abbrev s_spelled : Stmt := top 8
theorem sc_spelled : FnScope ["numbers", "number"] ["numbers"] (defScope s_spelled) := ⟨rfl, rfl, rfl, by decide +kernel, rfl, by decide +kernel, by decide +kernel⟩
set_option maxHeartbeats 1000000 in
theorem ok_spelled {f : Addr} {fd : FuncData} (F : Fun K "spelled" "spelled" s_spelled f fd) (T : Tn mg)  : FnOk P w K mg base CX0 1 f fd ["numbers"] (spW Ts K wSpelled) := by
  refine ok_body (k := 0) F sc_spelled (fun pvs S Q h => by obtain ⟨a, rfl, _⟩ := h; rfl) (fun cdv A outer s H E hr => ?_)
  have hu := hu_of hr
  refine ⟨_, (sss_one (ss_ret (se_dc (own := [("number", 1)]) (g := (gName 1)) rfl sc_spelled.nd (si_seq (sv 0)) (blkOk_by (own := [("number", 1)]) (N := ["numbers", "number"]) (sc := defScope s_spelled) (by decide +kernel)) (fun _ _ _ _ _ => (pg_name (i := 1) sc_spelled.nd rfl (by first | exact Or.inl rfl | exact Or.inr rfl))) (gr_name (i := 1) (by decide)) (mg_name _) (fun _ _ _ _ _ => sts_nil) (fun _ _ _ _ _ => (se_callTy c_str (by rfl) T.str_ (by decide +kernel) (sa_cons (sv 1) sa_nil))) (fun _ _ _ _ _ => (sv 1))))), fun pvs S Q hcl hca h => ?_⟩
  obtain ⟨⟨i, l⟩, rfl, ⟨hi, hlen, hl⟩, h⟩ := h
  dsimp only at *
  simp only [wSeq, wAsg, wRet, wRetN, wDrop, wIfS, wVar, wC, wOp, wCall, wCons, wNil, wTup, wTest, wAnd, wOr, wNot, wAndV, wOrV, wNotV, wIf, wNext, wgName, wgTup, wgCons, wgNil, wFor, wSq, wYes, wLcU, wLcV, wLc, uTuple, uAll, uAny, uSum, wNeg, wSl, wPart, wNoPart, rSlW_tup, isNonP, seqW_tup, wLst, wipeW, wPar, wPut, wAug, wZip, wEnum, wRng1, wRng2, wChain, List.getElem?_cons_zero, List.getElem?_cons_succ, List.set_cons_zero, List.set_cons_succ, Option.some.injEq, exists_eq_left', exists_eq_left, exists_and_left, exists_eq_right, exists_eq_right', and_assoc, true_and, and_true, List.cons.injEq, and_self, if_true, if_false, Bool.false_eq_true, PV.int.injEq, PV.bl.injEq, PV.tup.injEq, PV.ref.injEq, PV.str.injEq, Bool.false_xor, Bool.true_xor, List.length_cons, List.length_nil, Nat.reduceAdd, Nat.reduceLeDiff, Nat.reduceEqDiff, Prod.mk.injEq, cutP_map, cutP_0, cutP_1, cutP_2, cutP_all, decide_eq_true_eq, startW, endsW, List.map_cons, List.map_nil, List.cons_append, List.nil_append, List.replicate, Nat.reduceSub, rIxW_tup, rLenW_tup, rListW_tup, wMeth, wRngL, wRngT, rIsiW_eq, tyP_non, tyP_bl, tyP_int, tyP_str, tyP_tup, isi_NoneType_int, isi_NoneType_bool, isi_NoneType_str, isi_NoneType_list, isi_NoneType_tuple, isi_NoneType_dict, isi_bool_int, isi_bool_bool, isi_bool_str, isi_bool_list, isi_bool_tuple, isi_bool_dict, isi_int_int, isi_int_bool, isi_int_str, isi_int_list, isi_int_tuple, isi_int_dict, isi_str_int, isi_str_bool, isi_str_str, isi_str_list, isi_str_tuple, isi_str_dict, isi_tuple_int, isi_tuple_bool, isi_tuple_str, isi_tuple_list, isi_tuple_tuple, isi_tuple_dict, isi_list_int, isi_list_bool, isi_list_str, isi_list_list, isi_list_tuple, isi_list_dict, isi_dict_int, isi_dict_bool, isi_dict_str, isi_dict_list, isi_dict_tuple, isi_dict_dict, decide_true, decide_false, Bool.not_true, Bool.not_false, Bool.not_eq_true', decide_eq_false_iff_not, ite_not, natP, swP, natsP, intsP, atI_0, atI_1, atI_2, atI_3, wLcU2, wLcV2, wTupZip, wZipN, wStep, wRev, wMaxD, wMinD, rInW_ints, rEqW_ii, rEqW_bb, rEqW_ss, rIsW_n, rIsW_bb, rAddW_ii, rAddW_ss, rAddW_tt, rIW_ii, rI0W_ii, rMulW_ii, rMulW_ti, rIntW_i, rIntW_b, rMax2W_ii, rMin2W_ii, wDc, rStrW, seqW_ref hi]
  refine ⟨by rw [List.length_map]; omega, dc_mapT (e := natP) (fun k => .inr (natS k)) natP (seqW_ref hi) (fun k hk R hR => ?_) (fg_here h)⟩
  have := hl k hk
  simp only [wSeq, wAsg, wRet, wRetN, wDrop, wIfS, wVar, wC, wOp, wCall, wCons, wNil, wTup, wTest, wAnd, wOr, wNot, wAndV, wOrV, wNotV, wIf, wNext, wgName, wgTup, wgCons, wgNil, wFor, wSq, wYes, wLcU, wLcV, wLc, uTuple, uAll, uAny, uSum, wNeg, wSl, wPart, wNoPart, rSlW_tup, isNonP, seqW_tup, wLst, wipeW, wPar, wPut, wAug, wZip, wEnum, wRng1, wRng2, wChain, List.getElem?_cons_zero, List.getElem?_cons_succ, List.set_cons_zero, List.set_cons_succ, Option.some.injEq, exists_eq_left', exists_eq_left, exists_and_left, exists_eq_right, exists_eq_right', and_assoc, true_and, and_true, List.cons.injEq, and_self, if_true, if_false, Bool.false_eq_true, PV.int.injEq, PV.bl.injEq, PV.tup.injEq, PV.ref.injEq, PV.str.injEq, Bool.false_xor, Bool.true_xor, List.length_cons, List.length_nil, Nat.reduceAdd, Nat.reduceLeDiff, Nat.reduceEqDiff, Prod.mk.injEq, cutP_map, cutP_0, cutP_1, cutP_2, cutP_all, decide_eq_true_eq, startW, endsW, List.map_cons, List.map_nil, List.cons_append, List.nil_append, List.replicate, Nat.reduceSub, rIxW_tup, rLenW_tup, rListW_tup, wMeth, wRngL, wRngT, rIsiW_eq, tyP_non, tyP_bl, tyP_int, tyP_str, tyP_tup, isi_NoneType_int, isi_NoneType_bool, isi_NoneType_str, isi_NoneType_list, isi_NoneType_tuple, isi_NoneType_dict, isi_bool_int, isi_bool_bool, isi_bool_str, isi_bool_list, isi_bool_tuple, isi_bool_dict, isi_int_int, isi_int_bool, isi_int_str, isi_int_list, isi_int_tuple, isi_int_dict, isi_str_int, isi_str_bool, isi_str_str, isi_str_list, isi_str_tuple, isi_str_dict, isi_tuple_int, isi_tuple_bool, isi_tuple_str, isi_tuple_list, isi_tuple_tuple, isi_tuple_dict, isi_list_int, isi_list_bool, isi_list_str, isi_list_list, isi_list_tuple, isi_list_dict, isi_dict_int, isi_dict_bool, isi_dict_str, isi_dict_list, isi_dict_tuple, isi_dict_dict, decide_true, decide_false, Bool.not_true, Bool.not_false, Bool.not_eq_true', decide_eq_false_iff_not, ite_not, natP, swP, natsP, intsP, atI_0, atI_1, atI_2, atI_3, wLcU2, wLcV2, wTupZip, wZipN, wStep, wRev, wMaxD, wMinD, rInW_ints, rEqW_ii, rEqW_bb, rEqW_ss, rIsW_n, rIsW_bb, rAddW_ii, rAddW_ss, rAddW_tt, rIW_ii, rI0W_ii, rMulW_ii, rMulW_ti, rIntW_i, rIntW_b, rMax2W_ii, rMin2W_ii, rStrW]
  exact ⟨log_small (by omega), _, rfl, hR⟩
abbrev s_read_switch : Stmt := top 9
theorem sc_read_switch : FnScope ["word", "wires", "a", "dash", "b"] ["word", "wires"] (defScope s_read_switch) := ⟨rfl, rfl, rfl, by decide +kernel, rfl, by decide +kernel, by decide +kernel⟩
set_option maxHeartbeats 1000000 in
theorem ok_read_switch {f : Addr} {fd : FuncData} (F : Fun K "read_switch" "read_switch" s_read_switch f fd) (T : Tn mg)  : FnOk P w K mg base CX0 1 f fd ["word", "wires"] (spW Ts K wReadSwitch) := by
  refine ok_body (k := 0) F sc_read_switch (fun pvs S Q h => by obtain ⟨a, rfl, _⟩ := h; rfl) (fun cdv A outer s H E hr => ?_)
  have hu := hu_of hr
  refine ⟨_, (sss_cons (ss_asg (vs := [2, 3, 4]) (se_bm PySem.F.plainAttrs_str PySem.F.slot_str_partition PySem.F.type_str_partition m_partition (sv 0) (sa_cons se_str sa_nil)) (pg_tup (n := 3) rfl (pgs_cons (pg_name (i := 2) sc_read_switch.nd rfl (by first | exact Or.inl rfl | exact Or.inr rfl)) (pgs_cons (pg_name (i := 3) sc_read_switch.nd rfl (by first | exact Or.inl rfl | exact Or.inr rfl)) (pgs_cons (pg_name (i := 4) sc_read_switch.nd rfl (by first | exact Or.inl rfl | exact Or.inr rfl)) pgs_nil)))) (gr_tup (gr_cons (gr_name (i := 2) (by decide)) (gr_cons (gr_name (i := 3) (by decide)) (gr_cons (gr_name (i := 4) (by decide)) gr_nil)))) (mg_tup (mg_cons (mg_name _) (mg_cons (mg_name _) (mg_cons (mg_name _) mg_nil)))))
      (sss_cons (ss_if (SW.st (sw_or (st_cmp (s_notin hu) (sv 2) (sv 1) (by rfl)) (sw_or (st_cmp (s_notin hu) (sv 4) (sv 1) (by rfl)) (sw_or1 (st_cmp (s_eq hr.units) (sv 2) (sv 4) (nomark _)))))) (sss_one (ss_ret se_non)) sss_nil)
      (sss_one (ss_ret (se_tup (sa_cons (se_ix hu (sv 1) (sv 2) (fun _ _ => rfl)) (sa_cons (se_ix hu (sv 1) (sv 4) (fun _ _ => rfl)) sa_nil))))))), fun pvs S Q hcl hca h => ?_⟩
  obtain ⟨⟨o, i, n⟩, rfl, ⟨hi, hn, ho⟩, h⟩ := h
  dsimp only at *
  simp only [wSeq, wAsg, wRet, wRetN, wDrop, wIfS, wVar, wC, wOp, wCall, wCons, wNil, wTup, wTest, wAnd, wOr, wNot, wAndV, wOrV, wNotV, wIf, wNext, wgName, wgTup, wgCons, wgNil, wFor, wSq, wYes, wLcU, wLcV, wLc, uTuple, uAll, uAny, uSum, wNeg, wSl, wPart, wNoPart, rSlW_tup, isNonP, seqW_tup, wLst, wipeW, wPar, wPut, wAug, wZip, wEnum, wRng1, wRng2, wChain, List.getElem?_cons_zero, List.getElem?_cons_succ, List.set_cons_zero, List.set_cons_succ, Option.some.injEq, exists_eq_left', exists_eq_left, exists_and_left, exists_eq_right, exists_eq_right', and_assoc, true_and, and_true, List.cons.injEq, and_self, if_true, if_false, Bool.false_eq_true, PV.int.injEq, PV.bl.injEq, PV.tup.injEq, PV.ref.injEq, PV.str.injEq, Bool.false_xor, Bool.true_xor, List.length_cons, List.length_nil, Nat.reduceAdd, Nat.reduceLeDiff, Nat.reduceEqDiff, Prod.mk.injEq, cutP_map, cutP_0, cutP_1, cutP_2, cutP_all, decide_eq_true_eq, startW, endsW, List.map_cons, List.map_nil, List.cons_append, List.nil_append, List.replicate, Nat.reduceSub, rIxW_tup, rLenW_tup, rListW_tup, wMeth, wRngL, wRngT, rIsiW_eq, tyP_non, tyP_bl, tyP_int, tyP_str, tyP_tup, isi_NoneType_int, isi_NoneType_bool, isi_NoneType_str, isi_NoneType_list, isi_NoneType_tuple, isi_NoneType_dict, isi_bool_int, isi_bool_bool, isi_bool_str, isi_bool_list, isi_bool_tuple, isi_bool_dict, isi_int_int, isi_int_bool, isi_int_str, isi_int_list, isi_int_tuple, isi_int_dict, isi_str_int, isi_str_bool, isi_str_str, isi_str_list, isi_str_tuple, isi_str_dict, isi_tuple_int, isi_tuple_bool, isi_tuple_str, isi_tuple_list, isi_tuple_tuple, isi_tuple_dict, isi_list_int, isi_list_bool, isi_list_str, isi_list_list, isi_list_tuple, isi_list_dict, isi_dict_int, isi_dict_bool, isi_dict_str, isi_dict_list, isi_dict_tuple, isi_dict_dict, decide_true, decide_false, Bool.not_true, Bool.not_false, Bool.not_eq_true', decide_eq_false_iff_not, ite_not, natP, swP, natsP, intsP, atI_0, atI_1, atI_2, atI_3, wLcU2, wLcV2, wTupZip, wZipN, wStep, wRev, wMaxD, wMinD, rInW_ints, rEqW_ii, rEqW_bb, rEqW_ss, rIsW_n, rIsW_bb, rAddW_ii, rAddW_ss, rAddW_tt, rIW_ii, rI0W_ii, rMulW_ii, rMulW_ti, rIntW_i, rIntW_b, rMax2W_ii, rMin2W_ii]
  refine ⟨.inr (.inl ⟨rfl, _, rfl⟩), ?_⟩
  cases o with
  | none =>
    refine ⟨_, _, rfl, rfl, by decide +kernel, by decide +kernel, ?_⟩
    rw [show swW none = Str.ofString ":" from rfl, part_colon]
    refine ⟨_, rfl, rfl, _, _, rfl, _, _, rfl, _, _, rfl, rfl, .inr (.inl ⟨i, _, _, rfl, hi, rfl, ?_⟩)⟩
    rw [tabC hn]
    refine ⟨_, rfl, ?_⟩
    rw [if_pos (show (true ^^ (none : Option PV).isSome) = true from rfl)]
    exact fg_here h
  | some p =>
    obtain ⟨p1, p2, p3⟩ := ho p rfl
    have f1 := swS_free p (by omega) (by omega)
    refine ⟨_, _, rfl, rfl, by decide +kernel, by show (swS p).length ≤ _; omega, ?_⟩
    rw [show swW (some p) = swS p from rfl, part_sw p (by omega) (by omega)]
    refine ⟨_, rfl, rfl, _, _, rfl, _, _, rfl, _, _, rfl, rfl, .inr (.inl ⟨i, _, _, rfl, hi, rfl, ?_⟩)⟩
    rw [tabW hn p1]
    refine ⟨_, rfl, ?_⟩
    rw [if_neg nno]
    refine .inr (.inl ⟨i, _, _, rfl, hi, rfl, ?_⟩)
    rw [tabW hn p2]
    refine ⟨_, rfl, ?_⟩
    rw [if_neg nno, rEqW_ss]
    refine ⟨_, rfl, ?_⟩
    rw [decide_eq_false (fun z => p3 (natS_inj (by omega) (by omega) z)), if_neg (by decide), rIxW_dct hi]
    refine ⟨_, _, rfl, tabW hn p1, ?_⟩
    rw [rIxW_dct hi]
    exact ⟨_, _, rfl, tabW hn p2, fg_here h⟩
abbrev s_read_switches : Stmt := top 10
theorem sc_read_switches : FnScope ["words", "wires", "switches", "word", "switch"] ["words", "wires"] (defScope s_read_switches) := ⟨rfl, rfl, rfl, by decide +kernel, rfl, by decide +kernel, by decide +kernel⟩
set_option maxHeartbeats 1000000 in
theorem ok_read_switches {f : Addr} {fd : FuncData} (F : Fun K "read_switches" "read_switches" s_read_switches f fd) (T : Tn mg) {tk_MOST_SWITCHES : Tok} (C_MOST_SWITCHES : mg "MOST_SWITCHES" = some (.int 160 tk_MOST_SWITCHES)) (D_read_switch : DefW Ts P w K mg base "read_switch" 1 ["word", "wires"] wReadSwitch) : FnOk P w K mg base CX0 2 f fd ["words", "wires"] (spW Ts K wReadSwitches) := by
  refine ok_body (k := 1) F sc_read_switches (fun pvs S Q h => by obtain ⟨a, rfl, _⟩ := h; rfl) (fun cdv A outer s H E hr => ?_)
  have hu := hu_of hr
  refine ⟨_, (sss_cons (ss_set (i := 2) sc_read_switches.nd rfl (by first | exact Or.inl rfl | exact Or.inr rfl) (se_lst sa_nil))
      (sss_cons (ss_for (vs := [3]) PassesOwn.never rfl (si_seq (se_slice (sv 0) (so_some se_int) (so_some (se_op s_add (se_gint (i := 160) (by rfl) C_MOST_SWITCHES) se_int)))) (pg_name (i := 3) sc_read_switches.nd rfl (by first | exact Or.inl rfl | exact Or.inr rfl)) (gr_name (i := 3) (by decide)) (mg_name _) (sss_cons (ss_set (i := 4) sc_read_switches.nd rfl (by first | exact Or.inl rfl | exact Or.inr rfl) (se_def D_read_switch (hr.mono (by first | decide | omega)) (by rfl) (sa_cons (sv 3) (sa_cons (sv 1) sa_nil))))
      (sss_cons (ss_if (st_cmp s_is (sv 4) se_non (nomark _)) (sss_one (ss_ret (se_callTy c_tuple (by rfl) T.tuple_ (by decide +kernel) (sa_cons (sv 2) sa_nil)))) sss_nil)
      (sss_one (ss_expr (se_bm PySem.F.plainAttrs_list PySem.F.slot_list_append PySem.F.type_list_append m_append (sv 2) (sa_cons (sv 4) sa_nil)))))))
      (sss_one (ss_ret (se_callTy c_tuple (by rfl) T.tuple_ (by decide +kernel) (sa_cons (sv 2) sa_nil)))))), fun pvs S Q hcl hca h => ?_⟩
  obtain ⟨⟨N, i, j⟩, rfl, ⟨hN, hi, hj⟩, h⟩ := h
  dsimp only at *
  have ok := hN.ok
  have w16 := ok.w16
  have l160 := hN.l160
  simp only [wSeq, wAsg, wRet, wRetN, wDrop, wIfS, wVar, wC, wOp, wCall, wCons, wNil, wTup, wTest, wAnd, wOr, wNot, wAndV, wOrV, wNotV, wIf, wNext, wgName, wgTup, wgCons, wgNil, wFor, wSq, wYes, wLcU, wLcV, wLc, uTuple, uAll, uAny, uSum, wNeg, wSl, wPart, wNoPart, rSlW_tup, isNonP, seqW_tup, wLst, wipeW, wPar, wPut, wAug, wZip, wEnum, wRng1, wRng2, wChain, List.getElem?_cons_zero, List.getElem?_cons_succ, List.set_cons_zero, List.set_cons_succ, Option.some.injEq, exists_eq_left', exists_eq_left, exists_and_left, exists_eq_right, exists_eq_right', and_assoc, true_and, and_true, List.cons.injEq, and_self, if_true, if_false, Bool.false_eq_true, PV.int.injEq, PV.bl.injEq, PV.tup.injEq, PV.ref.injEq, PV.str.injEq, Bool.false_xor, Bool.true_xor, List.length_cons, List.length_nil, Nat.reduceAdd, Nat.reduceLeDiff, Nat.reduceEqDiff, Prod.mk.injEq, cutP_map, cutP_0, cutP_1, cutP_2, cutP_all, decide_eq_true_eq, startW, endsW, List.map_cons, List.map_nil, List.cons_append, List.nil_append, List.replicate, Nat.reduceSub, rIxW_tup, rLenW_tup, rListW_tup, wMeth, wRngL, wRngT, rIsiW_eq, tyP_non, tyP_bl, tyP_int, tyP_str, tyP_tup, isi_NoneType_int, isi_NoneType_bool, isi_NoneType_str, isi_NoneType_list, isi_NoneType_tuple, isi_NoneType_dict, isi_bool_int, isi_bool_bool, isi_bool_str, isi_bool_list, isi_bool_tuple, isi_bool_dict, isi_int_int, isi_int_bool, isi_int_str, isi_int_list, isi_int_tuple, isi_int_dict, isi_str_int, isi_str_bool, isi_str_str, isi_str_list, isi_str_tuple, isi_str_dict, isi_tuple_int, isi_tuple_bool, isi_tuple_str, isi_tuple_list, isi_tuple_tuple, isi_tuple_dict, isi_list_int, isi_list_bool, isi_list_str, isi_list_list, isi_list_tuple, isi_list_dict, isi_dict_int, isi_dict_bool, isi_dict_str, isi_dict_list, isi_dict_tuple, isi_dict_dict, decide_true, decide_false, Bool.not_true, Bool.not_false, Bool.not_eq_true', decide_eq_false_iff_not, ite_not, natP, swP, natsP, intsP, atI_0, atI_1, atI_2, atI_3, wLcU2, wLcV2, wTupZip, wZipN, wStep, wRev, wMaxD, wMinD, rInW_ints, rEqW_ii, rEqW_bb, rEqW_ss, rIsW_n, rIsW_bb, rAddW_ii, rAddW_ss, rAddW_tt, rIW_ii, rI0W_ii, rMulW_ii, rMulW_ti, rIntW_i, rIntW_b, rMax2W_ii, rMin2W_ii]
  refine .inr ⟨_, seqW_ref (get_app hi), ?_⟩
  obtain ⟨L, hL⟩ : ∃ L, L = cutP ((wordsT N.w N.sw N.ord).map PV.str) (some 1) (some (160 + 1)) := ⟨_, rfl⟩
  rw [← hL]
  have eL : L = ((N.sw.map (fun p => PV.str (swS p))) ++ PV.str (Str.ofString ":") :: N.ord.map (fun k => PV.str (natS k))).take 160 := by
    rw [hL, words_map]
    unfold cutP
    rw [show (some (1 : Int)) = some ((1 : Nat) : Int) from rfl, show (some ((160 : Int) + 1)) = some ((161 : Nat) : Int) from rfl, HT.sIx_nat, HT.sIx_nat]
    simp only [List.append_assoc, List.cons_append, List.nil_append, List.length_cons, List.length_append, List.length_map]
    rw [show min 1 (N.sw.length + (N.ord.length + 1) + 1) = 1 by omega, List.drop_succ_cons, List.drop_zero]
    by_cases c : N.sw.length + (N.ord.length + 1) + 1 ≤ 161
    · rw [Nat.min_eq_right c, List.take_of_length_le (by simp only [List.length_append, List.length_cons, List.length_map]; omega), List.take_of_length_le (by simp only [List.length_append, List.length_cons, List.length_map]; omega)]
    · rw [Nat.min_eq_left (by omega)]
  have lL : L.length = min 160 (N.sw.length + (N.ord.length + 1)) := by
    rw [eL, List.length_take, List.length_append, List.length_cons, List.length_map, List.length_map]
  have gL : ∀ k x, L[k]? = some x → k ≤ N.sw.length → (∃ p, N.sw[k]? = some p ∧ x = PV.str (swS p)) ∨ (k = N.sw.length ∧ x = PV.str (Str.ofString ":")) := fun k x hk hle => by
    rw [eL, List.getElem?_take] at hk
    split at hk
    · by_cases c : k < N.sw.length
      · rw [List.getElem?_append_left (by rw [List.length_map]; exact c), List.getElem?_map, List.getElem?_eq_getElem c] at hk
        exact .inl ⟨_, List.getElem?_eq_getElem c, by cases hk; rfl⟩
      · have : k = N.sw.length := by omega
        rw [List.getElem?_append_right (by rw [List.length_map]; omega), List.length_map, this, Nat.sub_self] at hk
        exact .inr ⟨this, by cases hk; rfl⟩
    · cases hk
  have Xs : ∀ xs : List PV, Xn S (S ++ [Ob.lst xs] ++ [Ob.lst L]) := fun xs => (Xn.app _ _).more _
  refine ⟨false, _, seqW_ref (get_new1 _ _), ?_⟩
  refine loop_inv (fun k τ' S' => k ≤ N.sw.length ∧ (∃ x3 x4, τ' = [some (PV.ref i), some (PV.ref j), some (PV.ref S.length), x3, x4]) ∧ S' = S ++ [Ob.lst ((N.sw.take k).map swP)] ++ [Ob.lst L]) ⟨Nat.zero_le _, ⟨_, _, rfl⟩, rfl⟩ ?_ ?_
  · rintro k x τ' S' R hk ⟨hle, ⟨x3, x4, rfl⟩, rfl⟩ hR
    refine ⟨seqW_ref (by rw [show (S ++ [Ob.lst []]).length = (S ++ [Ob.lst ((N.sw.take k).map swP)]).length by simp]; exact get_new1 _ _), ?_⟩
    rcases gL k x hk hle with ⟨p, hp, rfl⟩ | ⟨hke, rfl⟩
    · have hkl := (List.getElem?_eq_some_iff.mp hp).1
      simp only [wSeq, wAsg, wRet, wRetN, wDrop, wIfS, wVar, wC, wOp, wCall, wCons, wNil, wTup, wTest, wAnd, wOr, wNot, wAndV, wOrV, wNotV, wIf, wNext, wgName, wgTup, wgCons, wgNil, wFor, wSq, wYes, wLcU, wLcV, wLc, uTuple, uAll, uAny, uSum, wNeg, wSl, wPart, wNoPart, rSlW_tup, isNonP, seqW_tup, wLst, wipeW, wPar, wPut, wAug, wZip, wEnum, wRng1, wRng2, wChain, List.getElem?_cons_zero, List.getElem?_cons_succ, List.set_cons_zero, List.set_cons_succ, Option.some.injEq, exists_eq_left', exists_eq_left, exists_and_left, exists_eq_right, exists_eq_right', and_assoc, true_and, and_true, List.cons.injEq, and_self, if_true, if_false, Bool.false_eq_true, PV.int.injEq, PV.bl.injEq, PV.tup.injEq, PV.ref.injEq, PV.str.injEq, Bool.false_xor, Bool.true_xor, List.length_cons, List.length_nil, Nat.reduceAdd, Nat.reduceLeDiff, Nat.reduceEqDiff, Prod.mk.injEq, cutP_map, cutP_0, cutP_1, cutP_2, cutP_all, decide_eq_true_eq, startW, endsW, List.map_cons, List.map_nil, List.cons_append, List.nil_append, List.replicate, Nat.reduceSub, rIxW_tup, rLenW_tup, rListW_tup, wMeth, wRngL, wRngT, rIsiW_eq, tyP_non, tyP_bl, tyP_int, tyP_str, tyP_tup, isi_NoneType_int, isi_NoneType_bool, isi_NoneType_str, isi_NoneType_list, isi_NoneType_tuple, isi_NoneType_dict, isi_bool_int, isi_bool_bool, isi_bool_str, isi_bool_list, isi_bool_tuple, isi_bool_dict, isi_int_int, isi_int_bool, isi_int_str, isi_int_list, isi_int_tuple, isi_int_dict, isi_str_int, isi_str_bool, isi_str_str, isi_str_list, isi_str_tuple, isi_str_dict, isi_tuple_int, isi_tuple_bool, isi_tuple_str, isi_tuple_list, isi_tuple_tuple, isi_tuple_dict, isi_list_int, isi_list_bool, isi_list_str, isi_list_list, isi_list_tuple, isi_list_dict, isi_dict_int, isi_dict_bool, isi_dict_str, isi_dict_list, isi_dict_tuple, isi_dict_dict, decide_true, decide_false, Bool.not_true, Bool.not_false, Bool.not_eq_true', decide_eq_false_iff_not, ite_not, natP, swP, natsP, intsP, atI_0, atI_1, atI_2, atI_3, wLcU2, wLcV2, wTupZip, wZipN, wStep, wRev, wMaxD, wMinD, rInW_ints, rEqW_ii, rEqW_bb, rEqW_ss, rIsW_n, rIsW_bb, rAddW_ii, rAddW_ss, rAddW_tt, rIW_ii, rI0W_ii, rMulW_ii, rMulW_ti, rIntW_i, rIntW_b, rMax2W_ii, rMin2W_ii]
      refine ⟨(some p, j, N.w), rfl, ⟨get_app (get_app hj), w16, fun q hq => by cases hq; exact ok.sw p (List.mem_of_getElem? hp)⟩, ?_⟩
      dsimp only [swR]
      simp only [wSeq, wAsg, wRet, wRetN, wDrop, wIfS, wVar, wC, wOp, wCall, wCons, wNil, wTup, wTest, wAnd, wOr, wNot, wAndV, wOrV, wNotV, wIf, wNext, wgName, wgTup, wgCons, wgNil, wFor, wSq, wYes, wLcU, wLcV, wLc, uTuple, uAll, uAny, uSum, wNeg, wSl, wPart, wNoPart, rSlW_tup, isNonP, seqW_tup, wLst, wipeW, wPar, wPut, wAug, wZip, wEnum, wRng1, wRng2, wChain, List.getElem?_cons_zero, List.getElem?_cons_succ, List.set_cons_zero, List.set_cons_succ, Option.some.injEq, exists_eq_left', exists_eq_left, exists_and_left, exists_eq_right, exists_eq_right', and_assoc, true_and, and_true, List.cons.injEq, and_self, if_true, if_false, Bool.false_eq_true, PV.int.injEq, PV.bl.injEq, PV.tup.injEq, PV.ref.injEq, PV.str.injEq, Bool.false_xor, Bool.true_xor, List.length_cons, List.length_nil, Nat.reduceAdd, Nat.reduceLeDiff, Nat.reduceEqDiff, Prod.mk.injEq, cutP_map, cutP_0, cutP_1, cutP_2, cutP_all, decide_eq_true_eq, startW, endsW, List.map_cons, List.map_nil, List.cons_append, List.nil_append, List.replicate, Nat.reduceSub, rIxW_tup, rLenW_tup, rListW_tup, wMeth, wRngL, wRngT, rIsiW_eq, tyP_non, tyP_bl, tyP_int, tyP_str, tyP_tup, isi_NoneType_int, isi_NoneType_bool, isi_NoneType_str, isi_NoneType_list, isi_NoneType_tuple, isi_NoneType_dict, isi_bool_int, isi_bool_bool, isi_bool_str, isi_bool_list, isi_bool_tuple, isi_bool_dict, isi_int_int, isi_int_bool, isi_int_str, isi_int_list, isi_int_tuple, isi_int_dict, isi_str_int, isi_str_bool, isi_str_str, isi_str_list, isi_str_tuple, isi_str_dict, isi_tuple_int, isi_tuple_bool, isi_tuple_str, isi_tuple_list, isi_tuple_tuple, isi_tuple_dict, isi_list_int, isi_list_bool, isi_list_str, isi_list_list, isi_list_tuple, isi_list_dict, isi_dict_int, isi_dict_bool, isi_dict_str, isi_dict_list, isi_dict_tuple, isi_dict_dict, decide_true, decide_false, Bool.not_true, Bool.not_false, Bool.not_eq_true', decide_eq_false_iff_not, ite_not, natP, swP, natsP, intsP, atI_0, atI_1, atI_2, atI_3, wLcU2, wLcV2, wTupZip, wZipN, wStep, wRev, wMaxD, wMinD, rInW_ints, rEqW_ii, rEqW_bb, rEqW_ss, rIsW_n, rIsW_bb, rAddW_ii, rAddW_ss, rAddW_tt, rIW_ii, rI0W_ii, rMulW_ii, rMulW_ti, rIntW_i, rIntW_b, rMax2W_ii, rMin2W_ii]
      refine ⟨.inl ⟨rfl, _, seqW_ref (get_app (get_new1 _ _))⟩, S.length, _, _, rfl, rfl, get_app (get_new1 _ _), by rw [List.length_map, List.length_take]; omega, ?_⟩
      rw [set_two]
      refine hR _ _ ⟨by omega, ⟨_, _, rfl⟩, ?_⟩
      rw [List.take_succ, hp, List.map_append]
      rfl
    · simp only [wSeq, wAsg, wRet, wRetN, wDrop, wIfS, wVar, wC, wOp, wCall, wCons, wNil, wTup, wTest, wAnd, wOr, wNot, wAndV, wOrV, wNotV, wIf, wNext, wgName, wgTup, wgCons, wgNil, wFor, wSq, wYes, wLcU, wLcV, wLc, uTuple, uAll, uAny, uSum, wNeg, wSl, wPart, wNoPart, rSlW_tup, isNonP, seqW_tup, wLst, wipeW, wPar, wPut, wAug, wZip, wEnum, wRng1, wRng2, wChain, List.getElem?_cons_zero, List.getElem?_cons_succ, List.set_cons_zero, List.set_cons_succ, Option.some.injEq, exists_eq_left', exists_eq_left, exists_and_left, exists_eq_right, exists_eq_right', and_assoc, true_and, and_true, List.cons.injEq, and_self, if_true, if_false, Bool.false_eq_true, PV.int.injEq, PV.bl.injEq, PV.tup.injEq, PV.ref.injEq, PV.str.injEq, Bool.false_xor, Bool.true_xor, List.length_cons, List.length_nil, Nat.reduceAdd, Nat.reduceLeDiff, Nat.reduceEqDiff, Prod.mk.injEq, cutP_map, cutP_0, cutP_1, cutP_2, cutP_all, decide_eq_true_eq, startW, endsW, List.map_cons, List.map_nil, List.cons_append, List.nil_append, List.replicate, Nat.reduceSub, rIxW_tup, rLenW_tup, rListW_tup, wMeth, wRngL, wRngT, rIsiW_eq, tyP_non, tyP_bl, tyP_int, tyP_str, tyP_tup, isi_NoneType_int, isi_NoneType_bool, isi_NoneType_str, isi_NoneType_list, isi_NoneType_tuple, isi_NoneType_dict, isi_bool_int, isi_bool_bool, isi_bool_str, isi_bool_list, isi_bool_tuple, isi_bool_dict, isi_int_int, isi_int_bool, isi_int_str, isi_int_list, isi_int_tuple, isi_int_dict, isi_str_int, isi_str_bool, isi_str_str, isi_str_list, isi_str_tuple, isi_str_dict, isi_tuple_int, isi_tuple_bool, isi_tuple_str, isi_tuple_list, isi_tuple_tuple, isi_tuple_dict, isi_list_int, isi_list_bool, isi_list_str, isi_list_list, isi_list_tuple, isi_list_dict, isi_dict_int, isi_dict_bool, isi_dict_str, isi_dict_list, isi_dict_tuple, isi_dict_dict, decide_true, decide_false, Bool.not_true, Bool.not_false, Bool.not_eq_true', decide_eq_false_iff_not, ite_not, natP, swP, natsP, intsP, atI_0, atI_1, atI_2, atI_3, wLcU2, wLcV2, wTupZip, wZipN, wStep, wRev, wMaxD, wMinD, rInW_ints, rEqW_ii, rEqW_bb, rEqW_ss, rIsW_n, rIsW_bb, rAddW_ii, rAddW_ss, rAddW_tt, rIW_ii, rI0W_ii, rMulW_ii, rMulW_ti, rIntW_i, rIntW_b, rMax2W_ii, rMin2W_ii]
      refine ⟨(none, j, N.w), rfl, ⟨get_app (get_app hj), w16, fun q hq => by cases hq⟩, ?_⟩
      dsimp only [swR]
      simp only [wSeq, wAsg, wRet, wRetN, wDrop, wIfS, wVar, wC, wOp, wCall, wCons, wNil, wTup, wTest, wAnd, wOr, wNot, wAndV, wOrV, wNotV, wIf, wNext, wgName, wgTup, wgCons, wgNil, wFor, wSq, wYes, wLcU, wLcV, wLc, uTuple, uAll, uAny, uSum, wNeg, wSl, wPart, wNoPart, rSlW_tup, isNonP, seqW_tup, wLst, wipeW, wPar, wPut, wAug, wZip, wEnum, wRng1, wRng2, wChain, List.getElem?_cons_zero, List.getElem?_cons_succ, List.set_cons_zero, List.set_cons_succ, Option.some.injEq, exists_eq_left', exists_eq_left, exists_and_left, exists_eq_right, exists_eq_right', and_assoc, true_and, and_true, List.cons.injEq, and_self, if_true, if_false, Bool.false_eq_true, PV.int.injEq, PV.bl.injEq, PV.tup.injEq, PV.ref.injEq, PV.str.injEq, Bool.false_xor, Bool.true_xor, List.length_cons, List.length_nil, Nat.reduceAdd, Nat.reduceLeDiff, Nat.reduceEqDiff, Prod.mk.injEq, cutP_map, cutP_0, cutP_1, cutP_2, cutP_all, decide_eq_true_eq, startW, endsW, List.map_cons, List.map_nil, List.cons_append, List.nil_append, List.replicate, Nat.reduceSub, rIxW_tup, rLenW_tup, rListW_tup, wMeth, wRngL, wRngT, rIsiW_eq, tyP_non, tyP_bl, tyP_int, tyP_str, tyP_tup, isi_NoneType_int, isi_NoneType_bool, isi_NoneType_str, isi_NoneType_list, isi_NoneType_tuple, isi_NoneType_dict, isi_bool_int, isi_bool_bool, isi_bool_str, isi_bool_list, isi_bool_tuple, isi_bool_dict, isi_int_int, isi_int_bool, isi_int_str, isi_int_list, isi_int_tuple, isi_int_dict, isi_str_int, isi_str_bool, isi_str_str, isi_str_list, isi_str_tuple, isi_str_dict, isi_tuple_int, isi_tuple_bool, isi_tuple_str, isi_tuple_list, isi_tuple_tuple, isi_tuple_dict, isi_list_int, isi_list_bool, isi_list_str, isi_list_list, isi_list_tuple, isi_list_dict, isi_dict_int, isi_dict_bool, isi_dict_str, isi_dict_list, isi_dict_tuple, isi_dict_dict, decide_true, decide_false, Bool.not_true, Bool.not_false, Bool.not_eq_true', decide_eq_false_iff_not, ite_not, natP, swP, natsP, intsP, atI_0, atI_1, atI_2, atI_3, wLcU2, wLcV2, wTupZip, wZipN, wStep, wRev, wMaxD, wMinD, rInW_ints, rEqW_ii, rEqW_bb, rEqW_ss, rIsW_n, rIsW_bb, rAddW_ii, rAddW_ss, rAddW_tt, rIW_ii, rI0W_ii, rMulW_ii, rMulW_ti, rIntW_i, rIntW_b, rMax2W_ii, rMin2W_ii]
      refine tupW_ref (get_app (get_new1 _ _)) (fg_here ?_)
      rw [hke, List.take_length]
      exact h _ (Xs _)
  · rintro τ' S' ⟨hle, ⟨x3, x4, rfl⟩, rfl⟩
    refine ⟨seqW_ref (by rw [show (S ++ [Ob.lst []]).length = (S ++ [Ob.lst ((N.sw.take L.length).map swP)]).length by simp]; exact get_new1 _ _), ?_⟩
    simp only [wSeq, wAsg, wRet, wRetN, wDrop, wIfS, wVar, wC, wOp, wCall, wCons, wNil, wTup, wTest, wAnd, wOr, wNot, wAndV, wOrV, wNotV, wIf, wNext, wgName, wgTup, wgCons, wgNil, wFor, wSq, wYes, wLcU, wLcV, wLc, uTuple, uAll, uAny, uSum, wNeg, wSl, wPart, wNoPart, rSlW_tup, isNonP, seqW_tup, wLst, wipeW, wPar, wPut, wAug, wZip, wEnum, wRng1, wRng2, wChain, List.getElem?_cons_zero, List.getElem?_cons_succ, List.set_cons_zero, List.set_cons_succ, Option.some.injEq, exists_eq_left', exists_eq_left, exists_and_left, exists_eq_right, exists_eq_right', and_assoc, true_and, and_true, List.cons.injEq, and_self, if_true, if_false, Bool.false_eq_true, PV.int.injEq, PV.bl.injEq, PV.tup.injEq, PV.ref.injEq, PV.str.injEq, Bool.false_xor, Bool.true_xor, List.length_cons, List.length_nil, Nat.reduceAdd, Nat.reduceLeDiff, Nat.reduceEqDiff, Prod.mk.injEq, cutP_map, cutP_0, cutP_1, cutP_2, cutP_all, decide_eq_true_eq, startW, endsW, List.map_cons, List.map_nil, List.cons_append, List.nil_append, List.replicate, Nat.reduceSub, rIxW_tup, rLenW_tup, rListW_tup, wMeth, wRngL, wRngT, rIsiW_eq, tyP_non, tyP_bl, tyP_int, tyP_str, tyP_tup, isi_NoneType_int, isi_NoneType_bool, isi_NoneType_str, isi_NoneType_list, isi_NoneType_tuple, isi_NoneType_dict, isi_bool_int, isi_bool_bool, isi_bool_str, isi_bool_list, isi_bool_tuple, isi_bool_dict, isi_int_int, isi_int_bool, isi_int_str, isi_int_list, isi_int_tuple, isi_int_dict, isi_str_int, isi_str_bool, isi_str_str, isi_str_list, isi_str_tuple, isi_str_dict, isi_tuple_int, isi_tuple_bool, isi_tuple_str, isi_tuple_list, isi_tuple_tuple, isi_tuple_dict, isi_list_int, isi_list_bool, isi_list_str, isi_list_list, isi_list_tuple, isi_list_dict, isi_dict_int, isi_dict_bool, isi_dict_str, isi_dict_list, isi_dict_tuple, isi_dict_dict, decide_true, decide_false, Bool.not_true, Bool.not_false, Bool.not_eq_true', decide_eq_false_iff_not, ite_not, natP, swP, natsP, intsP, atI_0, atI_1, atI_2, atI_3, wLcU2, wLcV2, wTupZip, wZipN, wStep, wRev, wMaxD, wMinD, rInW_ints, rEqW_ii, rEqW_bb, rEqW_ss, rIsW_n, rIsW_bb, rAddW_ii, rAddW_ss, rAddW_tt, rIW_ii, rI0W_ii, rMulW_ii, rMulW_ti, rIntW_i, rIntW_b, rMax2W_ii, rMin2W_ii]
    refine tupW_ref (get_app (get_new1 _ _)) (fg_here ?_)
    rw [List.take_of_length_le (by omega)]
    exact h _ (Xs _)
abbrev s_read_order : Stmt := top 11
theorem sc_read_order : FnScope ["words", "first", "wires", "order", "place"] ["words", "first", "wires"] (defScope s_read_order) := ⟨rfl, rfl, rfl, by decide +kernel, rfl, by decide +kernel, by decide +kernel⟩
set_option maxHeartbeats 1000000 in
theorem ok_read_order {f : Addr} {fd : FuncData} (F : Fun K "read_order" "read_order" s_read_order f fd) (T : Tn mg)  : FnOk P w K mg base CX0 1 f fd ["words", "first", "wires"] (spW Ts K wReadOrder) := by
  refine ok_body (k := 0) F sc_read_order (fun pvs S Q h => by obtain ⟨a, rfl, _⟩ := h; rfl) (fun cdv A outer s H E hr => ?_)
  have hu := hu_of hr
  refine ⟨_, (sss_cons (ss_set (i := 3) sc_read_order.nd rfl (by first | exact Or.inl rfl | exact Or.inr rfl) (se_lst sa_nil))
      (sss_cons (ss_for (vs := [4]) PassesOwn.never rfl (si_range2 (by rfl) T.range_ (sa_cons (sv 1) (sa_cons (se_op s_add (sv 1) (se_callB c_len (by rfl) T.len_ (by decide +kernel) (sa_cons (sv 2) sa_nil))) sa_nil))) (pg_name (i := 4) sc_read_order.nd rfl (by first | exact Or.inl rfl | exact Or.inr rfl)) (gr_name (i := 4) (by decide)) (mg_name _) (sss_cons (ss_if (SW.st (sw_or (st_cmp (s_eq hr.units) (sv 4) (se_callB c_len (by rfl) T.len_ (by decide +kernel) (sa_cons (sv 0) sa_nil)) (nomark _)) (sw_or (st_cmp (s_notin hu) (se_ix hu (sv 0) (sv 4) (fun _ _ => rfl)) (sv 2) (by rfl)) (sw_or1 (st_cmp (s_in hu) (se_ix hu (sv 2) (se_ix hu (sv 0) (sv 4) (fun _ _ => rfl)) (fun _ _ => rfl)) (sv 3) (by rfl)))))) (sss_one ss_never) sss_nil)
      (sss_one (ss_expr (se_bm PySem.F.plainAttrs_list PySem.F.slot_list_append PySem.F.type_list_append m_append (sv 3) (sa_cons (se_ix hu (sv 2) (se_ix hu (sv 0) (sv 4) (fun _ _ => rfl)) (fun _ _ => rfl)) sa_nil))))))
      (sss_cons (ss_if (st_cmp s_gt (se_callB c_len (by rfl) T.len_ (by decide +kernel) (sa_cons (sv 0) sa_nil)) (se_op s_add (sv 1) (se_callB c_len (by rfl) T.len_ (by decide +kernel) (sa_cons (sv 2) sa_nil))) (nomark _)) (sss_one ss_never) sss_nil)
      (sss_one (ss_ret (se_callTy c_tuple (by rfl) T.tuple_ (by decide +kernel) (sa_cons (sv 3) sa_nil))))))), fun pvs S Q hcl hca h => ?_⟩
  obtain ⟨⟨N, i, j⟩, rfl, ⟨hN, hi, hj⟩, h⟩ := h
  dsimp only at *
  have ok := hN.ok
  have w16 := ok.w16
  have l160 := hN.l160
  have lor : N.ord.length = N.w := by rw [ok.ord.length_eq, List.length_range]
  have lw : ((wordsT N.w N.sw N.ord).map PV.str).length = N.sw.length + N.w + 2 := by rw [List.length_map, words_len, lor]
  have gw : ∀ k (hk : k < N.ord.length), ((wordsT N.w N.sw N.ord).map PV.str)[N.sw.length + 2 + k]? = some (PV.str (natS N.ord[k])) := fun k hk => by
    rw [words_map]
    simp only [List.append_assoc, List.cons_append, List.nil_append]
    rw [show N.sw.length + 2 + k = (N.sw.length + (k + 1)) + 1 by omega, List.getElem?_cons_succ, List.getElem?_append_right (by rw [List.length_map]; omega), List.length_map, show N.sw.length + (k + 1) - N.sw.length = k + 1 by omega, List.getElem?_cons_succ, List.getElem?_map, List.getElem?_eq_getElem hk]
    rfl
  simp only [wSeq, wAsg, wRet, wRetN, wDrop, wIfS, wVar, wC, wOp, wCall, wCons, wNil, wTup, wTest, wAnd, wOr, wNot, wAndV, wOrV, wNotV, wIf, wNext, wgName, wgTup, wgCons, wgNil, wFor, wSq, wYes, wLcU, wLcV, wLc, uTuple, uAll, uAny, uSum, wNeg, wSl, wPart, wNoPart, rSlW_tup, isNonP, seqW_tup, wLst, wipeW, wPar, wPut, wAug, wZip, wEnum, wRng1, wRng2, wChain, List.getElem?_cons_zero, List.getElem?_cons_succ, List.set_cons_zero, List.set_cons_succ, Option.some.injEq, exists_eq_left', exists_eq_left, exists_and_left, exists_eq_right, exists_eq_right', and_assoc, true_and, and_true, List.cons.injEq, and_self, if_true, if_false, Bool.false_eq_true, PV.int.injEq, PV.bl.injEq, PV.tup.injEq, PV.ref.injEq, PV.str.injEq, Bool.false_xor, Bool.true_xor, List.length_cons, List.length_nil, Nat.reduceAdd, Nat.reduceLeDiff, Nat.reduceEqDiff, Prod.mk.injEq, cutP_map, cutP_0, cutP_1, cutP_2, cutP_all, decide_eq_true_eq, startW, endsW, List.map_cons, List.map_nil, List.cons_append, List.nil_append, List.replicate, Nat.reduceSub, rIxW_tup, rLenW_tup, rListW_tup, wMeth, wRngL, wRngT, rIsiW_eq, tyP_non, tyP_bl, tyP_int, tyP_str, tyP_tup, isi_NoneType_int, isi_NoneType_bool, isi_NoneType_str, isi_NoneType_list, isi_NoneType_tuple, isi_NoneType_dict, isi_bool_int, isi_bool_bool, isi_bool_str, isi_bool_list, isi_bool_tuple, isi_bool_dict, isi_int_int, isi_int_bool, isi_int_str, isi_int_list, isi_int_tuple, isi_int_dict, isi_str_int, isi_str_bool, isi_str_str, isi_str_list, isi_str_tuple, isi_str_dict, isi_tuple_int, isi_tuple_bool, isi_tuple_str, isi_tuple_list, isi_tuple_tuple, isi_tuple_dict, isi_list_int, isi_list_bool, isi_list_str, isi_list_list, isi_list_tuple, isi_list_dict, isi_dict_int, isi_dict_bool, isi_dict_str, isi_dict_list, isi_dict_tuple, isi_dict_dict, decide_true, decide_false, Bool.not_true, Bool.not_false, Bool.not_eq_true', decide_eq_false_iff_not, ite_not, natP, swP, natsP, intsP, atI_0, atI_1, atI_2, atI_3, wLcU2, wLcV2, wTupZip, wZipN, wStep, wRev, wMaxD, wMinD, rInW_ints, rEqW_ii, rEqW_bb, rEqW_ss, rIsW_n, rIsW_bb, rAddW_ii, rAddW_ss, rAddW_tt, rIW_ii, rI0W_ii, rMulW_ii, rMulW_ti, rIntW_i, rIntW_b, rMax2W_ii, rMin2W_ii]
  refine ⟨_, rfl, .inr (.inr ⟨j, _, rfl, get_app hj, ?_⟩)⟩
  rw [tab_len _ w16]
  simp only [wSeq, wAsg, wRet, wRetN, wDrop, wIfS, wVar, wC, wOp, wCall, wCons, wNil, wTup, wTest, wAnd, wOr, wNot, wAndV, wOrV, wNotV, wIf, wNext, wgName, wgTup, wgCons, wgNil, wFor, wSq, wYes, wLcU, wLcV, wLc, uTuple, uAll, uAny, uSum, wNeg, wSl, wPart, wNoPart, rSlW_tup, isNonP, seqW_tup, wLst, wipeW, wPar, wPut, wAug, wZip, wEnum, wRng1, wRng2, wChain, List.getElem?_cons_zero, List.getElem?_cons_succ, List.set_cons_zero, List.set_cons_succ, Option.some.injEq, exists_eq_left', exists_eq_left, exists_and_left, exists_eq_right, exists_eq_right', and_assoc, true_and, and_true, List.cons.injEq, and_self, if_true, if_false, Bool.false_eq_true, PV.int.injEq, PV.bl.injEq, PV.tup.injEq, PV.ref.injEq, PV.str.injEq, Bool.false_xor, Bool.true_xor, List.length_cons, List.length_nil, Nat.reduceAdd, Nat.reduceLeDiff, Nat.reduceEqDiff, Prod.mk.injEq, cutP_map, cutP_0, cutP_1, cutP_2, cutP_all, decide_eq_true_eq, startW, endsW, List.map_cons, List.map_nil, List.cons_append, List.nil_append, List.replicate, Nat.reduceSub, rIxW_tup, rLenW_tup, rListW_tup, wMeth, wRngL, wRngT, rIsiW_eq, tyP_non, tyP_bl, tyP_int, tyP_str, tyP_tup, isi_NoneType_int, isi_NoneType_bool, isi_NoneType_str, isi_NoneType_list, isi_NoneType_tuple, isi_NoneType_dict, isi_bool_int, isi_bool_bool, isi_bool_str, isi_bool_list, isi_bool_tuple, isi_bool_dict, isi_int_int, isi_int_bool, isi_int_str, isi_int_list, isi_int_tuple, isi_int_dict, isi_str_int, isi_str_bool, isi_str_str, isi_str_list, isi_str_tuple, isi_str_dict, isi_tuple_int, isi_tuple_bool, isi_tuple_str, isi_tuple_list, isi_tuple_tuple, isi_tuple_dict, isi_list_int, isi_list_bool, isi_list_str, isi_list_list, isi_list_tuple, isi_list_dict, isi_dict_int, isi_dict_bool, isi_dict_str, isi_dict_list, isi_dict_tuple, isi_dict_dict, decide_true, decide_false, Bool.not_true, Bool.not_false, Bool.not_eq_true', decide_eq_false_iff_not, ite_not, natP, swP, natsP, intsP, atI_0, atI_1, atI_2, atI_3, wLcU2, wLcV2, wTupZip, wZipN, wStep, wRev, wMaxD, wMinD, rInW_ints, rEqW_ii, rEqW_bb, rEqW_ss, rIsW_n, rIsW_bb, rAddW_ii, rAddW_ss, rAddW_tt, rIW_ii, rI0W_ii, rMulW_ii, rMulW_ti, rIntW_i, rIntW_b, rMax2W_ii, rMin2W_ii]
  refine ⟨by omega, by omega, by omega, by omega, ?_⟩
  rw [show (((N.sw.length + 2 : Nat) : Int) + (N.w : Int) - ((N.sw.length + 2 : Nat) : Int)).toNat = N.w by omega]
  refine loop_rngF (fun _ => trivial) (fun k τ' S' => (∃ x4, τ' = [some (PV.ref i), some (PV.int ((N.sw.length + 2 : Nat) : Int)), some (PV.ref j), some (PV.ref S.length), x4]) ∧ S' = S ++ [Ob.lst ((N.ord.take k).map natP)]) ⟨⟨_, rfl⟩, rfl⟩ ?_ ?_
  · rintro k τ' S' R hk ⟨⟨x4, rfl⟩, rfl⟩ hR
    have hko : k < N.ord.length := by omega
    have hov : N.ord[k] < N.w := List.mem_range.mp (ok.ord.mem_iff.mp (List.getElem_mem hko))
    have nd : N.ord.Nodup := ok.ord.nodup_iff.mpr List.nodup_range
    have et : (N.ord.take k).map natP = ((N.ord.take k).map fun k : Nat => (k : Int)).map PV.int := by rw [List.map_map]; rfl
    have hni : ¬ ((N.ord[k] : Nat) : Int) ∈ (N.ord.take k).map fun k : Nat => (k : Int) := fun z => by
      obtain ⟨y, hy, e⟩ := List.mem_map.mp z
      have e : y = N.ord[k] := Int.ofNat.inj e
      obtain ⟨a, ha, e2⟩ := List.mem_iff_getElem.mp hy
      rw [List.getElem_take] at e2
      rw [List.length_take] at ha
      have := (List.getElem_inj (h₀ := by omega) (h₁ := hko) nd).mp (e2.trans e)
      omega
    simp only [wSeq, wAsg, wRet, wRetN, wDrop, wIfS, wVar, wC, wOp, wCall, wCons, wNil, wTup, wTest, wAnd, wOr, wNot, wAndV, wOrV, wNotV, wIf, wNext, wgName, wgTup, wgCons, wgNil, wFor, wSq, wYes, wLcU, wLcV, wLc, uTuple, uAll, uAny, uSum, wNeg, wSl, wPart, wNoPart, rSlW_tup, isNonP, seqW_tup, wLst, wipeW, wPar, wPut, wAug, wZip, wEnum, wRng1, wRng2, wChain, List.getElem?_cons_zero, List.getElem?_cons_succ, List.set_cons_zero, List.set_cons_succ, Option.some.injEq, exists_eq_left', exists_eq_left, exists_and_left, exists_eq_right, exists_eq_right', and_assoc, true_and, and_true, List.cons.injEq, and_self, if_true, if_false, Bool.false_eq_true, PV.int.injEq, PV.bl.injEq, PV.tup.injEq, PV.ref.injEq, PV.str.injEq, Bool.false_xor, Bool.true_xor, List.length_cons, List.length_nil, Nat.reduceAdd, Nat.reduceLeDiff, Nat.reduceEqDiff, Prod.mk.injEq, cutP_map, cutP_0, cutP_1, cutP_2, cutP_all, decide_eq_true_eq, startW, endsW, List.map_cons, List.map_nil, List.cons_append, List.nil_append, List.replicate, Nat.reduceSub, rIxW_tup, rLenW_tup, rListW_tup, wMeth, wRngL, wRngT, rIsiW_eq, tyP_non, tyP_bl, tyP_int, tyP_str, tyP_tup, isi_NoneType_int, isi_NoneType_bool, isi_NoneType_str, isi_NoneType_list, isi_NoneType_tuple, isi_NoneType_dict, isi_bool_int, isi_bool_bool, isi_bool_str, isi_bool_list, isi_bool_tuple, isi_bool_dict, isi_int_int, isi_int_bool, isi_int_str, isi_int_list, isi_int_tuple, isi_int_dict, isi_str_int, isi_str_bool, isi_str_str, isi_str_list, isi_str_tuple, isi_str_dict, isi_tuple_int, isi_tuple_bool, isi_tuple_str, isi_tuple_list, isi_tuple_tuple, isi_tuple_dict, isi_list_int, isi_list_bool, isi_list_str, isi_list_list, isi_list_tuple, isi_list_dict, isi_dict_int, isi_dict_bool, isi_dict_str, isi_dict_list, isi_dict_tuple, isi_dict_dict, decide_true, decide_false, Bool.not_true, Bool.not_false, Bool.not_eq_true', decide_eq_false_iff_not, ite_not, natP, swP, natsP, intsP, atI_0, atI_1, atI_2, atI_3, wLcU2, wLcV2, wTupZip, wZipN, wStep, wRev, wMaxD, wMinD, rInW_ints, rEqW_ii, rEqW_bb, rEqW_ss, rIsW_n, rIsW_bb, rAddW_ii, rAddW_ss, rAddW_tt, rIW_ii, rI0W_ii, rMulW_ii, rMulW_ti, rIntW_i, rIntW_b, rMax2W_ii, rMin2W_ii]
    rw [show ((N.sw.length + 2 : Nat) : Int) + (k : Int) = ((N.sw.length + 2 + k : Nat) : Int) by omega]
    rw [rLenW_lst (get_app hi), lw, rEqW_ii]
    refine ⟨_, rfl, ?_⟩
    rw [decide_eq_false (by omega), if_neg (by decide), rIxW_lst (get_app hi)]
    refine ⟨_, atI_nat' (gw k hko), .inr (.inl ⟨j, _, _, rfl, get_app hj, rfl, ?_⟩)⟩
    rw [tabW w16 hov]
    refine ⟨_, rfl, ?_⟩
    rw [if_neg nno, rIxW_lst (get_app hi)]
    refine ⟨_, atI_nat' (gw k hko), ?_⟩
    rw [rIxW_dct (get_app hj)]
    refine ⟨_, _, rfl, tabW w16 hov, .inl ⟨false, _, seqW_ref (get_new1 _ _), rfl, by rw [et]; exact all_flat_int _, ?_⟩⟩
    rw [et, show natP N.ord[k] = PV.int ((N.ord[k] : Nat) : Int) from rfl, inP_int]
    refine ⟨_, rfl, ?_⟩
    rw [decide_eq_false hni, if_neg (by decide)]
    refine ⟨.inl ⟨rfl, _, seqW_ref (get_new1 _ _)⟩, ?_⟩
    rw [rIxW_lst (get_app hi)]
    refine ⟨_, atI_nat' (gw k hko), ?_⟩
    rw [rIxW_dct (get_app hj)]
    refine ⟨_, _, rfl, tabW w16 hov, S.length, _, _, rfl, rfl, get_new1 _ _, by rw [List.length_map, List.length_map, List.length_take]; omega, ?_⟩
    rw [set_one]
    refine hR _ _ ⟨⟨_, rfl⟩, ?_⟩
    rw [← et, List.take_succ, List.getElem?_eq_getElem hko, List.map_append]
    rfl
  · rintro τ' S' ⟨⟨x4, rfl⟩, rfl⟩
    simp only [wSeq, wAsg, wRet, wRetN, wDrop, wIfS, wVar, wC, wOp, wCall, wCons, wNil, wTup, wTest, wAnd, wOr, wNot, wAndV, wOrV, wNotV, wIf, wNext, wgName, wgTup, wgCons, wgNil, wFor, wSq, wYes, wLcU, wLcV, wLc, uTuple, uAll, uAny, uSum, wNeg, wSl, wPart, wNoPart, rSlW_tup, isNonP, seqW_tup, wLst, wipeW, wPar, wPut, wAug, wZip, wEnum, wRng1, wRng2, wChain, List.getElem?_cons_zero, List.getElem?_cons_succ, List.set_cons_zero, List.set_cons_succ, Option.some.injEq, exists_eq_left', exists_eq_left, exists_and_left, exists_eq_right, exists_eq_right', and_assoc, true_and, and_true, List.cons.injEq, and_self, if_true, if_false, Bool.false_eq_true, PV.int.injEq, PV.bl.injEq, PV.tup.injEq, PV.ref.injEq, PV.str.injEq, Bool.false_xor, Bool.true_xor, List.length_cons, List.length_nil, Nat.reduceAdd, Nat.reduceLeDiff, Nat.reduceEqDiff, Prod.mk.injEq, cutP_map, cutP_0, cutP_1, cutP_2, cutP_all, decide_eq_true_eq, startW, endsW, List.map_cons, List.map_nil, List.cons_append, List.nil_append, List.replicate, Nat.reduceSub, rIxW_tup, rLenW_tup, rListW_tup, wMeth, wRngL, wRngT, rIsiW_eq, tyP_non, tyP_bl, tyP_int, tyP_str, tyP_tup, isi_NoneType_int, isi_NoneType_bool, isi_NoneType_str, isi_NoneType_list, isi_NoneType_tuple, isi_NoneType_dict, isi_bool_int, isi_bool_bool, isi_bool_str, isi_bool_list, isi_bool_tuple, isi_bool_dict, isi_int_int, isi_int_bool, isi_int_str, isi_int_list, isi_int_tuple, isi_int_dict, isi_str_int, isi_str_bool, isi_str_str, isi_str_list, isi_str_tuple, isi_str_dict, isi_tuple_int, isi_tuple_bool, isi_tuple_str, isi_tuple_list, isi_tuple_tuple, isi_tuple_dict, isi_list_int, isi_list_bool, isi_list_str, isi_list_list, isi_list_tuple, isi_list_dict, isi_dict_int, isi_dict_bool, isi_dict_str, isi_dict_list, isi_dict_tuple, isi_dict_dict, decide_true, decide_false, Bool.not_true, Bool.not_false, Bool.not_eq_true', decide_eq_false_iff_not, ite_not, natP, swP, natsP, intsP, atI_0, atI_1, atI_2, atI_3, wLcU2, wLcV2, wTupZip, wZipN, wStep, wRev, wMaxD, wMinD, rInW_ints, rEqW_ii, rEqW_bb, rEqW_ss, rIsW_n, rIsW_bb, rAddW_ii, rAddW_ss, rAddW_tt, rIW_ii, rI0W_ii, rMulW_ii, rMulW_ti, rIntW_i, rIntW_b, rMax2W_ii, rMin2W_ii]
    rw [rLenW_lst (get_app hi), lw]
    refine ⟨_, rfl, .inr (.inr ⟨j, _, rfl, get_app hj, ?_⟩)⟩
    rw [tab_len _ w16]
    simp only [wSeq, wAsg, wRet, wRetN, wDrop, wIfS, wVar, wC, wOp, wCall, wCons, wNil, wTup, wTest, wAnd, wOr, wNot, wAndV, wOrV, wNotV, wIf, wNext, wgName, wgTup, wgCons, wgNil, wFor, wSq, wYes, wLcU, wLcV, wLc, uTuple, uAll, uAny, uSum, wNeg, wSl, wPart, wNoPart, rSlW_tup, isNonP, seqW_tup, wLst, wipeW, wPar, wPut, wAug, wZip, wEnum, wRng1, wRng2, wChain, List.getElem?_cons_zero, List.getElem?_cons_succ, List.set_cons_zero, List.set_cons_succ, Option.some.injEq, exists_eq_left', exists_eq_left, exists_and_left, exists_eq_right, exists_eq_right', and_assoc, true_and, and_true, List.cons.injEq, and_self, if_true, if_false, Bool.false_eq_true, PV.int.injEq, PV.bl.injEq, PV.tup.injEq, PV.ref.injEq, PV.str.injEq, Bool.false_xor, Bool.true_xor, List.length_cons, List.length_nil, Nat.reduceAdd, Nat.reduceLeDiff, Nat.reduceEqDiff, Prod.mk.injEq, cutP_map, cutP_0, cutP_1, cutP_2, cutP_all, decide_eq_true_eq, startW, endsW, List.map_cons, List.map_nil, List.cons_append, List.nil_append, List.replicate, Nat.reduceSub, rIxW_tup, rLenW_tup, rListW_tup, wMeth, wRngL, wRngT, rIsiW_eq, tyP_non, tyP_bl, tyP_int, tyP_str, tyP_tup, isi_NoneType_int, isi_NoneType_bool, isi_NoneType_str, isi_NoneType_list, isi_NoneType_tuple, isi_NoneType_dict, isi_bool_int, isi_bool_bool, isi_bool_str, isi_bool_list, isi_bool_tuple, isi_bool_dict, isi_int_int, isi_int_bool, isi_int_str, isi_int_list, isi_int_tuple, isi_int_dict, isi_str_int, isi_str_bool, isi_str_str, isi_str_list, isi_str_tuple, isi_str_dict, isi_tuple_int, isi_tuple_bool, isi_tuple_str, isi_tuple_list, isi_tuple_tuple, isi_tuple_dict, isi_list_int, isi_list_bool, isi_list_str, isi_list_list, isi_list_tuple, isi_list_dict, isi_dict_int, isi_dict_bool, isi_dict_str, isi_dict_list, isi_dict_tuple, isi_dict_dict, decide_true, decide_false, Bool.not_true, Bool.not_false, Bool.not_eq_true', decide_eq_false_iff_not, ite_not, natP, swP, natsP, intsP, atI_0, atI_1, atI_2, atI_3, wLcU2, wLcV2, wTupZip, wZipN, wStep, wRev, wMaxD, wMinD, rInW_ints, rEqW_ii, rEqW_bb, rEqW_ss, rIsW_n, rIsW_bb, rAddW_ii, rAddW_ss, rAddW_tt, rIW_ii, rI0W_ii, rMulW_ii, rMulW_ti, rIntW_i, rIntW_b, rMax2W_ii, rMin2W_ii]
    rw [if_neg (by omega)]
    refine tupW_ref (get_new1 _ _) (fg_here ?_)
    rw [List.take_of_length_le (by omega)]
    exact h _ (Xn.app _ _)
abbrev s_read_net : Stmt := top 12
theorem sc_read_net : FnScope ["text", "words", "widths", "width", "wires", "switches", "colon"] ["text"] (defScope s_read_net) := ⟨rfl, rfl, rfl, by decide +kernel, rfl, by decide +kernel, by decide +kernel⟩
set_option maxHeartbeats 1000000 in
theorem ok_read_net {f : Addr} {fd : FuncData} (F : Fun K "read_net" "read_net" s_read_net f fd) (T : Tn mg) {tk_COLON : Tok} (C_COLON : mg "COLON" = some (.str ":" tk_COLON)) {tk_MOST_WIRES : Tok} (C_MOST_WIRES : mg "MOST_WIRES" = some (.int 16 tk_MOST_WIRES)) (D_read_order : DefW Ts P w K mg base "read_order" 1 ["words", "first", "wires"] wReadOrder) (D_read_switches : DefW Ts P w K mg base "read_switches" 2 ["words", "wires"] wReadSwitches) (D_spelled : DefW Ts P w K mg base "spelled" 1 ["numbers"] wSpelled) : FnOk P w K mg base CX0 3 f fd ["text"] (spW Ts K wReadNet) := by
  refine ok_body (k := 2) F sc_read_net (fun pvs S Q h => by obtain ⟨a, rfl, _⟩ := h; rfl) (fun cdv A outer s H E hr => ?_)
  have hu := hu_of hr
  refine ⟨_, (sss_cons (ss_set (i := 1) sc_read_net.nd rfl (by first | exact Or.inl rfl | exact Or.inr rfl) (se_bm PySem.F.plainAttrs_str PySem.F.slot_str_split PySem.F.type_str_split m_split (sv 0) (sa_cons se_str sa_nil)))
      (sss_cons (ss_set (i := 2) sc_read_net.nd rfl (by first | exact Or.inl rfl | exact Or.inr rfl) (se_def D_spelled (hr.mono (by first | decide | omega)) (by rfl) (sa_cons (se_rngL2 rfl (by rfl) T.list_ (by rfl) T.range_ se_int (se_op s_add (se_gint (i := 16) (by rfl) C_MOST_WIRES) se_int)) sa_nil)))
      (sss_cons (ss_if (st_cmp (s_notin hu) (se_ix hu (sv 1) se_int (fun _ _ => rfl)) (sv 2) (by rfl)) (sss_one ss_never) sss_nil)
      (sss_cons (ss_set (i := 3) sc_read_net.nd rfl (by first | exact Or.inl rfl | exact Or.inr rfl) (se_ix hu (sv 2) (se_ix hu (sv 1) se_int (fun _ _ => rfl)) (fun _ _ => rfl)))
      (sss_cons (ss_set (i := 4) sc_read_net.nd rfl (by first | exact Or.inl rfl | exact Or.inr rfl) (se_def D_spelled (hr.mono (by first | decide | omega)) (by rfl) (sa_cons (se_rngL rfl (by rfl) T.list_ (by rfl) T.range_ (sv 3)) sa_nil)))
      (sss_cons (ss_set (i := 5) sc_read_net.nd rfl (by first | exact Or.inl rfl | exact Or.inr rfl) (se_def D_read_switches (hr.mono (by first | decide | omega)) (by rfl) (sa_cons (sv 1) (sa_cons (sv 4) sa_nil))))
      (sss_cons (ss_set (i := 6) sc_read_net.nd rfl (by first | exact Or.inl rfl | exact Or.inr rfl) (se_op s_add (se_callB c_len (by rfl) T.len_ (by decide +kernel) (sa_cons (sv 5) sa_nil)) se_int))
      (sss_cons (ss_if (SW.st (sw_or (st_cmp (s_eq hr.units) (sv 6) (se_callB c_len (by rfl) T.len_ (by decide +kernel) (sa_cons (sv 1) sa_nil)) (nomark _)) (sw_or1 (st_cmp (s_ne hr.units) (se_ix hu (sv 1) (sv 6) (fun _ _ => rfl)) (se_gstr (by rfl) C_COLON) (nomark _))))) (sss_one ss_never) sss_nil)
      (sss_one (ss_ret (se_tup (sa_cons (sv 3) (sa_cons (sv 5) (sa_cons (se_def D_read_order (hr.mono (by first | decide | omega)) (by rfl) (sa_cons (sv 1) (sa_cons (se_op s_add (sv 6) se_int) (sa_cons (sv 4) sa_nil)))) sa_nil)))))))))))))), fun pvs S Q hcl hca h => ?_⟩
  obtain ⟨N, rfl, hN, h⟩ := h
  have ok := hN.ok
  have w16 := ok.w16
  have w1 := ok.w1
  simp only [wSeq, wAsg, wRet, wRetN, wDrop, wIfS, wVar, wC, wOp, wCall, wCons, wNil, wTup, wTest, wAnd, wOr, wNot, wAndV, wOrV, wNotV, wIf, wNext, wgName, wgTup, wgCons, wgNil, wFor, wSq, wYes, wLcU, wLcV, wLc, uTuple, uAll, uAny, uSum, wNeg, wSl, wPart, wNoPart, rSlW_tup, isNonP, seqW_tup, wLst, wipeW, wPar, wPut, wAug, wZip, wEnum, wRng1, wRng2, wChain, List.getElem?_cons_zero, List.getElem?_cons_succ, List.set_cons_zero, List.set_cons_succ, Option.some.injEq, exists_eq_left', exists_eq_left, exists_and_left, exists_eq_right, exists_eq_right', and_assoc, true_and, and_true, List.cons.injEq, and_self, if_true, if_false, Bool.false_eq_true, PV.int.injEq, PV.bl.injEq, PV.tup.injEq, PV.ref.injEq, PV.str.injEq, Bool.false_xor, Bool.true_xor, List.length_cons, List.length_nil, Nat.reduceAdd, Nat.reduceLeDiff, Nat.reduceEqDiff, Prod.mk.injEq, cutP_map, cutP_0, cutP_1, cutP_2, cutP_all, decide_eq_true_eq, startW, endsW, List.map_cons, List.map_nil, List.cons_append, List.nil_append, List.replicate, Nat.reduceSub, rIxW_tup, rLenW_tup, rListW_tup, wMeth, wRngL, wRngT, rIsiW_eq, tyP_non, tyP_bl, tyP_int, tyP_str, tyP_tup, isi_NoneType_int, isi_NoneType_bool, isi_NoneType_str, isi_NoneType_list, isi_NoneType_tuple, isi_NoneType_dict, isi_bool_int, isi_bool_bool, isi_bool_str, isi_bool_list, isi_bool_tuple, isi_bool_dict, isi_int_int, isi_int_bool, isi_int_str, isi_int_list, isi_int_tuple, isi_int_dict, isi_str_int, isi_str_bool, isi_str_str, isi_str_list, isi_str_tuple, isi_str_dict, isi_tuple_int, isi_tuple_bool, isi_tuple_str, isi_tuple_list, isi_tuple_tuple, isi_tuple_dict, isi_list_int, isi_list_bool, isi_list_str, isi_list_list, isi_list_tuple, isi_list_dict, isi_dict_int, isi_dict_bool, isi_dict_str, isi_dict_list, isi_dict_tuple, isi_dict_dict, decide_true, decide_false, Bool.not_true, Bool.not_false, Bool.not_eq_true', decide_eq_false_iff_not, ite_not, natP, swP, natsP, intsP, atI_0, atI_1, atI_2, atI_3, wLcU2, wLcV2, wTupZip, wZipN, wStep, wRev, wMaxD, wMinD, rInW_ints, rEqW_ii, rEqW_bb, rEqW_ss, rIsW_n, rIsW_bb, rAddW_ii, rAddW_ss, rAddW_tt, rIW_ii, rI0W_ii, rMulW_ii, rMulW_ti, rIntW_i, rIntW_b, rMax2W_ii, rMin2W_ii]
  refine ⟨.inr (.inl ⟨rfl, _, rfl⟩), _, _, rfl, rfl, by decide +kernel, hN.words.2.1, ?_⟩
  rw [hN.words.2.2]
  simp only [wSeq, wAsg, wRet, wRetN, wDrop, wIfS, wVar, wC, wOp, wCall, wCons, wNil, wTup, wTest, wAnd, wOr, wNot, wAndV, wOrV, wNotV, wIf, wNext, wgName, wgTup, wgCons, wgNil, wFor, wSq, wYes, wLcU, wLcV, wLc, uTuple, uAll, uAny, uSum, wNeg, wSl, wPart, wNoPart, rSlW_tup, isNonP, seqW_tup, wLst, wipeW, wPar, wPut, wAug, wZip, wEnum, wRng1, wRng2, wChain, List.getElem?_cons_zero, List.getElem?_cons_succ, List.set_cons_zero, List.set_cons_succ, Option.some.injEq, exists_eq_left', exists_eq_left, exists_and_left, exists_eq_right, exists_eq_right', and_assoc, true_and, and_true, List.cons.injEq, and_self, if_true, if_false, Bool.false_eq_true, PV.int.injEq, PV.bl.injEq, PV.tup.injEq, PV.ref.injEq, PV.str.injEq, Bool.false_xor, Bool.true_xor, List.length_cons, List.length_nil, Nat.reduceAdd, Nat.reduceLeDiff, Nat.reduceEqDiff, Prod.mk.injEq, cutP_map, cutP_0, cutP_1, cutP_2, cutP_all, decide_eq_true_eq, startW, endsW, List.map_cons, List.map_nil, List.cons_append, List.nil_append, List.replicate, Nat.reduceSub, rIxW_tup, rLenW_tup, rListW_tup, wMeth, wRngL, wRngT, rIsiW_eq, tyP_non, tyP_bl, tyP_int, tyP_str, tyP_tup, isi_NoneType_int, isi_NoneType_bool, isi_NoneType_str, isi_NoneType_list, isi_NoneType_tuple, isi_NoneType_dict, isi_bool_int, isi_bool_bool, isi_bool_str, isi_bool_list, isi_bool_tuple, isi_bool_dict, isi_int_int, isi_int_bool, isi_int_str, isi_int_list, isi_int_tuple, isi_int_dict, isi_str_int, isi_str_bool, isi_str_str, isi_str_list, isi_str_tuple, isi_str_dict, isi_tuple_int, isi_tuple_bool, isi_tuple_str, isi_tuple_list, isi_tuple_tuple, isi_tuple_dict, isi_list_int, isi_list_bool, isi_list_str, isi_list_list, isi_list_tuple, isi_list_dict, isi_dict_int, isi_dict_bool, isi_dict_str, isi_dict_list, isi_dict_tuple, isi_dict_dict, decide_true, decide_false, Bool.not_true, Bool.not_false, Bool.not_eq_true', decide_eq_false_iff_not, ite_not, natP, swP, natsP, intsP, atI_0, atI_1, atI_2, atI_3, wLcU2, wLcV2, wTupZip, wZipN, wStep, wRev, wMaxD, wMinD, rInW_ints, rEqW_ii, rEqW_bb, rEqW_ss, rIsW_n, rIsW_bb, rAddW_ii, rAddW_ss, rAddW_tt, rIW_ii, rI0W_ii, rMulW_ii, rMulW_ti, rIntW_i, rIntW_b, rMax2W_ii, rMin2W_ii, wRngL2]
  have lor : N.ord.length = N.w := by rw [ok.ord.length_eq, List.length_range]
  obtain ⟨W, hW⟩ : ∃ W, W = List.map PV.str (wordsT N.w N.sw N.ord) := ⟨_, rfl⟩
  have lW : W.length = N.sw.length + N.w + 2 := by rw [hW, List.length_map, words_len, lor]
  have W0 : atI W 0 = some (PV.str (natS N.w)) := by rw [hW]; exact atI_0
  have Wc : W[N.sw.length + 1]? = some (PV.str (Str.ofString ":")) := by
    rw [hW, words_map]
    simp only [List.append_assoc, List.cons_append, List.nil_append]
    rw [List.getElem?_cons_succ, List.getElem?_append_right (by rw [List.length_map]; omega), List.length_map, Nat.sub_self]
    rfl
  obtain ⟨l1, hl1⟩ : ∃ l1, l1 = (List.range 16).map (fun k => k + 1) := ⟨_, rfl⟩
  have t1 : valP (tabT l1) (.inr (natS N.w)) = some (natP N.w) := by
    refine tab_get (fun k hk => ?_) (by rw [hl1]; decide) ?_
    · rw [hl1] at hk
      obtain ⟨a, ha, rfl⟩ := List.mem_map.mp hk
      have := List.mem_range.mp ha
      omega
    · rw [hl1]
      exact List.mem_map.mpr ⟨N.w - 1, List.mem_range.mpr (by omega), by omega⟩
  rw [← hW]
  refine ⟨by decide, by decide, by decide, (_, l1), rfl, ⟨(get_new1 _ _).trans (by rw [hl1]; rfl), by rw [hl1]; exact Nat.le_of_ble_eq_true rfl, fun k hk => ?_⟩, ?_⟩
  · dsimp only at hk
    rw [hl1] at hk
    obtain ⟨a, ha, rfl⟩ := List.mem_map.mp hk
    have := List.mem_range.mp ha
    omega
  dsimp only
  obtain ⟨T1, hT1⟩ : ∃ T1, T1 = S ++ [Ob.lst W] ++ [Ob.lst (rngP 1 (16 + 1 - 1 : Int).toNat)] := ⟨_, rfl⟩
  rw [← hT1]
  have X1 : Xn S T1 := by rw [hT1]; exact (Xn.app _ _).more _
  have gW : T1[S.length]? = some (.lst W) := by rw [hT1]; exact get_app (get_new1 _ _)
  rw [rIxW_lst (get_app gW)]
  refine ⟨_, W0, .inr (.inl ⟨_, _, _, rfl, get_new1 _ _, rfl, ?_⟩)⟩
  rw [t1]
  refine ⟨_, rfl, ?_⟩
  rw [if_neg nno, rIxW_lst (get_app gW)]
  refine ⟨_, W0, ?_⟩
  rw [rIxW_dct (get_new1 _ _)]
  refine ⟨_, _, rfl, t1, _, rfl, by omega, by omega, (_, List.range N.w), rfl, ⟨get_new1 _ _, by dsimp only; rw [List.length_range]; omega, fun k hk => by have := List.mem_range.mp hk; omega⟩, ?_⟩
  dsimp only
  obtain ⟨T2, hT2⟩ : ∃ T2, T2 = T1 ++ [Ob.dct (tabT l1)] ++ [Ob.lst (uptoP ((N.w : Int)).toNat)] ++ [Ob.dct (tabT (List.range N.w))] := ⟨_, rfl⟩
  have X2 : Xn T1 T2 := by rw [hT2]; exact ((Xn.app _ _).more _).more _
  have gT : T2[(T1 ++ [Ob.dct (tabT l1)] ++ [Ob.lst (uptoP ((N.w : Int)).toNat)]).length]? = some (.dct (tabT (List.range N.w))) := by rw [hT2]; exact get_new1 _ _
  rw [← hT2]
  refine ⟨(N, S.length, _), rfl, ⟨hN, by rw [← hW]; exact X2 _ _ gW, gT⟩, fun T3 X3 => ?_⟩
  dsimp only
  have gW3 := X3 _ _ (X2 _ _ gW)
  rw [rLenW_tup, List.length_map, rAddW_ii, rLenW_lst gW3, lW, rEqW_ii]
  refine ⟨_, rfl, ?_⟩
  rw [decide_eq_false (by omega), if_neg (by decide), rIxW_lst gW3, show ((N.sw.length : Nat) : Int) + 1 = ((N.sw.length + 1 : Nat) : Int) by omega]
  refine ⟨_, atI_nat' Wc, ?_⟩
  rw [rEqW_ss]
  refine ⟨_, rfl, ?_⟩
  rw [decide_eq_true rfl, if_neg (by decide), rAddW_ii, show ((N.sw.length + 1 : Nat) : Int) + 1 = ((N.sw.length + 2 : Nat) : Int) by omega]
  refine ⟨(N, S.length, _), rfl, ⟨hN, by rw [← hW]; exact gW3, X3 _ _ gT⟩, fun T4 X4 => fg_here ?_⟩
  exact h _ (((X1.trans X2).trans X3).trans X4)
end
end L4
set_option Elab.async false
set_option linter.all false
set_option maxRecDepth 100000
namespace L4
open PySem PySem.Spec PyProof.Rows L2 L3
theorem eqw_netX {S : Sto} {n : Nat} {N : Net} (h1 : N.sw.length ≤ 100000) (h2 : N.ord.length ≤ 100000) : EqW S (n + 4) (netP N) (netP N) := by
  refine .tup (.cons (.int _) (.cons (.tup (EqWs.map swP fun p _ => .tup (.cons (.int _) (.cons (.int _) .nil)) (Nat.le_of_ble_eq_true rfl)) (by rw [List.length_map]; exact h1)) (.cons (.tup (EqWs.map natP fun k _ => .int _) (by rw [List.length_map]; exact h2)) .nil))) (Nat.le_of_ble_eq_true rfl)
section
variable {P : Program} {w : World} {K : PySem.W.Frag} {mg : Str → Option Value} {base : Heap}
abbrev s_law : Stmt := top 21
theorem sc_law : FnScope ["script", "jar", "turn", "net", "text"] ["script"] (defScope s_law) := ⟨rfl, rfl, rfl, by decide +kernel, rfl, by decide +kernel, by decide +kernel⟩
set_option maxHeartbeats 1000000 in
theorem ok_law {f : Addr} {fd : FuncData} (F : Fun K "law" "law" s_law f fd) (T : Tn mg) (D_law_same : DefW Ts P w K mg base "_law_same" 9 ["found", "due"] (wSame 8)) (D_read_net : DefW Ts P w K mg base "read_net" 3 ["text"] wReadNet) (D_net_text : DefW Ts P w K mg base "net_text" 1 ["net"] wNetText) (D_law_net_text : DefW Ts P w K mg base "_law_net_text" 1 ["net"] wNetText) (D_law_net : DefW Ts P w K mg base "_law_net" 4 ["jar", "widest", "most"] wNet) (D_law_jar : DefW Ts P w K mg base "_law_jar" 2 ["script"] wJar) : FnOk P w K mg base CX0 10 f fd ["script"] (spW Ts K wLaw) := by
  refine ok_body (k := 9) F sc_law (fun pvs S Q h => by obtain ⟨a, rfl, _⟩ := h; rfl) (fun cdv A outer s H E hr => ?_)
  have hu := hu_of hr
  refine ⟨_, (sss_cons (ss_set (i := 1) sc_law.nd rfl (by first | exact Or.inl rfl | exact Or.inr rfl) (se_def D_law_jar (hr.mono (by first | decide | omega)) (by rfl) (sa_cons (sv 0) sa_nil)))
      (sss_cons (ss_for (vs := [2]) PassesOwn.never rfl (si_range1 (by rfl) T.range_ (sa_cons se_int sa_nil)) (pg_name (i := 2) sc_law.nd rfl (by first | exact Or.inl rfl | exact Or.inr rfl)) (gr_name (i := 2) (by decide)) (mg_name _) (sss_cons (ss_set (i := 3) sc_law.nd rfl (by first | exact Or.inl rfl | exact Or.inr rfl) (se_def D_law_net (hr.mono (by first | decide | omega)) (by rfl) (sa_cons (sv 1) (sa_cons se_int (sa_cons (se_ix hu (se_lst (sa_cons se_int (sa_cons se_int (sa_cons se_int sa_nil)))) (sv 2) (fun _ _ => rfl)) sa_nil)))))
      (sss_cons (ss_set (i := 4) sc_law.nd rfl (by first | exact Or.inl rfl | exact Or.inr rfl) (se_def D_law_net_text (hr.mono (by first | decide | omega)) (by rfl) (sa_cons (sv 3) sa_nil)))
      (sss_one (ss_if (SW.st (sw_or (st_not (st_val (se_def D_law_same (hr.mono (by first | decide | omega)) (by rfl) (sa_cons (se_def D_net_text (hr.mono (by first | decide | omega)) (by rfl) (sa_cons (sv 3) sa_nil)) (sa_cons (sv 4) sa_nil))))) (sw_or1 (st_not (st_val (se_def D_law_same (hr.mono (by first | decide | omega)) (by rfl) (sa_cons (se_def D_read_net (hr.mono (by first | decide | omega)) (by rfl) (sa_cons (sv 4) sa_nil)) (sa_cons (sv 3) sa_nil)))))))) (sss_one (ss_ret se_bl)) sss_nil)))))
      (sss_one (ss_ret (se_and (se_def D_law_same (hr.mono (by first | decide | omega)) (by rfl) (sa_cons (se_def D_net_text (hr.mono (by first | decide | omega)) (by rfl) (sa_cons (se_tup (sa_cons se_int (sa_cons (se_tup sa_nil) (sa_cons (se_tup (sa_cons se_int sa_nil)) sa_nil)))) sa_nil)) (sa_cons se_str sa_nil))) (se_one (se_def D_law_same (hr.mono (by first | decide | omega)) (by rfl) (sa_cons (se_def D_read_net (hr.mono (by first | decide | omega)) (by rfl) (sa_cons se_str sa_nil)) (sa_cons (se_tup (sa_cons se_int (sa_cons (se_tup (sa_cons (se_tup (sa_cons se_int (sa_cons se_int sa_nil))) sa_nil)) (sa_cons (se_tup (sa_cons se_int (sa_cons se_int sa_nil))) sa_nil)))) sa_nil))))))))), fun pvs S Q hcl hca h => ?_⟩
  obtain ⟨ns, rfl, hl, rfl, h⟩ := h
  simp only [wSeq, wAsg, wRet, wRetN, wDrop, wIfS, wVar, wC, wOp, wCall, wCons, wNil, wTup, wTest, wAnd, wOr, wNot, wAndV, wOrV, wNotV, wIf, wNext, wgName, wgTup, wgCons, wgNil, wFor, wSq, wYes, wLcU, wLcV, wLc, uTuple, uAll, uAny, uSum, wNeg, wSl, wPart, wNoPart, rSlW_tup, isNonP, seqW_tup, wLst, wipeW, wPar, wPut, wAug, wZip, wEnum, wRng1, wRng2, wChain, List.getElem?_cons_zero, List.getElem?_cons_succ, List.set_cons_zero, List.set_cons_succ, Option.some.injEq, exists_eq_left', exists_eq_left, exists_and_left, exists_eq_right, exists_eq_right', and_assoc, true_and, and_true, List.cons.injEq, and_self, if_true, if_false, Bool.false_eq_true, PV.int.injEq, PV.bl.injEq, PV.tup.injEq, PV.ref.injEq, PV.str.injEq, Bool.false_xor, Bool.true_xor, List.length_cons, List.length_nil, Nat.reduceAdd, Nat.reduceLeDiff, Nat.reduceEqDiff, Prod.mk.injEq, cutP_map, cutP_0, cutP_1, cutP_2, cutP_all, decide_eq_true_eq, startW, endsW, List.map_cons, List.map_nil, List.cons_append, List.nil_append, List.replicate, Nat.reduceSub, rIxW_tup, rLenW_tup, rListW_tup, wMeth, wRngL, wRngT, rIsiW_eq, tyP_non, tyP_bl, tyP_int, tyP_str, tyP_tup, isi_NoneType_int, isi_NoneType_bool, isi_NoneType_str, isi_NoneType_list, isi_NoneType_tuple, isi_NoneType_dict, isi_bool_int, isi_bool_bool, isi_bool_str, isi_bool_list, isi_bool_tuple, isi_bool_dict, isi_int_int, isi_int_bool, isi_int_str, isi_int_list, isi_int_tuple, isi_int_dict, isi_str_int, isi_str_bool, isi_str_str, isi_str_list, isi_str_tuple, isi_str_dict, isi_tuple_int, isi_tuple_bool, isi_tuple_str, isi_tuple_list, isi_tuple_tuple, isi_tuple_dict, isi_list_int, isi_list_bool, isi_list_str, isi_list_list, isi_list_tuple, isi_list_dict, isi_dict_int, isi_dict_bool, isi_dict_str, isi_dict_list, isi_dict_tuple, isi_dict_dict, decide_true, decide_false, Bool.not_true, Bool.not_false, Bool.not_eq_true', decide_eq_false_iff_not, ite_not, natP, swP, natsP, intsP, atI_0, atI_1, atI_2, atI_3, wLcU2, wLcV2, wTupZip, wZipN, wStep, wRev, wMaxD, wMinD, rInW_ints, rEqW_ii, rEqW_bb, rEqW_ss, rIsW_n, rIsW_bb, rAddW_ii, rAddW_ss, rAddW_tt, rIW_ii, rI0W_ii, rMulW_ii, rMulW_ti, rIntW_i, rIntW_b, rMax2W_ii, rMin2W_ii]
  refine ⟨ns, rfl, by decide, by decide, ?_⟩
  show wLoop _ _ _ (rngP 0 3) _ _ _
  refine loop_rng (fun _ => trivial) (fun i τ' S' => S'[0]? = some .jar ∧ ∃ x2 x3 x4, τ' = [some (PV.scr ns), some (PV.ref 0), x2, x3, x4]) ⟨rfl, _, _, _, rfl⟩ ?_ ?_
  · rintro i τ' S' R hi ⟨hj, x2, x3, x4, rfl⟩ hR
    simp only [wSeq, wAsg, wRet, wRetN, wDrop, wIfS, wVar, wC, wOp, wCall, wCons, wNil, wTup, wTest, wAnd, wOr, wNot, wAndV, wOrV, wNotV, wIf, wNext, wgName, wgTup, wgCons, wgNil, wFor, wSq, wYes, wLcU, wLcV, wLc, uTuple, uAll, uAny, uSum, wNeg, wSl, wPart, wNoPart, rSlW_tup, isNonP, seqW_tup, wLst, wipeW, wPar, wPut, wAug, wZip, wEnum, wRng1, wRng2, wChain, List.getElem?_cons_zero, List.getElem?_cons_succ, List.set_cons_zero, List.set_cons_succ, Option.some.injEq, exists_eq_left', exists_eq_left, exists_and_left, exists_eq_right, exists_eq_right', and_assoc, true_and, and_true, List.cons.injEq, and_self, if_true, if_false, Bool.false_eq_true, PV.int.injEq, PV.bl.injEq, PV.tup.injEq, PV.ref.injEq, PV.str.injEq, Bool.false_xor, Bool.true_xor, List.length_cons, List.length_nil, Nat.reduceAdd, Nat.reduceLeDiff, Nat.reduceEqDiff, Prod.mk.injEq, cutP_map, cutP_0, cutP_1, cutP_2, cutP_all, decide_eq_true_eq, startW, endsW, List.map_cons, List.map_nil, List.cons_append, List.nil_append, List.replicate, Nat.reduceSub, rIxW_tup, rLenW_tup, rListW_tup, wMeth, wRngL, wRngT, rIsiW_eq, tyP_non, tyP_bl, tyP_int, tyP_str, tyP_tup, isi_NoneType_int, isi_NoneType_bool, isi_NoneType_str, isi_NoneType_list, isi_NoneType_tuple, isi_NoneType_dict, isi_bool_int, isi_bool_bool, isi_bool_str, isi_bool_list, isi_bool_tuple, isi_bool_dict, isi_int_int, isi_int_bool, isi_int_str, isi_int_list, isi_int_tuple, isi_int_dict, isi_str_int, isi_str_bool, isi_str_str, isi_str_list, isi_str_tuple, isi_str_dict, isi_tuple_int, isi_tuple_bool, isi_tuple_str, isi_tuple_list, isi_tuple_tuple, isi_tuple_dict, isi_list_int, isi_list_bool, isi_list_str, isi_list_list, isi_list_tuple, isi_list_dict, isi_dict_int, isi_dict_bool, isi_dict_str, isi_dict_list, isi_dict_tuple, isi_dict_dict, decide_true, decide_false, Bool.not_true, Bool.not_false, Bool.not_eq_true', decide_eq_false_iff_not, ite_not, natP, swP, natsP, intsP, atI_0, atI_1, atI_2, atI_3, wLcU2, wLcV2, wTupZip, wZipN, wStep, wRev, wMaxD, wMinD, rInW_ints, rEqW_ii, rEqW_bb, rEqW_ss, rIsW_n, rIsW_bb, rAddW_ii, rAddW_ss, rAddW_tt, rIW_ii, rI0W_ii, rMulW_ii, rMulW_ti, rIntW_i, rIntW_b, rMax2W_ii, rMin2W_ii]
    rw [rIxW_lst (get_new1 _ _)]
    obtain ⟨mo, hmo, ha⟩ : ∃ mo : Nat, mo ≤ 160 ∧ atI [PV.int 12, PV.int 40, PV.int 160] (i : Int) = some (natP mo) := by
      match i, hi with
      | 0, _ => exact ⟨12, by decide, rfl⟩
      | 1, _ => exact ⟨40, by decide, rfl⟩
      | 2, _ => exact ⟨160, by decide, rfl⟩
    refine ⟨_, ha, 0, 16, mo, rfl, get_app hj, by decide, by decide, hmo, fun N ok hw hl => ?_⟩
    have hN : NetB N := ⟨ok, by omega⟩
    have l160 := hN.l160
    have w16 := ok.w16
    have lor : N.ord.length = N.w := by rw [ok.ord.length_eq, List.length_range]
    refine ⟨N, rfl, hN, ?_⟩
    refine ⟨N, rfl, hN, ?_⟩
    refine ⟨(_, _), rfl, .str _, ?_⟩
    refine ⟨_, rfl, ?_⟩
    rw [if_neg (by decide)]
    refine ⟨N, rfl, hN, fun S2 X2 => ?_⟩
    refine ⟨(_, _), rfl, eqw_netX (n := 4) (by omega) (by omega), ?_⟩
    refine ⟨_, rfl, ?_⟩
    rw [if_neg (by decide)]
    exact hR _ _ ⟨X2 _ _ (get_app hj), _, _, _, rfl⟩
  · rintro τ' S' ⟨hj, x2, x3, x4, rfl⟩
    simp only [wSeq, wAsg, wRet, wRetN, wDrop, wIfS, wVar, wC, wOp, wCall, wCons, wNil, wTup, wTest, wAnd, wOr, wNot, wAndV, wOrV, wNotV, wIf, wNext, wgName, wgTup, wgCons, wgNil, wFor, wSq, wYes, wLcU, wLcV, wLc, uTuple, uAll, uAny, uSum, wNeg, wSl, wPart, wNoPart, rSlW_tup, isNonP, seqW_tup, wLst, wipeW, wPar, wPut, wAug, wZip, wEnum, wRng1, wRng2, wChain, List.getElem?_cons_zero, List.getElem?_cons_succ, List.set_cons_zero, List.set_cons_succ, Option.some.injEq, exists_eq_left', exists_eq_left, exists_and_left, exists_eq_right, exists_eq_right', and_assoc, true_and, and_true, List.cons.injEq, and_self, if_true, if_false, Bool.false_eq_true, PV.int.injEq, PV.bl.injEq, PV.tup.injEq, PV.ref.injEq, PV.str.injEq, Bool.false_xor, Bool.true_xor, List.length_cons, List.length_nil, Nat.reduceAdd, Nat.reduceLeDiff, Nat.reduceEqDiff, Prod.mk.injEq, cutP_map, cutP_0, cutP_1, cutP_2, cutP_all, decide_eq_true_eq, startW, endsW, List.map_cons, List.map_nil, List.cons_append, List.nil_append, List.replicate, Nat.reduceSub, rIxW_tup, rLenW_tup, rListW_tup, wMeth, wRngL, wRngT, rIsiW_eq, tyP_non, tyP_bl, tyP_int, tyP_str, tyP_tup, isi_NoneType_int, isi_NoneType_bool, isi_NoneType_str, isi_NoneType_list, isi_NoneType_tuple, isi_NoneType_dict, isi_bool_int, isi_bool_bool, isi_bool_str, isi_bool_list, isi_bool_tuple, isi_bool_dict, isi_int_int, isi_int_bool, isi_int_str, isi_int_list, isi_int_tuple, isi_int_dict, isi_str_int, isi_str_bool, isi_str_str, isi_str_list, isi_str_tuple, isi_str_dict, isi_tuple_int, isi_tuple_bool, isi_tuple_str, isi_tuple_list, isi_tuple_tuple, isi_tuple_dict, isi_list_int, isi_list_bool, isi_list_str, isi_list_list, isi_list_tuple, isi_list_dict, isi_dict_int, isi_dict_bool, isi_dict_str, isi_dict_list, isi_dict_tuple, isi_dict_dict, decide_true, decide_false, Bool.not_true, Bool.not_false, Bool.not_eq_true', decide_eq_false_iff_not, ite_not, natP, swP, natsP, intsP, atI_0, atI_1, atI_2, atI_3, wLcU2, wLcV2, wTupZip, wZipN, wStep, wRev, wMaxD, wMinD, rInW_ints, rEqW_ii, rEqW_bb, rEqW_ss, rIsW_n, rIsW_bb, rAddW_ii, rAddW_ss, rAddW_tt, rIW_ii, rI0W_ii, rMulW_ii, rMulW_ti, rIntW_i, rIntW_b, rMax2W_ii, rMin2W_ii]
    have b1 : NetB ⟨1, [], [0]⟩ := ⟨⟨by decide, by decide, fun p hp => absurd hp List.not_mem_nil, by decide⟩, by decide⟩
    have b2 : NetB ⟨2, [(1, 0)], [1, 0]⟩ := ⟨⟨by decide, by decide, by decide, by decide⟩, by decide⟩
    have e1 : textT 1 [] [0] = Str.ofString "1 : 0" := by decide +kernel
    have e2 : textT 2 [(1, 0)] [1, 0] = Str.ofString "2 1-0 : 1 0" := by decide +kernel
    refine ⟨⟨1, [], [0]⟩, rfl, b1, ?_⟩
    refine ⟨(_, _), rfl, ?_, ?_⟩
    · show EqW _ _ (PV.str (textT 1 [] [0])) _
      rw [e1]
      exact .str _
    refine ⟨_, rfl, ?_⟩
    rw [if_pos rfl]
    refine ⟨⟨2, [(1, 0)], [1, 0]⟩, by rw [e2], b2, fun S2 X2 => ?_⟩
    refine ⟨(_, _), rfl, eqw_netX (n := 4) (N := ⟨2, [(1, 0)], [1, 0]⟩) (by decide) (by decide), ?_⟩
    exact fg_here (h _)
end
end L4
set_option Elab.async false
set_option linter.all false
set_option maxRecDepth 100000
namespace L4
open PySem PySem.Spec PyProof.Rows L2 L3
set_option maxHeartbeats 0 in
theorem all_mk {l : PySem.W.OpenLaw} {q : Program} {w : World} {K : PySem.W.Frag} {h : Heap} {mg : Str → Option Value} {fa : Addr} {f0 f1 f2 f3 f4 f5 f6 f7 f8 f9 f10 f11 f12 f13 : Addr} (X : K.In h) (G : h.Ns mainGlobals mg) (hfa : mg "law" = some (.ref fa))
    (tabs : ∀ d ∈ recsOf q, ∃ a o fd c P, mg d.name = some (.ref a) ∧ h.get? a = some o ∧ o.data = .func fd ∧ fd.code = .ref c ∧ h.IsCode c P #[] ∧ h.TableAt c P #[])
    {od0 an0 od1 an1 od2 an2 od3 an3 od4 an4 od5 an5 od6 an6 od7 an7 od8 an8 od9 an9 od10 an10 od11 an11 od12 an12 od13 an13 : Option Addr} {sl0 sl1 sl2 sl3 sl4 sl5 sl6 sl7 sl8 sl9 sl10 sl11 sl12 sl13 : Array (Option Value)} {oc0 kV0 dc0 pm0 cd0 ct0 oc1 kV1 dc1 pm1 cd1 ct1 oc2 kV2 dc2 pm2 cd2 ct2 oc3 kV3 dc3 pm3 cd3 ct3 oc4 kV4 dc4 pm4 cd4 ct4 oc5 kV5 dc5 pm5 cd5 ct5 oc6 kV6 dc6 pm6 cd6 ct6 oc7 kV7 dc7 pm7 cd7 ct7 oc8 kV8 dc8 pm8 cd8 ct8 oc9 kV9 dc9 pm9 cd9 ct9 oc10 kV10 dc10 pm10 cd10 ct10 oc11 kV11 dc11 pm11 cd11 ct11 oc12 kV12 dc12 pm12 cd12 ct12 oc13 kV13 dc13 pm13 cd13 ct13 : Value}
    (a0 : PySem.W.nsIn K mainGlobals "net_text" = some (some (.ref f0))) (l0 : K.lookup f0 = some ⟨oc0, od0, .func (PySem.W.fnOf "net_text" "net_text" (defArgs s_net_text) (defBody s_net_text) (defScope s_net_text) .none kV0 dc0 pm0 an0 cd0 ct0), sl0⟩) (c0 : PySem.W.codeIn K cd0 "net_text" = true) (k0 : PySem.W.keepIn K (.ref f0) = true)
    (a1 : PySem.W.nsIn K mainGlobals "spelled" = some (some (.ref f1))) (l1 : K.lookup f1 = some ⟨oc1, od1, .func (PySem.W.fnOf "spelled" "spelled" (defArgs s_spelled) (defBody s_spelled) (defScope s_spelled) .none kV1 dc1 pm1 an1 cd1 ct1), sl1⟩) (c1 : PySem.W.codeIn K cd1 "spelled" = true) (k1 : PySem.W.keepIn K (.ref f1) = true)
    (a2 : PySem.W.nsIn K mainGlobals "read_switch" = some (some (.ref f2))) (l2 : K.lookup f2 = some ⟨oc2, od2, .func (PySem.W.fnOf "read_switch" "read_switch" (defArgs s_read_switch) (defBody s_read_switch) (defScope s_read_switch) .none kV2 dc2 pm2 an2 cd2 ct2), sl2⟩) (c2 : PySem.W.codeIn K cd2 "read_switch" = true) (k2 : PySem.W.keepIn K (.ref f2) = true)
    (a3 : PySem.W.nsIn K mainGlobals "read_switches" = some (some (.ref f3))) (l3 : K.lookup f3 = some ⟨oc3, od3, .func (PySem.W.fnOf "read_switches" "read_switches" (defArgs s_read_switches) (defBody s_read_switches) (defScope s_read_switches) .none kV3 dc3 pm3 an3 cd3 ct3), sl3⟩) (c3 : PySem.W.codeIn K cd3 "read_switches" = true) (k3 : PySem.W.keepIn K (.ref f3) = true)
    (a4 : PySem.W.nsIn K mainGlobals "read_order" = some (some (.ref f4))) (l4 : K.lookup f4 = some ⟨oc4, od4, .func (PySem.W.fnOf "read_order" "read_order" (defArgs s_read_order) (defBody s_read_order) (defScope s_read_order) .none kV4 dc4 pm4 an4 cd4 ct4), sl4⟩) (c4 : PySem.W.codeIn K cd4 "read_order" = true) (k4 : PySem.W.keepIn K (.ref f4) = true)
    (a5 : PySem.W.nsIn K mainGlobals "read_net" = some (some (.ref f5))) (l5 : K.lookup f5 = some ⟨oc5, od5, .func (PySem.W.fnOf "read_net" "read_net" (defArgs s_read_net) (defBody s_read_net) (defScope s_read_net) .none kV5 dc5 pm5 an5 cd5 ct5), sl5⟩) (c5 : PySem.W.codeIn K cd5 "read_net" = true) (k5 : PySem.W.keepIn K (.ref f5) = true)
    (a6 : PySem.W.nsIn K mainGlobals "_law_mix" = some (some (.ref f6))) (l6 : K.lookup f6 = some ⟨oc6, od6, .func (PySem.W.fnOf "_law_mix" "_law_mix" (defArgs s_law_mix) (defBody s_law_mix) (defScope s_law_mix) .none kV6 dc6 pm6 an6 cd6 ct6), sl6⟩) (c6 : PySem.W.codeIn K cd6 "_law_mix" = true) (k6 : PySem.W.keepIn K (.ref f6) = true)
    (a7 : PySem.W.nsIn K mainGlobals "_law_jar" = some (some (.ref f7))) (l7 : K.lookup f7 = some ⟨oc7, od7, .func (PySem.W.fnOf "_law_jar" "_law_jar" (defArgs s_law_jar) (defBody s_law_jar) (defScope s_law_jar) .none kV7 dc7 pm7 an7 cd7 ct7), sl7⟩) (c7 : PySem.W.codeIn K cd7 "_law_jar" = true) (k7 : PySem.W.keepIn K (.ref f7) = true)
    (a8 : PySem.W.nsIn K mainGlobals "_law_pick" = some (some (.ref f8))) (l8 : K.lookup f8 = some ⟨oc8, od8, .func (PySem.W.fnOf "_law_pick" "_law_pick" (defArgs s_law_pick) (defBody s_law_pick) (defScope s_law_pick) .none kV8 dc8 pm8 an8 cd8 ct8), sl8⟩) (c8 : PySem.W.codeIn K cd8 "_law_pick" = true) (k8 : PySem.W.keepIn K (.ref f8) = true)
    (a9 : PySem.W.nsIn K mainGlobals "_law_order" = some (some (.ref f9))) (l9 : K.lookup f9 = some ⟨oc9, od9, .func (PySem.W.fnOf "_law_order" "_law_order" (defArgs s_law_order) (defBody s_law_order) (defScope s_law_order) .none kV9 dc9 pm9 an9 cd9 ct9), sl9⟩) (c9 : PySem.W.codeIn K cd9 "_law_order" = true) (k9 : PySem.W.keepIn K (.ref f9) = true)
    (a10 : PySem.W.nsIn K mainGlobals "_law_net" = some (some (.ref f10))) (l10 : K.lookup f10 = some ⟨oc10, od10, .func (PySem.W.fnOf "_law_net" "_law_net" (defArgs s_law_net) (defBody s_law_net) (defScope s_law_net) .none kV10 dc10 pm10 an10 cd10 ct10), sl10⟩) (c10 : PySem.W.codeIn K cd10 "_law_net" = true) (k10 : PySem.W.keepIn K (.ref f10) = true)
    (a11 : PySem.W.nsIn K mainGlobals "_law_net_text" = some (some (.ref f11))) (l11 : K.lookup f11 = some ⟨oc11, od11, .func (PySem.W.fnOf "_law_net_text" "_law_net_text" (defArgs s_law_net_text) (defBody s_law_net_text) (defScope s_law_net_text) .none kV11 dc11 pm11 an11 cd11 ct11), sl11⟩) (c11 : PySem.W.codeIn K cd11 "_law_net_text" = true) (k11 : PySem.W.keepIn K (.ref f11) = true)
    (a12 : PySem.W.nsIn K mainGlobals "_law_same" = some (some (.ref f12))) (l12 : K.lookup f12 = some ⟨oc12, od12, .func (PySem.W.fnOf "_law_same" "_law_same" (defArgs s_law_same) (defBody s_law_same) (defScope s_law_same) .none kV12 dc12 pm12 an12 cd12 ct12), sl12⟩) (c12 : PySem.W.codeIn K cd12 "_law_same" = true) (k12 : PySem.W.keepIn K (.ref f12) = true)
    (a13 : PySem.W.nsIn K mainGlobals "law" = some (some (.ref f13))) (l13 : K.lookup f13 = some ⟨oc13, od13, .func (PySem.W.fnOf "law" "law" (defArgs s_law) (defBody s_law) (defScope s_law) .none kV13 dc13 pm13 an13 cd13 ct13), sl13⟩) (c13 : PySem.W.codeIn K cd13 "law" = true) (k13 : PySem.W.keepIn K (.ref f13) = true)
    (z_list : PySem.W.nsIn K mainGlobals "list" = some none)
    (z_tuple : PySem.W.nsIn K mainGlobals "tuple" = some none)
    (z_range : PySem.W.nsIn K mainGlobals "range" = some none)
    (z_int : PySem.W.nsIn K mainGlobals "int" = some none)
    (z_bool : PySem.W.nsIn K mainGlobals "bool" = some none)
    (z_str : PySem.W.nsIn K mainGlobals "str" = some none)
    (z_len : PySem.W.nsIn K mainGlobals "len" = some none)
    (z_isinstance : PySem.W.nsIn K mainGlobals "isinstance" = some none)
    (z_all : PySem.W.nsIn K mainGlobals "all" = some none)
    (z_zip : PySem.W.nsIn K mainGlobals "zip" = some none)
    (z_enumerate : PySem.W.nsIn K mainGlobals "enumerate" = some none)
    (z_max : PySem.W.nsIn K mainGlobals "max" = some none)
    (z_min : PySem.W.nsIn K mainGlobals "min" = some none)
    (z_sorted : PySem.W.nsIn K mainGlobals "sorted" = some none)
    (z_set : PySem.W.nsIn K mainGlobals "set" = some none)
    (z_repr : PySem.W.nsIn K mainGlobals "repr" = some none)
    (z_sum : PySem.W.nsIn K mainGlobals "sum" = some none)
    (z_any : PySem.W.nsIn K mainGlobals "any" = some none)
    (z_abs : PySem.W.nsIn K mainGlobals "abs" = some none)
    (z_dict : PySem.W.nsIn K mainGlobals "dict" = some none)
    {tk_MOST_WIRES : Tok} (g_MOST_WIRES : PySem.W.nsIn K mainGlobals "MOST_WIRES" = some (some (.int 16 tk_MOST_WIRES)))
    {tk_MOST_SWITCHES : Tok} (g_MOST_SWITCHES : PySem.W.nsIn K mainGlobals "MOST_SWITCHES" = some (some (.int 160 tk_MOST_SWITCHES)))
    {tk_COLON : Tok} (g_COLON : PySem.W.nsIn K mainGlobals "COLON" = some (some (.str ":" tk_COLON)))
    : ∃ (Ts : List Addr) (fd : FuncData), (∀ P ∈ Ts, TabAt K h P) ∧ (∀ (s : Shared) (v : Value), BindsTo s fd ⟨[v], []⟩ [("script", v)]) ∧ ∀ base : Heap, K.In base → base.Ns mainGlobals mg → (∃ bm ob, BMod base mainGlobals mg bm ob) → FnOk l.prog w K mg base CX0 10 fa fd ["script"] (spW Ts K wLaw) := by
  have e := hfa.symm.trans (PySem.W.mg_of X G a13)
  cases e
  have T : Tn mg := ⟨PySem.W.mg_none_of X G z_list, PySem.W.mg_none_of X G z_tuple, PySem.W.mg_none_of X G z_range, PySem.W.mg_none_of X G z_int, PySem.W.mg_none_of X G z_bool, PySem.W.mg_none_of X G z_str, PySem.W.mg_none_of X G z_len, PySem.W.mg_none_of X G z_isinstance, PySem.W.mg_none_of X G z_all, PySem.W.mg_none_of X G z_zip, PySem.W.mg_none_of X G z_enumerate, PySem.W.mg_none_of X G z_max, PySem.W.mg_none_of X G z_min, PySem.W.mg_none_of X G z_sorted, PySem.W.mg_none_of X G z_set, PySem.W.mg_none_of X G z_repr, PySem.W.mg_none_of X G z_sum, PySem.W.mg_none_of X G z_any, PySem.W.mg_none_of X G z_abs, PySem.W.mg_none_of X G z_dict⟩
  have C_MOST_WIRES := PySem.W.mg_of X G g_MOST_WIRES
  have C_MOST_SWITCHES := PySem.W.mg_of X G g_MOST_SWITCHES
  have C_COLON := PySem.W.mg_of X G g_COLON
  have F_net_text := fun_mk (st := s_net_text) l0 c0 k0
  have m_net_text := PySem.W.mg_of X G a0
  have b_net_text := F_net_text.binds (ps := ["net"]) fun _ _ _ _ _ _ us hl => match us, hl with | [_], _ => rfl
  have F_spelled := fun_mk (st := s_spelled) l1 c1 k1
  have m_spelled := PySem.W.mg_of X G a1
  have b_spelled := F_spelled.binds (ps := ["numbers"]) fun _ _ _ _ _ _ us hl => match us, hl with | [_], _ => rfl
  have F_read_switch := fun_mk (st := s_read_switch) l2 c2 k2
  have m_read_switch := PySem.W.mg_of X G a2
  have b_read_switch := F_read_switch.binds (ps := ["word", "wires"]) fun _ _ _ _ _ _ us hl => match us, hl with | [_, _], _ => rfl
  have F_read_switches := fun_mk (st := s_read_switches) l3 c3 k3
  have m_read_switches := PySem.W.mg_of X G a3
  have b_read_switches := F_read_switches.binds (ps := ["words", "wires"]) fun _ _ _ _ _ _ us hl => match us, hl with | [_, _], _ => rfl
  have F_read_order := fun_mk (st := s_read_order) l4 c4 k4
  have m_read_order := PySem.W.mg_of X G a4
  have b_read_order := F_read_order.binds (ps := ["words", "first", "wires"]) fun _ _ _ _ _ _ us hl => match us, hl with | [_, _, _], _ => rfl
  have F_read_net := fun_mk (st := s_read_net) l5 c5 k5
  have m_read_net := PySem.W.mg_of X G a5
  have b_read_net := F_read_net.binds (ps := ["text"]) fun _ _ _ _ _ _ us hl => match us, hl with | [_], _ => rfl
  have F_law_mix := fun_mk (st := s_law_mix) l6 c6 k6
  have m_law_mix := PySem.W.mg_of X G a6
  have b_law_mix := F_law_mix.binds (ps := ["one"]) fun _ _ _ _ _ _ us hl => match us, hl with | [_], _ => rfl
  have F_law_jar := fun_mk (st := s_law_jar) l7 c7 k7
  have m_law_jar := PySem.W.mg_of X G a7
  have b_law_jar := F_law_jar.binds (ps := ["script"]) fun _ _ _ _ _ _ us hl => match us, hl with | [_], _ => rfl
  have F_law_pick := fun_mk (st := s_law_pick) l8 c8 k8
  have m_law_pick := PySem.W.mg_of X G a8
  have b_law_pick := F_law_pick.binds (ps := ["jar", "many"]) fun _ _ _ _ _ _ us hl => match us, hl with | [_, _], _ => rfl
  have F_law_order := fun_mk (st := s_law_order) l9 c9 k9
  have m_law_order := PySem.W.mg_of X G a9
  have b_law_order := F_law_order.binds (ps := ["jar", "many"]) fun _ _ _ _ _ _ us hl => match us, hl with | [_, _], _ => rfl
  have F_law_net := fun_mk (st := s_law_net) l10 c10 k10
  have m_law_net := PySem.W.mg_of X G a10
  have b_law_net := F_law_net.binds (ps := ["jar", "widest", "most"]) fun _ _ _ _ _ _ us hl => match us, hl with | [_, _, _], _ => rfl
  have F_law_net_text := fun_mk (st := s_law_net_text) l11 c11 k11
  have m_law_net_text := PySem.W.mg_of X G a11
  have b_law_net_text := F_law_net_text.binds (ps := ["net"]) fun _ _ _ _ _ _ us hl => match us, hl with | [_], _ => rfl
  have F_law_same := fun_mk (st := s_law_same) l12 c12 k12
  have m_law_same := PySem.W.mg_of X G a12
  have b_law_same := F_law_same.binds (ps := ["found", "due"]) fun _ _ _ _ _ _ us hl => match us, hl with | [_, _], _ => rfl
  have F_law := fun_mk (st := s_law) l13 c13 k13
  have m_law := PySem.W.mg_of X G a13
  have b_law := F_law.binds (ps := ["script"]) fun _ _ _ _ _ _ us hl => match us, hl with | [_], _ => rfl
  refine ⟨[], PySem.W.fnOf "law" "law" (defArgs s_law) (defBody s_law) (defScope s_law) .none kV13 dc13 pm13 an13 cd13 ct13, fun P hP => ?_, fun s v => .of_eq rfl, fun base _ _ hM => ?_⟩
  · cases hP
  have D0_law_mix : Def l.prog w K mg base "_law_mix" 1 ["one"] spMix := ⟨_, _, ok_law_mix F_law_mix, m_law_mix, F_law_mix.kp, b_law_mix⟩
  have D_law_jar : DefW [] l.prog w K mg base "_law_jar" 2 ["script"] wJar := ⟨⟨_, _, (ok_law_jar F_law_jar T D0_law_mix).imp (jar_imp fun _ _ _ _ h => h), m_law_jar, F_law_jar.kp, b_law_jar⟩, mo_jar⟩
  have D0_law_pick : Def l.prog w K mg base "_law_pick" 2 ["jar", "many"] spPick := ⟨_, _, ok_law_pick F_law_pick D0_law_mix, m_law_pick, F_law_pick.kp, b_law_pick⟩
  have D_law_pick : DefW [] l.prog w K mg base "_law_pick" 2 ["jar", "many"] wPick := ⟨⟨_, _, (ok_law_pick F_law_pick D0_law_mix).imp (pick_imp fun _ _ _ _ h => h), m_law_pick, F_law_pick.kp, b_law_pick⟩, mo_pick⟩
  have D0_law_order : Def l.prog w K mg base "_law_order" 3 ["jar", "many"] spOrder := ⟨_, _, ok_law_order F_law_order T D0_law_pick, m_law_order, F_law_order.kp, b_law_order⟩
  have D_law_order : DefW [] l.prog w K mg base "_law_order" 3 ["jar", "many"] wOrder := ⟨⟨_, _, (ok_law_order F_law_order T D0_law_pick).imp order_imp, m_law_order, F_law_order.kp, b_law_order⟩, mo_order⟩
  have D_law_net : DefW [] l.prog w K mg base "_law_net" 4 ["jar", "widest", "most"] wNet := ⟨⟨_, _, (ok_law_net F_law_net T D0_law_pick D0_law_order).imp net_imp, m_law_net, F_law_net.kp, b_law_net⟩, mo_net⟩
  have D_law_same : DefW [] l.prog w K mg base "_law_same" 9 ["found", "due"] (wSame 8) := ⟨⟨_, _, (ok_law_same F_law_same T m_law_same b_law_same  8).mono (by omega), m_law_same, F_law_same.kp, b_law_same⟩, mo_same 8⟩
  have D_net_text : DefW [] l.prog w K mg base "net_text" 1 ["net"] wNetText := ⟨⟨_, _, ok_net_text F_net_text T C_COLON, m_net_text, F_net_text.kp, b_net_text⟩, mo_ctrF⟩
  have D_law_net_text : DefW [] l.prog w K mg base "_law_net_text" 1 ["net"] wNetText := ⟨⟨_, _, ok_law_net_text F_law_net_text T , m_law_net_text, F_law_net_text.kp, b_law_net_text⟩, mo_ctrF⟩
  have D_spelled : DefW [] l.prog w K mg base "spelled" 1 ["numbers"] wSpelled := ⟨⟨_, _, ok_spelled F_spelled T , m_spelled, F_spelled.kp, b_spelled⟩, mo_spelled⟩
  have D_read_switch : DefW [] l.prog w K mg base "read_switch" 1 ["word", "wires"] wReadSwitch := ⟨⟨_, _, ok_read_switch F_read_switch T , m_read_switch, F_read_switch.kp, b_read_switch⟩, mo_ctrF⟩
  have D_read_switches : DefW [] l.prog w K mg base "read_switches" 2 ["words", "wires"] wReadSwitches := ⟨⟨_, _, ok_read_switches F_read_switches T C_MOST_SWITCHES D_read_switch, m_read_switches, F_read_switches.kp, b_read_switches⟩, mo_readSwitches⟩
  have D_read_order : DefW [] l.prog w K mg base "read_order" 1 ["words", "first", "wires"] wReadOrder := ⟨⟨_, _, ok_read_order F_read_order T , m_read_order, F_read_order.kp, b_read_order⟩, mo_readOrder⟩
  have D_read_net : DefW [] l.prog w K mg base "read_net" 3 ["text"] wReadNet := ⟨⟨_, _, ok_read_net F_read_net T C_COLON C_MOST_WIRES D_read_order D_read_switches D_spelled, m_read_net, F_read_net.kp, b_read_net⟩, mo_readNet⟩
  exact ok_law F_law T D_law_same D_read_net D_net_text D_law_net_text D_law_net D_law_jar
end L4
open PySem PySem.W PyProof.Rows
set_option maxRecDepth 100000 in
set_option maxHeartbeats 0 in
theorem PySem.Challenge.cw_turnfork_k80_nets_written_holds : PySem.Challenge.rw_turnfork_k80_nets_written.Holds := by
  w_on; o_law; k_head; (case hw => w_witness2)
  k_fill
  refine L4.walkW (l := PySem.Challenge.rw_turnfork_k80_nets_written) (k := 10) ⟨rfl, by decide, by decide, rfl⟩ rfl rfl (fun w h Y => by first | exact PySem.W.kIn_of Y | exact PySem.W.km_in_of Y) ?F
  case F =>
    intro w mg fa h KX G hmg tabs
    refine' L4.all_mk KX G hmg tabs ?a0 ?l0 ?c0 ?k0 ?a1 ?l1 ?c1 ?k1 ?a2 ?l2 ?c2 ?k2 ?a3 ?l3 ?c3 ?k3 ?a4 ?l4 ?c4 ?k4 ?a5 ?l5 ?c5 ?k5 ?a6 ?l6 ?c6 ?k6 ?a7 ?l7 ?c7 ?k7 ?a8 ?l8 ?c8 ?k8 ?a9 ?l9 ?c9 ?k9 ?a10 ?l10 ?c10 ?k10 ?a11 ?l11 ?c11 ?k11 ?a12 ?l12 ?c12 ?k12 ?a13 ?l13 ?c13 ?k13 ?z_list ?z_tuple ?z_range ?z_int ?z_bool ?z_str ?z_len ?z_isinstance ?z_all ?z_zip ?z_enumerate ?z_max ?z_min ?z_sorted ?z_set ?z_repr ?z_sum ?z_any ?z_abs ?z_dict ?g_MOST_WIRES ?g_MOST_SWITCHES ?g_COLON
    (case a0 => k_is); (case l0 => k_is); (case c0 => k_is); (case k0 => k_is); (case a1 => k_is); (case l1 => k_is)
    (case c1 => k_is); (case k1 => k_is); (case a2 => k_is); (case l2 => k_is); (case c2 => k_is); (case k2 => k_is)
    (case a3 => k_is); (case l3 => k_is); (case c3 => k_is); (case k3 => k_is); (case a4 => k_is); (case l4 => k_is)
    (case c4 => k_is); (case k4 => k_is); (case a5 => k_is); (case l5 => k_is); (case c5 => k_is); (case k5 => k_is)
    (case a6 => k_is); (case l6 => k_is); (case c6 => k_is); (case k6 => k_is); (case a7 => k_is); (case l7 => k_is)
    (case c7 => k_is); (case k7 => k_is); (case a8 => k_is); (case l8 => k_is); (case c8 => k_is); (case k8 => k_is)
    (case a9 => k_is); (case l9 => k_is); (case c9 => k_is); (case k9 => k_is); (case a10 => k_is); (case l10 => k_is)
    (case c10 => k_is); (case k10 => k_is); (case a11 => k_is); (case l11 => k_is); (case c11 => k_is); (case k11 => k_is)
    (case a12 => k_is); (case l12 => k_is); (case c12 => k_is); (case k12 => k_is); (case a13 => k_is); (case l13 => k_is)
    (case c13 => k_is); (case k13 => k_is); (case z_list => k_is); (case z_tuple => k_is); (case z_range => k_is); (case z_int => k_is)
    (case z_bool => k_is); (case z_str => k_is); (case z_len => k_is); (case z_isinstance => k_is); (case z_all => k_is); (case z_zip => k_is)
    (case z_enumerate => k_is); (case z_max => k_is); (case z_min => k_is); (case z_sorted => k_is); (case z_set => k_is); (case z_repr => k_is)
    (case z_sum => k_is); (case z_any => k_is); (case z_abs => k_is); (case z_dict => k_is); (case g_MOST_WIRES => k_is); (case g_MOST_SWITCHES => k_is)
    (case g_COLON => k_is)
