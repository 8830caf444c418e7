import PyProof.Rows.All
import Wide.All
import OpenK.AllK
import Wide.FinOn
import PyProof.EqAt
import PyProof.EqKinds
import PyProof.TupleCall
import KE.BitLaws
import PyProof.Rows.SortShellAny
import KE.KDictSum
import KE.KIsAll
import PyProof.RulesTry
import PyProof.SetRoads
import PyProof.Rows.SetFrom
import PySem.Challenge.RW_turnfork_k34_whole_layers_named_and_put
set_option Elab.async false
set_option linter.all false
set_option maxRecDepth 100000
namespace L2
open PySem PySem.Spec PyProof.Rows
/-- a key: an int or a str -/
abbrev Key := Sum Int Str
def keyIs : Key → Value → Bool
  | .inl k, v => Value.isInt k v
  | .inr x, v => Value.isStrOf x v
def keyH (w : World) : Key → Int
  | .inl k => hashInt k
  | .inr x => hashStr w x
theorem keyIs_shape : ∀ {k : Key} {v : Value}, keyIs k v = true → (∃ i t, k = Sum.inl i ∧ v = Value.int i t) ∨ (∃ x t, k = Sum.inr x ∧ v = Value.str x t)
  | .inl i, v, h => by
    obtain ⟨t, e⟩ := Value.isInt_shape (k := i) (v := v) h
    exact .inl ⟨i, t, rfl, e⟩
  | .inr x, v, h => by
    obtain ⟨t, e⟩ := Value.isStrOf_shape (x := x) (v := v) h
    exact .inr ⟨x, t, rfl, e⟩
theorem keyIs_int (i : Int) (t : Tok) : keyIs (.inl i) (.int i t) = true := by simp [keyIs, Value.isInt]
theorem keyIs_str (x : Str) (t : Tok) : keyIs (.inr x) (.str x t) = true := by simp [keyIs, Value.isStrOf]
theorem key_ll (a b : Int) : decide ((Sum.inl a : Key) = Sum.inl b) = (a == b) := by
  by_cases e : a = b
  · subst e; simp
  · have h : ¬ (Sum.inl a : Key) = Sum.inl b := fun q => e (Sum.inl.inj q)
    rw [decide_eq_false h]
    exact (beq_eq_false_iff_ne.mpr e).symm
theorem key_rr (a b : Str) : decide ((Sum.inr a : Key) = Sum.inr b) = decide (a = b) := by
  by_cases e : a = b
  · subst e; simp
  · have h : ¬ (Sum.inr a : Key) = Sum.inr b := fun q => e (Sum.inr.inj q)
    rw [decide_eq_false h, decide_eq_false e]
theorem key_lr (a : Int) (b : Str) : decide ((Sum.inl a : Key) = Sum.inr b) = false := decide_eq_false (fun q => nomatch q)
theorem key_rl (a : Str) (b : Int) : decide ((Sum.inr a : Key) = Sum.inl b) = false := decide_eq_false (fun q => nomatch q)
def mixKind (prog : Program) (w : World) : PySem.KeyKind prog w Key where
  is := keyIs
  hash := keyH w
  inj := fun v a b ha hb => by
    rcases keyIs_shape ha with ⟨i, t, rfl, rfl⟩ | ⟨x, t, rfl, rfl⟩
    · rcases keyIs_shape hb with ⟨j, u, rfl, e⟩ | ⟨y, u, rfl, e⟩
      · injection e with e1 _; rw [e1]
      · exact nomatch e
    · rcases keyIs_shape hb with ⟨j, u, rfl, e⟩ | ⟨y, u, rfl, e⟩
      · exact nomatch e
      · injection e with e1 _; rw [e1]
  byValue := fun k v h => by
    rcases keyIs_shape h with ⟨i, t, rfl, rfl⟩ | ⟨x, t, rfl, rfl⟩ <;> rfl
  pyHash := fun hv h => by
    rcases keyIs_shape hv with ⟨i, t, rfl, rfl⟩ | ⟨x, t, rfl, rfl⟩
    · exact wpAny_pyHash_int h
    · exact wpAny_pyHash_str h
  eqBool := fun hu hv h => by
    rcases keyIs_shape hu with ⟨i, t, rfl, rfl⟩ | ⟨x, t, rfl, rfl⟩
    · rcases keyIs_shape hv with ⟨j, u, rfl, rfl⟩ | ⟨y, u, rfl, rfl⟩
      · rw [key_ll] at h; exact wpAny_eqBool_int h
      · rw [key_lr] at h; exact SeqAt.EqAt.int_str i t y u _ _ _ _ h
    · rcases keyIs_shape hv with ⟨j, u, rfl, rfl⟩ | ⟨y, u, rfl, rfl⟩
      · rw [key_rl] at h; exact SeqAt.EqAt.str_int x t j u _ _ _ _ h
      · rw [key_rr] at h; exact wpAny_eqBool_str h
  «strs» := fun k x t v h => by
    rcases keyIs_shape h with ⟨i, u, rfl, e⟩ | ⟨y, u, rfl, e⟩
    · exact nomatch e
    · injection e with e1 _
      subst e1
      cases v <;> rfl
theorem mixKind_int (prog : Program) (w : World) (i : Int) (t : Tok) : (mixKind prog w).is (.inl i) (.int i t) = true := keyIs_int i t
theorem mixKind_str (prog : Program) (w : World) (x : Str) (t : Tok) : (mixKind prog w).is (.inr x) (.str x t) = true := keyIs_str x t
end L2
namespace L2
open PySem PySem.Spec PyProof.Rows
/-- a value, without the heap -/
inductive V where
  | non | bl (b : Bool) | int (i : Int) | str (x : Str) | byt (b : Array UInt8) | flt (b : UInt64) | ref (a : Addr) | ty (n : String)
  deriving DecidableEq
def RelV : V → Value → Prop
  | .non, u => u = Value.none
  | .bl b, u => u = Value.bool b
  | .int i, u => ∃ t, u = Value.int i t
  | .str x, u => ∃ t, u = Value.str x t
  | .byt b, u => ∃ t, u = Value.bytes b t
  | .flt b, u => ∃ t, u = Value.float b t
  | .ref a, u => u = Value.ref a
  | .ty n, u => u = Value.type n
abbrev Vals : List V → List Value → Prop := Paired RelV
theorem Vals.length {xs : List V} {us : List Value} (r : Vals xs us) : xs.length = us.length := Paired.length r
theorem Vals.get : ∀ {xs : List V} {us : List Value} {i : Nat} {x : V}, Vals xs us → xs[i]? = some x → ∃ u, us[i]? = some u ∧ RelV x u
  | _, _, _, _, .nil, e => by simp at e
  | _, _, 0, _, .cons r _, e => by simp at e; subst e; exact ⟨_, rfl, r⟩
  | _, _, i + 1, x, .cons _ t, e => by
    obtain ⟨u, h1, h2⟩ := Vals.get (i := i) (x := x) t (by simpa using e)
    exact ⟨u, by simpa using h1, h2⟩
theorem Vals.set {x : V} {u : Value} (r : RelV x u) : ∀ {xs : List V} {us : List Value} (i : Nat), Vals xs us → Vals (xs.set i x) (us.set i u)
  | _, _, _, .nil => .nil
  | _, _, 0, .cons _ t => .cons r t
  | _, _, i + 1, .cons q t => .cons q (Vals.set r i t)
theorem Vals.append : ∀ {xs ys : List V} {us ws : List Value}, Vals xs us → Vals ys ws → Vals (xs ++ ys) (us ++ ws)
  | _, _, _, _, .nil, s => s
  | _, _, _, _, .cons r t, s => .cons r (Vals.append t s)
theorem Vals.take : ∀ {xs : List V} {us : List Value} (n : Nat), Vals xs us → Vals (xs.take n) (us.take n)
  | _, _, 0, _ => .nil
  | _, _, _ + 1, .nil => .nil
  | _, _, n + 1, .cons r t => .cons r (Vals.take n t)
theorem Vals.drop : ∀ {xs : List V} {us : List Value} (n : Nat), Vals xs us → Vals (xs.drop n) (us.drop n)
  | _, _, 0, r => r
  | _, _, _ + 1, .nil => .nil
  | _, _, n + 1, .cons _ t => Vals.drop n t
def RelO : Option V → Option Value → Prop
  | some v, some u => RelV v u
  | none, none => True
  | _, _ => False
def KV {κ : Type} : List (κ × V) → List (κ × Value) → Prop := Paired fun (p : κ × V) (q : κ × Value) => p.1 = q.1 ∧ RelV p.2 q.2
/-- a key of a dict (00_mix): an int or a text -/
def kV : Key → V
  | .inl i => .int i
  | .inr x => .str x
/-- what stands at a tracked address -/
inductive HO where
  /-- a list -/
  | lst (xs : List V)
  /-- a tuple (never changes) -/
  | tup (xs : List V)
  /-- a dict whose keys are ints and texts; one whose keys are tuples of ints and texts (the empty one is both) -/
  | dK (kvs : List (Key × V)) | dT (kvs : List (List Key × V))
  /-- a set of ints: its members, its size -/
  | set (S : Int → Bool) (n : Nat)
  /-- an instance of the class at C, its dict at dx, its attributes -/
  | ins (C dx : Addr) (fs : List (Str × V))
  /-- the dict of the instance at x -/
  | own (x : Addr)
  /-- the dict of an exception -/
  | xd (fs : List (Str × V))
  /-- a bound method, f of x -/
  | met (f x : Addr)
  /-- a range object lo, lo + 1, .. below hi -/
  | rng (lo hi : Int)
  /-- a thing that is known to the object (the script; a dict while a loop walks it): read, never written while it is so -/
  | frz (o : Obj) (u : HO)
  /-- a code object's table -/
  | tbl (ps : Array Value)
  /-- any other thing, by what is true of its one object (a def of one's own: SetO a S n := HO.ext fun h => ..) -/
  | ext (φ : Heap → Prop)
abbrev Hp := Addr → Option HO
def upd (H : Hp) (a : Addr) (o : HO) : Hp := fun b => if b = a then some o else H b
theorem upd_same {H : Hp} {a : Addr} {o : HO} : upd H a o a = some o := by unfold upd; rw [if_pos rfl]
theorem upd_ne {H : Hp} {a b : Addr} {o : HO} (h : b ≠ a) : upd H a o b = H b := by unfold upd; rw [if_neg h]
/-- two objects of different content stand apart -/
theorem ne_of {H : Hp} {a b : Addr} {o u : HO} (h : H a = some o) (h' : H b = some u) (d : o ≠ u) : a ≠ b := by
  intro e; subst e; rw [h] at h'; exact d (Option.some.inj h')
theorem ne_of_none {H : Hp} {a b : Addr} {o : HO} (h : H a = some o) (h' : H b = none) : a ≠ b := by
  intro e; subst e; rw [h] at h'; cases h'
/-- a tuple of no own dict -/
def IsTupD (h : Heap) (a : Addr) (items : Array Value) : Prop := ∃ o, h.get? a = some o ∧ (o.cls = .type "tuple" ∧ ∃ n, o.data = .seq items n) ∧ o.dict = none
theorem IsTupD.tup {h : Heap} {a : Addr} {items : Array Value} (p : IsTupD h a items) : IsTup h a items := let ⟨o, e, c, _⟩ := p; ⟨o, e, c⟩
theorem IsTupD.lt {h : Heap} {a : Addr} {items : Array Value} (p : IsTupD h a items) : a < h.objs.size := p.tup.lt
theorem IsTupD.new (h : Heap) (items : Array Value) : IsTupD (h.push { cls := .type "tuple", data := .seq items }) h.objs.size items := ⟨_, Heap.get?_push_size _ rfl, ⟨rfl, _, rfl⟩, rfl⟩
section
variable (P : Program) (w : World)
def ObjOk (H : Hp) (h : Heap) (a : Addr) : HO → Prop
  | .lst xs => xs.length ≤ sizeLine ∧ ∃ (its : List Value) (n : Nat), Vals xs its ∧ h.get? a = some { cls := .type "list", data := .seq its.toArray n }
  | .tup xs => xs.length ≤ sizeLine ∧ ∃ its : List Value, Vals xs its ∧ IsTupD h a its.toArray
  | .dK kvs => kvs.length ≤ sizeLine ∧ (a == sysModules) = false ∧ ∃ vs, KV kvs vs ∧ h.DictOf (mixKind P w) a vs
  | .dT kvs => kvs.length ≤ sizeLine ∧ (a == sysModules) = false ∧ ∃ xs : List (List Key × Addr × Value),
      Paired (fun (p : List Key × V) (q : List Key × Addr × Value) => p.1 = q.1 ∧ H q.2.1 = some (.tup (p.1.map kV)) ∧ RelV p.2 q.2.2) kvs xs ∧
      ∃ o es ep, h.get? a = some o ∧ o.ExactDict ∧ o.data = .dict es ep ∧ es.toList = xs.map (entryOfKey (tupleKind (mixKind P w))) ∧ (xs.map (·.1)).Nodup
  | .set S n => h.SetOf (intKind P w) a S n
  | .ins C dx fs => H dx = some (.own a) ∧ fs.length ≤ 1000 ∧ dx ≠ a ∧ h.get? a = some (PySem.W.instObj C dx) ∧
      ∃ mA, h.Ns1 dx mA ∧ (∀ f, RelO (fs.lookup f) (mA f)) ∧ PySem.Within mA (fs.map (·.1))
  | .own _ => ∃ o, h.get? a = some o
  | .xd fs => ∃ mA, h.Ns1 a mA ∧ ∀ f, RelO (fs.lookup f) (mA f)
  | .rng lo hi => ∃ t u v, h.get? a = some { cls := .type "range", data := .fields #[.int lo t, .int hi u, .int 1 v] }
  | .frz o u => h.get? a = some o ∧ ObjOk H h a u
  | .tbl ps => h.get? a = some { cls := .none, data := .fields ps }
  | .met f x => h.get? a = some (PySem.W.methodObj (.ref f) (.ref x))
  | .ext φ => φ h ∧ (∃ o, h.get? a = some o) ∧ ∀ h1 h2 : Heap, φ h1 → (∀ o, h1.get? a = some o → h2.get? a = some o) → φ h2
/-- the abstract heap is held -/
def HOk (H : Hp) (h : Heap) : Prop := ∀ a o, H a = some o → ObjOk P w H h a o
end
section
variable {P : Program} {w : World} {H H' : Hp} {h h' : Heap} {a : Addr} {o : HO}
theorem ObjOk.lt (x : ObjOk P w H h a o) : a < h.objs.size := by
  cases o with
  | lst xs => obtain ⟨_, _, _, _, e⟩ := x; exact Heap.lt_size e
  | tup xs => obtain ⟨_, _, _, p⟩ := x; exact p.lt
  | dK kvs => obtain ⟨_, _, _, _, o, _, _, e, _⟩ := x; exact Heap.lt_size e
  | dT kvs => obtain ⟨_, _, _, _, o, _, _, e, _⟩ := x; exact Heap.lt_size e
  | set S n => obtain ⟨o, _, _, _, e, _⟩ := x; exact Heap.lt_size e
  | ins C dx fs => obtain ⟨_, _, _, e, _⟩ := x; exact Heap.lt_size e
  | own y => obtain ⟨_, e⟩ := x; exact Heap.lt_size e
  | xd fs => obtain ⟨_, ⟨_, _, _, e, _⟩, _⟩ := x; exact Heap.lt_size e
  | rng lo hi => obtain ⟨_, _, _, e⟩ := x; exact Heap.lt_size e
  | frz ob u => obtain ⟨e, _⟩ := x; exact Heap.lt_size e
  | tbl ps => exact Heap.lt_size (show h.get? a = some _ from x)
  | met f y => exact Heap.lt_size (show h.get? a = some _ from x)
  | ext φ => obtain ⟨_, ⟨_, e⟩, _⟩ := x; exact Heap.lt_size e
theorem Paired.mapP {α β : Type} {F G : α → β → Prop} : ∀ {l₁ : List α} {l₂ : List β}, Paired F l₁ l₂ → (∀ a b, F a b → G a b) → Paired G l₁ l₂
  | _, _, .nil, _ => .nil
  | _, _, .cons r t, f => .cons (f _ _ r) (Paired.mapP t f)
/-- what an object's description leans on: its own object, its own dict, the tuples -/
theorem ObjOk.stay (x : ObjOk P w H h a o) (k : ∀ b u, (b = a ∨ H b = some (.own a)) → h.get? b = some u → h'.get? b = some u)
    (ho : ∀ b, H b = some (.own a) → H' b = some (.own a)) (ht : ∀ b xs, H b = some (.tup xs) → H' b = some (.tup xs)) : ObjOk P w H' h' a o := by
  induction o with
  | lst xs => obtain ⟨z, its, n, r, e⟩ := x; exact ⟨z, its, n, r, k _ _ (.inl rfl) e⟩
  | tup xs => obtain ⟨z, its, r, ob, e, c⟩ := x; exact ⟨z, its, r, ob, k _ _ (.inl rfl) e, c⟩
  | dK kvs => obtain ⟨z, y, vs, r, ob, es, ep, e, c⟩ := x; exact ⟨z, y, vs, r, ob, es, ep, k _ _ (.inl rfl) e, c⟩
  | dT kvs =>
    obtain ⟨z, y, xs, r, ob, es, ep, e, c⟩ := x
    exact ⟨z, y, xs, Paired.mapP r fun p q z => ⟨z.1, ht _ _ z.2.1, z.2.2⟩, ob, es, ep, k _ _ (.inl rfl) e, c⟩
  | set S n => obtain ⟨ob, es, ep, t, e, c⟩ := x; exact ⟨ob, es, ep, t, k _ _ (.inl rfl) e, c⟩
  | ins C dx fs =>
    obtain ⟨d, z, ne, e, mA, ⟨od, es, ep, e2, c⟩, r⟩ := x
    exact ⟨ho _ d, z, ne, k _ _ (.inl rfl) e, mA, ⟨od, es, ep, k _ _ (.inr d) e2, c⟩, r⟩
  | own y => obtain ⟨ob, e⟩ := x; exact ⟨ob, k _ _ (.inl rfl) e⟩
  | xd fs => obtain ⟨mA, ⟨od, es, ep, e, c⟩, r⟩ := x; exact ⟨mA, ⟨od, es, ep, k _ _ (.inl rfl) e, c⟩, r⟩
  | rng lo hi => obtain ⟨t, u, v, e⟩ := x; exact ⟨t, u, v, k _ _ (.inl rfl) e⟩
  | frz ob u ih => obtain ⟨e, q⟩ := x; exact ⟨k _ _ (.inl rfl) e, ih q⟩
  | tbl ps =>
    have e : h.get? a = some { cls := .none, data := .fields ps } := x
    show h'.get? a = some { cls := .none, data := .fields ps }
    exact k a _ (.inl rfl) e
  | met f y =>
    have e : h.get? a = some (PySem.W.methodObj (.ref f) (.ref y)) := x
    show h'.get? a = some (PySem.W.methodObj (.ref f) (.ref y))
    exact k a _ (.inl rfl) e
  | ext φ => obtain ⟨p, ⟨o, e⟩, st⟩ := x; exact ⟨st _ _ p fun o q => k _ _ (.inl rfl) q, ⟨o, k _ _ (.inl rfl) e⟩, st⟩
theorem HOk.lt (x : HOk P w H h) (e : H a = some o) : a < h.objs.size := (x a o e).lt
theorem HOk.fresh (x : HOk P w H h) (e : h.objs.size ≤ a) : H a = none := by
  cases q : H a with
  | none => rfl
  | some u => exact absurd (Nat.lt_of_lt_of_le (x.lt q) e) (Nat.lt_irrefl _)
/-- every object of the heap is kept -/
theorem HOk.kept (x : HOk P w H h) (k : ∀ b u, h.get? b = some u → h'.get? b = some u) : HOk P w H h' := fun a o e =>
  (x a o e).stay (fun b u _ q => k b u q) (fun _ q => q) fun _ _ q => q
/-- a new object is laid and tracked -/
theorem HOk.laid (x : HOk P w H h) (k : ∀ b u, h.get? b = some u → h'.get? b = some u) (hp : h.objs.size ≤ a) (new : ObjOk P w (upd H a o) h' a o) : HOk P w (upd H a o) h' := fun b u e => by
  have hn := x.fresh hp
  by_cases hb : b = a
  · subst hb; rw [upd_same] at e; cases e; exact new
  · rw [upd_ne hb] at e
    exact (x b u e).stay (fun c v _ q => k c v q) (fun c q => by rw [upd_ne (ne_of_none q hn)]; exact q) fun c xs q => by rw [upd_ne (ne_of_none q hn)]; exact q
end
/-- what may be read as u: it is u, or a known u -/
def Rd (H : Hp) (a : Addr) (u : HO) : Prop := H a = some u ∨ ∃ o, H a = some (.frz o u)
theorem Rd.of {H : Hp} {a : Addr} {u : HO} (h : H a = some u) : Rd H a u := .inl h
theorem Rd.ok {P : Program} {w : World} {H : Hp} {h : Heap} {a : Addr} {u : HO} (r : Rd H a u) (x : HOk P w H h) : ObjOk P w H h a u := by
  rcases r with r | ⟨o, r⟩
  · exact x a u r
  · obtain ⟨_, q⟩ := x a _ r
    exact q
/-- what may be written -/
def Mut : Option HO → Prop
  | some (.lst _) => True
  | some (.dK _) => True
  | some (.dT _) => True
  | some (.set _ _) => True
  | some (.ins _ _ _) => True
  | some (.ext _) => True
  | _ => False
section
variable {P : Program} {w : World} {H : Hp} {h h' : Heap} {x e : Addr} {o' : HO}
/-- the object at e is changed: x itself, or the dict of the instance x -/
theorem HOk.write (ok : HOk P w H h) (mu : Mut (H x)) (he : e = x ∨ H e = some (.own x)) (k : ∀ b u, b ≠ e → h.get? b = some u → h'.get? b = some u) (heo : ∃ u, h'.get? e = some u)
    (new : ObjOk P w (upd H x o') h' x o') : HOk P w (upd H x o') h' := fun b u q => by
  have nown : ∀ c y, H c = some (.own y) → c ≠ x := fun c y r z => by subst z; rw [r] at mu; exact mu
  have ntup : ∀ c xs, H c = some (.tup xs) → c ≠ x := fun c xs r z => by subst z; rw [r] at mu; exact mu
  by_cases hb : b = x
  · subst hb; rw [upd_same] at q; cases q; exact new
  · rw [upd_ne hb] at q
    by_cases hbe : b = e
    · have q' : H b = some (.own x) := by
        rcases he with z | z
        · exact absurd (hbe.trans z) hb
        · rw [hbe]; exact z
      rw [q] at q'; cases q'
      obtain ⟨v, hv⟩ := heo
      exact ⟨v, by rw [hbe]; exact hv⟩
    · refine (ok b u q).stay (fun c v hc r => k c v ?_ r) (fun c r => by rw [upd_ne (nown c b r)]; exact r) fun c xs r => by rw [upd_ne (ntup c xs r)]; exact r
      rcases hc with rfl | hc
      · exact hbe
      · rintro rfl
        rcases he with z | z
        · exact nown c b hc z
        · rw [hc] at z; cases z; exact hb rfl
end
structure Un (fs ex : List Addr) (H H' : Hp) (h h' : Heap) : Prop where
  keep : ∀ b o, h.get? b = some o → H b = none → b ∉ fs → b ∉ ex → h'.get? b = some o
  slot : ∀ b o, h.get? b = some o → H b = none → b ∈ fs → b ∉ ex → ∃ sl, h'.get? b = some { o with slots := sl }
  free : ∀ b o, h.get? b = some o → H b = none → b ∉ ex → H' b = none
  there : ∀ b o, h.get? b = some o → b ∉ ex → ∃ o', h'.get? b = some o'
  tups : ∀ b xs, H b = some (.tup xs) → H' b = some (.tup xs)
  frzs : ∀ b o u, H b = some (.frz o u) → H' b = some (.frz o u)
  tbls : ∀ b ps, H b = some (.tbl ps) → ∃ more, H' b = some (.tbl (ps ++ more))
section
variable {fs fs' ex ex' : List Addr} {H H1 H2 : Hp} {h h1 h2 h' : Heap} {a x e : Addr} {o : HO}
theorem Un.any (u : Un fs ex H H1 h h1) {b : Addr} {ob : Obj} (q : h.get? b = some ob) (n : H b = none) (hx : b ∉ ex) : ∃ sl, h1.get? b = some { ob with slots := sl } := by
  by_cases hb : b ∈ fs
  · exact u.slot b ob q n hb hx
  · exact ⟨ob.slots, u.keep b ob q n hb hx⟩
theorem Un.trans (a : Un fs ex H H1 h h1) (b : Un fs ex H1 H2 h1 h2) : Un fs ex H H2 h h2 where
  keep := fun c ob q n hc hx => b.keep c ob (a.keep c ob q n hc hx) (a.free c ob q n hx) hc hx
  slot := fun c ob q n hc hx => by
    obtain ⟨sl, e1⟩ := a.slot c ob q n hc hx
    obtain ⟨sl', e2⟩ := b.slot c _ e1 (a.free c ob q n hx) hc hx
    exact ⟨sl', e2⟩
  free := fun c ob q n hx => by
    obtain ⟨o', e1⟩ := a.there c ob q hx
    exact b.free c o' e1 (a.free c ob q n hx) hx
  there := fun c ob q hx => by
    obtain ⟨o', e1⟩ := a.there c ob q hx
    exact b.there c o' e1 hx
  tups := fun c xs q => b.tups c xs (a.tups c xs q)
  frzs := fun c ob xs q => b.frzs c ob xs (a.frzs c ob xs q)
  tbls := fun c ps q => by
    obtain ⟨m1, e1⟩ := a.tbls c ps q
    obtain ⟨m2, e2⟩ := b.tbls c _ e1
    exact ⟨m1 ++ m2, by rw [e2, Array.append_assoc]⟩
theorem Un.kept (k : ∀ b u, h.get? b = some u → h'.get? b = some u) : Un fs ex H H h h' :=
  ⟨fun b ob q _ _ _ => k b ob q, fun b ob q _ _ _ => ⟨ob.slots, k b ob q⟩, fun _ _ _ n _ => n, fun b ob q _ => ⟨ob, k b ob q⟩, fun _ _ q => q, fun _ _ _ q => q, fun _ ps q => ⟨#[], by rw [q]; simp⟩⟩
theorem Un.refl : Un fs ex H H h h := Un.kept fun _ _ q => q
theorem Un.laid (k : ∀ b u, h.get? b = some u → h'.get? b = some u) (hp : h.objs.size ≤ a) (hn : H a = none) : Un fs ex H (upd H a o) h h' where
  keep := fun b u q _ _ _ => k b u q
  slot := fun b u q _ _ _ => ⟨u.slots, k b u q⟩
  free := fun b u q n _ => by rw [upd_ne (Nat.ne_of_lt (Nat.lt_of_lt_of_le (Heap.lt_size q) hp))]; exact n
  there := fun b u q _ => ⟨u, k b u q⟩
  tups := fun b xs q => by rw [upd_ne (ne_of_none q hn)]; exact q
  frzs := fun b u xs q => by rw [upd_ne (ne_of_none q hn)]; exact q
  tbls := fun b ps q => ⟨#[], by rw [upd_ne (ne_of_none q hn), q]; simp⟩
theorem Un.write (mu : Mut (H x)) (he : e = x ∨ H e = some (.own x)) (k : ∀ b u, b ≠ e → h.get? b = some u → h'.get? b = some u) (heo : ∃ u, h'.get? e = some u) : Un fs ex H (upd H x o) h h' := by
  have hx : ∀ b, H b = none → b ≠ x := fun b n z => by subst z; rw [n] at mu; exact mu
  have hb : ∀ b, H b = none → b ≠ e := fun b n z => by
    subst z
    rcases he with r | r
    · exact hx b n r
    · rw [n] at r; cases r
  have hm : ∀ b u, H b = some u → ¬ Mut (some u) → b ≠ x := fun b u q nm z => by subst z; rw [q] at mu; exact nm mu
  refine ⟨fun b u q n _ _ => k b u (hb b n) q, fun b u q n _ _ => ⟨u.slots, k b u (hb b n) q⟩, fun b u q n _ => by rw [upd_ne (hx b n)]; exact n, fun b u q _ => ?_,
    fun b xs q => by rw [upd_ne (hm b _ q fun z => z)]; exact q, fun b u xs q => by rw [upd_ne (hm b _ q fun z => z)]; exact q, fun b ps q => ⟨#[], by rw [upd_ne (hm b _ q fun z => z), q]; simp⟩⟩
  by_cases hbe : b = e
  · subst hbe; exact heo
  · exact ⟨u, k b u hbe q⟩
theorem Un.mono (u : Un fs ex H H1 h h1) (hs : ∀ b ∈ fs, b ∈ fs') (hx : ∀ b ∈ ex, b ∈ ex') : Un fs' ex' H H1 h h1 :=
  ⟨fun b ob q n hb he => u.keep b ob q n (fun z => hb (hs b z)) fun z => he (hx b z), fun _ _ q n _ he => u.any q n fun z => he (hx _ z), fun b ob q n he => u.free b ob q n fun z => he (hx b z), fun b ob q he => u.there b ob q fun z => he (hx b z), u.tups, u.frzs, u.tbls⟩
end
def trk (h : Heap) (H : Hp) : List Addr := (List.range h.objs.size).filter fun a => (H a).isSome
def hidT (h : Heap) (H : Hp) : Heap := PySem.W.hideAll h (trk h H)
theorem hidT_size (h : Heap) (H : Hp) : (hidT h H).objs.size = h.objs.size := PySem.W.hideAll_size _ _
theorem hidT_get {h : Heap} {H : Hp} {b : Addr} {o : Obj} (e : h.get? b = some o) (n : H b = none) : (hidT h H).get? b = some o :=
  PySem.W.hideAll_get _ e fun hm => by
    have q : (H b).isSome = true := (List.mem_filter.mp hm).2
    rw [n] at q; simp at q
theorem of_hidT {h : Heap} {H : Hp} {b : Addr} {o : Obj} (e : (hidT h H).get? b = some o) : h.get? b = some o ∧ H b = none := by
  have e' : h.get? b = some o := PySem.W.of_hideAll (trk h H) e
  refine ⟨e', ?_⟩
  cases q : H b with
  | none => rfl
  | some x =>
    have hm : b ∈ trk h H := List.mem_filter.mpr ⟨List.mem_range.mpr (Heap.lt_size e'), by simp [q]⟩
    have z : (hidT h H).get? b = none := PySem.W.hideAll_none (trk h H) hm
    rw [z] at e; cases e
def allNews (g h : Heap) (L : Addr) : List (Addr × Obj) := (List.range h.objs.size).filterMap fun a => if a = L ∨ (g.get? a).isSome = true then none else (h.get? a).map fun o => (a, o)
def rest (g h : Heap) (L d : Addr) : List (Addr × Obj) := (allNews g h L).filter fun p => decide (p.1 ≠ d)
end L2
namespace L2
open PySem PySem.Spec PyProof.Rows
/-- the module's facts, over the base: the heap at the law's entry without what is tracked there -/
structure Mod (K : PySem.W.Frag) (mg : Str → Option Value) (base : Heap) : Prop where
  kin : K.In base
  glob : base.Ns mainGlobals mg
  blt : ∃ mb, base.Ns builtinsNs mb ∧ ∀ x : Str, x ≠ "__name__" → mb x = bootBuiltins x
  nolimit : base.NoLimit
/-- the context: a def's body (or a comprehension's block) running. base: fixed through the whole law; s₀, H₀: the entry; outer: the frames whose slots others may change (a def's callers); stack: all frames that run;
   ex: iterators that were made ahead of the entry and are walked here (a comprehension's); fn: the names whose cells were made at the entry (a def: all; a comprehension's block: its own); calm: not within an except suite; pn: pins that every state bears; xe: what is wanted of an exception that leaves the code -/
structure Cx where
  prog : Program
  w : World
  K : PySem.W.Frag
  mg : Str → Option Value
  base : Heap
  A : Around
  N : List Str
  s_0 : Shared
  H_0 : Hp
  env : Env
  outer : List Env
  stack : List Env
  ex : List Addr
  fn : Str → Bool
  calm : Bool
  pn : List (Addr × Obj)
  xe : Value → Shared → Prop
/-- the callers' frames -/
def frs (l : List Env) : List Addr := l.filterMap (·.frame)
abbrev Cx.fs (X : Cx) : List Addr := frs X.outer
def Vis (sc : Scope) (x : Str) : Prop := sc.names.lookup x = some .local ∨ sc.names.lookup x = some .cell ∨ sc.names.lookup x = some .free
def Loc (sc : Scope) (x : Str) : Prop := sc.names.lookup x = some .local ∨ sc.names.lookup x = some .cell
def Look (env : Env) (h : Heap) (m : Str → Option Value) (x : Str) (u : Value) : Prop :=
  (env.kindOf x = some .local ∧ m x = some u) ∨ ((env.kindOf x = some .cell ∨ env.kindOf x = some .free) ∧ ∃ c, env.cells.lookup x = some c ∧ h.IsCell c (some u))
structure Cx.Ok (X : Cx) : Prop where
  mod : Mod X.K X.mg X.base
  kind : X.env.scope.kind = .function
  glob : X.env.globals = mainGlobals
  blt : X.env.builtins = builtinsNs
  above : X.s_0.heap.objs.size ≤ X.env.locals
  inj : ∀ x y c, X.env.cells.lookup x = some c → X.env.cells.lookup y = some c → x = y
  has : ∀ x, (X.env.kindOf x = some .cell ∨ X.env.kindOf x = some .free) → ∃ c, X.env.cells.lookup x = some c
  cab : ∀ x c, X.fn x = true → X.env.cells.lookup x = some c → X.s_0.heap.objs.size ≤ c
  hd : X.calm = true → X.A.handled = none
  frames : X.A.frames = some X.stack
  stk : X.stack = X.outer ∨ (X.stack = X.env :: X.outer ∧ X.env.frame = some X.env.locals)
  exf : ∀ b ∈ X.ex, b ≠ X.env.locals ∧ ∀ x c, X.env.cells.lookup x = some c → c ≠ b
  bs : ∀ b o, X.base.get? b = some o → X.s_0.heap.get? b = some o ∧ X.H_0 b = none
  bsz : X.base.objs.size ≤ X.s_0.heap.objs.size
  noex : ∀ b o, X.base.get? b = some o → b ∉ X.ex
  exfs : ∀ b ∈ X.ex, b ∉ X.fs
  funs : X.s_0.heap.FunFrames X.base X.outer
  frf : ∀ b ∈ X.fs, X.H_0 b = none
structure Inv (X : Cx) (pins : List (Addr × Obj)) (σ : List (Option V)) (H : Hp) (s : Shared) : Prop where
  ok : X.Ok
  os : s.os = X.s_0.os
  bare : AllBare s.gens
  base : Un X.fs X.ex X.H_0 H X.s_0.heap s.heap
  loc : ∃ m, s.heap.Ns X.env.locals m ∧ ∀ (i : Nat) (x : Str) (v : V), X.N[i]? = some x → σ[i]? = some (some v) → Vis X.env.scope x → ∃ u, RelV v u ∧ Look X.env s.heap m x u
  cell : ∀ x c, X.env.cells.lookup x = some c → ∃ v, s.heap.IsCell c v
  free : H X.env.locals = none
  freeC : ∀ x c, X.env.cells.lookup x = some c → H c = none
  pin : ∀ p ∈ X.pn ++ pins, s.heap.get? p.1 = some p.2 ∧ H p.1 = none ∧ p.1 ≠ X.env.locals ∧ p.1 ∉ X.fs ∧ ∀ v, p.2.data ≠ .cell v
  hok : HOk X.prog X.w H s.heap
  len : σ.length = X.N.length
section
variable {X : Cx} {pins : List (Addr × Obj)} {σ : List (Option V)} {H H' : Hp} {s : Shared} {h' : Heap}
theorem Cx.Ok.nofr (ok : X.Ok) {b : Addr} {o : Obj} (e : X.base.get? b = some o) : b ∉ X.fs := fun hb => by
  have := (ok.funs.mem hb).1
  rw [e] at this; cases this
theorem Inv.bs (I : Inv X pins σ H s) : ∀ b o, X.base.get? b = some o → s.heap.get? b = some o ∧ H b = none := fun b o e =>
  ⟨I.base.keep b o (I.ok.bs b o e).1 (I.ok.bs b o e).2 (I.ok.nofr e) (I.ok.noex b o e), I.base.free b o (I.ok.bs b o e).1 (I.ok.bs b o e).2 (I.ok.noex b o e)⟩
theorem Inv.bk (I : Inv X pins σ H s) : ∀ b o, X.base.get? b = some o → s.heap.get? b = some o := fun b o e => (I.bs b o e).1
theorem Inv.mod (I : Inv X pins σ H s) : Mod X.K X.mg X.base := I.ok.mod
theorem Inv.kIn (I : Inv X pins σ H s) : X.K.In s.heap := I.ok.mod.kin.keeps I.bk
theorem Inv.nolimit (I : Inv X pins σ H s) : s.heap.NoLimit := I.ok.mod.nolimit.keeps I.bk
/-- the frame over the base: for OpenK's rules (K.In X.base is I.mod.kin) -/
theorem Inv.fr (I : Inv X pins σ H s) : ∃ m, Fr X.base X.env.locals s.heap m :=
  let ⟨m, hn, _⟩ := I.loc
  ⟨m, hn, I.bk, Nat.le_trans I.ok.bsz I.ok.above⟩
theorem Inv.lt (I : Inv X pins σ H s) : X.env.locals < s.heap.objs.size := let ⟨_, hn, _⟩ := I.loc; hn.lt
theorem Inv.sz (I : Inv X pins σ H s) : X.s_0.heap.objs.size ≤ s.heap.objs.size := Nat.le_trans I.ok.above (Nat.le_of_lt I.lt)
theorem Inv.nofs (I : Inv X pins σ H s) {a : Addr} (h : s.heap.objs.size ≤ a) : a ∉ X.fs := fun hb => by
  obtain ⟨_, o, ho, _⟩ := I.ok.funs.mem hb
  exact absurd (Nat.lt_of_lt_of_le (Heap.lt_size ho) (Nat.le_trans I.sz h)) (Nat.lt_irrefl _)
theorem Inv.cne (I : Inv X pins σ H s) : ∀ x c, X.env.cells.lookup x = some c → c ≠ X.env.locals := fun x c e z => by
  obtain ⟨v, o, ho, hd⟩ := I.cell x c e
  obtain ⟨m, ⟨o', es, ep, ho', hd', _⟩, _⟩ := I.loc
  rw [z, ho'] at ho; cases ho; rw [hd'] at hd; cases hd
theorem Inv.funs (I : Inv X pins σ H s) : s.heap.FunFrames X.base X.outer := by
  have all : ∀ (l : List Env), (∀ b ∈ frs l, b ∈ X.fs) → X.s_0.heap.FunFrames X.base l → s.heap.FunFrames X.base l := by
    intro l
    induction l with
    | nil => intro _ _; trivial
    | cons env r ih =>
      intro hs hl
      obtain ⟨hk, ⟨L, o, hf, hn, ho, hd⟩, hr⟩ := hl
      have hL : L ∈ X.fs := hs L (by unfold frs; rw [List.filterMap_cons, hf]; exact List.mem_cons_self)
      obtain ⟨sl, e⟩ := I.base.slot L o ho (I.ok.frf L hL) hL fun z => I.ok.exfs L z hL
      exact ⟨hk, ⟨L, _, hf, hn, e, hd⟩, ih (fun b hb => hs b (by unfold frs; rw [List.filterMap_cons, hf]; exact List.mem_cons_of_mem _ hb)) hr⟩
  exact all X.outer (fun _ hb => hb) I.ok.funs
/-- the frames that run, for a call -/
theorem Inv.stack (I : Inv X pins σ H s) : s.heap.FunFrames X.base X.stack := by
  rcases I.ok.stk with e | ⟨e, hf⟩
  · rw [e]; exact I.funs
  · rw [e]
    obtain ⟨m, hn, _⟩ := I.loc
    refine .cons (by rw [I.ok.kind]; decide) hf hn ?_ I.funs
    exact Heap.get?_none_of_le (Nat.le_trans I.ok.bsz I.ok.above)
theorem Inv.stkSub (I : Inv X pins σ H s) : ∀ b ∈ frs X.stack, b ∈ X.env.locals :: X.fs := fun b hb => by
  rcases I.ok.stk with e | ⟨e, hf⟩
  · rw [e] at hb; exact List.mem_cons_of_mem _ hb
  · rw [e] at hb
    unfold frs at hb
    rw [List.filterMap_cons, hf] at hb
    exact hb
theorem Inv.stkFree (I : Inv X pins σ H s) : ∀ b ∈ frs X.stack, H b = none := fun b hb => by
  rcases List.mem_cons.mp (I.stkSub b hb) with e | hb
  · rw [e]; exact I.free
  · obtain ⟨_, o, ho, _⟩ := I.ok.funs.mem hb
    exact I.base.free b o ho (I.ok.frf b hb) fun z => I.ok.exfs b z hb
/-- THE STEP: the untracked objects but the frame and the records at ch are kept (the callers' frames up to slots), the frame's map is kept, the new abstract heap is held -/
theorem Inv.step {g' : Array GenState} {t' : Nat} {d' : Drawn} {ch : List Addr} (I : Inv X pins σ H s)
    (hch : ∀ b ∈ ch, (b ∈ X.ex ∨ X.s_0.heap.objs.size ≤ b) ∧ b ≠ X.env.locals ∧ (∀ x c, X.env.cells.lookup x = some c → c ≠ b) ∧ ∀ p ∈ X.pn ++ pins, p.1 ≠ b)
    (keep : ∀ b o, b ≠ X.env.locals → b ∉ X.fs → b ∉ ch → s.heap.get? b = some o → H b = none → h'.get? b = some o)
    (slot : ∀ b o, b ≠ X.env.locals → b ∈ X.fs → b ∉ ch → s.heap.get? b = some o → H b = none → ∃ sl, h'.get? b = some { o with slots := sl }) (free : ∀ b o, b ∉ ch → s.heap.get? b = some o → H b = none → H' b = none)
    (there : ∀ b o, b ∉ ch → s.heap.get? b = some o → ∃ o', h'.get? b = some o')
    (tups : ∀ b xs, H b = some (.tup xs) → H' b = some (.tup xs)) (frzs : ∀ b o u, H b = some (.frz o u) → H' b = some (.frz o u)) (tbls : ∀ b ps, H b = some (.tbl ps) → ∃ more, H' b = some (.tbl (ps ++ more)))
    (ns : ∀ m, s.heap.Ns X.env.locals m → h'.Ns X.env.locals m) (hok : HOk X.prog X.w H' h') (hg : AllBare g') :
    Inv X pins σ H' { s with heap := h', gens := g', drawn := d', toks := t' } := by
  have neL : ∀ b o, X.s_0.heap.get? b = some o → b ≠ X.env.locals := fun b o e => Nat.ne_of_lt (Nat.lt_of_lt_of_le (Heap.lt_size e) I.ok.above)
  have neC : ∀ b o, X.s_0.heap.get? b = some o → b ∉ X.ex → b ∉ ch := fun b o e hx hb => by
    rcases (hch b hb).1 with z | z
    · exact hx z
    · exact absurd (Nat.lt_of_lt_of_le (Heap.lt_size e) z) (Nat.lt_irrefl _)
  have cellK : ∀ x c, X.env.cells.lookup x = some c → ∀ v, s.heap.IsCell c v → h'.IsCell c v := fun x c e v ⟨o, ho, hd⟩ => by
    have nch : c ∉ ch := fun z => (hch c z).2.2.1 x c e rfl
    by_cases hc : c ∈ X.fs
    · obtain ⟨sl, q⟩ := slot c o (I.cne x c e) hc nch ho (I.freeC x c e)
      exact ⟨_, q, hd⟩
    · exact ⟨o, keep c o (I.cne x c e) hc nch ho (I.freeC x c e), hd⟩
  refine ⟨I.ok, I.os, hg, ⟨fun b o e n hb hx => ?_, fun b o e n hb hx => ?_, fun b o e n hx => ?_, fun b o e hx => ?_, fun b xs e => tups b xs (I.base.tups b xs e), fun b o xs e => frzs b o xs (I.base.frzs b o xs e), fun b ps e => ?_⟩, ?_, fun x c e => ?_, ?_, fun x c e => ?_, fun p hp => ?_, hok, I.len⟩
  · exact keep b o (neL b o e) hb (neC b o e hx) (I.base.keep b o e n hb hx) (I.base.free b o e n hx)
  · obtain ⟨sl, e1⟩ := I.base.slot b o e n hb hx
    obtain ⟨sl', e2⟩ := slot b _ (neL b o e) hb (neC b o e hx) e1 (I.base.free b o e n hx)
    exact ⟨sl', e2⟩
  · obtain ⟨o', e1⟩ := I.base.there b o e hx
    exact free b o' (neC b o e hx) e1 (I.base.free b o e n hx)
  · obtain ⟨o', e1⟩ := I.base.there b o e hx
    exact there b o' (neC b o e hx) e1
  · obtain ⟨m1, e1⟩ := I.base.tbls b ps e
    obtain ⟨m2, e2⟩ := tbls b _ e1
    exact ⟨m1 ++ m2, by rw [e2, Array.append_assoc]⟩
  · obtain ⟨m, hn, hl⟩ := I.loc
    refine ⟨m, ns m hn, fun i x v e1 e2 e3 => ?_⟩
    obtain ⟨u, r, l⟩ := hl i x v e1 e2 e3
    refine ⟨u, r, ?_⟩
    rcases l with l | ⟨k, c, e, z⟩
    · exact .inl l
    · exact .inr ⟨k, c, e, cellK x c e _ z⟩
  · obtain ⟨v, z⟩ := I.cell x c e
    exact ⟨v, cellK x c e v z⟩
  · obtain ⟨m, ⟨o, _, _, ho, _⟩, _⟩ := I.loc
    exact free _ o (fun z => (hch _ z).2.1 rfl) ho I.free
  · obtain ⟨v, o, ho, hd⟩ := I.cell x c e
    exact free c o (fun z => (hch c z).2.2.1 x c e rfl) ho (I.freeC x c e)
  · obtain ⟨e, n, ne, nf, d⟩ := I.pin p hp
    have nch : p.1 ∉ ch := fun z => (hch p.1 z).2.2.2 p hp rfl
    exact ⟨keep p.1 p.2 ne nf nch e n, free p.1 p.2 nch e n, ne, nf, d⟩
/-- .. where the frame's own object is kept too -/
theorem Inv.un {t' : Nat} (I : Inv X pins σ H s) (u : Un X.fs [] H H' s.heap h') (hok : HOk X.prog X.w H' h') : Inv X pins σ H' { s with heap := h', toks := t' } := by
  obtain ⟨m, ⟨o, es, ep, ho, r⟩, _⟩ := id I.loc
  obtain ⟨sl, hL⟩ := u.any ho I.free (by simp)
  exact I.step (g' := s.gens) (d' := s.drawn) (ch := []) (fun _ z => nomatch z) (fun b o _ hb _ e n => u.keep b o e n hb (by simp)) (fun b o _ hb _ e n => u.slot b o e n hb (by simp)) (fun b o _ e n => u.free b o e n (by simp)) (fun b o _ e => u.there b o e (by simp)) u.tups u.frzs u.tbls (fun m' hm => by
    obtain ⟨o', es', ep', ho', r'⟩ := hm
    rw [ho] at ho'; cases ho'
    exact ⟨_, es', ep', hL, r'⟩) hok I.bare
/-- behind a call (or a comprehension's block): the slots of this frame may have changed too, the records at ch may have turned -/
theorem Inv.call {g' : Array GenState} {t' : Nat} {d' : Drawn} {ch : List Addr} (I : Inv X pins σ H s) (u : Un (frs X.stack) ch H H' s.heap h') (hok : HOk X.prog X.w H' h') (hg : AllBare g')
    (hch : ∀ b ∈ ch, (b ∈ X.ex ∨ X.s_0.heap.objs.size ≤ b) ∧ b ≠ X.env.locals ∧ (∀ x c, X.env.cells.lookup x = some c → c ≠ b) ∧ ∀ p ∈ X.pn ++ pins, p.1 ≠ b) :
    Inv X pins σ H' { s with heap := h', gens := g', drawn := d', toks := t' } := by
  obtain ⟨m, ⟨o, es, ep, ho, r⟩, _⟩ := id I.loc
  obtain ⟨sl, hL⟩ := u.any ho I.free fun z => (hch _ z).2.1 rfl
  exact I.step (ch := ch) hch (fun b o hL hb hc e n => u.keep b o e n (fun z => (List.mem_cons.mp (I.stkSub b z)).elim hL hb) hc) (fun b o _ _ hc e n => u.any e n hc) (fun b o hc e n => u.free b o e n hc) (fun b o hc e => u.there b o e hc) u.tups u.frzs u.tbls (fun m' hm => by
    obtain ⟨o', es', ep', ho', r'⟩ := hm
    rw [ho] at ho'; cases ho'
    exact ⟨_, es', ep', hL, r'⟩) hok hg
/-- an untracked record of ours (an iterator) has turned -/
theorem Inv.turned {t' : Nat} {it : Addr} (I : Inv X pins σ H s) (k : ∀ b o, b ≠ it → s.heap.get? b = some o → h'.get? b = some o) (hn : H it = none) (hL : it ≠ X.env.locals)
    (h1 : it ∈ X.ex ∨ X.s_0.heap.objs.size ≤ it) (h2 : ∀ x c, X.env.cells.lookup x = some c → c ≠ it) (h3 : ∀ p ∈ X.pn ++ pins, p.1 ≠ it) : Inv X pins σ H { s with heap := h', toks := t' } := by
  have nit : ∀ b u, H b = some u → b ≠ it := fun b u e z => by rw [z, hn] at e; cases e
  refine I.step (g' := s.gens) (d' := s.drawn) (ch := [it]) (fun b hb => ?_) (fun b o _ _ hc e _ => k b o (fun z => hc (by simp [z])) e) (fun b o _ _ hc e _ => ⟨o.slots, k b o (fun z => hc (by simp [z])) e⟩) (fun _ _ _ _ n => n)
    (fun b o hc e => ⟨o, k b o (fun z => hc (by simp [z])) e⟩) (fun _ _ e => e) (fun _ _ _ e => e) (fun b ps e => ⟨#[], by rw [e]; simp⟩) (fun m hm => ?_) (fun b u e => ?_) I.bare
  · have e : b = it := by simpa using hb
    subst e
    exact ⟨h1, hL, h2, h3⟩
  · obtain ⟨o, es, ep, ho, r⟩ := hm
    exact ⟨o, es, ep, k _ o (Ne.symm hL) ho, r⟩
  · refine (I.hok b u e).stay (fun c v hc q => k c v ?_ q) (fun _ q => q) fun _ _ q => q
    rcases hc with z | z
    · rw [z]; exact nit b u e
    · exact nit c _ z
theorem Inv.tok (I : Inv X pins σ H s) (t : Nat) : Inv X pins σ H { s with toks := t } := I.un (h' := s.heap) (t' := t) Un.refl I.hok
/-- all objects kept -/
theorem Inv.kept {t' : Nat} (I : Inv X pins σ H s) (k : ∀ b u, s.heap.get? b = some u → h'.get? b = some u) : Inv X pins σ H { s with heap := h', toks := t' } := I.un (Un.kept k) (I.hok.kept k)
/-- a new object laid and tracked -/
theorem Inv.laid {a : Addr} {o : HO} {t' : Nat} (I : Inv X pins σ H s) (k : ∀ b u, s.heap.get? b = some u → h'.get? b = some u) (hp : s.heap.objs.size ≤ a) (new : ObjOk X.prog X.w (upd H a o) h' a o) :
    Inv X pins σ (upd H a o) { s with heap := h', toks := t' } := I.un (Un.laid k hp (I.hok.fresh hp)) (I.hok.laid k hp new)
/-- an object written -/
theorem Inv.write {x e : Addr} {o : HO} {t' : Nat} (I : Inv X pins σ H s) (mu : Mut (H x)) (he : e = x ∨ H e = some (.own x)) (k : ∀ b u, b ≠ e → s.heap.get? b = some u → h'.get? b = some u) (heo : ∃ u, h'.get? e = some u)
    (new : ObjOk X.prog X.w (upd H x o) h' x o) : Inv X pins σ (upd H x o) { s with heap := h', toks := t' } := I.un (Un.write mu he k heo) (I.hok.write mu he k heo new)
/-- forgetting slots, pins -/
theorem Inv.weak {σ' : List (Option V)} (I : Inv X pins σ H s) (hl : σ'.length = σ.length) (w : ∀ (i : Nat) v, σ'[i]? = some (some v) → σ[i]? = some (some v)) : Inv X pins σ' H s :=
  ⟨I.ok, I.os, I.bare, I.base, let ⟨m, hn, hl'⟩ := I.loc; ⟨m, hn, fun i x v e1 e2 e3 => hl' i x v e1 (w i v e2) e3⟩, I.cell, I.free, I.freeC, I.pin, I.hok, hl.trans I.len⟩
theorem Inv.pins_of {pins' : List (Addr × Obj)} (I : Inv X pins σ H s) (h : ∀ p ∈ pins', s.heap.get? p.1 = some p.2 ∧ H p.1 = none ∧ p.1 ≠ X.env.locals ∧ p.1 ∉ X.fs ∧ ∀ v, p.2.data ≠ .cell v) : Inv X pins' σ H s :=
  ⟨I.ok, I.os, I.bare, I.base, I.loc, I.cell, I.free, I.freeC, fun p hp => (List.mem_append.mp hp).elim (fun z => I.pin p (List.mem_append_left _ z)) (h p), I.hok, I.len⟩
theorem nodup_ix {N : List Str} (hN : N.Nodup) {i j : Nat} {x : Str} (a : N[i]? = some x) (b : N[j]? = some x) : i = j := by
  obtain ⟨h1, e1⟩ := List.getElem?_eq_some_iff.mp a
  obtain ⟨h2, e2⟩ := List.getElem?_eq_some_iff.mp b
  exact (List.getElem_inj hN).mp (e1.trans e2.symm)
/-- a name is stored; what changed -/
theorem store_ok2 {M : Model} {A : Around} {E : Value → Shared → Prop} {i : Nat} {x : Str} {v : V} {u : Value} {Q : Unit → Shared → Prop} (I : Inv X pins σ H s) (hN : X.N.Nodup) (hi : X.N[i]? = some x) (hx : Loc X.env.scope x) (r : RelV v u)
    (h : ∀ s', Inv X pins (σ.set i (some v)) H s' → (∃ a, Heap.SameBut a s.heap s'.heap ∧ (a = X.env.locals ∨ X.env.cells.lookup x = some a)) → Q () s') (hf : X.fn x = true ∨ X.env.scope.names.lookup x = some .local := by first | exact .inl rfl | exact .inr rfl | assumption) : wpAny M A (storeName X.env x u) Q E s := by
  obtain ⟨m, hn, hl⟩ := id I.loc
  have hcls : (X.env.scope.kind == .class || (X.env.scope.kind == .module && X.env.locals != X.env.globals)) = false := by rw [I.ok.kind]; rfl
  have hiσ : i < σ.length := by rw [I.len]; exact (List.getElem?_eq_some_iff.mp hi).1
  have cne := I.cne
  have tracked : ∀ {a : Addr} {h' : Heap}, (∃ o, s.heap.get? a = some o ∧ H a = none) → Heap.SameBut a s.heap h' → HOk X.prog X.w H h' := fun {a h'} ha hs b ob e => by
    obtain ⟨_, _, hfree⟩ := ha
    refine (I.hok b ob e).stay (fun c w' hc q => (hs.2 c ?_).trans q) (fun _ q => q) fun _ _ q => q
    rintro rfl
    rcases hc with rfl | hc
    · rw [hfree] at e; cases e
    · rw [hfree] at hc; cases hc
  rcases hx with hk | hk
  · refine wpAny_storeName_local hk hn (fun h' hn' hs => ?_) hcls
    obtain ⟨oL, _, _, hoL, _⟩ := id hn
    refine h _ ⟨I.ok, I.os, I.bare, ⟨fun b o e n hb hx => ?_, fun b o e n hb hx => ?_, I.base.free, fun b o e hx => ?_, I.base.tups, I.base.frzs, I.base.tbls⟩, ⟨_, hn', fun j y v' e1 e2 e3 => ?_⟩, fun y c e => ?_, I.free, I.freeC, fun p hp => ?_, tracked ⟨oL, hoL, I.free⟩ hs, by simpa using I.len⟩ ⟨_, hs, .inl rfl⟩
    · exact (hs.2 b (Nat.ne_of_lt (Nat.lt_of_lt_of_le (Heap.lt_size e) I.ok.above))).trans (I.base.keep b o e n hb hx)
    · obtain ⟨sl, e1⟩ := I.base.slot b o e n hb hx
      exact ⟨sl, (hs.2 b (Nat.ne_of_lt (Nat.lt_of_lt_of_le (Heap.lt_size e) I.ok.above))).trans e1⟩
    · obtain ⟨o', e1⟩ := I.base.there b o e hx
      exact ⟨o', (hs.2 b (Nat.ne_of_lt (Nat.lt_of_lt_of_le (Heap.lt_size e) I.ok.above))).trans e1⟩
    · by_cases hj : j = i
      · subst hj
        rw [hi] at e1; cases e1
        rw [List.getElem?_set_self hiσ] at e2
        cases e2
        exact ⟨u, r, .inl ⟨hk, by simp⟩⟩
      · rw [List.getElem?_set_ne (Ne.symm hj)] at e2
        obtain ⟨u', r', q⟩ := hl j y v' e1 e2 e3
        refine ⟨u', r', ?_⟩
        rcases q with ⟨k, e⟩ | ⟨k, c, e, z⟩
        · refine .inl ⟨k, ?_⟩
          have : y ≠ x := fun e => hj (nodup_ix hN e1 (e ▸ hi))
          simp [this, e]
        · exact .inr ⟨k, c, e, z.sameBut hs (cne y c e)⟩
    · obtain ⟨w', z⟩ := I.cell y c e
      exact ⟨w', z.sameBut hs (cne y c e)⟩
    · obtain ⟨e, n, ne, nf, d⟩ := I.pin p hp
      exact ⟨(hs.2 p.1 ne).trans e, n, ne, nf, d⟩
  · have hfn : X.fn x = true := by
      rcases hf with z | z
      · exact z
      · rw [z] at hk; cases hk
    obtain ⟨c, hc⟩ := I.ok.has x (.inl hk)
    obtain ⟨w', z⟩ := I.cell x c hc
    refine wpAny_storeName_cell I.ok.kind hk hc z (fun h' hc' hs => ?_)
    obtain ⟨oc, hoc, hocd⟩ := id z
    refine h { s with heap := h' } ⟨I.ok, I.os, I.bare, ⟨fun b o e n hb hx => ?_, fun b o e n hb hx => ?_, I.base.free, fun b o e hx => ?_, I.base.tups, I.base.frzs, I.base.tbls⟩, ⟨m, hn.sameBut hs (Ne.symm (cne x c hc)), fun j y v' e1 e2 e3 => ?_⟩, fun y c' e => ?_, I.free, I.freeC, fun p hp => ?_, tracked ⟨oc, hoc, I.freeC x c hc⟩ hs, by simpa using I.len⟩ ⟨c, hs, .inr hc⟩
    · exact (hs.2 b (Nat.ne_of_lt (Nat.lt_of_lt_of_le (Heap.lt_size e) (I.ok.cab x c hfn hc)))).trans (I.base.keep b o e n hb hx)
    · obtain ⟨sl, e1⟩ := I.base.slot b o e n hb hx
      exact ⟨sl, (hs.2 b (Nat.ne_of_lt (Nat.lt_of_lt_of_le (Heap.lt_size e) (I.ok.cab x c hfn hc)))).trans e1⟩
    · obtain ⟨o', e1⟩ := I.base.there b o e hx
      exact ⟨o', (hs.2 b (Nat.ne_of_lt (Nat.lt_of_lt_of_le (Heap.lt_size e) (I.ok.cab x c hfn hc)))).trans e1⟩
    · by_cases hj : j = i
      · subst hj
        rw [hi] at e1; cases e1
        rw [List.getElem?_set_self hiσ] at e2
        cases e2
        exact ⟨u, r, .inr ⟨.inl hk, c, hc, hc'⟩⟩
      · rw [List.getElem?_set_ne (Ne.symm hj)] at e2
        obtain ⟨u', r', q⟩ := hl j y v' e1 e2 e3
        refine ⟨u', r', ?_⟩
        rcases q with q | ⟨k, c', e, z'⟩
        · exact .inl q
        · refine .inr ⟨k, c', e, z'.sameBut hs ?_⟩
          rintro rfl
          exact hj (nodup_ix hN e1 (I.ok.inj _ _ _ e hc ▸ hi))
    · by_cases hcc : c' = c
      · subst hcc; exact ⟨_, hc'⟩
      · obtain ⟨w2, z2⟩ := I.cell y c' e
        exact ⟨w2, z2.sameBut hs hcc⟩
    · obtain ⟨e, n, ne, nf, d⟩ := I.pin p hp
      refine ⟨(hs.2 p.1 ?_).trans e, n, ne, nf, d⟩
      intro q
      rw [q, hoc] at e
      have q' : oc = p.2 := Option.some.inj e
      exact d w' (by rw [← q']; exact hocd)
theorem store_ok {M : Model} {A : Around} {E : Value → Shared → Prop} {i : Nat} {x : Str} {v : V} {u : Value} {Q : Unit → Shared → Prop} (I : Inv X pins σ H s) (hN : X.N.Nodup) (hi : X.N[i]? = some x) (hx : Loc X.env.scope x) (r : RelV v u)
    (h : ∀ s', Inv X pins (σ.set i (some v)) H s' → Q () s') (hf : X.fn x = true ∨ X.env.scope.names.lookup x = some .local := by first | exact .inl rfl | exact .inr rfl | assumption) : wpAny M A (storeName X.env x u) Q E s :=
  store_ok2 I hN hi hx r (fun s' I' _ => h s' I') hf
/-- behind a call or a block, the state as it is -/
theorem Inv.call' {s' : Shared} {ch : List Addr} (I : Inv X pins σ H s) (ho : s'.os = s.os) (u : Un (frs X.stack) ch H H' s.heap s'.heap) (hok : HOk X.prog X.w H' s'.heap) (hg : AllBare s'.gens)
    (hch : ∀ b ∈ ch, (b ∈ X.ex ∨ X.s_0.heap.objs.size ≤ b) ∧ b ≠ X.env.locals ∧ (∀ x c, X.env.cells.lookup x = some c → c ≠ b) ∧ ∀ p ∈ X.pn ++ pins, p.1 ≠ b) : Inv X pins σ H' s' := by
  obtain ⟨h', g', d', t', o'⟩ := s'
  have e : o' = s.os := ho
  subst e
  exact I.call (g' := g') (t' := t') (d' := d') u hok hg hch
end
/-- an exception: its class, its own dict's address (where it has one), the abstract heap behind it -/
abbrev XK := Value → Option Addr → Hp → Prop
abbrev St := List (Option V)
abbrev VK := V → Hp → Prop
/-- an expression's reading; a test's; an argument list's -/
abbrev TE := St → Hp → VK → Prop
abbrev TT := St → Hp → (Bool → Hp → Prop) → Prop
abbrev TA := St → Hp → (List V → Hp → Prop) → Prop
/-- what is wanted behind a statement -/
structure Ends where
  nx : St → Hp → Prop
  rt : VK
  bk : St → Hp → Prop := fun _ _ => False
  ct : St → Hp → Prop := fun _ _ => False
abbrev TS := Ends → St → Hp → Prop
def EP (X : Cx) (pins : List (Addr × Obj)) (σ : St) (Q : VK) (u : Value) (s' : Shared) : Prop := ∃ v H', Inv X pins σ H' s' ∧ RelV v u ∧ Q v H'
def TP (X : Cx) (pins : List (Addr × Obj)) (σ : St) (Q : Bool → Hp → Prop) (b : Bool) (s' : Shared) : Prop := ∃ H', Inv X pins σ H' s' ∧ Q b H'
def AP (X : Cx) (pins : List (Addr × Obj)) (σ : St) (Q : List V → Hp → Prop) (us : List Value) (s' : Shared) : Prop := ∃ vs H', Inv X pins σ H' s' ∧ Vals vs us ∧ Q vs H'
def SP (X : Cx) (pins : List (Addr × Obj)) (D : Ends) (f : Flow) (s' : Shared) : Prop :=
  match f with
  | .next => ∃ σ' H', Inv X pins σ' H' s' ∧ D.nx σ' H'
  | .brk => ∃ σ' H', Inv X pins σ' H' s' ∧ D.bk σ' H'
  | .cont => ∃ σ' H', Inv X pins σ' H' s' ∧ D.ct σ' H'
  | .ret u => ∃ v σ' H', Inv X pins σ' H' s' ∧ RelV v u ∧ D.rt v H'
def PE (X : Cx) (e : Expr) (t : TE) : Prop :=
  ∀ (pins : List (Addr × Obj)) (s : Shared) (σ : St) (H : Hp) (Q : VK), Inv X pins σ H s → t σ H Q → wpAny (model X.prog X.w) X.A (eval e X.env) (EP X pins σ Q) X.xe s
def PT (X : Cx) (e : Expr) (t : TT) : Prop :=
  ∀ (pins : List (Addr × Obj)) (s : Shared) (σ : St) (H : Hp) (Q : Bool → Hp → Prop), Inv X pins σ H s → t σ H Q → wpAny (model X.prog X.w) X.A (isTrue e X.env (eval e X.env)) (TP X pins σ Q) X.xe s
/-- a test whatever its 'whole' is (and, or) -/
def PW (X : Cx) (e : Expr) (t : TT) : Prop :=
  ∀ (whole : Sem Value) (pins : List (Addr × Obj)) (s : Shared) (σ : St) (H : Hp) (Q : Bool → Hp → Prop), Inv X pins σ H s → t σ H Q → wpAny (model X.prog X.w) X.A (isTrue e X.env whole) (TP X pins σ Q) X.xe s
theorem PW.pt {X : Cx} {e : Expr} {t : TT} (h : PW X e t) : PT X e t := h _
/-- an argument list (no star), from the left -/
def PA (X : Cx) (es : List Expr) (t : TA) : Prop :=
  ∀ (pos : Pos) (pins : List (Addr × Obj)) (s : Shared) (σ : St) (H : Hp) (Q : List V → Hp → Prop), Inv X pins σ H s → t σ H Q → wpAny (model X.prog X.w) X.A (spliced (backTo pos (starEach es X.env))) (AP X pins σ Q) X.xe s
def PS (X : Cx) (st : Stmt) (t : TS) : Prop :=
  ∀ (pins : List (Addr × Obj)) (s : Shared) (σ : St) (H : Hp) (D : Ends), Inv X pins σ H s → t D σ H → wpAny (model X.prog X.w) X.A (exec st X.env) (SP X pins D) X.xe s
def PSs (X : Cx) (st : List Stmt) (t : TS) : Prop :=
  ∀ (pins : List (Addr × Obj)) (s : Shared) (σ : St) (H : Hp) (D : Ends), Inv X pins σ H s → t D σ H → wpAny (model X.prog X.w) X.A (execs st X.env) (SP X pins D) X.xe s
/-- weaken the end -/
theorem thn {α : Type} {t : Sem α} {Q Q' : α → Shared → Prop} {M : Model} {A : Around} {E : Value → Shared → Prop} {s : Shared} (h : wpAny M A t Q E s) (hQ : ∀ a s, Q a s → Q' a s) : wpAny M A t Q' E s := wpAny_mono h hQ fun _ _ x => x
end L2
namespace L2
open PySem PySem.Spec PyProof.Rows
section
variable {X : Cx}
def tVar (i : Nat) : TE := fun σ H Q => ∃ v, σ[i]? = some (some v) ∧ Q v H
def tC (v : V) : TE := fun _ H Q => Q v H
theorem pe_var {i : Nat} {x : Str} {pos : Pos} (hN : X.N[i]? = some x) (hv : Vis X.env.scope x) (hd : (x == ("__debug__" : Str)) = false := by decide) (hcd : (x == ("__classdict__" : Str)) = false := by decide) : PE X (.Name x pos) (tVar i) := by
  intro pins s σ H Q I h
  obtain ⟨v, e, h⟩ := h
  obtain ⟨m, hn, hl⟩ := I.loc
  obtain ⟨u, r, l⟩ := hl i x v hN e hv
  have fin : EP X pins σ Q u s := ⟨v, H, I, r, h⟩
  rcases l with ⟨hk, hm⟩ | ⟨hk, c, hc, hcell⟩
  · exact wpAny_Name (wpAny_loadName_local I.ok.kind hk hn hm fin) hd
  · rcases hk with hk | hk
    · exact wpAny_Name (wpAny_loadName_cell I.ok.kind hk hc hcell fin) hd
    · exact wpAny_Name (wpAny_loadName_free I.ok.kind hk hc hcell fin hcd) hd
theorem pe_int {i j pos} : PE X (.Constant (.int i) j pos) (tC (.int i)) := fun _ _ _ H _ I h => wpAny_Constant_int ⟨.int i, H, I.tok _, ⟨_, rfl⟩, h⟩
theorem pe_bl {b j pos} : PE X (.Constant (.bool b) j pos) (tC (.bl b)) := fun _ _ _ H _ I h => Constant_bool ⟨.bl b, H, I, rfl, h⟩
theorem pe_str {x j pos} : PE X (.Constant (.str x) j pos) (tC (.str x)) := fun _ _ _ H _ I h => Calls.Constant_str ⟨.str x, H, I.tok _, ⟨_, rfl⟩, h⟩
/-- a global name of the def -/
def Gl (X : Cx) (x : Str) : Prop := X.env.kindOf x = some .globalImplicit
theorem ld_glob {E : Value → Shared → Prop} {pins : List (Addr × Obj)} {s : Shared} {σ : St} {H : Hp} {x : Str} {u : Value} {pos : Pos} {Q : Value → Shared → Prop} (I : Inv X pins σ H s) (hg : Gl X x) (hm : X.mg x = some u) (h : Q u s)
    (hd : (x == ("__debug__" : Str)) = false := by decide) : wpAny (model X.prog X.w) X.A (eval (.Name x pos) X.env) Q E s :=
  Calls.Name_function_global I.ok.kind hg (Calls.loadGlobal_global (by rw [I.ok.glob]; exact I.mod.glob.keeps I.bk) hm h) hd
theorem ld_blt {E : Value → Shared → Prop} {pins : List (Addr × Obj)} {s : Shared} {σ : St} {H : Hp} {x : Str} {u : Value} {pos : Pos} {Q : Value → Shared → Prop} (I : Inv X pins σ H s) (hg : Gl X x) (hm : X.mg x = none) (hv : bootBuiltins x = some u) (h : Q u s)
    (hn : x ≠ "__name__" := by decide) (hd : (x == ("__debug__" : Str)) = false := by decide) : wpAny (model X.prog X.w) X.A (eval (.Name x pos) X.env) Q E s := by
  obtain ⟨mb, h1, h2⟩ := I.mod.blt
  exact Calls.Name_function_global I.ok.kind hg (Calls.loadGlobal_builtin (by rw [I.ok.glob]; exact I.mod.glob.keeps I.bk) hm (by rw [I.ok.blt]; exact h1.keeps I.bk) ((h2 x hn).trans hv) h) hd
/-- a module's constant, a class, a function, as a value -/
theorem pe_glob {x : Str} {v : V} {u : Value} {pos : Pos} (hg : Gl X x) (hm : X.mg x = some u) (r : RelV v u) (hd : (x == ("__debug__" : Str)) = false := by decide) : PE X (.Name x pos) (tC v) :=
  fun _ _ _ H _ I h => ld_glob I hg hm ⟨v, H, I, r, h⟩ hd
variable {a b : Expr} {ta tb : TE} {pos : Pos}
/-- a comparison as a value, as a test -/
def tB (t : TE) : TT := fun σ H Q => t σ H fun x H1 => ∃ c, x = .bl c ∧ Q c H1
/-- an expression whose value is a bool, as a test -/
theorem pt_val {e : Expr} {t : TE} (h : PE X e t) (he : ∀ whole, isTrue e X.env whole = (do let v ← whole; standAt e.pos; holding [v] (truthy v)) := by intro _; rfl) : PT X e (tB t) := by
  intro pins s σ H Q I hw
  refine isTrue_plain (thn (h pins s σ H _ I hw) fun v s1 ⟨x, H1, I1, r1, q1⟩ => ?_) (he _)
  obtain ⟨d, rfl, q⟩ := q1
  cases r1
  exact wpAny_truthy_bool ⟨H1, I1, q⟩
variable {tA tB' : TT} {rest : List Expr}
def tAnd (t u : TT) : TT := fun σ H Q => t σ H fun c H1 => if c = true then u σ H1 Q else Q false H1
def tOr (t u : TT) : TT := fun σ H Q => t σ H fun c H1 => if c = true then Q true H1 else u σ H1 Q
def tNot (t : TT) : TT := fun σ H Q => t σ H fun c H1 => Q (!c) H1
theorem pw_and1 (ha : PT X a tA) : PW X (.BoolOp .And [a] pos) tA := by
  intro wh pins s σ H Q I h
  refine isTrue_and (thn (ha pins s σ H Q I h) fun c s1 e => ?_)
  cases c with
  | true => exact isTrue_and_nil e
  | false => exact e
theorem pw_or1 (ha : PT X a tA) : PW X (.BoolOp .Or [a] pos) tA := by
  intro wh pins s σ H Q I h
  refine isTrue_or (thn (ha pins s σ H Q I h) fun c s1 e => ?_)
  cases c with
  | false => exact isTrue_or_nil e
  | true => exact e
theorem pw_and (ha : PT X a tA) (hb : PW X (.BoolOp .And (b :: rest) pos) tB') : PW X (.BoolOp .And (a :: b :: rest) pos) (tAnd tA tB') := by
  intro wh pins s σ H Q I h
  refine isTrue_and (thn (ha pins s σ H _ I h) fun c s1 ⟨H1, I1, q1⟩ => ?_)
  cases c with
  | true => exact hb wh pins s1 σ H1 Q I1 q1
  | false => exact ⟨H1, I1, q1⟩
theorem pw_or (ha : PT X a tA) (hb : PW X (.BoolOp .Or (b :: rest) pos) tB') : PW X (.BoolOp .Or (a :: b :: rest) pos) (tOr tA tB') := by
  intro wh pins s σ H Q I h
  refine isTrue_or (thn (ha pins s σ H _ I h) fun c s1 ⟨H1, I1, q1⟩ => ?_)
  cases c with
  | true => exact ⟨H1, I1, q1⟩
  | false => exact hb wh pins s1 σ H1 Q I1 q1
theorem pt_not (ha : PT X a tA) : PT X (.UnaryOp .Not a pos) (tNot tA) := by
  intro pins s σ H Q I h
  exact isTrue_not (ha pins s σ H (fun c H1 => Q (!c) H1) I h)
/-- .. as values (bools) -/
def tAndV (ta tb : TE) : TE := fun σ H Q => ta σ H fun x H1 => ∃ c, x = .bl c ∧ if c = true then tb σ H1 Q else Q (.bl false) H1
theorem pe_one {op} {t : TE} (h : PE X a t) : PE X (.BoolOp op [a] pos) t := fun pins s σ H Q I hw => BoolOp_one (h pins s σ H Q I hw)
theorem pe_and (ha : PE X a ta) (hb : PE X (.BoolOp .And (b :: rest) pos) tb) : PE X (.BoolOp .And (a :: b :: rest) pos) (tAndV ta tb) := by
  intro pins s σ H Q I h
  refine BoolOp_and (thn (ha pins s σ H _ I h) fun v s1 ⟨x, H1, I1, r1, q1⟩ => ?_)
  obtain ⟨c, rfl, q1⟩ := q1
  cases r1
  refine wpAny_truthy_bool ?_
  cases c with
  | true => exact hb pins s1 σ H1 Q I1 q1
  | false => exact ⟨.bl false, H1, I1, rfl, q1⟩
end
end L2
namespace L2
open PySem PySem.Spec PyProof.Rows
def SqL (K : PySem.W.Frag) (H : Hp) (a : Addr) (xs : List V) : Prop :=
  Rd H a (.lst xs) ∨
    ∃ (o : Obj) (its : Array Value) (n : Nat), K.lookup a = some o ∧ o.cls = .type "list" ∧ o.dict = none ∧ o.data = .seq its n ∧ its.size ≤ sizeLine ∧ Vals xs its.toList
def SqT (K : PySem.W.Frag) (H : Hp) (a : Addr) (xs : List V) : Prop :=
  Rd H a (.tup xs) ∨
    ∃ (o : Obj) (its : Array Value) (n : Nat), K.lookup a = some o ∧ o.cls = .type "tuple" ∧ o.data = .seq its n ∧ its.size ≤ sizeLine ∧ Vals xs its.toList ∧ o.dict = none
def absV : Value → Option V
  | .none => some .non
  | .bool b => some (.bl b)
  | .int i _ => some (.int i)
  | .str x _ => some (.str x)
  | .bytes b _ => some (.byt b)
  | .float b _ => some (.flt b)
  | .ref a => some (.ref a)
  | .type n => some (.ty n)
  | _ => none
theorem RelV.abs {x : V} {u : Value} (r : RelV x u) : absV u = some x := by
  cases x with
  | non => cases r; rfl
  | bl _ => cases r; rfl
  | int _ => obtain ⟨t, rfl⟩ := r; rfl
  | str _ => obtain ⟨t, rfl⟩ := r; rfl
  | byt _ => obtain ⟨t, rfl⟩ := r; rfl
  | flt _ => obtain ⟨t, rfl⟩ := r; rfl
  | ref _ => cases r; rfl
  | ty _ => cases r; rfl
theorem RelV.inj {x y : V} {u : Value} (r : RelV x u) (q : RelV y u) : x = y := Option.some.inj (r.abs.symm.trans q.abs)
theorem Vals.inj : ∀ {xs ys : List V} {us : List Value}, Vals xs us → Vals ys us → xs = ys
  | _, _, _, .nil, .nil => rfl
  | _, _, _, .cons r t, .cons r' t' => by rw [r.inj r', Vals.inj t t']
section
variable {X : Cx} {pins : List (Addr × Obj)} {σ : St} {H : Hp} {s : Shared} {a : Addr} {xs ys : List V}
theorem SqL.of {K : PySem.W.Frag} (h : H a = some (.lst xs)) : SqL K H a xs := .inl (.inl h)
theorem SqT.of {K : PySem.W.Frag} (h : H a = some (.tup xs)) : SqT K H a xs := .inl (.inl h)
theorem Inv.list (I : Inv X pins σ H s) (h : SqL X.K H a xs) : ∃ its : List Value, Vals xs its ∧ PlainL s.heap a its.toArray ∧ xs.length ≤ sizeLine := by
  rcases h with h | ⟨o, its, n, hk, hc, hd, hs, hz, r⟩
  · obtain ⟨z, its, n, r, e⟩ := h.ok I.hok
    exact ⟨its, r, ⟨_, n, e, rfl, rfl, rfl⟩, z⟩
  · refine ⟨its.toList, r, ⟨o, n, I.kIn a o hk, hc, hd, by simpa using hs⟩, ?_⟩
    have e := r.length
    simp only [Array.length_toList] at e
    omega
theorem Inv.tuple (I : Inv X pins σ H s) (h : SqT X.K H a xs) : ∃ its : List Value, Vals xs its ∧ IsTup s.heap a its.toArray ∧ xs.length ≤ sizeLine := by
  rcases h with h | ⟨o, its, n, hk, hc, hs, hz, r, _⟩
  · obtain ⟨z, its, r, p⟩ := h.ok I.hok
    exact ⟨its, r, p.tup, z⟩
  · refine ⟨its.toList, r, ⟨o, I.kIn a o hk, hc, n, by simpa using hs⟩, ?_⟩
    have e := r.length
    simp only [Array.length_toList] at e
    omega
theorem Inv.tupleD (I : Inv X pins σ H s) (h : SqT X.K H a xs) : ∃ its : List Value, Vals xs its ∧ IsTupD s.heap a its.toArray ∧ xs.length ≤ sizeLine := by
  rcases h with h | ⟨o, its, n, hk, hc, hs, hz, r, hd⟩
  · obtain ⟨z, its, r, p⟩ := h.ok I.hok
    exact ⟨its, r, p, z⟩
  · refine ⟨its.toList, r, ⟨o, I.kIn a o hk, ⟨hc, n, by simpa using hs⟩, hd⟩, ?_⟩
    have e := r.length
    simp only [Array.length_toList] at e
    omega
theorem Inv.list_inj (I : Inv X pins σ H s) (h : SqL X.K H a xs) (h' : SqL X.K H a ys) : xs = ys := by
  obtain ⟨its, r, ⟨o, n, e, _, _, d⟩, _⟩ := I.list h
  obtain ⟨its', r', ⟨o', n', e', _, _, d'⟩, _⟩ := I.list h'
  rw [e] at e'; cases e'
  rw [d] at d'
  injection d' with d1 _
  have : its = its' := by simpa using congrArg Array.toList d1
  subst this
  exact r.inj r'
theorem Inv.tuple_inj (I : Inv X pins σ H s) (h : SqT X.K H a xs) (h' : SqT X.K H a ys) : xs = ys := by
  obtain ⟨its, r, ⟨o, e, _, n, d⟩, _⟩ := I.tuple h
  obtain ⟨its', r', ⟨o', e', _, n', d'⟩, _⟩ := I.tuple h'
  rw [e] at e'; cases e'
  rw [d] at d'
  injection d' with d1 _
  have : its = its' := by simpa using congrArg Array.toList d1
  subst this
  exact r.inj r'
end
abbrev Cx.wish (X : Cx) (E : Value → Shared → Prop) : Cx := { X with xe := E }
/-- no exception leaves -/
abbrev Cx.nox (X : Cx) : Cx := X.wish fun _ _ => False
theorem Cx.Ok.wish {X : Cx} (ok : X.Ok) (E : Value → Shared → Prop) : (X.wish E).Ok :=
  ⟨ok.mod, ok.kind, ok.glob, ok.blt, ok.above, ok.inj, ok.has, ok.cab, ok.hd, ok.frames, ok.stk, ok.exf, ok.bs, ok.bsz, ok.noex, ok.exfs, ok.funs, ok.frf⟩
theorem Cx.Ok.unwish {X : Cx} {E : Value → Shared → Prop} (ok : (X.wish E).Ok) : X.Ok :=
  ⟨ok.mod, ok.kind, ok.glob, ok.blt, ok.above, ok.inj, ok.has, ok.cab, ok.hd, ok.frames, ok.stk, ok.exf, ok.bs, ok.bsz, ok.noex, ok.exfs, ok.funs, ok.frf⟩
section
variable {X : Cx} {pins : List (Addr × Obj)} {σ : St} {H : Hp} {s : Shared} {E : Value → Shared → Prop}
theorem Inv.wish (I : Inv X pins σ H s) (E : Value → Shared → Prop) : Inv (X.wish E) pins σ H s := ⟨I.ok.wish E, I.os, I.bare, I.base, I.loc, I.cell, I.free, I.freeC, I.pin, I.hok, I.len⟩
theorem Inv.unwish (I : Inv (X.wish E) pins σ H s) : Inv X pins σ H s := ⟨I.ok.unwish, I.os, I.bare, I.base, I.loc, I.cell, I.free, I.freeC, I.pin, I.hok, I.len⟩
theorem SP.unwish {D : Ends} {f : Flow} {s' : Shared} (h : SP (X.wish E) pins D f s') : SP X pins D f s' := by
  cases f with
  | next => obtain ⟨σ', H', I, q⟩ := h; exact ⟨σ', H', I.unwish, q⟩
  | brk => obtain ⟨σ', H', I, q⟩ := h; exact ⟨σ', H', I.unwish, q⟩
  | cont => obtain ⟨σ', H', I, q⟩ := h; exact ⟨σ', H', I.unwish, q⟩
  | ret u => obtain ⟨v, σ', H', I, r, q⟩ := h; exact ⟨v, σ', H', I.unwish, r, q⟩
theorem PE.nox {e : Expr} {t : TE} (h : PE X.nox e t) : PE X e t := fun pins s σ H Q I hw =>
  wpAny_mono (h pins s σ H Q (I.wish _) hw) (fun _ _ ⟨v, H', I', r, q⟩ => ⟨v, H', I'.unwish, r, q⟩) fun _ _ z => False.elim z
theorem PT.nox {e : Expr} {t : TT} (h : PT X.nox e t) : PT X e t := fun pins s σ H Q I hw =>
  wpAny_mono (h pins s σ H Q (I.wish _) hw) (fun _ _ ⟨H', I', q⟩ => ⟨H', I'.unwish, q⟩) fun _ _ z => False.elim z
theorem PSs.nox {st : List Stmt} {t : TS} (h : PSs X.nox st t) : PSs X st t := fun pins s σ H D I hw =>
  wpAny_mono (h pins s σ H D (I.wish _) hw) (fun _ _ q => q.unwish) fun _ _ z => False.elim z
end
section
variable {X : Cx} {st : Stmt} {rest : List Stmt} {t u : TS} {e : Expr} {te : TE} {pos : Pos}
def tNext : TS := fun D σ H => D.nx σ H
def tSeq (t u : TS) : TS := fun D σ H => t { D with nx := u D } σ H
theorem pss_nil : PSs X [] tNext := fun _ _ σ H _ I h => wpAny_execs_nil ⟨σ, H, I, h⟩
theorem pss_cons (h1 : PS X st t) (h2 : PSs X rest u) : PSs X (st :: rest) (tSeq t u) := by
  intro pins s σ H D I h
  refine wpAny_execs_cons (thn (h1 pins s σ H { D with nx := u D } I h) fun f s1 q => ?_)
  cases f with
  | next =>
    obtain ⟨σ', H', I', q⟩ := q
    exact h2 pins s1 σ' H' D I' q
  | ret v => exact q
  | brk => exact q
  | cont => exact q
theorem pss_one (h1 : PS X st t) : PSs X [st] t := by
  intro pins s σ H D I h
  refine wpAny_execs_cons (thn (h1 pins s σ H D I h) fun f s1 q => ?_)
  cases f with
  | next => exact wpAny_execs_nil q
  | ret v => exact q
  | brk => exact q
  | cont => exact q
/-- in a def's body nothing is shown -/
theorem Inv.quiet {pins : List (Addr × Obj)} {σ : St} {H : Hp} {s : Shared} (I : Inv X pins σ H s) : interactive X.env = false := by simp [interactive, I.ok.kind]
/-- an expression whose value is dropped -/
def tDrop (te : TE) : TS := fun D σ H => te σ H fun _ H1 => D.nx σ H1
theorem ps_expr (he : PE X e te) (hs : swapsWith e none pos.line X.env = pure false := by rfl) : PS X (.Expr e pos) (tDrop te) := by
  intro pins s σ H D I h
  exact wpAny_Expr_any (thn (he pins s σ H _ I h) fun v s1 ⟨x, H1, I1, r1, q1⟩ => ⟨σ, H1, I1, q1⟩) I.quiet hs
def tRet (te : TE) : TS := fun D σ H => te σ H D.rt
theorem ps_ret (he : PE X e te) : PS X (.Return (some e) pos) (tRet te) := by
  intro pins s σ H D I h
  exact wpAny_Return_some (thn (he pins s σ H _ I h) fun v s1 ⟨x, H1, I1, r1, q1⟩ => ⟨x, σ, H1, I1, r1, q1⟩)
def tIfS (c : TT) (t u : TS) : TS := fun D σ H => c σ H fun b H1 => if b = true then t D σ H1 else u D σ H1
theorem ps_if {c : Expr} {a b : List Stmt} {tc : TT} (hc : PT X c tc) (ha : PSs X a t) (hb : PSs X b u) : PS X (.If c a b pos) (tIfS tc t u) := by
  intro pins s σ H D I h
  refine wpAny_If (thn (hc pins s σ H _ I h) fun d s1 ⟨H1, I1, q1⟩ => ?_)
  cases d with
  | true => exact ha pins s1 σ H1 D I1 q1
  | false => exact hb pins s1 σ H1 D I1 q1
/-- code that the proof never comes to -/
def tNever : TS := fun _ _ _ => False
theorem ps_never : PS X st tNever := fun _ _ _ _ _ _ h => h.elim
end
abbrev TG := V → St → Hp → (St → Hp → Prop) → Prop
abbrev TGs := List V → St → Hp → (St → Hp → Prop) → Prop
def PG (X : Cx) (target : Expr) (t : TG) : Prop :=
  ∀ (pins : List (Addr × Obj)) (s : Shared) (σ : St) (H : Hp) (v : V) (u : Value) (Q : St → Hp → Prop), Inv X pins σ H s → RelV v u → t v σ H Q →
    wpAny (model X.prog X.w) X.A (assign target X.env u) (fun _ s' => ∃ σ' H', Inv X pins σ' H' s' ∧ Q σ' H') X.xe s
/-- several targets, one after another -/
def PGs (X : Cx) (ts : List Expr) (t : TGs) : Prop :=
  ∀ (pins : List (Addr × Obj)) (s : Shared) (σ : St) (H : Hp) (vs : List V) (us : List Value) (Q : St → Hp → Prop), Inv X pins σ H s → Vals vs us → t vs σ H Q →
    wpAny (model X.prog X.w) X.A (assignInOrder ((assignEach ts X.env).map (·.2)) us) (fun _ s' => ∃ σ' H', Inv X pins σ' H' s' ∧ Q σ' H') X.xe s
/-- o[i] = v, by values -/
abbrev TSet := V → V → V → Hp → (Hp → Prop) → Prop
def PSet (X : Cx) (t : TSet) : Prop :=
  ∀ (pins : List (Addr × Obj)) (s : Shared) (σ : St) (H : Hp) (o i v : V) (ov iv u : Value) (Q : Hp → Prop), Inv X pins σ H s → RelV o ov → RelV i iv → RelV v u → t o i v H Q →
    wpAny (model X.prog X.w) X.A (setItem ov iv u) (fun _ s' => ∃ H', Inv X pins σ H' s' ∧ Q H') X.xe s
section
variable {X : Cx} {pos : Pos}
def gName (i : Nat) : TG := fun v σ H Q => Q (σ.set i (some v)) H
theorem pg_name {i : Nat} {x : Str} (hN : X.N.Nodup) (hi : X.N[i]? = some x) (hx : Loc X.env.scope x) (hf : X.fn x = true ∨ X.env.scope.names.lookup x = some .local := by first | exact .inl rfl | exact .inr rfl | assumption) : PG X (.Name x pos) (gName i) := by
  intro pins s σ H v u Q I r h
  exact wpAny_assign_Name (store_ok I hN hi hx r (fun s' I' => ⟨_, H, I', h⟩) hf)
def gNil : TGs := fun vs σ H Q => vs = [] ∧ Q σ H
def gCons (t : TG) (u : TGs) : TGs := fun vs σ H Q => ∃ v r, vs = v :: r ∧ t v σ H fun σ' H' => u r σ' H' Q
theorem pgs_nil : PGs X [] gNil := by
  intro pins s σ H vs us Q I r h
  obtain ⟨e, h⟩ := h
  subst e
  cases r
  exact assignInOrder_nil ⟨σ, H, I, h⟩
theorem pgs_cons {e : Expr} {es : List Expr} {t : TG} {u : TGs} (h1 : PG X e t) (h2 : PGs X es u)
    (hs : (assignEach (e :: es) X.env).map (·.2) = assign e X.env :: (assignEach es X.env).map (·.2) := by rfl) : PGs X (e :: es) (gCons t u) := by
  intro pins s σ H vs us Q I r h
  obtain ⟨v, vr, e1, h⟩ := h
  subst e1
  cases r with
  | cons r rr =>
    rw [hs]
    refine assignInOrder_cons (thn (h1 pins s σ H _ _ _ I r h) fun _ s1 ⟨σ1, H1, I1, q1⟩ => ?_)
    exact h2 pins s1 σ1 H1 _ _ Q I1 rr q1
/-- (a, b, ..) = a tuple of that length -/
def gTup (K : PySem.W.Frag) (n : Nat) (t : TGs) : TG := fun v σ H Q => ∃ a xs, v = .ref a ∧ SqT K H a xs ∧ xs.length = n ∧ t xs σ H Q
theorem pg_tup {es : List Expr} {k : Nat} {t : TGs} {n : Nat} (hc : X.calm = true) (h : PGs X es t)
    (hn : (assignEach es X.env).length = n := by rfl) (hst : (assignEach es X.env).findIdx? (·.1) = none := by rfl) : PG X (.Tuple es k pos) (gTup X.K n t) := by
  intro pins s σ H v u Q I r hw
  obtain ⟨a, xs, e1, hq, hl, hw⟩ := hw
  subst e1
  cases r
  obtain ⟨its, rv, ht, hz⟩ := I.tuple hq
  refine assign_Tuple_tuple (I.ok.hd hc) ht (by simp [hn, ← hl, rv.length]) hst fun h' hx => ?_
  have I1 : Inv X pins σ H { s with heap := h' } := I.kept (t' := s.toks) fun b o e => hx b o (Nat.ne_of_lt (Heap.lt_size e)) e
  exact h pins _ σ H xs _ Q I1 (by simpa using rv) hw
/-- o[i] = .. -/
def gSub (to ti : TE) (t : TSet) : TG := fun v σ H Q => to σ H fun o H1 => ti σ H1 fun i H2 => t o i v H2 fun H3 => Q σ H3
theorem pg_sub {o i : Expr} {to ti : TE} {t : TSet} (ho : PE X o to) (hi : PE X i ti) (hs : PSet X t)
    (ha : ∀ v, assign (.Subscript o i pos) X.env v = (do
      let ov ← holding [v] (eval o X.env)
      let iv ← holding [v, ov] (eval i X.env)
      standAt pos
      holding [v, ov, iv] (setItem ov iv v)
      release [v, ov, iv] []) := by intro _; rfl) : PG X (.Subscript o i pos) (gSub to ti t) := by
  intro pins s σ H v u Q I r h
  rw [ha]
  refine wpAny_bind (wpAny_holding (thn (ho pins s σ H _ I h) fun ov s1 ⟨x, H1, I1, r1, q1⟩ => ?_))
  refine wpAny_bind (wpAny_holding (thn (hi pins s1 σ H1 _ I1 q1) fun iv s2 ⟨y, H2, I2, r2, q2⟩ => ?_))
  refine wpAny_bind (wpAny_standAt (wpAny_bind (wpAny_holding (thn (hs pins s2 σ H2 x y v ov iv u _ I2 r1 r2 r q2) fun _ s3 ⟨H3, I3, q3⟩ => ?_))))
  exact wpAny_release ⟨σ, H3, I3, q3⟩
/-- target = value -/
def tAsg (te : TE) (g : TG) : TS := fun D σ H => te σ H fun x H1 => g x σ H1 D.nx
theorem ps_asg {tg e : Expr} {te : TE} {g : TG} (he : PE X e te) (hg : PG X tg g) (hs : swapsWithSole [tg] e pos.line X.env = pure false := by rfl) (hw : swappedStores [tg] e X.env = pure none := by rfl)
    (h1 : (assignEach [tg] X.env).map (·.2) = [assign tg X.env] := by rfl) : PS X (.Assign [tg] e pos) (tAsg te g) := by
  intro pins s σ H D I h
  refine wpAny_Assign_stores (thn (he pins s σ H _ I h) fun v s1 ⟨x, H1, I1, r1, q1⟩ => ?_) hs hw
  rw [h1]
  exact thn (hg pins s1 σ H1 x v _ I1 r1 q1) fun _ s2 q => q
/-- name = value -/
theorem ps_set {i : Nat} {x : Str} {e : Expr} {te : TE} {pos' : Pos} (hN : X.N.Nodup) (hi : X.N[i]? = some x) (hx : Loc X.env.scope x) (he : PE X e te) (hs : swapsWith e (some (.Name x pos')) pos.line X.env = pure false := by rfl) (hf : X.fn x = true ∨ X.env.scope.names.lookup x = some .local := by first | exact .inl rfl | exact .inr rfl | assumption) :
    PS X (.Assign [.Name x pos'] e pos) (tAsg te (gName i)) := by
  intro pins s σ H D I h
  refine wpAny_Assign_Name (thn (he pins s σ H _ I h) fun v s1 ⟨y, H1, I1, r1, q1⟩ => ?_) hs
  exact store_ok I1 hN hi hx r1 (fun s2 I2 => ⟨_, H1, I2, q1⟩) hf
/-- a, b = x, y with plain local names: stored from the right; the pair itself is not tracked (the opening rows as in PyProof/Rows/TupAssign.lean:23) -/
def tPar (i j : Nat) (ta : TA) : TS := fun D σ H => ta σ H fun vs H1 => ∃ v w, vs = [v, w] ∧ D.nx ((σ.set i (some v)).set j (some w)) H1
theorem ps_par {i j : Nat} {x y : Str} {a b : Expr} {ta : TA} {px py pt : Pos} {kt k2 pt2} (hc : X.calm = true) (hN : X.N.Nodup) (hi : X.N[i]? = some x) (hj : X.N[j]? = some y) (hij : i ≠ j)
    (hx : X.env.scope.names.lookup x = some .local) (hy : X.env.scope.names.lookup y = some .local) (ha : PA X [a, b] ta)
    (hw : swappedStores [.Tuple [.Name x px, .Name y py] kt pt] (.Tuple [a, b] k2 pt2) X.env = pure (some [x, y]))
    (hs : swapsWithSole [.Tuple [.Name x px, .Name y py] kt pt] (.Tuple [a, b] k2 pt2) pos.line X.env = pure false := by rfl) :
    PS X (.Assign [.Tuple [.Name x px, .Name y py] kt pt] (.Tuple [a, b] k2 pt2) pos) (tPar i j ta) := by
  intro pins s σ H D I h
  rw [exec_Assign_arm]
  refine wpAny_bind (wpAny_standAt ?_)
  rw [hs]
  refine wpAny_bind (wpAny_pure ?_)
  rw [if_neg (by decide)]
  refine wpAny_bind (Tuple_ (thn (ha _ pins s σ H _ I h) fun us s1 ⟨vs, H1, I1, r1, q1⟩ => ?_))
  obtain ⟨v, w, e1, q1⟩ := q1
  subst e1
  obtain ⟨u1, u2, rfl, rv, rw'⟩ : ∃ u1 u2, us = [u1, u2] ∧ RelV v u1 ∧ RelV w u2 := by
    cases r1 with
    | cons p q =>
      cases q with
      | cons p' q' =>
        cases q'
        exact ⟨_, _, rfl, p, p'⟩
  refine wpAny_newObj_type ?_ (by show 2 ≤ sizeLine; decide)
  have I2 : Inv X pins σ H1 { s1 with heap := s1.heap.push { cls := .type "tuple", data := .seq [u1, u2].toArray } } := I1.kept (t' := s1.toks) fun b o e => Heap.get?_push_of_some _ e
  rw [hw]
  refine wpAny_bind (wpAny_pure ?_)
  show wpAny (model X.prog X.w) X.A (do rule "assign.swapped-stores"; let items ← unpackItems (.ref s1.heap.objs.size) 2 none; assignInOrder [fun v => bindName X.env y v, fun v => bindName X.env x v] items.reverse; pure Flow.next) _ _ _
  refine wpAny_bind (wpAny_rule (wpAny_bind (unpackItems_tuple (items := #[u1, u2]) (I.ok.hd hc) (IsTup.new s1.heap _) fun h' hx' => ?_)))
  have I3 := I2.kept (h' := h') (t' := s1.toks) fun b o e => hx' b o (Nat.ne_of_lt (Heap.lt_size e)) e
  show wpAny _ _ (assignInOrder [fun v => bindName X.env y v, fun v => bindName X.env x v] [u2, u1] >>= fun _ => pure Flow.next) _ _ _
  refine wpAny_bind (assignInOrder_cons (wpAny_bindName (store_ok I3 hN hj (.inl hy) rw' (fun s2 I4 => ?_) (.inr hy))))
  refine assignInOrder_cons (wpAny_bindName (store_ok I4 hN hi (.inl hx) rv (fun s3 I5 => assignInOrder_nil (wpAny_pure ?_)) (.inr hx)))
  rw [List.set_comm _ _ (Ne.symm hij)] at I5
  exact ⟨_, H1, I5, q1⟩
end
section
variable {X : Cx} {pos : Pos}
end
/-- at turn i: it yields x (the heap may grow), or it stops -/
structure It where
  go : Nat → Hp → Prop
  yld : Nat → Hp → V → Hp → Prop
  stop : Nat → Hp → Prop
/-- the iterator's own objects may turn: they are not the frame's, not pinned, younger than the entry (or a comprehension's own) -/
def FpOk (X : Cx) (pins : List (Addr × Obj)) (H : Hp) (b : Addr) : Prop :=
  H b = none ∧ b ≠ X.env.locals ∧ b ∉ X.fs ∧ (b ∈ X.ex ∨ X.s_0.heap.objs.size ≤ b) ∧ (∀ x c, X.env.cells.lookup x = some c → c ≠ b) ∧ ∀ p ∈ X.pn ++ pins, p.1 ≠ b
theorem Inv.fpOk {X : Cx} {pins : List (Addr × Obj)} {σ : St} {H H' : Hp} {s : Shared} {b : Addr} (I : Inv X pins σ H s) (hb : s.heap.objs.size ≤ b) (hn : H' b = none) : FpOk X pins H' b := by
  refine ⟨hn, Nat.ne_of_gt (Nat.lt_of_lt_of_le I.lt hb), I.nofs hb, .inr (Nat.le_trans I.sz hb), fun x c e z => ?_, fun p hp z => ?_⟩
  · obtain ⟨v, q⟩ := I.cell x c e
    exact absurd (Nat.lt_of_lt_of_le q.lt (by rw [z]; exact hb)) (Nat.lt_irrefl _)
  · exact absurd (Nat.lt_of_lt_of_le (Heap.lt_size (I.pin p hp).1) (by rw [z]; exact hb)) (Nat.lt_irrefl _)
structure Turn (P : Program) (w : World) (K : PySem.W.Frag) (tg : Expr) (J : It) (fp : List Addr) (it : Addr) (tn : Nat → Heap → Prop) : Prop where
  mem : it ∈ fp
  obj : ∀ i h, tn i h → ∀ b ∈ fp, ∃ o, h.get? b = some o ∧ ∀ v, o.data ≠ .cell v
  keep : ∀ i h h', tn i h → (∀ b ∈ fp, ∀ o, h.get? b = some o → h'.get? b = some o) → tn i h'
  item : ∀ (X : Cx), X.prog = P → X.w = w → X.K = K → X.calm = true → ∀ (i : Nat) (pins : List (Addr × Obj)) (s : Shared) (σ : St) (H : Hp) (E : Value → Shared → Prop), Inv X pins σ H s → (∀ b ∈ fp, FpOk X pins H b) → tn i s.heap → J.go i H →
    wpAny (model P w) X.A (pyNext (.ref it)) (fun r s1 => ∃ u, r = some u ∧
      wpAny (model P w) X.A (letOwnedTupleGo tg (.ref it) u) (fun _ s2 => ∃ x H', Inv X pins σ H' s2 ∧ RelV x u ∧ J.yld i H x H' ∧ tn (i + 1) s2.heap ∧ ∀ b ∈ fp, H' b = none) E s1) E s
  done : ∀ (X : Cx), X.prog = P → X.w = w → X.K = K → X.calm = true → ∀ (i : Nat) (pins : List (Addr × Obj)) (s : Shared) (σ : St) (H : Hp) (E : Value → Shared → Prop), Inv X pins σ H s → (∀ b ∈ fp, FpOk X pins H b) → tn i s.heap → J.stop i H →
    wpAny (model P w) X.A (pyNext (.ref it)) (fun r s1 => r = none ∧ Inv X pins σ H s1) E s
  self : ∀ (A : Around) (i : Nat) (s : Shared) (Q : Value → Shared → Prop) (E : Value → Shared → Prop), tn i s.heap → Q (.ref it) s → wpAny (model P w) A (pyIter (.ref it)) Q E s
abbrev TI := St → Hp → (It → Hp → Prop) → Prop
/-- an iterator has come -/
def PIE (X : Cx) (pins : List (Addr × Obj)) (σ : St) (tg : Expr) (R : It → Hp → Prop) (itv : Value) (s2 : Shared) : Prop :=
  ∃ (it : Addr) (fp : List Addr) (tn : Nat → Heap → Prop) (J : It) (H' : Hp), itv = .ref it ∧ Inv X pins σ H' s2 ∧ Turn X.prog X.w X.K tg J fp it tn ∧ tn 0 s2.heap ∧ (∀ b ∈ fp, FpOk X pins H' b) ∧ R J H'
def PI (X : Cx) (tg iter : Expr) (wi : TI) : Prop :=
  ∀ (pins : List (Addr × Obj)) (s : Shared) (σ : St) (H : Hp) (R : It → Hp → Prop), Inv X pins σ H s → wi σ H R →
    wpAny (model X.prog X.w) X.A (eval iter X.env) (fun v s1 => wpAny (model X.prog X.w) X.A (pyIter v) (PIE X pins σ tg R) X.xe s1) X.xe s
/-- the step ahead of the store is nothing for an iterator that keeps no tuple -/
theorem go_of {M : Model} {A : Around} {E : Value → Shared → Prop} {s : Shared} {tg : Expr} {it : Addr} {u : Value} {o : Obj} {n : String} {vs : Array Value} {Q : Unit → Shared → Prop} (ho : s.heap.get? it = some o) (hc : o.cls = .type n) (hd : o.data = .fields vs)
    (hn : ["enumerate", "zip", "dict_itemiterator", "dict_reverseitemiterator", "odict_iterator", "itertools.zip_longest", "itertools.pairwise"].contains n = false) (hQ : Q () s) : wpAny M A (letOwnedTupleGo tg (.ref it) u) Q E s := by
  unfold letOwnedTupleGo
  cases tg <;> first
    | exact wpAny_pure hQ
    | (cases u <;> first
        | exact wpAny_pure hQ
        | (refine wpAny_bind (wpAny_load ho ?_)
           rw [hc, hd]
           show wpAny M A (if (["enumerate", "zip", "dict_itemiterator", "dict_reverseitemiterator", "odict_iterator", "itertools.zip_longest", "itertools.pairwise"].contains n && vs[0]? == some (rawInt _)) = true then _ else _) Q E s
           rw [if_neg (by intro h; rw [hn, Bool.false_and] at h; cases h)]
           exact wpAny_pure hQ))
/-- the list at a, as it stands at each turn (a loop may append to it) -/
def Itl (K : PySem.W.Frag) (a : Addr) : It :=
  ⟨fun i H => ∃ xs x, SqL K H a xs ∧ xs[i]? = some x, fun i H x H' => H' = H ∧ ∀ xs, SqL K H a xs → xs[i]? = some x, fun i H => ∃ xs, SqL K H a xs ∧ xs.length ≤ i⟩
def Itt (K : PySem.W.Frag) (a : Addr) : It :=
  ⟨fun i H => ∃ xs x, SqT K H a xs ∧ xs[i]? = some x, fun i H x H' => H' = H ∧ ∀ xs, SqT K H a xs → xs[i]? = some x, fun i H => ∃ xs, SqT K H a xs ∧ xs.length ≤ i⟩
/-- lo, lo + 1, .. (n of them) -/
def Itr (lo : Int) (n : Nat) : It := ⟨fun i _ => i < n, fun i H x H' => H' = H ∧ x = .int (lo + i), fun i _ => n ≤ i⟩
theorem turn_list {P : Program} {w : World} {K : PySem.W.Frag} {tg : Expr} (a it : Addr) : Turn P w K tg (Itl K a) [it] it (fun i h => h.IsListIter it a i) where
  mem := by simp
  obj := fun i h st b hb => by
    have e : b = it := by simpa using hb
    subst e
    obtain ⟨o, e, c, d⟩ := st
    exact ⟨o, e, fun v z => by rw [d] at z; cases z⟩
  keep := fun i h h' st k => st.at fun o e => k it (by simp) o e
  item := by
    intro X hP hw hK hc i pins s σ H E I hf st hg
    subst hP hw hK
    obtain ⟨xs, x, hq, hx⟩ := hg
    obtain ⟨its, rv, p, hz⟩ := I.list hq
    obtain ⟨u, hu, ru⟩ := rv.get hx
    obtain ⟨f0, f1, f2, f3, f4, f5⟩ := hf it (by simp)
    refine wpAny_pyNext_list_item st p.isList (x := u) (by simpa using hu) fun h' st' sb => ?_
    have I1 : Inv X pins σ H { s with heap := h' } := I.turned (t' := s.toks) (fun b o hb e => (sb.2 b hb).trans e) f0 f1 f3 f4 f5
    obtain ⟨o, e, c, d⟩ := id st'
    exact ⟨u, rfl, go_of (s := { s with heap := h' }) e c d (by decide) ⟨x, H, I1, ru, ⟨rfl, fun ys hy => by rw [I.list_inj hy hq]; exact hx⟩, st', fun b hb => (hf b hb).1⟩⟩
  done := by
    intro X hP hw hK hc i pins s σ H E I hf st hg
    subst hP hw hK
    obtain ⟨xs, hq, hx⟩ := hg
    obtain ⟨its, rv, p, hz⟩ := I.list hq
    obtain ⟨f0, f1, f2, f3, f4, f5⟩ := hf it (by simp)
    have hl := rv.length
    exact wpAny_pyNext_list_end (I.ok.hd hc) st p.isList (by simp; omega) fun h' eb => ⟨rfl, I.turned (t' := s.toks) (fun b o hb e => eb b o hb e) f0 f1 f3 f4 f5⟩
  self := fun _ _ _ _ _ st h => wpAny_pyIter_listiter st h
theorem turn_tuple {P : Program} {w : World} {K : PySem.W.Frag} {tg : Expr} (a it : Addr) : Turn P w K tg (Itt K a) [it] it (fun i h => h.IsTupleIter it a i) where
  mem := by simp
  obj := fun i h st b hb => by
    have e : b = it := by simpa using hb
    subst e
    obtain ⟨o, e, c, d⟩ := st
    exact ⟨o, e, fun v z => by rw [d] at z; cases z⟩
  keep := fun i h h' st k => st.at fun o e => k it (by simp) o e
  item := by
    intro X hP hw hK hc i pins s σ H E I hf st hg
    subst hP hw hK
    obtain ⟨xs, x, hq, hx⟩ := hg
    obtain ⟨its, rv, p, hz⟩ := I.tuple hq
    obtain ⟨u, hu, ru⟩ := rv.get hx
    obtain ⟨f0, f1, f2, f3, f4, f5⟩ := hf it (by simp)
    refine wpAny_pyNext_tuple_item st (show s.heap.IsTuple a its.toArray from p) (x := u) (by simpa using hu) fun h' st' sb => ?_
    have I1 : Inv X pins σ H { s with heap := h' } := I.turned (t' := s.toks) (fun b o hb e => (sb.2 b hb).trans e) f0 f1 f3 f4 f5
    obtain ⟨o, e, c, d⟩ := id st'
    exact ⟨u, rfl, go_of (s := { s with heap := h' }) e c d (by decide) ⟨x, H, I1, ru, ⟨rfl, fun ys hy => by rw [I.tuple_inj hy hq]; exact hx⟩, st', fun b hb => (hf b hb).1⟩⟩
  done := by
    intro X hP hw hK hc i pins s σ H E I hf st hg
    subst hP hw hK
    obtain ⟨xs, hq, hx⟩ := hg
    obtain ⟨its, rv, p, hz⟩ := I.tuple hq
    obtain ⟨f0, f1, f2, f3, f4, f5⟩ := hf it (by simp)
    have hl := rv.length
    exact wpAny_pyNext_tuple_end (I.ok.hd hc) st (show s.heap.IsTuple a its.toArray from p) (by simp; omega) fun h' eb => ⟨rfl, I.turned (t' := s.toks) (fun b o hb e => eb b o hb e) f0 f1 f3 f4 f5⟩
  self := fun _ _ _ _ _ st h => wpAny_pyIter_tupleiter st h
theorem turn_range {P : Program} {w : World} {K : PySem.W.Frag} {tg : Expr} (it : Addr) (lo : Int) (n : Nat) : Turn P w K tg (Itr lo n) [it] it (fun i h => IsRangeIter h it (lo + (i : Nat) * 1) ((n : Int) - (i : Nat)) 1) where
  mem := by simp
  obj := fun i h st b hb => by
    have e : b = it := by simpa using hb
    subst e
    exact ⟨_, st, fun v z => by
      have z' : Data.fields _ = Data.cell v := z
      cases z'⟩
  keep := fun i h h' st k => k it (by simp) _ st
  item := by
    intro X hP hw hK hc i pins s σ H E I hf st hg
    subst hP hw hK
    obtain ⟨f0, f1, f2, f3, f4, f5⟩ := hf it (by simp)
    have W := Walks.range (prog := X.prog) (w := X.w) (I.ok.hd hc) it lo 1 n
    refine W.item i s _ _ hg st fun v h' tk hv st' kk => ?_
    obtain ⟨t, rfl⟩ := hv
    have I1 : Inv X pins σ H { s with heap := h', toks := tk } := I.turned (fun b o hb e => kk b o (by simpa using hb) e) f0 f1 f3 f4 f5
    refine ⟨_, rfl, go_of (s := { s with heap := h', toks := tk }) (n := "range_iterator") st' rfl rfl (by decide) ⟨.int (lo + i), H, I1, ⟨t, ?_⟩, ⟨rfl, rfl⟩, st', fun b hb => (hf b hb).1⟩⟩
    rw [Int.mul_one]
  done := by
    intro X hP hw hK hc i pins s σ H E I hf st hg
    subst hP hw hK
    obtain ⟨f0, f1, f2, f3, f4, f5⟩ := hf it (by simp)
    exact wpAny_pyNext_range_end (I.ok.hd hc) st (by have : n ≤ i := hg; omega) fun h' eb => ⟨rfl, I.turned (t' := s.toks) (fun b o hb e => eb b o hb e) f0 f1 f3 f4 f5⟩
  self := fun _ _ _ _ _ st h => wpAny_pyIter_rangeiter st h
end L2
namespace L2
open PySem PySem.Spec PyProof.Rows
section
variable {X : Cx} {tg : Expr}
def iList (K : PySem.W.Frag) (tl : TE) : TI := fun σ H R => tl σ H fun x H1 => ∃ a, x = .ref a ∧ (∃ xs, SqL K H1 a xs) ∧ R (Itl K a) H1
theorem pi_list {l : Expr} {tl : TE} (hl : PE X l tl) : PI X tg l (iList X.K tl) := by
  intro pins s σ H R I h
  refine thn (hl pins s σ H _ I h) fun v s1 ⟨x, H1, I1, r1, q1⟩ => ?_
  obtain ⟨a, e, ⟨xs, hq⟩, q⟩ := q1
  subst e
  cases r1
  obtain ⟨its, rv, p, hz⟩ := I1.list hq
  refine wpAny_pyIter_list p.isList ?_
  refine ⟨s1.heap.objs.size, [s1.heap.objs.size], _, _, H1, rfl, I1.kept (t' := s1.toks) fun b o e => Heap.get?_push_of_some _ e, turn_list a _, ⟨_, Heap.get?_push_size _ rfl, rfl, rfl⟩, fun b hb => ?_, q⟩
  have e : b = s1.heap.objs.size := by simpa using hb
  subst e
  exact I1.fpOk (Nat.le_refl _) (I1.hok.fresh (Nat.le_refl _))
/-- a range object just made, walked -/
theorem range_it {pins : List (Addr × Obj)} {σ : St} {H : Hp} {s : Shared} {R : It → Hp → Prop} {E : Value → Shared → Prop} {lo hi : Int} {t u v : Tok} {tk : Nat} (I : Inv X pins σ H s) (h1 : -(2 ^ 62) ≤ lo) (h2 : lo < 2 ^ 62) (h3 : -(2 ^ 62) ≤ hi) (h4 : hi < 2 ^ 62)
    (q : R (Itr lo (hi - lo).toNat) H) : wpAny (model X.prog X.w) X.A (pyIter (.ref s.heap.objs.size)) (PIE X pins σ tg R) E { s with heap := s.heap.push { cls := .type "range", data := .fields #[.int lo t, .int hi u, .int 1 v] }, toks := tk } := by
  refine wpAny_pyIter_range (IsRange.new ..) (small_one h1 h2 h3 h4) ?_
  have I1 : Inv X pins σ H { s with heap := s.heap.push { cls := .type "range", data := .fields #[.int lo t, .int hi u, .int 1 v] }, toks := tk } := I.kept fun b o e => Heap.get?_push_of_some _ e
  refine ⟨(s.heap.push { cls := .type "range", data := .fields #[.int lo t, .int hi u, .int 1 v] }).objs.size, [(s.heap.push { cls := .type "range", data := .fields #[.int lo t, .int hi u, .int 1 v] }).objs.size], _, _, H, rfl,
    I1.kept (t' := tk) fun b o e => Heap.get?_push_of_some _ e, turn_range _ lo (hi - lo).toNat, ?_, fun b hb => ?_, q⟩
  · have e1 : lo + ((0 : Nat) : Int) * 1 = lo := by simp
    have e2 : (((hi - lo).toNat : Nat) : Int) - ((0 : Nat) : Int) = Builtin.Range.rangeSize lo hi 1 := by rw [rangeSize_one]; split <;> omega
    show IsRangeIter _ _ (lo + ((0 : Nat) : Int) * 1) ((((hi - lo).toNat : Nat) : Int) - ((0 : Nat) : Int)) 1
    rw [e1, e2]
    exact Heap.get?_push_size _ rfl
  · have e : b = (s.heap.push { cls := .type "range", data := .fields #[.int lo t, .int hi u, .int 1 v] }).objs.size := by simpa using hb
    subst e
    exact I1.fpOk (Nat.le_refl _) (I1.hok.fresh (Nat.le_refl _))
def iRng1 (ta : TA) : TI := fun σ H R => ta σ H fun vs H1 => ∃ j : Int, vs = [.int j] ∧ -(2 ^ 62) ≤ j ∧ j < 2 ^ 62 ∧ R (Itr 0 j.toNat) H1
theorem pi_range1 {a : Expr} {ta : TA} {p pos : Pos} (hg : Gl X "range") (hm : X.mg "range" = none) (ha : PA X [a] ta) (hs : starEach [a] X.env = [(false, eval a X.env)] := by rfl) : PI X tg (.Call (.Name "range" p) [a] [] pos) (iRng1 ta) := by
  intro pins s σ H R I h
  refine Call_ (ld_blt I hg hm boot_range (PyProof.Rows.callWith_type1 (thn (ha pos pins s σ H _ I h) fun us s1 ⟨vs, H1, I1, r1, q1⟩ => ?_) hs rfl))
  obtain ⟨j, e, q1, q2, q⟩ := q1
  subst e
  cases r1 with
  | cons r rr =>
    cases rr
    obtain ⟨t, rfl⟩ := r
    exact call_range_1 (range_it I1 (by omega) (by omega) q1 q2 (by simpa using q))
/-- W: the invariant by the turn and a measure; N: what the body is to reach -/
def tFor (wi : TI) (g : TG) (tb : TS) : TS := fun D σ H => wi σ H fun J H1 => ∃ W : Nat → Nat → St → Hp → Prop, (∃ m, W 0 m σ H1) ∧ ∀ i m σ H, W i m σ H →
  (J.stop i H ∧ D.nx σ H) ∨ (J.go i H ∧ ∃ N : St → Hp → Prop, (∀ σ' H', N σ' H' → ∃ m', m' < m ∧ W (i + 1) m' σ' H') ∧ ∀ x H', J.yld i H x H' → g x σ H' fun σ2 H2 => tb { D with nx := N, ct := N, bk := D.nx } σ2 H2)
/-- the records at fp as they stand -/
def pinsAt (fp : List Addr) (h : Heap) : List (Addr × Obj) := fp.filterMap fun b => (h.get? b).map fun o => (b, o)
theorem mem_pinsAt {fp : List Addr} {h : Heap} {b : Addr} {o : Obj} (hb : b ∈ fp) (e : h.get? b = some o) : (b, o) ∈ pinsAt fp h := List.mem_filterMap.mpr ⟨b, hb, by rw [e]; rfl⟩
theorem of_pinsAt {fp : List Addr} {h : Heap} {p : Addr × Obj} (hp : p ∈ pinsAt fp h) : p.1 ∈ fp ∧ h.get? p.1 = some p.2 := by
  obtain ⟨b, hb, e⟩ := List.mem_filterMap.mp hp
  cases q : h.get? b with
  | none => rw [q] at e; cases e
  | some o =>
    rw [q] at e
    have e' : (b, o) = p := Option.some.inj e
    subst e'
    exact ⟨hb, q⟩
theorem Inv.pinned {pins : List (Addr × Obj)} {σ : St} {H : Hp} {s : Shared} {fp : List Addr} (I : Inv X pins σ H s) (hf : ∀ b ∈ fp, FpOk X pins H b) (ho : ∀ b ∈ fp, ∃ o, s.heap.get? b = some o ∧ ∀ v, o.data ≠ .cell v) : Inv X (pins ++ pinsAt fp s.heap) σ H s :=
  I.pins_of fun p hp => (List.mem_append.mp hp).elim (fun z => I.pin p (List.mem_append_right _ z)) fun z => by
    obtain ⟨hb, e⟩ := of_pinsAt z
    obtain ⟨f0, f1, f2, _⟩ := hf p.1 hb
    obtain ⟨o, e', d⟩ := ho p.1 hb
    rw [e] at e'; cases e'
    exact ⟨e, f0, f1, f2, d⟩
theorem Inv.unpinned {pins pl : List (Addr × Obj)} {σ : St} {H : Hp} {s : Shared} (I : Inv X (pins ++ pl) σ H s) : Inv X pins σ H s := I.pins_of fun p hp => I.pin p (List.mem_append_right _ (List.mem_append_left _ hp))
theorem ps_for {iter : Expr} {body : List Stmt} {wi : TI} {g : TG} {tb : TS} {pos : Pos} (hp : PassesOwn (model X.prog X.w) X.A X.env X.xe) (hc : X.calm = true) (hi : PI X tg iter wi) (hg : PG X tg g) (hb : PSs X body tb)
    (hs : ∀ x, foldedSetIterable iter X.env x = pure x := by intro _; rfl) : PS X (.For tg iter body [] pos) (tFor wi g tb) := by
  intro pins s σ H D I h
  refine wpAny_For (thn (hi pins s σ H _ I h) fun v s1 h1 => thn h1 fun itv s2 h2 => ?_) hs
  obtain ⟨it, fp, tn, J, H2, e, I2, T, st2, f2, W, ⟨m0, w0⟩, turn⟩ := h2
  subst e
  -- what stays true of the iterator's objects through the loop
  have stat : ∀ {H' : Hp}, (∀ b ∈ fp, H' b = none) → ∀ b ∈ fp, FpOk X pins H' b := fun hn b hb => ⟨hn b hb, (f2 b hb).2⟩
  refine codeAny_forLoop_any (fun n s' => ∃ i σ' H', Inv X pins σ' H' s' ∧ tn i s'.heap ∧ (∀ b ∈ fp, H' b = none) ∧ W i n σ' H') ?_ m0 ⟨0, σ, H2, I2, st2, fun b hb => (f2 b hb).1, w0⟩
  rintro n s3 ⟨i, σ3, H3, I3, st3, fr3, w3⟩
  rcases turn i n σ3 H3 w3 with ⟨stop, qn⟩ | ⟨go, N, hN, step⟩
  · refine wpAny_passesOwn hp (thn (T.done X rfl rfl rfl hc i pins s3 σ3 H3 X.xe I3 (stat fr3) st3 stop) fun r s4 ⟨hr, I4⟩ => ?_)
    subst hr
    exact wpAny_execs_nil ⟨σ3, H3, I4, qn⟩
  · refine wpAny_passesOwn hp (thn (T.item X rfl rfl rfl hc i pins s3 σ3 H3 X.xe I3 (stat fr3) st3 go) fun r s4 ⟨u, hr, h4⟩ => ?_)
    subst hr
    refine wpAny_passesOwn hp (thn h4 fun _ s5 ⟨x, H5, I5, r5, y5, st5, fr5⟩ => ?_)
    have I5' := I5.pinned (stat fr5) (T.obj _ _ st5)
    refine wpAny_passesOwn hp (thn (hg _ s5 σ3 H5 x u _ I5' r5 (step x H5 y5)) fun _ s6 ⟨σ6, H6, I6, q6⟩ => ?_)
    refine wpAny_passesOwn hp (thn (hb _ s6 σ6 H6 _ I6 q6) fun f s7 q7 => ?_)
    have again : ∀ {σ7 : St} {H7 : Hp}, Inv X (pins ++ pinsAt fp s5.heap) σ7 H7 s7 → N σ7 H7 → ∃ m, m < n ∧ ∃ i σ' H', Inv X pins σ' H' s7 ∧ tn i s7.heap ∧ (∀ b ∈ fp, H' b = none) ∧ W i m σ' H' := fun {σ7 H7} I7 n7 => by
      obtain ⟨m', hm, w7⟩ := hN σ7 H7 n7
      refine ⟨m', hm, i + 1, σ7, H7, I7.unpinned, T.keep _ _ _ st5 fun b hb o e => (I7.pin (b, o) (List.mem_append_right _ (List.mem_append_right _ (mem_pinsAt hb e)))).1, fun b hb => ?_, w7⟩
      obtain ⟨o, e, d⟩ := T.obj _ _ st5 b hb
      exact (I7.pin (b, o) (List.mem_append_right _ (List.mem_append_right _ (mem_pinsAt hb e)))).2.1
    cases f with
    | next => obtain ⟨σ7, H7, I7, n7⟩ := q7; exact again I7 n7
    | cont => obtain ⟨σ7, H7, I7, n7⟩ := q7; exact again I7 n7
    | brk => obtain ⟨σ7, H7, I7, q7⟩ := q7; exact ⟨σ7, H7, I7.unpinned, q7⟩
    | ret v => obtain ⟨x7, σ7, H7, I7, r7, q7⟩ := q7; exact ⟨x7, σ7, H7, I7.unpinned, r7, q7⟩
end
/-- over a list that the body leaves as it is -/
theorem for_list {K : PySem.W.Frag} {a : Addr} {xs : List V} {g : TG} {tb : TS} {D : Ends} {σ : St} {H : Hp} (Pv : Nat → St → Hp → Prop) (h0 : Pv 0 σ H) (hl : ∀ i σ H, i ≤ xs.length → Pv i σ H → SqL K H a xs)
    (hs : ∀ i x σ H, xs[i]? = some x → Pv i σ H → g x σ H fun σ2 H2 => tb { D with nx := Pv (i + 1), ct := Pv (i + 1), bk := D.nx } σ2 H2) (hd : ∀ σ H, Pv xs.length σ H → D.nx σ H) :
    ∃ W : Nat → Nat → St → Hp → Prop, (∃ m, W 0 m σ H) ∧ ∀ i m σ H, W i m σ H →
      ((Itl K a).stop i H ∧ D.nx σ H) ∨ ((Itl K a).go i H ∧ ∃ N : St → Hp → Prop, (∀ σ' H', N σ' H' → ∃ m', m' < m ∧ W (i + 1) m' σ' H') ∧ ∀ x H', (Itl K a).yld i H x H' → g x σ H' fun σ2 H2 => tb { D with nx := N, ct := N, bk := D.nx } σ2 H2) := by
  refine ⟨fun i m σ H => m = xs.length - i ∧ i ≤ xs.length ∧ Pv i σ H, ⟨xs.length, by simp, Nat.zero_le _, h0⟩, ?_⟩
  rintro i m σ H ⟨rfl, hi, p⟩
  have q := hl i σ H hi p
  by_cases hlt : i < xs.length
  · refine .inr ⟨⟨xs, xs[i], q, by simp [hlt]⟩, Pv (i + 1), fun σ' H' p' => ⟨xs.length - (i + 1), by omega, rfl, hlt, p'⟩, fun x H' y => ?_⟩
    obtain ⟨e, y⟩ := y
    subst e
    exact hs i x σ _ (y xs q) p
  · have e : i = xs.length := by omega
    subst e
    exact .inl ⟨⟨xs, q, Nat.le_refl _⟩, hd σ H p⟩
theorem for_range {lo : Int} {n : Nat} {g : TG} {tb : TS} {D : Ends} {σ : St} {H : Hp} (Pv : Nat → St → Hp → Prop) (h0 : Pv 0 σ H)
    (hs : ∀ i σ H, i < n → Pv i σ H → g (.int (lo + i)) σ H fun σ2 H2 => tb { D with nx := Pv (i + 1), ct := Pv (i + 1), bk := D.nx } σ2 H2) (hd : ∀ σ H, Pv n σ H → D.nx σ H) :
    ∃ W : Nat → Nat → St → Hp → Prop, (∃ m, W 0 m σ H) ∧ ∀ i m σ H, W i m σ H →
      ((Itr lo n).stop i H ∧ D.nx σ H) ∨ ((Itr lo n).go i H ∧ ∃ N : St → Hp → Prop, (∀ σ' H', N σ' H' → ∃ m', m' < m ∧ W (i + 1) m' σ' H') ∧ ∀ x H', (Itr lo n).yld i H x H' → g x σ H' fun σ2 H2 => tb { D with nx := N, ct := N, bk := D.nx } σ2 H2) := by
  refine ⟨fun i m σ H => m = n - i ∧ i ≤ n ∧ Pv i σ H, ⟨n, by simp, Nat.zero_le _, h0⟩, ?_⟩
  rintro i m σ H ⟨rfl, hi, p⟩
  by_cases hlt : i < n
  · refine .inr ⟨hlt, Pv (i + 1), fun σ' H' p' => ⟨n - (i + 1), by omega, rfl, hlt, p'⟩, fun x H' y => ?_⟩
    obtain ⟨e, y⟩ := y
    subst e y
    exact hs i σ _ hlt p
  · have e : i = n := by omega
    subst e
    exact .inl ⟨Nat.le_refl _, hd σ H p⟩
end L2
namespace L2
open PySem PySem.Spec PyProof.Rows
abbrev R2 := V → V → Hp → VK → Prop
/-- a two-place operation on values: f is binaryOp op, inplaceOp op or compareOp op -/
def OpR (X : Cx) (f : Value → Value → Sem Value) (r : R2) : Prop :=
  ∀ (pins : List (Addr × Obj)) (s : Shared) (σ : St) (H : Hp) (x y : V) (v u : Value) (Q : VK), Inv X pins σ H s → RelV x v → RelV y u → r x y H Q →
    wpAny (model X.prog X.w) X.A (f v u) (EP X pins σ Q) X.xe s
/-- a call of a value that is known (a builtin, a type) with values -/
def CallR (X : Cx) (f : Value) (r : List V → Hp → VK → Prop) : Prop :=
  ∀ (pins : List (Addr × Obj)) (s : Shared) (σ : St) (H : Hp) (xs : List V) (us : List Value) (Q : VK), Inv X pins σ H s → Vals xs us → r xs H Q →
    wpAny (model X.prog X.w) X.A (call f us) (EP X pins σ Q) X.xe s
def tOp (r : R2) (ta tb : TE) : TE := fun σ H Q => ta σ H fun x H1 => tb σ H1 fun y H2 => r x y H2 Q
/-- ints in, under C, and a value out -/
def rI (C : Int → Int → Prop) (g : Int → Int → V) : R2 := fun x y H Q => ∃ i j, x = .int i ∧ y = .int j ∧ C i j ∧ Q (g i j) H
def rI0 (g : Int → Int → V) : R2 := fun x y H Q => ∃ i j, x = .int i ∧ y = .int j ∧ Q (g i j) H
section
variable {X : Cx} {a b c : Expr} {ta tb tc : TE} {pos : Pos}
theorem binT (ha : PE X a ta) (hb : PE X b tb) {pins : List (Addr × Obj)} {s : Shared} {σ : St} {H : Hp} {R : V → V → Hp → Prop} (I : Inv X pins σ H s)
    (h : ta σ H fun x H1 => tb σ H1 fun y H2 => R x y H2) {Q : Value → Shared → Prop} {f : Value → Value → Sem Value}
    (hf : ∀ v u s2 x y H2, Inv X pins σ H2 s2 → RelV x v → RelV y u → R x y H2 → wpAny (model X.prog X.w) X.A (f v u) Q X.xe s2) :
    wpAny (model X.prog X.w) X.A (eval a X.env) (fun v s₁ => wpAny (model X.prog X.w) X.A (eval b X.env) (fun u s₂ => wpAny (model X.prog X.w) X.A (f v u) Q X.xe s₂) X.xe s₁) X.xe s := by
  refine thn (ha pins s σ H _ I h) fun v s1 ⟨x, H1, I1, r1, q1⟩ => ?_
  refine thn (hb pins s1 σ H1 _ I1 q1) fun u s2 ⟨y, H2, I2, r2, q2⟩ => ?_
  exact hf v u s2 x y H2 I2 r1 r2 q2
theorem pe_op {op : Operator} {r : R2} (ho : OpR X (binaryOp op) r) (ha : PE X a ta) (hb : PE X b tb) : PE X (.BinOp a op b pos) (tOp r ta tb) := by
  intro pins s σ H Q I h
  exact wpAny_BinOp (binT ha hb I h fun v u s2 x y H2 I2 rx ry q => ho pins s2 σ H2 x y v u Q I2 rx ry q)
theorem opI {f : Value → Value → Sem Value} {C : Int → Int → Prop} {g : Int → Int → Int}
    (rule : ∀ (i j : Int) (t u : Tok) (s : Shared) (Q : Value → Shared → Prop) (E : Value → Shared → Prop), C i j → Q (.int (g i j) s.toks) { s with toks := s.toks + 1 } → wpAny (model X.prog X.w) X.A (f (.int i t) (.int j u)) Q E s) :
    OpR X f (rI C fun i j => .int (g i j)) := by
  intro pins s σ H x y v u Q I rx ry h
  obtain ⟨i, j, rfl, rfl, hc, q⟩ := h
  obtain ⟨t, rfl⟩ := rx
  obtain ⟨t', rfl⟩ := ry
  exact rule i j t t' s _ _ hc ⟨.int (g i j), H, I.tok _, ⟨_, rfl⟩, q⟩
theorem opI0 {f : Value → Value → Sem Value} {g : Int → Int → Int}
    (rule : ∀ (i j : Int) (t u : Tok) (s : Shared) (Q : Value → Shared → Prop) (E : Value → Shared → Prop), Q (.int (g i j) s.toks) { s with toks := s.toks + 1 } → wpAny (model X.prog X.w) X.A (f (.int i t) (.int j u)) Q E s) :
    OpR X f (rI0 fun i j => .int (g i j)) := by
  intro pins s σ H x y v u Q I rx ry h
  obtain ⟨i, j, rfl, rfl, q⟩ := h
  obtain ⟨t, rfl⟩ := rx
  obtain ⟨t', rfl⟩ := ry
  exact rule i j t t' s _ _ ⟨.int (g i j), H, I.tok _, ⟨_, rfl⟩, q⟩
theorem opB0 {f : Value → Value → Sem Value} {g : Int → Int → Bool}
    (rule : ∀ (i j : Int) (t u : Tok) (s : Shared) (Q : Value → Shared → Prop) (E : Value → Shared → Prop), Q (.bool (g i j)) s → wpAny (model X.prog X.w) X.A (f (.int i t) (.int j u)) Q E s) :
    OpR X f (rI0 fun i j => .bl (g i j)) := by
  intro pins s σ H x y v u Q I rx ry h
  obtain ⟨i, j, rfl, rfl, q⟩ := h
  obtain ⟨t, rfl⟩ := rx
  obtain ⟨t', rfl⟩ := ry
  exact rule i j t t' s _ _ ⟨.bl (g i j), H, I, rfl, q⟩
def CPow (i j : Int) : Prop := 0 ≤ j ∧ j ≤ 1000000 ∧ i.natAbs < 2 ^ 64
def CMul (i j : Int) : Prop := (-(2 ^ 64) < i ∧ i < 2 ^ 64) ∨ (-(2 ^ 64) < j ∧ j < 2 ^ 64)
theorem CMul.ok {i j : Int} (h : CMul i j) : IntMulOk i j := by
  rcases h with ⟨h1, h2⟩ | ⟨h1, h2⟩
  · exact .of_left (intBits_le_64 h1 h2)
  · exact .of_right (intBits_le_64 h1 h2)
theorem op_add : OpR X (binaryOp .Add) (rI0 fun i j => .int (i + j)) := opI0 fun _ _ _ _ _ _ _ q => add_int q
theorem op_sub : OpR X (binaryOp .Sub) (rI0 fun i j => .int (i - j)) := opI0 fun _ _ _ _ _ _ _ q => sub_int q
theorem op_mul : OpR X (binaryOp .Mult) (rI CMul fun i j => .int (i * j)) := opI fun _ _ _ _ _ _ _ hc q => mul_int q hc.ok
/-- % by a positive divisor of any size -/
theorem op_mod : OpR X (binaryOp .Mod) (rI (fun _ j => 0 < j) fun i j => .int (i % j)) := opI fun i j _ _ _ _ _ hc q => by
  have h1 : (0 : Int) < j := hc
  exact mod_int' (by omega) (by rw [Int.fmod_eq_emod_of_nonneg i (by omega)]; exact q)
theorem op_pow : OpR X (binaryOp .Pow) (rI CPow fun i j => .int (i ^ j.toNat)) := opI fun _ _ _ _ _ _ _ hc q => pow_int_small hc.1 hc.2.1 hc.2.2 q
theorem op_xor : OpR X (binaryOp .BitXor) (rI0 fun i j => .int (Builtin.bitXor i j)) := opI0 fun _ _ _ _ _ _ _ q => xor_int q
end
/-- the scalars that == tells apart as data does -/
def scal : V → V → Bool
  | .non, .non => true | .non, .int _ => true | .int _, .non => true | .non, .bl _ => true | .bl _, .non => true | .non, .str _ => true | .str _, .non => true
  | .int _, .int _ => true | .bl _, .bl _ => true | .str _, .str _ => true | .byt _, .byt _ => true
  | .int _, .str _ => true | .str _, .int _ => true | .bl _, .str _ => true | .str _, .bl _ => true
  | _, _ => false
def rEq : R2 := fun x y H Q => scal x y = true ∧ Q (.bl (decide (x = y))) H
def rNe : R2 := fun x y H Q => scal x y = true ∧ Q (.bl (!decide (x = y))) H
theorem dec_int {i j : Int} : decide (V.int i = V.int j) = (i == j) := by
  rw [Bool.eq_iff_iff]
  simp
theorem dec_bl {i j : Bool} : decide (V.bl i = V.bl j) = (i == j) := by
  rw [Bool.eq_iff_iff]
  simp
theorem dec_str {i j : Str} : decide (V.str i = V.str j) = (i == j) := by
  rw [Bool.eq_iff_iff]
  simp
theorem dec_byt {i j : Array UInt8} : decide (V.byt i = V.byt j) = (i.toList == j.toList) := by
  rw [Bool.eq_iff_iff]
  cases i
  cases j
  simp
section
variable {X : Cx} {a b c : Expr} {ta tb tc : TE} {pos : Pos}
theorem fin_bl {pins : List (Addr × Obj)} {σ : St} {H : Hp} {s : Shared} {Q : VK} {k k' : Bool} (I : Inv X pins σ H s) (q : Q (.bl k) H) (e : k = k') : EP X pins σ Q (.bool k') s := by
  subst e
  exact ⟨.bl k, H, I, rfl, q⟩
theorem op_eq : OpR X (compareOp .Eq) rEq := by
  intro pins s σ H x y v u Q I rx ry h
  obtain ⟨hs, q⟩ := h
  cases x with
  | non =>
    cases rx
    cases y with
    | non => cases ry; exact PySem.EqNone.eq_none_none (fin_bl I q (by simp))
    | bl j => cases ry; exact PySem.EqNone.eq_none_bool (fin_bl I q (by simp))
    | int j => obtain ⟨t', rfl⟩ := ry; exact PySem.EqNone.eq_none_int (fin_bl I q (by simp))
    | str j => obtain ⟨t', rfl⟩ := ry; exact PySem.EqNone.eq_none_str (fin_bl I q (by simp))
    | _ => exact absurd (show false = true from hs) Bool.false_ne_true
  | bl i =>
    cases rx
    cases y with
    | non => cases ry; exact PySem.EqNone.eq_bool_none (fin_bl I q (by simp))
    | bl j => cases ry; exact eq_bool (fin_bl I q dec_bl)
    | str j => obtain ⟨t', rfl⟩ := ry; exact PySem.EqMixed.eq_bool_str (fin_bl I q (by simp))
    | _ => exact absurd (show false = true from hs) Bool.false_ne_true
  | int i =>
    obtain ⟨t, rfl⟩ := rx
    cases y with
    | non => cases ry; exact PySem.EqNone.eq_int_none (fin_bl I q (by simp))
    | int j => obtain ⟨t', rfl⟩ := ry; exact eq_int (fin_bl I q dec_int)
    | str j => obtain ⟨t', rfl⟩ := ry; exact PySem.EqMixed.eq_int_str (fin_bl I q (by simp))
    | _ => exact absurd (show false = true from hs) Bool.false_ne_true
  | str i =>
    obtain ⟨t, rfl⟩ := rx
    cases y with
    | non => cases ry; exact PySem.EqNone.eq_str_none (fin_bl I q (by simp))
    | bl j => cases ry; exact PySem.EqMixed.eq_str_bool (fin_bl I q (by simp))
    | int j => obtain ⟨t', rfl⟩ := ry; exact PySem.EqMixed.eq_str_int (fin_bl I q (by simp))
    | str j => obtain ⟨t', rfl⟩ := ry; exact eq_str (fin_bl I q dec_str)
    | _ => exact absurd (show false = true from hs) Bool.false_ne_true
  | byt i =>
    obtain ⟨t, rfl⟩ := rx
    cases y with
    | byt j => obtain ⟨t', rfl⟩ := ry; exact PySem.W.eq_bytes (fin_bl I q dec_byt)
    | _ => exact absurd (show false = true from hs) Bool.false_ne_true
  | _ => cases y <;> exact absurd (show false = true from hs) Bool.false_ne_true
theorem op_ne : OpR X (compareOp .NotEq) rNe := by
  intro pins s σ H x y v u Q I rx ry h
  obtain ⟨hs, q⟩ := h
  cases x with
  | non =>
    cases rx
    cases y with
    | non => cases ry; exact PySem.EqNone.ne_none_none (fin_bl I q (by simp))
    | bl j => cases ry; exact PySem.EqNone.ne_none_bool (fin_bl I q (by simp))
    | int j => obtain ⟨t', rfl⟩ := ry; exact PySem.EqNone.ne_none_int (fin_bl I q (by simp))
    | str j => obtain ⟨t', rfl⟩ := ry; exact PySem.EqNone.ne_none_str (fin_bl I q (by simp))
    | _ => exact absurd (show false = true from hs) Bool.false_ne_true
  | bl i =>
    cases rx
    cases y with
    | non => cases ry; exact PySem.EqNone.ne_bool_none (fin_bl I q (by simp))
    | bl j => cases ry; exact ne_bool (fin_bl I q (congrArg not dec_bl))
    | str j => obtain ⟨t', rfl⟩ := ry; exact PySem.EqMixed.ne_bool_str (fin_bl I q (by simp))
    | _ => exact absurd (show false = true from hs) Bool.false_ne_true
  | int i =>
    obtain ⟨t, rfl⟩ := rx
    cases y with
    | non => cases ry; exact PySem.EqNone.ne_int_none (fin_bl I q (by simp))
    | int j => obtain ⟨t', rfl⟩ := ry; exact ne_int (fin_bl I q (congrArg not dec_int))
    | str j => obtain ⟨t', rfl⟩ := ry; exact PySem.EqMixed.ne_int_str (fin_bl I q (by simp))
    | _ => exact absurd (show false = true from hs) Bool.false_ne_true
  | str i =>
    obtain ⟨t, rfl⟩ := rx
    cases y with
    | non => cases ry; exact PySem.EqNone.ne_str_none (fin_bl I q (by simp))
    | bl j => cases ry; exact PySem.EqMixed.ne_str_bool (fin_bl I q (by simp))
    | int j => obtain ⟨t', rfl⟩ := ry; exact PySem.EqMixed.ne_str_int (fin_bl I q (by simp))
    | str j => obtain ⟨t', rfl⟩ := ry; exact ne_str (fin_bl I q (congrArg not dec_str))
    | _ => exact absurd (show false = true from hs) Bool.false_ne_true
  | byt i =>
    obtain ⟨t, rfl⟩ := rx
    cases y with
    | byt j => obtain ⟨t', rfl⟩ := ry; exact PySem.W.ne_bytes (fin_bl I q (congrArg not dec_byt))
    | _ => exact absurd (show false = true from hs) Bool.false_ne_true
  | _ => cases y <;> exact absurd (show false = true from hs) Bool.false_ne_true
theorem op_lt : OpR X (compareOp .Lt) (rI0 fun i j => .bl (decide (i < j))) := opB0 fun _ _ _ _ _ _ _ q => lt_int q
theorem op_le : OpR X (compareOp .LtE) (rI0 fun i j => .bl (decide (i ≤ j))) := opB0 fun _ _ _ _ _ _ _ q => le_int q
theorem op_gt : OpR X (compareOp .Gt) (rI0 fun i j => .bl (decide (j < i))) := opB0 fun _ _ _ _ _ _ _ q => gt_int q
/-- the one string within the other -/
theorem op_in_str : OpR X (compareOp .In) (fun x y H Q => ∃ i j, x = .str i ∧ y = .str j ∧ Q (.bl (!(Builtin.Str.occurrences j i 0 j.length 1).isEmpty)) H) := by
  intro pins s σ H x y v u Q I rx ry h
  obtain ⟨i, j, rfl, rfl, q⟩ := h
  obtain ⟨t, rfl⟩ := rx
  obtain ⟨t', rfl⟩ := ry
  exact in_str (fin_bl I q rfl)
/-- two rules for one operation: by cases -/
theorem OpR.or {f : Value → Value → Sem Value} {r r' : R2} (h : OpR X f r) (h' : OpR X f r') : OpR X f (fun x y H Q => r x y H Q ∨ r' x y H Q) := by
  intro pins s σ H x y v u Q I rx ry q
  rcases q with q | q
  · exact h pins s σ H x y v u Q I rx ry q
  · exact h' pins s σ H x y v u Q I rx ry q
theorem nomark (b : Expr) {op : CmpOp} (h : op ≠ .In := by decide) (h2 : op ≠ .NotIn := by decide) : behindInMarks op b = false := by
  have e1 : (op == CmpOp.In) = false := by cases op <;> first | rfl | exact absurd rfl h
  have e2 : (op == CmpOp.NotIn) = false := by cases op <;> first | rfl | exact absurd rfl h2
  cases b <;> simp [behindInMarks, e1, e2]
/-- a comparison as a value; hm: nomark b, or (for in, not in) by with_unfolding_all rfl -/
theorem pe_cmpR {op : CmpOp} {r : R2} (ho : OpR X (compareOp op) r) (ha : PE X a ta) (hb : PE X b tb) (hm : behindInMarks op b = false) : PE X (.Compare a [op] [b] pos) (tOp r ta tb) := by
  intro pins s σ H Q I h
  exact wpAny_Compare1 (binT ha hb I h fun v u s2 x y H2 I2 rx ry q => ho pins s2 σ H2 x y v u Q I2 rx ry q) hm
/-- a reading of a value as a test -/
def tTest (t : TE) : TT := fun σ H Q => t σ H fun x H' => ∃ k, x = .bl k ∧ Q k H'
theorem pt_cmpR {op : CmpOp} {r : R2} (ho : OpR X (compareOp op) r) (ha : PE X a ta) (hb : PE X b tb) (hm : behindInMarks op b = false) : PT X (.Compare a [op] [b] pos) (tTest (tOp r ta tb)) := by
  intro pins s σ H Q I h
  refine wpAny_isTrue_Compare1 (thn (ha pins s σ H _ I h) fun v s1 ⟨x, H1, I1, r1, q1⟩ => thn (hb pins s1 σ H1 _ I1 q1) fun u s2 ⟨y, H2, I2, r2, q2⟩ =>
    thn (ho pins s2 σ H2 x y v u _ I2 r1 r2 q2) fun c s3 ⟨z, H3, I3, r3, k, e, q3⟩ => ?_) hm
  subst e
  cases r3
  exact wpAny_truthy_bool ⟨H3, I3, q3⟩
/-- a op1 b op2 c -/
def tChain (r r' : R2) (ta tb tc : TE) : TE := fun σ H Q => ta σ H fun x H1 => tb σ H1 fun y H2 => r x y H2 fun z H3 => ∃ k, z = .bl k ∧
  (if k = true then tc σ H3 fun w' H4 => r' y w' H4 Q else Q (.bl false) H3)
theorem pe_chain {op op' : CmpOp} {r r' : R2} (ho : OpR X (compareOp op) r) (ho' : OpR X (compareOp op') r') (ha : PE X a ta) (hb : PE X b tb) (hc : PE X c tc)
    (hm : lastMarks [op, op'] [b, c] = false := by with_unfolding_all rfl) : PE X (.Compare a [op, op'] [b, c] pos) (tChain r r' ta tb tc) := by
  intro pins s σ H Q I h
  refine Compare_chain (thn (ha pins s σ H _ I h) fun v s1 ⟨x, H1, I1, r1, q1⟩ => chain_link (thn (hb pins s1 σ H1 _ I1 q1) fun u s2 ⟨y, H2, I2, r2, q2⟩ =>
    thn (ho pins s2 σ H2 x y v u _ I2 r1 r2 q2) fun d s3 ⟨z, H3, I3, r3, k, e, q3⟩ => ?_)) hm
  subst e
  cases r3
  refine wpAny_truthy_bool ?_
  cases k with
  | false => exact ite_ff ⟨.bl false, H3, I3, rfl, q3⟩
  | true => exact ite_tt (chain_last (thn (hc pins s3 σ H3 _ I3 q3) fun w' s4 ⟨z', H4, I4, r4, q4⟩ => ho' pins s4 σ H4 y z' u w' Q I4 r2 r4 q4))
theorem line63 : (sizeLine : Nat) < 2 ^ 63 := by rw [sizeLine_eq]; decide
theorem op_add_str : OpR X (binaryOp .Add) (fun x y H Q => ∃ i j, x = .str i ∧ y = .str j ∧ i.length + j.length ≤ sizeLine ∧ Q (.str (i ++ j)) H) := by
  intro pins s σ H x y v u Q I rx ry h
  obtain ⟨i, j, rfl, rfl, hz, q⟩ := h
  obtain ⟨t, rfl⟩ := rx
  obtain ⟨t', rfl⟩ := ry
  exact add_str (fun t' tk => ⟨.str (i ++ j), H, I.tok _, ⟨_, rfl⟩, q⟩) hz
theorem vals1 {x : V} {us : List Value} (r : Vals [x] us) : ∃ u, us = [u] ∧ RelV x u := by
  cases r with
  | cons r1 r2 => cases r2; exact ⟨_, rfl, r1⟩
theorem vals2 {x y : V} {us : List Value} (r : Vals [x, y] us) : ∃ u w', us = [u, w'] ∧ RelV x u ∧ RelV y w' := by
  cases r with
  | cons r1 r2 =>
    cases r2 with
    | cons r3 r4 => cases r4; exact ⟨_, _, rfl, r1, r3⟩
theorem call_max2 (hc : X.calm = true) : CallR X (.builtin "max") (fun xs H Q => ∃ i j, xs = [.int i, .int j] ∧ Q (.int (if j > i then j else i)) H) := by
  intro pins s σ H xs us Q I r h
  obtain ⟨i, j, rfl, q⟩ := h
  obtain ⟨u, w', rfl, ⟨t, rfl⟩, ⟨t', rfl⟩⟩ := vals2 r
  refine max_two_ints (I.ok.hd hc) fun h' tk k => ⟨_, H, I.kept k, ?_, q⟩
  by_cases hj : j > i
  · rw [if_pos hj, if_pos hj]; exact ⟨_, rfl⟩
  · rw [if_neg hj, if_neg hj]; exact ⟨_, rfl⟩
theorem call_int1 : CallR X (.type "int") (fun xs H Q => (∃ i, xs = [.int i] ∧ Q (.int i) H) ∨ ∃ k, xs = [.bl k] ∧ Q (.int (if k then 1 else 0)) H) := by
  intro pins s σ H xs us Q I r h
  rcases h with ⟨i, rfl, q⟩ | ⟨k, rfl, q⟩
  · obtain ⟨u, rfl, t, rfl⟩ := vals1 r
    exact call_int_int ⟨.int i, H, I, ⟨_, rfl⟩, q⟩
  · obtain ⟨u, rfl, r1⟩ := vals1 r
    cases r1
    exact call_int_bool ⟨.int (if k then 1 else 0), H, I.tok _, ⟨_, rfl⟩, q⟩
end
end L2
namespace L2
open PySem PySem.Spec PyProof.Rows
structure ObjM (h : Heap) (x dx C : Addr) (mA : Str → Option Value) : Prop where
  obj : h.get? x = some (PySem.W.instObj C dx)
  ns : h.Ns1 dx mA
  ne : dx ≠ x
theorem lookIn_ns {h : Heap} {dx : Addr} {mA : Str → Option Value} (n : h.Ns1 dx mA) : ∃ od, h.get? dx = some od ∧ ∀ name, PySem.W.lookIn name od = some (mA name) := by
  obtain ⟨o, es, ep, ho, hd, hk, _, hm⟩ := n
  refine ⟨o, ho, fun name => ?_⟩
  have e := hm name
  unfold nsFind findBy at e
  rw [← Array.find?_toList] at e
  unfold PySem.W.lookIn
  rw [hd]
  dsimp only
  split
  · rename_i y q
    rw [q] at e
    exact congrArg some e
  · rename_i q
    rw [q] at e
    have a : es.toList.any (·.refKey) = false := by
      rw [List.any_eq_false]
      intro y hy
      obtain ⟨z, t, hkey⟩ := hk y (Array.mem_toList_iff.mp hy)
      simp [DictEntry.refKey, hkey]
    have a' : ¬ es.toList.any (·.refKey) = true := by rw [a]; exact Bool.false_ne_true
    rw [if_neg a']
    exact congrArg some e
theorem ObjM.look {h : Heap} {x dx C : Addr} {mA : Str → Option Value} (I : ObjM h x dx C mA) : ∃ od, PySem.W.InstAt h x (PySem.W.instObj C dx) C (some od) ∧ ∀ name, PySem.W.lookIn name od = some (mA name) :=
  let ⟨od, ho, hl⟩ := lookIn_ns I.ns
  ⟨od, ⟨I.obj, rfl, rfl, ho⟩, hl⟩
section
variable {prog : Program} {w : World} {A : Around} {E : Value → Shared → Prop} {s : Shared} {K : PySem.W.Frag} {x dx C f : Addr} {mA : Str → Option Value} {name : Str} {v : Value}
end
theorem RelO.some_of {v : V} {o : Option Value} (r : RelO (some v) o) : ∃ u, o = some u ∧ RelV v u := by
  cases o with
  | none => exact (show False from r).elim
  | some u => exact ⟨u, rfl, r⟩
section
variable {P : Program} {w : World} {H H' : Hp} {h h' : Heap} {a C dx : Addr} {fs fs' : List (Str × V)}
end
structure Cls (K : PySem.W.Frag) (C : Addr) : Prop where
  pg : PySem.W.plainGet K C Str.empty = true
  hd : PySem.W.hasDictIn K C = true
  po : PySem.W.plainOver K C = true
  sa : PySem.W.findIn K (.ref C) "__setattr__" = some (some (.builtin "object.__setattr__"))
theorem Cls.get {K : PySem.W.Frag} {C : Addr} (c : Cls K C) (f : Str) : PySem.W.plainGet K C f = true := c.pg
section
variable {X : Cx} {pins : List (Addr × Obj)} {σ : St} {H : Hp} {s : Shared} {a C dx : Addr} {fs : List (Str × V)} {f : Str} {v : V} {A : Around} {E : Value → Shared → Prop}
/-- a new instance, tracked, without attributes -/
theorem Inv.made (I : Inv X pins σ H s) : Inv X pins σ (upd (upd H s.heap.objs.size (.own (s.heap.objs.size + 1))) (s.heap.objs.size + 1) (.ins C s.heap.objs.size []))
    { s with heap := (s.heap.push PySem.W.emptyDict).push (PySem.W.instObj C s.heap.objs.size) } := by
  have e1 : (s.heap.push PySem.W.emptyDict).get? s.heap.objs.size = some PySem.W.emptyDict := Heap.get?_push_size s.heap rfl
  have e2 : ((s.heap.push PySem.W.emptyDict).push (PySem.W.instObj C s.heap.objs.size)).get? (s.heap.objs.size + 1) = some (PySem.W.instObj C s.heap.objs.size) := by
    have := Heap.get?_push_size (s.heap.push PySem.W.emptyDict) (o := PySem.W.instObj C s.heap.objs.size) rfl
    rwa [Heap.size_push] at this
  have e3 : (s.heap.push PySem.W.emptyDict).Ns s.heap.objs.size (fun _ => none) := ⟨PySem.W.emptyDict, #[], _, e1, rfl, (fun e he => absurd he (by simp)), fun _ => rfl⟩
  have I1 := I.laid (a := s.heap.objs.size) (o := .own (s.heap.objs.size + 1)) (h' := s.heap.push PySem.W.emptyDict) (t' := s.toks) (fun b u q => Heap.get?_push_of_some _ q) (Nat.le_refl _) ⟨_, e1⟩
  refine I1.laid (a := s.heap.objs.size + 1) (o := .ins C s.heap.objs.size []) (t' := s.toks) (fun b u q => Heap.get?_push_of_some _ q) (Nat.le_of_eq (Heap.size_push _ _)) ?_
  have ne : s.heap.objs.size ≠ s.heap.objs.size + 1 := Nat.ne_of_lt (Nat.lt_succ_self _)
  refine ⟨by rw [upd_ne ne, upd_same], Nat.zero_le _, ne, e2, fun _ => none, (Heap.Ns1.of_empty e3).at fun o q => Heap.get?_push_of_some _ q, fun _ => True.intro, fun y hy => absurd rfl hy⟩
end
section
variable {X : Cx} {o e value : Expr} {f : Str} {pos pos' tpos : Pos} {ta tv : TE}
end
section
variable {X : Cx} {pins : List (Addr × Obj)} {σ : St} {H : Hp} {s : Shared} {A : Around} {E : Value → Shared → Prop} {Q : Value → Shared → Prop} {c : Value} {b : Bool}
end
end L2
namespace L2
open PySem PySem.Spec PyProof.Rows
structure Room (k : Nat) (A : Around) : Prop where
  hd : A.handled = none
  dp : A.depth + 3 * k + 5 < recursionLimit
  un : A.units + 16 * k + 200 < cLine
  gd : A.guards = some []
theorem Room.mono {j k : Nat} {A : Around} (r : Room k A) (h : j ≤ k) : Room j A := ⟨r.hd, by have := r.dp; omega, by have := r.un; omega, r.gd⟩
theorem Room.deeper {k : Nat} {A : Around} (r : Room (k + 1) A) (env : Env) : Room k (A.deeper env) :=
  ⟨r.hd, by have := r.dp; show A.depth + 1 + 3 * k + 5 < _; omega, by have := r.un; show A.units + 3 + 16 * k + 200 < _; omega, r.gd⟩
theorem Room.in1 {k : Nat} {A : Around} (r : Room (k + 1) A) : Room k A.in1 :=
  ⟨r.hd, by have := r.dp; show A.depth + 3 * k + 5 < _; omega, by have := r.un; show A.units + 1 + 16 * k + 200 < _; omega, r.gd⟩
theorem Room.depth {k : Nat} {A : Around} (r : Room k A) : A.depth < recursionLimit := by have := r.dp; omega
theorem Room.units {k : Nat} {A : Around} (r : Room k A) : A.units + 64 < cLine := by have := r.un; omega
def tNil : TA := fun _ H Q => Q [] H
def tCons (ta : TE) (tr : TA) : TA := fun σ H Q => ta σ H fun x H1 => tr σ H1 fun xs H2 => Q (x :: xs) H2
section
variable {X : Cx} {e : Expr} {es : List Expr} {te : TE} {t : TA} {pos : Pos}
theorem pa_nil : PA X [] tNil := fun _ _ _ _ H Q I h => Calls.spliced_nil ⟨[], H, I, .nil, h⟩
theorem pa_cons (ha : PE X e te) (hr : PA X es t) (hs : starEach (e :: es) X.env = (false, eval e X.env) :: starEach es X.env := by rfl) : PA X (e :: es) (tCons te t) := by
  intro pos pins s σ H Q I h
  rw [hs]
  show wpAny _ _ (spliced ((false, eval e X.env) :: backTo pos (starEach es X.env))) _ _ s
  refine Calls.spliced_cons (thn (ha pins s σ H _ I h) fun u s1 ⟨x, H1, I1, r1, q1⟩ => ?_)
  exact thn (hr pos pins s1 σ H1 _ I1 q1) fun us s2 ⟨xs, H2, I2, r2, q2⟩ => ⟨x :: xs, H2, I2, .cons r1 r2, q2⟩
/-- a tuple, a list of written items -/
def tTup (t : TA) : TE := fun σ H Q => t σ H fun xs H1 => xs.length ≤ sizeLine ∧ ∀ p, H1 p = none → Q (.ref p) (upd H1 p (.tup xs))
def tLst (t : TA) : TE := fun σ H Q => t σ H fun xs H1 => xs.length ≤ sizeLine ∧ ∀ p, H1 p = none → Q (.ref p) (upd H1 p (.lst xs))
theorem pe_tup {x1} (h : PA X es t) : PE X (.Tuple es x1 pos) (tTup t) := by
  intro pins s σ H Q I hq
  refine wpAny_Tuple_spliced (thn (h pos pins s σ H _ I hq) fun us s1 ⟨xs, H1, I1, r, z, q⟩ => ⟨by rw [← r.length]; exact z, ?_⟩)
  have hf : H1 s1.heap.objs.size = none := I1.hok.fresh (Nat.le_refl _)
  refine ⟨.ref s1.heap.objs.size, upd H1 s1.heap.objs.size (.tup xs), I1.laid (t' := s1.toks) (fun b u e => Heap.get?_push_of_some _ e) (Nat.le_refl _) ?_, rfl, q _ hf⟩
  exact ⟨z, us, r, ⟨_, Heap.get?_push_size _ rfl, ⟨rfl, _, rfl⟩, rfl⟩⟩
theorem pe_lst (h : PA X es t) : PE X (.List es pos) (tLst t) := by
  intro pins s σ H Q I hq
  refine wpAny_List_spliced (thn (h pos pins s σ H _ I hq) fun us s1 ⟨xs, H1, I1, r, z, q⟩ => ⟨by rw [← r.length]; exact z, ?_⟩)
  have hf : H1 s1.heap.objs.size = none := I1.hok.fresh (Nat.le_refl _)
  refine ⟨.ref s1.heap.objs.size, upd H1 s1.heap.objs.size (.lst xs), I1.laid (t' := s1.toks) (fun b u e => Heap.get?_push_of_some _ e) (Nat.le_refl _) ?_, rfl, q _ hf⟩
  exact ⟨z, us, 0, r, Heap.get?_push_size _ rfl⟩
end
/-- a def's promise: the bound arguments in the parameters' order, the heap, the wanted end, the wanted exception -/
abbrev Sp := List V → Hp → VK → XK → Prop
/-- how an exception lies behind a call (file 08 gives it): the callers' frames, abstract heap and state ahead of the call, the wish, the exception, the state -/
abbrev CXT := List Env → Hp → Shared → XK → Value → Shared → Prop
/-- the state at a call -/
structure Env0 (P : Program) (w : World) (K : PySem.W.Frag) (mg : Str → Option Value) (base : Heap) (A : Around) (outer : List Env) (s : Shared) (H : Hp) : Prop where
  frames : A.frames = some outer
  mod : Mod K mg base
  bs : ∀ b o, base.get? b = some o → s.heap.get? b = some o ∧ H b = none
  bsz : base.objs.size ≤ s.heap.objs.size
  funs : s.heap.FunFrames base outer
  frf : ∀ b ∈ frs outer, H b = none
  hok : HOk P w H s.heap
  bare : AllBare s.gens
/-- a call's end -/
def CE (outer : List Env) (P : Program) (w : World) (H : Hp) (s : Shared) (Q : VK) (u : Value) (s' : Shared) : Prop :=
  ∃ v H', s'.os = s.os ∧ AllBare s'.gens ∧ Un (frs outer) [] H H' s.heap s'.heap ∧ HOk P w H' s'.heap ∧ RelV v u ∧ Q v H'
def CR (CX : CXT) (outer : List Env) (P : Program) (w : World) (H : Hp) (s : Shared) (Q : VK) (E : XK) (r : Result) (s' : Shared) : Prop :=
  match r with
  | .ok (.ret u) => CE outer P w H s Q u s'
  | .ok _ => False
  | .error e => CX outer H s E e s'
structure FnOk (P : Program) (w : World) (K : PySem.W.Frag) (mg : Str → Option Value) (base : Heap) (CX : CXT) (k : Nat) (f : Addr) (fd : FuncData) (ps : List Str) (sp : Sp) : Prop where
  len : ∀ vs H Q E, sp vs H Q E → vs.length = ps.length
  run : ∀ (A : Around) (outer : List Env) (s : Shared) (H : Hp) (args : Args) (us : List Value) (vs : List V) (Q : VK) (E : XK), Room k A → Env0 P w K mg base A outer s H → BindsTo s fd args (ps.zip us) → Vals vs us → sp vs H Q E →
    codeAny (model P w) A (.call (.ref f) args) (CR CX outer P w H s Q E) s
theorem FnOk.mono {P : Program} {w : World} {K : PySem.W.Frag} {mg : Str → Option Value} {base : Heap} {CX : CXT} {j k : Nat} {f : Addr} {fd : FuncData} {ps : List Str} {sp : Sp} (F : FnOk P w K mg base CX j f fd ps sp) (h : j ≤ k) :
    FnOk P w K mg base CX k f fd ps sp := ⟨F.len, fun A outer s H args us vs Q E hr => F.run A outer s H args us vs Q E (hr.mono h)⟩
/-- a weaker promise -/
theorem FnOk.imp {P : Program} {w : World} {K : PySem.W.Frag} {mg : Str → Option Value} {base : Heap} {CX : CXT} {k : Nat} {f : Addr} {fd : FuncData} {ps : List Str} {sp sp' : Sp} (F : FnOk P w K mg base CX k f fd ps sp)
    (h : ∀ vs H Q E, sp' vs H Q E → sp vs H Q E) : FnOk P w K mg base CX k f fd ps sp' :=
  ⟨fun vs H Q E q => F.len vs H Q E (h _ _ _ _ q), fun A outer s H args us vs Q E hr he hb hv hs => F.run A outer s H args us vs Q E hr he hb hv (h _ _ _ _ hs)⟩
theorem Env0.in1 {P : Program} {w : World} {K : PySem.W.Frag} {mg : Str → Option Value} {base : Heap} {A : Around} {outer : List Env} {s : Shared} {H : Hp} (e : Env0 P w K mg base A outer s H) :
    Env0 P w K mg base A.in1 outer s H := ⟨e.frames, e.mod, e.bs, e.bsz, e.funs, e.frf, e.hok, e.bare⟩
section
variable {X : Cx} {pins : List (Addr × Obj)} {σ : St} {H : Hp} {s s' : Shared}
/-- from a body: what a callee wants -/
theorem Inv.env0 (I : Inv X pins σ H s) : Env0 X.prog X.w X.K X.mg X.base X.A X.stack s H :=
  ⟨I.ok.frames, I.ok.mod, I.bs, Nat.le_trans I.ok.bsz I.sz, I.stack, I.stkFree, I.hok, I.bare⟩
/-- behind a call -/
theorem Inv.after {Q : VK} {u : Value} (I : Inv X pins σ H s) (h : CE X.stack X.prog X.w H s Q u s') : EP X pins σ Q u s' := by
  obtain ⟨v, H', os, bare, un, hok, r, q⟩ := h
  obtain ⟨hh, g, d, t, os'⟩ := s'
  obtain rfl : os' = s.os := os
  exact ⟨v, H', I.call (h' := hh) (g' := g) (d' := d) (t' := t) (ch := []) un hok bare (fun b z => absurd z (by simp)), r, q⟩
end
/-- f(..): the written arguments, then the defaults dvs; E: what is wanted of an exception -/
def tCall (sp : Sp) (dvs : List V) (E : XK) (t : TA) : TE := fun σ H Q => t σ H fun vs H1 => sp (vs ++ dvs) H1 Q E
/-- how the parameters are bound: us the positional arguments, kw the keywords' values by name, ds the defaults that fill up -/
def Binds (K : PySem.W.Frag) (fd : FuncData) (ps : List Str) (ds : List Value) : Prop :=
  ∀ (s : Shared) (us : List Value), K.In s.heap → (us ++ ds).length = ps.length → BindsTo s fd ⟨us, []⟩ (ps.zip (us ++ ds))
/-- every parameter is given -/
theorem Binds.all {K : PySem.W.Frag} {fd : FuncData} {ps : List Str} (h : ∀ us : List Value, us.length = ps.length → bindArgs fd ⟨us, []⟩ = pure (ps.zip us)) : Binds K fd ps [] := fun s us _ hl => by
  rw [List.append_nil] at hl ⊢
  exact .of_eq (h us hl)
/-- an exception of a callee reaches what this body wants of exceptions -/
def Passes (CX : CXT) (X : Cx) (E : XK) : Prop := ∀ (pins : List (Addr × Obj)) (σ : St) (H : Hp) (s : Shared) (e : Value) (s' : Shared), Inv X pins σ H s → CX X.stack H s E e s' → X.xe e s'
section
variable {X : Cx} {CX : CXT} {k : Nat} {f C : Addr} {fd : FuncData} {ps : List Str} {sp : Sp} {dvs : List V} {ds : List Value} {E : XK} {x m : Str} {p pos apos : Pos} {e o : Expr} {es : List Expr} {ta : TE} {t : TA}
/-- the callee runs -/
theorem run_fn {pins : List (Addr × Obj)} {σ : St} {H : Hp} {s : Shared} {Q : VK} {us : List Value} {vs : List V} (F : FnOk X.prog X.w X.K X.mg X.base CX k f fd ps sp) (hr : Room k X.A) (hb : Binds X.K fd ps ds) (hd : Vals dvs ds) (hx : Passes CX X E)
    (I : Inv X pins σ H s) (r : Vals vs us) (h : sp (vs ++ dvs) H Q E) : wpAny (model X.prog X.w) X.A (call (.ref f) us) (EP X pins σ Q) X.xe s := by
  have r2 : Vals (vs ++ dvs) (us ++ ds) := r.append hd
  have hl : (us ++ ds).length = ps.length := by rw [← r2.length]; exact F.len _ _ _ _ h
  refine wpAny_call (codeAny_mono (F.run X.A X.stack s H ⟨us, []⟩ (us ++ ds) (vs ++ dvs) Q E hr I.env0 (hb s us I.kIn hl) r2 h) fun r s' hq => ?_)
  cases r with
  | error e => exact hx pins σ H s e s' I hq
  | ok fl =>
    cases fl with
    | ret u => exact I.after hq
    | next => exact False.elim hq
    | brk => exact False.elim hq
    | cont => exact False.elim hq
theorem pe_call (F : FnOk X.prog X.w X.K X.mg X.base CX k f fd ps sp) (hr : Room k X.A) (hg : Gl X x) (hm : X.mg x = some (.ref f)) (hk : PySem.W.keepIn X.K (.ref f) = true) (hb : Binds X.K fd ps ds) (hd : Vals dvs ds) (hx : Passes CX X E)
    (ha : PA X (e :: es) t) (hdb : (x == ("__debug__" : Str)) = false := by decide) (he : starEach (e :: es) X.env = (false, eval e X.env) :: starEach es X.env := by rfl) (hpl : (backTo pos (starEach es X.env)).any (·.1) = false := by rfl) :
    PE X (.Call (.Name x p) (e :: es) [] pos) (tCall sp dvs E t) := by
  intro pins s σ H Q I h
  refine wpAny_Call_Name_kw (ld_glob I hg hm ?_ hdb)
  refine PySem.W.callWith_K (h₀ := X.base) I.ok.mod.kin hk (thn (ha pos pins s σ H _ I h) fun us s1 ⟨vs, H1, I1, r, q⟩ => ⟨I1.kIn, ?_⟩) he hpl
  exact run_fn F hr hb hd hx I1 r q
end
section
variable {X : Cx} {CX : CXT} {k : Nat} {f C : Addr} {fd : FuncData} {ps ks : List Str} {sp : Sp} {E : XK} {x m : Str} {p pos apos kpos : Pos} {e o : Expr} {es : List Expr} {kws : List Keyword} {te ta : TE} {t tk : TA} {nm : Option Str}
variable {g : List Value → List Value → List Value} {gV : List V → List V → List V}
end
/-- names: the parameters first -/
structure FnScope (N P : List Str) (sc : Scope) : Prop where
  kind : sc.kind = .function
  co : sc.isCoroutine = false
  gen : sc.isGenerator = false
  nd : N.Nodup
  pre : N.take P.length = P
  par : ∀ x ∈ P, sc.names.lookup x = some .local ∨ sc.names.lookup x = some .cell
  nofree : ∀ y ∈ sc.names, y.2 ≠ .free
theorem bindL_out {kindOf : Str → Option NameKind} {x : Str} : ∀ {binds : List (Str × Value)} {m : Str → Option Value}, (∀ v, (x, v) ∉ binds) → bindL kindOf binds m x = m x
  | [], _, _ => rfl
  | (n, v) :: r, m, h => by
    unfold bindL
    rw [bindL_out fun w hw => h w (List.mem_cons_of_mem _ hw)]
    split
    · have : x ≠ n := by rintro rfl; exact h v List.mem_cons_self
      simp [this]
    · rfl
theorem bindC_out {kindOf : Str → Option NameKind} {x : Str} : ∀ {binds : List (Str × Value)} {m : Str → Option Value}, (∀ v, (x, v) ∉ binds) → bindC kindOf binds m x = m x
  | [], _, _ => rfl
  | (n, v) :: r, m, h => by
    unfold bindC
    rw [bindC_out fun w hw => h w (List.mem_cons_of_mem _ hw)]
    split
    · rfl
    · have : x ≠ n := by rintro rfl; exact h v List.mem_cons_self
      simp [this]
theorem bindL_get {kindOf : Str → Option NameKind} {x : Str} {v : Value} : ∀ {P : List Str} {vs : List Value} {i : Nat} {m : Str → Option Value}, P.Nodup → P[i]? = some x → vs[i]? = some v → kindOf x = some .local →
    bindL kindOf (P.zip vs) m x = some v
  | [], _, _, _, _, h, _, _ => by simp at h
  | _ :: _, [], _, _, _, _, h, _ => by simp at h
  | p :: P, w :: vs, 0, m, nd, h1, h2, hk => by
    simp at h1 h2; subst h1; subst h2
    show bindL kindOf ((p, w) :: P.zip vs) m p = _
    unfold bindL
    rw [bindL_out fun v hv => (List.nodup_cons.mp nd).1 (List.of_mem_zip hv).1, if_pos hk]
    simp
  | p :: P, w :: vs, i + 1, m, nd, h1, h2, hk => by
    show bindL kindOf ((p, w) :: P.zip vs) m x = _
    unfold bindL
    exact bindL_get (i := i) (List.nodup_cons.mp nd).2 (by simpa using h1) (by simpa using h2) hk
theorem bindC_get {kindOf : Str → Option NameKind} {x : Str} {v : Value} : ∀ {P : List Str} {vs : List Value} {i : Nat} {m : Str → Option Value}, P.Nodup → P[i]? = some x → vs[i]? = some v → kindOf x ≠ some .local →
    bindC kindOf (P.zip vs) m x = some v
  | [], _, _, _, _, h, _, _ => by simp at h
  | _ :: _, [], _, _, _, _, h, _ => by simp at h
  | p :: P, w :: vs, 0, m, nd, h1, h2, hk => by
    simp at h1 h2; subst h1; subst h2
    show bindC kindOf ((p, w) :: P.zip vs) m p = _
    unfold bindC
    rw [bindC_out fun v hv => (List.nodup_cons.mp nd).1 (List.of_mem_zip hv).1, if_neg hk]
    simp
  | p :: P, w :: vs, i + 1, m, nd, h1, h2, hk => by
    show bindC kindOf ((p, w) :: P.zip vs) m x = _
    unfold bindC
    exact bindC_get (i := i) (List.nodup_cons.mp nd).2 (by simpa using h1) (by simpa using h2) hk
/-- the names' values at the entry -/
def start (N : List Str) (vs : List V) : St := vs.map some ++ List.replicate (N.length - vs.length) none
/-- the context of a def's body, at its entry; an exception leaves the frame, then lies as CX says -/
def cxOf (CX : CXT) (P : Program) (w : World) (K : PySem.W.Frag) (mg : Str → Option Value) (base : Heap) (N : List Str) (qual : Str) (scope : Scope) (f : Addr) (cd : Value) (A : Around) (outer : List Env) (s : Shared) (H : Hp) (E : XK) : Cx where
  prog := P
  w := w
  K := K
  mg := mg
  base := base
  A := A.deeper (envOfC qual scope s.heap.objs.size f cd)
  N := N
  s_0 := s
  H_0 := H
  env := envOfC qual scope s.heap.objs.size f cd
  outer := outer
  stack := envOfC qual scope s.heap.objs.size f cd :: outer
  ex := []
  calm := true
  fn := fun _ => true
  pn := []
  xe := fun e s' => wpAny (model P w) (A.deeper (envOfC qual scope s.heap.objs.size f cd)) (leaving (envOfC qual scope s.heap.objs.size f cd) e) (fun _ s'' => CX outer H s E e s'') (fun e' s'' => CX outer H s E e' s'') s'
theorem cell_has {sc : Scope} {n : Nat} {x : Str} (h : sc.names.lookup x = some .cell) : ∃ c, (cellsFrom n sc.names []).lookup x = some c := by
  have q := PySem.W.cellsFrom_some sc.names n [] (.inl h)
  exact Option.isSome_iff_exists.mp q
theorem inv_start {CX : CXT} {P : Program} {w : World} {K : PySem.W.Frag} {mg : Str → Option Value} {base : Heap} {N ps : List Str} {qual : Str} {scope : Scope} {f : Addr} {cd : Value} {A : Around} {outer : List Env} {s s1 : Shared} {H : Hp} {E : XK} {us : List Value} {vs : List V}
    (S : FnScope N ps scope) (hd : A.handled = none) (e0 : Env0 P w K mg base A outer s H) (hl : vs.length = ps.length) (r : Vals vs us)
    (x : InCallC s s.heap.objs.size (bindL (envOfC qual scope s.heap.objs.size f cd).kindOf (ps.zip us) fun _ => none) (cellsFrom (s.heap.objs.size + 1) scope.names []) (bindC (envOfC qual scope s.heap.objs.size f cd).kindOf (ps.zip us) fun _ => none) s1) :
    Inv (cxOf CX P w K mg base N qual scope f cd A outer s H E) [] (start N vs) H s1 := by
  have hpl : ps.length ≤ N.length := by have := congrArg List.length S.pre; rw [List.length_take] at this; omega
  obtain ⟨h1, tk, rfl, hk⟩ := x.done
  have noA : ∀ b : Addr, b ∉ (cxOf CX P w K mg base N qual scope f cd A outer s H E).ex := fun b z => absurd (show b ∈ ([] : List Addr) from z) (by simp)
  refine ⟨⟨e0.mod, S.kind, rfl, rfl, Nat.le_refl _, fun y z c h1 h2 => ?_, fun y hy => ?_, fun y c _ h => ?_, fun _ => hd, Around.frames_deeper e0.frames, .inr ⟨rfl, rfl⟩, fun b z => absurd z (noA b), e0.bs, e0.bsz, fun b _ _ => noA b, fun b z => absurd z (noA b), e0.funs, e0.frf⟩,
    rfl, e0.bare, Un.kept hk, ⟨_, x.toInCall.ns, fun i y v h1 h2 h3 => ?_⟩, fun y c h => ⟨_, x.cell y c h⟩, e0.hok.fresh (Nat.le_refl _), fun y c h => ?_, fun p hp => absurd (show p ∈ ([] : List (Addr × Obj)) from hp) (by simp), e0.hok.kept hk, ?_⟩
  · exact name_of_addr x.apart (PySem.mem_of_lookup h1) (PySem.mem_of_lookup h2)
  · have hy : scope.names.lookup y = some .cell ∨ scope.names.lookup y = some .free := hy
    rcases hy with hy | hy
    · exact cell_has hy
    · exact absurd rfl (S.nofree _ (PySem.mem_of_lookup hy))
  · exact Nat.le_of_lt (x.above y c (PySem.mem_of_lookup h))
  · have hi : i < vs.length := by
      unfold start at h2
      by_cases hi : i < vs.length
      · exact hi
      · rw [List.getElem?_append_right (by simpa using hi)] at h2
        rw [List.getElem?_replicate] at h2
        split at h2 <;> cases h2
    have ha : vs[i]? = some v := by
      unfold start at h2
      rw [List.getElem?_append_left (by simpa using hi), List.getElem?_map] at h2
      cases e : vs[i]? with
      | none => rw [e] at h2; cases h2
      | some a => rw [e] at h2; cases h2; rfl
    obtain ⟨u, hu, rv⟩ := r.get ha
    have hp : ps[i]? = some y := by
      rw [← S.pre, List.getElem?_take_of_lt (by omega)]; exact h1
    have ndP : ps.Nodup := by rw [← S.pre]; exact S.nd.sublist (List.take_sublist _ _)
    refine ⟨u, rv, ?_⟩
    rcases S.par y (List.mem_of_getElem? hp) with k | k
    · exact .inl ⟨k, bindL_get ndP hp hu k⟩
    · obtain ⟨c, e⟩ := cell_has (n := s.heap.objs.size + 1) k
      refine .inr ⟨.inl k, c, e, ?_⟩
      have q := x.cell y c e
      rw [bindC_get ndP hp hu (by show scope.names.lookup y ≠ _; rw [k]; decide)] at q
      exact q
  · exact e0.hok.fresh (Nat.le_of_lt (x.above y c (PySem.mem_of_lookup h)))
  · unfold start
    show _ = N.length
    rw [List.length_append, List.length_map, List.length_replicate]
    omega
/-- THE RULE: a def (or a method) of the text, by its body. The body's reading t is chosen for each entry; it is run at the parameters' values -/
theorem fn_of {CX : CXT} {P : Program} {w : World} {K : PySem.W.Frag} {mg : Str → Option Value} {base : Heap} {k : Nat} {f : Addr} {name qual : Str} {params : Arguments} {body : List Stmt} {scope : Scope} {dV kV doc pm cdv ct oc : Value} {an od : Option Addr}
    {osl : Array (Option Value)} {N ps : List Str} {sp : Sp} (lk : K.lookup f = some ⟨oc, od, .func (PySem.W.fnOf name qual params body scope dV kV doc pm an cdv ct), osl⟩) (hcd : PySem.W.codeIn K cdv qual = true) (S : FnScope N ps scope)
    (len : ∀ vs H Q E, sp vs H Q E → vs.length = ps.length)
    (hbody : ∀ (A : Around) (outer : List Env) (s : Shared) (H : Hp) (vs : List V) (Q : VK) (E : XK), Room k (A.deeper (envOfC qual scope s.heap.objs.size f cdv)) → sp vs H Q E →
      ∃ t, PSs (cxOf CX P w K mg base N qual scope f cdv A outer s H E) body t ∧ t { nx := fun _ H' => Q .non H', rt := Q } (start N vs) H) :
    FnOk P w K mg base CX (k + 1) f (PySem.W.fnOf name qual params body scope dV kV doc pm an cdv ct) ps sp := by
  refine ⟨len, fun A outer s H args us vs Q E hr e0 hb r hsp => ?_⟩
  have hl := len _ _ _ _ hsp
  have KX : K.In s.heap := e0.mod.kin.keeps fun b o e => (e0.bs b o e).1
  have lim : s.heap.NoLimit := e0.mod.nolimit.keeps fun b o e => (e0.bs b o e).1
  have hkind : ∀ y ∈ ps.zip us, scope.names.lookup y.1 = some .local ∨ (scope.names.lookup y.1 = some .cell ∧ ((cellsFrom (s.heap.objs.size + 1) scope.names []).lookup y.1).isSome = true) := fun ⟨n, v⟩ hy => by
    rcases S.par n (List.of_mem_zip hy).1 with q | q
    · exact .inl q
    · exact .inr ⟨q, PySem.W.cellsFrom_some _ _ _ (.inl q)⟩
  refine codeAny_call_function hr.depth (KX _ _ lk) rfl S.co S.gen rfl (PySem.W.codeRec_of KX hcd) (hb _ _ _ _ ?_)
  refine wpAny_newFunctionEnv_cells S.kind hkind fun env he s1 x => ?_
  subst he
  refine ⟨lim.keeps x.toInCall.keep, codeAny_func ?_⟩
  obtain ⟨t, ht, hq⟩ := hbody A outer s H vs Q E (hr.deeper _) hsp
  have I : Inv (cxOf CX P w K mg base N qual scope f cdv A outer s H E) [] (start N vs) H s1 := inv_start S hr.hd e0 hl r x
  refine wpAny_mono (ht [] s1 (start N vs) H _ I hq) (fun fl s' hs => ?_) fun e s' hs => hs
  have fin : ∀ {σ' : St} {H' : Hp} {v : V} {u : Value}, Inv (cxOf CX P w K mg base N qual scope f cdv A outer s H E) [] σ' H' s' → RelV v u → Q v H' → CE outer P w H s Q u s' :=
    fun {σ' H' v u} J rv q => ⟨v, H', J.os, J.bare, J.base, J.hok, rv, q⟩
  cases fl with
  | ret u =>
    obtain ⟨v, σ', H', J, rv, q⟩ := hs
    exact fin J rv q
  | next =>
    obtain ⟨σ', H', J, q⟩ := hs
    exact fin (v := V.non) (u := Value.none) J rfl q
  | brk =>
    obtain ⟨_, _, _, q⟩ := hs
    exact False.elim q
  | cont =>
    obtain ⟨_, _, _, q⟩ := hs
    exact False.elim q
end L2
namespace L2
open PySem PySem.Spec PyProof.Rows
section
variable {X : Cx} {x : Str} {p pos : Pos} {e : Expr} {es : List Expr} {t : TA} {id T : String} {r : List V → Hp → VK → Prop}
def tCB (r : List V → Hp → VK → Prop) (t : TA) : TE := fun σ H Q => t σ H fun vs H1 => r vs H1 Q
/-- f(e, ..), f a built-in function -/
theorem pe_callB (hc : CallR X (.builtin id) r) (hg : Gl X x) (hm : X.mg x = none) (hv : bootBuiltins x = some (.builtin id)) (ha : PA X (e :: es) t) (hn : x ≠ "__name__" := by decide) (hdb : (x == ("__debug__" : Str)) = false := by decide)
    (he : starEach (e :: es) X.env = (false, eval e X.env) :: starEach es X.env := by rfl) (hpl : (backTo pos (starEach es X.env)).any (·.1) = false := by rfl) : PE X (.Call (.Name x p) (e :: es) [] pos) (tCB r t) := by
  intro pins s σ H Q I h
  refine wpAny_Call_Name_kw (ld_blt I hg hm hv ?_ hn hdb)
  exact PyProof.Rows.callWith_builtin1 (thn (ha pos pins s σ H _ I h) fun us s1 ⟨vs, H1, I1, r1, q1⟩ => hc pins s1 σ H1 vs us Q I1 r1 q1) he hpl
/-- T(e, ..), T a built-in type -/
theorem pe_callTy (hc : CallR X (.type T) r) (hg : Gl X x) (hm : X.mg x = none) (hv : bootBuiltins x = some (.type T)) (ha : PA X (e :: es) t) (hn : x ≠ "__name__" := by decide) (hdb : (x == ("__debug__" : Str)) = false := by decide)
    (he : starEach (e :: es) X.env = (false, eval e X.env) :: starEach es X.env := by rfl) (hpl : (backTo pos (starEach es X.env)).any (·.1) = false := by rfl) : PE X (.Call (.Name x p) (e :: es) [] pos) (tCB r t) := by
  intro pins s σ H Q I h
  refine wpAny_Call_Name_kw (ld_blt I hg hm hv ?_ hn hdb)
  exact PyProof.Rows.callWith_type1 (thn (ha pos pins s σ H _ I h) fun us s1 ⟨vs, H1, I1, r1, q1⟩ => hc pins s1 σ H1 vs us Q I1 r1 q1) he hpl
end
end L2
namespace HT
open PySem PyProof.Rows
section
open PySem.SeqAt
open PySem.AutoSeq1 (wpAny_loadPart')
open PySem.MeetsSeq PySem.MeetsSeq2 PySem.MeetsSeq3
end
section
variable {prog : Program} {w : World} {A : Around} {E : Value → Shared → Prop} {s : Shared}
/-- t + u, t not empty -/
theorem cat_tup {t b : Addr} {vs ws : List Value} {Q : Value → Shared → Prop} (ht : IsTup s.heap t vs.toArray) (hb : IsTup s.heap b ws.toArray) (hv : vs ≠ [])
    (h1 : ws = [] → Q (.ref t) s) (h2 : ws ≠ [] → Q (.ref s.heap.objs.size) { s with heap := s.heap.push { cls := .type "tuple", data := .seq (vs ++ ws).toArray } })
    (hsz : vs.length + ws.length ≤ sizeLine) : wpAny (model prog w) A (binaryOp .Add (.ref t) (.ref b)) Q E s := by
  obtain ⟨⟨cls, dd, data, sl⟩, ho, hc, n, hd⟩ := id ht
  obtain ⟨⟨cls2, dd2, data2, sl2⟩, ho2, hc2, n2, hd2⟩ := id hb
  simp only at hc hd hc2 hd2
  subst hc hd hc2 hd2
  have e : vs.toArray ++ ws.toArray = (vs ++ ws).toArray := by simp
  by_cases hw : ws = []
  · exact concat_meets ⟨_, ho, rfl⟩ ⟨_, ho2, rfl⟩ noFill_tuple_add seq_tuple_add PySem.F.slot_tuple_add PySem.F.entry_tuple_add (PySem.F.args_tuple_add_2 _ _)
      (tuple_addW1 t b vs.toArray ws.toArray n n2 dd dd2 sl sl2 (by simpa using hv) (by simp [hw])) ⟨ho, ho2, h1 hw⟩
  · refine concat_meets ⟨_, ho, rfl⟩ ⟨_, ho2, rfl⟩ noFill_tuple_add seq_tuple_add PySem.F.slot_tuple_add PySem.F.entry_tuple_add (PySem.F.args_tuple_add_2 _ _)
      (tuple_addW2 t b vs.toArray ws.toArray n n2 dd dd2 sl sl2 (by simpa using hv) (by simpa using hw) (by rw [List.size_toArray, List.size_toArray]; exact hsz)) ⟨ho, ho2, ?_⟩
    rw [e]
    exact h2 hw
/-- a slice's bound as a place among n (d where it is left out) -/
def sIx (n d : Nat) : Option Int → Nat
  | none => d
  | some v => if v < 0 then (v + (n : Int)).toNat else min v.toNat n
theorem sIx_none (n d : Nat) : sIx n d none = d := rfl
theorem sIx_nat (n d k : Nat) : sIx n d (some (k : Int)) = min k n := by
  show (if (k : Int) < 0 then ((k : Int) + (n : Int)).toNat else min (k : Int).toNat n) = min k n
  rw [if_neg (by omega), Int.toNat_natCast]
end
end HT
namespace L2
open PySem PySem.Spec PyProof.Rows
abbrev TO := St → Hp → (Option Int → Hp → Prop) → Prop
/-- a slice's part (left out, or an int) -/
def PO (X : Cx) (e : Option Expr) (t : TO) : Prop :=
  ∀ (pins : List (Addr × Obj)) (s : Shared) (σ : St) (H : Hp) (Q : Option Int → Hp → Prop), Inv X pins σ H s → t σ H Q →
    wpAny (model X.prog X.w) X.A (evalPart e X.env) (fun u s' => ∃ o H', Inv X pins σ H' s' ∧ IsPart u o ∧ Q o H') X.xe s
def tNoPart : TO := fun _ H Q => Q none H
def tPart (t : TE) : TO := fun σ H Q => t σ H fun x H1 => ∃ i, x = .int i ∧ Q (some i) H1
section
variable {X : Cx} {e : Expr} {te : TE} {lo hi : Option Expr} {tl th : TO} {pos p2 : Pos}
theorem po_none : PO X none tNoPart := by
  intro pins s σ H Q I h
  rw [evalPart_none]
  exact wpAny_pure ⟨none, H, I, .none, h⟩
theorem po_some (h : PE X e te) : PO X (some e) (tPart te) := by
  intro pins s σ H Q I hw
  rw [evalPart_some]
  refine thn (h pins s σ H _ I hw) fun u s1 ⟨x, H1, I1, r1, q1⟩ => ?_
  obtain ⟨i, rfl, q⟩ := q1
  obtain ⟨t, rfl⟩ := r1
  exact ⟨some i, H1, I1, .int i t, q⟩
/-- what a slice of a value is, by values: the slice object stands at sl -/
def SlR (X : Cx) (r : V → Option Int → Option Int → Hp → VK → Prop) : Prop :=
  ∀ (pins : List (Addr × Obj)) (s : Shared) (σ : St) (H : Hp) (x : V) (v vl vu : Value) (lo hi : Option Int) (sl : Addr) (Q : VK), Inv X pins σ H s → RelV x v → s.heap.IsSliceOf sl vl vu .none → IsPart vl lo → IsPart vu hi → r x lo hi H Q →
    ∃ T id, typeLookup (.type T) "__getitem__" = pure (some (.builtin id)) ∧ s.TypeIs v T ∧ wpAny (model X.prog X.w) X.A (getItem v (.ref sl)) (EP X pins σ Q) X.xe s
theorem SlR.or {r r' : V → Option Int → Option Int → Hp → VK → Prop} (h : SlR X r) (h' : SlR X r') : SlR X (fun x lo hi H Q => r x lo hi H Q ∨ r' x lo hi H Q) := by
  intro pins s σ H x v vl vu lo hi sl Q I rx hs pl pu q
  rcases q with q | q
  · exact h pins s σ H x v vl vu lo hi sl Q I rx hs pl pu q
  · exact h' pins s σ H x v vl vu lo hi sl Q I rx hs pl pu q
def tSl (r : V → Option Int → Option Int → Hp → VK → Prop) (te : TE) (tl th : TO) : TE := fun σ H Q => te σ H fun x H1 => tl σ H1 fun l H2 => th σ H2 fun u H3 => r x l u H3 Q
/-- a[lo:hi], any a -/
theorem pe_slice {r : V → Option Int → Option Int → Hp → VK → Prop} (hr : SlR X r) (he : PE X e te) (hl : PO X lo tl) (hu : PO X hi th) : PE X (.Subscript e (.Slice lo hi none p2) pos) (tSl r te tl th) := by
  intro pins s σ H Q I h
  refine Subscript_ (thn (he pins s σ H _ I h) fun v s1 ⟨x, H1, I1, r1, q1⟩ => ?_)
  refine wpAny_Slice (thn (hl pins s1 σ H1 _ I1 q1) fun vl s2 ⟨l, H2, I2, pl, q2⟩ => thn (hu pins s2 σ H2 _ I2 q2) fun vu s3 ⟨u, H3, I3, pu, q3⟩ => ?_)
  rw [evalPart_none]
  refine wpAny_pure ?_
  have I4 : Inv X pins σ H3 { s3 with heap := s3.heap.push { cls := .type "slice", data := .fields #[vl, vu, .none] } } := I3.kept (t' := s3.toks) fun b ob q => Heap.get?_push_of_some _ q
  obtain ⟨T, id, hT, ht, hg⟩ := hr pins { s3 with heap := s3.heap.push { cls := .type "slice", data := .fields #[vl, vu, .none] } } σ H3 x v vl vu l u s3.heap.objs.size Q I4 r1 (Heap.IsSliceOf.new ..) pl pu q3
  show wpAny (model X.prog X.w) X.A (subscriptTail e (.Slice lo hi none p2) v (.ref s3.heap.objs.size)) (EP X pins σ Q) X.xe { s3 with heap := s3.heap.push { cls := .type "slice", data := .fields #[vl, vu, .none] } }
  exact tail_any (ops := [.ref s3.heap.objs.size, v]) ht hT hg (by with_unfolding_all rfl)
/-- the items of xs[lo:hi] -/
def cutV (xs : List V) (lo hi : Option Int) : List V := (xs.drop (HT.sIx xs.length 0 lo)).take (HT.sIx xs.length xs.length hi - HT.sIx xs.length 0 lo)
theorem cutV_length (xs : List V) (lo hi : Option Int) : (cutV xs lo hi).length ≤ xs.length := by
  unfold cutV
  rw [List.length_take, List.length_drop]
  omega
/-- t + u, t not empty: u empty gives t itself -/
def rCatT (K : PySem.W.Frag) : R2 := fun x y H Q => ∃ a b xs ys, x = .ref a ∧ y = .ref b ∧ SqT K H a xs ∧ SqT K H b ys ∧ xs ≠ [] ∧ xs.length + ys.length ≤ sizeLine ∧
  (ys = [] → Q (.ref a) H) ∧ (ys ≠ [] → ∀ p, H p = none → Q (.ref p) (upd H p (.tup (xs ++ ys))))
theorem Vals.nil_iff {xs : List V} {us : List Value} (r : Vals xs us) : us = [] ↔ xs = [] := by
  cases r with
  | nil => simp
  | cons _ _ => simp
theorem op_catT : OpR X (binaryOp .Add) (rCatT X.K) := by
  intro pins s σ H x y v u Q I rx ry h
  obtain ⟨a, b, xs, ys, rfl, rfl, ha, hb, hx, hz, q1, q2⟩ := h
  cases rx
  cases ry
  obtain ⟨its, r1, p1, _⟩ := I.tuple ha
  obtain ⟨its2, r2, p2, _⟩ := I.tuple hb
  refine HT.cat_tup p1 p2 (fun z => hx (r1.nil_iff.mp z)) (fun z => ⟨.ref a, H, I, rfl, q1 (r2.nil_iff.mp z)⟩) (fun z => ?_) (by rw [← r1.length, ← r2.length]; exact hz)
  refine ⟨.ref s.heap.objs.size, _, I.laid (t' := s.toks) (o := .tup (xs ++ ys)) (fun b ob q => Heap.get?_push_of_some _ q) (Nat.le_refl _) ?_, rfl, q2 (fun w => z (r2.nil_iff.mpr w)) _ (I.hok.fresh (Nat.le_refl _))⟩
  exact ⟨by rw [List.length_append]; exact hz, _, r1.append r2, IsTupD.new _ _⟩
end
end L2
namespace L2
open PySem PySem.Spec PyProof.Rows
/-- the place that an index of any sign means -/
def ixN (n : Nat) (i : Int) : Option Nat := if 0 ≤ i then (if i < n then some i.toNat else none) else if -(n : Int) ≤ i then some (i + n).toNat else none
def atI {α : Type} (xs : List α) (i : Int) : Option α := (ixN xs.length i).bind fun j => xs[j]?
theorem ixN_seq {n : Nat} {i : Int} {j : Nat} (h : ixN n i = some j) : seqIndex? i n = some j ∧ j < n ∧ -(n : Int) ≤ i ∧ i < n := by
  unfold ixN at h
  by_cases h0 : 0 ≤ i
  · rw [if_pos h0] at h
    by_cases h1 : i < n
    · rw [if_pos h1] at h
      have e : i.toNat = j := Option.some.inj h
      exact ⟨by rw [seqIndex_of h0 h1, e], by omega, by omega, h1⟩
    · rw [if_neg h1] at h; cases h
  · rw [if_neg h0] at h
    by_cases h1 : -(n : Int) ≤ i
    · rw [if_pos h1] at h
      have e : (i + n).toNat = j := Option.some.inj h
      exact ⟨by rw [seqIndex_neg (by omega) h1, e], by omega, h1, by omega⟩
    · rw [if_neg h1] at h; cases h
theorem atI_get {α : Type} {xs : List α} {i : Int} {v : α} (h : atI xs i = some v) : ∃ j, seqIndex? i xs.length = some j ∧ xs[j]? = some v ∧ j < xs.length ∧ -(xs.length : Int) ≤ i ∧ i < xs.length := by
  unfold atI at h
  cases e : ixN xs.length i with
  | none => rw [e] at h; cases h
  | some j =>
    rw [e] at h
    obtain ⟨h1, h2, h3, h4⟩ := ixN_seq e
    exact ⟨j, h1, h, h2, h3, h4⟩
theorem atI_nat {α : Type} {xs : List α} {j : Nat} {v : α} (h : xs[j]? = some v) : atI xs (j : Int) = some v := by
  have hj : j < xs.length := (List.getElem?_eq_some_iff.mp h).1
  have e : ixN xs.length (j : Int) = some j := by
    unfold ixN
    rw [if_pos (by omega), if_pos (by omega)]; simp
  unfold atI; rw [e]; exact h
/-- what stands as an index of a plain subscript -/
def PlainIx (b : Expr) : Prop := ∀ o i, subscripted b false o i = operate [o, i] (getItem o i)
/-- a subscript by values -/
def IxR (X : Cx) (r : R2) : Prop :=
  ∀ (value slice : Expr) (pins : List (Addr × Obj)) (s : Shared) (σ : St) (H : Hp) (x y : V) (v u : Value) (Q : VK), Inv X pins σ H s → RelV x v → RelV y u → r x y H Q →
    subscripted slice false v u = operate [v, u] (getItem v u) → wpAny (model X.prog X.w) X.A (subscriptTail value slice v u) (EP X pins σ Q) X.xe s
/-- a call of a builtin's method by values: the receiver, the arguments -/
def MtR (X : Cx) (id : String) (r : V → List V → Hp → VK → Prop) : Prop :=
  ∀ (pins : List (Addr × Obj)) (s : Shared) (σ : St) (H : Hp) (x : V) (xs : List V) (v : Value) (us : List Value) (Q : VK), Inv X pins σ H s → RelV x v → Vals xs us → r x xs H Q →
    wpAny (model X.prog X.w) X.A (call (.builtin id) (v :: us)) (EP X pins σ Q) X.xe s
section
variable {X : Cx} {a b : Expr} {ta tb : TE} {pos : Pos}
theorem IxR.or {r r' : R2} (h : IxR X r) (h' : IxR X r') : IxR X (fun x y H Q => r x y H Q ∨ r' x y H Q) := by
  intro value slice pins s σ H x y v u Q I rx ry q hs
  rcases q with q | q
  · exact h value slice pins s σ H x y v u Q I rx ry q hs
  · exact h' value slice pins s σ H x y v u Q I rx ry q hs
theorem MtR.or {id : String} {r r' : V → List V → Hp → VK → Prop} (h : MtR X id r) (h' : MtR X id r') : MtR X id (fun x xs H Q => r x xs H Q ∨ r' x xs H Q) := by
  intro pins s σ H x xs v us Q I rx rs q
  rcases q with q | q
  · exact h pins s σ H x xs v us Q I rx rs q
  · exact h' pins s σ H x xs v us Q I rx rs q
/-- a[b] -/
theorem pe_ix {r : R2} (hr : IxR X r) (ha : PE X a ta) (hb : PE X b tb) (hs : PlainIx b) : PE X (.Subscript a b pos) (tOp r ta tb) := by
  intro pins s σ H Q I h
  exact Subscript_ (binT ha hb I h fun v u s2 x y H2 I2 rx ry q => hr a b pins s2 σ H2 x y v u Q I2 rx ry q (hs _ _))
def rIxL (K : PySem.W.Frag) : R2 := fun x y H Q => ∃ p xs i v, x = .ref p ∧ y = .int i ∧ SqL K H p xs ∧ atI xs i = some v ∧ Q v H
def rIxT (K : PySem.W.Frag) : R2 := fun x y H Q => ∃ p xs i v, x = .ref p ∧ y = .int i ∧ SqT K H p xs ∧ atI xs i = some v ∧ Q v H
def rIxS : R2 := fun x y H Q => ∃ z i c, x = .str z ∧ y = .int i ∧ z.length ≤ sizeLine ∧ atI z.cps.toList i = some c ∧ Q (.str ⟨#[c]⟩) H
theorem ix_list : IxR X (rIxL X.K) := by
  intro value slice pins s σ H x y v u Q I rx ry h hs
  obtain ⟨p, xs, i, z, rfl, rfl, hq, he, q⟩ := h
  cases rx
  obtain ⟨t, rfl⟩ := ry
  obtain ⟨its, r, pl, hz⟩ := I.list hq
  obtain ⟨j, h1, h2, h3, h4, h5⟩ := atI_get he
  obtain ⟨w, ew, rw'⟩ := r.get h2
  have hl := r.length
  have hn := line63
  have fin : EP X pins σ Q w s := ⟨z, H, I, rw', q⟩
  by_cases h0 : 0 ≤ i
  · have hj : i.toNat = j := by
      rw [seqIndex_of h0 h5] at h1
      exact Option.some.inj h1
    exact item_listR pl.isList h0 (by omega) (by rw [hj]; simpa using ew) fin hs
  · have hj : (i + (its.toArray.size : Int)).toNat = j := by
      rw [seqIndex_neg (by omega) h4] at h1
      rw [List.size_toArray, ← hl]
      exact Option.some.inj h1
    exact subscriptTail_builtinR (x := w) pl.isList.typeIs slot_list_getitem.lookup
      (wpAny_getItem_list_neg (Q := fun r s' => r = w ∧ EP X pins σ Q r s') pl.isList (by omega) (by rw [List.size_toArray] <;> omega) (by omega) (by rw [hj]; simpa using ew) ⟨rfl, fin⟩) hs
theorem ix_tup : IxR X (rIxT X.K) := by
  intro value slice pins s σ H x y v u Q I rx ry h hs
  obtain ⟨p, xs, i, z, rfl, rfl, hq, he, q⟩ := h
  cases rx
  obtain ⟨t, rfl⟩ := ry
  obtain ⟨its, r, pl, hz⟩ := I.tuple hq
  obtain ⟨j, h1, h2, h3, h4, h5⟩ := atI_get he
  obtain ⟨w, ew, rw'⟩ := r.get h2
  have hl := r.length
  have hn := line63
  have fin : EP X pins σ Q w s := ⟨z, H, I, rw', q⟩
  exact subscriptTail_builtinR (x := w) pl.typeIs slot_tuple_getitem.lookup
    (getItem_tuple (j := j) (Q := fun r s' => r = w ∧ EP X pins σ Q r s') pl (by omega) (by omega) (by rw [List.size_toArray, ← hl]; exact h1) (by simpa using ew) ⟨rfl, fin⟩) hs
theorem ix_str : IxR X rIxS := by
  intro value slice pins s σ H x y v u Q I rx ry h hs
  obtain ⟨z, i, c, rfl, rfl, hz, he, q⟩ := h
  obtain ⟨t, rfl⟩ := rx
  obtain ⟨t', rfl⟩ := ry
  obtain ⟨j, h1, h2, h3, h4, h5⟩ := atI_get he
  have hl : z.cps.toList.length = z.length := by simp [Str.length]
  rw [hl] at h1 h4 h5
  have hn := line63
  exact tail_any (typeIs_str s z t) slot_str_getitem.lookup (getItem_str (c := c) (by
    have e1 : decide (i < -(2 ^ 63 : Int)) = false := decide_eq_false (by omega)
    have e2 : decide (i ≥ 2 ^ 63) = false := decide_eq_false (by omega)
    rw [e1, e2, Bool.or_false]) (by rw [h1]; simpa using h2) ⟨.str ⟨#[c]⟩, H, I.tok _, ⟨_, rfl⟩, q⟩) hs
/-- list, tuple or str -/
def rIx (K : PySem.W.Frag) : R2 := fun x y H Q => rIxL K x y H Q ∨ rIxT K x y H Q ∨ rIxS x y H Q
theorem ix_seq : IxR X (rIx X.K) := ix_list.or (ix_tup.or ix_str)
/-- the list's object behind a store -/
theorem mapSeq_set (its : List Value) (n j : Nat) (u : Value) : Obj.mapSeq (·.setIfInBounds j u) { cls := .type "list", data := .seq its.toArray n } = { cls := .type "list", data := .seq (its.set j u).toArray n } := by
  simp [Obj.mapSeq]
theorem Inv.lst {pins : List (Addr × Obj)} {σ : St} {H : Hp} {s : Shared} {p : Addr} {xs : List V} (I : Inv X pins σ H s) (h : H p = some (.lst xs)) :
    ∃ (its : List Value) (n : Nat), Vals xs its ∧ s.heap.get? p = some { cls := .type "list", data := .seq its.toArray n } ∧ xs.length ≤ sizeLine := by
  obtain ⟨z, its, n, r, e⟩ := I.hok p _ h
  exact ⟨its, n, r, e, z⟩
/-- the list at p is written by an update of its object -/
theorem Inv.lstUpd {pins : List (Addr × Obj)} {σ : St} {H : Hp} {s : Shared} {p : Addr} {xs ys : List V} {its its' : List Value} {n n' : Nat} {f : Obj → Obj} (I : Inv X pins σ H s) (h : H p = some (.lst xs))
    (ho : s.heap.get? p = some { cls := .type "list", data := .seq its.toArray n }) (hf : f { cls := .type "list", data := .seq its.toArray n } = { cls := .type "list", data := .seq its'.toArray n' }) (r : Vals ys its') (hz : ys.length ≤ sizeLine) (t : Nat) :
    Inv X pins σ (upd H p (.lst ys)) { s with heap := s.heap.update p f, toks := t } := by
  have e : (s.heap.update p f).get? p = some { cls := .type "list", data := .seq its'.toArray n' } := by
    rw [Heap.get?_update_self f ho (by rw [hf] <;> rfl), hf]
  refine I.write (x := p) (e := p) (by rw [h]; trivial) (.inl rfl) (fun b u hb q => (Heap.get?_update_other _ _ (Ne.symm hb)).trans q) ⟨_, e⟩ ?_
  exact ⟨hz, its', n', r, e⟩
def rSetL : V → V → V → Hp → (Hp → Prop) → Prop := fun o i v H Q => ∃ p xs k j, o = .ref p ∧ i = .int k ∧ H p = some (.lst xs) ∧ ixN xs.length k = some j ∧ Q (upd H p (.lst (xs.set j v)))
theorem set_list : PSet X rSetL := by
  intro pins s σ H o i v ov iv u Q I ro ri rv h
  obtain ⟨p, xs, k, j, rfl, rfl, hp, hj, q⟩ := h
  cases ro
  obtain ⟨t, rfl⟩ := ri
  obtain ⟨its, n, r, ho, hz⟩ := I.lst hp
  obtain ⟨h1, h2, h3, h4⟩ := ixN_seq hj
  have hl := r.length
  have hn := line63
  have I' : Inv X pins σ (upd H p (.lst (xs.set j v))) { s with heap := s.heap.update p (Obj.mapSeq (·.setIfInBounds j u)) } :=
    I.lstUpd hp ho (mapSeq_set its n j u) (r.set rv j) (by rw [List.length_set]; exact hz) s.toks
  by_cases h0 : 0 ≤ k
  · have hk : k.toNat = j := by
      rw [seqIndex_of h0 h4] at h1
      exact Option.some.inj h1
    exact PySem.W.ki_setAt ho h0 (by omega) (by rw [List.size_toArray, ← hl]; exact h4) (by rw [hk]; exact ⟨_, I', q⟩)
  · have hk : (k + (its.toArray.size : Int)).toNat = j := by
      rw [seqIndex_neg (by omega) h3] at h1
      rw [List.size_toArray, ← hl]
      exact Option.some.inj h1
    exact PySem.W.ki_setBack ho (by omega) (by rw [List.size_toArray, ← hl]; exact h3) (by omega) (by rw [hk]; exact ⟨_, I', q⟩)
theorem slice_bounds (lo hi : Option Int) (n : Nat) : (sliceBounds lo hi none n).1 = ((HT.sIx n 0 lo : Nat) : Int) ∧ (sliceBounds lo hi none n).2.1 = ((HT.sIx n n hi : Nat) : Int) ∧ (sliceBounds lo hi none n).2.2 = 1 := by
  refine ⟨?_, ?_, rfl⟩
  · cases lo with
    | none => simp [sliceBounds, HT.sIx]
    | some i =>
      simp only [sliceBounds, HT.sIx, Option.getD_none, show (1 : Int) > 0 by decide, if_true]
      by_cases h : i < 0
      · simp only [h, if_true] <;> omega
      · simp only [h, if_false] <;> omega
  · cases hi with
    | none => simp [sliceBounds, HT.sIx]
    | some i =>
      simp only [sliceBounds, HT.sIx, Option.getD_none, show (1 : Int) > 0 by decide, if_true]
      by_cases h : i < 0
      · simp only [h, if_true] <;> omega
      · simp only [h, if_false] <;> omega
theorem slicePick_cut (its : List Value) (lo hi : Option Int) : slicePick its.toArray lo hi none = ((its.drop (HT.sIx its.length 0 lo)).take (HT.sIx its.length its.length hi - HT.sIx its.length 0 lo)).toArray := by
  obtain ⟨h1, h2, h3⟩ := slice_bounds lo hi its.toArray.size
  unfold slicePick
  rw [h1, h2, h3]
  simp only [sliceRange_one, pick_run, List.size_toArray] <;> rfl
/-- xs[lo:hi] of a list: a new list -/
def rSlL (K : PySem.W.Frag) : V → Option Int → Option Int → Hp → VK → Prop := fun x lo hi H Q => ∃ a xs, x = .ref a ∧ SqL K H a xs ∧ ∀ p, H p = none → Q (.ref p) (upd H p (.lst (cutV xs lo hi)))
theorem sl_list : SlR X (rSlL X.K) := by
  intro pins s σ H x v vl vu lo hi sl Q I rx hs pl pu h
  obtain ⟨a, xs, rfl, hx, q⟩ := h
  cases rx
  obtain ⟨its, r, ht, hz⟩ := I.list hx
  have hlen := r.length
  refine ⟨"list", _, slot_list_getitem.lookup, ht.isList.typeIs, ?_⟩
  refine wpAny_getItem_list_slice ht.isList hs pl pu .none (by simp) ?_ (by rw [List.size_toArray] <;> omega)
  rw [slicePick_cut, ← hlen]
  refine ⟨.ref s.heap.objs.size, _, I.laid (t' := s.toks) (o := .lst (cutV xs lo hi)) (fun b ob q => Heap.get?_push_of_some _ q) (Nat.le_refl _) ?_, rfl, q _ (I.hok.fresh (Nat.le_refl _))⟩
  exact ⟨Nat.le_trans (cutV_length xs lo hi) hz, _, 0, (r.drop (HT.sIx xs.length 0 lo)).take (HT.sIx xs.length xs.length hi - HT.sIx xs.length 0 lo), Heap.get?_push_size _ rfl⟩
def flatV : V → Bool
  | .non => true
  | .bl _ => true
  | .int _ => true
  | .str _ => true
  | _ => false
/-- == of flat values -/
def eqV : V → V → Bool
  | .non, .non => true
  | .bl a, .bl b => a == b
  | .bl a, .int b => (if a then 1 else 0) == b
  | .int a, .bl b => a == (if b then 1 else 0)
  | .int a, .int b => a == b
  | .str a, .str b => a == b
  | _, _ => false
theorem eqAt_V {A : Around} {s : Shared} {y x : V} {u v : Value} (ry : RelV y u) (rx : RelV x v) (fy : flatV y = true) (fx : flatV x = true) : SeqAt.EqAt A s u v (eqV y x) := by
  cases y with
  | non =>
    cases ry
    cases x with
    | non => cases rx; exact SeqAt.EqAt.same _
    | bl b => cases rx; exact SeqAt.EqAt.none_bool b
    | int b => obtain ⟨t, rfl⟩ := rx; exact SeqAt.EqAt.none_int b t
    | str b => obtain ⟨t, rfl⟩ := rx; exact SeqAt.EqAt.none_str b t
    | _ => exact absurd (show false = true from fx) Bool.false_ne_true
  | bl a =>
    cases ry
    cases x with
    | non => cases rx; exact SeqAt.EqAt.bool_none a
    | bl b => cases rx; exact SeqAt.EqAt.bool_bool a b
    | int b => obtain ⟨t, rfl⟩ := rx; exact SeqAt.EqAt.bool_int a b t
    | str b => obtain ⟨t, rfl⟩ := rx; exact SeqAt.EqAt.bool_str a b t
    | _ => exact absurd (show false = true from fx) Bool.false_ne_true
  | int a =>
    obtain ⟨t', rfl⟩ := ry
    cases x with
    | non => cases rx; exact SeqAt.EqAt.int_none a t'
    | bl b => cases rx; exact SeqAt.EqAt.int_bool a t' b
    | int b => obtain ⟨t, rfl⟩ := rx; exact SeqAt.EqAt.int_int a t' b t
    | str b => obtain ⟨t, rfl⟩ := rx; exact SeqAt.EqAt.int_str a t' b t
    | _ => exact absurd (show false = true from fx) Bool.false_ne_true
  | str a =>
    obtain ⟨t', rfl⟩ := ry
    cases x with
    | non => cases rx; exact SeqAt.EqAt.str_none a t'
    | bl b => cases rx; exact SeqAt.EqAt.str_bool a t' b
    | int b => obtain ⟨t, rfl⟩ := rx; exact SeqAt.EqAt.str_int a t' b t
    | str b => obtain ⟨t, rfl⟩ := rx; exact SeqAt.EqAt.str_str a t' b t
    | _ => exact absurd (show false = true from fx) Bool.false_ne_true
  | _ => exact absurd (show false = true from fy) Bool.false_ne_true
/-- the items' answers, read off the values (a value's own answer does not lean on its token) -/
def eqU (x : V) (u : Value) : Bool := match u with
  | .none => eqV .non x
  | .bool b => eqV (.bl b) x
  | .int i _ => eqV (.int i) x
  | .str z _ => eqV (.str z) x
  | _ => false
theorem eqU_of {x y : V} {u : Value} (r : RelV y u) (f : flatV y = true) : eqU x u = eqV y x := by
  cases y with
  | non => cases r; rfl
  | bl b => cases r; rfl
  | int i => obtain ⟨t, rfl⟩ := r; rfl
  | str z => obtain ⟨t, rfl⟩ := r; rfl
  | _ => exact absurd (show false = true from f) Bool.false_ne_true
theorem any_eqU {x : V} : ∀ {xs : List V} {us : List Value}, Vals xs us → xs.all flatV = true → us.any (eqU x) = xs.any fun y => eqV y x
  | _, _, .nil, _ => rfl
  | y :: xs, u :: us, .cons r t, f => by
    rw [List.all_cons, Bool.and_eq_true] at f
    rw [List.any_cons, List.any_cons, eqU_of r f.1, any_eqU t f.2]
theorem mem_eqAt {A : Around} {s : Shared} {x : V} {v : Value} (rx : RelV x v) (fx : flatV x = true) : ∀ {xs : List V} {us : List Value}, Vals xs us → xs.all flatV = true → ∀ u ∈ us, SeqAt.EqAt A s u v (eqU x u)
  | _, _, .nil, _ => fun u hu => by cases hu
  | y :: xs, u :: us, .cons r t, f => fun u' hu => by
    rw [List.all_cons, Bool.and_eq_true] at f
    rcases List.mem_cons.mp hu with rfl | hu
    · rw [eqU_of r f.1]; exact eqAt_V r rx f.1 fx
    · exact mem_eqAt rx fx t f.2 u' hu
def inV (x : V) (xs : List V) : Bool := xs.any fun y => eqV y x
/-- x in a list or tuple of flat items -/
def rIn (K : PySem.W.Frag) (neg : Bool) : R2 := fun x y H Q => ∃ p xs, y = .ref p ∧ (SqL K H p xs ∨ SqT K H p xs) ∧ flatV x = true ∧ xs.all flatV = true ∧ Q (.bl (if neg then !inV x xs else inV x xs)) H
theorem op_in_seq : OpR X (compareOp .In) (rIn X.K false) := by
  intro pins s σ H x y v u Q I rx ry h
  obtain ⟨p, xs, rfl, hq, fx, fs, q⟩ := h
  cases ry
  rcases hq with hq | hq
  · obtain ⟨its, r, pl, hz⟩ := I.list hq
    refine SeqAt.in_listAt (eqU x) pl.isList (fun w hw => mem_eqAt rx fx r fs w (by simpa using hw)) ⟨.bl _, H, I, rfl, ?_⟩
    rw [show its.toArray.any (eqU x) = its.any (eqU x) by simp, any_eqU r fs]
    exact q
  · obtain ⟨its, r, pl, hz⟩ := I.tuple hq
    refine SeqAt.in_tupleAt (eqU x) pl (fun w hw => mem_eqAt rx fx r fs w (by simpa using hw)) ⟨.bl _, H, I, rfl, ?_⟩
    rw [show its.toArray.any (eqU x) = its.any (eqU x) by simp, any_eqU r fs]
    exact q
theorem call_len_seq : CallR X (.builtin "len") (fun xs H Q => ∃ p ys, xs = [.ref p] ∧ (SqL X.K H p ys ∨ SqT X.K H p ys) ∧ Q (.int ys.length) H) := by
  intro pins s σ H xs us Q I r h
  obtain ⟨p, ys, rfl, hq, q⟩ := h
  obtain ⟨u, rfl, rx⟩ := vals1 r
  cases rx
  have hn := line63
  rcases hq with hq | hq
  · obtain ⟨its, r', pl, hz⟩ := I.list hq
    have hlen := r'.length
    exact Calls.call_len_list pl.isList (by simp only [List.size_toArray] <;> omega) ⟨.int ys.length, H, I.tok _, ⟨s.toks + 1, by rw [List.size_toArray, hlen]⟩, q⟩
  · obtain ⟨its, r', pl, hz⟩ := I.tuple hq
    have hlen := r'.length
    exact len_tuple pl (by simp only [List.size_toArray] <;> omega) ⟨.int ys.length, H, I.tok _, ⟨s.toks + 1, by rw [List.size_toArray, hlen]⟩, q⟩
theorem call_len_str : CallR X (.builtin "len") (fun xs H Q => ∃ z, xs = [.str z] ∧ z.length ≤ sizeLine ∧ Q (.int z.length) H) := by
  intro pins s σ H xs us Q I r h
  obtain ⟨z, rfl, hz, q⟩ := h
  obtain ⟨u, rfl, t, rfl⟩ := vals1 r
  have hn := line63
  exact len_str (by omega) ⟨.int z.length, H, I.tok _, ⟨_, rfl⟩, q⟩
theorem CallR.or {f : Value} {r r' : List V → Hp → VK → Prop} (h : CallR X f r) (h' : CallR X f r') : CallR X f (fun xs H Q => r xs H Q ∨ r' xs H Q) := by
  intro pins s σ H xs us Q I rs q
  rcases q with q | q
  · exact h pins s σ H xs us Q I rs q
  · exact h' pins s σ H xs us Q I rs q
theorem call_list_of : CallR X (.type "list") (fun xs H Q => ∃ p ys, xs = [.ref p] ∧ (SqL X.K H p ys ∨ SqT X.K H p ys) ∧ ∀ l, H l = none → Q (.ref l) (upd H l (.lst ys))) := by
  intro pins s σ H xs us Q I r h
  obtain ⟨p, ys, rfl, hq, q⟩ := h
  obtain ⟨u, rfl, rx⟩ := vals1 r
  cases rx
  have fin : ∀ (its : List Value), Vals ys its → ys.length ≤ sizeLine → ∀ (h' : Heap) (c' : Nat), (∀ b o', s.heap.get? b = some o' → h'.get? b = some o') →
      h'.get? s.heap.objs.size = some { cls := .type "list", dict := none, data := .seq its.toArray c', slots := #[] } → EP X pins σ Q (.ref s.heap.objs.size) { s with heap := h' } := fun its r' hz h' c' kp e =>
    ⟨.ref s.heap.objs.size, _, I.laid (t' := s.toks) kp (Nat.le_refl _) (show ObjOk X.prog X.w _ h' _ (.lst ys) from ⟨hz, its, c', r', e⟩), rfl, q _ (I.hok.fresh (Nat.le_refl _))⟩
  rcases hq with hq | hq
  · obtain ⟨its, r', pl, hz⟩ := I.list hq
    have hlen := r'.length
    obtain ⟨o, ho, hc, n, hd⟩ := pl.isList
    exact call_list_seq p (.inl rfl) ho hc hd (fun h' c' kp e => fin its r' hz h' c' kp e) (by simp only [List.size_toArray] <;> omega)
  · obtain ⟨its, r', pl, hz⟩ := I.tuple hq
    have hlen := r'.length
    obtain ⟨o, ho, hc, n, hd⟩ := pl
    exact call_list_seq p (.inr rfl) ho hc hd (fun h' c' kp e => fin its r' hz h' c' kp e) (by simp only [List.size_toArray] <;> omega)
theorem call_tuple_of : CallR X (.type "tuple") (fun xs H Q => ∃ p ys, xs = [.ref p] ∧ ((SqL X.K H p ys ∧ ∀ l, H l = none → Q (.ref l) (upd H l (.tup ys))) ∨ (SqT X.K H p ys ∧ Q (.ref p) H))) := by
  intro pins s σ H xs us Q I r h
  obtain ⟨p, ys, rfl, h⟩ := h
  obtain ⟨u, rfl, rx⟩ := vals1 r
  cases rx
  rcases h with ⟨hq, q⟩ | ⟨hq, q⟩
  · obtain ⟨its, r', pl, hz⟩ := I.list hq
    have hlen := r'.length
    refine call_tuple_list pl.isList (fun h' kp => ?_) (by simp only [List.size_toArray] <;> omega)
    have I1 : Inv X pins σ H { s with heap := h' } := I.kept (t' := s.toks) kp
    have I2 : Inv X pins σ (upd H h'.objs.size (.tup ys)) { s with heap := h'.push { cls := .type "tuple", data := .seq its.toArray } } :=
      I1.laid (t' := s.toks) (fun b o e => Heap.get?_push_of_some _ e) (Nat.le_refl _) (show ObjOk X.prog X.w _ _ _ (.tup ys) from ⟨hz, its, r', IsTupD.new _ _⟩)
    exact ⟨.ref h'.objs.size, _, I2, rfl, q _ (I1.hok.fresh (Nat.le_refl _))⟩
  · obtain ⟨its, r', pl, hz⟩ := I.tuple hq
    exact call_tuple_same pl ⟨.ref p, H, I, rfl, q⟩
/-- the value is of that builtin type -/
def tyV (K : PySem.W.Frag) (T : String) (x : V) (H : Hp) : Prop := match x with
  | .str _ => T = "str"
  | .int _ => T = "int"
  | .ref p => (T = "list" ∧ ∃ xs, SqL K H p xs) ∨ (T = "tuple" ∧ ∃ xs, SqT K H p xs) ∨
      (T = "dict" ∧ ((∃ kvs, H p = some (.dK kvs)) ∨ ∃ kvs, H p = some (.dT kvs))) ∨ (T = "set" ∧ ∃ S n, H p = some (.set S n))
  | _ => False
theorem tyV_is {pins : List (Addr × Obj)} {σ : St} {H : Hp} {s : Shared} {T : String} {x : V} {v : Value} (I : Inv X pins σ H s) (r : RelV x v) (ty : tyV X.K T x H) :
    s.TypeIs v T ∧ ∀ a, v = .ref a → ∃ ob, s.heap.get? a = some ob ∧ ob.dict = none := by
  cases x with
  | str z =>
    obtain ⟨t, rfl⟩ := r
    cases (show T = "str" from ty)
    exact ⟨typeIs_str s z t, fun _ e => nomatch e⟩
  | int i =>
    obtain ⟨t, rfl⟩ := r
    cases (show T = "int" from ty)
    exact ⟨typeIs_int s i t, fun _ e => nomatch e⟩
  | ref p =>
    cases r
    rcases ty with ⟨rfl, xs, hq⟩ | ⟨rfl, xs, hq⟩ | ⟨rfl, hk⟩ | ⟨rfl, S, n, hk⟩
    · obtain ⟨its, _, pl, _⟩ := I.list hq
      refine ⟨pl.isList.typeIs, fun a e => ?_⟩
      cases e
      obtain ⟨o, n, e, c, hd, _⟩ := pl
      exact ⟨o, e, hd⟩
    · obtain ⟨its, _, ⟨o, e, c, hd⟩, _⟩ := I.tupleD hq
      refine ⟨⟨o, e, c.1⟩, fun a e2 => ?_⟩
      cases e2
      exact ⟨o, e, hd⟩
    · have z : ∃ o, s.heap.get? p = some o ∧ o.ExactDict := by
        rcases hk with ⟨kvs, hk⟩ | ⟨kvs, hk⟩
        · obtain ⟨_, _, _, _, o, _, _, e, ex, _⟩ := I.hok p _ hk
          exact ⟨o, e, ex⟩
        · obtain ⟨_, _, _, _, o, _, _, e, ex, _⟩ := I.hok p _ hk
          exact ⟨o, e, ex⟩
      obtain ⟨o, e, ex⟩ := z
      refine ⟨⟨o, e, ex.1⟩, fun a e2 => ?_⟩
      cases e2
      exact ⟨o, e, ex.2.1⟩
    · obtain ⟨o, _, _, _, e, ex, _⟩ := I.hok p _ hk
      refine ⟨⟨o, e, ex.1⟩, fun a e2 => ?_⟩
      cases e2
      exact ⟨o, e, ex.2.1⟩
  | _ => exact False.elim ty
def tBM0 (K : PySem.W.Frag) (T : String) (r : V → List V → Hp → VK → Prop) (to : TE) : TE := fun σ H Q => to σ H fun x H1 => tyV K T x H1 ∧ r x [] H1 Q
def tBM (K : PySem.W.Frag) (T : String) (r : V → List V → Hp → VK → Prop) (to : TE) (t : TA) : TE := fun σ H Q => to σ H fun x H1 => tyV K T x H1 ∧ t σ H1 fun xs H2 => r x xs H2 Q
variable {o e : Expr} {es : List Expr} {to : TE} {t : TA} {name : Str} {apos cpos : Pos} {T id : String} {r : V → List V → Hp → VK → Prop}
theorem pe_bm0 (pa : PlainAttrs T) (slot : Slot T name id) (hty : typeOf (.builtin id) = pure (.type "method_descriptor")) (hm : MtR X id r) (ho : PE X o to)
    (hbase : attributeBase o name X.env (eval o X.env) = eval o X.env := by rfl) (hline : (apos.endLine == cpos.line) = true := by rfl) : PE X (.Call (.Attribute o name apos) [] [] cpos) (tBM0 X.K T r to) := by
  intro pins s σ H Q I h
  refine wpAny_Call_method0_late hbase hline (thn (ho pins s σ H _ I h) fun v s1 ⟨x, H1, I1, r1, ty, q1⟩ => ?_)
  obtain ⟨h1, h2⟩ := tyV_is I1 r1 ty
  exact ⟨T, id, pa, slot, hty, h1, h2, Calls.callWith_builtin rfl (PySem.evalArgs_none (hm pins s1 σ H1 x [] v [] Q I1 r1 .nil q1))⟩
theorem pe_bm (pa : PlainAttrs T) (slot : Slot T name id) (hty : typeOf (.builtin id) = pure (.type "method_descriptor")) (hm : MtR X id r) (ho : PE X o to) (ha : PA X (e :: es) t)
    (hbase : attributeBase o name X.env (eval o X.env) = eval o X.env := by rfl)
    (hfew : ((backTo cpos (starEach (e :: es) X.env)).all (fun x => !x.1) && (backToKw cpos (keywordEach [] X.env)).all (fun x => x.1.isSome)
      && decide ((e :: es).length + ([] : List Keyword).length + (if ([] : List Keyword).isEmpty then 0 else 1) < 30)) = true := by rfl)
    (hline : (apos.endLine == cpos.line) = true := by rfl) (hs : starEach (e :: es) X.env = (false, eval e X.env) :: starEach es X.env := by rfl) (hplain : (backTo cpos (starEach es X.env)).any (·.1) = false := by rfl) :
    PE X (.Call (.Attribute o name apos) (e :: es) [] cpos) (tBM X.K T r to t) := by
  intro pins s σ H Q I h
  refine wpAny_Call_method_late hbase hfew hline rfl (thn (ho pins s σ H _ I h) fun v s1 ⟨x, H1, I1, r1, ty, q1⟩ => ?_)
  obtain ⟨h1, h2⟩ := tyV_is I1 r1 ty
  refine ⟨T, id, pa, slot, hty, h1, h2, ?_⟩
  have hA := ha cpos pins s1 σ H1 _ I1 q1
  rw [hs] at hA ⊢
  refine Calls.callWith_builtin (by show (false || (backTo cpos (starEach es X.env)).any (·.1)) = false; rw [hplain] <;> rfl) (Calls.evalArgs_plain ?_)
  exact thn hA fun us s2 ⟨vs, H2, I2, r2, q2⟩ => hm pins s2 σ H2 x vs v us Q I2 r1 r2 q2
end
end L2
namespace L2
open PySem PySem.Spec PyProof.Rows
def MtM (X : Cx) (id : String) (r : V → List V → Hp → VK → Prop) : Prop :=
  ∀ (pins : List (Addr × Obj)) (s : Shared) (σ : St) (H : Hp) (x : V) (xs : List V) (v : Value) (us : List Value) (Q : VK), Inv X pins σ H s → RelV x v → Vals xs us → r x xs H Q →
    wpAny (model X.prog X.w) X.A (call (.builtin id) (v :: us)) (EP X pins σ Q) X.xe s
theorem Vals.one : ∀ {x : V} {us : List Value}, Vals [x] us → ∃ u, us = [u] ∧ RelV x u
  | _, _, .cons r .nil => ⟨_, rfl, r⟩
theorem Vals.two : ∀ {x y : V} {us : List Value}, Vals [x, y] us → ∃ u v, us = [u, v] ∧ RelV x u ∧ RelV y v
  | _, _, _, .cons r (.cons q .nil) => ⟨_, _, rfl, r, q⟩
theorem Vals.zero : ∀ {us : List Value}, Vals [] us → us = []
  | _, .nil => rfl
theorem Vals.dropLast {xs : List V} {us : List Value} (h : Vals xs us) : Vals xs.dropLast us.dropLast := by
  induction h with
  | nil => exact .nil
  | cons r t ih =>
    cases t with
    | nil => exact .nil
    | cons q t' => exact .cons r ih
theorem Vals.eraseIdx : ∀ {xs : List V} {us : List Value} (i : Nat), Vals xs us → Vals (xs.eraseIdx i) (us.eraseIdx i)
  | _, _, _, .nil => .nil
  | _, _, 0, .cons _ t => t
  | _, _, i + 1, .cons r t => .cons r (Vals.eraseIdx i t)
theorem Vals.reverse {xs : List V} {us : List Value} (h : Vals xs us) : Vals xs.reverse us.reverse := by
  induction h with
  | nil => exact .nil
  | cons r t ih => rw [List.reverse_cons, List.reverse_cons]; exact Vals.append ih (.cons r .nil)
theorem Vals.rep {xs : List V} {us : List Value} (h : Vals xs us) : ∀ k : Nat, Vals (List.replicate k xs).flatten (List.replicate k us).flatten
  | 0 => .nil
  | k + 1 => by
    rw [List.replicate_succ, List.replicate_succ, List.flatten_cons, List.flatten_cons]
    exact Vals.append h (Vals.rep h k)
theorem erase_last {α : Type} (l : List α) : l.eraseIdx (l.length - 1) = l.dropLast := by
  induction l with
  | nil => rfl
  | cons a r ih =>
    cases r with
    | nil => rfl
    | cons b r =>
      have e : (a :: b :: r).length - 1 = ((b :: r).length - 1) + 1 := by
        have h1 : (a :: b :: r).length = r.length + 2 := rfl
        have h2 : (b :: r).length = r.length + 1 := rfl
        omega
      rw [e, List.eraseIdx_cons_succ, ih]
      all_goals rfl
theorem len_erase {α : Type} : ∀ (l : List α) (i : Nat), (l.eraseIdx i).length ≤ l.length
  | [], _ => Nat.le_refl _
  | _ :: _, 0 => Nat.le_succ _
  | _ :: r, i + 1 => Nat.succ_le_succ (len_erase r i)
theorem foldl_rep (its : List Value) : ∀ (k : Nat) (acc : List Value),
    List.foldl (fun x1 x2 => x1 ++ x2) acc.toArray (List.replicate k its.toArray) = (acc ++ (List.replicate k its).flatten).toArray
  | 0, acc => by simp
  | k + 1, acc => by
    have e : acc.toArray ++ its.toArray = (acc ++ its).toArray := by simp
    have e2 : (acc ++ its) ++ (List.replicate k its).flatten = acc ++ (List.replicate (k + 1) its).flatten := by
      rw [List.replicate_succ, List.flatten_cons, List.append_assoc]
    rw [← e2, ← foldl_rep its k (acc ++ its), ← e, List.replicate_succ, List.foldl_cons]
section
variable {X : Cx} {pins : List (Addr × Obj)} {σ : St} {H : Hp} {s : Shared} {l b : Addr} {xs ys zs : List V}
theorem Inv.lset {its its' : List Value} {n : Nat} {f : Array Value → Array Value} {t' : Nat} (I : Inv X pins σ H s) (hH : H l = some (.lst xs))
    (e : s.heap.get? l = some { cls := .type "list", data := .seq its.toArray n }) (hf : f its.toArray = its'.toArray) (hv : Vals ys its') (hz : ys.length ≤ sizeLine) :
    Inv X pins σ (upd H l (.lst ys)) { s with heap := s.heap.update l (Obj.mapSeq f), toks := t' } := by
  have q := PySem.IsL.update e f
  rw [hf] at q
  refine I.write (x := l) (e := l) (by rw [hH]; exact trivial) (.inl rfl) (fun b' u hb hu => (Heap.get?_update_other s.heap (Obj.mapSeq f) (Ne.symm hb)).trans hu) ⟨_, q⟩ ?_
  exact ⟨hz, its', _, hv, q⟩
theorem Inv.lnew {its : List Value} {t' : Nat} (I : Inv X pins σ H s) (hv : Vals ys its) (hz : ys.length ≤ sizeLine) :
    Inv X pins σ (upd H s.heap.objs.size (.lst ys)) { s with heap := s.heap.push { cls := .type "list", data := .seq its.toArray }, toks := t' } :=
  I.laid (fun _ _ q => Heap.get?_push_of_some _ q) (Nat.le_refl _) ⟨hz, its, 0, hv, Heap.get?_push_size _ rfl⟩
theorem Inv.fresh (I : Inv X pins σ H s) : H s.heap.objs.size = none := I.hok.fresh (Nat.le_refl _)
theorem Inv.lstM (I : Inv X pins σ H s) (hH : H l = some (.lst xs)) : xs.length ≤ sizeLine ∧ ∃ (its : List Value) (n : Nat), Vals xs its ∧ xs.length = its.length ∧ s.heap.get? l = some { cls := .type "list", data := .seq its.toArray n } := by
  obtain ⟨z, its, n, r, e⟩ := I.hok l _ hH
  exact ⟨z, its, n, r, r.length, e⟩
theorem notLongL {n : Nat} (h : n ≤ sizeLine) : Builtin.List.listTooLong n = false := by
  unfold Builtin.List.listTooLong
  exact decide_eq_false (by omega)
end
section
variable {X : Cx}
def rAppend : V → List V → Hp → VK → Prop := fun x vs H Q => ∃ l xs y, x = .ref l ∧ vs = [y] ∧ H l = some (.lst xs) ∧ xs.length < sizeLine ∧ Q .non (upd H l (.lst (xs ++ [y])))
theorem mt_append : MtM X "list.append" rAppend := by
  intro pins s σ H x vs v us Q I rx rv h
  obtain ⟨l, xs, y, rfl, rfl, hH, hz, q⟩ := h
  cases rx
  obtain ⟨u, rfl, ru⟩ := rv.one
  obtain ⟨z, its, n, r, hl, e⟩ := I.lstM hH
  refine call_meets F.slot_list_append ⟨_, e, rfl⟩ F.entry_list_append (F.args_list_append_2 _ _) (PySem.list_append l its.toArray n u (by rw [List.size_toArray]; omega)) ⟨e, ?_⟩
  refine ⟨.non, _, I.lset (its' := its ++ [u]) hH e (by simp) (r.append (.cons ru .nil)) ?_, rfl, q⟩
  rw [List.length_append, List.length_singleton]
  omega
def rPop : V → List V → Hp → VK → Prop := fun x vs H Q => ∃ l xs y, x = .ref l ∧ vs = [] ∧ H l = some (.lst xs) ∧ xs[xs.length - 1]? = some y ∧ Q y (upd H l (.lst xs.dropLast))
theorem mt_pop : MtM X "list.pop" rPop := by
  intro pins s σ H x vs v us Q I rx rv h
  obtain ⟨l, xs, y, rfl, rfl, hH, hy, q⟩ := h
  cases rx
  have hus := rv.zero
  subst hus
  obtain ⟨z, its, n, r, hl, e⟩ := I.lstM hH
  obtain ⟨u, hu, ru⟩ := r.get hy
  have hy' : its.toArray[its.toArray.size - 1]? = some u := by
    show its.toArray[its.length - 1]? = some u
    rw [← Array.getElem?_toList, ← hl]
    exact hu
  refine call_meets F.slot_list_pop ⟨_, e, rfl⟩ F.entry_list_pop (F.args_list_pop_1 _) (MeetsSeq.list_pop_last l its.toArray n u hy' (by rw [List.size_toArray]; omega)) ⟨e, ?_⟩
  refine ⟨y, _, I.lset (its' := its.dropLast) hH e ?_ r.dropLast ?_, ru, q⟩
  · show its.toArray.eraseIdxIfInBounds (its.toArray.size - 1) = its.dropLast.toArray
    rw [List.size_toArray, List.eraseIdxIfInBounds_toArray, erase_last]
  · rw [List.length_dropLast]
    omega
def rPopAt : V → List V → Hp → VK → Prop := fun x vs H Q => ∃ l xs i k y, x = .ref l ∧ vs = [.int i] ∧ H l = some (.lst xs) ∧ -(2 ^ 63) ≤ i ∧ i < 2 ^ 63 ∧ seqIndex? i xs.length = some k ∧ xs[k]? = some y ∧ Q y (upd H l (.lst (xs.eraseIdx k)))
theorem mt_popAt : MtM X "list.pop" rPopAt := by
  intro pins s σ H x vs v us Q I rx rv h
  obtain ⟨l, xs, i, k, y, rfl, rfl, hH, h1, h2, hk, hy, q⟩ := h
  cases rx
  obtain ⟨u, rfl, ru⟩ := rv.one
  obtain ⟨t, rfl⟩ := ru
  obtain ⟨z, its, n, r, hl, e⟩ := I.lstM hH
  obtain ⟨w, hw, rw'⟩ := r.get hy
  refine call_meets F.slot_list_pop ⟨_, e, rfl⟩ F.entry_list_pop (F.args_list_pop_2 _ _)
    (MeetsSeq.list_pop_at l its.toArray n i t k w (fitsIndex_both h1 h2) (by rw [List.size_toArray, ← hl]; exact hk) (by rw [← Array.getElem?_toList]; exact hw) (by rw [List.size_toArray]; omega)) ⟨e, ?_⟩
  refine ⟨y, _, I.lset (its' := its.eraseIdx k) hH e ?_ (r.eraseIdx k) ?_, rw', q⟩
  · show its.toArray.eraseIdxIfInBounds k = (its.eraseIdx k).toArray
    rw [List.eraseIdxIfInBounds_toArray]
  · have := len_erase xs k
    omega
def rCat : R2 := fun x y H Q => ∃ l b xs zs, x = .ref l ∧ y = .ref b ∧ H l = some (.lst xs) ∧ H b = some (.lst zs) ∧ xs.length + zs.length ≤ sizeLine ∧ ∀ p, H p = none → Q (.ref p) (upd H p (.lst (xs ++ zs)))
theorem op_cat : OpR X (binaryOp .Add) rCat := by
  intro pins s σ H x y v u Q I rx ry h
  obtain ⟨l, b, xs, zs, rfl, rfl, hH, hB, hz, q⟩ := h
  cases rx
  cases ry
  obtain ⟨z, its, n, r, hl, e⟩ := I.lstM hH
  obtain ⟨z2, its2, n2, r2, hl2, e2⟩ := I.lstM hB
  refine PySem.P.add_list e e2 ?_ (by rw [List.size_toArray, List.size_toArray]; omega)
  have ea : its.toArray ++ its2.toArray = (its ++ its2).toArray := by simp
  rw [ea]
  exact ⟨.ref _, _, I.lnew (t' := s.toks) (r.append r2) (by rw [List.length_append]; omega), rfl, q _ I.fresh⟩
/-- a list times an int (a negative one is nothing) -/
def rRep : R2 := fun x y H Q => ∃ l k xs, x = .ref l ∧ y = .int k ∧ H l = some (.lst xs) ∧ -(2 ^ 63) ≤ k ∧ k < 2 ^ 63 ∧ xs.length * k.toNat ≤ sizeLine ∧
  ∀ p, H p = none → Q (.ref p) (upd H p (.lst (List.replicate k.toNat xs).flatten))
theorem len_rep {α : Type} (xs : List α) (k : Nat) : (List.replicate k xs).flatten.length = k * xs.length := by
  induction k with
  | zero => simp
  | succ k ih => rw [List.replicate_succ, List.flatten_cons, List.length_append, ih, Nat.succ_mul, Nat.add_comm]
theorem op_rep : OpR X (binaryOp .Mult) rRep := by
  intro pins s σ H x y v u Q I rx ry h
  obtain ⟨l, k, xs, rfl, rfl, hH, h1, h2, hz, q⟩ := h
  cases rx
  obtain ⟨t, rfl⟩ := ry
  obtain ⟨z, its, n, r, hl, e⟩ := I.lstM hH
  have hlen : its.toArray.size * k.toNat ≤ sizeLine := by rw [List.size_toArray, ← hl]; exact hz
  have hcap : ¬ its.toArray.size * k.toNat > (2 ^ 63 - 1) / 8 := by
    have : (sizeLine : Nat) ≤ (2 ^ 63 - 1) / 8 := by decide
    omega
  have hfit : ¬ (!Builtin.List.listFitsIndex k) = true := by
    rw [fitsIndex_both h1 h2]
    exact Bool.false_ne_true
  have hlong : ¬ Builtin.List.listTooLong (its.toArray.size * k.toNat) = true := by
    rw [notLongL hlen]
    exact Bool.false_ne_true
  have hnew : List.foldl (fun x1 x2 => x1 ++ x2) #[] (List.replicate (if its.toArray.isEmpty = true then 0 else k.toNat) its.toArray) = (List.replicate k.toNat its).flatten.toArray := by
    have f0 : ∀ m : Nat, List.foldl (fun x1 x2 => x1 ++ x2) #[] (List.replicate m its.toArray) = (List.replicate m its).flatten.toArray := fun m => by
      have := foldl_rep its m []
      rw [List.nil_append] at this
      exact this
    rw [f0]
    cases its with
    | nil => simp
    | cons a r' => rw [if_neg (by simp)]
  refine wpAny_binaryOp_repeat_ref (T := "list") (U := "int") (by decide) ⟨_, e, rfl⟩ (fun s' => typeIs_int s' k t) noFill_list_mul F.fills_int_mul F.slot_int_rmul repeat_list F.slot_int_index.lookup
    (call_meets F.slot_int_rmul (typeIs_int s k t) F.entry_int_rmul (F.args_int_rmul_2 _ _) (int___rmul___int_list k t l its.toArray n)
      ⟨e, rfl, ⟨_, e, rfl⟩, call_meets F.slot_list_mul ⟨_, e, rfl⟩ F.entry_list_mul (F.args_list_mul_2 _ _) (AutoListH.list___mul___list_int_3 l its.toArray n k t hfit hcap hlong) ⟨e, ?_⟩⟩)
  rw [hnew]
  exact ⟨.ref _, _, I.lnew (t' := s.toks) (r.rep k.toNat) (by rw [len_rep, Nat.mul_comm]; exact hz), rfl, q _ I.fresh⟩
end
section
variable {prog : Program} {w : World} {A : Around} {E : Value → Shared → Prop} {s : Shared}
end
section
variable {X : Cx}
end
end L2
namespace L2
open PySem PySem.Spec PyProof.Rows
theorem Vals.ints : ∀ {ns : List Int} {us : List Value}, Vals (ns.map V.int) us → IntsAre us ns
  | [], us, h => by
    rw [List.map_nil] at h
    cases h
    exact IntsAre.nil
  | n :: ns, us, h => by
    rw [List.map_cons] at h
    cases h with
    | cons r t =>
      obtain ⟨k, rfl⟩ := r
      exact IntsAre.cons n k (Vals.ints t)
theorem vals_of_ints : ∀ {us : List Value} {ns : List Int}, IntsAre us ns → Vals (ns.map V.int) us
  | _, _, .nil => by rw [List.map_nil]; exact Paired.nil
  | _, _, .cons n t h => by rw [List.map_cons]; exact Paired.cons (show RelV (V.int n) (Value.int n t) from ⟨t, rfl⟩) (vals_of_ints h)
theorem Vals.ref1 {a : Addr} {us : List Value} (r : Vals [V.ref a] us) : us = [Value.ref a] := by
  cases r with
  | cons r t =>
    cases t
    cases r
    rfl
section
variable {prog : Program} {w : World} {A : Around} {E : Value → Shared → Prop} {s : Shared} {l : Addr} {its : List Value} {ns : List Int} {Q : Value → Shared → Prop}
theorem max_raw (hh : A.handled = none) (hl : s.heap.IsList l its.toArray) (hi : IntsAre its ns) (hne : 0 < ns.length)
    (h : ∀ h' tk M t', (∀ b o, s.heap.get? b = some o → h'.get? b = some o) → M ∈ ns → (∀ a, a ∈ ns → a ≤ M) → Q (.int M t') { s with heap := h', toks := tk }) : wpAny (model prog w) A (call (.builtin "max") [.ref l]) Q E s := by
  obtain ⟨xs, e⟩ := hi.allInts.items
  have hn : numsOf (intItems xs).toList = ns := by rw [← e]; exact hi.numsOf
  rw [nums_intItems] at hn
  subst hn
  rw [e] at hl
  have hsz : 0 < xs.size := by simpa using hne
  refine PySem.max_intList hh hl hsz fun v h' tk hv hk => ?_
  obtain ⟨t, rfl⟩ := intItems_at hv
  obtain ⟨h1, h2⟩ := argBest_gt (numAt xs) (xs.size - 1)
  refine h h' tk _ t hk ?_ fun a ha => ?_
  · rw [numAt_eq]; exact PySem.getD_mem (by rw [List.length_map, Array.length_toList]; omega)
  · obtain ⟨j, hj, rfl⟩ := mem_getD ha
    rw [List.length_map, Array.length_toList] at hj
    rw [← numAt_eq]; exact h2 j (by omega)
end
section
variable {X : Cx}
/-- max(xs), min(xs) of a list of ints -/
def rMax (K : PySem.W.Frag) : List V → Hp → VK → Prop := fun vs H Q => ∃ (a : Addr) (ns : List Int), vs = [V.ref a] ∧ SqL K H a (ns.map V.int) ∧ 0 < ns.length ∧ ∀ m, m ∈ ns → (∀ y, y ∈ ns → y ≤ m) → Q (.int m) H
theorem cr_max (hc : X.calm = true) : CallR X (.builtin "max") (rMax X.K) := by
  intro pins s σ H vs us Q I r h
  obtain ⟨a, ns, rfl, hs, hne, q⟩ := h
  obtain ⟨its, rv, hl, _⟩ := I.list hs
  rw [Vals.ref1 r]
  exact max_raw (I.ok.hd hc) hl.isList rv.ints hne fun h' tk m t' hk h1 h2 => ⟨.int _, H, I.kept hk, ⟨_, rfl⟩, q m h1 h2⟩
end
section
variable {X : Cx}
end
section
variable {X : Cx}
end
section
variable {X : Cx}
end
mutual
inductive Dp (K : PySem.W.Frag) (H : Hp) : V → PyData → Prop
  | non : Dp K H .non .none
  | bl (b : Bool) : Dp K H (.bl b) (.bool b)
  | int (i : Int) : Dp K H (.int i) (.int i)
  | str (x : Str) : Dp K H (.str x) (.str x)
  | lst {a : Addr} {xs : List V} {ds : List PyData} : SqL K H a xs → DpAll K H xs ds → Dp K H (.ref a) (.list ds)
  | tup {a : Addr} {xs : List V} {ds : List PyData} : SqT K H a xs → DpAll K H xs ds → Dp K H (.ref a) (.tuple ds)
inductive DpAll (K : PySem.W.Frag) (H : Hp) : List V → List PyData → Prop
  | nil : DpAll K H [] []
  | cons {v : V} {vs : List V} {d : PyData} {ds : List PyData} : Dp K H v d → DpAll K H vs ds → DpAll K H (v :: vs) (d :: ds)
end
section
variable {X : Cx} {pins : List (Addr × Obj)} {σ : St} {H : Hp} {s : Shared}
mutual
theorem Dp.reads (I : Inv X pins σ H s) : ∀ (d : PyData) (v : V) (u : Value), Dp X.K H v d → RelV v u → ∃ as, Reads s.heap u d as
  | .none, _, _, h, r => by
    cases h
    cases r
    exact ⟨_, Reads.none⟩
  | .bool b, _, _, h, r => by
    cases h
    cases r
    exact ⟨_, Reads.bool b⟩
  | .int i, _, _, h, r => by
    cases h
    obtain ⟨t, rfl⟩ := r
    exact ⟨_, Reads.int i t⟩
  | .str x, _, _, h, r => by
    cases h
    obtain ⟨t, rfl⟩ := r
    exact ⟨_, Reads.str x t⟩
  | .list ds, _, _, h, r => by
    cases h with
    | lst hs ha =>
      cases r
      obtain ⟨its, rv, ⟨o, n, ho, hc, _, hd⟩, _⟩ := I.list hs
      obtain ⟨as, hr⟩ := Dp.readsAll I ds _ its ha rv
      exact ⟨_, Reads.list ho hc hd hr⟩
  | .tuple ds, _, _, h, r => by
    cases h with
    | tup hs ha =>
      cases r
      obtain ⟨its, rv, ⟨o, ho, hc, n, hd⟩, _⟩ := I.tuple hs
      obtain ⟨as, hr⟩ := Dp.readsAll I ds _ its ha rv
      exact ⟨_, Reads.tuple ho hc hd hr⟩
  | .dict _, _, _, h, _ => by cases h
theorem Dp.readsAll (I : Inv X pins σ H s) : ∀ (ds : List PyData) (vs : List V) (us : List Value), DpAll X.K H vs ds → Vals vs us → ∃ as, ReadsAll s.heap us ds as
  | [], _, _, h, r => by
    cases h
    cases r
    exact ⟨_, ReadsAll.nil⟩
  | d :: ds, _, _, h, r => by
    cases h with
    | cons h1 h2 =>
      cases r with
      | cons r1 r2 =>
        obtain ⟨as, q1⟩ := Dp.reads I d _ _ h1 r1
        obtain ⟨bs, q2⟩ := Dp.readsAll I ds _ _ h2 r2
        exact ⟨_, ReadsAll.cons q1 q2⟩
end
end
section
variable {X : Cx}
def rEqD (K : PySem.W.Frag) : R2 := fun x y H Q => ∃ d e, Dp K H x d ∧ Dp K H y e ∧ SeqAt.shaped d = true ∧ SeqAt.shaped e = true ∧ Q (.bl (PyData.eqv d e)) H
def rNeD (K : PySem.W.Frag) : R2 := fun x y H Q => ∃ d e, Dp K H x d ∧ Dp K H y e ∧ SeqAt.shaped d = true ∧ SeqAt.shaped e = true ∧ Q (.bl (!PyData.eqv d e)) H
theorem op_eqD (hu : X.A.units + 64 < cLine) : OpR X (compareOp .Eq) (rEqD X.K) := by
  intro pins s σ H x y v u Q I rx ry h
  obtain ⟨d, e, hd, he, sd, se, q⟩ := h
  obtain ⟨as, r1⟩ := Dp.reads I d x v hd rx
  obtain ⟨bs, r2⟩ := Dp.reads I e y u he ry
  exact SeqAt.compareEq_shaped r1 r2 sd se hu ⟨.bl _, H, I, rfl, q⟩
theorem op_neD (hu : X.A.units + 64 < cLine) : OpR X (compareOp .NotEq) (rNeD X.K) := by
  intro pins s σ H x y v u Q I rx ry h
  obtain ⟨d, e, hd, he, sd, se, q⟩ := h
  obtain ⟨as, r1⟩ := Dp.reads I d x v hd rx
  obtain ⟨bs, r2⟩ := Dp.reads I e y u he ry
  exact SeqAt.compareNe_shaped r1 r2 sd se hu ⟨.bl _, H, I, rfl, q⟩
end
end L2
namespace L2
open PySem PySem.Spec PyProof.Rows
abbrev CellAt (h : Heap) (c : Addr) (v : Option Value) : Prop := h.IsCell c v
def relS (scope sc : Scope) : Scope :=
  { scope with names := scope.names.map fun (n, k) => if (k == .free && sc.kind == .function && sc.names.lookup n == some .cell) then (n, .cell) else (n, k) }
def cloFrom (cells : List (Str × Addr)) : List (Str × NameKind) → List (Str × Addr) → List (Str × Addr)
  | [], acc => acc
  | (n, k) :: r, acc => if k == .free then cloFrom cells r ((n, (cells.lookup n).getD 0) :: acc) else cloFrom cells r acc
theorem closure_loop (env : Env) (f : Str × NameKind → List (Str × Addr) → Sem (ForInStep (List (Str × Addr))))
    (hf : ∀ n k c, f (n, k) c = if k == .free then (do let a ← cellOf env n; pure (.yield ((n, a) :: c))) else pure (.yield c)) :
    ∀ (names : List (Str × NameKind)) (acc : List (Str × Addr)), (∀ y ∈ names, y.2 = .free → ∃ c, env.cells.lookup y.1 = some c) → forIn names acc f = pure (cloFrom env.cells names acc)
  | [], acc, _ => by rw [List.forIn_nil]; rfl
  | (n, k) :: r, acc, h => by
    rw [List.forIn_cons, hf]
    have ih := fun acc => closure_loop env f hf r acc fun y hy => h y (List.mem_cons_of_mem _ hy)
    unfold cloFrom
    by_cases hk : (k == NameKind.free) = true
    · rw [if_pos hk, if_pos hk]
      obtain ⟨c, hc⟩ := h (n, k) List.mem_cons_self (by simpa using hk)
      have e : cellOf env n = pure c := by unfold cellOf; rw [hc]
      rw [e]
      have e2 : (env.cells.lookup n).getD 0 = c := by rw [hc]; rfl
      rw [e2]
      exact ih _
    · rw [if_neg hk, if_neg hk]
      exact ih _
theorem closure_ok {scope : Scope} {env : Env} (h : ∀ y ∈ scope.names, y.2 = .free → ∃ c, env.cells.lookup y.1 = some c) : closureFor scope env = pure (cloFrom env.cells scope.names []) := by
  simp only [closureFor]
  rw [closure_loop env _ (fun n k c => rfl) scope.names [] h]
  rfl
theorem mem_lookup {α : Type} : ∀ {l : List (Str × α)} {n : Str} {c : α}, (n, c) ∈ l → ∃ c', l.lookup n = some c'
  | (k, v) :: r, n, c, h => by
    rw [List.lookup_cons]
    cases hb : n == k with
    | true => exact ⟨_, rfl⟩
    | false =>
      rcases List.mem_cons.mp h with e | h
      · cases e; simp at hb
      · exact mem_lookup h
theorem cloFrom_mem {cells : List (Str × Addr)} : ∀ {names : List (Str × NameKind)} {acc : List (Str × Addr)} {n : Str} {c : Addr}, (n, c) ∈ cloFrom cells names acc → (n, c) ∈ acc ∨ ((n, .free) ∈ names ∧ c = (cells.lookup n).getD 0)
  | [], _, _, _, h => .inl h
  | (m, k) :: r, acc, n, c, h => by
    unfold cloFrom at h
    split at h
    · rename_i hk
      have hk : k = .free := by simpa using hk
      rcases cloFrom_mem h with h | ⟨h1, h2⟩
      · rcases List.mem_cons.mp h with e | h
        · cases e; exact .inr ⟨hk ▸ List.mem_cons_self, rfl⟩
        · exact .inl h
      · exact .inr ⟨List.mem_cons_of_mem _ h1, h2⟩
    · rcases cloFrom_mem h with h | ⟨h1, h2⟩
      · exact .inl h
      · exact .inr ⟨List.mem_cons_of_mem _ h1, h2⟩
theorem cloFrom_acc {cells : List (Str × Addr)} : ∀ {names : List (Str × NameKind)} {acc : List (Str × Addr)} {p : Str × Addr}, p ∈ acc → p ∈ cloFrom cells names acc
  | [], _, _, h => h
  | (m, k) :: r, acc, p, h => by
    unfold cloFrom
    split
    · exact cloFrom_acc (List.mem_cons_of_mem _ h)
    · exact cloFrom_acc h
theorem cloFrom_has {cells : List (Str × Addr)} : ∀ {names : List (Str × NameKind)} {acc : List (Str × Addr)} {n : Str}, (n, .free) ∈ names → (n, (cells.lookup n).getD 0) ∈ cloFrom cells names acc
  | (m, k) :: r, acc, n, h => by
    unfold cloFrom
    rcases List.mem_cons.mp h with e | h
    · cases e
      exact cloFrom_acc List.mem_cons_self
    · split
      · exact cloFrom_has h
      · exact cloFrom_has h
theorem cells_mem : ∀ {names : List (Str × NameKind)} {h : Heap} {acc : List (Str × Addr)} {x : Str} {c : Addr}, (x, c) ∈ cellsFrom h.objs.size names acc →
    (x, c) ∈ acc ∨ ((x, .cell) ∈ names ∧ h.objs.size ≤ c ∧ CellAt (pushCells h names) c none)
  | [], _, _, _, _, h => .inl h
  | (n, k) :: r, h, acc, x, c, hm => by
    unfold cellsFrom at hm
    unfold pushCells
    split at hm
    · rename_i hk
      rw [if_pos hk]
      have hk : k = .cell := by simpa using hk
      rw [← Heap.size_push h { cls := .type "cell", data := .cell none }] at hm
      rcases cells_mem hm with hm | ⟨h1, h2, h3⟩
      · rcases List.mem_cons.mp hm with e | hm
        · cases e
          exact .inr ⟨hk ▸ List.mem_cons_self, Nat.le_refl _, _, pushCells_keeps r _ _ _ (Heap.get?_push_size _ rfl), rfl⟩
        · exact .inl hm
      · rw [Heap.size_push] at h2
        exact .inr ⟨List.mem_cons_of_mem _ h1, Nat.le_of_succ_le h2, h3⟩
    · rename_i hk
      rw [if_neg hk]
      rcases cells_mem hm with hm | ⟨h1, h2, h3⟩
      · exact .inl hm
      · exact .inr ⟨List.mem_cons_of_mem _ h1, h2, h3⟩
theorem cells_acc : ∀ {names : List (Str × NameKind)} {n : Nat} {acc : List (Str × Addr)} {p : Str × Addr}, p ∈ acc → p ∈ cellsFrom n names acc
  | [], _, _, _, h => h
  | (m, k) :: r, n, acc, p, h => by
    unfold cellsFrom
    split
    · exact cells_acc (List.mem_cons_of_mem _ h)
    · exact cells_acc h
theorem cells_has : ∀ {names : List (Str × NameKind)} {n : Nat} {acc : List (Str × Addr)} {x : Str}, (x, .cell) ∈ names → ∃ c, (x, c) ∈ cellsFrom n names acc
  | (m, k) :: r, n, acc, x, h => by
    unfold cellsFrom
    rcases List.mem_cons.mp h with e | h
    · cases e
      exact ⟨n, cells_acc List.mem_cons_self⟩
    · split
      · exact cells_has h
      · exact cells_has h
theorem cells_inj : ∀ {names : List (Str × NameKind)} {h : Heap} {acc : List (Str × Addr)} {x y : Str} {c : Addr}, (∀ p ∈ acc, p.2 < h.objs.size) → (∀ x y c, (x, c) ∈ acc → (y, c) ∈ acc → x = y) →
    (x, c) ∈ cellsFrom h.objs.size names acc → (y, c) ∈ cellsFrom h.objs.size names acc → x = y
  | [], _, _, _, _, _, _, hi, h1, h2 => hi _ _ _ h1 h2
  | (n, k) :: r, h, acc, x, y, c, hl, hi, h1, h2 => by
    unfold cellsFrom at h1 h2
    split at h1
    · rename_i hk
      rw [if_pos hk] at h2
      rw [← Heap.size_push h { cls := .type "cell", data := .cell none }] at h1 h2
      refine cells_inj (h := h.push _) (fun p hp => ?_) (fun x y c a b => ?_) h1 h2
      · rw [Heap.size_push]
        rcases List.mem_cons.mp hp with rfl | hp
        · exact Nat.lt_succ_self _
        · exact Nat.lt_succ_of_lt (hl p hp)
      · rcases List.mem_cons.mp a with e | a <;> rcases List.mem_cons.mp b with e' | b
        · cases e; cases e'; rfl
        · cases e; exact absurd (hl _ b) (Nat.lt_irrefl _)
        · cases e'; exact absurd (hl _ a) (Nat.lt_irrefl _)
        · exact hi _ _ _ a b
    · rename_i hk
      rw [if_neg hk] at h2
      exact cells_inj hl hi h1 h2
theorem newEnv_comp {M : Model} {A : Around} {E : Value → Shared → Prop} {s : Shared} {scope : Scope} {globals : Addr} {closure : List (Str × Addr)} {qual : Str} {func : Option Addr} {code : Value} {around : Env} {builtins : Addr} {Q : Env → Shared → Prop}
    (h : Q (newEnv scope s.heap.objs.size globals (cellsFrom (s.heap.objs.size + 1) scope.names closure) qual func code (some around) builtins)
      { s with heap := pushCells (s.heap.push { cls := .type "dict", data := .dict #[] }) scope.names }) :
    wpAny M A (newFunctionEnv scope globals closure [] qual func code (some around) builtins) Q E s := by
  simp only [newFunctionEnv, Option.isSome_some, if_true]
  refine wpAny_bind (wpAny_alloc ?_)
  refine wpAny_bind (wpAny_layCells _ (fun n k c => rfl) scope.names closure _ _ ?_)
  rw [show ({ s with heap := s.heap.push { cls := .type "dict", data := .dict #[] } } : Shared).heap.objs.size = s.heap.objs.size + 1 from Heap.size_push ..]
  rw [List.forIn_nil]
  exact wpAny_bind (wpAny_pure (wpAny_pure h))
/-- every name of the written scope, in the scope that runs -/
theorem lookup_relS {sc : Scope} : ∀ {names : List (Str × NameKind)} {x : Str} {k : NameKind},
    (names.map fun (n, k) => if (k == NameKind.free && sc.kind == .function && sc.names.lookup n == some .cell) then (n, NameKind.cell) else (n, k)).lookup x = some k →
    ∃ k', names.lookup x = some k' ∧ (k = k' ∨ (k' = .free ∧ k = .cell))
  | [], _, _, h => by simp at h
  | (n, k₀) :: r, x, k, h => by
    have ih := @lookup_relS sc r x k
    have h' : List.lookup x ((if (k₀ == NameKind.free && sc.kind == .function && sc.names.lookup n == some .cell) = true then (n, NameKind.cell) else (n, k₀)) :: (r.map _)) = some k := h
    cases hx : x == n with
    | true =>
      simp only [List.lookup_cons, hx]
      by_cases hc : (k₀ == NameKind.free && sc.kind == .function && sc.names.lookup n == some .cell) = true
      · rw [if_pos hc] at h'
        simp only [List.lookup_cons, hx] at h'
        cases h'
        simp only [Bool.and_eq_true, beq_iff_eq] at hc
        exact ⟨k₀, rfl, .inr ⟨hc.1.1, rfl⟩⟩
      · rw [if_neg hc] at h'
        simp only [List.lookup_cons, hx] at h'
        cases h'
        exact ⟨_, rfl, .inl rfl⟩
    | false =>
      simp only [List.lookup_cons, hx]
      by_cases hc : (k₀ == NameKind.free && sc.kind == .function && sc.names.lookup n == some .cell) = true
      · rw [if_pos hc] at h'
        simp only [List.lookup_cons, hx] at h'
        exact ih h'
      · rw [if_neg hc] at h'
        simp only [List.lookup_cons, hx] at h'
        exact ih h'
/-- the names of a comprehension's block: its own (with their places in N), or captured -/
structure BlkOk (N : List Str) (sc scope : Scope) (own : List (Str × Nat)) : Prop where
  kind : scope.kind = .function
  uniq : ∀ y ∈ scope.names, scope.names.lookup y.1 = some y.2
  ix : ∀ p ∈ own, N[p.2]? = some p.1
  free : ∀ y ∈ scope.names, y.2 = .free → sc.names.lookup y.1 = some .cell ∨ sc.names.lookup y.1 = some .free
  own : ∀ y ∈ scope.names, y.2 = .local ∨ y.2 = .cell → y.1 ∈ own.map (·.1) ∨ y.1 ∉ N
/-- the slots of the block's own names forgotten -/
def wipe (σ : St) : List Nat → St
  | [] => σ
  | v :: vs => (wipe σ vs).set v none
theorem wipe_length (σ : St) : ∀ vs : List Nat, (wipe σ vs).length = σ.length
  | [] => rfl
  | v :: vs => by unfold wipe; rw [List.length_set, wipe_length σ vs]
theorem wipe_some {σ : St} {i : Nat} {x : V} : ∀ {vs : List Nat}, (wipe σ vs)[i]? = some (some x) → σ[i]? = some (some x) ∧ i ∉ vs
  | [], h => ⟨h, by simp⟩
  | v :: vs, h => by
    unfold wipe at h
    by_cases hi : v = i
    · subst hi
      by_cases hv : v < (wipe σ vs).length
      · rw [List.getElem?_set_self hv] at h; cases h
      · rw [List.getElem?_eq_none (by simpa using hv)] at h; cases h
    · rw [List.getElem?_set_ne hi] at h
      obtain ⟨h1, h2⟩ := wipe_some h
      exact ⟨h1, by simp only [List.mem_cons, not_or]; exact ⟨fun e => hi e.symm, h2⟩⟩
/-- the context of a block that starts at s, its iterator's objects at fp -/
abbrev Cx.blk (X : Cx) (s : Shared) (H : Hp) (scope : Scope) (cenv : Env) (fp : List Addr) : Cx := { X with s_0 := s, H_0 := H, env := cenv, outer := X.stack, ex := fp, fn := fun x => scope.names.lookup x == some .cell, pn := [], xe := fun _ _ => False }
section
variable {X : Cx} {pins : List (Addr × Obj)} {σ : St} {H : Hp} {s : Shared}
theorem block_start {scope : Scope} {own : List (Str × Nat)} {fp : List Addr} (I : Inv X pins σ H s) (ok : BlkOk X.N X.env.scope scope own) (hN : X.N.Nodup) (hfp : ∀ b ∈ fp, FpOk X pins H b ∧ b < s.heap.objs.size) :
    Inv (X.blk s H scope (compEnvC scope (cellsFrom (s.heap.objs.size + 1) scope.names (cloFrom X.env.cells scope.names [])) s.heap.objs.size X.env) fp) [] (wipe σ (own.map (·.2))) H { s with heap := pushCells (s.heap.push { cls := .type "dict", data := .dict #[] }) scope.names } := by
  have hfree : ∀ y ∈ scope.names, y.2 = .free → ∃ c, X.env.cells.lookup y.1 = some c := fun y hy e => by
    rcases ok.free y hy e with k | k
    · exact I.ok.has _ (.inl k)
    · exact I.ok.has _ (.inr k)
  generalize hcenv : compEnvC scope (cellsFrom (s.heap.objs.size + 1) scope.names (cloFrom X.env.cells scope.names [])) s.heap.objs.size X.env = cenv
  have kp : ∀ b o, s.heap.get? b = some o → (pushCells (s.heap.push { cls := .type "dict", data := .dict #[] }) scope.names).get? b = some o := fun b o e => pushCells_keeps _ _ _ _ (Heap.get?_push_of_some _ e)
  have hL : cenv.locals = s.heap.objs.size := by rw [← hcenv]; rfl
  have hcl : cenv.cells = cellsFrom (s.heap.objs.size + 1) scope.names (cloFrom X.env.cells scope.names []) := by rw [← hcenv]; rfl
  have hsc : cenv.scope = relS scope X.env.scope := by rw [← hcenv]; rfl
  rw [← Heap.size_push s.heap { cls := .type "dict", data := .dict #[] }] at hcl
  have cm : ∀ {y c}, (y, c) ∈ cloFrom X.env.cells scope.names [] → X.env.cells.lookup y = some c ∧ c < s.heap.objs.size := fun {y c} hm => by
    rcases cloFrom_mem hm with hm | ⟨h1, rfl⟩
    · cases hm
    · obtain ⟨c, hc⟩ := hfree _ h1 rfl
      rw [hc]
      obtain ⟨w, z⟩ := I.cell _ _ hc
      exact ⟨rfl, z.lt⟩
  have mem : ∀ {y c}, cenv.cells.lookup y = some c → (X.env.cells.lookup y = some c ∧ c < s.heap.objs.size) ∨ (s.heap.objs.size + 1 ≤ c ∧ CellAt (pushCells (s.heap.push { cls := .type "dict", data := .dict #[] }) scope.names) c none) := fun {y c} e => by
    rw [hcl] at e
    rcases cells_mem (PySem.mem_of_lookup e) with hm | ⟨_, h2, h3⟩
    · exact .inl (cm hm)
    · rw [Heap.size_push] at h2; exact .inr ⟨h2, h3⟩
  have look : ∀ {y}, scope.names.lookup y = some .free → ∃ c, cenv.cells.lookup y = some c ∧ X.env.cells.lookup y = some c := fun {y} hl => by
    have hy : (y, NameKind.free) ∈ scope.names := PySem.mem_of_lookup hl
    obtain ⟨c', e'⟩ := mem_lookup (cells_acc (names := scope.names) (n := (s.heap.push { cls := .type "dict", data := .dict #[] }).objs.size) (cloFrom_has (cells := X.env.cells) (acc := []) hy))
    rw [← hcl] at e'
    refine ⟨c', e', ?_⟩
    rw [hcl] at e'
    rcases cells_mem (PySem.mem_of_lookup e') with hm | ⟨h1, _, _⟩
    · exact (cm hm).1
    · have := ok.uniq _ h1
      rw [hl] at this; cases this
  have okB : (X.blk s H scope cenv fp).Ok := by
    refine ⟨I.ok.mod, by show cenv.scope.kind = _; rw [hsc]; exact ok.kind, by show cenv.globals = _; rw [← hcenv]; exact I.ok.glob, by show cenv.builtins = _; rw [← hcenv]; exact I.ok.blt, by show s.heap.objs.size ≤ cenv.locals; rw [hL]; exact Nat.le_refl _,
      fun y z c e1 e2 => ?_, fun y hy => ?_, fun y c z e => ?_, I.ok.hd, I.ok.frames, .inl rfl, fun b hb => ⟨?_, fun y c e z => ?_⟩, I.bs, Nat.le_trans I.ok.bsz I.sz, fun b o e hb => ?_, fun b hb z => ?_, I.stack, I.stkFree⟩
    · have e1 : cenv.cells.lookup y = some c := e1
      have e2 : cenv.cells.lookup z = some c := e2
      rw [hcl] at e1 e2
      refine cells_inj (fun p hp => ?_) (fun y z c a b => I.ok.inj y z c (cm a).1 (cm b).1) (PySem.mem_of_lookup e1) (PySem.mem_of_lookup e2)
      rw [Heap.size_push]
      exact Nat.lt_succ_of_lt (cm (y := p.1) (c := p.2) hp).2
    · show ∃ c, cenv.cells.lookup y = some c
      have key : ∀ k, cenv.kindOf y = some k → (k = .cell ∨ k = .free) → ∃ c, cenv.cells.lookup y = some c := fun k hk hk' => by
        unfold Env.kindOf at hk
        rw [hsc] at hk
        obtain ⟨k', e, r⟩ := lookup_relS hk
        have : k' = .cell ∨ k' = .free := by
          rcases r with rfl | ⟨rfl, _⟩
          · exact hk'
          · exact .inr rfl
        rcases this with rfl | rfl
        · obtain ⟨c, hm⟩ := cells_has (n := (s.heap.push { cls := .type "dict", data := .dict #[] }).objs.size) (acc := cloFrom X.env.cells scope.names []) (PySem.mem_of_lookup e)
          obtain ⟨c', e'⟩ := mem_lookup hm
          exact ⟨c', by rw [hcl]; exact e'⟩
        · obtain ⟨c, h1, _⟩ := look e
          exact ⟨c, h1⟩
      rcases hy with hy | hy
      · exact key _ hy (.inl rfl)
      · exact key _ hy (.inr rfl)
    · have z : (scope.names.lookup y == some NameKind.cell) = true := z
      have z : scope.names.lookup y = some .cell := by simpa using z
      have e : cenv.cells.lookup y = some c := e
      rw [hcl] at e
      rcases cells_mem (PySem.mem_of_lookup e) with hm | ⟨_, h2, _⟩
      · rcases cloFrom_mem hm with hm | ⟨h1, _⟩
        · cases hm
        · have q := ok.uniq _ h1
          rw [z] at q; cases q
      · rw [Heap.size_push] at h2
        exact Nat.le_of_succ_le h2
    · show b ≠ cenv.locals
      rw [hL]; exact Nat.ne_of_lt (hfp b hb).2
    · have e : cenv.cells.lookup y = some c := e
      rcases mem e with ⟨h1, _⟩ | ⟨h1, _⟩
      · exact (hfp b hb).1.2.2.2.2.1 y c h1 z
      · have h2 : s.heap.objs.size + 1 ≤ b := by rw [← z]; exact h1
        exact absurd (Nat.lt_of_lt_of_le (hfp b hb).2 (Nat.le_of_succ_le h2)) (Nat.lt_irrefl _)
    · rcases (hfp b hb).1.2.2.2.1 with z | z
      · exact I.ok.noex b o e z
      · exact absurd (Nat.lt_of_lt_of_le (Heap.lt_size e) (Nat.le_trans I.ok.bsz z)) (Nat.lt_irrefl _)
    · rcases List.mem_cons.mp (I.stkSub b z) with z | z
      · exact (hfp b hb).1.2.1 z
      · exact (hfp b hb).1.2.2.1 z
  refine ⟨okB, rfl, I.bare, Un.kept kp, ⟨fun _ => none, ?_, fun i y av e1 e2 e3 => ?_⟩, fun y c e => ?_, ?_, fun y c e => ?_, fun p hp => ?_, I.hok.kept kp, by rw [wipe_length]; exact I.len⟩
  · show Heap.Ns _ cenv.locals _
    rw [hL]
    exact Heap.Ns.keeps (Heap.Ns.new ..) fun b o e => pushCells_keeps _ _ _ _ e
  · obtain ⟨e2, hne⟩ := wipe_some e2
    have hfr : scope.names.lookup y = some .free ∧ (cenv.kindOf y = some .cell ∨ cenv.kindOf y = some .free) := by
      have key : ∀ k, cenv.scope.names.lookup y = some k → k = .local ∨ k = .cell ∨ k = .free → scope.names.lookup y = some .free ∧ (cenv.kindOf y = some .cell ∨ cenv.kindOf y = some .free) := fun k hk hk' => by
        have hk0 := hk
        rw [hsc] at hk
        obtain ⟨k', e, r⟩ := lookup_relS hk
        have no : ¬ (k' = .local ∨ k' = .cell) := fun hh => by
          rcases ok.own _ (PySem.mem_of_lookup e) hh with e' | e'
          · obtain ⟨p, hp, hpy⟩ := List.mem_map.mp e'
            have e3 := ok.ix p hp
            have : p.1 = y := hpy
            rw [this] at e3
            exact hne (List.mem_map.mpr ⟨p, hp, nodup_ix hN e3 e1⟩)
          · exact e' (List.mem_of_getElem? e1)
        rcases r with rfl | ⟨rfl, rfl⟩
        · rcases hk' with rfl | rfl | rfl
          · exact absurd (.inl rfl) no
          · exact absurd (.inr rfl) no
          · exact ⟨e, .inr hk0⟩
        · exact ⟨e, .inl hk0⟩
      have e3 : Vis cenv.scope y := e3
      rcases e3 with e3 | e3 | e3
      · exact key _ e3 (.inl rfl)
      · exact key _ e3 (.inr (.inl rfl))
      · exact key _ e3 (.inr (.inr rfl))
    obtain ⟨m, hn, hl⟩ := I.loc
    have hvis : Vis X.env.scope y := (ok.free _ (PySem.mem_of_lookup hfr.1) rfl).elim (fun k => .inr (.inl k)) (fun k => .inr (.inr k))
    obtain ⟨w, r, q⟩ := hl i y av e1 e2 hvis
    refine ⟨w, r, .inr ⟨hfr.2, ?_⟩⟩
    obtain ⟨c, h1, h2⟩ := look hfr.1
    rcases q with ⟨k, _⟩ | ⟨_, c', e', z⟩
    · have k : X.env.scope.names.lookup y = some .local := k
      rcases ok.free _ (PySem.mem_of_lookup hfr.1) rfl with k' | k' <;> rw [show X.env.scope.names.lookup y = _ from k'] at k <;> cases k
    · rw [h2] at e'; cases e'
      exact ⟨c, h1, z.keeps kp⟩
  · have e : cenv.cells.lookup y = some c := e
    rcases mem e with ⟨h1, _⟩ | ⟨_, z⟩
    · obtain ⟨w, z⟩ := I.cell y c h1
      exact ⟨w, z.keeps kp⟩
    · exact ⟨_, z⟩
  · show H cenv.locals = none
    rw [hL]; exact I.hok.fresh (Nat.le_refl _)
  · have e : cenv.cells.lookup y = some c := e
    rcases mem e with ⟨h1, _⟩ | ⟨h1, _⟩
    · exact I.freeC y c h1
    · exact I.hok.fresh (Nat.le_of_succ_le h1)
  · exact absurd (show p ∈ ([] : List (Addr × Obj)) ++ [] from hp) (by simp)
/-- an item appended to a tracked list -/
theorem app_ok {E : Value → Shared → Prop} {D : Addr} {xs : List V} {y : V} {v : Value} {Q : Value → Shared → Prop} (I : Inv X pins σ H s) (hD : H D = some (.lst xs)) (hz : xs.length < sizeLine) (r : RelV y v)
    (h : ∀ s', Inv X pins σ (upd H D (.lst (xs ++ [y]))) s' → Q .none s') : wpAny (model X.prog X.w) X.A (call (.builtin "list.append") [.ref D, v]) Q E s := by
  obtain ⟨hz', its, n, ri, e⟩ := I.hok D _ hD
  have hl := ri.length
  refine append_at (hsz := by rw [List.size_toArray]; omega) e fun h' sb ho' => ?_
  refine h { s with heap := h' } (I.write (t' := s.toks) (by rw [hD]; trivial) (.inl rfl) (fun b u hb q => (sb.2 b hb).trans q) ⟨_, ho'⟩ ⟨by rw [List.length_append]; exact hz, its ++ [v], n + 1, ri.append (.cons r .nil), ?_⟩)
  rw [ho']
  simp
/-- a clause's tests -/
def PTs (X : Cx) (ifs : List Expr) (t : TT) : Prop :=
  ∀ (pins : List (Addr × Obj)) (s : Shared) (σ : St) (H : Hp) (Q : Bool → Hp → Prop), Inv X pins σ H s → t σ H Q →
    wpAny (model X.prog X.w) X.A (forIn ifs true fun c r => if r = true then do let ok ← isTrue c X.env (eval c X.env); pure (ForInStep.yield ok) else pure (ForInStep.yield r)) (TP X pins σ Q) X.xe s
def tYes : TT := fun _ H Q => Q true H
theorem pts_nil : PTs X [] tYes := fun _ _ _ H _ I h => wpAny_tests_nil ⟨H, I, h⟩
theorem pts_one {c : Expr} {t : TT} (h : PT X c t) : PTs X [c] t := fun pins s σ H Q I hw => wpAny_tests_one (h pins s σ H Q I hw)
end
theorem thnF {α : Type} {t : Sem α} {Q Q' : α → Shared → Prop} {M : Model} {A : Around} {E : Value → Shared → Prop} {s : Shared} (h : wpAny M A t Q (fun _ _ => False) s) (hQ : ∀ a s, Q a s → Q' a s) : wpAny M A t Q' E s := wpAny_mono h hQ fun _ _ z => False.elim z
/-- the loop of a list comprehension's block, the target of any form (codeAny_compLoop_tests asks a target that no tuple goes to; statement and proof follow it, PyProof/CompMap.lean:41-61, with the step letOwnedTupleGo kept) -/
theorem compLoop_any {prog : Program} {w : World} {A : Around} {R : Result → Shared → Prop} {s : Shared} {elt target iter : Expr} {ifs : List Expr} {scope : Scope} {pos : Pos} {it acc : Value} {env : Env} (I : Nat → Shared → Prop)
    (turn : ∀ n s, I n s → wpAny (model prog w) A (pyNext it) (fun r s₁ => match r with
      | none => R (.ok .next) s₁
      | some v => wpAny (model prog w) A (letOwnedTupleGo target it v) (fun _ s₁' => wpAny (model prog w) A (assign target env v) (fun _ s₂ =>
          wpAny (model prog w) A (forIn ifs true fun c r => if r = true then do let ok ← isTrue c env (eval c env); pure (ForInStep.yield ok) else pure (ForInStep.yield r)) (fun ok s₃ =>
            if ok = true then wpAny (model prog w) A (eval elt env) (fun x s₄ =>
              wpAny (model prog w) A (call (.builtin "list.append") [acc, x]) (fun _ s₅ => ∃ m, m < n ∧ I m s₅) (notedBy (model prog w) A env fun e s' => R (.error e) s') s₄) (notedBy (model prog w) A env fun e s' => R (.error e) s') s₃
            else ∃ m, m < n ∧ I m s₃) (notedBy (model prog w) A env fun e s' => R (.error e) s') s₂) (notedBy (model prog w) A env fun e s' => R (.error e) s') s₁') (notedBy (model prog w) A env fun e s' => R (.error e) s') s₁) (notedBy (model prog w) A env fun e s' => R (.error e) s') s)
    (n : Nat) (h : I n s) :
    codeAny (model prog w) A (.compLoop (.ListComp elt [⟨target, iter, ifs, 0⟩] scope pos) 0 it acc env) R s := by
  refine codeAny_loop rfl I (fun n s hI => ?_) n h
  show wpAny _ A ((compTurn (.ListComp elt [⟨target, iter, ifs, 0⟩] scope pos) 0 it acc env).onRaise (fun x => do noteFrame x env; theTreesLotGoes x)) _ _ s
  refine wpAny_noted ?_
  rw [compTurn_list]
  refine wpAny_bind (wpAny_standAt (wpAny_bind (wpAny_mono (turn n s hI) (fun r s₁ h₁ => ?_) fun _ _ h' => h')))
  cases r with
  | none => exact wpAny_pure h₁
  | some v =>
    refine wpAny_bind (wpAny_mono h₁ (fun _ s₁' h₁' => ?_) fun _ _ h' => h')
    refine wpAny_bind (wpAny_mono h₁' (fun _ s₂ h₂ => wpAny_bind (wpAny_mono h₂ (fun ok s₃ h₃ => ?_) fun _ _ h' => h')) fun _ _ h' => h')
    cases ok with
    | false => exact wpAny_pure ⟨rfl, h₃⟩
    | true =>
      exact wpAny_bind (wpAny_bind (wpAny_mono h₃ (fun x s₄ h₄ => wpAny_bind (wpAny_mono h₄ (fun _ s₅ h₅ => wpAny_pure (wpAny_pure ⟨rfl, h₅⟩)) fun _ _ h' => h')) fun _ _ h' => h'))
section
variable {X : Cx}
/-- [elt for target in iter if ..]: D the new list; W by the turn and a measure, Nx what a turn is to reach -/
def tLc (wi : TI) (g : TG) (tt : TT) (te : TE) (vs : List Nat) : TE := fun σ H Q => wi σ H fun J H1 => ∀ D, H1 D = none → ∃ W : Nat → Nat → Hp → Prop, (∃ m, W 0 m (upd H1 D (.lst []))) ∧ ∀ i m H, W i m H →
  (J.stop i H ∧ Q (.ref D) H) ∨ (J.go i H ∧ ∃ Nx : Hp → Prop, (∀ H', Nx H' → ∃ m', m' < m ∧ W (i + 1) m' H') ∧ ∀ x H', J.yld i H x H' → g x (wipe σ vs) H' fun σ2 H2 => wipe σ2 vs = wipe σ vs ∧ tt σ2 H2 fun b H3 =>
    if b = true then te σ2 H3 fun y H4 => ∃ acc, H4 D = some (.lst acc) ∧ acc.length < sizeLine ∧ Nx (upd H4 D (.lst (acc ++ [y]))) else Nx H3)
theorem lc_core {pins : List (Addr × Obj)} {s : Shared} {σ : St} {H : Hp} {Q : VK} {elt tg iter : Expr} {ifs : List Expr} {scope : Scope} {own : List (Str × Nat)} {pos pos' : Pos} {wi : TI} {g : TG} {tt : TT} {te : TE} {use : Option (Value → Sem Unit)} {Qf : Value → Shared → Prop}
    (hc : X.calm = true) (hN : X.N.Nodup) (I : Inv X pins σ H s) (hi : PI X tg iter wi) (ok : BlkOk X.N X.env.scope scope own)
    (hg : ∀ (s : Shared) (H : Hp) (C : Addr) (cl : List (Str × Addr)) (fp : List Addr), PG (X.blk s H scope (compEnvC scope cl C X.env) fp) tg g) (ht : ∀ (s : Shared) (H : Hp) (C : Addr) (cl : List (Str × Addr)) (fp : List Addr), PTs (X.blk s H scope (compEnvC scope cl C X.env) fp) ifs tt)
    (he : ∀ (s : Shared) (H : Hp) (C : Addr) (cl : List (Str × Addr)) (fp : List Addr), PE (X.blk s H scope (compEnvC scope cl C X.env) fp) elt te) (hs : ∀ x, foldedSetIterable iter X.env x = pure x)
    (h : tLc wi g tt te (own.map (·.2)) σ H Q)
    (hRR : ∀ D C s' m H', Inv X pins σ H' s' → Q (.ref D) H' → s'.heap.Ns C m → FpOk X pins H' C → compPost (model X.prog X.w) X.A X.xe use Qf (.ref D) C (.ok .next) s') :
    wpAny (model X.prog X.w) X.A (comprehension (.ListComp elt [⟨tg, iter, ifs, 0⟩] scope pos) scope X.env pos' (newList []) false (eval iter X.env) use) Qf X.xe s := by
  have hfree : ∀ y ∈ scope.names, y.2 = .free → ∃ c, X.env.cells.lookup y.1 = some c := fun y hy e => by
    rcases ok.free y hy e with k | k
    · exact I.ok.has _ (.inl k)
    · exact I.ok.has _ (.inr k)
  refine wpAny_comprehension_free (use := use) rfl hs (closure_ok hfree) ok.kind (fun y hy e => by rw [ok.uniq y hy, e])
    (thn (hi pins s σ H _ I h) fun xv s1 hx => thn hx fun itv s2 h2 => ?_)
  obtain ⟨it, fp, tn, J, H2, e, I2, T, st2, f2, q⟩ := h2
  subst e
  refine wpAny_newObj_type (newEnv_comp ?_) (by show 0 ≤ sizeLine; decide)
  generalize hD : s2.heap.objs.size = D
  have hDn : H2 D = none := I2.hok.fresh (Nat.le_of_eq hD)
  obtain ⟨W, ⟨m0, w0⟩, turn⟩ := q D hDn
  -- the new list
  generalize hs3 : ({ s2 with heap := s2.heap.push { cls := .type "list", data := .seq ([] : List Value).toArray } } : Shared) = s3
  have I3 : Inv X pins σ (upd H2 D (.lst [])) s3 := by
    rw [← hs3]
    refine I2.laid (t' := s2.toks) (fun b o e => Heap.get?_push_of_some _ e) (Nat.le_of_eq hD) ⟨Nat.zero_le _, [], 0, .nil, ?_⟩
    rw [← hD]
    exact Heap.get?_push_size _ rfl
  have h3 : s3.heap = s2.heap.push { cls := .type "list", data := .seq ([] : List Value).toArray } := by rw [← hs3]
  have sz : ∀ b ∈ fp, b < s2.heap.objs.size := fun b hb => by
    obtain ⟨o, e, _⟩ := T.obj _ _ st2 b hb
    exact Heap.lt_size e
  have f3 : ∀ b ∈ fp, FpOk X pins (upd H2 D (.lst [])) b ∧ b < s3.heap.objs.size := fun b hb => by
    have hlt := sz b hb
    refine ⟨⟨?_, (f2 b hb).2⟩, by rw [h3, Heap.size_push]; exact Nat.lt_succ_of_lt hlt⟩
    rw [upd_ne (by rw [← hD]; exact Nat.ne_of_lt hlt)]
    exact (f2 b hb).1
  have st3 : tn 0 s3.heap := T.keep _ _ _ st2 fun b _ o e => by rw [h3]; exact Heap.get?_push_of_some _ e
  have I4 := block_start I3 ok hN f3
  have pg := hg s3 (upd H2 D (.lst [])) s3.heap.objs.size (cellsFrom (s3.heap.objs.size + 1) scope.names (cloFrom X.env.cells scope.names [])) fp
  have pt := ht s3 (upd H2 D (.lst [])) s3.heap.objs.size (cellsFrom (s3.heap.objs.size + 1) scope.names (cloFrom X.env.cells scope.names [])) fp
  have pe := he s3 (upd H2 D (.lst [])) s3.heap.objs.size (cellsFrom (s3.heap.objs.size + 1) scope.names (cloFrom X.env.cells scope.names [])) fp
  show codeAny _ _ (.compStart (.ListComp elt [⟨tg, iter, ifs, 0⟩] scope pos) 0 (.ref it) (.ref D) (compEnvC scope (cellsFrom (s3.heap.objs.size + 1) scope.names (cloFrom X.env.cells scope.names [])) s3.heap.objs.size X.env)) (compPost (model X.prog X.w) X.A X.xe use Qf (.ref D) s3.heap.objs.size) { s3 with heap := pushCells (s3.heap.push { cls := .type "dict", data := .dict #[] }) scope.names }
  have nfp : ∀ b ∈ fp, (upd H2 D (.lst [])) b = none := fun b hb => (f3 b hb).1.1
  generalize hce : compEnvC scope (cellsFrom (s3.heap.objs.size + 1) scope.names (cloFrom X.env.cells scope.names [])) s3.heap.objs.size X.env = ce at I4 pg pt pe ⊢
  have cL : ce.locals = s3.heap.objs.size := by subst hce; rfl
  generalize hH3 : upd H2 D (.lst []) = H3 at I3 I4 pg pt pe w0 nfp f3
  generalize hs4 : ({ s3 with heap := pushCells (s3.heap.push { cls := .type "dict", data := .dict #[] }) scope.names } : Shared) = s4 at I4 ⊢
  have st4 : tn 0 s4.heap := T.keep _ _ _ st3 fun b _ o e => by rw [← hs4]; exact pushCells_keeps _ _ _ _ (Heap.get?_push_of_some _ e)
  have stat : ∀ {σ' : St} {H' : Hp} {s' : Shared}, Inv (X.blk s3 H3 scope ce fp) [] σ' H' s' → (∀ b ∈ fp, H' b = none) → ∀ b ∈ fp, FpOk (X.blk s3 H3 scope ce fp) [] H' b := fun {σ' H' s'} I' hn b hb =>
    ⟨hn b hb, (I'.ok.exf b hb).1, I'.ok.exfs b hb, .inl hb, fun x c e => (I'.ok.exf b hb).2 x c e, fun p hp => absurd (show p ∈ ([] : List (Addr × Obj)) ++ [] from hp) (by simp)⟩
  have loop : codeAny (model X.prog X.w) X.A (.compLoop (.ListComp elt [⟨tg, iter, ifs, 0⟩] scope pos) 0 (.ref it) (.ref D) ce) (compPost (model X.prog X.w) X.A X.xe use Qf (.ref D) s3.heap.objs.size) s4 := by
    refine compLoop_any (fun n s' => ∃ i H', Inv (X.blk s3 H3 scope ce fp) [] (wipe σ (own.map (·.2))) H' s' ∧ tn i s'.heap ∧ (∀ b ∈ fp, H' b = none) ∧ W i n H') ?_ m0 ⟨0, H3, I4, st4, nfp, w0⟩
    rintro n s5 ⟨i, H5, I5, st5, n5, w5⟩
    rcases turn i n H5 w5 with ⟨stop, qq⟩ | ⟨go, Nx, hNx, step⟩
    · have td := T.done (X.blk s3 H3 scope ce fp) rfl rfl rfl hc i [] s5 _ H5 (fun _ _ => False) I5 (stat I5 n5) st5 stop
      refine thnF td fun r s6 ⟨hr, I6⟩ => ?_
      subst hr
      -- back in the def's context
      have I7 : Inv X pins σ H5 s6 := I3.call' (ch := fp) I6.os I6.base I6.hok I6.bare fun b hb => ⟨(f3 b hb).1.2.2.2.1, (f3 b hb).1.2.1, (f3 b hb).1.2.2.2.2.1, (f3 b hb).1.2.2.2.2.2⟩
      have nC : H5 s3.heap.objs.size = none := by
        have z : H5 ce.locals = none := I6.free
        rw [cL] at z
        exact z
      obtain ⟨m, hn, _⟩ := I6.loc
      have hn : s6.heap.Ns ce.locals m := hn
      rw [cL] at hn
      exact hRR D s3.heap.objs.size s6 m H5 I7 qq hn (I3.fpOk (Nat.le_refl _) nC)
    · have ti := T.item (X.blk s3 H3 scope ce fp) rfl rfl rfl hc i [] s5 _ H5 (fun _ _ => False) I5 (stat I5 n5) st5 go
      refine thnF ti fun r s6 ⟨u, hr, h6⟩ => ?_
      subst hr
      refine thnF h6 fun _ s7 ⟨x, H7, I7, r7, y7, st7, n7⟩ => ?_
      have I7' := I7.pinned (stat I7 n7) (T.obj _ _ st7)
      refine thnF (pg _ s7 _ H7 x u _ I7' r7 (step x H7 y7)) fun _ s8 ⟨σ8, H8, I8, hw8, q8⟩ => ?_
      refine thnF (pt _ s8 σ8 H8 _ I8 q8) fun b s9 ⟨H9, I9, q9⟩ => ?_
      -- the turn's end
      have fin : ∀ {s' : Shared} {H' : Hp}, Inv (X.blk s3 H3 scope ce fp) ([] ++ pinsAt fp s7.heap) σ8 H' s' → Nx H' → ∃ m, m < n ∧ ∃ i H', Inv (X.blk s3 H3 scope ce fp) [] (wipe σ (own.map (·.2))) H' s' ∧ tn i s'.heap ∧ (∀ b ∈ fp, H' b = none) ∧ W i m H' := fun {s' H'} I' nx => by
        obtain ⟨m', hm, w'⟩ := hNx H' nx
        have pin' : ∀ b ∈ fp, ∀ o, s7.heap.get? b = some o → s'.heap.get? b = some o ∧ H' b = none := fun b hb o e =>
          let z := I'.pin (b, o) (List.mem_append_right _ (List.mem_append_right _ (mem_pinsAt hb e)))
          ⟨z.1, z.2.1⟩
        have hl : (wipe σ (own.map (·.2))).length = σ8.length := by rw [← hw8, wipe_length]
        refine ⟨m', hm, i + 1, H', (I'.unpinned (pins := [])).weak hl (fun j v e => ?_), T.keep _ _ _ st7 fun b hb o e => (pin' b hb o e).1, fun b hb => ?_, w'⟩
        · rw [← hw8] at e
          exact (wipe_some e).1
        · obtain ⟨o, e, _⟩ := T.obj _ _ st7 b hb
          exact (pin' b hb o e).2
      cases b with
      | false =>
        simp only [Bool.false_eq_true, if_false] at q9 ⊢
        exact fin I9 q9
      | true =>
        simp only [if_true] at q9 ⊢
        refine thnF (pe _ s9 σ8 H9 _ I9 q9) fun z s10 ⟨yv, H10, I10, r10, acc, hD10, hz10, nx⟩ => ?_
        exact app_ok (X := X.blk s3 H3 scope ce fp) I10 hD10 hz10 r10 fun s11 I11 => fin I11 nx
  exact codeAny_compStart_list loop (T.self X.A 0 _ _ _ st4 loop)
/-- as a value -/
theorem pe_lc {elt tg iter : Expr} {ifs : List Expr} {scope : Scope} {own : List (Str × Nat)} {pos : Pos} {wi : TI} {g : TG} {tt : TT} {te : TE} (hc : X.calm = true) (hN : X.N.Nodup) (hi : PI X tg iter wi) (ok : BlkOk X.N X.env.scope scope own)
    (hg : ∀ (s : Shared) (H : Hp) (C : Addr) (cl : List (Str × Addr)) (fp : List Addr), PG (X.blk s H scope (compEnvC scope cl C X.env) fp) tg g) (ht : ∀ (s : Shared) (H : Hp) (C : Addr) (cl : List (Str × Addr)) (fp : List Addr), PTs (X.blk s H scope (compEnvC scope cl C X.env) fp) ifs tt)
    (he : ∀ (s : Shared) (H : Hp) (C : Addr) (cl : List (Str × Addr)) (fp : List Addr), PE (X.blk s H scope (compEnvC scope cl C X.env) fp) elt te) (hs : ∀ x, foldedSetIterable iter X.env x = pure x := by intro _; rfl) :
    PE X (.ListComp elt [⟨tg, iter, ifs, 0⟩] scope pos) (tLc wi g tt te (own.map (·.2))) := by
  intro pins s σ H Q I h
  rw [eval_ListComp]
  refine lc_core hc hN I hi ok hg ht he hs h fun D C s' m H' I' q hn f => ⟨m, hn, fun h'' sb => ?_⟩
  obtain ⟨f0, f1, f2, f3, f4, f5⟩ := f
  exact ⟨.ref D, H', I'.turned (t' := s'.toks) (fun b o hb e => (sb.2 b hb).trans e) f0 f1 f3 f4 f5, rfl, q⟩
/-- name = [..] on one line, the name a local -/
theorem ps_setLc {i : Nat} {y : Str} {py : Pos} {elt tg iter : Expr} {ifs : List Expr} {scope : Scope} {own : List (Str × Nat)} {pos spos : Pos} {wi : TI} {g : TG} {tt : TT} {te : TE} (hc : X.calm = true) (hN : X.N.Nodup) (hy : X.N[i]? = some y) (hyl : X.env.scope.names.lookup y = some .local)
    (hsw : swapsWith (.ListComp elt [⟨tg, iter, ifs, 0⟩] scope pos) (some (.Name y py)) spos.line X.env = pure true) (hi : PI X tg iter wi) (ok : BlkOk X.N X.env.scope scope own)
    (hg : ∀ (s : Shared) (H : Hp) (C : Addr) (cl : List (Str × Addr)) (fp : List Addr), PG (X.blk s H scope (compEnvC scope cl C X.env) fp) tg g) (ht : ∀ (s : Shared) (H : Hp) (C : Addr) (cl : List (Str × Addr)) (fp : List Addr), PTs (X.blk s H scope (compEnvC scope cl C X.env) fp) ifs tt)
    (he : ∀ (s : Shared) (H : Hp) (C : Addr) (cl : List (Str × Addr)) (fp : List Addr), PE (X.blk s H scope (compEnvC scope cl C X.env) fp) elt te) (hs : ∀ x, foldedSetIterable iter X.env x = pure x := by intro _; rfl) :
    PS X (.Assign [.Name y py] (.ListComp elt [⟨tg, iter, ifs, 0⟩] scope pos) spos) (tAsg (tLc wi g tt te (own.map (·.2))) (gName i)) := by
  intro pins s σ H D I h
  rw [exec_Assign_Name_used _ _ _ _ hsw]
  refine wpAny_bind (wpAny_standAt (wpAny_bind ?_))
  show wpAny _ X.A (do let _ ← comprehension (.ListComp elt [⟨tg, iter, ifs, 0⟩] scope pos) scope X.env (firstIterPos [⟨tg, iter, ifs, 0⟩] pos) (newList []) false (eval iter X.env) (some (assign (.Name y py) X.env))) _ _ s
  have h : tLc wi g tt te (own.map (·.2)) σ H (fun x H1 => gName i x σ H1 D.nx) := h
  refine wpAny_bind (thn (lc_core (Qf := fun _ s' => SP X pins D .next s') hc hN I hi ok hg ht he hs h fun L C s' m H' I' q hn f => ?_) fun _ s' hq => wpAny_pure (wpAny_pure hq))
  show wpAny _ _ (assign (.Name y py) X.env (.ref L)) _ _ _
  refine wpAny_assign_Name (store_ok2 (v := V.ref L) I' hN hy (.inl hyl) rfl (fun s2 I2 ⟨a, sb, ha⟩ => ?_) (.inr hyl))
  obtain ⟨f0, f1, f2, f3, f4, f5⟩ := f
  have haC : C ≠ a := by
    rcases ha with z | z
    · rw [z]; exact f1
    · exact fun e => f4 y a z e.symm
  refine ⟨m, hn.sameBut sb haC, fun h3 sb3 => ?_⟩
  exact ⟨_, H', I2.turned (t' := s2.toks) (fun b o hb e => (sb3.2 b hb).trans e) f0 f1 f3 f4 f5, q⟩
theorem sw_true {elt : Expr} {gs : List Comprehension} {scope : Scope} {pos py : Pos} {y : Str} {l : Nat} {env : Env} (hk : env.scope.kind = .function) (hy : env.scope.names.lookup y = some .local) (hl : (py.line == pos.line) = true)
    (ha : (scope.names.any fun (n, k) => n == y && (k == .local || k == .cell)) = false) : swapsWith (.ListComp elt gs scope pos) (some (.Name y py)) l env = pure true := by
  have ky : env.kindOf y = some .local := hy
  have hb : env.blockKind = .function := by unfold Env.blockKind; rw [hk]; rfl
  unfold swapsWith
  simp only [hb, ky, ha, Expr.pos, hl]
  rfl
end
/-- over a range: Pv by the turn and the heap (the new list at D within) -/
theorem lc_range {lo : Int} {n : Nat} {g : TG} {tt : TT} {te : TE} {vs : List Nat} {σ : St} {H1 : Hp} {D : Addr} {Qd : Hp → Prop} (Pv : Nat → Hp → Prop) (h0 : Pv 0 (upd H1 D (.lst [])))
    (hs : ∀ i H, i < n → Pv i H → g (.int (lo + i)) (wipe σ vs) H fun σ2 H2 => wipe σ2 vs = wipe σ vs ∧ tt σ2 H2 fun b H3 =>
      if b = true then te σ2 H3 fun y H4 => ∃ acc, H4 D = some (.lst acc) ∧ acc.length < sizeLine ∧ Pv (i + 1) (upd H4 D (.lst (acc ++ [y]))) else Pv (i + 1) H3) (hd : ∀ H, Pv n H → Qd H) :
    ∃ W : Nat → Nat → Hp → Prop, (∃ m, W 0 m (upd H1 D (.lst []))) ∧ ∀ i m H, W i m H →
      ((Itr lo n).stop i H ∧ Qd H) ∨ ((Itr lo n).go i H ∧ ∃ Nx : Hp → Prop, (∀ H', Nx H' → ∃ m', m' < m ∧ W (i + 1) m' H') ∧ ∀ x H', (Itr lo n).yld i H x H' → g x (wipe σ vs) H' fun σ2 H2 => wipe σ2 vs = wipe σ vs ∧ tt σ2 H2 fun b H3 =>
        if b = true then te σ2 H3 fun y H4 => ∃ acc, H4 D = some (.lst acc) ∧ acc.length < sizeLine ∧ Nx (upd H4 D (.lst (acc ++ [y]))) else Nx H3) := by
  refine ⟨fun i m H => m = n - i ∧ i ≤ n ∧ Pv i H, ⟨n, by simp, Nat.zero_le _, h0⟩, ?_⟩
  rintro i m H ⟨rfl, hi, p⟩
  by_cases hlt : i < n
  · refine .inr ⟨hlt, Pv (i + 1), fun H' p' => ⟨n - (i + 1), by omega, rfl, hlt, p'⟩, fun x H' y => ?_⟩
    obtain ⟨e, y⟩ := y
    subst e y
    exact hs i _ hlt p
  · have e : i = n := by omega
    subst e
    exact .inl ⟨Nat.le_refl _, hd H p⟩
def blkC (N : List Str) (sc scope : Scope) (own : List (Str × Nat)) : Bool :=
  (match scope.kind with | .function => true | _ => false) && (scope.names.all fun y => decide (scope.names.lookup y.1 = some y.2)) && (own.all fun p => decide (N[p.2]? = some p.1)) &&
    (scope.names.all fun y => match y.2 with
      | .free => (match sc.names.lookup y.1 with | some .cell => true | some .free => true | _ => false)
      | .local => decide (y.1 ∈ own.map (·.1)) || decide (y.1 ∉ N)
      | .cell => decide (y.1 ∈ own.map (·.1)) || decide (y.1 ∉ N)
      | _ => true)
theorem blkOk_by {N : List Str} {sc scope : Scope} {own : List (Str × Nat)} (h : blkC N sc scope own = true) : BlkOk N sc scope own := by
  unfold blkC at h
  simp only [Bool.and_eq_true, List.all_eq_true, decide_eq_true_eq] at h
  obtain ⟨⟨⟨h1, h2⟩, h3⟩, h4⟩ := h
  refine ⟨?_, h2, h3, fun y hy e => ?_, fun y hy e => ?_⟩
  · split at h1
    · assumption
    · cases h1
  · have q := h4 y hy
    simp only [e] at q
    split at q <;> first | exact .inl (by assumption) | exact .inr (by assumption) | cases q
  · have q := h4 y hy
    rcases e with e | e <;> (simp only [e, Bool.or_eq_true, decide_eq_true_eq] at q; exact q)
end L2
namespace L2
open PySem PySem.Spec PyProof.Rows
section
variable {prog : Program} {w : World} {A : Around} {R : Result → Shared → Prop} {s : Shared} {elt t0 i0 t1 i1 : Expr} {ifs0 ifs1 : List Expr} {scope : Scope} {pos : Pos} {it acc : Value} {env : Env}
end
theorem wipe_out {σ : St} {i : Nat} : ∀ {vs : List Nat}, i ∉ vs → (wipe σ vs)[i]? = σ[i]?
  | [], _ => rfl
  | v :: vs, h => by
    have h1 : v ≠ i := fun e => h (by rw [e]; exact List.mem_cons_self)
    have h2 : i ∉ vs := fun m => h (List.mem_cons_of_mem _ m)
    unfold wipe
    rw [List.getElem?_set_ne h1]
    exact wipe_out h2
section
variable {X : Cx}
end
end L2
namespace L2
open PySem PySem.Spec PyProof.Rows
section
variable {κ : Type} [DecidableEq κ]
def valV (kvs : List (κ × V)) (k : κ) : Option V := (kvs.find? fun kv => decide (kv.1 = k)).map (·.2)
/-- in its place, or at the end -/
def putK (kvs : List (κ × V)) (k : κ) (v : V) : List (κ × V) :=
  if (kvs.any fun kv => decide (kv.1 = k)) = true then kvs.map (fun kv => if kv.1 = k then (kv.1, v) else kv) else kvs ++ [(k, v)]
def dropK (kvs : List (κ × V)) (k : κ) : List (κ × V) := kvs.filter fun kv => decide (kv.1 ≠ k)
theorem valV_pos {p : κ × V} {r : List (κ × V)} {k : κ} (e : p.1 = k) : valV (p :: r) k = some p.2 := by simp [valV, List.find?_cons, e]
theorem valV_neg {p : κ × V} {r : List (κ × V)} {k : κ} (e : ¬ p.1 = k) : valV (p :: r) k = valV r k := by simp [valV, List.find?_cons, e]
theorem valV_any (k : κ) : ∀ kvs : List (κ × V), (kvs.any fun kv => decide (kv.1 = k)) = (valV kvs k).isSome
  | [] => rfl
  | p :: r => by
    rw [List.any_cons]
    by_cases e : p.1 = k
    · simp only [valV_pos e, decide_eq_true e, Bool.true_or, Option.isSome_some]
    · rw [valV_neg e, decide_eq_false e, Bool.false_or]; exact valV_any k r
theorem length_putK (kvs : List (κ × V)) (k : κ) (v : V) : (putK kvs k v).length ≤ kvs.length + 1 := by
  unfold putK
  split
  · rw [List.length_map]; omega
  · rw [List.length_append, List.length_cons, List.length_nil]; omega
theorem RelO.isSome_eq {o : Option V} {u : Option Value} (r : RelO o u) : o.isSome = u.isSome := by
  cases o with
  | none => cases u with
    | none => rfl
    | some _ => exact (show False from r).elim
  | some _ => cases u with
    | none => exact (show False from r).elim
    | some _ => rfl
theorem RelO.getD {o : Option V} {u : Option Value} {d : V} {d' : Value} (r : RelO o u) (rd : RelV d d') : RelV (o.getD d) (u.getD d') := by
  cases o with
  | none => cases u with
    | none => exact rd
    | some _ => exact (show False from r).elim
  | some _ => cases u with
    | none => exact (show False from r).elim
    | some _ => exact r
/-- raw tables of the same keys -/
theorem KV.val {kvs : List (κ × V)} {vs : List (κ × Value)} (r : KV kvs vs) (k : κ) : RelO (valV kvs k) (valueAt vs k) := by
  unfold KV at r
  induction r with
  | nil => exact True.intro
  | @cons p q ps qs h t ih =>
    obtain ⟨h1, h2⟩ := h
    by_cases e : p.1 = k
    · have e' : q.1 = k := h1.symm.trans e
      have b : valueAt (q :: qs) k = some q.2 := by simp [valueAt, List.find?_cons, e']
      rw [valV_pos e, b]; exact h2
    · have e' : ¬ q.1 = k := fun z => e (h1.trans z)
      have b : valueAt (q :: qs) k = valueAt qs k := by simp [valueAt, List.find?_cons, e']
      rw [valV_neg e, b]; exact ih
theorem KV.any {kvs : List (κ × V)} {vs : List (κ × Value)} (r : KV kvs vs) (k : κ) : (kvs.any fun kv => decide (kv.1 = k)) = vs.any fun kv => decide (kv.1 = k) := by
  unfold KV at r
  induction r with
  | nil => rfl
  | cons h t ih => rw [List.any_cons, List.any_cons, ih, h.1]
theorem KV.repl {kvs : List (κ × V)} {vs : List (κ × Value)} (r : KV kvs vs) (k : κ) {y : V} {u : Value} (ry : RelV y u) :
    KV (kvs.map fun kv => if kv.1 = k then (kv.1, y) else kv) (vs.map fun kv => if kv.1 = k then (kv.1, u) else kv) := by
  unfold KV at r ⊢
  induction r with
  | nil => exact .nil
  | @cons p q ps qs h t ih =>
    rw [List.map_cons, List.map_cons]
    refine .cons ?_ ih
    obtain ⟨h1, h2⟩ := h
    by_cases e : p.1 = k
    · rw [if_pos e, if_pos (h1.symm.trans e)]; exact ⟨h1, ry⟩
    · rw [if_neg e, if_neg (fun z => e (h1.trans z))]; exact ⟨h1, h2⟩
theorem KV.put {kvs : List (κ × V)} {vs : List (κ × Value)} (r : KV kvs vs) (k : κ) {y : V} {u : Value} (ry : RelV y u) : KV (putK kvs k y) (stored vs k u) := by
  unfold putK stored
  rw [r.any k]
  by_cases e : (vs.any fun kv => decide (kv.1 = k)) = true
  · rw [if_pos e, if_pos e]; exact r.repl k ry
  · rw [if_neg e, if_neg e]; exact Paired.snoc r ⟨rfl, ry⟩
theorem KV.drop {kvs : List (κ × V)} {vs : List (κ × Value)} (r : KV kvs vs) (k : κ) : KV (dropK kvs k) (without vs k) := by
  unfold KV at r ⊢
  unfold dropK without
  induction r with
  | nil => exact .nil
  | @cons p q ps qs h t ih =>
    obtain ⟨h1, h2⟩ := h
    rw [List.filter_cons, List.filter_cons]
    by_cases e : p.1 = k
    · have a : ¬ decide (p.1 ≠ k) = true := by simp [e]
      have b : ¬ decide (q.1 ≠ k) = true := by simp [h1.symm.trans e]
      rw [if_neg a, if_neg b]; exact ih
    · have e' : ¬ q.1 = k := fun z => e (h1.trans z)
      have a : decide (p.1 ≠ k) = true := by simp [e]
      have b : decide (q.1 ≠ k) = true := by simp [e']
      rw [if_pos a, if_pos b]; exact .cons ⟨h1, h2⟩ ih
theorem KV.keys {kvs : List (κ × V)} {vs : List (κ × Value)} (r : KV kvs vs) : kvs.map (·.1) = vs.map (·.1) := by
  unfold KV at r
  induction r with
  | nil => rfl
  | cons h t ih => rw [List.map_cons, List.map_cons, ih, h.1]
theorem KV.length {kvs : List (κ × V)} {vs : List (κ × Value)} (r : KV kvs vs) : kvs.length = vs.length := Paired.length r
end
theorem kV_is {P : Program} {w : World} {k : Key} {u : Value} (r : RelV (kV k) u) : (mixKind P w).is k u = true := by
  cases k with
  | inl i => obtain ⟨t, e⟩ := (show ∃ t, u = Value.int i t from r); subst e; exact mixKind_int P w i t
  | inr x => obtain ⟨t, e⟩ := (show ∃ t, u = Value.str x t from r); subst e; exact mixKind_str P w x t
theorem items_are {P : Program} {w : World} : ∀ {ks : List Key} {us : List Value}, Vals (ks.map kV) us → ItemsAre (mixKind P w) ks us
  | [], _, r => by rw [List.map_nil] at r; cases r; exact .nil
  | k :: ks, _, r => by
    rw [List.map_cons] at r
    cases r with
    | cons h t => exact .cons (kV_is h) (items_are t)
/-- raw entries of a dict with tuple keys -/
abbrev KT (H : Hp) : List (List Key × V) → List (List Key × Addr × Value) → Prop := Paired fun p q => p.1 = q.1 ∧ H q.2.1 = some (.tup (p.1.map kV)) ∧ RelV p.2 q.2.2
theorem KT.val {H : Hp} {kvs : List (List Key × V)} {xs : List (List Key × Addr × Value)} (r : KT H kvs xs) (k : List Key) : RelO (valV kvs k) ((atKey xs k).map (·.2)) := by
  induction r with
  | nil => exact True.intro
  | @cons p q ps qs h t ih =>
    obtain ⟨h1, _, h2⟩ := h
    by_cases e : p.1 = k
    · have e' : q.1 = k := h1.symm.trans e
      have b : atKey (q :: qs) k = some q.2 := by simp [atKey, List.find?_cons, e']
      rw [valV_pos e, b]; exact h2
    · have e' : ¬ q.1 = k := fun z => e (h1.trans z)
      have b : atKey (q :: qs) k = atKey qs k := by simp [atKey, List.find?_cons, e']
      rw [valV_neg e, b]; exact ih
theorem KT.repl {H : Hp} {kvs : List (List Key × V)} {xs : List (List Key × Addr × Value)} (r : KT H kvs xs) (k : List Key) {y : V} {u : Value} (ry : RelV y u) :
    KT H (kvs.map fun kv => if kv.1 = k then (kv.1, y) else kv) (xs.map (putAt k u)) := by
  induction r with
  | nil => exact .nil
  | @cons p q ps qs h t ih =>
    rw [List.map_cons, List.map_cons]
    refine .cons ?_ ih
    obtain ⟨h1, h2, h3⟩ := h
    unfold putAt
    by_cases e : p.1 = k
    · rw [if_pos e, if_pos (h1.symm.trans e)]; exact ⟨h1, h2, ry⟩
    · rw [if_neg e, if_neg (fun z => e (h1.trans z))]; exact ⟨h1, h2, h3⟩
theorem KT.put {H : Hp} {kvs : List (List Key × V)} {xs : List (List Key × Addr × Value)} (r : KT H kvs xs) (k : List Key) {b : Addr} {y : V} {u : Value} (hb : H b = some (.tup (k.map kV))) (ry : RelV y u) :
    KT H (putK kvs k y) (storedH xs k b u) := by
  have e : (kvs.any fun kv => decide (kv.1 = k)) = (atKey xs k).isSome := by
    rw [valV_any, (r.val k).isSome_eq, Option.isSome_map]
  unfold putK storedH
  rw [e]
  by_cases q : (atKey xs k).isSome = true
  · rw [if_pos q, if_pos q]; exact r.repl k ry
  · rw [if_neg q, if_neg q]; exact Paired.snoc r ⟨rfl, hb, ry⟩
theorem KT.keeps {H H' : Hp} {kvs : List (List Key × V)} {xs : List (List Key × Addr × Value)} (r : KT H kvs xs) (ht : ∀ b ys, H b = some (.tup ys) → H' b = some (.tup ys)) : KT H' kvs xs :=
  Paired.mapP r fun _ _ z => ⟨z.1, ht _ _ z.2.1, z.2.2⟩
section
variable {P : Program} {w : World} {H : Hp} {h : Heap} {a : Addr}
theorem rd_of {u : HO} (ok : HOk P w H h) (e : Rd H a u) : ObjOk P w H h a u := e.ok ok
theorem dk_rd {kvs : List (Key × V)} (ok : HOk P w H h) (e : Rd H a (.dK kvs)) : kvs.length ≤ sizeLine ∧ (a == sysModules) = false ∧ ∃ vs, KV kvs vs ∧ h.DictOf (mixKind P w) a vs :=
  show ObjOk P w H h a (.dK kvs) from rd_of ok e
theorem dk_of {kvs : List (Key × V)} (ok : HOk P w H h) (e : H a = some (.dK kvs)) : kvs.length ≤ sizeLine ∧ (a == sysModules) = false ∧ ∃ vs, KV kvs vs ∧ h.DictOf (mixKind P w) a vs := dk_rd ok (.inl e)
/-- a tracked tuple of ints and texts is a key -/
theorem key_of {ks : List Key} (ok : HOk P w H h) (e : H a = some (.tup (ks.map kV))) : (tupleKind (mixKind P w)).is h ks a := by
  obtain ⟨_, its, r, o, h1, ⟨h2, n, h3⟩, _⟩ := (show ObjOk P w H h a (.tup (ks.map kV)) from ok a _ e)
  exact ⟨o, its.toArray, n, h1, h2, h3, by simpa using items_are r⟩
theorem dt_rd {kvs : List (List Key × V)} (ok : HOk P w H h) (e : Rd H a (.dT kvs)) : kvs.length ≤ sizeLine ∧ (a == sysModules) = false ∧
    ∃ xs, KT H kvs xs ∧ h.DictOfH (tupleKind (mixKind P w)) a xs := by
  obtain ⟨z, y, xs, r, o, es, ep, h1, h2, h3, h4, h5⟩ := (show ObjOk P w H h a (.dT kvs) from rd_of ok e)
  refine ⟨z, y, xs, r, o, es, ep, h1, h2, h3, h4, fun x hx => ?_, h5⟩
  have all : ∀ {l : List (List Key × V)} {m : List (List Key × Addr × Value)}, KT H l m → ∀ x ∈ m, (tupleKind (mixKind P w)).is h x.1 x.2.1 := by
    intro l m q
    induction q with
    | nil => intro x hx; exact nomatch hx
    | @cons p q ps qs hq t ih =>
      intro x hx
      rcases List.mem_cons.mp hx with e | hx
      · subst e
        exact key_of ok (by rw [← hq.1]; exact hq.2.1)
      · exact ih x hx
  exact all r x hx
theorem dt_of {kvs : List (List Key × V)} (ok : HOk P w H h) (e : H a = some (.dT kvs)) : kvs.length ≤ sizeLine ∧ (a == sysModules) = false ∧
    ∃ xs, KT H kvs xs ∧ h.DictOfH (tupleKind (mixKind P w)) a xs := dt_rd ok (.inl e)
end
/-- what the dict at a holds at the key y -/
def DGet (H : Hp) (a : Addr) (y : V) (r : Option V) : Prop :=
  (∃ kvs k, Rd H a (.dK kvs) ∧ y = kV k ∧ r = valV kvs k) ∨ ∃ kvs k b, Rd H a (.dT kvs) ∧ y = .ref b ∧ H b = some (.tup (k.map kV)) ∧ r = valV kvs k
/-- the heap behind a[y] = v -/
def DPut (H : Hp) (a : Addr) (y v : V) (H' : Hp) : Prop :=
  (∃ kvs k, H a = some (.dK kvs) ∧ y = kV k ∧ kvs.length < sizeLine ∧ H' = upd H a (.dK (putK kvs k v))) ∨
  ∃ kvs k b, H a = some (.dT kvs) ∧ y = .ref b ∧ H b = some (.tup (k.map kV)) ∧ kvs.length < sizeLine ∧ H' = upd H a (.dT (putK kvs k v))
theorem DGet.k {H : Hp} {a : Addr} {kvs : List (Key × V)} {k : Key} (e : H a = some (.dK kvs)) : DGet H a (kV k) (valV kvs k) := .inl ⟨kvs, k, .inl e, rfl, rfl⟩
theorem DGet.t {H : Hp} {a b : Addr} {kvs : List (List Key × V)} {k : List Key} (e : H a = some (.dT kvs)) (eb : H b = some (.tup (k.map kV))) : DGet H a (.ref b) (valV kvs k) := .inr ⟨kvs, k, b, .inl e, rfl, eb, rfl⟩
theorem DPut.k {H : Hp} {a : Addr} {kvs : List (Key × V)} {k : Key} {v : V} (e : H a = some (.dK kvs)) (hl : kvs.length < sizeLine) : DPut H a (kV k) v (upd H a (.dK (putK kvs k v))) := .inl ⟨kvs, k, e, rfl, hl, rfl⟩
theorem DPut.t {H : Hp} {a b : Addr} {kvs : List (List Key × V)} {k : List Key} {v : V} (e : H a = some (.dT kvs)) (eb : H b = some (.tup (k.map kV))) (hl : kvs.length < sizeLine) :
    DPut H a (.ref b) v (upd H a (.dT (putK kvs k v))) := .inr ⟨kvs, k, b, e, rfl, eb, hl, rfl⟩
section
variable {X : Cx} {pins : List (Addr × Obj)} {σ : St} {H : Hp} {s : Shared} {a : Addr} {y v : V} {u r : Value} {o : Option V} {A : Around} {E : Value → Shared → Prop}
theorem Inv.big (I : Inv X pins σ H s) : sysModules < s.heap.objs.size := by
  have h : mainGlobals < s.heap.objs.size := (I.mod.glob.keeps I.bk).lt
  exact Nat.lt_trans (by decide) h
/-- d[y], there -/
theorem d_getItem {Q : Value → Shared → Prop} (hu : A.units + 1 < cLine) (I : Inv X pins σ H s) (g : DGet H a y (some v)) (ry : RelV y u) (h : ∀ w' s', Inv X pins σ H s' → RelV v w' → Q w' s') :
    wpAny (model X.prog X.w) A (getItem (.ref a) u) Q E s := by
  rcases g with ⟨kvs, k, e, ey, l⟩ | ⟨kvs, k, b, e, ey, eb, l⟩
  · subst ey
    obtain ⟨z, hd, vs, rel, dd⟩ := dk_rd I.hok e
    obtain ⟨w', hw, rw'⟩ := RelO.some_of (v := v) (o := valueAt vs k) (by rw [l]; exact rel.val k)
    exact wpAny_getItem_of (kV_is ry) dd.mapOf hw (h w' _ (I.tok _) rw')
  · subst ey
    cases (show u = Value.ref b from ry)
    obtain ⟨z, hd, xs, rel, dd⟩ := dt_rd I.hok e
    obtain ⟨w', hw, rw'⟩ := RelO.some_of (v := v) (o := (atKey xs k).map (·.2)) (by rw [l]; exact rel.val k)
    obtain ⟨p, hp, hp2⟩ := Option.map_eq_some_iff.mp hw
    refine wpAny_getItem_heap (tupleKind_room_in1 hu) (key_of I.hok eb) dd hp ?_
    rw [hp2]
    exact h w' _ (I.tok _) rw'
/-- y in d -/
theorem d_in {Q : Value → Shared → Prop} (hu : A.units + 1 < cLine) (I : Inv X pins σ H s) (g : DGet H a y o) (ry : RelV y u) (h : ∀ s', Inv X pins σ H s' → Q (.bool o.isSome) s') :
    wpAny (model X.prog X.w) A (compareOp .In u (.ref a)) Q E s := by
  rcases g with ⟨kvs, k, e, ey, l⟩ | ⟨kvs, k, b, e, ey, eb, l⟩
  · subst ey
    obtain ⟨z, hd, vs, rel, dd⟩ := dk_rd I.hok e
    refine wpAny_in_of (kV_is ry) hd dd.mapOf ?_
    rw [← (rel.val k).isSome_eq, ← l]
    exact h _ (I.tok _)
  · subst ey
    cases (show u = Value.ref b from ry)
    obtain ⟨z, hd, xs, rel, dd⟩ := dt_rd I.hok e
    refine wpAny_in_heap (tupleKind_room_in1 hu) (key_of I.hok eb) hd dd ?_
    have q := (rel.val k).isSome_eq
    rw [Option.isSome_map] at q
    rw [← q, ← l]
    exact h _ (I.tok _)
/-- a dict's object is replaced -/
theorem d_write {h' : Heap} {t' : Nat} {ob : HO} (I : Inv X pins σ H s) (mu : Mut (H a)) (hs : Heap.SameBut a s.heap h') (he : ∃ q, h'.get? a = some q) (new : ObjOk X.prog X.w (upd H a ob) h' a ob) :
    Inv X pins σ (upd H a ob) { s with heap := h', toks := t' } :=
  I.write (x := a) (e := a) mu (.inl rfl) (fun b q hb z => (hs.2 b hb).trans z) he new
theorem dk_new {P : Program} {w : World} {H' : Hp} {h' : Heap} {kvs : List (Key × V)} {vs : List (Key × Value)} (z : kvs.length ≤ sizeLine) (hd : (a == sysModules) = false) (rel : KV kvs vs) (dd : h'.DictOf (mixKind P w) a vs) :
    ObjOk P w H' h' a (.dK kvs) := ⟨z, hd, vs, rel, dd⟩
/-- d[y] = v -/
theorem d_setItem {H' : Hp} {Q : Unit → Shared → Prop} (hu : A.units + 1 < cLine) (I : Inv X pins σ H s) (g : DPut H a y v H') (ry : RelV y u) (rv : RelV v r) (h : ∀ s', Inv X pins σ H' s' → Q () s') :
    wpAny (model X.prog X.w) A (setItem (.ref a) u r) Q E s := by
  rcases g with ⟨kvs, k, e, ey, l, eH⟩ | ⟨kvs, k, b, e, ey, eb, l, eH⟩
  · subst ey eH
    obtain ⟨z, hd, vs, rel, dd⟩ := dk_of I.hok e
    have hz : vs.length ≤ sizeLine := by rw [← rel.length]; exact z
    have hl : (putK kvs k v).length ≤ sizeLine := by have := length_putK kvs k v; omega
    refine wpAny_setItem_pairs (hsz := hz) (kV_is ry) dd fun h' dd' hs => h _ ?_
    have he : ∃ q, h'.get? a = some q := let ⟨q, _, _, hq, _⟩ := dd'; ⟨q, hq⟩
    exact d_write I (by rw [e]; exact True.intro) hs he (dk_new hl hd (rel.put k rv) dd')
  · subst ey eH
    cases (show u = Value.ref b from ry)
    obtain ⟨z, hd, xs, rel, dd⟩ := dt_of I.hok e
    have hz : xs.length ≤ sizeLine := by rw [← Paired.length rel]; exact z
    have hl : (putK kvs k v).length ≤ sizeLine := by have := length_putK kvs k v; omega
    refine wpAny_setItem_heap (hsz := hz) (tupleKind_room_in1 hu) (key_of I.hok eb) dd fun h' dd' hs => h _ ?_
    obtain ⟨q, es, ep, hq, h2, h3, h4, _, h5⟩ := dd'
    refine d_write I (by rw [e]; exact True.intro) hs ⟨q, hq⟩ ⟨hl, hd, _, (rel.put k eb rv).keeps fun c ys ec => ?_, q, es, ep, hq, h2, h3, h4, h5⟩
    rw [upd_ne (ne_of ec e (fun z => nomatch z))]
    exact ec
end
section
variable {X : Cx} {pins : List (Addr × Obj)} {σ : St} {H : Hp} {s : Shared} {a : Addr} {kvs : List (Key × V)} {k : Key} {u : Value} {A : Around} {E : Value → Shared → Prop}
/-- len(d) -/
theorem d_len {Q : Value → Shared → Prop} (I : Inv X pins σ H s) (e : Rd H a (.dK kvs)) (h : ∀ t s', Inv X pins σ H s' → Q (.int kvs.length t) s') : wpAny (model X.prog X.w) A (call (.builtin "len") [.ref a]) Q E s := by
  obtain ⟨z, hd, vs, rel, dd⟩ := dk_rd I.hok e
  refine call_len_dict hd dd (by rw [← rel.length]; rw [sizeLine_eq] at z; omega) ?_
  rw [← rel.length]
  exact h _ _ (I.tok _)
end
/-- the element of a subscription, not a slice -/
def NoSl (i : Expr) : Prop := ∀ ov iv, subscripted i false ov iv = operate [ov, iv] (getItem ov iv)
theorem subD_of {prog : Program} {w : World} {A : Around} {E : Value → Shared → Prop} {s : Shared} {env : Env} {value slice : Expr} {pos : Pos} {T id : String} {Q : Value → Shared → Prop}
    (hl : typeLookup (.type T) "__getitem__" = pure (some (.builtin id))) (hs : NoSl slice)
    (h : wpAny (model prog w) A (eval value env) (fun o s₁ => wpAny (model prog w) A (eval slice env) (fun i s₂ => s₂.TypeIs o T ∧ wpAny (model prog w) A (getItem o i) Q E s₂) E s₁) E s) :
    wpAny (model prog w) A (eval (.Subscript value slice pos) env) Q E s := by
  refine Subscript_ (wpAny_mono h (fun o s₁ h₁ => wpAny_mono h₁ (fun i s₂ h₂ => ?_) fun _ _ x => x) fun _ _ x => x)
  obtain ⟨hT, h₂⟩ := h₂
  unfold subscriptTail
  refine wpAny_bind ?_
  rw [getitemInPython_of_ne hT.not_modules]
  refine wpAny_bind (wpAny_specialOf hT hl ?_)
  have fin : wpAny (model prog w) A (subscripted slice false o i) (fun r s₃ => wpAny (model prog w) A (letTemporaryGo value o r >>= fun _ => pure r) Q E s₃) E s₂ := by
    rw [hs o i]
    exact wpAny_operating (wpAny_mono h₂ (fun r s₃ h₃ => wpAny_bind (wpAny_letTemporaryGo (wpAny_pure h₃))) fun _ _ x => x)
  first
    | exact wpAny_pure (wpAny_bind fin)
    | exact wpAny_bind (wpAny_pure (wpAny_bind fin))
    | exact wpAny_bind fin
theorem dict_typeIs {X : Cx} {pins : List (Addr × Obj)} {σ : St} {H : Hp} {s : Shared} {a : Addr} {y : V} {o : Option V} (I : Inv X pins σ H s) (g : DGet H a y o) : s.TypeIs (.ref a) "dict" := by
  rcases g with ⟨kvs, k, e, _, _⟩ | ⟨kvs, k, b, e, _, _, _⟩
  · obtain ⟨_, _, vs, _, dd⟩ := dk_rd I.hok e
    exact dd.typeIs
  · obtain ⟨_, _, xs, _, dd⟩ := dt_rd I.hok e
    exact dd.typeIs
/-- d[y] -/
def tDGet (td ty : TE) : TE := fun σ H Q => td σ H fun x H1 => ty σ H1 fun y H2 => ∃ a v, x = .ref a ∧ DGet H2 a y (some v) ∧ Q v H2
/-- d[y] = v -/
def sDPut (td ty tv : TE) : TS := fun D σ H => tv σ H fun v H1 => td σ H1 fun x H2 => ty σ H2 fun y H3 => ∃ a H4, x = .ref a ∧ DPut H3 a y v H4 ∧ D.nx σ H4
section
variable {X : Cx} {o i e value : Expr} {pos pos' tpos : Pos} {td ty tv : TE}
theorem pe_dget (hu : X.A.units + 1 < cLine) (ho : PE X o td) (hi : PE X i ty) (hs : NoSl i) : PE X (.Subscript o i pos) (tDGet td ty) := by
  intro pins s σ H Q I h
  refine subD_of PySem.F.slot_dict_getitem.lookup hs (thn (ho pins s σ H _ I h) fun u s1 ⟨x, H1, I1, rx, q1⟩ => thn (hi pins s1 σ H1 _ I1 q1) fun iv s2 ⟨y, H2, I2, ry, a, v, ex, g, q2⟩ => ?_)
  subst ex
  obtain rfl : u = Value.ref a := rx
  exact ⟨dict_typeIs I2 g, d_getItem hu I2 g ry fun w' s3 I3 rw' => ⟨v, H2, I3, rw', q2⟩⟩
theorem ps_dput (hu : X.A.units + 1 < cLine) (ho : PE X o td) (hi : PE X i ty) (hv : PE X value tv) (hs : swapsWith value (some (.Subscript o i pos')) pos.line X.env = pure false) :
    PS X (.Assign [.Subscript o i pos'] value pos) (sDPut td ty tv) := by
  intro pins s σ H D I h
  refine wpAny_Assign_Subscript (thn (hv pins s σ H _ I h) fun r s1 ⟨v, H1, I1, rv, q1⟩ => thn (ho pins s1 σ H1 _ I1 q1) fun u s2 ⟨x, H2, I2, rx, q2⟩ => thn (hi pins s2 σ H2 _ I2 q2) fun iv s3 ⟨y, H3, I3, ry, a, H4, ex, g, q3⟩ => ?_) hs
  subst ex
  obtain rfl : u = Value.ref a := rx
  exact d_setItem hu I3 g ry rv fun s4 I4 => ⟨σ, H4, I4, q3⟩
end
theorem dk_empty {P : Program} {w : World} {H : Hp} (h : Heap) (hb : sysModules < h.objs.size) : ObjOk P w H (h.push { cls := .type "dict", data := .dict #[] }) h.objs.size (.dK []) :=
  ⟨Nat.zero_le _, beq_eq_false_iff_ne.mpr (Ne.symm (Nat.ne_of_lt hb)), [], .nil, Heap.DictOf.new h⟩
section
variable {X : Cx} {pos : Pos}
end
/-- the pairs of a display, from the left -/
def tPairs : List (TE × TE) → St → Hp → (List (V × V) → Hp → Prop) → Prop
  | [], _, H, Q => Q [] H
  | (tk, tv) :: r, σ, H, Q => tk σ H fun x H1 => tv σ H1 fun y H2 => tPairs r σ H2 fun ps H3 => Q ((x, y) :: ps) H3
abbrev VV : List (V × V) → List (Value × Value) → Prop := Paired fun p q => RelV p.1 q.1 ∧ RelV p.2 q.2
def PPs (X : Cx) (pos : Pos) (keys : List (Option Expr)) (values : List Expr) (trs : List (TE × TE)) : Prop :=
  ∀ (pins : List (Addr × Obj)) (s : Shared) (σ : St) (H : Hp) (Q : List (V × V) → Hp → Prop), Inv X pins σ H s → tPairs trs σ H Q →
    wpAny (model X.prog X.w) X.A (evalPairs (pairTrees keys values X.env pos)) (fun vs s' => ∃ ps H', Inv X pins σ H' s' ∧ VV ps vs ∧ Q ps H') X.xe s
theorem pps_nil {X : Cx} {pos : Pos} : PPs X pos [] [] [] := fun pins s σ H Q I h => pairTrees_nil_walk ⟨[], H, I, .nil, h⟩
theorem pps_cons {X : Cx} {pos : Pos} {k v : Expr} {ks : List (Option Expr)} {vs : List Expr} {tk tv : TE} {trs : List (TE × TE)} (hk : PE X k tk) (hv : PE X v tv) (hr : PPs X pos ks vs trs) :
    PPs X pos (some k :: ks) (v :: vs) ((tk, tv) :: trs) := fun pins s σ H Q I h =>
  pairTrees_cons_walk (thn (hk pins s σ H _ I h) fun u s1 ⟨x, H1, I1, rx, q1⟩ => thn (hv pins s1 σ H1 _ I1 q1) fun w2 s2 ⟨y, H2, I2, ry, q2⟩ =>
    thn (hr pins s2 σ H2 _ I2 q2) fun ws s3 ⟨ps, H3, I3, rel, q3⟩ => ⟨(x, y) :: ps, H3, I3, .cons ⟨rx, ry⟩ rel, q3⟩)
def mergeK (kvs more : List (Key × V)) : List (Key × V) := more.foldl (fun acc kv => putK acc kv.1 kv.2) kvs
theorem KV.merge : ∀ {more : List (Key × V)} {rs : List (Key × Value)} {kvs : List (Key × V)} {vs : List (Key × Value)}, KV more rs → KV kvs vs → KV (mergeK kvs more) (merged vs rs) := by
  intro more rs kvs vs r
  unfold KV at r
  induction r generalizing kvs vs with
  | nil => intro q; exact q
  | @cons p q ps qs h t ih =>
    intro r0
    have e : KV (putK kvs p.1 p.2) (stored vs q.1 q.2) := by
      have := r0.put p.1 h.2
      rw [← h.1]; exact this
    exact ih e
theorem length_mergeK : ∀ (more kvs : List (Key × V)), (mergeK kvs more).length ≤ kvs.length + more.length
  | [], kvs => by show kvs.length ≤ kvs.length + 0; omega
  | p :: r, kvs => by
    have h1 := length_mergeK r (putK kvs p.1 p.2)
    have h2 := length_putK kvs p.1 p.2
    show (mergeK (putK kvs p.1 p.2) r).length ≤ _
    rw [List.length_cons]; omega
theorem carries_of {P : Program} {w : World} : ∀ {kvs : List (Key × V)} {ws : List (Value × Value)}, VV (kvs.map fun kv => (kV kv.1, kv.2)) ws → ∃ rs, Carries (mixKind P w) ws rs ∧ KV kvs rs
  | [], _, r => by rw [List.map_nil] at r; cases r; exact ⟨[], True.intro, .nil⟩
  | p :: kvs, _, r => by
    rw [List.map_cons] at r
    cases r with
    | @cons a b as bs h t =>
      obtain ⟨rs, c, q⟩ := carries_of (P := P) (w := w) t
      obtain ⟨b1, b2⟩ := b
      exact ⟨(p.1, b2) :: rs, ⟨kV_is h.1, rfl, c⟩, .cons ⟨rfl, h.2⟩ q⟩
/-- {k: v, ..} with keys ints and texts; the new dict stands empty while the pairs are made -/
def tDisp (trs : List (TE × TE)) : TE := fun σ H Q => ∀ p, H p = none → tPairs trs σ (upd H p (.dK [])) fun ps H2 => H2 p = some (.dK []) ∧ ∃ kvs : List (Key × V), ps = kvs.map (fun kv => (kV kv.1, kv.2)) ∧ kvs.length ≤ 15 ∧ Q (.ref p) (upd H2 p (.dK (mergeK [] kvs)))
theorem pe_disp {X : Cx} {pos : Pos} {keys : List (Option Expr)} {values : List Expr} {trs : List (TE × TE)} (h : PPs X pos keys values trs) (hall : keys.all (·.isSome) = true) (hl : keys.length = values.length) (h0 : keys ≠ [])
    (h15 : keys.length ≤ 15) : PE X (.Dict keys values pos) (tDisp trs) := by
  intro pins s σ H Q I q
  have hn := I.hok.fresh (Nat.le_refl s.heap.objs.size)
  have I1 := I.laid (a := s.heap.objs.size) (o := .dK []) (h' := s.heap.push { cls := .type "dict", data := .dict #[] }) (t' := s.toks) (fun _ _ q => Heap.get?_push_of_some _ q) (Nat.le_refl _) (dk_empty s.heap I.big)
  refine wpAny_Dict_walk (knd := mixKind X.prog X.w) hall hl h0 h15 (thn (h pins _ σ _ _ I1 (q _ hn)) fun ws s2 ⟨ps, H2, I2, rel, e, kvs, ep, lk, q2⟩ => ?_)
  subst ep
  obtain ⟨rs, c, rk⟩ := carries_of (P := X.prog) (w := X.w) rel
  obtain ⟨z, hd, vs0, r0, dd⟩ := dk_of I2.hok e
  cases r0
  refine ⟨rs, c, dd, fun h' dd' hs => ⟨.ref s.heap.objs.size, _, ?_, rfl, q2⟩⟩
  have hz : (mergeK [] kvs).length ≤ sizeLine := by
    have h1 := length_mergeK kvs []
    rw [List.length_nil] at h1
    rw [sizeLine_eq]; omega
  have he : ∃ q, h'.get? s.heap.objs.size = some q := let ⟨q, _, _, hq, _⟩ := dd'; ⟨q, hq⟩
  exact d_write I2 (by rw [e]; exact True.intro) hs he (dk_new hz hd (rk.merge .nil) dd')
/-- a method call o.m(e) of a built-in, with one argument: what must be seen of the text -/
structure M1 (X : Cx) (o : Expr) (m : Str) (apos : Pos) (e : Expr) (cpos : Pos) : Prop where
  base : attributeBase o m X.env (eval o X.env) = eval o X.env
  few : ((backTo cpos (starEach [e] X.env)).all (fun x => !x.1) && (backToKw cpos (keywordEach [] X.env)).all (fun x => x.1.isSome)
    && decide (([e] : List Expr).length + ([] : List Keyword).length + (if ([] : List Keyword).isEmpty then 0 else 1) < 30)) = true
  line : (apos.endLine == cpos.line) = true
  trees : backTo cpos (starEach [e] X.env) = [(false, eval e X.env)]
structure M2 (X : Cx) (o : Expr) (m : Str) (apos : Pos) (e f : Expr) (cpos : Pos) : Prop where
  base : attributeBase o m X.env (eval o X.env) = eval o X.env
  few : ((backTo cpos (starEach [e, f] X.env)).all (fun x => !x.1) && (backToKw cpos (keywordEach [] X.env)).all (fun x => x.1.isSome)
    && decide (([e, f] : List Expr).length + ([] : List Keyword).length + (if ([] : List Keyword).isEmpty then 0 else 1) < 30)) = true
  line : (apos.endLine == cpos.line) = true
  trees : backTo cpos (starEach [e, f] X.env) = [(false, eval e X.env), (false, eval f X.env)]
section
variable {X : Cx} {pins : List (Addr × Obj)} {σ : St} {H : Hp} {s : Shared} {a : Addr} {y d : V} {u r : Value} {o : Option V} {A : Around} {E : Value → Shared → Prop}
end
section
variable {X : Cx} {o e f : Expr} {apos cpos : Pos} {td ty tx : TE}
end
section
variable {X : Cx} {pins : List (Addr × Obj)} {σ : St} {H : Hp} {s : Shared} {a : Addr} {kvs : List (Key × V)} {A : Around} {E : Value → Shared → Prop}
end
section
variable {X : Cx} {pins : List (Addr × Obj)} {σ : St} {H : Hp} {s : Shared} {a : Addr} {y : V} {u : Value} {A : Around} {E : Value → Shared → Prop}
end
end L2
namespace L2
open PySem PySem.Spec PyProof.Rows
section
variable {prog : Program} {w : World} {A : Around} {E : Value → Shared → Prop}
end
section
variable {X : Cx}
end
end L2
namespace L2
open PySem PySem.Spec PyProof.Rows
section
variable {X : Cx} {pins : List (Addr × Obj)} {σ : St} {H : Hp} {s : Shared} {h' : Heap}
/-- .. and one new object is laid -/
theorem Inv.turnedNew {t' : Nat} {ch : List Addr} {T : Addr} {ob : HO} (I : Inv X pins σ H s) (k : ∀ b o, b ∉ ch → s.heap.get? b = some o → h'.get? b = some o) (hf : ∀ b ∈ ch, FpOk X pins H b) (hT : s.heap.objs.size ≤ T)
    (new : ObjOk X.prog X.w (upd H T ob) h' T ob) : Inv X pins σ (upd H T ob) { s with heap := h', toks := t' } := by
  have hn : H T = none := I.hok.fresh hT
  have nit : ∀ b u, H b = some u → b ∉ ch := fun b u e z => by
    have q := (hf b z).1
    rw [q] at e; cases e
  refine I.step (g' := s.gens) (d' := s.drawn) (ch := ch) (fun b hb => ⟨(hf b hb).2.2.2.1, (hf b hb).2.1, (hf b hb).2.2.2.2.1, (hf b hb).2.2.2.2.2⟩) (fun b o _ _ hc e _ => k b o hc e) (fun b o _ _ hc e _ => ⟨o.slots, k b o hc e⟩)
    (fun b o _ e n => ?_) (fun b o hc e => ⟨o, k b o hc e⟩) (fun b xs e => ?_) (fun b o u e => ?_) (fun b ps e => ⟨#[], ?_⟩) (fun m hm => ?_) (fun b u e => ?_) I.bare
  · rw [upd_ne (Nat.ne_of_lt (Nat.lt_of_lt_of_le (Heap.lt_size e) hT))]; exact n
  · rw [upd_ne (ne_of_none e hn)]; exact e
  · rw [upd_ne (ne_of_none e hn)]; exact e
  · rw [upd_ne (ne_of_none e hn), e]; simp
  · obtain ⟨o, es, ep, ho, r⟩ := hm
    exact ⟨o, es, ep, k _ o (fun z => (hf _ z).2.1 rfl) ho, r⟩
  · by_cases hb : b = T
    · subst hb
      rw [upd_same] at e
      cases e
      exact new
    · rw [upd_ne hb] at e
      refine (I.hok b u e).stay (fun c v hc q => k c v ?_ q) (fun c q => by rw [upd_ne (ne_of_none q hn)]; exact q) fun c xs q => by rw [upd_ne (ne_of_none q hn)]; exact q
      rcases hc with z | z
      · rw [z]; exact nit b u e
      · exact nit c _ z
end
section
variable {X : Cx}
end
/-- range(i, j, c): small bounds, n items -/
def RgC (i j c : Int) (n : Nat) : Prop := c ≠ 0 ∧ c.natAbs < 1073741824 ∧ Builtin.Range.small i j c = true ∧ Builtin.Range.rangeSize i j c = n
theorem RgC.neg {i j : Int} (ha : -(2 ^ 62) ≤ i) (ha' : i < 2 ^ 62) (hb : -(2 ^ 62) ≤ j) (hb' : j < 2 ^ 62) : RgC i j (-1) (i - j).toNat :=
  ⟨by decide, by decide, PySem.W.small_down ha ha' hb hb', PySem.W.rangeSize_downNat i j⟩
section
variable {X : Cx} {tg : Expr}
end
section
variable {X : Cx} {tg : Expr}
end
section
variable {prog : Program} {w : World} {A : Around} {E : Value → Shared → Prop} {s : Shared}
end
section
variable {X : Cx} {pins : List (Addr × Obj)} {σ : St} {H : Hp} {s : Shared} {d : Addr} {o : Obj}
end
section
variable {P : Program} {w : World} {K : PySem.W.Frag} {tg : Expr} {d : Addr} {o : Obj} {es : Array DictEntry} {ep : Nat}
end
section
variable {X : Cx} {tg e : Expr} {td : TE} {apos cpos : Pos}
end
end L2
section 
namespace Bits
open PySem PyProof.Rows
theorem nat_xor_add_and (m : Nat) : ∀ n : Nat, (m ^^^ n) + 2 * (m &&& n) = m + n := by
  induction m using Nat.strongRecOn with
  | _ m ih =>
    intro n
    by_cases h0 : m = 0
    · subst h0
      simp
    · have ih' := ih (m / 2) (by omega) (n / 2)
      rw [← Nat.xor_div_two, ← Nat.and_div_two] at ih'
      have o1 := @Nat.xor_mod_two_eq_one m n
      have a1 := @Nat.and_mod_two_eq_one m n
      omega
theorem bitXor_pp {x y : Int} (hx : 0 ≤ x) (hy : 0 ≤ y) : Builtin.bitXor x y = ((x.toNat ^^^ y.toNat : Nat) : Int) := by
  have e := nat_xor_add_and x.toNat y.toNat
  rw [bitXor_and, bitAnd_pp hx hy]
  omega
end Bits
end 
section 
namespace TL
open PySem PySem.Builtin PySem.Builtin.Str PySem.StrLaws
abbrev tl (x : Str) : List Nat := x.cps.toList
/-- S stands at the head of l -/
def pre (S l : List Nat) : Bool := l.take S.length == S
/-- what stands before the first S, and behind it -/
def par (S : List Nat) : List Nat → List Nat → Option (List Nat × List Nat)
  | _, [] => none
  | acc, c :: r => if pre S (c :: r) = true then some (acc, (c :: r).drop S.length) else par S (acc ++ [c]) r
end TL
end 
namespace L2
open PySem PySem.Spec PyProof.Rows
section
variable {X : Cx} {pins : List (Addr × Obj)} {σ : St} {H : Hp} {s : Shared} {Q : VK}
end
section
variable {X : Cx}
end
section
variable {X : Cx} {o e : Expr} {to te : TE}
end
end L2
namespace L2
open PySem PySem.Spec PyProof.Rows
section
variable {X : Cx}
end
theorem IsPart.raw {v : Value} {o : Option Int} (p : IsPart v o) : ∃ l : Option (Int × Tok), v = partValue l ∧ l.map (·.1) = o := by
  cases p with
  | none => exact ⟨none, rfl, rfl⟩
  | int i t => exact ⟨some (i, t), rfl, rfl⟩
end L2
namespace Att
open PySem PySem.W PySem.Calls PyProof.Rows
theorem ints_of_wellAll {P : Params} {h : Heap} : ∀ (ns : List Int) (vs : List Value), WellAll P h vs (ns.map WData.int) → IntsAre vs ns := by
  intro ns
  induction ns with
  | nil =>
    intro vs w
    rw [List.map_nil] at w
    cases w
    exact .nil
  | cons n ns ih =>
    intro vs w
    rw [List.map_cons] at w
    cases w with
    | cons a b =>
      cases a
      exact .cons _ _ (ih _ b)
theorem script_of {l : OpenLaw} {n : Nat} (hn : l.most = some n) {P : Params} {h : Heap} {args : List WData} {vals : List Value}
    (hpre : l.row.toRowW.claim.pre args = true) (hwl : WellAll P h vals args) :
    ∃ a vs ns, vals = [Value.ref a] ∧ args = [WData.list (ns.map WData.int)] ∧ h.get? a = some { cls := .type "list", data := .seq vs.toArray } ∧ IntsAre vs ns ∧ ns.length ≤ n := by
  have hsh : WShape.hasAll [] args [.list .int] = true := (pre_splitW hpre).1
  have hc : l.pre.holds [] { args := args } = true := (pre_splitW hpre).2
  obtain ⟨d, r, rfl, h1, h2⟩ := hasAllW_cons hsh
  obtain rfl := hasAllW_nil h2
  obtain ⟨xs, rfl, h3⟩ := hasW_list h1
  obtain ⟨ns, rfl⟩ := items_int h3
  have hlen : ns.length ≤ n := by
    unfold OpenLaw.pre at hc
    have h4 : (WTm.not (.lt (.lit (.int (n : Int))) (.len (.arg 0)))).holds [] { args := [.list (ns.map .int)] } = true := by
      have h4 := (holds_andW hc).1
      rw [hn] at h4
      exact h4
    have h5 := condW_of h4 (w_not (w_lt w_lit (w_len_list (w_arg rfl))))
    rw [List.length_map] at h5
    refine Nat.le_of_not_lt fun q => ?_
    have q' : (n : Int) < ((ns.length : Nat) : Int) := by omega
    first
      | (rw [decide_eq_true q'] at h5; exact absurd h5 (by decide))
      | (simp at h5; omega)
  cases hwl with
  | cons w1 w2 =>
    cases w2
    cases w1 with
    | list ho hall => exact ⟨_, _, ns, rfl, rfl, ho, ints_of_wellAll ns _ hall, hlen⟩
theorem post_true (l : OpenLaw) (args : List WData) : l.row.toRowW.claim.post args (.bool true) args = true :=
  postW_of (r := l.row.toRowW) (X := (true == true))
    (show WShape.has [] (.bool true) .bool = true by first | rfl | decide | simp [WShape.has, WShape.arms, WShape.armsAll])
    (show (WTm.eq .res (.lit (.bool true))).value [] { args := args, res := some (.bool true), after := args } = some (.bool (true == true)) from w_eq_bool (w_res rfl) w_lit) rfl
/-- the same from a codeAny of the CALL (for a layer whose function contracts speak of calls) -/
theorem attach_call {l : OpenLaw} {n : Nat} {q : Program} {loose : List Str} {XP : (Str → Option Value) → Heap → Prop} {YP : World → Heap → Prop} {d : DefRec}
    (hn : l.most = some n) (hdf : d.params.defaults = [])
    (call : ∀ (w : World) (s₀ s₁ : Shared) (mg mb : Str → Option Value) (fa : Addr) (o : Obj) (pm cd doc : Value) (a : Addr) (vs : List Value) (ns : List Int),
      Ground q loose [] XP w s₀ mg mb s₁.heap → YP w s₁.heap →
      s₁.heap.get? fa = some o → o.data = .func (docDef d.name d.params d.body d.scope pm cd doc) → s₁.heap.CodeRec cd d.name → mg d.name = some (.ref fa) →
      s₁.heap.get? a = some { cls := .type "list", data := .seq vs.toArray } → IntsAre vs ns → ns.length ≤ n → s₁.gens = #[] →
      codeAny (model l.prog w) callerA (.call (.ref fa) ⟨[.ref a], []⟩) (fun r s' => r = .ok (.ret (.bool true)) ∧ OldK s₁.heap s'.heap ∧ s'.os = s₁.os ∧ AllBare s'.gens) s₁) :
    WalkO q loose XP YP l.row.toRowW d [] (fun f vs => PySem.call f vs) := by
  intro w s₀ s₁ mg mb G Y fa o pm cd doc dV kV ho hd hcd hD hmg hg args vals as hpre hlay hrd hwl hlo
  obtain rfl : dV = .none := Dflts.none hD hdf
  obtain rfl : kV = .none := Dflts.noKw hD
  obtain ⟨a, vs, ns, rfl, rfl, hobj, hints, hlen⟩ := script_of hn hpre hwl
  refine enter_call (codeAny_mono (call w s₀ s₁ mg mb fa o pm cd doc a vs ns G Y ho (fd_plain hd) hcd hmg hobj hints hlen hg) fun r s' hq => ?_)
  obtain ⟨rfl, h2, h3, h4⟩ := hq
  exact ⟨.inl ⟨.bool true, .bool true, [], rfl, fun _ => rfl, .bool true, post_true l _, fun _ => ⟨List.Pairwise.nil, fun _ hm => (nomatch hm)⟩⟩, h2, h3, h4⟩
section
variable {prog : Program} {w : World} {A : Around} {E : Value → Shared → Prop} {s : Shared} {K : Frag}
end
end Att
namespace L2
open PySem PySem.Spec PyProof.Rows
theorem vals_ints : ∀ {vs : List Value} {ns : List Int}, IntsAre vs ns → Vals (ns.map V.int) vs
  | _, _, .nil => .nil
  | _, _, .cons n t h => .cons ⟨t, rfl⟩ (vals_ints h)
end L2
namespace L2
open PySem PySem.Spec PyProof.Rows
end L2
namespace L2
open PySem PySem.Spec PyProof.Rows
def defArgs (s : Stmt) : Arguments := match s with
  | .FunctionDef _ a _ _ _ _ _ _ _ _ => a
  | _ => { posonlyargs := [], args := [], vararg := none, kwonlyargs := [], kw_defaults := [], kwarg := none, defaults := [] }
def defBody (s : Stmt) : List Stmt := match s with
  | .FunctionDef _ _ b _ _ _ _ _ _ _ => b
  | _ => []
def defScope (s : Stmt) : Scope := match s with
  | .FunctionDef _ _ _ _ _ _ sc _ _ _ => sc
  | _ => { kind := .function, names := [], isGenerator := false, isCoroutine := false }
abbrev CX0 : CXT := fun _ _ _ _ _ _ => False
abbrev E0 : XK := fun _ _ _ => False
theorem pass0 {X : Cx} : Passes CX0 X E0 := fun _ _ _ _ _ _ _ h => h.elim
structure Fun (K : PySem.W.Frag) (x qual : Str) (st : Stmt) (f : Addr) (fd : FuncData) : Prop where
  ex : ∃ (oc : Value) (od : Option Addr) (kV doc pm : Value) (an : Option Addr) (cdv ct : Value) (osl : Array (Option Value)),
    fd = PySem.W.fnOf x qual (defArgs st) (defBody st) (defScope st) .none kV doc pm an cdv ct ∧ K.lookup f = some ⟨oc, od, .func fd, osl⟩ ∧ PySem.W.codeIn K cdv qual = true
  kp : PySem.W.keepIn K (.ref f) = true
section
variable {P : Program} {w : World} {K : PySem.W.Frag} {mg : Str → Option Value} {base : Heap}
/-- THE RULE for a def: its body as a term of rules, and the reading of that term -/
theorem Fun.ok {x qual : Str} {st : Stmt} {f : Addr} {fd : FuncData} {N ps : List Str} {k : Nat} {sp : Sp} (F : Fun K x qual st f fd) (S : FnScope N ps (defScope st)) (len : ∀ vs H Q E, sp vs H Q E → vs.length = ps.length)
    (hbody : ∀ (cdv : Value) (A : Around) (outer : List Env) (s : Shared) (H : Hp) (vs : List V) (Q : VK) (E : XK), Room k (A.deeper (envOfC qual (defScope st) s.heap.objs.size f cdv)) → sp vs H Q E →
      ∃ t, PSs (cxOf CX0 P w K mg base N qual (defScope st) f cdv A outer s H E).nox (defBody st) t ∧ t { nx := fun _ H' => Q .non H', rt := Q } (start N vs) H) : FnOk P w K mg base CX0 (k + 1) f fd ps sp := by
  obtain ⟨oc, od, kV, doc, pm, an, cdv, ct, osl, rfl, lk, hcd⟩ := F.ex
  refine fn_of lk hcd S len fun A outer s H vs Q E hr hsp => ?_
  obtain ⟨t, h, q⟩ := hbody cdv A outer s H vs Q E hr hsp
  exact ⟨t, h.nox, q⟩
/-- how its arguments bind (no defaults): h is «fun _ _ _ _ _ _ us hl => match us, hl with | [_, _], _ => rfl», one _ a parameter -/
theorem Fun.binds {x qual : Str} {st : Stmt} {f : Addr} {fd : FuncData} {ps : List Str} (F : Fun K x qual st f fd)
    (h : ∀ (kV doc pm : Value) (an : Option Addr) (cdv ct : Value) (us : List Value), us.length = ps.length → bindArgs (PySem.W.fnOf x qual (defArgs st) (defBody st) (defScope st) .none kV doc pm an cdv ct) ⟨us, []⟩ = pure (ps.zip us)) : Binds K fd ps [] := by
  obtain ⟨oc, od, kV, doc, pm, an, cdv, ct, osl, rfl, lk, hcd⟩ := F.ex
  exact .all (h kV doc pm an cdv ct)
theorem fun_mk {x qual : Str} {st : Stmt} {f : Addr} {oc : Value} {od an : Option Addr} {osl : Array (Option Value)} {kV doc pm cdv ct : Value} (l : K.lookup f = some ⟨oc, od, .func (PySem.W.fnOf x qual (defArgs st) (defBody st) (defScope st) .none kV doc pm an cdv ct), osl⟩)
    (c : PySem.W.codeIn K cdv qual = true) (k : PySem.W.keepIn K (.ref f) = true) : Fun K x qual st f (PySem.W.fnOf x qual (defArgs st) (defBody st) (defScope st) .none kV doc pm an cdv ct) := ⟨⟨oc, od, kV, doc, pm, an, cdv, ct, osl, rfl, l, c⟩, k⟩
end
theorem hu_of {A : Around} {k : Nat} (hr : Room k A) : A.units + 1 < cLine := Nat.lt_of_le_of_lt (Nat.add_le_add_left (by decide : 1 ≤ 64) _) hr.units
theorem small1000 {n : Nat} (h : n ≤ 1000) : n < sizeLine := Nat.lt_of_le_of_lt h (by decide)
section
variable {X : Cx}
theorem pv (i : Nat) {x : Str} {pos : Pos} (hN : X.N[i]? = some x := by rfl) (hv : Vis X.env.scope x := by first | exact Or.inl rfl | exact Or.inr (Or.inl rfl) | exact Or.inr (Or.inr rfl)) (hd : (x == ("__debug__" : Str)) = false := by decide)
    (hcd : (x == ("__classdict__" : Str)) = false := by decide) : PE X (.Name x pos) (tVar i) := pe_var hN hv hd hcd
/-- len of a dict -/
theorem call_lenD : CallR X (.builtin "len") (fun xs H Q => ∃ a kvs, xs = [V.ref a] ∧ H a = some (.dK kvs) ∧ Q (.int kvs.length) H) := by
  intro pins s σ H xs us Q I r h
  obtain ⟨a, kvs, rfl, ha, q⟩ := h
  obtain ⟨u, rfl, ru⟩ := vals1 r
  cases ru
  exact d_len I (.inl ha) fun t s' I' => ⟨.int kvs.length, H, I', ⟨t, rfl⟩, q⟩
end
theorem iteF {A B : Prop} (h : B) : if false = true then A else B := by
  rw [if_neg Bool.false_ne_true]
  exact h
theorem iteT {A B : Prop} (h : A) : if true = true then A else B := by
  rw [if_pos rfl]
  exact h
theorem ite2 {c A B : Prop} [Decidable c] (h1 : c → A) (h2 : ¬ c → B) : if c then A else B := by
  by_cases h : c
  · rw [if_pos h]
    exact h1 h
  · rw [if_neg h]
    exact h2 h
/-- all that was tracked is as it was -/
def Same (H H' : Hp) : Prop := ∀ b o, H b = some o → H' b = some o
theorem Same.refl (H : Hp) : Same H H := fun _ _ h => h
theorem Same.trans {H H1 H2 : Hp} (a : Same H H1) (b : Same H1 H2) : Same H H2 := fun c o h => b c o (a c o h)
theorem Same.free {H H' : Hp} (e : Same H H') {l : Addr} (h : H' l = Option.none) : H l = Option.none := by
  cases q : H l with
  | none => rfl
  | some o =>
    rw [e l o q] at h
    cases h
theorem Same.seq {K : PySem.W.Frag} {H H' : Hp} {a : Addr} {xs : List V} (e : Same H H') (h : SqL K H a xs) : SqL K H' a xs := by
  rcases h with (h | ⟨o, h⟩) | h
  · exact .inl (.inl (e _ _ h))
  · exact .inl (.inr ⟨o, e _ _ h⟩)
  · exact .inr h
section
variable {κ : Type} [DecidableEq κ]
end
theorem at_of {xs : List V} {z : Int} {j : Nat} {v : V} (e : z = (j : Int)) (h : xs[j]? = some v) : atI xs z = some v := by
  rw [e]
  exact atI_nat h
/-- a new instance and its __init__ leave all that was tracked as it was -/
theorem Same.made {H H1 : Hp} {x dx C : Addr} (nx : H x = Option.none) (nd : H dx = Option.none) (k : ∀ b o, (upd (upd H dx (.own x)) x (.ins C dx [])) b = some o → b ≠ x → H1 b = some o) : Same H H1 := fun b o e =>
  k b o (by rw [upd_ne (ne_of_none e nx), upd_ne (ne_of_none e nd)]; exact e) (ne_of_none e nx)
end L2
set_option Elab.async false
set_option linter.all false
set_option maxRecDepth 100000
namespace L3
open PySem PySem.Spec PyProof.Rows L2
/-- the iterator's record over a list (false) or a tuple (true) -/
def SqI : Bool → Heap → Addr → Addr → Nat → Prop
  | true, h, it, l, i => h.IsTupleIter it l i
  | false, h, it, l, i => h.IsListIter it l i
def SqH : Bool → Heap → Addr → Array Value → Prop
  | true, h, l, xs => h.IsTuple l xs
  | false, h, l, xs => h.IsList l xs
def itN : Bool → String
  | true => "tuple_iterator"
  | false => "list_iterator"
def itO (k : Bool) (l : Addr) : Obj := { cls := .type (itN k), data := .fields #[.ref l, .int 0 0] }
theorem SqI.keep {k : Bool} {h h' : Heap} {it l : Addr} {i : Nat} (x : SqI k h it l i) (e : ∀ o, h.get? it = some o → h'.get? it = some o) : SqI k h' it l i := by
  cases k
  · obtain ⟨o, a, r⟩ := (show h.IsListIter it l i from x); exact ⟨o, e o a, r⟩
  · obtain ⟨o, a, r⟩ := (show h.IsTupleIter it l i from x); exact ⟨o, e o a, r⟩
theorem SqH.keep {k : Bool} {h h' : Heap} {l : Addr} {xs : Array Value} (x : SqH k h l xs) (e : ∀ o, h.get? l = some o → h'.get? l = some o) : SqH k h' l xs := by
  cases k
  · obtain ⟨o, a, r⟩ := (show h.IsList l xs from x); exact ⟨o, e o a, r⟩
  · obtain ⟨o, a, r⟩ := (show h.IsTuple l xs from x); exact ⟨o, e o a, r⟩
theorem SqI.obj {k : Bool} {h : Heap} {it l : Addr} {i : Nat} (x : SqI k h it l i) : ∃ o, h.get? it = some o ∧ ∀ v, o.data ≠ .cell v := by
  cases k
  · obtain ⟨o, a, _, d⟩ := (show h.IsListIter it l i from x); exact ⟨o, a, fun v q => by rw [d] at q; cases q⟩
  · obtain ⟨o, a, _, d⟩ := (show h.IsTupleIter it l i from x); exact ⟨o, a, fun v q => by rw [d] at q; cases q⟩
theorem SqI.lt {k : Bool} {h : Heap} {it l : Addr} {i : Nat} (x : SqI k h it l i) : it < h.objs.size := let ⟨_, e, _⟩ := x.obj; Heap.lt_size e
theorem SqH.lt {k : Bool} {h : Heap} {l : Addr} {xs : Array Value} (x : SqH k h l xs) : l < h.objs.size := by
  cases k
  · obtain ⟨o, a, r⟩ := (show h.IsList l xs from x); exact Heap.lt_size a
  · obtain ⟨o, a, r⟩ := (show h.IsTuple l xs from x); exact Heap.lt_size a
theorem SqI.new {k : Bool} {h : Heap} {it l : Addr} (e : h.get? it = some (itO k l)) : SqI k h it l 0 := by
  cases k
  · exact ⟨_, e, rfl, rfl⟩
  · exact ⟨_, e, rfl, rfl⟩
section
variable {prog : Program} {w : World} {A : Around} {E : Value → Shared → Prop} {s : Shared}
theorem sq_iter {k : Bool} {l : Addr} {xs : Array Value} {Q : Value → Shared → Prop} (h : SqH k s.heap l xs) (q : Q (.ref s.heap.objs.size) { s with heap := s.heap.push (itO k l) }) :
    wpAny (model prog w) A (pyIter (.ref l)) Q E s := by
  cases k
  · exact wpAny_pyIter_list (show s.heap.IsList l xs from h) q
  · exact wpAny_pyIter_tuple (show s.heap.IsTuple l xs from h) q
theorem tup_next {it t : Addr} {i : Nat} {xs : Array Value} {x : Value} {Q : Value → Shared → Prop} (hit : s.heap.IsTupleIter it t i) (ht : s.heap.IsTuple t xs) (hx : xs[i]? = some x)
    (q : ∀ h', h'.IsTupleIter it t (i + 1) → Heap.SameBut it s.heap h' → Q x { s with heap := h' }) : wpAny (model prog w) A (Builtin.SmallTypes.nextOf (.ref it)) Q E s := by
  have ⟨o, ho, hc, hd⟩ := hit
  have ⟨ot, hot, _, m, hdt⟩ := ht
  have body := F.entry_tuple_iterator_next
  unfold Builtin.SmallTypes.nextOf
  refine wpAny_bind (wpAny_callSpecial?_slot (name := Str.ofString "__next__") hit.typeIs F.slot_tuple_iterator_next (wpAny_call_entry F.slot_tuple_iterator_next hit.typeIs body ?_ (F.args_tuple_iterator_next_1 _)))
  refine wpAny_bind (m := field (.ref it) 0) (wpAny_field ho hd (x := .ref t) rfl ?_)
  refine wpAny_ite_false (c := (Value.ref t == Value.none)) rfl ?_
  refine wpAny_bind (m := field (.ref it) 1) (wpAny_field ho hd (x := .int i 0) rfl (wpAny_bind (m := seqItems? (.ref t)) (wpAny_seqItems hot hdt ?_)))
  simp only [hx, Int.toNat_natCast]
  refine wpAny_bind (wpAny_setField ho hd (by simp) (wpAny_pure ⟨x, rfl, wpAny_pure (q _ ⟨_, Heap.get?_update_self _ ho (Obj.isFreed_of_fields (Obj.data_mapFields hd _)), ?_, ?_⟩ (Heap.SameBut.update ..))⟩))
  · rw [Obj.cls_mapFields]; exact hc
  · rw [Obj.data_mapFields hd]; simp [rawInt]
theorem tup_next_end {it t : Addr} {i : Nat} {xs : Array Value} {Q : Value → Shared → Prop} (hh : A.handled = none) (hit : s.heap.IsTupleIter it t i) (ht : s.heap.IsTuple t xs) (hx : xs[i]? = none)
    (q : ∀ h' e, Heap.ExtBut it s.heap h' → (∃ o, h'.get? e = some o ∧ o.cls = .type "StopIteration") → E (.ref e) { s with heap := h' }) : wpAny (model prog w) A (Builtin.SmallTypes.nextOf (.ref it)) Q E s := by
  have ⟨o, ho, hc, hd⟩ := hit
  have ⟨ot, hot, _, m, hdt⟩ := ht
  have body := F.entry_tuple_iterator_next
  unfold Builtin.SmallTypes.nextOf
  refine wpAny_bind (wpAny_callSpecial?_slot (name := Str.ofString "__next__") hit.typeIs F.slot_tuple_iterator_next (wpAny_call_entry F.slot_tuple_iterator_next hit.typeIs body ?_ (F.args_tuple_iterator_next_1 _)))
  refine wpAny_bind (m := field (.ref it) 0) (wpAny_field ho hd (x := .ref t) rfl ?_)
  refine wpAny_ite_false (c := (Value.ref t == Value.none)) rfl ?_
  refine wpAny_bind (m := field (.ref it) 1) (wpAny_field ho hd (x := .int i 0) rfl (wpAny_bind (m := seqItems? (.ref t)) (wpAny_seqItems hot hdt ?_)))
  simp only [hx, Int.toNat_natCast]
  refine wpAny_bind (wpAny_rule (wpAny_bind (wpAny_setField ho hd (by simp) ?_)))
  refine wpAny_bind (m := newExc (.type "StopIteration") []) ?_
  unfold newExc newTuple
  refine wpAny_bind (wpAny_newObj_type (wpAny_bind (m := firstArgMember _ _) (wpAny_of_eq (a := Value.none) (by first | rfl | (simp only [firstArgMember]; rfl)) ?_)) (by size_fits))
  refine wpAny_newObj_type ?_ (by size_fits)
  unfold raiseNew
  refine wpAny_bind (wpAny_handled ?_)
  first | rw [show A.in1.handled = none from hh] | rw [hh]
  exact wpAny_bind (wpAny_pure (wpAny_throw (q _ _ (((Heap.SameBut.update ..).extBut.push _).push _) ⟨_, Heap.get?_push_size _ rfl, rfl⟩)))
theorem sq_next {k : Bool} {it l : Addr} {i : Nat} {xs : Array Value} {x : Value} {Q : Value → Shared → Prop} (hit : SqI k s.heap it l i) (hl : SqH k s.heap l xs) (hx : xs[i]? = some x)
    (q : ∀ h', SqI k h' it l (i + 1) → Heap.SameBut it s.heap h' → Q x { s with heap := h' }) : wpAny (model prog w) A (Builtin.SmallTypes.nextOf (.ref it)) Q E s := by
  cases k
  · exact wpAny_nextOf_list_item (show s.heap.IsListIter it l i from hit) hl hx q
  · exact tup_next (show s.heap.IsTupleIter it l i from hit) hl hx q
theorem sq_next_end {k : Bool} {it l : Addr} {i : Nat} {xs : Array Value} {Q : Value → Shared → Prop} (hh : A.handled = none) (hit : SqI k s.heap it l i) (hl : SqH k s.heap l xs) (hx : xs[i]? = none)
    (q : ∀ h' e, Heap.ExtBut it s.heap h' → (∃ o, h'.get? e = some o ∧ o.cls = .type "StopIteration") → E (.ref e) { s with heap := h' }) : wpAny (model prog w) A (Builtin.SmallTypes.nextOf (.ref it)) Q E s := by
  cases k
  · exact wpAny_nextOf_list_end hh (show s.heap.IsListIter it l i from hit) hl hx q
  · exact tup_next_end hh (show s.heap.IsTupleIter it l i from hit) hl hx q
end
theorem draws {prog : Program} {w : World} {A : Around} (hh : A.handled = none) (k : Bool) (it l : Addr) (hne : l ≠ it) (xs : Array Value) :
    Draws prog w A it [it, l] xs.size (fun i v => xs[i]? = some v) (fun i h => SqI k h it l i ∧ SqH k h l xs) where
  live := fun _ _ st => let ⟨o, e, _⟩ := st.1.obj; ⟨o, e⟩
  frame := fun _ _ _ st hk => ⟨st.1.keep (hk it (by simp)), st.2.keep (hk l (by simp))⟩
  item := fun i s Q E hi st hQ => sq_next st.1 st.2 (x := xs[i]) (by simp [hi]) fun h' a b => hQ _ h' s.toks (by simp [hi]) ⟨a, st.2.keep fun o e => b.extBut l o hne e⟩ b
  done := fun s Q E st hE => sq_next_end hh st.1 st.2 (by simp) hE
end L3
set_option Elab.async false
set_option linter.all false
set_option maxRecDepth 100000
namespace L3
open PySem PySem.Spec PyProof.Rows L2
section
variable {X : Cx}
def CDivB (i j : Int) : Prop := 0 < j ∧ j < 10 ^ 60
theorem log2_lt {j : Int} (h1 : 0 < j) (h2 : j < 10 ^ 60) : j.natAbs.log2 < 9000 := by
  have h3 : j.natAbs ≠ 0 := by omega
  have h5 : j.natAbs < 2 ^ 200 := by omega
  have := (Nat.log2_lt h3).mpr h5
  omega
theorem op_fdivB : OpR X (binaryOp .FloorDiv) (rI CDivB fun i j => .int (i / j)) := opI fun i j _ _ _ _ _ hc q => by
  have h1 : (0 : Int) < j := hc.1
  exact floordiv_int (by omega) (by rw [Int.fdiv_eq_ediv_of_nonneg i (by omega)]; exact q) (.inl (PyProof.noPylong_of_log2 (log2_lt hc.1 hc.2)))
def rRng1 : List V → Hp → VK → Prop := fun xs H Q => ∃ j : Int, xs = [.int j] ∧ ∀ p, H p = none → Q (.ref p) (upd H p (.rng 0 j))
theorem call_rng1 : CallR X (.type "range") rRng1 := by
  intro pins s σ H xs us Q I r h
  obtain ⟨j, rfl, q⟩ := h
  obtain ⟨u, rfl, t, rfl⟩ := vals1 r
  refine call_range_1 ?_
  refine ⟨.ref s.heap.objs.size, _, I.laid (t' := s.toks + 1 + 1) (fun b o e => Heap.get?_push_of_some _ e) (Nat.le_refl _) (show ObjOk X.prog X.w _ _ _ (.rng 0 j) from ⟨_, _, _, Heap.get?_push_size _ rfl⟩), rfl, q _ (I.hok.fresh (Nat.le_refl _))⟩
def upto (n : Nat) : List V := (List.range n).map fun i => V.int (i : Nat)
theorem upto_length (n : Nat) : (upto n).length = n := by simp [upto]
theorem vals_from : ∀ (l : List Value) (k : Nat), (∀ (i : Nat) (v : Value), l[i]? = some v → ∃ t, v = Value.int (((k + i : Nat) : Int)) t) → Vals ((List.range' k l.length).map fun (i : Nat) => V.int (i : Int)) l
  | [], k, _ => .nil
  | x :: l, k, h => by
    refine .cons ?_ (vals_from l (k + 1) fun i v hi => ?_)
    · obtain ⟨t, ht⟩ := h 0 x rfl
      exact ⟨t, ht⟩
    · obtain ⟨t, ht⟩ := h (i + 1) v (by simpa using hi)
      exact ⟨t, by rw [ht, show k + 1 + i = k + (i + 1) by omega]⟩
theorem vals_of_items {n : Nat} {acc : Array Value} (h : ItemsOf (fun i v => ∃ t, v = Value.int (0 + (i : Nat) * 1) t) acc n) : Vals (upto n) acc.toList := by
  obtain ⟨hs, hv⟩ := h
  have e : upto n = (List.range' 0 acc.toList.length).map fun (i : Nat) => V.int (i : Int) := by
    rw [Array.length_toList, hs, ← List.range_eq_range']; rfl
  rw [e]
  refine vals_from _ 0 fun i v hi => ?_
  obtain ⟨t, ht⟩ := hv i v (by simpa using hi)
  exact ⟨t, by rw [ht]; simp⟩
def rListRng : List V → Hp → VK → Prop := fun xs H Q => ∃ p j, xs = [.ref p] ∧ H p = some (.rng 0 j) ∧ 0 ≤ j ∧ j ≤ 65536 ∧ ∀ l, H l = none → Q (.ref l) (upd H l (.lst (upto j.toNat)))
theorem small65536 : (65536 : Nat) ≤ sizeLine := by decide
theorem call_list_rng (hc : X.calm = true) : CallR X (.type "list") rListRng := by
  intro pins s σ H xs us Q I r h
  obtain ⟨p, j, rfl, hp, hj0, hj, q⟩ := h
  obtain ⟨u, rfl, rx⟩ := vals1 r
  cases rx
  obtain ⟨t, u, v, hr⟩ := I.hok p _ hp
  have hz : Builtin.Range.rangeSize 0 j 1 = (j.toNat : Int) := by rw [rangeSize_one]; split <;> omega
  refine call_list_range (I.ok.hd hc) hr (small_one (by decide) (by decide) (by omega) (by omega)) hz (by omega) fun h' tk acc c' kp e it => ?_
  refine ⟨.ref s.heap.objs.size, _, I.laid (t' := tk) kp (Nat.le_refl _) (show ObjOk X.prog X.w _ h' _ (.lst (upto j.toNat)) from ⟨?_, acc.toList, c', vals_of_items it, by simpa using e⟩), rfl, q _ (I.hok.fresh (Nat.le_refl _))⟩
  rw [upto_length]; have := small65536; omega
theorem collect_rng {prog : Program} {w : World} {A : Around} {E : Value → Shared → Prop} {s : Shared} {Q : List Value → Shared → Prop} {r : Addr} {b : Int} {t u v : Tok} {n : Nat} (hh : A.handled = none) (hr : IsRange s.heap r 0 b 1 t u v) (hsm : Builtin.Range.small 0 b 1 = true) (hn : Builtin.Range.rangeSize 0 b 1 = n) (hl : n ≤ 2 ^ 24)
    (q : ∀ (h' : Heap) (tk : Nat) (acc : Array Value), (∀ b o, s.heap.get? b = some o → h'.get? b = some o) → ItemsOf (fun i v => ∃ t, v = Value.int (0 + (i : Nat) * 1) t) acc n → Q acc.toList { s with heap := h', toks := tk }) :
    wpAny (model prog w) A (collect (.ref r)) Q E s := by
  unfold collect
  refine wpAny_bind (wpAny_runValue (codeAny_builtin F.entry_proto_collect ?_))
  rw [Around.under_plainId F.plain_proto_collect _]
  refine wpAny_bind (m := newList []) (wpAny_newObj_type (wpAny_pure ⟨plainId_quiet F.plain_list_iadd _, codeAny_builtin F.entry_list_iadd ?_⟩))
  rw [Around.under_plainId F.plain_list_iadd _]
  have hS : (s.heap.push { cls := .type "list", data := .seq ([] : List Value).toArray }).get? s.heap.objs.size = some { cls := .type "list", data := .seq #[] 0 } := Heap.get?_push_size _ rfl
  have last : ∀ h' tk acc' c', (∀ b o, b ≠ s.heap.objs.size → (s.heap.push { cls := .type "list", data := .seq ([] : List Value).toArray }).get? b = some o → h'.get? b = some o) → h'.get? s.heap.objs.size = some { cls := .type "list", dict := none, data := .seq acc' c', slots := #[] } →
      ItemsOf (fun i v => ∃ t, v = Value.int (0 + (i : Nat) * 1) t) acc' n → wpAny (model prog w) A (match Value.ref s.heap.objs.size with
      | Value.ref a => do
        match (← load a).data with
          | Data.seq xs _ => pure xs.toList
          | _ => unsupported "internal:collect"
      | _ => unsupported "internal:collect") Q E { s with heap := h', toks := tk } := fun h' tk acc' c' kp e it => by
    refine wpAny_bind (m := load s.heap.objs.size) (wpAny_load e (wpAny_pure ?_))
    exact q h' tk acc' (fun b o eb => kp b o (Nat.ne_of_lt (Heap.lt_size eb)) (Heap.get?_push_of_some _ eb)) it
  refine wpAny_mono (wpAny_extend_range (A := A) (R := fun r s' => r = .ok (.ret (.ref s.heap.objs.size)) ∧ wpAny (model prog w) A (match Value.ref s.heap.objs.size with
      | Value.ref a => do
        match (← load a).data with
          | Data.seq xs _ => pure xs.toList
          | _ => unsupported "internal:collect"
      | _ => unsupported "internal:collect") Q E s') (s := { s with heap := s.heap.push { cls := .type "list", data := .seq ([] : List Value).toArray } }) hh (Heap.get?_push_of_some _ hr) hsm hn hl _ (.ref s.heap.objs.size) 0 hS
      fun h' tk acc' c' kp e it => ⟨rfl, last h' tk acc' c' kp e it⟩) (fun fin s' h => ?_) (fun e s' h => ?_)
  · cases fin with
    | done f =>
      obtain ⟨e, h⟩ := h
      cases e
      exact h
    | again c' => exact ⟨h.1, codeAny_mono h.2 fun r s'' hr => by obtain ⟨e, h⟩ := hr; cases e; exact h⟩
  · exact absurd h.1 (by simp)
theorem meets_tuple_rng (r : Addr) (b : Int) (t u v : Tok) (n : Nat) (hsm : Builtin.Range.small 0 b 1 = true) (hn : Builtin.Range.rangeSize 0 b 1 = n) (hl : n ≤ 2 ^ 24) {prog : Program} {w : World} {A : Around} {Q : Value → Shared → Prop} {E : Value → Shared → Prop} {s : Shared} (hh : A.handled = none) (hr : IsRange s.heap r 0 b 1 t u v)
    (q : ∀ (h' : Heap) (tk : Nat) (acc : Array Value), (∀ b o, s.heap.get? b = some o → h'.get? b = some o) → ItemsOf (fun i v => ∃ t, v = Value.int (0 + (i : Nat) * 1) t) acc n → Q (.ref h'.objs.size) { s with heap := h'.push { cls := .type "tuple", data := .seq acc }, toks := tk }) :
    codeAny (model prog w) A (.call (.builtin "tuple.__new__") ⟨[.type "tuple", .ref r], []⟩) (wants Q E) s := by
  refine codeAny_of_tree ?_
  show wpAny _ A.in1 (do checkBuiltinCall "tuple.__new__" ⟨[.type "tuple", .ref r], []⟩; again (.builtin "tuple.__new__" ⟨[.type "tuple", .ref r], []⟩)) _ _ s
  refine wpAny_bind (wpAny_of_eq (F.newCall_tuple_1 _) (wpAny_pure ⟨plainId_quiet F.plain_tuple_new _, codeAny_builtin F.entry_tuple_new ?_⟩))
  rw [Around.under_plainId F.plain_tuple_new _]
  have hsub := sub_tuple_self
  have hinit := init_tuple_lookup
  have hmh := madeHere_tuple
  have hT : s.TypeIs (.ref r) "range" := ⟨_, hr, rfl⟩
  have hh1 : A.in1.handled = none := hh
  wp_walk using wpAny_typeOf hT, collect_rng hh1 hr hsm hn hl
  intro h' tk acc kp it
  show wpAny _ _ (Builtin.Tuple.tupleExact acc.toList.toArray >>= fun v => ret v) _ _ _
  unfold Builtin.Tuple.tupleExact
  have e : acc.toList.toArray = acc := by simp
  rw [e]
  refine wpAny_bind (wpAny_newObj_type (wpAny_pure (q h' tk acc kp it)) (by show acc.size ≤ sizeLine; rw [it.1]; exact hl))
theorem call_tuple_rng0 {r : Addr} {b : Int} {t u v : Tok} {n : Nat} (hsm : Builtin.Range.small 0 b 1 = true) (hn : Builtin.Range.rangeSize 0 b 1 = n) (hl : n ≤ 2 ^ 24) {prog : Program} {w : World} {A : Around} {Q : Value → Shared → Prop} {E : Value → Shared → Prop} {s : Shared} (hh : A.handled = none) (hr : IsRange s.heap r 0 b 1 t u v)
    (q : ∀ (h' : Heap) (tk : Nat) (acc : Array Value), (∀ b o, s.heap.get? b = some o → h'.get? b = some o) → ItemsOf (fun i v => ∃ t, v = Value.int (0 + (i : Nat) * 1) t) acc n → Q (.ref h'.objs.size) { s with heap := h'.push { cls := .type "tuple", data := .seq acc }, toks := tk }) :
    wpAny (model prog w) A (call (.type "tuple") [.ref r]) Q E s := by
  refine callType_codes (Q₁ := fun obj s₁ => s₁.TypeIs obj "tuple" ∧ Q obj s₁) F.called_tuple (F.typeCall_tuple_1 _) F.entry_object_init
    (meets_tuple_rng r b t u v n hsm hn hl hh hr fun h' tk acc kp it => ⟨⟨_, Heap.get?_push_size _ rfl, rfl⟩, q h' tk acc kp it⟩) fun obj s₁ h₁ => ?_
  exact ⟨h₁.1, F.args_object_init_2 obj _, object_init_meets F.called_tuple.init.lookup F.called_tuple.made (by decide) prog w A.in1 _ s₁ ⟨h₁.1, rfl, h₁.2⟩⟩
def rTupRng : List V → Hp → VK → Prop := fun xs H Q => ∃ p j, xs = [.ref p] ∧ H p = some (.rng 0 j) ∧ 0 ≤ j ∧ j ≤ 65536 ∧ ∀ l, H l = none → Q (.ref l) (upd H l (.tup (upto j.toNat)))
theorem call_tup_rng (hc : X.calm = true) : CallR X (.type "tuple") rTupRng := by
  intro pins s σ H xs us Q I r h
  obtain ⟨p, j, rfl, hp, hj0, hj, q⟩ := h
  obtain ⟨u, rfl, rx⟩ := vals1 r
  cases rx
  obtain ⟨t, u, v, hr⟩ := I.hok p _ hp
  have hz : Builtin.Range.rangeSize 0 j 1 = (j.toNat : Int) := by rw [rangeSize_one]; split <;> omega
  refine call_tuple_rng0 (small_one (by decide) (by decide) (by omega) (by omega)) hz (by omega) (I.ok.hd hc) hr fun h' tk acc kp it => ?_
  have I1 : Inv X pins σ H { s with heap := h', toks := tk } := I.kept kp
  have I2 : Inv X pins σ (upd H h'.objs.size (.tup (upto j.toNat))) { s with heap := h'.push { cls := .type "tuple", data := .seq acc }, toks := tk } :=
    I1.laid (t' := tk) (fun b o e => Heap.get?_push_of_some _ e) (Nat.le_refl _) (show ObjOk X.prog X.w _ _ _ (.tup (upto j.toNat)) from ⟨by rw [upto_length]; have := small65536; omega, acc.toList, vals_of_items it, by simpa using IsTupD.new h' acc⟩)
  exact ⟨.ref h'.objs.size, _, I2, rfl, q _ (I1.hok.fresh (Nat.le_refl _))⟩
end
end L3
set_option Elab.async false
set_option linter.all false
set_option maxRecDepth 100000
namespace L3
open PySem PySem.Spec PyProof.Rows L2
def SqX : Bool → PySem.W.Frag → Hp → Addr → List V → Prop
  | true, K, H, a, xs => SqT K H a xs
  | false, K, H, a, xs => SqL K H a xs
section
variable {X : Cx} {pins : List (Addr × Obj)} {σ : L2.St} {H : Hp} {s : Shared} {a : Addr} {xs : List V} {k : Bool}
theorem sqx (I : Inv X pins σ H s) (h : SqX k X.K H a xs) : ∃ its : List Value, Vals xs its ∧ SqH k s.heap a its.toArray ∧ xs.length ≤ sizeLine := by
  cases k
  · obtain ⟨its, r, p, z⟩ := I.list (show SqL X.K H a xs from h); exact ⟨its, r, p.isList, z⟩
  · obtain ⟨its, r, p, z⟩ := I.tuple (show SqT X.K H a xs from h); exact ⟨its, r, p, z⟩
theorem SqH.ne {h : Heap} {b : Addr} {o : Obj} {n : String} {its : Array Value} (x : SqH k h a its) (e : h.get? b = some o) (c : o.cls = .type n) (h1 : n ≠ "list") (h2 : n ≠ "tuple") : a ≠ b := by
  intro z
  subst z
  cases k
  · obtain ⟨o', e', c', _⟩ := (show h.IsList a its from x)
    rw [e] at e'; cases e'; rw [c] at c'; injection c' with q; exact h1 q
  · obtain ⟨o', e', c', _⟩ := (show h.IsTuple a its from x)
    rw [e] at e'; cases e'; rw [c] at c'; injection c' with q; exact h2 q
theorem SqI.cls {h : Heap} {it : Addr} {i : Nat} (x : SqI k h it a i) : ∃ o, h.get? it = some o ∧ o.cls = .type (itN k) := by
  cases k
  · obtain ⟨o, e, c, _⟩ := (show h.IsListIter it a i from x); exact ⟨o, e, c⟩
  · obtain ⟨o, e, c, _⟩ := (show h.IsTupleIter it a i from x); exact ⟨o, e, c⟩
theorem SqH.neI {h : Heap} {it b : Addr} {i : Nat} {k' : Bool} {its : Array Value} (x : SqH k h a its) (y : SqI k' h it b i) : a ≠ it := by
  obtain ⟨o, e, c⟩ := y.cls
  refine x.ne e c ?_ ?_ <;> (cases k' <;> decide)
end
/-- the items of xs (at a), each in a new pair with its place -/
def IteX (k : Bool) (K : PySem.W.Frag) (a : Addr) (xs : List V) : It :=
  ⟨fun i H => SqX k K H a xs ∧ i < xs.length, fun i H v H' => ∃ T x, v = .ref T ∧ H T = none ∧ H' = upd H T (.tup [.int (i : Nat), x]) ∧ xs[i]? = some x, fun i H => SqX k K H a xs ∧ xs.length ≤ i⟩
theorem turn_enumX {P : Program} {w : World} {K : PySem.W.Frag} {elts : List Expr} {kk : Nat} {tpos : Pos} (k : Bool) (a e it : Addr) (xs : List V) :
    Turn P w K (.Tuple elts kk tpos) (IteX k K a xs) [e, it] e (fun i h => (∃ old, IsEnum h e it ((i : Nat) : Int) old) ∧ SqI k h it a i ∧ e ≠ it) where
  mem := by simp
  obj := fun i h st b hb => by
    obtain ⟨⟨old, he⟩, hi, _⟩ := st
    have e' : b = e ∨ b = it := by simpa using hb
    rcases e' with z | z
    · rw [z]; exact ⟨_, he, fun v q => nomatch q⟩
    · rw [z]; exact hi.obj
  keep := fun i h h' st kp => let ⟨⟨old, he⟩, hi, hne⟩ := st; ⟨⟨old, kp e (by simp) _ he⟩, hi.keep fun o q => kp it (by simp) o q, hne⟩
  item := by
    intro X hP hw hK hc i pins s σ H E I hf st hg
    subst hP hw hK
    obtain ⟨⟨old, he⟩, hit, hne⟩ := st
    obtain ⟨hq, hlt⟩ := hg
    obtain ⟨its, rv, p, hz⟩ := sqx I hq
    have hl := rv.length
    have hel : e < s.heap.objs.size := Heap.lt_size he
    have hil : it < s.heap.objs.size := hit.lt
    have hae : a ≠ e := p.ne he rfl (by decide) (by decide)
    have hai : a ≠ it := p.neI hit
    have hh : X.A.in1.handled = none := I.ok.hd hc
    refine wpAny_pyNext_enum_itemD (draws hh k it a hai its.toArray) he ⟨hit, p⟩ (by simp; omega) hne (by simp; exact ⟨hne, fun z => hae z.symm⟩) fun u h' tk hu ho hst hT hsz hk => ?_
    obtain ⟨x, hx⟩ : ∃ x, xs[i]? = some x := ⟨xs[i], by simp [hlt]⟩
    obtain ⟨u', hu', ru⟩ := rv.get hx
    have eu : u' = u := by
      have hu2 : its[i]? = some u := by simpa using hu
      rw [hu'] at hu2; exact Option.some.inj hu2
    subst eu
    refine ⟨_, rfl, wpAny_letOwnedTupleGo_enum (s := { s with heap := h', toks := tk + 1 }) ho fun h'' he' sb => ?_⟩
    have hT2 : h''.get? s.heap.objs.size = some { cls := .type "tuple", data := .seq #[.int i tk, u'] } := (sb.2 _ (Nat.ne_of_gt hel)).trans hT
    have new : ObjOk X.prog X.w (upd H s.heap.objs.size (.tup [.int (i : Nat), x])) h'' s.heap.objs.size (.tup [.int (i : Nat), x]) :=
      ⟨by show 2 ≤ sizeLine; decide, [.int i tk, u'], .cons ⟨_, rfl⟩ (.cons ru .nil), ⟨_, hT2, ⟨rfl, _, rfl⟩, rfl⟩⟩
    have I1 : Inv X pins σ (upd H s.heap.objs.size (.tup [.int (i : Nat), x])) { s with heap := h'', toks := tk + 1 } :=
      I.turnedNew (ch := [e, it]) (fun b ob hb q => (sb.2 b (fun z => hb (by simp [z]))).trans (hk b ob (fun z => hb (by simp [z])) (fun z => hb (by simp [z])) q)) hf (Nat.le_refl _) new
    refine ⟨.ref s.heap.objs.size, _, I1, rfl, ⟨_, x, rfl, I.hok.fresh (Nat.le_refl _), rfl, hx⟩, ⟨⟨u', ?_⟩, hst.1.keep fun o q => (sb.2 it (Ne.symm hne)).trans q, hne⟩, fun b hb => ?_⟩
    · have e1 : ((i + 1 : Nat) : Int) = (i : Int) + 1 := by omega
      rw [e1]; exact he'
    · have hb' : b < s.heap.objs.size := by
        have e' : b = e ∨ b = it := by simpa using hb
        rcases e' with z | z
        · rw [z]; exact hel
        · rw [z]; exact hil
      rw [upd_ne (Nat.ne_of_lt hb')]
      exact (hf b hb).1
  done := by
    intro X hP hw hK hc i pins s σ H E I hf st hg
    subst hP hw hK
    obtain ⟨⟨old, he⟩, hit, hne⟩ := st
    obtain ⟨hq, hlt⟩ := hg
    obtain ⟨its, rv, p, hz⟩ := sqx I hq
    obtain ⟨f0, f1, f2, f3, f4, f5⟩ := hf it (by simp)
    have hl := rv.length
    have hh : X.A.in1.handled = none := I.ok.hd hc
    have hTe : s.TypeIs (.ref e) "enumerate" := ⟨_, he, rfl⟩
    unfold pyNext
    refine wpAny_bind (wpAny_attempt (wpAny_callSpecial?_slot (name := Str.ofString "__next__") hTe F.slot_enumerate_next (wpAny_call_entry F.slot_enumerate_next hTe F.entry_enumerate_next ?_ (F.args_enumerate_next_1 _))))
    refine wpAny_bind (m := field (.ref e) 2) (wpAny_field he rfl (x := .ref it) rfl ?_)
    refine wpAny_bind (sq_next_end hh hit p (by simp; omega) fun h' x eb hx => ?_)
    obtain ⟨o, ho, hcl⟩ := hx
    exact wpAny_bind (wpAny_isInstance (T := "StopIteration") (b := true) ⟨o, ho, hcl⟩ isSubtype_stop (wpAny_pure ⟨rfl, I.turned (t' := s.toks) (fun b o hb q => eb b o hb q) f0 f1 f3 f4 f5⟩))
  self := fun A i s Q E st h => let ⟨⟨_, he⟩, _⟩ := st; wpAny_pyIter_enum he h
set_option maxHeartbeats 1000000 in
theorem meets_enum_tup (l : Addr) (items : Array Value) (n : Nat) (dct : Option Addr) (sl : Array (Option Value)) :
    Meets (Builtin.«enumerate.__new__» ⟨[.type "enumerate", .ref l], []⟩) (fun _ R s => s.heap.get? l = some { cls := .type "tuple", dict := dct, data := .seq items n, slots := sl } ∧
      R (.ok (.ret (.ref (s.heap.push (itO true l)).objs.size)))
        { s with heap := (s.heap.push (itO true l)).push { cls := .type "enumerate", data := .fields #[.none, .bool false, .ref s.heap.objs.size, rawInt 0, .none, .none] } }) :=
  .of_wp fun prog w A R s h => by
    obtain ⟨hp, g, d, tk, os⟩ := s
    obtain ⟨hl, h⟩ := h
    have hsub := sub_enumerate
    have hL : SqH true (Shared.heap ⟨hp, g, d, tk, os⟩) l items := (⟨_, hl, rfl, n, rfl⟩ : Heap.IsTuple _ _ _)
    wp_walk using AutoSeq1.wpAny_loadPart' hl
    refine wpAny_stack_any fun st => wpAny_pure ?_
    split
    · rename_i c _ _ _ _ _
      cases (c == Value.type "enumerate") <;> (wp_walk using AutoSeq1.wpAny_loadPart' hl, sq_iter hL; exact ⟨_, rfl, h⟩)
    · wp_walk using AutoSeq1.wpAny_loadPart' hl, sq_iter hL
      exact ⟨_, rfl, h⟩
theorem call_enumX {prog : Program} {w : World} {A : Around} {E : Value → Shared → Prop} {s : Shared} {k : Bool} {l : Addr} {items : Array Value} {Q : Value → Shared → Prop} (hL : SqH k s.heap l items)
    (h : ∀ h', IsEnum h' (s.heap.objs.size + 1) s.heap.objs.size 0 .none → SqI k h' s.heap.objs.size l 0 → (∀ b o, s.heap.get? b = some o → h'.get? b = some o) → Q (.ref (s.heap.objs.size + 1)) { s with heap := h' }) :
    wpAny (model prog w) A (call (.type "enumerate") [.ref l]) Q E s := by
  cases k
  · exact call_enumerate_list (show s.heap.IsList l items from hL) fun h' a b _ c => h h' a b c
  · obtain ⟨⟨c, dct, dt, sl⟩, hl, hc, n, hd⟩ := (show s.heap.IsTuple l items from hL)
    replace hc : c = .type "tuple" := hc
    replace hd : dt = .seq items n := hd
    subst hc hd
    refine callType_new F.called_enumerate (by decide) (F.typeCall_enumerate_1 _) (F.newCall_enumerate_1 _) (fun obj => F.args_object_init_2 obj _) F.entry_enumerate_new (meets_enum_tup l items n dct sl) ⟨hl, ?_⟩
    have hz : (s.heap.push (itO true l)).objs.size = s.heap.objs.size + 1 := Heap.size_push ..
    show _ ∧ _
    rw [hz]
    have he : IsEnum ((s.heap.push (itO true l)).push { cls := .type "enumerate", data := .fields #[.none, .bool false, .ref s.heap.objs.size, rawInt 0, .none, .none] }) (s.heap.objs.size + 1) s.heap.objs.size 0 .none := by
      have q := Heap.get?_push_size (s.heap.push (itO true l)) (o := { cls := .type "enumerate", data := .fields #[.none, .bool false, .ref s.heap.objs.size, rawInt 0, .none, .none] }) rfl
      rw [hz] at q; exact q
    exact ⟨⟨_, he, rfl⟩, h _ he (SqI.new (Heap.get?_push_of_some _ (Heap.get?_push_size _ rfl))) fun b o x => Heap.get?_push_of_some _ (Heap.get?_push_of_some _ x)⟩
end L3
set_option Elab.async false
set_option linter.all false
set_option maxRecDepth 100000
namespace L3
open PySem PySem.Spec PyProof.Rows L2
section
variable {prog : Program} {w : World} {A : Around} {E : Value → Shared → Prop} {s : Shared} {z TI TO i1 i2 a b : Addr} {k1 k2 : Bool} {n : Nat} {xs ys : Array Value}
end
end L3
set_option Elab.async false
set_option linter.all false
set_option maxRecDepth 100000
namespace L3
open PySem PySem.Spec PyProof.Rows L2
theorem noFill_tuple_mul : fillsNumberSlot (.type "tuple") "mul" = pure false :=
  PySem.fillsNumberSlot_seq (id := "tuple.__mul__") (r := some (.builtin "tuple.__rmul__")) F.slot_tuple_mul.lookup (by decide +kernel) F.slot_tuple_rmul.lookup (by decide +kernel)
theorem repeat_tuple : seqRepeat? (.type "tuple") = pure (some (.builtin "tuple.__mul__")) := by
  unfold seqRepeat?
  rw [PySem.seqSlot_of (T := "tuple") (name := "__mul__") (id := "tuple.__mul__") F.slot_tuple_mul.lookup (by decide +kernel), PySem.seqSlot_of (T := "tuple") (name := "__rmul__") (id := "tuple.__rmul__") F.slot_tuple_rmul.lookup (by decide +kernel)]
  rfl
theorem int_rmul_tuple (a : Int) (t : Tok) (l : Addr) (items : Array Value) (n : Nat) (dct : Option Addr) (sl : Array (Option Value)) :
    Meets (Builtin.«int.__rmul__» ⟨[.int a t, .ref l], []⟩) (fun _ R s => s.heap.get? l = some { cls := .type "tuple", dict := dct, data := .seq items n, slots := sl } ∧ R (.ok (.ret Value.notImplemented)) s) :=
  .of_wp fun prog w A R s h => by
    obtain ⟨hp, g, d, tk, os⟩ := s
    obtain ⟨hl, h⟩ := h
    wp_walk using AutoSeq1.wpAny_loadPart' hl
    exact ⟨_, rfl, h⟩
theorem tup_items {prog : Program} {w : World} {A : Around} {E : Value → Shared → Prop} {s : Shared} {l : Addr} {items : Array Value} {Q : Array Value → Shared → Prop} (h : s.heap.IsTuple l items) (q : Q items s) : wpAny (model prog w) A (Builtin.Tuple.tupleItemsOf (.ref l)) Q E s := by
  obtain ⟨o, e, _, n, d⟩ := h
  unfold Builtin.Tuple.tupleItemsOf
  exact wpAny_bind (wpAny_seqItems e d (wpAny_pure q))
theorem tup_exact {prog : Program} {w : World} {A : Around} {E : Value → Shared → Prop} {s : Shared} {l : Addr} {items : Array Value} {Q : Bool → Shared → Prop} (h : s.heap.IsTuple l items) (q : Q true s) : wpAny (model prog w) A (Builtin.Tuple.tupleIsExact (.ref l)) Q E s := by
  unfold Builtin.Tuple.tupleIsExact
  refine wpAny_bind (wpAny_typeOf h.typeIs (wpAny_pure ?_))
  exact q
theorem tuple_mul (l : Addr) (items : Array Value) (x : Int) (u : Tok) (h1 : -(2 ^ 63) ≤ x) (h2 : x < 2 ^ 63) (hne : items.isEmpty = false) (hsz : items.size * x.toNat ≤ sizeLine) :
    Meets (Builtin.«tuple.__mul__» ⟨[.ref l, .int x u], []⟩) (fun _ R s => s.heap.IsTuple l items ∧ (x = 1 → R (.ok (.ret (.ref l))) s) ∧
      (x ≠ 1 → R (.ok (.ret (.ref s.heap.objs.size))) { s with heap := s.heap.push { cls := .type "tuple", data := .seq ((List.replicate x.toNat items).foldl (· ++ ·) #[]) } })) :=
  .of_wp fun prog w A R s h => by
    obtain ⟨hp, g, d, tk, os⟩ := s
    obtain ⟨hl, ha, hb⟩ := h
    have c0 : ¬ (decide (x < -(2 ^ 63)) || decide (x ≥ 2 ^ 63)) = true := by simp; omega
    by_cases e1 : x = 1
    · subst e1
      wp_walk using tup_items hl, tup_exact hl
      exact ⟨_, rfl, ha rfl⟩
    · have c1 : ¬ (items.isEmpty || x == 1) = true := by rw [hne]; simp; exact e1
      wp_walk using tup_items hl, tup_exact hl
      refine wpAny_ite_false (decide_eq_false c0) ?_
      wp_walk using tup_items hl, tup_exact hl
      by_cases e0 : x ≤ 0
      · have c2 : (decide (x ≤ 0) || items.isEmpty) = true := by simp [e0]
        have e : x.toNat = 0 := by omega
        have hb' := hb e1
        rw [e] at hb'
        refine wpAny_ite_true (decide_eq_true c2) ?_
        unfold Builtin.Tuple.tupleExact
        exact wpAny_bind (wpAny_newObj_type (wpAny_pure ⟨_, rfl, hb'⟩))
      · have c2 : ¬ (decide (x ≤ 0) || items.isEmpty) = true := by rw [hne]; simp; omega
        have e : ((items.size : Int) * x) = ((items.size * x.toNat : Nat) : Int) := by
          rw [Int.natCast_mul, Int.toNat_of_nonneg (by omega)]
        have sl : (sizeLine : Nat) ≤ (2 ^ 63 - 1) / 8 := by decide
        have c3 : ¬ ((items.size : Int) * x > (2 ^ 63 - 1) / 8) := by rw [e]; omega
        have c4 : ¬ Builtin.Tuple.tupleTooMany ((items.size : Int) * x) = true := by
          unfold Builtin.Tuple.tupleTooMany
          have hs2 : ((items.size * x.toNat : Nat) : Int) ≤ (sizeLine : Int) := Int.ofNat_le.mpr hsz
          rw [e]; intro hc; have := of_decide_eq_true hc; omega
        refine wpAny_ite_false (decide_eq_false c2) ?_
        refine wpAny_ite_false (decide_eq_false c3) ?_
        refine wpAny_ite_false (decide_eq_false c4) ?_
        unfold Builtin.Tuple.tupleExact
        refine wpAny_bind (wpAny_newObj_type (wpAny_pure ⟨_, rfl, hb e1⟩) ?_)
        have f0 : ∀ (m : Nat) (acc : Array Value), (List.foldl (fun x1 x2 => x1 ++ x2) acc (List.replicate m items)).size = acc.size + items.size * m := by
          intro m
          induction m with
          | zero => intro acc; simp
          | succ m ih => intro acc; rw [List.replicate_succ, List.foldl_cons, ih, Array.size_append, Nat.mul_succ]; omega
        show (List.foldl (fun x1 x2 => x1 ++ x2) #[] (List.replicate x.toNat items)).size ≤ sizeLine
        rw [f0]; simpa using hsz
theorem tuple_mul0 (l : Addr) (items : Array Value) (x : Int) (u : Tok) (h1 : -(2 ^ 63) ≤ x) (h2 : x < 2 ^ 63) (hne : items.isEmpty = true) :
    Meets (Builtin.«tuple.__mul__» ⟨[.ref l, .int x u], []⟩) (fun _ R s => s.heap.IsTuple l items ∧ R (.ok (.ret (.ref l))) s) :=
  .of_wp fun prog w A R s h => by
    obtain ⟨hp, g, d, tk, os⟩ := s
    obtain ⟨hl, ha⟩ := h
    have c0 : ¬ (decide (x < -(2 ^ 63)) || decide (x ≥ 2 ^ 63)) = true := by simp; omega
    have c1 : (items.isEmpty || x == 1) = true := by rw [hne]; rfl
    wp_walk using tup_items hl, tup_exact hl
    refine wpAny_ite_false (decide_eq_false c0) ?_
    wp_walk using tup_items hl, tup_exact hl
    exact ⟨_, rfl, ha⟩
section
variable {X : Cx}
/-- a tuple (not empty) times an int; times one it is itself -/
def rRepT (K : PySem.W.Frag) : R2 := fun x y H Q => ∃ l k xs, x = .ref l ∧ y = .int k ∧ SqT K H l xs ∧ xs ≠ [] ∧ -(2 ^ 63) ≤ k ∧ k < 2 ^ 63 ∧ xs.length * k.toNat ≤ sizeLine ∧ (k = 1 → Q (.ref l) H) ∧
  (k ≠ 1 → ∀ p, H p = none → Q (.ref p) (upd H p (.tup (List.replicate k.toNat xs).flatten)))
theorem op_repT : OpR X (binaryOp .Mult) (rRepT X.K) := by
  intro pins s σ H x y v u Q I rx ry h
  obtain ⟨l, k, xs, rfl, rfl, hq, hne, h1, h2, hz, q1, q2⟩ := h
  cases rx
  obtain ⟨t, rfl⟩ := ry
  obtain ⟨its, r, p, hsz⟩ := I.tuple hq
  have hlen := r.length
  have hni : its.toArray.isEmpty = false := by
    cases its with
    | nil => cases r; exact absurd rfl hne
    | cons _ _ => rfl
  obtain ⟨⟨c, dct, dt, sl⟩, e, hc, n, hd⟩ := id p
  replace hc : c = .type "tuple" := hc
  replace hd : dt = .seq its.toArray n := hd
  subst hc hd
  have hsz' : its.toArray.size * k.toNat ≤ sizeLine := by rw [List.size_toArray, ← hlen]; exact hz
  refine wpAny_binaryOp_repeat_ref (T := "tuple") (U := "int") (by decide) ⟨_, e, rfl⟩ (fun s' => typeIs_int s' k t) noFill_tuple_mul F.fills_int_mul F.slot_int_rmul repeat_tuple F.slot_int_index.lookup
    (call_meets F.slot_int_rmul (typeIs_int s k t) F.entry_int_rmul (F.args_int_rmul_2 _ _) (int_rmul_tuple k t l its.toArray n dct sl)
      ⟨e, rfl, ⟨_, e, rfl⟩, call_meets F.slot_tuple_mul ⟨_, e, rfl⟩ F.entry_tuple_mul (F.args_tuple_mul_2 _ _) (tuple_mul l its.toArray k t h1 h2 hni hsz') ⟨p, fun e1 => ?_, fun e1 => ?_⟩⟩)
  · exact ⟨.ref l, H, I, rfl, q1 e1⟩
  · have ef : List.foldl (fun x1 x2 => x1 ++ x2) #[] (List.replicate k.toNat its.toArray) = (List.replicate k.toNat its).flatten.toArray := by
      have := foldl_rep its k.toNat []
      rw [List.nil_append] at this
      exact this
    rw [ef]
    have I2 : Inv X pins σ (upd H s.heap.objs.size (.tup (List.replicate k.toNat xs).flatten)) { s with heap := s.heap.push { cls := .type "tuple", data := .seq (List.replicate k.toNat its).flatten.toArray } } :=
      I.laid (t' := s.toks) (fun b o e => Heap.get?_push_of_some _ e) (Nat.le_refl _) (show ObjOk X.prog X.w _ _ _ (.tup (List.replicate k.toNat xs).flatten) from ⟨by rw [len_rep, Nat.mul_comm]; exact hz, _, r.rep k.toNat, IsTupD.new _ _⟩)
    exact ⟨.ref s.heap.objs.size, _, I2, rfl, q2 e1 _ (I.hok.fresh (Nat.le_refl _))⟩
/-- the empty tuple times an int -/
def rRepT0 (K : PySem.W.Frag) : R2 := fun x y H Q => ∃ l k, x = .ref l ∧ y = .int k ∧ SqT K H l [] ∧ -(2 ^ 63) ≤ k ∧ k < 2 ^ 63 ∧ Q (.ref l) H
theorem op_repT0 : OpR X (binaryOp .Mult) (rRepT0 X.K) := by
  intro pins s σ H x y v u Q I rx ry h
  obtain ⟨l, k, rfl, rfl, hq, h1, h2, q⟩ := h
  cases rx
  obtain ⟨t, rfl⟩ := ry
  obtain ⟨its, r, p, hsz⟩ := I.tuple hq
  have hni : its.toArray.isEmpty = true := by
    cases r; rfl
  obtain ⟨⟨c, dct, dt, sl⟩, e, hc, n, hd⟩ := id p
  replace hc : c = .type "tuple" := hc
  replace hd : dt = .seq its.toArray n := hd
  subst hc hd
  refine wpAny_binaryOp_repeat_ref (T := "tuple") (U := "int") (by decide) ⟨_, e, rfl⟩ (fun s' => typeIs_int s' k t) noFill_tuple_mul F.fills_int_mul F.slot_int_rmul repeat_tuple F.slot_int_index.lookup
    (call_meets F.slot_int_rmul (typeIs_int s k t) F.entry_int_rmul (F.args_int_rmul_2 _ _) (int_rmul_tuple k t l its.toArray n dct sl)
      ⟨e, rfl, ⟨_, e, rfl⟩, call_meets F.slot_tuple_mul ⟨_, e, rfl⟩ F.entry_tuple_mul (F.args_tuple_mul_2 _ _) (tuple_mul0 l its.toArray k t h1 h2 hni) ⟨p, ?_⟩⟩)
  exact ⟨.ref l, H, I, rfl, q⟩
end
end L3
set_option Elab.async false
set_option linter.all false
set_option maxRecDepth 100000
namespace L3
open PySem PySem.Spec PyProof.Rows L2
structure Def (P : Program) (w : World) (K : PySem.W.Frag) (mg : Str → Option Value) (base : Heap) (x : Str) (k : Nat) (ps : List Str) (sp : Sp) : Prop where
  ex : ∃ (f : Addr) (fd : FuncData), FnOk P w K mg base CX0 k f fd ps sp ∧ mg x = some (.ref f) ∧ PySem.W.keepIn K (.ref f) = true ∧ Binds K fd ps []
theorem pe_def {X : Cx} {x : Str} {k : Nat} {ps : List Str} {sp : Sp} {e : Expr} {es : List Expr} {t : TA} {p pos : Pos} (D : Def X.prog X.w X.K X.mg X.base x k ps sp) (hr : Room k X.A) (hg : Gl X x) (ha : PA X (e :: es) t)
    (hdb : (x == ("__debug__" : Str)) = false := by decide) (he : starEach (e :: es) X.env = (false, eval e X.env) :: starEach es X.env := by rfl) (hpl : (backTo pos (starEach es X.env)).any (·.1) = false := by rfl) :
    PE X (.Call (.Name x p) (e :: es) [] pos) (tCall sp [] E0 t) := by
  obtain ⟨f, fd, F, m, kp, b⟩ := D.ex
  exact pe_call F hr hg m kp b .nil pass0 ha hdb he hpl
def tCut (t : TS) : TS := fun D σ H => ∃ R : L2.St → Hp → Prop, t { D with nx := R } σ H ∧ ∀ σ' H', R σ' H' → D.nx σ' H'
theorem ps_cut {X : Cx} {st : Stmt} {t : TS} (h : PS X st t) : PS X st (tCut t) := by
  intro pins s σ H D I hw
  obtain ⟨R, h1, h2⟩ := hw
  refine thn (h pins s σ H { D with nx := R } I h1) fun f s' q => ?_
  cases f with
  | next => obtain ⟨σ', H', I', r⟩ := q; exact ⟨σ', H', I', h2 _ _ r⟩
  | brk => exact q
  | cont => exact q
  | ret u => exact q
theorem iteB {b : Bool} {A B : Prop} (h : b = false) (q : B) : if b = true then A else B := by subst h; exact iteF q
theorem iteA {b : Bool} {A B : Prop} (h : b = true) (q : A) : if b = true then A else B := by subst h; exact iteT q
/-- the built-ins that no text has bound -/
structure Tn (mg : Str → Option Value) : Prop where
  list_ : mg "list" = none
  tuple_ : mg "tuple" = none
  range_ : mg "range" = none
  int_ : mg "int" = none
  bool_ : mg "bool" = none
  str_ : mg "str" = none
  len_ : mg "len" = none
  isinstance_ : mg "isinstance" = none
  all_ : mg "all" = none
  zip_ : mg "zip" = none
  enumerate_ : mg "enumerate" = none
  max_ : mg "max" = none
  min_ : mg "min" = none
  sorted_ : mg "sorted" = none
  set_ : mg "set" = none
  repr_ : mg "repr" = none
  sum_ : mg "sum" = none
  any_ : mg "any" = none
  abs_ : mg "abs" = none
  dict_ : mg "dict" = none
def Kp (j c : Addr) (H H' : Hp) : Prop := ∀ b o, H b = some o → b ≠ j → b ≠ c → H' b = some o
theorem Kp.refl {j c : Addr} (H : Hp) : Kp j c H H := fun _ _ h _ _ => h
theorem Kp.trans {j c : Addr} {H H1 H2 : Hp} (a : Kp j c H H1) (b : Kp j c H1 H2) : Kp j c H H2 := fun x o h h1 h2 => b x o (a x o h h1 h2) h1 h2
theorem Same.kp {j c : Addr} {H H' : Hp} (a : Same H H') : Kp j c H H' := fun x o h _ _ => a x o h
theorem same_upd {H : Hp} {p : Addr} {o : HO} (h : H p = none) : Same H (upd H p o) := fun b u e => by rw [upd_ne (ne_of_none e h)]; exact e
def kv (c : Addr) (r s t : Int) : List (Key × V) := [(Sum.inr "cells", .ref c), (Sum.inr "rest", .int r), (Sum.inr "seed", .int s), (Sum.inr "turn", .int t)]
theorem kv_made (c : Addr) (r s t : Int) : mergeK [] (kv c r s t) = kv c r s t := rfl
theorem jget_cells {H : Hp} {j c : Addr} {r s t : Int} (h : H j = some (.dK (kv c r s t))) : DGet H j (.str "cells") (some (.ref c)) := DGet.k (k := Sum.inr "cells") h
theorem jget_rest {H : Hp} {j c : Addr} {r s t : Int} (h : H j = some (.dK (kv c r s t))) : DGet H j (.str "rest") (some (.int r)) := DGet.k (k := Sum.inr "rest") h
theorem jget_seed {H : Hp} {j c : Addr} {r s t : Int} (h : H j = some (.dK (kv c r s t))) : DGet H j (.str "seed") (some (.int s)) := DGet.k (k := Sum.inr "seed") h
theorem jget_turn {H : Hp} {j c : Addr} {r s t : Int} (h : H j = some (.dK (kv c r s t))) : DGet H j (.str "turn") (some (.int t)) := DGet.k (k := Sum.inr "turn") h
theorem kv4 {c : Addr} {r s t : Int} : (kv c r s t).length < sizeLine := by show 4 < sizeLine; decide
theorem jput_rest {H : Hp} {j c : Addr} {r s t r' : Int} (h : H j = some (.dK (kv c r s t))) : DPut H j (.str "rest") (.int r') (upd H j (.dK (kv c r' s t))) := DPut.k (k := Sum.inr "rest") h kv4
theorem jput_seed {H : Hp} {j c : Addr} {r s t r' : Int} (h : H j = some (.dK (kv c r s t))) : DPut H j (.str "seed") (.int r') (upd H j (.dK (kv c r r' t))) := DPut.k (k := Sum.inr "seed") h kv4
theorem jput_turn {H : Hp} {j c : Addr} {r s t r' : Int} (h : H j = some (.dK (kv c r s t))) : DPut H j (.str "turn") (.int r') (upd H j (.dK (kv c r s r'))) := DPut.k (k := Sum.inr "turn") h kv4
theorem dpAll_ints {K : PySem.W.Frag} {H : Hp} : ∀ ns : List Int, DpAll K H (ns.map V.int) (ns.map PyData.int)
  | [] => .nil
  | n :: ns => .cons (.int n) (dpAll_ints ns)
structure Jar (H : Hp) (j c : Addr) : Prop where
  ex : ∃ (cells : List Int) (r s t : Int), H j = some (.dK (kv c r s t)) ∧ H c = some (.lst (cells.map V.int)) ∧ cells.length ≤ 63
end L3
set_option Elab.async false
set_option linter.all false
set_option maxRecDepth 100000
namespace L3
open PySem PySem.Spec PyProof.Rows L2
section
variable {X : Cx} {K : PySem.W.Frag}
theorem call_len_seq' (h : X.K = K) : CallR X (.builtin "len") (fun xs H Q => ∃ p ys, xs = [.ref p] ∧ (SqL K H p ys ∨ SqT K H p ys) ∧ Q (.int ys.length) H) := h ▸ call_len_seq
variable {o e : Expr} {es : List Expr} {to : TE} {t : TA} {name : Str} {apos cpos : Pos} {T id : String} {r : V → List V → Hp → VK → Prop}
theorem pe_bm' (h : X.K = K) (pa : PlainAttrs T) (slot : Slot T name id) (hty : typeOf (.builtin id) = pure (.type "method_descriptor")) (hm : MtR X id r) (ho : PE X o to) (ha : PA X (e :: es) t)
    (hbase : attributeBase o name X.env (eval o X.env) = eval o X.env := by rfl)
    (hfew : ((backTo cpos (starEach (e :: es) X.env)).all (fun x => !x.1) && (backToKw cpos (keywordEach [] X.env)).all (fun x => x.1.isSome)
      && decide ((e :: es).length + ([] : List Keyword).length + (if ([] : List Keyword).isEmpty then 0 else 1) < 30)) = true := by rfl)
    (hline : (apos.endLine == cpos.line) = true := by rfl) (hs : starEach (e :: es) X.env = (false, eval e X.env) :: starEach es X.env := by rfl) (hplain : (backTo cpos (starEach es X.env)).any (·.1) = false := by rfl) :
    PE X (.Call (.Attribute o name apos) (e :: es) [] cpos) (tBM K T r to t) := h ▸ pe_bm pa slot hty hm ho ha hbase hfew hline hs hplain
variable {tg : Expr}
theorem pg_tup' {es : List Expr} {k : Nat} {t : TGs} {n : Nat} {pos : Pos} (h : X.K = K) (hc : X.calm = true) (hg : PGs X es t)
    (hn : (assignEach es X.env).length = n := by rfl) (hst : (assignEach es X.env).findIdx? (·.1) = none := by rfl) : PG X (.Tuple es k pos) (gTup K n t) := h ▸ pg_tup hc hg hn hst
end
end L3
set_option Elab.async false
set_option linter.all false
set_option maxRecDepth 100000
namespace L3
open PySem PySem.Spec PyProof.Rows L2
section
variable {prog : Program} {w : World} {A : Around} {E : Value → Shared → Prop} {s : Shared}
end
section
variable {X : Cx} {e c : Expr} {te : TE} {pos p2 : Pos}
end
end L3
set_option Elab.async false
set_option linter.all false
set_option maxRecDepth 100000
namespace L3
open PySem PySem.Spec PyProof.Rows L2
end L3
set_option Elab.async false
set_option linter.all false
set_option maxRecDepth 100000
namespace L3
open PySem PySem.Spec PyProof.Rows L2
theorem tuple_add0 (l : Addr) (items : Array Value) (n : Nat) (d1 : Option Addr) (s1 : Array (Option Value)) (b : Addr) (items2 : Array Value) (n2 : Nat) (d2 : Option Addr) (s2 : Array (Option Value)) (hc : items.isEmpty = true) :
    Meets (Builtin.«tuple.__add__» ⟨[.ref l, .ref b], []⟩) (fun _ R s => s.heap.get? l = some { cls := .type "tuple", dict := d1, data := .seq items n, slots := s1 } ∧ s.heap.get? b = some { cls := .type "tuple", dict := d2, data := .seq items2 n2, slots := s2 } ∧ R (.ok (.ret (.ref b))) s) :=
  .of_wp fun prog w A R s h => by
    obtain ⟨hp, g, d, tk, os⟩ := s
    obtain ⟨h1, h2, h⟩ := h
    have hsub := sub_tuple_self
    wp_walk using AutoSeq1.wpAny_loadPart' h1, AutoSeq1.wpAny_loadPart' h2
    exact ⟨_, rfl, h⟩
section
variable {X : Cx}
def rCatG (K : PySem.W.Frag) : R2 := fun x y H Q => ∃ a b xs ys, x = .ref a ∧ y = .ref b ∧ SqT K H a xs ∧ SqT K H b ys ∧ xs.length + ys.length ≤ sizeLine ∧ (xs = [] → Q (.ref b) H) ∧ (xs ≠ [] → ys = [] → Q (.ref a) H) ∧
  (xs ≠ [] → ys ≠ [] → ∀ p, H p = none → Q (.ref p) (upd H p (.tup (xs ++ ys))))
theorem op_catG : OpR X (binaryOp .Add) (rCatG X.K) := by
  intro pins s σ H x y v u Q I rx ry h
  obtain ⟨a, b, xs, ys, rfl, rfl, ha, hb, hz, q0, q1, q2⟩ := h
  by_cases hx : xs = []
  · cases rx
    cases ry
    obtain ⟨its, r1, p1, _⟩ := I.tuple ha
    obtain ⟨its2, r2, p2, _⟩ := I.tuple hb
    have e0 : its = [] := r1.nil_iff.mpr hx
    obtain ⟨⟨cls, dd, data, sl⟩, ho, hc, n, hd⟩ := id p1
    obtain ⟨⟨cls2, dd2, data2, sl2⟩, ho2, hc2, n2, hd2⟩ := id p2
    simp only at hc hd hc2 hd2
    subst hc hd hc2 hd2
    exact concat_meets ⟨_, ho, rfl⟩ ⟨_, ho2, rfl⟩ noFill_tuple_add seq_tuple_add PySem.F.slot_tuple_add PySem.F.entry_tuple_add (PySem.F.args_tuple_add_2 _ _)
      (tuple_add0 a its.toArray n dd sl b its2.toArray n2 dd2 sl2 (by rw [e0]; rfl)) ⟨ho, ho2, ⟨.ref b, H, I, rfl, q0 hx⟩⟩
  · exact op_catT pins s σ H _ _ v u Q I rx ry ⟨a, b, xs, ys, rfl, rfl, ha, hb, hx, hz, q1 hx, q2 hx⟩
end
end L3
set_option Elab.async false
set_option linter.all false
set_option maxRecDepth 100000
namespace L3
open PySem PySem.Spec PyProof.Rows L2
section
variable {X : Cx}
end
theorem RgC.pos {n c : Int} (h0 : 0 ≤ n) (h1 : n < 1000) (c1 : 1 ≤ c) (c2 : c < 1000) : RgC 0 n c ((n + c - 1) / c).toNat := by
  have e := rangeSize_pos c1 h0
  have e0 : 0 ≤ (n + c - 1) / c := Int.ediv_nonneg (by omega) (by omega)
  refine ⟨by omega, by omega, ?_, by rw [e]; omega⟩
  have e1 : (n + c - 1) / c ≤ n + c - 1 := Int.ediv_le_self _ (by omega)
  have e2 : (n + c - 1) / c * c ≤ n + c - 1 := Int.ediv_mul_le _ (by omega)
  unfold Builtin.Range.small
  rw [e]
  simp only [Builtin.Range.rangeFitsLong, Bool.and_eq_true, Bool.or_eq_true, decide_eq_true_eq, beq_iff_eq, show c > 0 by omega, if_true]
  generalize (n + c - 1) / c = q at *
  omega
end L3
set_option Elab.async false
set_option linter.all false
set_option maxRecDepth 100000
namespace L3
open PySem PySem.Spec PyProof.Rows L2
structure CodeK (K : PySem.W.Frag) (cd : Value) (PT : Addr) : Prop where
  ex : ∃ (c : Addr) (od : Option Addr) (vs : Array Value) (sl : Array (Option Value)) (file : Str) (tf : Tok) (flags : Int) (tg : Tok) (inF : Bool) (text : Int) (tt : Tok), cd = .ref c ∧ K.lookup c = some ⟨.type "code", od, .fields vs, sl⟩ ∧
    vs.getD 11 .none = .ref PT ∧ vs[11]? = some (.ref PT) ∧ vs.getD 18 .none = .str file tf ∧ vs.getD 7 .none = .int flags tg ∧ vs.getD 9 .none = .bool inF ∧ vs.getD 10 .none = .int text tt ∧ c ≠ PT
def Tb (H : Hp) (PT : Addr) : Prop := ∃ ps, H PT = some (.tbl ps) ∧ TriplesOk ps.toList
theorem CodeK.at {K : PySem.W.Frag} {cd : Value} {PT : Addr} (C : CodeK K cd PT) : ∃ c, cd = .ref c ∧ c ≠ PT ∧ ∀ (h : Heap) (ps : Array Value), K.In h → h.get? PT = some { cls := .none, data := .fields ps } → TriplesOk ps.toList → h.IsCode c PT ps ∧ h.TableAt c PT ps := by
  obtain ⟨c, od, vs, sl, file, tf, flags, tg, inF, text, tt, rfl, lk, a1, a2, a3, a4, a5, a6, ne⟩ := C.ex
  exact ⟨c, rfl, ne, fun h ps X t tr => ⟨⟨_, vs, file, tf, flags, tg, inF, text, tt, _, X _ _ lk, rfl, a1, a3, a4, a5, a6, t, rfl, tr, ne⟩, ⟨_, vs, X _ _ lk, rfl, rfl, a2⟩, t⟩⟩
def EltG (X : Cx) (PT : Addr) (gsc : Scope) (x : Str) (elt : Expr) (H1 : Hp) (σ : L2.St) (v : V) (b : Bool) : Prop :=
  ∀ (pins : List (Addr × Obj)) (s1 s2 : Shared) (A' : Around) (E' : Value → Shared → Prop) (C : Addr) (code u : Value) (m2 : Str → Option Value), Inv X pins σ H1 s1 → A'.handled = none →
    (∀ b o, b ≠ PT → s1.heap.get? b = some o → s2.heap.get? b = some o) → s2.heap.Ns C m2 → m2 x = some u → RelV v u →
    wpAny (model X.prog X.w) A' (eval elt (genEnv gsc (cloFrom X.env.cells gsc.names []) C code builtinsNs X.env)) (fun y s3 => y = .bool b ∧ Keeps s2 s3) E' s2
theorem passing_all (n : Nat) : passing (fun _ => true) n 0 = List.range n := by
  unfold passing
  rw [List.drop_zero, List.filter_eq_self.mpr (fun _ _ => rfl)]
section
variable {X : Cx}
/-- the table has grown, everything else is kept -/
theorem Inv.grown {pins : List (Addr × Obj)} {σ : L2.St} {H : Hp} {s : Shared} {PT : Addr} {ps more : Array Value} {h' : Heap} {g' : Array GenState} {d' : Drawn} {t' : Nat} (I : Inv X pins σ H s) (hP : H PT = some (.tbl ps))
    (k : ∀ b o, b ≠ PT → s.heap.get? b = some o → h'.get? b = some o) (hT : h'.get? PT = some { cls := .none, data := .fields (ps ++ more) }) (hg : AllBare g') :
    Inv X pins σ (upd H PT (.tbl (ps ++ more))) { s with heap := h', gens := g', drawn := d', toks := t' } := by
  have ne : ∀ b, H b = none → b ≠ PT := fun b e z => by rw [z, hP] at e; cases e
  refine I.step (ch := []) (fun _ z => nomatch z) (fun b o _ _ _ e n => k b o (ne b n) e) (fun b o _ _ _ e n => ⟨o.slots, k b o (ne b n) e⟩) (fun b o _ e n => by rw [upd_ne (ne b n)]; exact n) (fun b o _ e => ?_) (fun b xs e => ?_) (fun b o u e => ?_) (fun b qs e => ?_) (fun m hm => ?_) (fun b u e => ?_) hg
  · by_cases z : b = PT
    · exact ⟨_, by rw [z]; exact hT⟩
    · exact ⟨o, k b o z e⟩
  · rw [upd_ne (ne_of e hP (by intro z; cases z))]; exact e
  · rw [upd_ne (ne_of e hP (by intro z; cases z))]; exact e
  · by_cases z : b = PT
    · subst z
      rw [hP] at e; cases e
      exact ⟨more, upd_same⟩
    · exact ⟨#[], by rw [upd_ne z, e]; simp⟩
  · obtain ⟨o, es, ep, ho, r⟩ := hm
    exact ⟨o, es, ep, k _ o (ne _ I.free) ho, r⟩
  · by_cases z : b = PT
    · subst z
      rw [upd_same] at e; cases e
      exact hT
    · rw [upd_ne z] at e
      refine (I.hok b u e).stay (fun c v hc q => k c v ?_ q) (fun c q => ?_) fun c xs q => ?_
      · rcases hc with hc | hc
        · rw [hc]; exact z
        · exact ne_of hc hP (by intro z; cases z)
      · rw [upd_ne (ne_of q hP (by intro z; cases z))]; exact q
      · rw [upd_ne (ne_of q hP (by intro z; cases z))]; exact q
end
end L3
set_option Elab.async false
set_option linter.all false
set_option maxRecDepth 100000
namespace L3
open PySem PySem.Spec PyProof.Rows L2
structure TabAt (K : PySem.W.Frag) (h : Heap) (P : Addr) : Prop where
  tab : h.get? P = some { cls := .none, data := .fields #[] }
  out : K.lookup P = none
  is : isCodeTable h P
/-- what is tracked at first -/
def OnlyT (Ts : List Addr) (H : Hp) : Prop := ∀ b, H b = none ∨ (∃ o xs, H b = some (.frz o (.lst xs))) ∨ (b ∈ Ts ∧ H b = some (.tbl #[]))
end L3
set_option Elab.async false
set_option linter.all false
set_option maxRecDepth 100000
namespace L3
open PySem PySem.Spec PyProof.Rows L2
section
variable {X : Cx}
end
end L3
set_option Elab.async false
set_option linter.all false
set_option maxRecDepth 100000
namespace L3
open PySem PySem.Spec PyProof.Rows L2
theorem tabAt_of {K : PySem.W.Frag} {h : Heap} {mg : Str → Option Value} {q : Program} {n : Str} {f c PT : Addr} {oc occ : Value} {od odc : Option Addr} {fd : FuncData} {sl slc : Array (Option Value)} {vs : Array Value} (X : K.In h)
    (tabs : ∀ d ∈ recsOf q, ∃ a o fd c P, mg d.name = some (.ref a) ∧ h.get? a = some o ∧ o.data = .func fd ∧ fd.code = .ref c ∧ h.IsCode c P #[] ∧ h.TableAt c P #[]) (hrec : (recsOf q).any (fun d => d.name == n) = true)
    (hm : mg n = some (.ref f)) (l : K.lookup f = some ⟨oc, od, .func fd, sl⟩) (hc : fd.code = .ref c) (lc : K.lookup c = some ⟨occ, odc, .fields vs, slc⟩) (v11 : vs[11]? = some (.ref PT)) (out : K.lookup PT = none) : TabAt K h PT := by
  obtain ⟨d, hd, hn⟩ := List.any_eq_true.mp hrec
  have hn' : d.name = n := beq_iff_eq.mp hn
  obtain ⟨a, o, fd', c', P, h1, h2, h3, h4, h5, h6⟩ := tabs d hd
  rw [hn', hm] at h1; cases h1
  rw [X _ _ l] at h2; cases h2
  cases h3
  rw [hc] at h4; cases h4
  have hP : P = PT := by
    obtain ⟨⟨o, vs', e1, _, e3, e4⟩, _⟩ := h6
    rw [X _ _ lc] at e1; cases e1
    cases e3
    rw [v11] at e4; cases e4
    rfl
  subst hP
  exact ⟨h6.2, out, h6.isCodeTable⟩
theorem codeK_of {K : PySem.W.Frag} {cd : Value} {c PT : Addr} {od : Option Addr} {vs : Array Value} {sl : Array (Option Value)} {file : Str} {tf : Tok} {flags : Int} {tg : Tok} {inF : Bool} {text : Int} {tt : Tok} (ec : cd = .ref c) (lc : K.lookup c = some ⟨.type "code", od, .fields vs, sl⟩)
    (a1 : vs.getD 11 .none = .ref PT) (a2 : vs[11]? = some (.ref PT)) (a3 : vs.getD 18 .none = .str file tf) (a4 : vs.getD 7 .none = .int flags tg) (a5 : vs.getD 9 .none = .bool inF) (a6 : vs.getD 10 .none = .int text tt) (ne : (c == PT) = false) : CodeK K cd PT :=
  ⟨c, od, vs, sl, file, tf, flags, tg, inF, text, tt, ec, lc, a1, a2, a3, a4, a5, a6, fun e => by rw [e] at ne; simp at ne⟩
end L3
set_option Elab.async false
set_option linter.all false
set_option maxRecDepth 100000
namespace L3
open PySem PySem.Spec PyProof.Rows L2 HT
section
variable {X : Cx}
end
end L3
set_option Elab.async false
set_option linter.all false
set_option maxRecDepth 100000
namespace L3
open PySem PySem.Spec PyProof.Rows L2
section
variable {prog : Program} {w : World} {A : Around} {E : Value → Shared → Prop} {s : Shared} {l : Addr} {xs : Array (Int × Tok)} {Q : Value → Shared → Prop}
theorem max_intTup (hh : A.handled = none) (hl : s.heap.IsTuple l (intItems xs)) (hne : 0 < xs.size)
    (h : ∀ v h' tk, (intItems xs)[argBest (fun i j => decide (numAt xs i > numAt xs j)) (xs.size - 1)]? = some v → (∀ b o, s.heap.get? b = some o → h'.get? b = some o) → Q v { s with heap := h', toks := tk }) :
    wpAny (model prog w) A (call (.builtin "max") [.ref l]) Q E s := by
  have hlt : l < s.heap.objs.size := by obtain ⟨_, e, _⟩ := hl; exact Heap.lt_size e
  refine call_max_walk (wpAny_pyIter_tuple hl ?_)
  refine ⟨_, _, _, _, _, _, _, rfl, Walks.tuple (A := A.in1) hh s.heap.objs.size l (Nat.ne_of_lt hlt) (intItems xs), ⟨⟨_, Heap.get?_push_size _ rfl, rfl, rfl⟩, hl.push _⟩, ?_, by simpa [intItems] using hne, CmpOf.ints_gt (numAt xs) (fun _ _ => intItems_at), fun v h' tk hP hk => ?_⟩
  · intro b hb
    show b < (s.heap.push _).objs.size
    rw [Heap.size_push]
    rcases List.mem_cons.mp hb with rfl | hb
    · exact Nat.lt_succ_self _
    · rcases List.mem_cons.mp hb with rfl | hb
      · exact Nat.lt_succ_of_lt hlt
      · cases hb
  · exact h v h' tk (by simpa [intItems] using hP) (fun b o e => hk b o (fun hm => by
      rcases List.mem_cons.mp hm with e1 | hm
      · exact absurd (e1 ▸ Heap.lt_size e) (Nat.lt_irrefl _)
      · cases hm) (Heap.get?_push_of_some _ e))
end
section
variable {X : Cx} {K : PySem.W.Frag}
def rMaxT (K : PySem.W.Frag) : List V → Hp → VK → Prop := fun vs H Q => ∃ (a : Addr) (ns : List Int), vs = [V.ref a] ∧ SqT K H a (ns.map V.int) ∧ 0 < ns.length ∧ ∀ m, m ∈ ns → (∀ y, y ∈ ns → y ≤ m) → Q (.int m) H
theorem cr_maxT (hc : X.calm = true) : CallR X (.builtin "max") (rMaxT X.K) := by
  intro pins s σ H vs us Q I r h
  obtain ⟨a, ns, rfl, hs, hne, q⟩ := h
  obtain ⟨its, rv, hl, _⟩ := I.tuple hs
  rw [Vals.ref1 r]
  have hi := rv.ints
  obtain ⟨xs, e⟩ := hi.allInts.items
  have hn : numsOf (intItems xs).toList = ns := by rw [← e]; exact hi.numsOf
  rw [nums_intItems] at hn
  subst hn
  have hl' : s.heap.IsTuple a (intItems xs) := by rw [← e]; exact hl
  have hsz : 0 < xs.size := by simpa using hne
  refine max_intTup (I.ok.hd hc) hl' hsz fun v h' tk hv hk => ?_
  obtain ⟨t, rfl⟩ := intItems_at hv
  obtain ⟨h1, h2⟩ := argBest_gt (numAt xs) (xs.size - 1)
  refine ⟨.int _, H, I.kept hk, ⟨_, rfl⟩, q _ ?_ fun y hy => ?_⟩
  · rw [numAt_eq]; exact PySem.getD_mem (by rw [List.length_map, Array.length_toList]; omega)
  · obtain ⟨j, hj, rfl⟩ := mem_getD hy
    rw [List.length_map, Array.length_toList] at hj
    rw [← numAt_eq]; exact h2 j (by omega)
end
end L3
set_option Elab.async false
set_option linter.all false
set_option maxRecDepth 100000
namespace L3
open PySem PySem.Spec PyProof.Rows L2
def evL {α : Type} (xs : List α) (a : Nat) : List α := (List.range ((xs.length + 1 - a) / 2)).filterMap fun k => xs[a + 2 * k]?
section
variable {X : Cx} {e c : Expr} {te : TE} {pos p2 : Pos} {lo : Option Expr} {tl : TO}
theorem Vals.evL : ∀ {xs : List V} {us : List Value} (a : Nat), Vals xs us → Vals (L3.evL xs a) (L3.evL us a) := by
  intro xs us a r
  have ln := r.length
  unfold L3.evL
  rw [ln]
  generalize (us.length + 1 - a) / 2 = n
  induction n with
  | zero => exact .nil
  | succ n ih =>
    rw [List.range_succ, List.filterMap_append, List.filterMap_append]
    refine ih.append ?_
    cases hx : xs[a + 2 * n]? with
    | none =>
      have : us[a + 2 * n]? = none := by
        rw [List.getElem?_eq_none_iff] at hx ⊢; omega
      simp [hx, this]; exact .nil
    | some v =>
      obtain ⟨u, hu, rv⟩ := r.get hx
      simp [hx, hu]; exact .cons rv .nil
end
end L3
set_option Elab.async false
set_option linter.all false
set_option maxRecDepth 100000
namespace L3
open PySem PySem.Spec PyProof.Rows L2
def IsZ2 (h : Heap) (z TI TO a0 : Addr) (f1 : Bool) : Prop := h.get? z = some { cls := .type "zip", data := .fields #[rawInt (a0 : Nat), .bool f1, .bool false, .ref TI, .ref TO] }
section
variable {prog : Program} {w : World} {A : Around} {E : Value → Shared → Prop} {s : Shared} {z TI TO i1 i2 a b : Addr} {k1 k2 : Bool} {n : Nat} {xs ys : Array Value}
end
/-- the zip between two items of a list's making -/
structure ZS (h : Heap) (z TI TO i1 i2 a b : Addr) (i : Nat) : Prop where
  rc : (i = 0 ∧ IsZip h z TI TO .none) ∨ ∃ a0 f1, IsZ2 h z TI TO a0 f1 ∧ ∃ o, h.get? a0 = some o
  pI : IsPair h TI (.ref i1) (.ref i2)
  pO : ∃ x y, IsPair h TO x y
  s1 : SqI false h i1 a i
  s2 : SqI false h i2 b i
theorem ZS.zip {h : Heap} {z TI TO i1 i2 a b : Addr} {i : Nat} (Z : ZS h z TI TO i1 i2 a b i) : ∃ o, h.get? z = some o ∧ o.cls = .type "zip" := by
  rcases Z.rc with ⟨_, e⟩ | ⟨a0, f1, e, _⟩
  · exact ⟨_, e, rfl⟩
  · exact ⟨_, e, rfl⟩
section
variable {X : Cx} {pins : List (Addr × Obj)} {σ : L2.St} {A : Around} {R : Result → Shared → Prop} {z TI TO i1 i2 a b : Addr} {xs ys : List V}
end
end L3
set_option Elab.async false
set_option linter.all false
set_option maxRecDepth 100000
namespace L3
open PySem PySem.Spec PyProof.Rows L2
section
variable {X : Cx} {e e2 : Expr} {ta : TA} {p p2 pos pos2 : Pos}
end
end L3
set_option Elab.async false
set_option linter.all false
set_option maxRecDepth 100000
namespace L3
open PySem PySem.Spec PyProof.Rows L2
structure Pen (H : Hp) (p c : Addr) (n : Nat) : Prop where
  ex : ∃ (cells : List Int) (at_ : Nat) (r : Int), H p = some (.lst [.ref c, .int (at_ : Int), .int r]) ∧ H c = some (.lst (cells.map V.int)) ∧ cells.length ≤ 63 ∧ at_ ≤ n ∧ p ≠ c
/-- all but the pen stays -/
def Kq (p : Addr) (H H' : Hp) : Prop := ∀ b o, H b = some o → b ≠ p → H' b = some o
theorem Kq.refl {p : Addr} (H : Hp) : Kq p H H := fun _ _ h _ => h
theorem Kq.trans {p : Addr} {H H1 H2 : Hp} (a : Kq p H H1) (b : Kq p H1 H2) : Kq p H H2 := fun x o h h1 => b x o (a x o h h1) h1
theorem Pen.mono {H : Hp} {p c : Addr} {n m : Nat} (h : Pen H p c n) (e : n ≤ m) : Pen H p c m := by
  obtain ⟨cells, a, r, h1, h2, h3, h4, h5⟩ := h.ex
  exact ⟨cells, a, r, h1, h2, h3, by omega, h5⟩
theorem Pen.keep {H H' : Hp} {p c : Addr} {n : Nat} (h : Pen H p c n) (hp : ∀ o, H p = some o → H' p = some o) (hc : ∀ o, H c = some o → H' c = some o) : Pen H' p c n := by
  obtain ⟨cells, a, r, h1, h2, h3, h4, h5⟩ := h.ex
  exact ⟨cells, a, r, hp _ h1, hc _ h2, h3, h4, h5⟩
theorem Pen.same {H H' : Hp} {p c : Addr} {n : Nat} (h : Pen H p c n) (s : Same H H') : Pen H' p c n := h.keep (fun o => s p o) (fun o => s c o)
theorem Pen.nep {H : Hp} {p c S : Addr} {n : Nat} (h : Pen H p c n) (e : H S = none) : S ≠ p := by
  obtain ⟨cells, a, r, h1, h2, _⟩ := h.ex
  exact (ne_of_none h1 e).symm
theorem Pen.nec {H : Hp} {p c S : Addr} {n : Nat} (h : Pen H p c n) (e : H S = none) : S ≠ c := by
  obtain ⟨cells, a, r, h1, h2, _⟩ := h.ex
  exact (ne_of_none h2 e).symm
theorem Pen.upd {H : Hp} {p c S : Addr} {n : Nat} {o : HO} (h : Pen H p c n) (h1 : S ≠ p) (h2 : S ≠ c) : Pen (upd H S o) p c n := h.keep (fun u e => by rw [upd_ne h1.symm]; exact e) (fun u e => by rw [upd_ne h2.symm]; exact e)
theorem Kq.free {p c : Addr} {H H' : Hp} {S : Addr} {n : Nat} (k : Kq p H H') (J : Pen H' p c n) (h : H' S = none) : H S = none := by
  cases q : H S with
  | none => rfl
  | some o =>
    rw [k S o q (J.nep h)] at h
    cases h
end L3
set_option Elab.async false
set_option linter.all false
set_option maxRecDepth 100000
namespace L3
open PySem PySem.Spec PyProof.Rows L2
section
variable {M : Model} {A : Around} {E : Value → Shared → Prop} {s : Shared}
/-- an exception's own object -/
def ExcO (a : Addr) (C : Value) (dx : Option Addr) : Heap → Prop := fun h => ∃ o, h.get? a = some o ∧ o.cls = C ∧ o.dict = dx ∧ ∃ vs, o.data = .fields vs
/-- what was there ahead, and what is tracked, is kept, frames up to their slots -/
structure Chg (F : List Addr) (h0 : Heap) (H : Hp) (h h' : Heap) : Prop where
  keep : ∀ b o, h.get? b = some o → (h0.get? b ≠ none ∨ H b ≠ none) → b ∉ F → h'.get? b = some o
  slot : ∀ b o, h.get? b = some o → (h0.get? b ≠ none ∨ H b ≠ none) → ∃ sl, h'.get? b = some { o with slots := sl }
theorem Chg.trans {F : List Addr} {h0 h h1 h2 : Heap} {H : Hp} (a : Chg F h0 H h h1) (b : Chg F h0 H h1 h2) : Chg F h0 H h h2 :=
  ⟨fun c o g n hF => b.keep c o (a.keep c o g n hF) n hF, fun c o g n => by
    obtain ⟨sl, g1⟩ := a.slot c o g n
    obtain ⟨sl2, g2⟩ := b.slot c _ g1 n
    exact ⟨sl2, g2⟩⟩
variable {P : Program} {w : World} {h0 : Heap} {H : Hp} {e : Addr} {C : Value} {dx : Option Addr}
end
end L3
set_option Elab.async false
set_option linter.all false
set_option maxRecDepth 100000
namespace L3
open PySem PySem.Spec PyProof.Rows L2
def CodeH (H : Hp) (c : Addr) : Prop := ∃ (oc : Obj) (vs : Array Value) (q : Str) (t : Tok), H c = some (.frz oc (.own c)) ∧ oc.data = .fields vs ∧ vs[1]? = some (.str q t)
def Cods (H : Hp) (l : List Value) : Prop := ∀ pos cv, codeAmong pos l = some cv → ∃ c, cv = .ref c ∧ CodeH H c
def TabO (H : Hp) (P : Addr) : Prop := ∃ ps, H P = some (.tbl ps) ∧ TriplesOk ps.toList ∧ Cods H ps.toList
theorem CodeH.keep {H H' : Hp} {c : Addr} (h : CodeH H c) (k : ∀ a oc c, H a = some (.frz oc (.own c)) → H' a = some (.frz oc (.own c))) : CodeH H' c :=
  let ⟨oc, vs, q, t, e, r⟩ := h; ⟨oc, vs, q, t, k _ _ _ e, r⟩
theorem Cods.keep {H H' : Hp} {l : List Value} (h : Cods H l) (k : ∀ a oc c, H a = some (.frz oc (.own c)) → H' a = some (.frz oc (.own c))) : Cods H' l :=
  fun pos cv e => let ⟨c, e1, r⟩ := h pos cv e; ⟨c, e1, r.keep k⟩
theorem TabO.keep {H H' : Hp} {P : Addr} (h : TabO H P) (hP : ∀ ps, H P = some (.tbl ps) → H' P = some (.tbl ps)) (k : ∀ a oc c, H a = some (.frz oc (.own c)) → H' a = some (.frz oc (.own c))) : TabO H' P :=
  let ⟨ps, e, tok, cd⟩ := h; ⟨ps, hP _ e, tok, cd.keep k⟩
theorem codeAmong_snoc (pos : Pos) (a b : Int) (c : Value) (l : List Value) (h : TriplesOk l) (cv : Value) (e : codeAmong pos (l ++ [rawInt a, rawInt b, c]) = some cv) : codeAmong pos l = some cv ∨ cv = c := by
  fun_induction TriplesOk l with
  | case1 =>
    right
    simp only [List.nil_append, rawInt, codeAmong] at e
    split at e
    · exact (Option.some.inj e).symm
    · cases e
  | case2 a' t b' u x rest ih =>
    simp only [List.cons_append, codeAmong] at e ⊢
    split
    · rename_i q
      rw [if_pos q] at e
      exact .inl e
    · rename_i q
      rw [if_neg q] at e
      exact ih h e
  | case3 l h1 h2 => exact h.elim
end L3
set_option Elab.async false
set_option linter.all false
set_option maxRecDepth 100000
namespace L4
open PySem PySem.Spec PyProof.Rows L2 L3
inductive PV where
  | non | bl (b : Bool) | int (i : Int) | str (x : Str) | ty (n : String) | glb (a : Addr)
  | tup (xs : List PV) | ref (i : Nat) | scr (ns : List Int)
inductive Ob where
  | lst (xs : List PV) | dct (kvs : List (Key × PV)) | ins (C : Addr) (fs : List (Str × PV)) | jar | frd (o : Obj) (us : List (Key × V)) (kvs : List (Key × PV)) | pen (n : Nat) | exc (C : Addr) (fs : List (Str × Int))
abbrev Sto := List Ob
structure Map where
  m : Nat → Addr
  q : Nat → Addr
def Scr (K : PySem.W.Frag) (H : Hp) (a : Addr) (ns : List Int) : Prop :=
  (∃ o, H a = some (.frz o (.lst (ns.map V.int)))) ∨
    ∃ (o : Obj) (its : Array Value) (n : Nat), K.lookup a = some o ∧ o.cls = .type "list" ∧ o.dict = none ∧ o.data = .seq its n ∧ its.size ≤ sizeLine ∧ Vals (ns.map V.int) its.toList
theorem Scr.sql {K : PySem.W.Frag} {H : Hp} {a : Addr} {ns : List Int} (h : Scr K H a ns) : SqL K H a (ns.map V.int) := by
  rcases h with ⟨o, h⟩ | h
  · exact .inl (.inr ⟨o, h⟩)
  · exact .inr h
mutual
inductive RP (K : PySem.W.Frag) (M : Map) (n : Nat) (H : Hp) : PV → V → Prop
  | non : RP K M n H .non .non
  | bl (b : Bool) : RP K M n H (.bl b) (.bl b)
  | int (i : Int) : RP K M n H (.int i) (.int i)
  | str (x : Str) : RP K M n H (.str x) (.str x)
  | ty (x : String) : RP K M n H (.ty x) (.ty x)
  | glb (a : Addr) : RP K M n H (.glb a) (.ref a)
  | tup {xs : List PV} {us : List V} {a : Addr} : SqT K H a us → RPs K M n H xs us → RP K M n H (.tup xs) (.ref a)
  | ref {i : Nat} : i < n → RP K M n H (.ref i) (.ref (M.m i))
  | scr {ns : List Int} {a : Addr} : Scr K H a ns → RP K M n H (.scr ns) (.ref a)
inductive RPs (K : PySem.W.Frag) (M : Map) (n : Nat) (H : Hp) : List PV → List V → Prop
  | nil : RPs K M n H [] []
  | cons {x : PV} {u : V} {xs : List PV} {us : List V} : RP K M n H x u → RPs K M n H xs us → RPs K M n H (x :: xs) (u :: us)
end
/-- an address of a thing of the store -/
def Own (M : Map) (n : Nat) (a : Addr) : Prop := ∃ i, i < n ∧ (a = M.m i ∨ a = M.q i)
structure Stp (Ts : List Addr) (K : PySem.W.Frag) (M : Map) (n : Nat) (H : Hp) (M' : Map) (n' : Nat) (H' : Hp) : Prop where
  le : n ≤ n'
  m : ∀ i, i < n → M'.m i = M.m i
  q : ∀ i, i < n → M'.q i = M.q i
  tup : ∀ a us, SqT K H a us → SqT K H' a us
  scr : ∀ a ns, Scr K H a ns → Scr K H' a ns
  fr : ∀ a o, H a = some o → ¬ Own M n a → a ∉ Ts → H' a = some o
  grow : ∀ a, H' a = none → H a = none
  new : ∀ i, n ≤ i → i < n' → H (M'.m i) = none ∧ H (M'.q i) = none
theorem Stp.refl {Ts : List Addr} (K : PySem.W.Frag) (M : Map) (n : Nat) (H : Hp) : Stp Ts K M n H M n H := ⟨Nat.le_refl _, fun _ _ => rfl, fun _ _ => rfl, fun _ _ h => h, fun _ _ h => h, fun _ _ h _ _ => h, fun _ h => h, fun i h1 h2 => by omega⟩
theorem Stp.trans {K : PySem.W.Frag} {M M1 M2 : Map} {n n1 n2 : Nat} {H H1 H2 : Hp} (a : Stp Ts K M n H M1 n1 H1) (b : Stp Ts K M1 n1 H1 M2 n2 H2) : Stp Ts K M n H M2 n2 H2 where
  le := Nat.le_trans a.le b.le
  m := fun i h => (b.m i (Nat.lt_of_lt_of_le h a.le)).trans (a.m i h)
  q := fun i h => (b.q i (Nat.lt_of_lt_of_le h a.le)).trans (a.q i h)
  tup := fun x us h => b.tup x us (a.tup x us h)
  scr := fun x us h => b.scr x us (a.scr x us h)
  fr := fun x o h h1 h2 => by
    refine b.fr x o (a.fr x o h h1 h2) ?_ h2
    rintro ⟨i, hi, hx⟩
    by_cases c : i < n
    · refine h1 ⟨i, c, ?_⟩
      rw [a.m i c, a.q i c] at hx; exact hx
    · obtain ⟨p, q⟩ := a.new i (by omega) hi
      rcases hx with rfl | rfl
      · rw [p] at h; cases h
      · rw [q] at h; cases h
  grow := fun x h => a.grow x (b.grow x h)
  new := fun i h1 h2 => by
    by_cases c : i < n1
    · rw [b.m i c, b.q i c]; exact a.new i h1 c
    · obtain ⟨p, q⟩ := b.new i (by omega) h2
      exact ⟨a.grow _ p, a.grow _ q⟩
mutual
theorem RP.mono {K : PySem.W.Frag} {M M' : Map} {n n' : Nat} {H H' : Hp} (hle : n ≤ n') (hm : ∀ i, i < n → M'.m i = M.m i) (ht : ∀ a us, SqT K H a us → SqT K H' a us) (hs : ∀ a ns, Scr K H a ns → Scr K H' a ns) : ∀ {v : PV} {u : V}, RP K M n H v u → RP K M' n' H' v u
  | _, _, .non => .non
  | _, _, .bl b => .bl b
  | _, _, .int i => .int i
  | _, _, .str x => .str x
  | _, _, .ty x => .ty x
  | _, _, .glb a => .glb a
  | _, _, .tup a b => .tup (ht _ _ a) (RPs.mono hle hm ht hs b)
  | _, _, .ref (i := i) h => by rw [← hm i h]; exact .ref (Nat.lt_of_lt_of_le h hle)
  | _, _, .scr h => .scr (hs _ _ h)
theorem RPs.mono {K : PySem.W.Frag} {M M' : Map} {n n' : Nat} {H H' : Hp} (hle : n ≤ n') (hm : ∀ i, i < n → M'.m i = M.m i) (ht : ∀ a us, SqT K H a us → SqT K H' a us) (hs : ∀ a ns, Scr K H a ns → Scr K H' a ns) : ∀ {v : List PV} {u : List V}, RPs K M n H v u → RPs K M' n' H' v u
  | _, _, .nil => .nil
  | _, _, .cons a b => .cons (RP.mono hle hm ht hs a) (RPs.mono hle hm ht hs b)
end
theorem RP.stp {K : PySem.W.Frag} {M M' : Map} {n n' : Nat} {H H' : Hp} {v : PV} {u : V} (h : RP K M n H v u) (s : Stp Ts K M n H M' n' H') : RP K M' n' H' v u := h.mono s.le s.m s.tup s.scr
theorem RPs.stp {K : PySem.W.Frag} {M M' : Map} {n n' : Nat} {H H' : Hp} {v : List PV} {u : List V} (h : RPs K M n H v u) (s : Stp Ts K M n H M' n' H') : RPs K M' n' H' v u := h.mono s.le s.m s.tup s.scr
section
variable {K : PySem.W.Frag} {M : Map} {n : Nat} {H : Hp}
theorem RPs.length : ∀ {xs : List PV} {us : List V}, RPs K M n H xs us → xs.length = us.length
  | _, _, .nil => rfl
  | _, _, .cons _ t => by simp [RPs.length t]
theorem RPs.get : ∀ {xs : List PV} {us : List V} {i : Nat} {x : PV}, RPs K M n H xs us → xs[i]? = some x → ∃ u, us[i]? = some u ∧ RP K M n H x u
  | _, _, _, _, .nil, e => by simp at e
  | _, _, 0, _, .cons r _, e => by simp at e; subst e; exact ⟨_, rfl, r⟩
  | _, _, i + 1, x, .cons _ t, e => by
    obtain ⟨u, h1, h2⟩ := RPs.get (i := i) (x := x) t (by simpa using e)
    exact ⟨u, by simpa using h1, h2⟩
theorem RPs.get' : ∀ {xs : List PV} {us : List V} {i : Nat} {u : V}, RPs K M n H xs us → us[i]? = some u → ∃ x, xs[i]? = some x ∧ RP K M n H x u
  | _, _, _, _, .nil, e => by simp at e
  | _, _, 0, _, .cons r _, e => by simp at e; subst e; exact ⟨_, rfl, r⟩
  | _, _, i + 1, x, .cons _ t, e => by
    obtain ⟨u, h1, h2⟩ := RPs.get' (i := i) (u := x) t (by simpa using e)
    exact ⟨u, by simpa using h1, h2⟩
theorem RPs.set {x : PV} {u : V} (r : RP K M n H x u) : ∀ {xs : List PV} {us : List V} (i : Nat), RPs K M n H xs us → RPs K M n H (xs.set i x) (us.set i u)
  | _, _, _, .nil => .nil
  | _, _, 0, .cons _ t => .cons r t
  | _, _, i + 1, .cons q t => .cons q (RPs.set r i t)
theorem RPs.append : ∀ {xs ys : List PV} {us ws : List V}, RPs K M n H xs us → RPs K M n H ys ws → RPs K M n H (xs ++ ys) (us ++ ws)
  | _, _, _, _, .nil, s => s
  | _, _, _, _, .cons r t, s => .cons r (RPs.append t s)
theorem RPs.take : ∀ {xs : List PV} {us : List V} (k : Nat), RPs K M n H xs us → RPs K M n H (xs.take k) (us.take k)
  | _, _, 0, _ => .nil
  | _, _, _ + 1, .nil => .nil
  | _, _, k + 1, .cons r t => .cons r (RPs.take k t)
theorem RPs.drop : ∀ {xs : List PV} {us : List V} (k : Nat), RPs K M n H xs us → RPs K M n H (xs.drop k) (us.drop k)
  | _, _, 0, r => r
  | _, _, _ + 1, .nil => .nil
  | _, _, k + 1, .cons _ t => RPs.drop k t
theorem RPs.reverse : ∀ {xs : List PV} {us : List V}, RPs K M n H xs us → RPs K M n H xs.reverse us.reverse
  | _, _, .nil => .nil
  | _, _, .cons r t => by rw [List.reverse_cons, List.reverse_cons]; exact t.reverse.append (.cons r .nil)
theorem RPs.ints : ∀ ns : List Int, RPs K M n H (ns.map PV.int) (ns.map V.int)
  | [] => .nil
  | k :: ns => .cons (.int k) (RPs.ints ns)
theorem RPs.of_ints : ∀ {ns : List Int} {us : List V}, RPs K M n H (ns.map PV.int) us → us = ns.map V.int
  | [], _, h => by cases h; rfl
  | k :: ns, _, h => by
    cases h with
    | cons r t => cases r; rw [List.map_cons, RPs.of_ints t]
end
/-- what reading wants of a later state -/
structure Stw (K : PySem.W.Frag) (M : Map) (n : Nat) (H : Hp) (M' : Map) (n' : Nat) (H' : Hp) : Prop where
  le : n ≤ n'
  m : ∀ i, i < n → M'.m i = M.m i
  tup : ∀ a us, SqT K H a us → SqT K H' a us
  scr : ∀ a ns, Scr K H a ns → Scr K H' a ns
theorem Stp.w {Ts : List Addr} {K : PySem.W.Frag} {M M' : Map} {n n' : Nat} {H H' : Hp} (s : Stp Ts K M n H M' n' H') : Stw K M n H M' n' H' := ⟨s.le, s.m, s.tup, s.scr⟩
theorem Stw.trans {K : PySem.W.Frag} {M M1 M2 : Map} {n n1 n2 : Nat} {H H1 H2 : Hp} (a : Stw K M n H M1 n1 H1) (b : Stw K M1 n1 H1 M2 n2 H2) : Stw K M n H M2 n2 H2 :=
  ⟨Nat.le_trans a.le b.le, fun i h => (b.m i (Nat.lt_of_lt_of_le h a.le)).trans (a.m i h), fun x us h => b.tup x us (a.tup x us h), fun x us h => b.scr x us (a.scr x us h)⟩
theorem RP.stw {K : PySem.W.Frag} {M M' : Map} {n n' : Nat} {H H' : Hp} {v : PV} {u : V} (h : RP K M n H v u) (s : Stw K M n H M' n' H') : RP K M' n' H' v u := h.mono s.le s.m s.tup s.scr
/-- pairs of a key and a value -/
inductive KR {κ : Type} (K : PySem.W.Frag) (M : Map) (n : Nat) (H : Hp) : List (κ × PV) → List (κ × V) → Prop
  | nil : KR K M n H [] []
  | cons {k : κ} {x : PV} {u : V} {xs : List (κ × PV)} {us : List (κ × V)} : RP K M n H x u → KR K M n H xs us → KR K M n H ((k, x) :: xs) ((k, u) :: us)
theorem KR.mono {κ : Type} {K : PySem.W.Frag} {M M' : Map} {n n' : Nat} {H H' : Hp} (hle : n ≤ n') (hm : ∀ i, i < n → M'.m i = M.m i) (ht : ∀ a us, SqT K H a us → SqT K H' a us) (hs : ∀ a ns, Scr K H a ns → Scr K H' a ns) : ∀ {v : List (κ × PV)} {u : List (κ × V)}, KR K M n H v u → KR K M' n' H' v u
  | _, _, .nil => .nil
  | _, _, .cons a b => .cons (a.mono hle hm ht hs) (KR.mono hle hm ht hs b)
def ObR (K : PySem.W.Frag) (M : Map) (n : Nat) (H : Hp) : Ob → Addr → Addr → Prop
  | .lst xs, a, b => b = a ∧ ∃ us, H a = some (.lst us) ∧ RPs K M n H xs us
  | .dct kvs, a, b => b = a ∧ ∃ us, H a = some (.dK us) ∧ KR K M n H kvs us
  | .ins C fs, a, b => ∃ us, H a = some (.ins C b us) ∧ H b = some (.own a) ∧ KR K M n H fs us
  | .jar, a, b => Jar H a b
  | .frd o us kvs, a, b => b = a ∧ H a = some (.frz o (.dK us)) ∧ KR K M n H kvs us
  | .pen m, a, b => Pen H a b m
  | .exc c fs, a, b => (fs = [] ∧ b = a ∧ H a = some (.ext (ExcO a (.ref c) none))) ∨ (fs ≠ [] ∧ H a = some (.ext (ExcO a (.ref c) (some b))) ∧ H b = some (.xd (fs.map fun f => (f.1, V.int f.2))))
theorem ObR.mono {K : PySem.W.Frag} {M M' : Map} {n n' : Nat} {H H' : Hp} {o : Ob} {a b : Addr} (h : ObR K M n H o a b) (hle : n ≤ n') (hm : ∀ i, i < n → M'.m i = M.m i) (ht : ∀ a us, SqT K H a us → SqT K H' a us) (hs : ∀ a ns, Scr K H a ns → Scr K H' a ns) (ha : H' a = H a) (hb : H' b = H b) : ObR K M' n' H' o a b := by
  cases o with
  | lst xs =>
    obtain ⟨e, us, h1, h2⟩ := h
    exact ⟨e, us, by rw [ha]; exact h1, h2.mono hle hm ht hs⟩
  | dct kvs =>
    obtain ⟨e, us, h1, h2⟩ := h
    exact ⟨e, us, by rw [ha]; exact h1, h2.mono hle hm ht hs⟩
  | ins C fs =>
    obtain ⟨us, h1, h2, h3⟩ := h
    exact ⟨us, by rw [ha]; exact h1, by rw [hb]; exact h2, h3.mono hle hm ht hs⟩
  | jar =>
    obtain ⟨cs, r, s, t, h1, h2, h3⟩ := (show Jar H a b from h).ex
    exact ⟨cs, r, s, t, by rw [ha]; exact h1, by rw [hb]; exact h2, h3⟩
  | frd o us kvs =>
    obtain ⟨e, h1, h2⟩ := h
    exact ⟨e, by rw [ha]; exact h1, h2.mono hle hm ht hs⟩
  | pen m => exact (show Pen H a b m from h).keep (fun o e => by rw [ha]; exact e) (fun o e => by rw [hb]; exact e)
  | exc c fs =>
    rcases h with ⟨e, e2, h1⟩ | ⟨e, h1, h2⟩
    · exact .inl ⟨e, e2, by rw [ha]; exact h1⟩
    · exact .inr ⟨e, by rw [ha]; exact h1, by rw [hb]; exact h2⟩
/-- what stands at a thing's addresses -/
def muts : HO → Prop
  | .lst _ => True
  | .dK _ => True
  | .ins _ _ _ => True
  | .own _ => True
  | .frz _ (.dK _) => True
  | .ext _ => True
  | .xd _ => True
  | _ => False
theorem ObR.at {K : PySem.W.Frag} {M : Map} {n : Nat} {H : Hp} {o : Ob} {a b : Addr} (h : ObR K M n H o a b) : (∃ x, H a = some x ∧ muts x) ∧ ∃ x, H b = some x ∧ muts x := by
  cases o with
  | lst xs => obtain ⟨rfl, us, h1, _⟩ := h; exact ⟨⟨_, h1, trivial⟩, _, h1, trivial⟩
  | dct kvs => obtain ⟨rfl, us, h1, _⟩ := h; exact ⟨⟨_, h1, trivial⟩, _, h1, trivial⟩
  | ins C fs => obtain ⟨us, h1, h2, _⟩ := h; exact ⟨⟨_, h1, trivial⟩, _, h2, trivial⟩
  | jar => obtain ⟨cs, r, s, t, h1, h2, h3⟩ := (show Jar H a b from h).ex; exact ⟨⟨_, h1, trivial⟩, _, h2, trivial⟩
  | frd o us kvs => obtain ⟨rfl, h1, _⟩ := h; exact ⟨⟨_, h1, trivial⟩, _, h1, trivial⟩
  | pen m => obtain ⟨cs, r, s, h1, h2, _⟩ := (show Pen H a b m from h).ex; exact ⟨⟨_, h1, trivial⟩, _, h2, trivial⟩
  | exc c fs =>
    rcases h with ⟨_, rfl, h1⟩ | ⟨_, h1, h2⟩
    · exact ⟨⟨_, h1, trivial⟩, _, h1, trivial⟩
    · exact ⟨⟨_, h1, trivial⟩, _, h2, trivial⟩
structure Sim (Ts : List Addr) (K : PySem.W.Frag) (M : Map) (S : Sto) (H : Hp) : Prop where
  ob : ∀ (i : Nat) (o : Ob), S[i]? = some o → ObR K M S.length H o (M.m i) (M.q i)
  sep : ∀ i j, i < S.length → j < S.length → i ≠ j → M.m i ≠ M.m j ∧ M.m i ≠ M.q j ∧ M.q i ≠ M.q j
  tab : ∀ P ∈ Ts, TabO H P
section
variable {K : PySem.W.Frag} {M : Map} {S : Sto} {H : Hp}
theorem Sim.own (s : Sim Ts K M S H) {a : Addr} (h : Own M S.length a) : ∃ x, H a = some x ∧ muts x := by
  obtain ⟨i, hi, e⟩ := h
  obtain ⟨o, ho⟩ : ∃ o, S[i]? = some o := ⟨S[i], by simp [hi]⟩
  obtain ⟨h1, h2⟩ := (s.ob i o ho).at
  rcases e with rfl | rfl
  · exact h1
  · exact h2
theorem Sim.notOwn (s : Sim Ts K M S H) {a : Addr} {o : HO} (h : H a = some o) (n : ¬ muts o) : ¬ Own M S.length a := fun z => by
  obtain ⟨x, h1, h2⟩ := s.own z
  rw [h] at h1; cases h1
  exact n h2
theorem Sim.free (s : Sim Ts K M S H) {a : Addr} (h : H a = none) : ¬ Own M S.length a ∧ a ∉ Ts := by
  refine ⟨fun z => ?_, fun z => ?_⟩
  · obtain ⟨x, h1, h2⟩ := s.own z
    rw [h] at h1; cases h1
  · obtain ⟨ps, h1, _⟩ := s.tab a z
    rw [h] at h1; cases h1
/-- reading is kept where nothing but things of the store, or new ones, is written -/
theorem sqt_upd {a : Addr} {us : List V} {p : Addr} {o : HO} (h : SqT K H a us) (hp : ∀ x, H p = some x → muts x) : SqT K (upd H p o) a us := by
  rcases h with (h | ⟨ob, h⟩) | h
  · refine .inl (.inl ?_)
    rw [upd_ne]; exact h
    rintro rfl; exact hp _ h
  · refine .inl (.inr ⟨ob, ?_⟩)
    rw [upd_ne]; exact h
    rintro rfl; exact hp _ h
  · exact .inr h
theorem scr_upd {a : Addr} {us : List Int} {p : Addr} {o : HO} (h : Scr K H a us) (hp : ∀ x, H p = some x → muts x) : Scr K (upd H p o) a us := by
  rcases h with ⟨ob, h⟩ | h
  · refine .inl ⟨ob, ?_⟩
    rw [upd_ne]; exact h
    rintro rfl; exact hp _ h
  · exact .inr h
theorem none_upd {p a : Addr} {o : HO} (h : upd H p o a = none) : H a = none := by
  unfold upd at h
  split at h
  · cases h
  · exact h
/-- a new thing beside the store -/
theorem Sim.beside (s : Sim Ts K M S H) {p : Addr} {o : HO} (hp : H p = none) : Sim Ts K M S (upd H p o) ∧ Stp Ts K M S.length H M S.length (upd H p o) := by
  have hm : ∀ x, H p = some x → muts x := fun x h => by rw [hp] at h; cases h
  have hf := s.free hp
  refine ⟨⟨fun i ob h => ?_, s.sep, fun P hP => ?_⟩, ⟨Nat.le_refl _, fun _ _ => rfl, fun _ _ => rfl, fun a us h => sqt_upd h hm, fun a us h => scr_upd h hm, fun a u h h1 h2 => ?_, fun a h => none_upd h, fun i h1 h2 => by omega⟩⟩
  · have hi := (List.getElem?_eq_some_iff.mp h).1
    refine (s.ob i ob h).mono (Nat.le_refl _) (fun _ _ => rfl) (fun a us h => sqt_upd h hm) (fun a us h => scr_upd h hm) (upd_ne ?_) (upd_ne ?_)
    · rintro rfl; exact hf.1 ⟨i, hi, .inl rfl⟩
    · rintro rfl; exact hf.1 ⟨i, hi, .inr rfl⟩
  · refine (s.tab P hP).keep (fun ps h => ?_) fun a oc c h => ?_
    · rw [upd_ne]; exact h
      rintro rfl; rw [hp] at h; cases h
    · rw [upd_ne]; exact h
      rintro rfl; rw [hp] at h; cases h
  · rw [upd_ne]; exact h
    rintro rfl; rw [hp] at h; cases h
def Map.add (M : Map) (n : Nat) (p q : Addr) : Map := ⟨fun i => if i = n then p else M.m i, fun i => if i = n then q else M.q i⟩
theorem Map.add_m (M : Map) (n : Nat) (p q : Addr) : (M.add n p q).m n = p := if_pos rfl
theorem Map.add_q (M : Map) (n : Nat) (p q : Addr) : (M.add n p q).q n = q := if_pos rfl
theorem Map.add_m' (M : Map) {n i : Nat} {p q : Addr} (h : i < n) : (M.add n p q).m i = M.m i := if_neg (by omega)
theorem Map.add_q' (M : Map) {n i : Nat} {p q : Addr} (h : i < n) : (M.add n p q).q i = M.q i := if_neg (by omega)
/-- what stands beside the store becomes its newest thing: from H0, where p and q were free -/
theorem Sim.take (s : Sim Ts K M S H) {ob : Ob} {p q : Addr} (hp : ¬ Own M S.length p) (hq : ¬ Own M S.length q) (ho : ObR K (M.add S.length p q) (S.length + 1) H ob p q) : Sim Ts K (M.add S.length p q) (S ++ [ob]) H := by
  refine ⟨fun i o h => ?_, fun i j hi hj ne => ?_, s.tab⟩
  · rw [List.length_append, List.length_singleton]
    by_cases c : i < S.length
    · rw [List.getElem?_append_left c] at h
      rw [M.add_m' c, M.add_q' c]
      exact (s.ob i o h).mono (by omega) (fun j hj => M.add_m' hj) (fun _ _ h => h) (fun _ _ h => h) rfl rfl
    · rw [List.getElem?_append_right (by omega)] at h
      have : i = S.length := by
        have := (List.getElem?_eq_some_iff.mp h).1
        simp at this; omega
      subst this
      rw [Nat.sub_self] at h
      cases h
      rw [M.add_m, M.add_q]; exact ho
  · rw [List.length_append, List.length_singleton] at hi hj
    by_cases c : i < S.length
    · by_cases d : j < S.length
      · rw [M.add_m' c, M.add_m' d, M.add_q' c, M.add_q' d]; exact s.sep i j c d ne
      · have : j = S.length := by omega
        subst this
        rw [M.add_m' c, M.add_q' c, M.add_m, M.add_q]
        exact ⟨fun e => hp ⟨i, c, .inl e.symm⟩, fun e => hq ⟨i, c, .inl e.symm⟩, fun e => hq ⟨i, c, .inr e.symm⟩⟩
    · have : i = S.length := by omega
      subst this
      have d : j < S.length := by omega
      rw [M.add_m' d, M.add_q' d, M.add_m, M.add_q]
      exact ⟨fun e => hp ⟨j, d, .inl e⟩, fun e => hp ⟨j, d, .inr e⟩, fun e => hq ⟨j, d, .inr e⟩⟩
theorem Stp.take {M1 : Map} {n n1 : Nat} {H0 : Hp} (s : Stp Ts K M n H0 M1 n1 H) {p q : Addr} (hp : H0 p = none) (hq : H0 q = none) : Stp Ts K M n H0 (M1.add n1 p q) (n1 + 1) H where
  le := Nat.le_succ_of_le s.le
  m := fun i h => (M1.add_m' (Nat.lt_of_lt_of_le h s.le)).trans (s.m i h)
  q := fun i h => (M1.add_q' (Nat.lt_of_lt_of_le h s.le)).trans (s.q i h)
  tup := s.tup
  scr := s.scr
  fr := s.fr
  grow := s.grow
  new := fun i h1 h2 => by
    by_cases c : i < n1
    · rw [M1.add_m' c, M1.add_q' c]; exact s.new i h1 c
    · have : i = n1 := by omega
      subst this
      rw [M1.add_m, M1.add_q]; exact ⟨hp, hq⟩
/-- a new thing of the store: a list or a dict -/
theorem Sim.alloc (s : Sim Ts K M S H) {p : Addr} {o : HO} {ob : Ob} (hp : H p = none) (ho : ∀ M' H', Stp Ts K M S.length H M' S.length H' → H' p = some o → ObR K M' S.length H' ob p p) :
    Sim Ts K (M.add S.length p p) (S ++ [ob]) (upd H p o) ∧ Stp Ts K M S.length H (M.add S.length p p) (S ++ [ob]).length (upd H p o) := by
  obtain ⟨s1, t1⟩ := s.beside (o := o) hp
  have hf := s.free hp
  refine ⟨s1.take hf.1 hf.1 ?_, ?_⟩
  · exact (ho M _ t1 upd_same).mono (by omega) (fun j hj => M.add_m' hj) (fun _ _ h => h) (fun _ _ h => h) rfl rfl
  · rw [List.length_append, List.length_singleton]
    exact t1.take hp hp
/-- a thing of the store is written -/
theorem Sim.put (s : Sim Ts K M S H) {i : Nat} {ob new : Ob} {o : HO} (hi : S[i]? = some ob) (ho : ∀ H', Stp Ts K M S.length H M S.length H' → H' (M.m i) = some o → (M.q i ≠ M.m i → H' (M.q i) = H (M.q i)) → ObR K M S.length H' new (M.m i) (M.q i)) :
    Sim Ts K M (S.set i new) (upd H (M.m i) o) ∧ Stp Ts K M S.length H M (S.set i new).length (upd H (M.m i) o) := by
  have hl := (List.getElem?_eq_some_iff.mp hi).1
  have hm : ∀ x, H (M.m i) = some x → muts x := fun x h => by
    obtain ⟨y, h1, h2⟩ := s.own ⟨i, hl, .inl rfl⟩
    rw [h] at h1; cases h1; exact h2
  have hs : H (M.m i) ≠ none := by
    obtain ⟨y, h1, h2⟩ := s.own ⟨i, hl, .inl rfl⟩
    rw [h1]; simp
  have t : Stp Ts K M S.length H M S.length (upd H (M.m i) o) := ⟨Nat.le_refl _, fun _ _ => rfl, fun _ _ => rfl, fun a us h => sqt_upd h hm, fun a us h => scr_upd h hm, fun a u h h1 h2 => by
    rw [upd_ne]; exact h
    rintro rfl; exact h1 ⟨i, hl, .inl rfl⟩, fun a h => none_upd h, fun i h1 h2 => by omega⟩
  refine ⟨⟨fun j oj h => ?_, fun j k hj hk => ?_, fun P hP => ?_⟩, by rw [List.length_set]; exact t⟩
  · rw [List.length_set]
    by_cases c : j = i
    · subst c
      rw [List.getElem?_set_self hl] at h
      cases h
      exact ho _ t upd_same fun z => upd_ne z
    · rw [List.getElem?_set_ne (fun z => c z.symm)] at h
      have hj := (List.getElem?_eq_some_iff.mp h).1
      have hsp := s.sep i j hl hj (fun z => c z.symm)
      have hsp2 := s.sep j i hj hl c
      refine (s.ob j oj h).mono (Nat.le_refl _) (fun _ _ => rfl) (fun a us h => sqt_upd h hm) (fun a us h => scr_upd h hm) (upd_ne hsp2.1) (upd_ne ?_)
      exact fun e => hsp.2.1 e.symm
  · rw [List.length_set] at hj hk
    exact s.sep j k hj hk
  · refine (s.tab P hP).keep (fun ps h => ?_) fun a oc c h => ?_
    · rw [upd_ne]; exact h
      rintro rfl
      exact hm _ h
    · rw [upd_ne]; exact h
      rintro rfl
      exact hm _ h
end
mutual
def PV.Cl (n : Nat) : PV → Prop
  | .tup xs => Cls n xs
  | .ref i => i < n
  | .non => True
  | .bl _ => True
  | .int _ => True
  | .str _ => True
  | .ty _ => True
  | .glb _ => True
  | .scr _ => True
def Cls (n : Nat) : List PV → Prop
  | [] => True
  | x :: xs => x.Cl n ∧ Cls n xs
end
def Ob.Cl (n : Nat) : Ob → Prop
  | .lst xs => Cls n xs
  | .dct kvs => Cls n (kvs.map (·.2))
  | .ins _ fs => Cls n (fs.map (·.2))
  | .jar => True
  | .frd _ _ kvs => Cls n (kvs.map (·.2))
  | .pen _ => True
  | .exc _ _ => True
def Closed (n : Nat) (S : Sto) : Prop := ∀ (i : Nat) (o : Ob), S[i]? = some o → o.Cl n
section
variable {K : PySem.W.Frag} {M : Map} {n k : Nat} {H : Hp}
mutual
theorem RP.cl : ∀ {v : PV} {u : V}, RP K M n H v u → v.Cl n
  | _, _, .non => by simp [PV.Cl]
  | _, _, .bl b => by simp [PV.Cl]
  | _, _, .int i => by simp [PV.Cl]
  | _, _, .str x => by simp [PV.Cl]
  | _, _, .ty x => by simp [PV.Cl]
  | _, _, .glb a => by simp [PV.Cl]
  | _, _, .tup a b => by unfold PV.Cl; exact RPs.cl b
  | _, _, .ref (i := i) h => by unfold PV.Cl; exact h
  | _, _, .scr h => by simp [PV.Cl]
theorem RPs.cl : ∀ {v : List PV} {u : List V}, RPs K M n H v u → Cls n v
  | _, _, .nil => by simp [Cls]
  | _, _, .cons a b => by unfold Cls; exact ⟨RP.cl a, RPs.cl b⟩
end
mutual
theorem RP.cut : ∀ {v : PV} {u : V}, RP K M n H v u → v.Cl k → RP K M k H v u
  | _, _, .non, _ => .non
  | _, _, .bl b, _ => .bl b
  | _, _, .int i, _ => .int i
  | _, _, .str x, _ => .str x
  | _, _, .ty x, _ => .ty x
  | _, _, .glb a, _ => .glb a
  | _, _, .tup a b, c => .tup a (RPs.cut b (by unfold PV.Cl at c; exact c))
  | _, _, .ref (i := i) h, c => .ref (by unfold PV.Cl at c; exact c)
  | _, _, .scr h, _ => .scr h
theorem RPs.cut : ∀ {v : List PV} {u : List V}, RPs K M n H v u → Cls k v → RPs K M k H v u
  | _, _, .nil, _ => .nil
  | _, _, .cons a b, c => by unfold Cls at c; exact .cons (RP.cut a c.1) (RPs.cut b c.2)
end
theorem KR.cl {κ : Type} : ∀ {v : List (κ × PV)} {u : List (κ × V)}, KR K M n H v u → Cls n (v.map (·.2))
  | _, _, .nil => by simp [Cls]
  | _, _, .cons a b => by rw [List.map_cons]; unfold Cls; exact ⟨a.cl, KR.cl b⟩
theorem KR.cut {κ : Type} : ∀ {v : List (κ × PV)} {u : List (κ × V)}, KR K M n H v u → Cls k (v.map (·.2)) → KR K M k H v u
  | _, _, .nil, _ => .nil
  | _, _, .cons a b, c => by rw [List.map_cons] at c; unfold Cls at c; exact .cons (a.cut c.1) (KR.cut b c.2)
theorem ObR.cl {o : Ob} {a b : Addr} (h : ObR K M n H o a b) : o.Cl n := by
  cases o with
  | lst xs => obtain ⟨_, _, _, r⟩ := h; exact r.cl
  | dct xs => obtain ⟨_, _, _, r⟩ := h; exact r.cl
  | ins C fs => obtain ⟨_, _, _, r⟩ := h; exact r.cl
  | jar => exact True.intro
  | frd o us kvs => obtain ⟨_, _, r⟩ := h; exact r.cl
  | pen m => exact True.intro
  | exc c fs => exact True.intro
theorem ObR.cut {o : Ob} {a b : Addr} (h : ObR K M n H o a b) (c : o.Cl k) : ObR K M k H o a b := by
  cases o with
  | lst xs => obtain ⟨e, us, p, r⟩ := h; exact ⟨e, us, p, r.cut c⟩
  | dct xs => obtain ⟨e, us, p, r⟩ := h; exact ⟨e, us, p, r.cut c⟩
  | ins C fs => obtain ⟨us, p, q, r⟩ := h; exact ⟨us, p, q, r.cut c⟩
  | jar => exact h
  | frd o us kvs => obtain ⟨e, p, r⟩ := h; exact ⟨e, p, r.cut c⟩
  | pen m => exact h
  | exc c fs => exact h
end
section
variable {K : PySem.W.Frag} {M : Map} {S : Sto} {H : Hp}
theorem Sim.closed (s : Sim Ts K M S H) : Closed S.length S := fun i o h => (s.ob i o h).cl
/-- the newest things are forgotten -/
theorem Sim.forget {G : Sto} (s : Sim Ts K M (S ++ G) H) (c : Closed S.length S) : Sim Ts K M S H := by
  refine ⟨fun i o h => ?_, fun i j hi hj => s.sep i j (by rw [List.length_append]; omega) (by rw [List.length_append]; omega), s.tab⟩
  have hi := (List.getElem?_eq_some_iff.mp h).1
  exact (s.ob i o (by rw [List.getElem?_append_left hi]; exact h)).cut (c i o h)
theorem Stp.forget {M0 : Map} {n : Nat} {H0 : Hp} {k k' : Nat} (t : Stp Ts K M0 n H0 M k H) (h1 : n ≤ k') (h2 : k' ≤ k) : Stp Ts K M0 n H0 M k' H :=
  ⟨h1, t.m, t.q, t.tup, t.scr, t.fr, t.grow, fun i a b => t.new i a (by omega)⟩
end
abbrev Ev := List (Option PV)
structure StR (K : PySem.W.Frag) (M : Map) (n : Nat) (H : Hp) (τ : Ev) (σ : L2.St) : Prop where
  len : τ.length = σ.length
  get : ∀ (i : Nat) (v : PV), τ[i]? = some (some v) → ∃ u, σ[i]? = some (some u) ∧ RP K M n H v u
section
variable {K : PySem.W.Frag} {M M' : Map} {n n' : Nat} {H H' : Hp} {τ : Ev} {σ : L2.St}
theorem StR.stp (r : StR K M n H τ σ) (s : Stp Ts K M n H M' n' H') : StR K M' n' H' τ σ := ⟨r.len, fun i v h => let ⟨u, h1, h2⟩ := r.get i v h; ⟨u, h1, h2.stp s⟩⟩
theorem StR.set (r : StR K M n H τ σ) {v : PV} {u : V} (h : RP K M n H v u) (i : Nat) : StR K M n H (τ.set i (some v)) (σ.set i (some u)) := by
  refine ⟨by rw [List.length_set, List.length_set, r.len], fun j x hj => ?_⟩
  by_cases c : i = j
  · subst c
    have hl : i < τ.length := by
      have := (List.getElem?_eq_some_iff.mp hj).1
      rw [List.length_set] at this; exact this
    rw [List.getElem?_set_self hl] at hj
    cases hj
    exact ⟨u, by rw [List.getElem?_set_self (by rw [← r.len]; exact hl)], h⟩
  · rw [List.getElem?_set_ne c] at hj ⊢
    exact r.get j x hj
def wipeW (τ : Ev) : List Nat → Ev
  | [] => τ
  | v :: vs => (wipeW τ vs).set v none
theorem StR.none (r : StR K M n H τ σ) (i : Nat) : StR K M n H (τ.set i .none) (σ.set i .none) := by
  refine ⟨by rw [List.length_set, List.length_set, r.len], fun j x hj => ?_⟩
  by_cases c : i = j
  · subst c
    by_cases hl : i < τ.length
    · rw [List.getElem?_set_self hl] at hj; cases hj
    · rw [List.getElem?_eq_none (by rw [List.length_set]; omega)] at hj; cases hj
  · rw [List.getElem?_set_ne c] at hj ⊢
    exact r.get j x hj
theorem StR.wipe (r : StR K M n H τ σ) : ∀ vs : List Nat, StR K M n H (wipeW τ vs) (wipe σ vs)
  | [] => r
  | v :: vs => (StR.wipe r vs).none v
def startW (k : Nat) (vs : List PV) : Ev := vs.map some ++ List.replicate (k - vs.length) none
theorem RPs.start {N : List Str} {vs : List PV} {us : List V} (r : RPs K M n H vs us) : StR K M n H (startW N.length vs) (start N us) := by
  have e := r.length
  refine ⟨by simp [startW, L2.start, e], fun i v h => ?_⟩
  unfold startW at h
  unfold L2.start
  by_cases c : i < vs.length
  · rw [List.getElem?_append_left (by simpa using c), List.getElem?_map] at h
    cases q : vs[i]? with
    | none => rw [q] at h; cases h
    | some y =>
      rw [q] at h
      cases h
      obtain ⟨u, h1, h2⟩ := r.get q
      exact ⟨u, by rw [List.getElem?_append_left (by simp; omega), List.getElem?_map, h1]; rfl, h2⟩
  · rw [List.getElem?_append_right (by simp; omega)] at h
    rw [List.getElem?_replicate] at h
    split at h
    · cases h
    · cases h
end
end L4
set_option Elab.async false
set_option linter.all false
set_option maxRecDepth 100000
namespace L4
open PySem PySem.Spec PyProof.Rows L2 L3
abbrev WQ := PV → Sto → Prop
abbrev WE := Ev → Sto → WQ → Prop
abbrev WT := Ev → Sto → (Bool → Sto → Prop) → Prop
abbrev WA := Ev → Sto → (List PV → Sto → Prop) → Prop
section
variable (Ts : List Addr) (K : PySem.W.Frag) (M : Map) (n : Nat) (H : Hp)
def upQ (Q : VK) : WQ := fun v S => ∀ M' H' u, Stp Ts K M n H M' S.length H' → Sim Ts K M' S H' → RP K M' S.length H' v u → Q u H'
def upB (Q : Bool → Hp → Prop) : Bool → Sto → Prop := fun b S => ∀ M' H', Stp Ts K M n H M' S.length H' → Sim Ts K M' S H' → Q b H'
def upL (Q : List V → Hp → Prop) : List PV → Sto → Prop := fun v S => ∀ M' H' u, Stp Ts K M n H M' S.length H' → Sim Ts K M' S H' → RPs K M' S.length H' v u → Q u H'
end
def upE (Ts : List Addr) (K : PySem.W.Frag) (w : WE) : TE := fun σ H Q => ∃ M S τ, Sim Ts K M S H ∧ StR K M S.length H τ σ ∧ w τ S (upQ Ts K M S.length H Q)
def upT (Ts : List Addr) (K : PySem.W.Frag) (w : WT) : TT := fun σ H Q => ∃ M S τ, Sim Ts K M S H ∧ StR K M S.length H τ σ ∧ w τ S (upB Ts K M S.length H Q)
def upA (Ts : List Addr) (K : PySem.W.Frag) (w : WA) : TA := fun σ H Q => ∃ M S τ, Sim Ts K M S H ∧ StR K M S.length H τ σ ∧ w τ S (upL Ts K M S.length H Q)
abbrev MoE (w : WE) : Prop := ∀ (τ : Ev) (S : Sto) (Q Q' : WQ), w τ S Q → (∀ v S', Q v S' → Q' v S') → w τ S Q'
abbrev MoT (w : WT) : Prop := ∀ (τ : Ev) (S : Sto) (Q Q' : Bool → Sto → Prop), w τ S Q → (∀ v S', Q v S' → Q' v S') → w τ S Q'
abbrev MoA (w : WA) : Prop := ∀ (τ : Ev) (S : Sto) (Q Q' : List PV → Sto → Prop), w τ S Q → (∀ v S', Q v S' → Q' v S') → w τ S Q'
structure SE (Ts : List Addr) (X : Cx) (e : Expr) (w : WE) : Prop where
  pe : PE X e (upE Ts X.K w)
  mo : MoE w
structure ST (Ts : List Addr) (X : Cx) (e : Expr) (w : WT) : Prop where
  pt : PT X e (upT Ts X.K w)
  mo : MoT w
structure SW (Ts : List Addr) (X : Cx) (e : Expr) (w : WT) : Prop where
  pw : PW X e (upT Ts X.K w)
  mo : MoT w
structure SA (Ts : List Addr) (X : Cx) (es : List Expr) (w : WA) : Prop where
  pa : PA X es (upA Ts X.K w)
  mo : MoA w
theorem pe_imp {X : Cx} {e : Expr} {t t' : TE} (h : PE X e t) (k : ∀ σ H Q, t' σ H Q → t σ H Q) : PE X e t' := fun pins s σ H Q I q => h pins s σ H Q I (k _ _ _ q)
theorem pt_imp {X : Cx} {e : Expr} {t t' : TT} (h : PT X e t) (k : ∀ σ H Q, t' σ H Q → t σ H Q) : PT X e t' := fun pins s σ H Q I q => h pins s σ H Q I (k _ _ _ q)
theorem pw_imp {X : Cx} {e : Expr} {t t' : TT} (h : PW X e t) (k : ∀ σ H Q, t' σ H Q → t σ H Q) : PW X e t' := fun wh pins s σ H Q I q => h wh pins s σ H Q I (k _ _ _ q)
theorem pa_imp {X : Cx} {e : List Expr} {t t' : TA} (h : PA X e t) (k : ∀ σ H Q, t' σ H Q → t σ H Q) : PA X e t' := fun po pins s σ H Q I q => h po pins s σ H Q I (k _ _ _ q)
section
variable {K : PySem.W.Frag} {M : Map} {S : Sto} {H : Hp} {τ : Ev} {σ : L2.St}
theorem runE {w : WE} (mo : MoE w) (s : Sim Ts K M S H) (r : StR K M S.length H τ σ) {F : WQ} (hw : w τ S F) {Q : VK} (k : ∀ v S1 M1 H1 u, F v S1 → Stp Ts K M S.length H M1 S1.length H1 → Sim Ts K M1 S1 H1 → RP K M1 S1.length H1 v u → Q u H1) : upE Ts K w σ H Q :=
  ⟨M, S, τ, s, r, mo _ _ _ _ hw fun v S1 f M1 H1 u t s r => k v S1 M1 H1 u f t s r⟩
theorem runT {w : WT} (mo : MoT w) (s : Sim Ts K M S H) (r : StR K M S.length H τ σ) {F : Bool → Sto → Prop} (hw : w τ S F) {Q : Bool → Hp → Prop} (k : ∀ v S1 M1 H1, F v S1 → Stp Ts K M S.length H M1 S1.length H1 → Sim Ts K M1 S1 H1 → Q v H1) : upT Ts K w σ H Q :=
  ⟨M, S, τ, s, r, mo _ _ _ _ hw fun v S1 f M1 H1 t s => k v S1 M1 H1 f t s⟩
theorem runA {w : WA} (mo : MoA w) (s : Sim Ts K M S H) (r : StR K M S.length H τ σ) {F : List PV → Sto → Prop} (hw : w τ S F) {Q : List V → Hp → Prop} (k : ∀ v S1 M1 H1 u, F v S1 → Stp Ts K M S.length H M1 S1.length H1 → Sim Ts K M1 S1 H1 → RPs K M1 S1.length H1 v u → Q u H1) : upA Ts K w σ H Q :=
  ⟨M, S, τ, s, r, mo _ _ _ _ hw fun v S1 f M1 H1 u t s r => k v S1 M1 H1 u f t s r⟩
theorem upQ.go {n : Nat} {Q : VK} {v : PV} {M1 : Map} {H1 : Hp} {S1 : Sto} {u : V} (h : upQ Ts K M n H Q v S1) (t : Stp Ts K M n H M1 S1.length H1) (s : Sim Ts K M1 S1 H1) (r : RP K M1 S1.length H1 v u) : Q u H1 := h M1 H1 u t s r
theorem upQ.base {n n2 : Nat} {Q : VK} {v : PV} {M2 : Map} {H2 : Hp} {S1 : Sto} (h : upQ Ts K M n H Q v S1) (t : Stp Ts K M n H M2 n2 H2) : upQ Ts K M2 n2 H2 Q v S1 := fun M' H' u t' s r => h M' H' u (t.trans t') s r
theorem upQ.here {Q : VK} {v : PV} {u : V} (h : upQ Ts K M S.length H Q v S) (s : Sim Ts K M S H) (r : RP K M S.length H v u) : Q u H := h M H u (.refl _ _ _ _) s r
theorem upQ.tup {Q : VK} {xs : List PV} {us : List V} (h : upQ Ts K M S.length H Q (.tup xs) S) (s : Sim Ts K M S H) (r : RPs K M S.length H xs us) : ∀ p, H p = none → Q (.ref p) (upd H p (.tup us)) := fun p hp =>
  let ⟨s1, t1⟩ := s.beside (o := .tup us) hp
  h M _ _ t1 s1 (.tup (SqT.of upd_same) (r.stp t1))
theorem upQ.lst {Q : VK} {xs : List PV} {us : List V} (h : upQ Ts K M S.length H Q (.ref S.length) (S ++ [.lst xs])) (s : Sim Ts K M S H) (r : RPs K M S.length H xs us) : ∀ p, H p = none → Q (.ref p) (upd H p (.lst us)) := fun p hp => by
  obtain ⟨s1, t1⟩ := s.alloc (o := .lst us) (ob := .lst xs) hp (fun M' H' t e => ⟨rfl, us, e, r.stp t⟩)
  refine h _ _ _ t1 s1 ?_
  have := RP.ref (K := K) (M := M.add S.length p p) (n := (S ++ [Ob.lst xs]).length) (H := upd H p (.lst us)) (i := S.length) (by simp)
  rw [M.add_m] at this
  exact this
theorem upQ.put {Q : VK} {v : PV} {u : V} {i : Nat} {old xs : List PV} {us : List V} (h : upQ Ts K M S.length H Q v (S.set i (.lst xs))) (s : Sim Ts K M S H) (hi : S[i]? = some (.lst old)) (r : RPs K M S.length H xs us) (rv : RP K M S.length H v u) : Q u (upd H (M.m i) (.lst us)) := by
  have e := (s.ob i _ hi).1
  obtain ⟨s1, t1⟩ := s.put (new := .lst xs) (o := .lst us) hi (fun H' t e1 _ => ⟨e, us, e1, r.stp t⟩)
  exact h _ _ _ t1 s1 (rv.stp t1)
theorem Sim.lst (s : Sim Ts K M S H) {i : Nat} {xs : List PV} (h : S[i]? = some (.lst xs)) : ∃ us, H (M.m i) = some (.lst us) ∧ RPs K M S.length H xs us := (s.ob i _ h).2
theorem Sim.dct (s : Sim Ts K M S H) {i : Nat} {xs : List (Key × PV)} (h : S[i]? = some (.dct xs)) : ∃ us, H (M.m i) = some (.dK us) ∧ KR K M S.length H xs us := (s.ob i _ h).2
end
def seqW (S : Sto) : PV → Option (Bool × List PV)
  | .tup xs => some (true, xs)
  | .ref i => match S[i]? with
    | some (.lst xs) => some (false, xs)
    | _ => none
  | .scr ns => some (false, ns.map .int)
  | _ => none
theorem seqW_tup (S : Sto) (xs : List PV) : seqW S (.tup xs) = some (true, xs) := rfl
theorem seqW_ref {S : Sto} {i : Nat} {xs : List PV} (h : S[i]? = some (.lst xs)) : seqW S (.ref i) = some (false, xs) := by simp only [seqW, h]
section
variable {K : PySem.W.Frag} {M : Map} {S : Sto} {H : Hp}
theorem Sim.seq (s : Sim Ts K M S H) {x : PV} {u : V} {k : Bool} {xs : List PV} (h : seqW S x = some (k, xs)) (r : RP K M S.length H x u) : ∃ a us, u = .ref a ∧ SqX k K H a us ∧ RPs K M S.length H xs us := by
  cases r with
  | tup h1 h2 => cases h; exact ⟨_, _, rfl, h1, h2⟩
  | @ref i hi =>
    cases q : S[i]? with
    | none => simp only [seqW, q] at h; cases h
    | some o =>
      simp only [seqW, q] at h
      cases o with
      | lst ys =>
        cases h
        obtain ⟨us, h1, h2⟩ := s.lst q
        exact ⟨_, us, rfl, SqL.of h1, h2⟩
      | dct _ => cases h
      | ins _ _ => cases h
      | jar => cases h
      | frd _ _ _ => cases h
      | pen _ => cases h
      | exc _ _ => cases h
  | scr h1 => cases h; exact ⟨_, _, rfl, h1.sql, .ints _⟩
  | _ => cases h
end
abbrev W2 := PV → PV → Sto → WQ → Prop
def Snd2 (Ts : List Addr) (K : PySem.W.Frag) (R : R2) (r : W2) : Prop := ∀ (M : Map) (S : Sto) (H : Hp) (x y : PV) (a b : V) (Q : VK), Sim Ts K M S H → RP K M S.length H x a → RP K M S.length H y b → r x y S (upQ Ts K M S.length H Q) → R a b H Q
abbrev Mo2 (r : W2) : Prop := ∀ (x y : PV) (S : Sto) (Q Q' : WQ), r x y S Q → (∀ v S', Q v S' → Q' v S') → r x y S Q'
structure S2 (Ts : List Addr) (X : Cx) (f : Value → Value → Sem Value) (r : W2) : Prop where
  ex : ∃ R, OpR X f R ∧ Snd2 Ts X.K R r
  mo : Mo2 r
def wOp (r : W2) (wa wb : WE) : WE := fun τ S Q => wa τ S fun x S1 => wb τ S1 fun y S2 => r x y S2 Q
theorem opR_or {X : Cx} {f : Value → Value → Sem Value} {r r' : R2} (h : OpR X f r) (h' : OpR X f r') : OpR X f (fun x y H Q => r x y H Q ∨ r' x y H Q) := fun pins s σ H x y v u Q I rx ry q => q.elim (h pins s σ H x y v u Q I rx ry) (h' pins s σ H x y v u Q I rx ry)
section
variable {X : Cx} {a b c : Expr} {wa wb wc : WE} {pos : Pos}
theorem mo_op {r : W2} (h : Mo2 r) (ha : MoE wa) (hb : MoE wb) : MoE (wOp r wa wb) := fun τ S Q Q' h0 k => ha _ _ _ _ h0 fun v S1 h1 => hb _ _ _ _ h1 fun u S2 h2 => h _ _ _ _ _ h2 k
theorem op_bind {K : PySem.W.Frag} {R : R2} {r : W2} (hs : Snd2 Ts K R r) (hm : Mo2 r) (ha : MoE wa) (hb : MoE wb) {σ : L2.St} {H : Hp} {Q : VK} (h : upE Ts K (wOp r wa wb) σ H Q) : tOp R (upE Ts K wa) (upE Ts K wb) σ H Q := by
  obtain ⟨M, S, τ, s, st, h⟩ := h
  refine runE ha s st h fun v S1 M1 H1 u f t1 s1 r1 => ?_
  refine runE hb s1 (st.stp t1) f fun v2 S2 M2 H2 u2 f2 t2 s2 r2 => ?_
  exact hs M2 S2 H2 v v2 u u2 Q s2 (r1.stp t2) r2 (hm _ _ _ _ _ f2 fun w S3 h3 => h3.base (t1.trans t2))
theorem se_op {op : Operator} {r : W2} (ho : S2 Ts X (binaryOp op) r) (ha : SE Ts X a wa) (hb : SE Ts X b wb) : SE Ts X (.BinOp a op b pos) (wOp r wa wb) :=
  let ⟨_, o, s⟩ := ho.ex
  ⟨pe_imp (pe_op o ha.pe hb.pe) fun _ _ _ h => op_bind s ho.mo ha.mo hb.mo h, mo_op ho.mo ha.mo hb.mo⟩
theorem se_cmp {op : CmpOp} {r : W2} (ho : S2 Ts X (compareOp op) r) (ha : SE Ts X a wa) (hb : SE Ts X b wb) (hm : behindInMarks op b = false) : SE Ts X (.Compare a [op] [b] pos) (wOp r wa wb) :=
  let ⟨_, o, s⟩ := ho.ex
  ⟨pe_imp (pe_cmpR o ha.pe hb.pe hm) fun _ _ _ h => op_bind s ho.mo ha.mo hb.mo h, mo_op ho.mo ha.mo hb.mo⟩
/-- a truth as a test -/
def wTest (w : WE) : WT := fun τ S Q => w τ S fun v S1 => ∃ b, v = .bl b ∧ Q b S1
theorem mo_test (ha : MoE wa) : MoT (wTest wa) := fun τ S Q Q' h0 k => ha _ _ _ _ h0 fun v S1 ⟨b, e, q⟩ => ⟨b, e, k _ _ q⟩
theorem test_bind {K : PySem.W.Frag} (ha : MoE wa) {σ : L2.St} {H : Hp} {Q : Bool → Hp → Prop} (h : upT Ts K (wTest wa) σ H Q) : tB (upE Ts K wa) σ H Q := by
  obtain ⟨M, S, τ, s, st, h⟩ := h
  refine runE ha s st h fun v S1 M1 H1 u f t1 s1 r1 => ?_
  obtain ⟨b, rfl, q⟩ := f
  cases r1
  exact ⟨b, rfl, q M1 H1 t1 s1⟩
theorem st_val (ha : SE Ts X a wa) (he : ∀ whole, isTrue a X.env whole = (do let v ← whole; standAt a.pos; holding [v] (truthy v)) := by intro _; rfl) : ST Ts X a (wTest wa) :=
  ⟨pt_imp (pt_val ha.pe he) fun _ _ _ h => test_bind ha.mo h, mo_test ha.mo⟩
theorem st_cmp {op : CmpOp} {r : W2} (ho : S2 Ts X (compareOp op) r) (ha : SE Ts X a wa) (hb : SE Ts X b wb) (hm : behindInMarks op b = false) : ST Ts X (.Compare a [op] [b] pos) (wTest (wOp r wa wb)) := by
  obtain ⟨R, o, s⟩ := ho.ex
  refine ⟨pt_imp (pt_cmpR o ha.pe hb.pe hm) fun σ H Q h => ?_, mo_test (mo_op ho.mo ha.mo hb.mo)⟩
  obtain ⟨M, S, τ, s0, st, h⟩ := h
  refine op_bind s ho.mo ha.mo hb.mo ⟨M, S, τ, s0, st, mo_op ho.mo ha.mo hb.mo _ _ _ _ h fun v S1 ⟨b, e, q⟩ M1 H1 u t1 s1 r1 => ?_⟩
  subst e
  cases r1
  exact ⟨b, rfl, q M1 H1 t1 s1⟩
def wVar (i : Nat) : WE := fun τ S Q => ∃ v, τ[i]? = some (some v) ∧ Q v S
def wC (v : PV) : WE := fun _ S Q => Q v S
theorem se_var {i : Nat} {x : Str} (hN : X.N[i]? = some x) (hv : Vis X.env.scope x) (hd : (x == ("__debug__" : Str)) = false := by decide) (hcd : (x == ("__classdict__" : Str)) = false := by decide) : SE Ts X (.Name x pos) (wVar i) := by
  refine ⟨pe_imp (pe_var hN hv hd hcd) fun σ H Q h => ?_, fun τ S Q Q' ⟨v, e, q⟩ k => ⟨v, e, k _ _ q⟩⟩
  obtain ⟨M, S, τ, s, st, v, e, h⟩ := h
  obtain ⟨u, e1, r⟩ := st.get i v e
  exact ⟨u, e1, h.here s r⟩
theorem se_c {e : Expr} {v : PV} {u : V} (h : PE X e (tC u)) (r : ∀ M n H, RP X.K M n H v u) : SE Ts X e (wC v) := by
  refine ⟨pe_imp h fun σ H Q h => ?_, fun τ S Q Q' q k => k _ _ q⟩
  obtain ⟨M, S, τ, s, st, h⟩ := h
  exact upQ.here h s (r _ _ _)
theorem se_int {i j} : SE Ts X (.Constant (.int i) j pos) (wC (.int i)) := se_c pe_int fun _ _ _ => .int _
theorem se_bl {b j} : SE Ts X (.Constant (.bool b) j pos) (wC (.bl b)) := se_c pe_bl fun _ _ _ => .bl _
def wAnd (u v : WT) : WT := fun τ S Q => u τ S fun c S1 => if c = true then v τ S1 Q else Q false S1
def wOr (u v : WT) : WT := fun τ S Q => u τ S fun c S1 => if c = true then Q true S1 else v τ S1 Q
def wNot (u : WT) : WT := fun τ S Q => u τ S fun c S1 => Q (!c) S1
theorem upB.base {K : PySem.W.Frag} {M M2 : Map} {n n2 : Nat} {H H2 : Hp} {Q : Bool → Hp → Prop} {b : Bool} {S : Sto} (t : Stp Ts K M n H M2 n2 H2) (h : upB Ts K M n H Q b S) : upB Ts K M2 n2 H2 Q b S := fun M' H' t' s => h M' H' (t.trans t') s
theorem ite_imp {c : Bool} {A B A' B' : Prop} (h : if c = true then A else B) (ha : A → A') (hb : B → B') : if c = true then A' else B' := by
  cases c
  · exact hb h
  · exact ha h
theorem sw_or1 {wt : WT} (ha : ST Ts X a wt) : SW Ts X (.BoolOp .Or [a] pos) wt := ⟨pw_or1 ha.pt, ha.mo⟩
theorem sw_or {rest : List Expr} {wt wu : WT} (ha : ST Ts X a wt) (hb : SW Ts X (.BoolOp .Or (b :: rest) pos) wu) : SW Ts X (.BoolOp .Or (a :: b :: rest) pos) (wOr wt wu) := by
  refine ⟨pw_imp (pw_or ha.pt hb.pw) fun σ H Q h => ?_, fun τ S Q Q' h0 k => ha.mo _ _ _ _ h0 fun v S1 h1 => ite_imp h1 (fun h => k _ _ h) (fun h => hb.mo _ _ _ _ h k)⟩
  obtain ⟨M, S, τ, s, st, h⟩ := h
  refine runT ha.mo s st h fun c S1 M1 H1 f t1 s1 => ite_imp f (fun f => f M1 H1 t1 s1) fun f => ?_
  exact runT hb.mo s1 (st.stp t1) f fun d S2 M2 H2 f2 t2 s2 => f2 M2 H2 (t1.trans t2) s2
theorem SW.st {wt : WT} (h : SW Ts X a wt) : ST Ts X a wt := ⟨h.pw.pt, h.mo⟩
theorem st_not {wt : WT} (ha : ST Ts X a wt) : ST Ts X (.UnaryOp .Not a pos) (wNot wt) := by
  refine ⟨pt_imp (pt_not ha.pt) fun σ H Q h => ?_, fun τ S Q Q' h0 k => ha.mo _ _ _ _ h0 fun v S1 h1 => k _ _ h1⟩
  obtain ⟨M, S, τ, s, st, h⟩ := h
  exact runT ha.mo s st h fun c S1 M1 H1 f t1 s1 => f M1 H1 t1 s1
def wAndV (u v : WE) : WE := fun τ S Q => u τ S fun x S1 => ∃ c, x = .bl c ∧ if c = true then v τ S1 Q else Q (.bl false) S1
def wOrV (u v : WE) : WE := fun τ S Q => u τ S fun x S1 => ∃ c, x = .bl c ∧ if c = true then Q (.bl true) S1 else v τ S1 Q
def wNotV (u : WE) : WE := fun τ S Q => u τ S fun x S1 => ∃ c, x = .bl c ∧ Q (.bl (!c)) S1
theorem se_one {op} (h : SE Ts X a wa) : SE Ts X (.BoolOp op [a] pos) wa := ⟨pe_one h.pe, h.mo⟩
theorem se_and {rest : List Expr} (ha : SE Ts X a wa) (hb : SE Ts X (.BoolOp .And (b :: rest) pos) wb) : SE Ts X (.BoolOp .And (a :: b :: rest) pos) (wAndV wa wb) := by
  refine ⟨pe_imp (pe_and ha.pe hb.pe) fun σ H Q h => ?_, fun τ S Q Q' h0 k => ha.mo _ _ _ _ h0 fun v S1 ⟨c, e, h1⟩ => ⟨c, e, ite_imp h1 (fun h => hb.mo _ _ _ _ h k) (fun h => k _ _ h)⟩⟩
  obtain ⟨M, S, τ, s, st, h⟩ := h
  refine runE ha.mo s st h fun v S1 M1 H1 u f t1 s1 r1 => ?_
  obtain ⟨c, rfl, f⟩ := f
  cases r1
  refine ⟨c, rfl, ite_imp f (fun f => ?_) fun f => f M1 H1 _ t1 s1 (.bl _)⟩
  exact runE hb.mo s1 (st.stp t1) f fun d S2 M2 H2 u f2 t2 s2 r2 => f2 M2 H2 u (t1.trans t2) s2 r2
def wIf (c : WT) (u v : WE) : WE := fun τ S Q => c τ S fun b S1 => if b = true then u τ S1 Q else v τ S1 Q
def wNil : WA := fun _ S Q => Q [] S
def wCons (wa : WE) (wr : WA) : WA := fun τ S Q => wa τ S fun x S1 => wr τ S1 fun xs S2 => Q (x :: xs) S2
theorem sa_nil : SA Ts X [] wNil := by
  refine ⟨pa_imp pa_nil fun σ H Q h => ?_, fun τ S Q Q' h0 k => k _ _ h0⟩
  obtain ⟨M, S, τ, s, st, h⟩ := h
  exact h M H [] (.refl _ _ _ _) s .nil
theorem sa_cons {es : List Expr} {wr : WA} (ha : SE Ts X a wa) (hr : SA Ts X es wr) (hs : starEach (a :: es) X.env = (false, eval a X.env) :: starEach es X.env := by rfl) : SA Ts X (a :: es) (wCons wa wr) := by
  refine ⟨pa_imp (pa_cons ha.pe hr.pa hs) fun σ H Q h => ?_, fun τ S Q Q' h0 k => ha.mo _ _ _ _ h0 fun v S1 h1 => hr.mo _ _ _ _ h1 fun vs S2 h2 => k _ _ h2⟩
  obtain ⟨M, S, τ, s, st, h⟩ := h
  refine runE ha.mo s st h fun v S1 M1 H1 u f t1 s1 r1 => ?_
  exact runA hr.mo s1 (st.stp t1) f fun d S2 M2 H2 us f2 t2 s2 r2 => f2 M2 H2 _ (t1.trans t2) s2 (.cons (r1.stp t2) r2)
def wTup (w : WA) : WE := fun τ S Q => w τ S fun xs S1 => xs.length ≤ 16777216 ∧ Q (.tup xs) S1
def wLst (w : WA) : WE := fun τ S Q => w τ S fun xs S1 => xs.length ≤ 16777216 ∧ Q (.ref S1.length) (S1 ++ [.lst xs])
theorem se_tup {es : List Expr} {w : WA} {x1} (h : SA Ts X es w) : SE Ts X (.Tuple es x1 pos) (wTup w) := by
  refine ⟨pe_imp (pe_tup h.pa) fun σ H Q q => ?_, fun τ S Q Q' h0 k => h.mo _ _ _ _ h0 fun v S1 h1 => ⟨h1.1, k _ _ h1.2⟩⟩
  obtain ⟨M, S, τ, s, st, q⟩ := q
  refine runA h.mo s st q fun v S1 M1 H1 us f t1 s1 r1 => ⟨by rw [← r1.length, sizeLine_eq]; exact f.1, (f.2.base t1).tup s1 r1⟩
theorem se_lst {es : List Expr} {w : WA} (h : SA Ts X es w) : SE Ts X (.List es pos) (wLst w) := by
  refine ⟨pe_imp (pe_lst h.pa) fun σ H Q q => ?_, fun τ S Q Q' h0 k => h.mo _ _ _ _ h0 fun v S1 h1 => ⟨h1.1, k _ _ h1.2⟩⟩
  obtain ⟨M, S, τ, s, st, q⟩ := q
  refine runA h.mo s st q fun v S1 M1 H1 us f t1 s1 r1 => ⟨by rw [← r1.length, sizeLine_eq]; exact f.1, (f.2.base t1).lst s1 r1⟩
end
end L4
set_option Elab.async false
set_option linter.all false
set_option maxRecDepth 100000
namespace L4
open PySem PySem.Spec PyProof.Rows L2 L3
section
variable {X : Cx}
def rAddW : W2
  | .int i, .int j, S, Q => Q (.int (i + j)) S
  | .str i, .str j, S, Q => i.length + j.length ≤ 16777216 ∧ Q (.str (i ++ j)) S
  | .tup xs, .tup ys, S, Q => xs.length + ys.length ≤ 16777216 ∧ Q (.tup (xs ++ ys)) S
  | .ref i, .ref j, S, Q => ∃ xs ys, S[i]? = some (.lst xs) ∧ S[j]? = some (.lst ys) ∧ xs.length + ys.length ≤ 16777216 ∧ Q (.ref S.length) (S ++ [.lst (xs ++ ys)])
  | _, _, _, _ => False
theorem s_add : S2 Ts X (binaryOp .Add) rAddW := by
  refine ⟨⟨_, opR_or op_add (opR_or op_add_str (opR_or op_catG op_cat)), fun M S H x y a b Q s rx ry h => ?_⟩, fun x y S Q Q' h k => ?_⟩
  · cases rx <;> cases ry <;> try exact False.elim h
    case int.int => exact .inl ⟨_, _, rfl, rfl, upQ.here h s (.int _)⟩
    case str.str => exact .inr (.inl ⟨_, _, rfl, rfl, by rw [sizeLine_eq]; exact h.1, h.2.here s (.str _)⟩)
    case tup.tup h1 r1 _ _ _ h2 r2 =>
      refine .inr (.inr (.inl ⟨_, _, _, _, rfl, rfl, h1, h2, by rw [sizeLine_eq, ← r1.length, ← r2.length]; exact h.1, fun e => ?_, fun _ e => ?_, fun _ _ => ?_⟩))
      · subst e; cases r1
        exact h.2.here s (.tup h2 r2)
      · subst e; cases r2
        have q := h.2
        rw [List.append_nil] at q
        exact q.here s (.tup h1 r1)
      · exact h.2.tup s (r1.append r2)
    case ref.ref i hi j hj =>
      obtain ⟨xs, ys, e1, e2, hl, q⟩ := h
      obtain ⟨us, p1, r1⟩ := s.lst e1
      obtain ⟨ws, p2, r2⟩ := s.lst e2
      exact .inr (.inr (.inr ⟨_, _, _, _, rfl, rfl, p1, p2, by rw [sizeLine_eq, ← r1.length, ← r2.length]; exact hl, q.lst s (r1.append r2)⟩))
  · cases x <;> cases y <;> try exact False.elim h
    case int.int => exact k _ _ h
    case str.str => exact ⟨h.1, k _ _ h.2⟩
    case tup.tup => exact ⟨h.1, k _ _ h.2⟩
    case ref.ref =>
      obtain ⟨xs, ys, e1, e2, hl, q⟩ := h
      exact ⟨xs, ys, e1, e2, hl, k _ _ q⟩
/-- whole numbers -/
def rIW (C : Int → Int → Prop) (g : Int → Int → PV) : W2
  | .int i, .int j, S, Q => C i j ∧ Q (g i j) S
  | _, _, _, _ => False
def rI0W (g : Int → Int → PV) : W2
  | .int i, .int j, S, Q => Q (g i j) S
  | _, _, _, _ => False
theorem s_int0b {f : Value → Value → Sem Value} {g : Int → Int → Bool} (h : OpR X f (rI0 fun i j => .bl (g i j))) : S2 Ts X f (rI0W fun i j => .bl (g i j)) := by
  refine ⟨⟨_, h, fun M S H x y a b Q s rx ry h => ?_⟩, fun x y S Q Q' h k => ?_⟩
  · cases rx <;> cases ry <;> try exact False.elim h
    exact ⟨_, _, rfl, rfl, upQ.here h s (.bl _)⟩
  · cases x <;> cases y <;> try exact False.elim h
    exact k _ _ h
theorem s_lt : S2 Ts X (compareOp .Lt) (rI0W fun i j => .bl (decide (i < j))) := s_int0b op_lt
theorem s_le : S2 Ts X (compareOp .LtE) (rI0W fun i j => .bl (decide (i ≤ j))) := s_int0b op_le
theorem s_gt : S2 Ts X (compareOp .Gt) (rI0W fun i j => .bl (decide (j < i))) := s_int0b op_gt
theorem RPs.rep {K : PySem.W.Frag} {M : Map} {n : Nat} {H : Hp} {xs : List PV} {us : List V} (r : RPs K M n H xs us) : ∀ k : Nat, RPs K M n H (List.replicate k xs).flatten (List.replicate k us).flatten
  | 0 => .nil
  | k + 1 => by rw [List.replicate_succ, List.replicate_succ, List.flatten_cons, List.flatten_cons]; exact r.append (RPs.rep r k)
theorem flat_nils {α : Type} : ∀ k : Nat, (List.replicate k ([] : List α)).flatten = []
  | 0 => rfl
  | k + 1 => by rw [List.replicate_succ, List.flatten_cons, flat_nils k]; rfl
def rMulW : W2
  | .int i, .int j, S, Q => CMul i j ∧ Q (.int (i * j)) S
  | .tup xs, .int k, S, Q => -9223372036854775808 ≤ k ∧ k < 9223372036854775808 ∧ xs.length * k.toNat ≤ 16777216 ∧ Q (.tup (List.replicate k.toNat xs).flatten) S
  | .ref i, .int k, S, Q => ∃ xs, S[i]? = some (.lst xs) ∧ -9223372036854775808 ≤ k ∧ k < 9223372036854775808 ∧ xs.length * k.toNat ≤ 16777216 ∧ Q (.ref S.length) (S ++ [.lst (List.replicate k.toNat xs).flatten])
  | _, _, _, _ => False
theorem s_mul : S2 Ts X (binaryOp .Mult) rMulW := by
  refine ⟨⟨_, opR_or op_mul (opR_or op_repT (opR_or op_rep op_repT0)), fun M S H x y a b Q s rx ry h => ?_⟩, fun x y S Q Q' h k => ?_⟩
  · cases rx <;> cases ry <;> try exact False.elim h
    case int.int => exact .inl ⟨_, _, rfl, rfl, h.1, h.2.here s (.int _)⟩
    case tup.int h1 r1 k =>
      obtain ⟨h2, h3, h4, q⟩ := h
      rename_i xs us a
      by_cases e : us = []
      · subst e
        cases r1
        refine .inr (.inr (.inr ⟨_, _, rfl, rfl, h1, by omega, by omega, ?_⟩))
        refine q.here s ?_
        rw [flat_nils]
        exact .tup h1 .nil
      refine .inr (.inl ⟨_, _, _, rfl, rfl, h1, e, by omega, by omega, by rw [sizeLine_eq, ← r1.length]; exact h4, fun z => ?_, fun z => ?_⟩)
      · subst z
        refine q.here s ?_
        simp [List.replicate]
        exact .tup h1 r1
      · exact q.tup s (r1.rep _)
    case ref.int i hi k =>
      obtain ⟨xs, e1, h2, h3, h4, q⟩ := h
      obtain ⟨us, p1, r1⟩ := s.lst e1
      exact .inr (.inr (.inl ⟨_, _, _, rfl, rfl, p1, by omega, by omega, by rw [sizeLine_eq, ← r1.length]; exact h4, q.lst s (r1.rep _)⟩))
  · cases x <;> cases y <;> try exact False.elim h
    case int.int => exact ⟨h.1, k _ _ h.2⟩
    case tup.int =>
      obtain ⟨h2, h3, h4, q⟩ := h
      exact ⟨h2, h3, h4, k _ _ q⟩
    case ref.int =>
      obtain ⟨xs, e1, h2, h3, h4, q⟩ := h
      exact ⟨xs, e1, h2, h3, h4, k _ _ q⟩
mutual
inductive DV (S : Sto) : PV → PyData → Prop
  | non : DV S .non .none
  | bl (b : Bool) : DV S (.bl b) (.bool b)
  | int (i : Int) : DV S (.int i) (.int i)
  | str (x : Str) : DV S (.str x) (.str x)
  | lst {i : Nat} {xs : List PV} {ds : List PyData} : S[i]? = some (.lst xs) → DVs S xs ds → DV S (.ref i) (.list ds)
  | tup {xs : List PV} {ds : List PyData} : DVs S xs ds → DV S (.tup xs) (.tuple ds)
inductive DVs (S : Sto) : List PV → List PyData → Prop
  | nil : DVs S [] []
  | cons {v : PV} {vs : List PV} {d : PyData} {ds : List PyData} : DV S v d → DVs S vs ds → DVs S (v :: vs) (d :: ds)
end
section
variable {K : PySem.W.Frag} {M : Map} {S : Sto} {H : Hp}
mutual
theorem DV.dp (s : Sim Ts K M S H) : ∀ {x : PV} {d : PyData} {a : V}, DV S x d → RP K M S.length H x a → Dp K H a d
  | _, _, _, .non, r => by cases r; exact .non
  | _, _, _, .bl b, r => by cases r; exact .bl b
  | _, _, _, .int b, r => by cases r; exact .int b
  | _, _, _, .str b, r => by cases r; exact .str b
  | _, _, _, .lst e h, r => by
    cases r
    obtain ⟨us, p1, r1⟩ := s.lst e
    exact .lst (SqL.of p1) (DVs.dp s h r1)
  | _, _, _, .tup h, r => by
    cases r with
    | tup h1 r1 => exact .tup h1 (DVs.dp s h r1)
theorem DVs.dp (s : Sim Ts K M S H) : ∀ {x : List PV} {d : List PyData} {a : List V}, DVs S x d → RPs K M S.length H x a → DpAll K H a d
  | _, _, _, .nil, r => by cases r; exact .nil
  | _, _, _, .cons h1 h2, r => by
    cases r with
    | cons r1 r2 => exact .cons (DV.dp s h1 r1) (DVs.dp s h2 r2)
end
end
def rEqW (neg : Bool) : W2
  | .int i, .int j, S, Q => Q (.bl (neg ^^ decide (i = j))) S
  | .bl i, .bl j, S, Q => Q (.bl (neg ^^ decide (i = j))) S
  | .str i, .str j, S, Q => Q (.bl (neg ^^ decide (i = j))) S
  | x, y, S, Q => ∃ d e, DV S x d ∧ DV S y e ∧ SeqAt.shaped d = true ∧ SeqAt.shaped e = true ∧ Q (.bl (neg ^^ PyData.eqv d e)) S
theorem mo_eq (neg : Bool) : Mo2 (rEqW neg) := fun x y S Q Q' h k => by
  cases x <;> cases y <;> first
    | exact k _ _ h
    | exact (let ⟨d, e, h1, h2, h3, h4, q⟩ := h; ⟨d, e, h1, h2, h3, h4, k _ _ q⟩)
theorem s_eq (hu : X.A.units + 64 < cLine) : S2 Ts X (compareOp .Eq) (rEqW false) := by
  refine ⟨⟨_, opR_or op_eq (op_eqD hu), fun M S H x y a b Q s rx ry h => ?_⟩, mo_eq _⟩
  have D : (∃ d e, DV S x d ∧ DV S y e ∧ SeqAt.shaped d = true ∧ SeqAt.shaped e = true ∧ upQ Ts X.K M S.length H Q (.bl (false ^^ PyData.eqv d e)) S) → rEq a b H Q ∨ rEqD X.K a b H Q := fun ⟨d, e, h1, h2, h3, h4, q⟩ =>
    .inr ⟨d, e, h1.dp s rx, h2.dp s ry, h3, h4, by have := upQ.here q s (.bl _); simpa using this⟩
  cases rx <;> cases ry <;> first
    | exact D h
    | exact .inl ⟨rfl, by have := upQ.here h s (.bl _); simpa [rEqW] using this⟩
theorem s_ne (hu : X.A.units + 64 < cLine) : S2 Ts X (compareOp .NotEq) (rEqW true) := by
  refine ⟨⟨_, opR_or op_ne (op_neD hu), fun M S H x y a b Q s rx ry h => ?_⟩, mo_eq _⟩
  have D : (∃ d e, DV S x d ∧ DV S y e ∧ SeqAt.shaped d = true ∧ SeqAt.shaped e = true ∧ upQ Ts X.K M S.length H Q (.bl (true ^^ PyData.eqv d e)) S) → rNe a b H Q ∨ rNeD X.K a b H Q := fun ⟨d, e, h1, h2, h3, h4, q⟩ =>
    .inr ⟨d, e, h1.dp s rx, h2.dp s ry, h3, h4, by have := upQ.here q s (.bl _); simpa using this⟩
  cases rx <;> cases ry <;> first
    | exact D h
    | exact .inl ⟨rfl, by have := upQ.here h s (.bl _); simpa [rEqW] using this⟩
def isNonP : PV → Bool
  | .non => true
  | _ => false
def rIsW (neg : Bool) : W2
  | x, .non, S, Q => Q (.bl (neg ^^ isNonP x)) S
  | .bl i, .bl j, S, Q => Q (.bl (neg ^^ (i == j))) S
  | _, _, _, _ => False
def flatP : PV → Bool
  | .non => true
  | .bl _ => true
  | .int _ => true
  | .str _ => true
  | _ => false
def flV : PV → V
  | .non => .non
  | .bl b => .bl b
  | .int i => .int i
  | .str x => .str x
  | _ => .non
theorem flat_rp {K : PySem.W.Frag} {M : Map} {n : Nat} {H : Hp} {x : PV} {u : V} (r : RP K M n H x u) (h : flatP x = true) : u = flV x ∧ flatV u = true := by
  cases r <;> first | exact ⟨rfl, rfl⟩ | cases h
theorem flat_rps {K : PySem.W.Frag} {M : Map} {n : Nat} {H : Hp} : ∀ {x : List PV} {u : List V}, RPs K M n H x u → x.all flatP = true → u = x.map flV ∧ u.all flatV = true
  | _, _, .nil, _ => ⟨rfl, rfl⟩
  | _, _, .cons r t, h => by
    rw [List.all_cons, Bool.and_eq_true] at h
    obtain ⟨e, f⟩ := flat_rp r h.1
    obtain ⟨es, fs⟩ := flat_rps t h.2
    refine ⟨by rw [List.map_cons, ← e, ← es], ?_⟩
    rw [List.all_cons, f, fs]; rfl
def inP (x : PV) (xs : List PV) : Bool := inV (flV x) (xs.map flV)
def keyW : PV → Option Key
  | .int i => some (.inl i)
  | .str x => some (.inr x)
  | _ => none
def valP {κ : Type} [DecidableEq κ] (kvs : List (κ × PV)) (k : κ) : Option PV := (kvs.find? fun kv => decide (kv.1 = k)).map (·.2)
theorem KR.val {κ : Type} [DecidableEq κ] {K : PySem.W.Frag} {M : Map} {n : Nat} {H : Hp} (k : κ) : ∀ {v : List (κ × PV)} {u : List (κ × V)}, KR K M n H v u → (valP v k = none ∧ valV u k = none) ∨ ∃ x y, valP v k = some x ∧ valV u k = some y ∧ RP K M n H x y
  | _, _, .nil => .inl ⟨rfl, rfl⟩
  | _, _, .cons (k := j) (xs := xs) (us := us) r t => by
    by_cases e : j = k
    · refine .inr ⟨_, _, ?_, ?_, r⟩
      · simp [valP, e]
      · simp [valV, e]
    · have h1 : ∀ z : PV, valP ((j, z) :: xs) k = valP xs k := fun z => by simp [valP, e]
      have h2 : ∀ z : V, valV ((j, z) :: us) k = valV us k := fun z => by simp [valV, e]
      rw [h1, h2]
      exact KR.val k t
theorem key_rp {K : PySem.W.Frag} {M : Map} {n : Nat} {H : Hp} {x : PV} {u : V} {k : Key} (r : RP K M n H x u) (h : keyW x = some k) : u = kV k := by
  cases r <;> first | (cases h; rfl) | cases h
theorem op_din (hu : X.A.units + 1 < cLine) : OpR X (compareOp .In) (fun y x H Q => ∃ a o, x = .ref a ∧ DGet H a y o ∧ Q (.bl o.isSome) H) := by
  intro pins s σ H y x v u Q I ry rx ⟨a, ov, ex, g, q⟩
  subst ex
  obtain rfl : u = Value.ref a := rx
  exact d_in hu I g ry fun s3 I3 => ⟨.bl ov.isSome, H, I3, rfl, q⟩
/-- x in y: a sequence of flat things, a dict, a text -/
def rInW (neg : Bool) : W2 := fun x y S Q => (∃ k xs, seqW S y = some (k, xs) ∧ flatP x = true ∧ xs.all flatP = true ∧ Q (.bl (neg ^^ inP x xs)) S) ∨
  (∃ i kvs k, y = .ref i ∧ S[i]? = some (.dct kvs) ∧ keyW x = some k ∧ Q (.bl (neg ^^ (valP kvs k).isSome)) S) ∨
  ∃ a b, x = .str a ∧ y = .str b ∧ Q (.bl (neg ^^ !(Builtin.Str.occurrences b a 0 b.length 1).isEmpty)) S
theorem mo_in (neg : Bool) : Mo2 (rInW neg) := fun x y S Q Q' h k => by
  rcases h with ⟨b, xs, h1, h2, h3, q⟩ | ⟨i, kvs, c, h1, h2, h3, q⟩ | ⟨a, b, h1, h2, q⟩
  · exact .inl ⟨b, xs, h1, h2, h3, k _ _ q⟩
  · exact .inr (.inl ⟨i, kvs, c, h1, h2, h3, k _ _ q⟩)
  · exact .inr (.inr ⟨a, b, h1, h2, k _ _ q⟩)
theorem s_in (hu : X.A.units + 1 < cLine) : S2 Ts X (compareOp .In) (rInW false) := by
  refine ⟨⟨_, opR_or op_in_seq (opR_or (op_din hu) op_in_str), fun M S H x y a b Q s rx ry h => ?_⟩, mo_in _⟩
  rcases h with ⟨k, xs, h1, h2, h3, q⟩ | ⟨i, kvs, c, rfl, h2, h3, q⟩ | ⟨i, j, rfl, rfl, q⟩
  · obtain ⟨p, us, rfl, h4, r4⟩ := s.seq h1 ry
    obtain ⟨e1, f1⟩ := flat_rp rx h2
    obtain ⟨e2, f2⟩ := flat_rps r4 h3
    refine .inl ⟨p, us, rfl, ?_, f1, f2, ?_⟩
    · cases k
      · exact .inl h4
      · exact .inr h4
    · have := upQ.here q s (.bl _)
      rw [e1, e2]
      simpa [inP] using this
  · cases ry
    obtain ⟨us, p1, r1⟩ := s.dct h2
    obtain rfl := key_rp rx h3
    refine .inr (.inl ⟨_, _, rfl, DGet.k p1, ?_⟩)
    have := upQ.here q s (.bl _)
    rcases r1.val c with ⟨e1, e2⟩ | ⟨v, u, e1, e2, _⟩
    · rw [e1] at this; rw [e2]; simpa using this
    · rw [e1] at this; rw [e2]; simpa using this
  · cases rx; cases ry
    refine .inr (.inr ⟨_, _, rfl, rfl, ?_⟩)
    have := upQ.here q s (.bl _)
    simpa using this
end
end L4
set_option Elab.async false
set_option linter.all false
set_option maxRecDepth 100000
namespace L4
open PySem PySem.Spec PyProof.Rows L2 L3
section
variable {X : Cx} {a b c e : Expr} {wa wb wc : WE} {pos : Pos}
theorem atI_rp {K : PySem.W.Frag} {M : Map} {n : Nat} {H : Hp} {xs : List PV} {us : List V} {i : Int} {v : PV} (r : RPs K M n H xs us) (h : atI xs i = some v) : ∃ u, atI us i = some u ∧ RP K M n H v u := by
  unfold atI at h ⊢
  rw [← r.length]
  cases q : ixN xs.length i with
  | none => rw [q] at h; cases h
  | some j =>
    rw [q] at h
    exact r.get h
theorem ix_dict (hu : X.A.units + 1 < cLine) : IxR X (fun x y H Q => ∃ a v, x = .ref a ∧ DGet H a y (some v) ∧ Q v H) := by
  intro value slice pins s σ H x y v u Q I rx ry h hs
  obtain ⟨a, w, rfl, g, q⟩ := h
  obtain rfl : v = Value.ref a := rx
  have hT := dict_typeIs I g
  unfold subscriptTail
  refine wpAny_bind ?_
  rw [getitemInPython_of_ne hT.not_modules]
  refine wpAny_bind (wpAny_specialOf hT PySem.F.slot_dict_getitem.lookup ?_)
  have fin : wpAny (model X.prog X.w) X.A (subscripted slice false (.ref a) u) (fun r s₃ => wpAny (model X.prog X.w) X.A (letTemporaryGo value (.ref a) r >>= fun _ => pure r) (EP X pins σ Q) X.xe s₃) X.xe s := by
    rw [hs]
    exact wpAny_operating (wpAny_mono (d_getItem hu I g ry fun w' s3 I3 rw' => (⟨w, H, I3, rw', q⟩ : EP X pins σ Q w' s3)) (fun r s₃ h₃ => wpAny_bind (wpAny_letTemporaryGo (wpAny_pure h₃))) fun _ _ x => x)
  first
    | exact wpAny_pure (wpAny_bind fin)
    | exact wpAny_bind (wpAny_pure (wpAny_bind fin))
    | exact wpAny_bind fin
def rIxW : W2 := fun x y S Q => (∃ k xs i v, seqW S x = some (k, xs) ∧ y = .int i ∧ atI xs i = some v ∧ Q v S) ∨ (∃ i kvs k v, x = .ref i ∧ S[i]? = some (.dct kvs) ∧ keyW y = some k ∧ valP kvs k = some v ∧ Q v S) ∨
  ∃ z i c, x = .str z ∧ y = .int i ∧ z.length ≤ 16777216 ∧ atI z.cps.toList i = some c ∧ Q (.str ⟨#[c]⟩) S
theorem mo_ix : Mo2 rIxW := fun x y S Q Q' h k => by
  rcases h with ⟨b, xs, i, v, h1, h2, h3, q⟩ | ⟨i, kvs, c, v, h1, h2, h3, h4, q⟩ | ⟨z, i, c, h1, h2, h3, h4, q⟩
  · exact .inl ⟨b, xs, i, v, h1, h2, h3, k _ _ q⟩
  · exact .inr (.inl ⟨i, kvs, c, v, h1, h2, h3, h4, k _ _ q⟩)
  · exact .inr (.inr ⟨z, i, c, h1, h2, h3, h4, k _ _ q⟩)
theorem se_ix (hu : X.A.units + 1 < cLine) (ha : SE Ts X a wa) (hb : SE Ts X b wb) (hs : PlainIx b) : SE Ts X (.Subscript a b pos) (wOp rIxW wa wb) := by
  refine ⟨pe_imp (pe_ix (ix_seq.or (ix_dict hu)) ha.pe hb.pe hs) fun σ H Q h => op_bind (fun M S H x y a b Q s rx ry h => ?_) mo_ix ha.mo hb.mo h, mo_op mo_ix ha.mo hb.mo⟩
  rcases h with ⟨k, xs, i, v, h1, rfl, h3, q⟩ | ⟨i, kvs, c, v, rfl, h2, h3, h4, q⟩ | ⟨z, i, c, rfl, rfl, h3, h4, q⟩
  · obtain ⟨p, us, rfl, h4, r4⟩ := s.seq h1 rx
    cases ry
    obtain ⟨u, h5, r5⟩ := atI_rp r4 h3
    cases k
    · exact .inl (.inl ⟨p, us, i, u, rfl, rfl, h4, h5, q.here s r5⟩)
    · exact .inl (.inr (.inl ⟨p, us, i, u, rfl, rfl, h4, h5, q.here s r5⟩))
  · cases rx
    obtain ⟨us, p1, r1⟩ := s.dct h2
    obtain rfl := key_rp ry h3
    rcases r1.val c with ⟨e1, e2⟩ | ⟨x, u, e1, e2, r2⟩
    · rw [h4] at e1; cases e1
    · rw [h4] at e1; cases e1
      exact .inr ⟨_, u, rfl, by rw [← e2]; exact DGet.k p1, q.here s r2⟩
  · cases rx; cases ry
    exact .inl (.inr (.inr ⟨z, i, c, rfl, rfl, by rw [sizeLine_eq]; exact h3, h4, q.here s (.str _)⟩))
abbrev WO := Ev → Sto → (Option Int → Sto → Prop) → Prop
def wNoPart : WO := fun _ S Q => Q none S
def wPart (w : WE) : WO := fun τ S Q => w τ S fun x S1 => ∃ i, x = .int i ∧ Q (some i) S1
def cutP {α : Type} (xs : List α) (lo hi : Option Int) : List α := (xs.drop (HT.sIx xs.length 0 lo)).take (HT.sIx xs.length xs.length hi - HT.sIx xs.length 0 lo)
/-- x[lo:hi]: of a tuple, of a list, of a text -/
def rSlW (x : PV) (lo hi : Option Int) (S : Sto) (Q : WQ) : Prop := (∃ xs, x = .tup xs ∧ Q (.tup (cutP xs lo hi)) S) ∨ ∃ xs, seqW S x = some (false, xs) ∧ Q (.ref S.length) (S ++ [.lst (cutP xs lo hi)])
def wSl (we : WE) (wl wh : WO) : WE := fun τ S Q => we τ S fun x S1 => wl τ S1 fun l S2 => wh τ S2 fun h S3 => rSlW x l h S3 Q
abbrev WC := List PV → Sto → WQ → Prop
structure SC (Ts : List Addr) (X : Cx) (f : Value) (r : WC) : Prop where
  ex : ∃ R, CallR X f R ∧ ∀ (M : Map) (S : Sto) (H : Hp) (xs : List PV) (us : List V) (Q : VK), Sim Ts X.K M S H → RPs X.K M S.length H xs us → r xs S (upQ Ts X.K M S.length H Q) → R us H Q
  mo : ∀ (xs : List PV) (S : Sto) (Q Q' : WQ), r xs S Q → (∀ v S', Q v S' → Q' v S') → r xs S Q'
def wCall (r : WC) (w : WA) : WE := fun τ S Q => w τ S fun xs S1 => r xs S1 Q
theorem callR_or {f : Value} {r r' : List V → Hp → VK → Prop} (h : CallR X f r) (h' : CallR X f r') : CallR X f (fun xs H Q => r xs H Q ∨ r' xs H Q) := fun pins s σ H x v Q I rx q => q.elim (h pins s σ H x v Q I rx) (h' pins s σ H x v Q I rx)
theorem call_bind {R : List V → Hp → VK → Prop} {r : WC} {w : WA} (hs : ∀ (M : Map) (S : Sto) (H : Hp) (xs : List PV) (us : List V) (Q : VK), Sim Ts X.K M S H → RPs X.K M S.length H xs us → r xs S (upQ Ts X.K M S.length H Q) → R us H Q)
    (hm : ∀ (xs : List PV) (S : Sto) (Q Q' : WQ), r xs S Q → (∀ v S', Q v S' → Q' v S') → r xs S Q') (ha : MoA w) {σ : L2.St} {H : Hp} {Q : VK} (h : upE Ts X.K (wCall r w) σ H Q) : tCB R (upA Ts X.K w) σ H Q := by
  obtain ⟨M, S, τ, s, st, h⟩ := h
  refine runA ha s st h fun v S1 M1 H1 u f t1 s1 r1 => hs M1 S1 H1 v u Q s1 r1 (hm _ _ _ _ f fun w S3 h3 => h3.base t1)
theorem mo_call {r : WC} {w : WA} (hm : ∀ (xs : List PV) (S : Sto) (Q Q' : WQ), r xs S Q → (∀ v S', Q v S' → Q' v S') → r xs S Q') (ha : MoA w) : MoE (wCall r w) := fun τ S Q Q' q k => ha _ _ _ _ q fun v S1 q => hm _ _ _ _ q k
theorem se_callB {id : String} {r : WC} {x : Str} {es : List Expr} {w : WA} {p : Pos} (hc : SC Ts X (.builtin id) r) (hg : Gl X x) (hm : X.mg x = none) (hv : bootBuiltins x = some (.builtin id)) (ha : SA Ts X (e :: es) w) (hn : x ≠ "__name__" := by decide) (hdb : (x == ("__debug__" : Str)) = false := by decide)
    (he : starEach (e :: es) X.env = (false, eval e X.env) :: starEach es X.env := by rfl) (hpl : (backTo pos (starEach es X.env)).any (·.1) = false := by rfl) : SE Ts X (.Call (.Name x p) (e :: es) [] pos) (wCall r w) :=
  let ⟨_, o, s⟩ := hc.ex
  ⟨pe_imp (pe_callB o hg hm hv ha.pa hn hdb he hpl) fun _ _ _ h => call_bind s hc.mo ha.mo h, mo_call hc.mo ha.mo⟩
theorem se_callTy {T : String} {r : WC} {x : Str} {es : List Expr} {w : WA} {p : Pos} (hc : SC Ts X (.type T) r) (hg : Gl X x) (hm : X.mg x = none) (hv : bootBuiltins x = some (.type T)) (ha : SA Ts X (e :: es) w) (hn : x ≠ "__name__" := by decide) (hdb : (x == ("__debug__" : Str)) = false := by decide)
    (he : starEach (e :: es) X.env = (false, eval e X.env) :: starEach es X.env := by rfl) (hpl : (backTo pos (starEach es X.env)).any (·.1) = false := by rfl) : SE Ts X (.Call (.Name x p) (e :: es) [] pos) (wCall r w) :=
  let ⟨_, o, s⟩ := hc.ex
  ⟨pe_imp (pe_callTy o hg hm hv ha.pa hn hdb he hpl) fun _ _ _ h => call_bind s hc.mo ha.mo h, mo_call hc.mo ha.mo⟩
theorem RPs.one {K : PySem.W.Frag} {M : Map} {n : Nat} {H : Hp} {x : PV} {us : List V} (r : RPs K M n H [x] us) : ∃ u, us = [u] ∧ RP K M n H x u := by
  cases r with
  | cons r t => cases t; exact ⟨_, rfl, r⟩
theorem RPs.two {K : PySem.W.Frag} {M : Map} {n : Nat} {H : Hp} {x y : PV} {us : List V} (r : RPs K M n H [x, y] us) : ∃ u v, us = [u, v] ∧ RP K M n H x u ∧ RP K M n H y v := by
  cases r with
  | cons r t =>
    cases t with
    | cons r2 t => cases t; exact ⟨_, _, rfl, r, r2⟩
/-- len -/
def rLenW : WC := fun xs S Q => ∃ x, xs = [x] ∧ ((∃ k ys, seqW S x = some (k, ys) ∧ Q (.int ys.length) S) ∨ (∃ z, x = .str z ∧ z.length ≤ 16777216 ∧ Q (.int z.length) S) ∨ ∃ i kvs, x = .ref i ∧ S[i]? = some (.dct kvs) ∧ Q (.int kvs.length) S)
theorem KR.length {κ : Type} {K : PySem.W.Frag} {M : Map} {n : Nat} {H : Hp} : ∀ {v : List (κ × PV)} {u : List (κ × V)}, KR K M n H v u → v.length = u.length
  | _, _, .nil => rfl
  | _, _, .cons _ t => by rw [List.length_cons, List.length_cons, KR.length t]
theorem c_len : SC Ts X (.builtin "len") rLenW := by
  refine ⟨⟨_, callR_or call_len_seq (callR_or call_len_str call_lenD), fun M S H xs us Q s r h => ?_⟩, fun xs S Q Q' h k => ?_⟩
  · obtain ⟨x, rfl, h⟩ := h
    obtain ⟨u, rfl, r0⟩ := r.one
    rcases h with ⟨k, ys, h1, q⟩ | ⟨z, rfl, h1, q⟩ | ⟨i, kvs, rfl, h1, q⟩
    · obtain ⟨p, us, rfl, h4, r4⟩ := s.seq h1 r0
      refine .inl ⟨p, us, rfl, ?_, ?_⟩
      · cases k
        · exact .inl h4
        · exact .inr h4
      · rw [← r4.length]; exact q.here s (.int _)
    · cases r0
      exact .inr (.inl ⟨z, rfl, by rw [sizeLine_eq]; exact h1, q.here s (.int _)⟩)
    · cases r0
      obtain ⟨us, p1, r1⟩ := s.dct h1
      exact .inr (.inr ⟨_, us, rfl, p1, by rw [← r1.length]; exact q.here s (.int _)⟩)
  · obtain ⟨x, rfl, h⟩ := h
    rcases h with ⟨b, ys, h1, q⟩ | ⟨z, rfl, h1, q⟩ | ⟨i, kvs, rfl, h1, q⟩
    · exact ⟨x, rfl, .inl ⟨b, ys, h1, k _ _ q⟩⟩
    · exact ⟨_, rfl, .inr (.inl ⟨z, rfl, h1, k _ _ q⟩)⟩
    · exact ⟨_, rfl, .inr (.inr ⟨i, kvs, rfl, h1, k _ _ q⟩)⟩
/-- list(xs), tuple(xs) -/
def rListW : WC := fun xs S Q => ∃ x k ys, xs = [x] ∧ seqW S x = some (k, ys) ∧ Q (.ref S.length) (S ++ [.lst ys])
def rTupleW : WC := fun xs S Q => ∃ x k ys, xs = [x] ∧ seqW S x = some (k, ys) ∧ Q (.tup ys) S
theorem c_tuple : SC Ts X (.type "tuple") rTupleW := by
  refine ⟨⟨_, call_tuple_of, fun M S H xs us Q s r h => ?_⟩, fun xs S Q Q' ⟨x, b, ys, e, h, q⟩ k => ⟨x, b, ys, e, h, k _ _ q⟩⟩
  obtain ⟨x, k, ys, rfl, h1, q⟩ := h
  obtain ⟨u, rfl, r0⟩ := r.one
  cases k
  · obtain ⟨p, us, rfl, h4, r4⟩ := s.seq h1 r0
    exact ⟨p, us, rfl, .inl ⟨h4, q.tup s r4⟩⟩
  · obtain ⟨p, us, rfl, h4, r4⟩ := s.seq h1 r0
    exact ⟨p, us, rfl, .inr ⟨h4, q.here s (.tup h4 r4)⟩⟩
/-- int(x) of a number or a truth -/
def rIntW : WC := fun xs S Q => match xs with
  | [.int i] => Q (.int i) S
  | [.bl b] => Q (.int (if b then 1 else 0)) S
  | _ => False
/-- max(i, j), min(i, j) -/
def rMax2W : WC := fun xs S Q => match xs with
  | [.int i, .int j] => Q (.int (if j > i then j else i)) S
  | _ => False
def rMin2W : WC := fun xs S Q => match xs with
  | [.int i, .int j] => Q (.int (if j < i then j else i)) S
  | _ => False
theorem c_max2 (hc : X.calm = true) : SC Ts X (.builtin "max") rMax2W := by
  refine ⟨⟨_, call_max2 hc, fun M S H xs us Q s r h => ?_⟩, fun xs S Q Q' h k => ?_⟩
  · unfold rMax2W at h
    split at h
    · obtain ⟨u, v, rfl, r1, r2⟩ := r.two; cases r1; cases r2; exact ⟨_, _, rfl, upQ.here h s (.int _)⟩
    · exact h.elim
  · unfold rMax2W at h ⊢
    split at h
    · exact k _ _ h
    · exact h.elim
def rMaxW : WC := fun xs S Q => ∃ (x : PV) (k : Bool) (ns : List Int), xs = [x] ∧ seqW S x = some (k, ns.map PV.int) ∧ 0 < ns.length ∧ ∀ m, m ∈ ns → (∀ y, y ∈ ns → y ≤ m) → Q (.int m) S
theorem c_max (hc : X.calm = true) : SC Ts X (.builtin "max") rMaxW := by
  refine ⟨⟨_, callR_or (cr_max hc) (cr_maxT hc), fun M S H xs us Q s r h => ?_⟩, fun xs S Q Q' ⟨x, b, ns, e, h, l, q⟩ k => ⟨x, b, ns, e, h, l, fun m h1 h2 => k _ _ (q m h1 h2)⟩⟩
  obtain ⟨x, k, ns, rfl, h1, l, q⟩ := h
  obtain ⟨u, rfl, r0⟩ := r.one
  obtain ⟨p, us, rfl, h4, r4⟩ := s.seq h1 r0
  have e := r4.of_ints
  subst e
  cases k
  · exact .inl ⟨p, ns, rfl, h4, l, fun m h1 h2 => (q m h1 h2).here s (.int _)⟩
  · exact .inr ⟨p, ns, rfl, h4, l, fun m h1 h2 => (q m h1 h2).here s (.int _)⟩
end
end L4
set_option Elab.async false
set_option linter.all false
set_option maxRecDepth 100000
namespace L4
open PySem PySem.Spec PyProof.Rows L2 L3
section
variable {X : Cx} {a b c e o : Expr} {wa wb wc wo : WE} {pos : Pos}
abbrev WM := PV → List PV → Sto → WQ → Prop
structure SM (Ts : List Addr) (X : Cx) (id : String) (r : WM) : Prop where
  ex : ∃ R, MtR X id R ∧ ∀ (M : Map) (S : Sto) (H : Hp) (x : PV) (xs : List PV) (u : V) (us : List V) (Q : VK), Sim Ts X.K M S H → RP X.K M S.length H x u → RPs X.K M S.length H xs us → r x xs S (upQ Ts X.K M S.length H Q) → R u us H Q
  mo : ∀ (x : PV) (xs : List PV) (S : Sto) (Q Q' : WQ), r x xs S Q → (∀ v S', Q v S' → Q' v S') → r x xs S Q'
def tyW (S : Sto) (T : String) (x : PV) : Prop := (T = "list" ∧ ∃ ys, seqW S x = some (false, ys)) ∨ (T = "str" ∧ ∃ z, x = .str z) ∨ (T = "dict" ∧ ∃ i kvs, x = .ref i ∧ S[i]? = some (.dct kvs)) ∨ (T = "tuple" ∧ ∃ ys, x = .tup ys)
theorem ty_rp {K : PySem.W.Frag} {M : Map} {S : Sto} {H : Hp} {T : String} {x : PV} {u : V} (s : Sim Ts K M S H) (r : RP K M S.length H x u) (h : tyW S T x) : tyV K T u H := by
  rcases h with ⟨rfl, ys, h⟩ | ⟨rfl, z, rfl⟩ | ⟨rfl, i, kvs, rfl, h⟩ | ⟨rfl, ys, rfl⟩
  · obtain ⟨p, us, rfl, h4, r4⟩ := s.seq h r
    exact .inl ⟨rfl, us, h4⟩
  · cases r; exact rfl
  · cases r
    obtain ⟨us, p1, _⟩ := s.dct h
    exact .inr (.inr (.inl ⟨rfl, .inl ⟨us, p1⟩⟩))
  · obtain ⟨p, us, rfl, h4, r4⟩ := s.seq rfl r
    exact .inr (.inl ⟨rfl, us, h4⟩)
def wMeth (T : String) (r : WM) (wo : WE) (w : WA) : WE := fun τ S Q => wo τ S fun x S1 => tyW S1 T x ∧ w τ S1 fun xs S2 => r x xs S2 Q
theorem mo_meth {T : String} {r : WM} {w : WA} (hm : ∀ (x : PV) (xs : List PV) (S : Sto) (Q Q' : WQ), r x xs S Q → (∀ v S', Q v S' → Q' v S') → r x xs S Q') (ho : MoE wo) (ha : MoA w) : MoE (wMeth T r wo w) := fun τ S Q Q' q k => ho _ _ _ _ q fun v S1 q => ⟨q.1, ha _ _ _ _ q.2 fun xs S2 q => hm _ _ _ _ _ q k⟩
theorem se_bm {T id : String} {name : Str} {r : WM} {es : List Expr} {w : WA} {apos cpos : Pos} (pa : PlainAttrs T) (slot : Slot T name id) (hty : typeOf (.builtin id) = pure (.type "method_descriptor")) (hm : SM Ts X id r) (ho : SE Ts X o wo) (ha : SA Ts X (e :: es) w)
    (hbase : attributeBase o name X.env (eval o X.env) = eval o X.env := by rfl)
    (hfew : ((backTo cpos (starEach (e :: es) X.env)).all (fun x => !x.1) && (backToKw cpos (keywordEach [] X.env)).all (fun x => x.1.isSome)
      && decide ((e :: es).length + ([] : List Keyword).length + (if ([] : List Keyword).isEmpty then 0 else 1) < 30)) = true := by rfl)
    (hline : (apos.endLine == cpos.line) = true := by rfl) (hs : starEach (e :: es) X.env = (false, eval e X.env) :: starEach es X.env := by rfl) (hplain : (backTo cpos (starEach es X.env)).any (·.1) = false := by rfl) :
    SE Ts X (.Call (.Attribute o name apos) (e :: es) [] cpos) (wMeth T r wo w) := by
  obtain ⟨R, m, s⟩ := hm.ex
  refine ⟨pe_imp (pe_bm pa slot hty m ho.pe ha.pa hbase hfew hline hs hplain) fun σ H Q h => ?_, mo_meth hm.mo ho.mo ha.mo⟩
  obtain ⟨M, S, τ, s0, st, h⟩ := h
  refine runE ho.mo s0 st h fun v S1 M1 H1 u f t1 s1 r1 => ⟨ty_rp s1 r1 f.1, ?_⟩
  exact runA ha.mo s1 (st.stp t1) f.2 fun d S2 M2 H2 us f2 t2 s2 r2 => s M2 S2 H2 v d u us Q s2 (r1.stp t2) r2 (hm.mo _ _ _ _ _ f2 fun w S3 h3 => h3.base (t1.trans t2))
def rAppendW : WM := fun x xs S Q => ∃ i y ys, x = .ref i ∧ xs = [y] ∧ S[i]? = some (.lst ys) ∧ ys.length < 16777216 ∧ Q .non (S.set i (.lst (ys ++ [y])))
theorem m_append : SM Ts X "list.append" rAppendW := by
  refine ⟨⟨_, mt_append, fun M S H x xs u us Q s r rs h => ?_⟩, fun x xs S Q Q' ⟨i, y, ys, h1, h2, h3, h4, q⟩ k => ⟨i, y, ys, h1, h2, h3, h4, k _ _ q⟩⟩
  obtain ⟨i, y, ys, rfl, rfl, h3, h4, q⟩ := h
  cases r
  obtain ⟨v, rfl, r1⟩ := rs.one
  obtain ⟨ws, p1, r2⟩ := s.lst h3
  exact ⟨_, ws, v, rfl, rfl, p1, by rw [sizeLine_eq, ← r2.length]; exact h4, q.put s h3 (r2.append (.cons r1 .nil)) .non⟩
theorem RPs.dropLast {K : PySem.W.Frag} {M : Map} {n : Nat} {H : Hp} {xs : List PV} {us : List V} (r : RPs K M n H xs us) : RPs K M n H xs.dropLast us.dropLast := by
  rw [List.dropLast_eq_take, List.dropLast_eq_take, r.length]
  exact r.take _
theorem RPs.eraseIdx {K : PySem.W.Frag} {M : Map} {n : Nat} {H : Hp} {xs : List PV} {us : List V} (r : RPs K M n H xs us) (k : Nat) : RPs K M n H (xs.eraseIdx k) (us.eraseIdx k) := by
  rw [List.eraseIdx_eq_take_drop_succ, List.eraseIdx_eq_take_drop_succ]
  exact (r.take _).append (r.drop _)
def tyP (S : Sto) : PV → Option String
  | .non => some "NoneType"
  | .bl _ => some "bool"
  | .int _ => some "int"
  | .str _ => some "str"
  | .tup _ => some "tuple"
  | .scr _ => some "list"
  | .ref i => match S[i]? with
    | some (.lst _) => some "list"
    | some (.dct _) => some "dict"
    | _ => none
  | _ => none
def isiB (t n : String) : Option Bool :=
  if n = "int" then some (t == "int" || t == "bool") else if n = "bool" then some (t == "bool") else if n = "str" then some (t == "str") else if n = "list" then some (t == "list") else if n = "tuple" then some (t == "tuple") else if n = "dict" then some (t == "dict") else none
def rIsiW : WC := fun xs S Q => ∃ x n t b, xs = [x, .ty n] ∧ tyP S x = some t ∧ isiB t n = some b ∧ Q (.bl b) S
def uptoP (n : Nat) : List PV := (List.range n).map fun (i : Nat) => PV.int (i : Int)
def wRngL (w : WE) : WE := fun τ S Q => w τ S fun x S1 => ∃ j, x = .int j ∧ 0 ≤ j ∧ j ≤ 65536 ∧ Q (.ref S1.length) (S1 ++ [.lst (uptoP j.toNat)])
def wRngT (w : WE) : WE := fun τ S Q => w τ S fun x S1 => ∃ j, x = .int j ∧ 0 ≤ j ∧ j ≤ 65536 ∧ Q (.tup (uptoP j.toNat)) S1
def wNeg (w : WE) : WE := fun τ S Q => w τ S fun x S1 => ∃ i, x = .int i ∧ Q (.int (-i)) S1
def wChain (r r' : W2) (wa wb wc : WE) : WE := fun τ S Q => wa τ S fun x S1 => wb τ S1 fun y S2 => r x y S2 fun z S3 => ∃ k, z = .bl k ∧ if k = true then wc τ S3 fun v S4 => r' y v S4 Q else Q (.bl false) S3
end
end L4
set_option Elab.async false
set_option linter.all false
set_option maxRecDepth 100000
namespace L4
open PySem PySem.Spec PyProof.Rows L2 L3
section
variable {X : Cx} {a b c e o : Expr} {wa wb wc wo : WE} {pos : Pos}
theorem mo_chain {r r' : W2} (h : Mo2 r) (h' : Mo2 r') (ha : MoE wa) (hb : MoE wb) (hc : MoE wc) : MoE (wChain r r' wa wb wc) := fun τ S Q Q' q k => ha _ _ _ _ q fun x S1 q => hb _ _ _ _ q fun y S2 q => h _ _ _ _ _ q fun z S3 ⟨b, e, q⟩ => ⟨b, e, ite_imp q (fun q => hc _ _ _ _ q fun v S4 q => h' _ _ _ _ _ q k) fun q => k _ _ q⟩
theorem chain_bind {K : PySem.W.Frag} {R R' : R2} {r r' : W2} (hs : Snd2 Ts K R r) (hs' : Snd2 Ts K R' r') (h : Mo2 r) (h' : Mo2 r') (ha : MoE wa) (hb : MoE wb) (hc : MoE wc) {σ : L2.St} {H : Hp} {Q : VK} (q : upE Ts K (wChain r r' wa wb wc) σ H Q) : tChain R R' (upE Ts K wa) (upE Ts K wb) (upE Ts K wc) σ H Q := by
  obtain ⟨M, S, τ, s, st, q⟩ := q
  refine runE ha s st q fun v S1 M1 H1 u f t1 s1 r1 => ?_
  refine runE hb s1 (st.stp t1) f fun v2 S2 M2 H2 u2 f2 t2 s2 r2 => ?_
  refine hs M2 S2 H2 v v2 u u2 _ s2 (r1.stp t2) r2 (h _ _ _ _ _ f2 fun z S3 ⟨k, e, f3⟩ M3 H3 u3 t3 s3 r3 => ?_)
  subst e
  cases r3
  refine ⟨k, rfl, ite_imp f3 (fun f3 => ?_) fun f3 => f3 M3 H3 _ ((t1.trans t2).trans t3) s3 (.bl _)⟩
  exact runE hc s3 (((st.stp t1).stp t2).stp t3) f3 fun v4 S4 M4 H4 u4 f4 t4 s4 r4 => hs' M4 S4 H4 v2 v4 u2 u4 Q s4 ((r2.stp t3).stp t4) r4 (h' _ _ _ _ _ f4 fun w S5 h5 => h5.base (((t1.trans t2).trans t3).trans t4))
theorem se_chain {op op' : CmpOp} {r r' : W2} (ho : S2 Ts X (compareOp op) r) (ho' : S2 Ts X (compareOp op') r') (ha : SE Ts X a wa) (hb : SE Ts X b wb) (hc : SE Ts X c wc) (hm : lastMarks [op, op'] [b, c] = false := by with_unfolding_all rfl) : SE Ts X (.Compare a [op, op'] [b, c] pos) (wChain r r' wa wb wc) :=
  let ⟨_, o1, s1⟩ := ho.ex
  let ⟨_, o2, s2⟩ := ho'.ex
  ⟨pe_imp (pe_chain o1 o2 ha.pe hb.pe hc.pe hm) fun _ _ _ h => chain_bind s1 s2 ho.mo ho'.mo ha.mo hb.mo hc.mo h, mo_chain ho.mo ho'.mo ha.mo hb.mo hc.mo⟩
end
abbrev WG := PV → Ev → (Ev → Prop) → Prop
abbrev WGs := List PV → Ev → (Ev → Prop) → Prop
def GR (K : PySem.W.Frag) (g : TG) (wg : WG) (vs : List Nat) : Prop := ∀ (M : Map) (n : Nat) (H : Hp) (τ : Ev) (σ : L2.St) (pv : PV) (v : V) (R : Ev → Prop) (Q : L2.St → Hp → Prop), StR K M n H τ σ → RP K M n H pv v → wg pv τ R → (∀ τ2 σ2, R τ2 → StR K M n H τ2 σ2 → wipe σ2 vs = wipe σ vs → Q σ2 H) → g v σ H Q
def GRs (K : PySem.W.Frag) (g : TGs) (wg : WGs) (vs : List Nat) : Prop := ∀ (M : Map) (n : Nat) (H : Hp) (τ : Ev) (σ : L2.St) (pv : List PV) (v : List V) (R : Ev → Prop) (Q : L2.St → Hp → Prop), StR K M n H τ σ → RPs K M n H pv v → wg pv τ R → (∀ τ2 σ2, R τ2 → StR K M n H τ2 σ2 → wipe σ2 vs = wipe σ vs → Q σ2 H) → g v σ H Q
def wgName (i : Nat) : WG := fun v τ R => R (τ.set i (some v))
def wgNil : WGs := fun vs τ R => vs = [] ∧ R τ
def wgCons (g : WG) (gs : WGs) : WGs := fun vs τ R => ∃ v r, vs = v :: r ∧ g v τ fun τ' => gs r τ' R
def wgTup (n : Nat) (gs : WGs) : WG := fun v τ R => ∃ xs, v = .tup xs ∧ xs.length = n ∧ gs xs τ R
theorem wipe_in {σ : L2.St} {i : Nat} : ∀ {vs : List Nat}, i ∈ vs → (wipe σ vs)[i]? = if i < σ.length then some none else none
  | v :: vs, h => by
    unfold wipe
    by_cases e : v = i
    · subst e
      by_cases l : v < σ.length
      · rw [List.getElem?_set_self (by rw [wipe_length]; exact l), if_pos l]
      · rw [if_neg l, List.getElem?_eq_none (by rw [List.length_set, wipe_length]; omega)]
    · rw [List.getElem?_set_ne e]
      exact wipe_in (by
        rcases List.mem_cons.mp h with z | z
        · exact absurd z.symm e
        · exact z)
theorem wipe_set {σ : L2.St} {i : Nat} {x : Option V} {vs : List Nat} (h : i ∈ vs) : wipe (σ.set i x) vs = wipe σ vs := by
  apply List.ext_getElem?
  intro j
  by_cases m : j ∈ vs
  · rw [wipe_in m, wipe_in m, List.length_set]
  · rw [wipe_out m, wipe_out m, List.getElem?_set_ne (by rintro rfl; exact m h)]
section
variable {K : PySem.W.Frag} {vs : List Nat}
theorem gr_name {i : Nat} (h : i ∈ vs) : GR K (gName i) (wgName i) vs := fun M n H τ σ pv v R Q st r w k => k _ _ w (st.set r i) (wipe_set h)
theorem gr_nil : GRs K gNil wgNil vs := fun M n H τ σ pv v R Q st r w k => by
  obtain ⟨rfl, w⟩ := w
  cases r
  exact ⟨rfl, k _ _ w st rfl⟩
theorem gr_cons {g : TG} {gs : TGs} {wg : WG} {ws : WGs} (h1 : GR K g wg vs) (h2 : GRs K gs ws vs) : GRs K (gCons g gs) (wgCons wg ws) vs := fun M n H τ σ pv v R Q st r w k => by
  obtain ⟨x, xs, rfl, w⟩ := w
  cases r with
  | cons r1 r2 => exact ⟨_, _, rfl, h1 M n H τ σ x _ _ _ st r1 w fun τ2 σ2 w2 st2 e2 => h2 M n H τ2 σ2 xs _ R Q st2 r2 w2 fun τ3 σ3 w3 st3 e3 => k τ3 σ3 w3 st3 (e3.trans e2)⟩
theorem gr_tup {n : Nat} {gs : TGs} {ws : WGs} (h : GRs K gs ws vs) : GR K (gTup K n gs) (wgTup n ws) vs := fun M m H τ σ pv v R Q st r w k => by
  obtain ⟨xs, rfl, hl, w⟩ := w
  cases r with
  | tup r1 r2 => exact ⟨_, _, rfl, r1, by rw [← r2.length]; exact hl, h M m H τ σ xs _ R Q st r2 w k⟩
end
abbrev MoG (w : WG) : Prop := ∀ (v : PV) (τ : Ev) (R R' : Ev → Prop), w v τ R → (∀ τ', R τ' → R' τ') → w v τ R'
abbrev MoGs (w : WGs) : Prop := ∀ (v : List PV) (τ : Ev) (R R' : Ev → Prop), w v τ R → (∀ τ', R τ' → R' τ') → w v τ R'
theorem mg_name (i : Nat) : MoG (wgName i) := fun v τ R R' h k => k _ h
theorem mg_nil : MoGs wgNil := fun v τ R R' h k => ⟨h.1, k _ h.2⟩
theorem mg_cons {g : WG} {gs : WGs} (h1 : MoG g) (h2 : MoGs gs) : MoGs (wgCons g gs) := fun v τ R R' ⟨x, r, e, h⟩ k => ⟨x, r, e, h1 _ _ _ _ h fun τ' h => h2 _ _ _ _ h k⟩
theorem mg_tup {n : Nat} {gs : WGs} (h : MoGs gs) : MoG (wgTup n gs) := fun v τ R R' ⟨x, e, l, q⟩ k => ⟨x, e, l, h _ _ _ _ q k⟩
structure WEnds where
  nx : Ev → Sto → Prop
  rt : WQ
  bk : Ev → Sto → Prop
  ct : Ev → Sto → Prop
abbrev WS := WEnds → Ev → Sto → Prop
structure WEnds.le (D D' : WEnds) : Prop where
  nx : ∀ τ S, D.nx τ S → D'.nx τ S
  rt : ∀ v S, D.rt v S → D'.rt v S
  bk : ∀ τ S, D.bk τ S → D'.bk τ S
  ct : ∀ τ S, D.ct τ S → D'.ct τ S
theorem WEnds.le.refl (D : WEnds) : D.le D := ⟨fun _ _ h => h, fun _ _ h => h, fun _ _ h => h, fun _ _ h => h⟩
abbrev MoS (w : WS) : Prop := ∀ (D D' : WEnds) (τ : Ev) (S : Sto), w D τ S → D.le D' → w D' τ S
def upN (Ts : List Addr) (K : PySem.W.Frag) (M : Map) (n : Nat) (H : Hp) (N : L2.St → Hp → Prop) : Ev → Sto → Prop := fun τ S => ∀ M' H' σ', Stp Ts K M n H M' S.length H' → Sim Ts K M' S H' → StR K M' S.length H' τ σ' → N σ' H'
def dn (Ts : List Addr) (K : PySem.W.Frag) (M : Map) (n : Nat) (H : Hp) (D : Ends) : WEnds := ⟨upN Ts K M n H D.nx, upQ Ts K M n H D.rt, upN Ts K M n H D.bk, upN Ts K M n H D.ct⟩
theorem upN.base {K : PySem.W.Frag} {M M2 : Map} {n n2 : Nat} {H H2 : Hp} {N : L2.St → Hp → Prop} {τ : Ev} {S : Sto} (h : upN Ts K M n H N τ S) (t : Stp Ts K M n H M2 n2 H2) : upN Ts K M2 n2 H2 N τ S := fun M' H' σ' t' s st => h M' H' σ' (t.trans t') s st
theorem dn_base {K : PySem.W.Frag} {M M2 : Map} {n n2 : Nat} {H H2 : Hp} (D : Ends) (t : Stp Ts K M n H M2 n2 H2) : (dn Ts K M n H D).le (dn Ts K M2 n2 H2 D) := ⟨fun _ _ h => h.base t, fun _ _ h => h.base t, fun _ _ h => h.base t, fun _ _ h => h.base t⟩
def upS (Ts : List Addr) (K : PySem.W.Frag) (w : WS) : TS := fun D σ H => ∃ M S τ, Sim Ts K M S H ∧ StR K M S.length H τ σ ∧ w (dn Ts K M S.length H D) τ S
structure SS (Ts : List Addr) (X : Cx) (st : Stmt) (w : WS) : Prop where
  ps : PS X st (upS Ts X.K w)
  mo : MoS w
structure SSs (Ts : List Addr) (X : Cx) (st : List Stmt) (w : WS) : Prop where
  ps : PSs X st (upS Ts X.K w)
  mo : MoS w
theorem ps_imp {X : Cx} {e : Stmt} {t t' : TS} (h : PS X e t) (k : ∀ D σ H, t' D σ H → t D σ H) : PS X e t' := fun pins s σ H D I q => h pins s σ H D I (k _ _ _ q)
theorem pss_imp {X : Cx} {e : List Stmt} {t t' : TS} (h : PSs X e t) (k : ∀ D σ H, t' D σ H → t D σ H) : PSs X e t' := fun pins s σ H D I q => h pins s σ H D I (k _ _ _ q)
def wNext : WS := fun D τ S => D.nx τ S
def wSeq (t u : WS) : WS := fun D τ S => t { D with nx := u D } τ S
section
variable {X : Cx} {a b c e o : Expr} {wa wb wc wo : WE} {pos : Pos}
theorem sss_nil : SSs Ts X [] wNext := ⟨pss_imp pss_nil fun D σ H ⟨M, S, τ, s, st, h⟩ => h M H σ (.refl _ _ _ _) s st, fun D D' τ S h k => k.nx _ _ h⟩
theorem sss_one {st : Stmt} {w : WS} (h : SS Ts X st w) : SSs Ts X [st] w := ⟨pss_one h.ps, h.mo⟩
theorem le_seq {D D' : WEnds} {u : WS} (mo : MoS u) (h : D.le D') : ({ D with nx := u D } : WEnds).le { D' with nx := u D' } := ⟨fun _ _ q => mo _ _ _ _ q h, h.rt, h.bk, h.ct⟩
theorem sss_cons {st : Stmt} {rest : List Stmt} {t u : WS} (h1 : SS Ts X st t) (h2 : SSs Ts X rest u) : SSs Ts X (st :: rest) (wSeq t u) := by
  refine ⟨pss_imp (pss_cons h1.ps h2.ps) fun D σ H h => ?_, fun D D' τ S h k => h1.mo _ _ _ _ h (le_seq h2.mo k)⟩
  obtain ⟨M, S, τ, s, st, h⟩ := h
  refine ⟨M, S, τ, s, st, h1.mo _ _ _ _ h ⟨fun τ1 S1 q M1 H1 σ1 t1 s1 st1 => ?_, fun _ _ q => q, fun _ _ q => q, fun _ _ q => q⟩⟩
  exact ⟨M1, S1, τ1, s1, st1, h2.mo _ _ _ _ q (dn_base D t1)⟩
def wNever : WS := fun _ _ _ => False
theorem ss_never {st : Stmt} : SS Ts X st wNever := ⟨ps_imp ps_never fun D σ H ⟨M, S, τ, s, st, h⟩ => h, fun D D' τ S h k => h⟩
def wRet (w : WE) : WS := fun D τ S => w τ S D.rt
def wRetN : WS := fun D _ S => D.rt .non S
theorem ss_ret (h : SE Ts X a wa) : SS Ts X (.Return (some a) pos) (wRet wa) := ⟨ps_imp (ps_ret h.pe) fun D σ H h => h, fun D D' τ S q k => h.mo _ _ _ _ q k.rt⟩
def wDrop (w : WE) : WS := fun D τ S => w τ S fun _ S1 => D.nx τ S1
theorem ss_expr (h : SE Ts X a wa) (hs : swapsWith a none pos.line X.env = pure false := by rfl) : SS Ts X (.Expr a pos) (wDrop wa) := by
  refine ⟨ps_imp (ps_expr h.pe hs) fun D σ H q => ?_, fun D D' τ S q k => h.mo _ _ _ _ q fun _ S1 q => k.nx _ _ q⟩
  obtain ⟨M, S, τ, s, st, q⟩ := q
  exact runE h.mo s st q fun v S1 M1 H1 u f t1 s1 r1 => f M1 H1 σ t1 s1 (st.stp t1)
def wIfS (c : WT) (t u : WS) : WS := fun D τ S => c τ S fun b S1 => if b = true then t D τ S1 else u D τ S1
theorem ss_if {as bs : List Stmt} {wt : WT} {t u : WS} (hc : ST Ts X c wt) (ha : SSs Ts X as t) (hb : SSs Ts X bs u) : SS Ts X (.If c as bs pos) (wIfS wt t u) := by
  refine ⟨ps_imp (ps_if hc.pt ha.ps hb.ps) fun D σ H q => ?_, fun D D' τ S q k => hc.mo _ _ _ _ q fun b S1 q => ite_imp q (fun q => ha.mo _ _ _ _ q k) fun q => hb.mo _ _ _ _ q k⟩
  obtain ⟨M, S, τ, s, st, q⟩ := q
  refine runT hc.mo s st q fun v S1 M1 H1 f t1 s1 => ite_imp f (fun f => ?_) fun f => ?_
  · exact ⟨M1, S1, τ, s1, st.stp t1, ha.mo _ _ _ _ f (dn_base D t1)⟩
  · exact ⟨M1, S1, τ, s1, st.stp t1, hb.mo _ _ _ _ f (dn_base D t1)⟩
/-- x = e, (x, y) = e -/
def wAsg (w : WE) (g : WG) : WS := fun D τ S => w τ S fun v S1 => g v τ fun τ1 => D.nx τ1 S1
theorem mo_asg {g : WG} (h : MoE wa) (hg : MoG g) : MoS (wAsg wa g) := fun D D' τ S q k => h _ _ _ _ q fun v S1 q => hg _ _ _ _ q fun τ1 q => k.nx _ _ q
theorem asg_bind {K : PySem.W.Frag} {g : TG} {wg : WG} {vs : List Nat} (h : MoE wa) (hg : GR K g wg vs) {D : Ends} {σ : L2.St} {H : Hp} (q : upS Ts K (wAsg wa wg) D σ H) : tAsg (upE Ts K wa) g D σ H := by
  obtain ⟨M, S, τ, s, st, q⟩ := q
  exact runE h s st q fun v S1 M1 H1 u f t1 s1 r1 => hg M1 _ H1 τ σ v u _ _ (st.stp t1) r1 f fun τ2 σ2 w2 st2 _ => w2 M1 H1 σ2 t1 s1 st2
theorem ss_set {i : Nat} {x : Str} {pos' : Pos} (hN : X.N.Nodup) (hi : X.N[i]? = some x) (hx : Loc X.env.scope x) (he : SE Ts X e wa) (hs : swapsWith e (some (.Name x pos')) pos.line X.env = pure false := by rfl) (hf : X.fn x = true ∨ X.env.scope.names.lookup x = some .local := by first | exact .inl rfl | exact .inr rfl | assumption) :
    SS Ts X (.Assign [.Name x pos'] e pos) (wAsg wa (wgName i)) := ⟨ps_imp (ps_set hN hi hx he.pe hs hf) fun D σ H q => asg_bind he.mo (gr_name (vs := [i]) (by simp)) q, mo_asg he.mo (mg_name i)⟩
theorem ss_asg {tg : Expr} {g : TG} {wg : WG} {vs : List Nat} (he : SE Ts X e wa) (hg : PG X tg g) (gr : GR X.K g wg vs) (mg : MoG wg) (hs : swapsWithSole [tg] e pos.line X.env = pure false := by rfl) (hw : swappedStores [tg] e X.env = pure none := by rfl)
    (h1 : (assignEach [tg] X.env).map (·.2) = [assign tg X.env] := by rfl) : SS Ts X (.Assign [tg] e pos) (wAsg wa wg) := ⟨ps_imp (ps_asg he.pe hg hs hw h1) fun D σ H q => asg_bind he.mo gr q, mo_asg he.mo mg⟩
/-- x, y = e1, e2 -/
def wPar (i j : Nat) (w : WA) : WS := fun D τ S => w τ S fun vs S1 => ∃ x y, vs = [x, y] ∧ D.nx ((τ.set i (some x)).set j (some y)) S1
end
end L4
set_option Elab.async false
set_option linter.all false
set_option maxRecDepth 100000
namespace L4
open PySem PySem.Spec PyProof.Rows L2 L3
def putP {κ : Type} [DecidableEq κ] (kvs : List (κ × PV)) (k : κ) (v : PV) : List (κ × PV) :=
  if (kvs.any fun kv => decide (kv.1 = k)) = true then kvs.map (fun kv => if kv.1 = k then (kv.1, v) else kv) else kvs ++ [(k, v)]
def dropP {κ : Type} [DecidableEq κ] (kvs : List (κ × PV)) (k : κ) : List (κ × PV) := kvs.filter fun kv => decide (kv.1 ≠ k)
section
variable {κ : Type} [DecidableEq κ] {K : PySem.W.Frag} {M : Map} {n : Nat} {H : Hp}
theorem KR.any (k : κ) : ∀ {v : List (κ × PV)} {u : List (κ × V)}, KR K M n H v u → (v.any fun kv => decide (kv.1 = k)) = (u.any fun kv => decide (kv.1 = k))
  | _, _, .nil => rfl
  | _, _, .cons _ t => by rw [List.any_cons, List.any_cons, KR.any k t]
theorem KR.append : ∀ {v v' : List (κ × PV)} {u u' : List (κ × V)}, KR K M n H v u → KR K M n H v' u' → KR K M n H (v ++ v') (u ++ u')
  | _, _, _, _, .nil, s => s
  | _, _, _, _, .cons r t, s => .cons r (KR.append t s)
theorem KR.over {x : PV} {y : V} (r : RP K M n H x y) (k : κ) : ∀ {v : List (κ × PV)} {u : List (κ × V)}, KR K M n H v u → KR K M n H (v.map (fun kv => if kv.1 = k then (kv.1, x) else kv)) (u.map (fun kv => if kv.1 = k then (kv.1, y) else kv))
  | _, _, .nil => .nil
  | _, _, .cons (k := j) q t => by
    rw [List.map_cons, List.map_cons]
    by_cases e : j = k
    · rw [if_pos e, if_pos e]; exact .cons r (KR.over r k t)
    · rw [if_neg e, if_neg e]; exact .cons q (KR.over r k t)
theorem KR.put {x : PV} {y : V} (r : RP K M n H x y) (k : κ) {v : List (κ × PV)} {u : List (κ × V)} (h : KR K M n H v u) : KR K M n H (putP v k x) (putK u k y) := by
  unfold putP putK
  rw [h.any k]
  split
  · exact h.over r k
  · exact h.append (.cons r .nil)
theorem KR.drop (k : κ) : ∀ {v : List (κ × PV)} {u : List (κ × V)}, KR K M n H v u → KR K M n H (dropP v k) (dropK u k)
  | _, _, .nil => .nil
  | _, _, .cons (k := j) q t => by
    unfold dropP dropK
    rw [List.filter_cons, List.filter_cons]
    by_cases e : j = k
    · simp only [e, ne_eq, not_true, decide_false]; exact KR.drop k t
    · simp only [ne_eq, e, not_false_eq_true, decide_true]; exact .cons q (KR.drop k t)
end
section
variable {K : PySem.W.Frag} {M : Map} {S : Sto} {H : Hp}
theorem Sim.putD (s : Sim Ts K M S H) {i : Nat} {old new : List (Key × PV)} {us : List (Key × V)} (hi : S[i]? = some (.dct old)) (r : KR K M S.length H new us) : Sim Ts K M (S.set i (.dct new)) (upd H (M.m i) (.dK us)) ∧ Stp Ts K M S.length H M (S.set i (.dct new)).length (upd H (M.m i) (.dK us)) :=
  s.put (new := .dct new) (o := .dK us) hi (fun H' t e1 _ => ⟨(s.ob i _ hi).1, us, e1, r.mono t.le t.m t.tup t.scr⟩)
theorem Sim.putL (s : Sim Ts K M S H) {i : Nat} {old new : List PV} {us : List V} (hi : S[i]? = some (.lst old)) (r : RPs K M S.length H new us) : Sim Ts K M (S.set i (.lst new)) (upd H (M.m i) (.lst us)) ∧ Stp Ts K M S.length H M (S.set i (.lst new)).length (upd H (M.m i) (.lst us)) :=
  s.put (new := .lst new) (o := .lst us) hi (fun H' t e1 _ => ⟨(s.ob i _ hi).1, us, e1, r.stp t⟩)
end
def rSetW (x i v : PV) (S : Sto) (Q : Sto → Prop) : Prop := (∃ k xs j n, x = .ref k ∧ i = .int j ∧ S[k]? = some (.lst xs) ∧ ixN xs.length j = some n ∧ Q (S.set k (.lst (xs.set n v)))) ∨ ∃ k kvs y, x = .ref k ∧ S[k]? = some (.dct kvs) ∧ keyW i = some y ∧ kvs.length < 16777216 ∧ Q (S.set k (.dct (putP kvs y v)))
theorem mo_setW {x i v : PV} {S : Sto} {Q Q' : Sto → Prop} (h : rSetW x i v S Q) (k : ∀ S', Q S' → Q' S') : rSetW x i v S Q' := by
  rcases h with ⟨p, xs, j, n, h1, h2, h3, h4, q⟩ | ⟨p, kvs, y, h1, h2, h3, h4, q⟩
  · exact .inl ⟨p, xs, j, n, h1, h2, h3, h4, k _ q⟩
  · exact .inr ⟨p, kvs, y, h1, h2, h3, h4, k _ q⟩
def rSetX : V → V → V → Hp → (Hp → Prop) → Prop := fun o i v H Q => rSetL o i v H Q ∨ ∃ a H', o = .ref a ∧ DPut H a i v H' ∧ Q H'
section
variable {X : Cx} {a b c e o i : Expr} {wa wb wc wo wi : WE} {pos : Pos}
theorem set_x (hu : X.A.units + 1 < cLine) : PSet X rSetX := by
  intro pins s σ H o i v ov iv nv Q I ro ri rv h
  rcases h with h | ⟨a, H', rfl, g, q⟩
  · exact set_list pins s σ H o i v ov iv nv Q I ro ri rv h
  · obtain rfl : ov = Value.ref a := ro
    exact d_setItem hu I g ri rv fun s' I' => ⟨H', I', q⟩
theorem set_snd {K : PySem.W.Frag} {M : Map} {S : Sto} {H : Hp} {x i v : PV} {ux ui uv : V} {Q : Hp → Prop} (s : Sim Ts K M S H) (rx : RP K M S.length H x ux) (ri : RP K M S.length H i ui) (rv : RP K M S.length H v uv)
    (h : rSetW x i v S fun S' => ∀ H', Stp Ts K M S.length H M S'.length H' → Sim Ts K M S' H' → Q H') : rSetX ux ui uv H Q := by
  rcases h with ⟨p, xs, j, n, rfl, rfl, h3, h4, q⟩ | ⟨p, kvs, y, rfl, h2, h3, h4, q⟩
  · cases rx; cases ri
    obtain ⟨us, p1, r1⟩ := s.lst h3
    obtain ⟨s2, t2⟩ := s.putL h3 (r1.set rv n)
    exact .inl ⟨_, us, j, n, rfl, rfl, p1, by rw [← r1.length]; exact h4, q _ t2 s2⟩
  · cases rx
    obtain rfl := key_rp ri h3
    obtain ⟨us, p1, r1⟩ := s.dct h2
    obtain ⟨s2, t2⟩ := s.putD h2 (r1.put rv y)
    exact .inr ⟨_, _, rfl, DPut.k p1 (by rw [sizeLine_eq, ← r1.length]; exact h4), q _ t2 s2⟩
def wPut (wo wi wv : WE) : WS := fun D τ S => wv τ S fun v S1 => wo τ S1 fun x S2 => wi τ S2 fun i S3 => rSetW x i v S3 fun S4 => D.nx τ S4
theorem ss_put {pos' : Pos} (hu : X.A.units + 1 < cLine) (ho : SE Ts X o wo) (hi : SE Ts X i wi) (hv : SE Ts X e wa)
    (ha : ∀ v, assign (.Subscript o i pos') X.env v = (do
      let ov ← holding [v] (eval o X.env)
      let iv ← holding [v, ov] (eval i X.env)
      standAt pos'
      holding [v, ov, iv] (setItem ov iv v)
      release [v, ov, iv] []) := by intro _; rfl)
    (hs : swapsWithSole [.Subscript o i pos'] e pos.line X.env = pure false := by rfl) (hw : swappedStores [.Subscript o i pos'] e X.env = pure none := by rfl)
    (h1 : (assignEach [.Subscript o i pos'] X.env).map (·.2) = [assign (.Subscript o i pos') X.env] := by rfl) : SS Ts X (.Assign [.Subscript o i pos'] e pos) (wPut wo wi wa) := by
  refine ⟨ps_imp (ps_asg hv.pe (pg_sub ho.pe hi.pe (set_x hu) ha) hs hw h1) fun D σ H q => ?_, fun D D' τ S q k => hv.mo _ _ _ _ q fun v S1 q => ho.mo _ _ _ _ q fun x S2 q => hi.mo _ _ _ _ q fun i S3 q => mo_setW q fun S4 q => k.nx _ _ q⟩
  obtain ⟨M, S, τ, s, st, q⟩ := q
  refine runE hv.mo s st q fun v S1 M1 H1 uv f t1 s1 r1 => ?_
  refine runE ho.mo s1 (st.stp t1) f fun x S2 M2 H2 ux f t2 s2 r2 => ?_
  refine runE hi.mo s2 ((st.stp t1).stp t2) f fun j S3 M3 H3 ui f t3 s3 r3 => ?_
  exact set_snd s3 (r2.stp t3) r3 ((r1.stp t2).stp t3) (mo_setW f fun S4 q H' t4 s4 => q M3 H' σ (((t1.trans t2).trans t3).trans t4) s4 ((((st.stp t1).stp t2).stp t3).stp t4))
def wAug (i : Nat) (w : WE) (r : W2) : WS := fun D τ S => ∃ x, τ[i]? = some (some x) ∧ w τ S fun y S1 => r x y S1 fun z S2 => D.nx (τ.set i (some z)) S2
abbrev WI := Ev → Sto → (List PV → (Sto → Prop) → Sto → Prop) → Prop
def ItR (Ts : List Addr) (K : PySem.W.Frag) (J : It) (xs : List PV) (G : Sto → Prop) (M : Map) (n : Nat) (H : Hp) : Prop := ∀ (M' : Map) (S' : Sto) (H' : Hp), Stw K M n H M' S'.length H' → Sim Ts K M' S' H' → G S' →
  (∀ (i : Nat) (x : PV), xs[i]? = some x → J.go i H' ∧ ∀ u H2, J.yld i H' u H2 → Stp Ts K M' S'.length H' M' S'.length H2 ∧ Sim Ts K M' S' H2 ∧ RP K M' S'.length H2 x u) ∧ ∀ i, xs.length ≤ i → J.stop i H'
def upI (Ts : List Addr) (K : PySem.W.Frag) (w : WI) : TI := fun σ H R => ∃ M S τ, Sim Ts K M S H ∧ StR K M S.length H τ σ ∧ w τ S fun xs G S1 => ∀ M1 H1 J, Stp Ts K M S.length H M1 S1.length H1 → Sim Ts K M1 S1 H1 → ItR Ts K J xs G M1 S1.length H1 → R J H1
abbrev MoI (w : WI) : Prop := ∀ (τ : Ev) (S : Sto) (R R' : List PV → (Sto → Prop) → Sto → Prop), w τ S R → (∀ xs G S', R xs G S' → R' xs G S') → w τ S R'
structure SI (Ts : List Addr) (X : Cx) (tg iter : Expr) (w : WI) : Prop where
  pi : PI X tg iter (upI Ts X.K w)
  mo : MoI w
theorem pi_imp {X : Cx} {tg e : Expr} {t t' : TI} (h : PI X tg e t) (k : ∀ σ H R, t' σ H R → t σ H R) : PI X tg e t' := fun pins s σ H R I q => h pins s σ H R I (k _ _ _ q)
def wLoop (g : WG) (t : WS) (G : Sto → Prop) : List PV → WS
  | [] => fun D τ S => G S ∧ D.nx τ S
  | x :: xs => fun D τ S => G S ∧ g x τ fun τ1 => t { nx := wLoop g t G xs D, rt := D.rt, bk := D.nx, ct := wLoop g t G xs D } τ1 S
def wFor (wi : WI) (g : WG) (t : WS) : WS := fun D τ S => wi τ S fun xs G S1 => wLoop g t G xs D τ S1
theorem mo_loop {g : WG} {t : WS} {G : Sto → Prop} (hg : MoG g) (ht : MoS t) : ∀ xs, MoS (wLoop g t G xs)
  | [] => fun D D' τ S h k => ⟨h.1, k.nx _ _ h.2⟩
  | x :: xs => fun D D' τ S h k => ⟨h.1, hg _ _ _ _ h.2 fun τ1 h => ht _ _ _ _ h ⟨fun _ _ h => mo_loop hg ht xs _ _ _ _ h k, k.rt, k.nx, fun _ _ h => mo_loop hg ht xs _ _ _ _ h k⟩⟩
theorem ss_for {tg iter : Expr} {body : List Stmt} {wi : WI} {g : TG} {wg : WG} {t : WS} {vs : List Nat} (hp : PassesOwn (model X.prog X.w) X.A X.env X.xe) (hc : X.calm = true) (hi : SI Ts X tg iter wi) (hg : PG X tg g) (gr : GR X.K g wg vs) (mg : MoG wg) (hb : SSs Ts X body t)
    (hs : ∀ x, foldedSetIterable iter X.env x = pure x := by intro _; rfl) : SS Ts X (.For tg iter body [] pos) (wFor wi wg t) := by
  refine ⟨ps_imp (ps_for hp hc hi.pi hg hb.ps hs) fun D σ H q => ?_, fun D D' τ S q k => hi.mo _ _ _ _ q fun xs G S1 q => mo_loop mg hb.mo xs _ _ _ _ q k⟩
  obtain ⟨M, S, τ, s, st, q⟩ := q
  refine ⟨M, S, τ, s, st, hi.mo _ _ _ _ q fun xs G S1 q M1 H1 J t1 s1 it => ?_⟩
  refine ⟨fun i m σ' H' => m = xs.length - i ∧ i ≤ xs.length ∧ ∃ M' S' τ', Stp Ts X.K M1 S1.length H1 M' S'.length H' ∧ Sim Ts X.K M' S' H' ∧ StR X.K M' S'.length H' τ' σ' ∧ wLoop wg t G (xs.drop i) (dn Ts X.K M S.length H D) τ' S', ⟨_, rfl, Nat.zero_le _, M1, S1, τ, .refl _ _ _ _, s1, st.stp t1, q⟩, ?_⟩
  rintro i m σ2 H2 ⟨rfl, hil, M2, S2, τ2, t2, s2, st2, q2⟩
  by_cases hl : i < xs.length
  · obtain ⟨x, hx⟩ : ∃ x, xs[i]? = some x := ⟨xs[i], by simp [hl]⟩
    have ed : xs.drop i = x :: xs.drop (i + 1) := by
      rw [List.drop_eq_getElem_cons hl]
      have := List.getElem?_eq_getElem hl
      rw [hx] at this
      rw [Option.some.inj this]
    rw [ed] at q2
    obtain ⟨hG, q2⟩ := q2
    obtain ⟨h1, _⟩ := it M2 S2 H2 t2.w s2 hG
    obtain ⟨hgo, hy⟩ := h1 i x hx
    refine .inr ⟨hgo, fun σ' H' => ∃ M' S' τ', Stp Ts X.K M1 S1.length H1 M' S'.length H' ∧ Sim Ts X.K M' S' H' ∧ StR X.K M' S'.length H' τ' σ' ∧ wLoop wg t G (xs.drop (i + 1)) (dn Ts X.K M S.length H D) τ' S', fun σ' H' h => ⟨_, ?_, rfl, hl, h⟩, fun u H3 yl => ?_⟩
    · omega
    · obtain ⟨t3, s3, r3⟩ := hy u H3 yl
      refine gr M2 S2.length H3 τ2 σ2 x u _ _ (st2.stp t3) r3 q2 fun τ4 σ4 q4 st4 _ => ?_
      have tt := (t1.trans t2).trans t3
      refine ⟨M2, S2, τ4, s3, st4, hb.mo _ _ _ _ q4 ⟨?_, ?_, ?_, ?_⟩⟩
      · exact fun τ5 S5 h M5 H5 σ5 t5 s5 st5 => ⟨M5, S5, τ5, (t2.trans t3).trans t5, s5, st5, h⟩
      · exact fun v S5 h => h.base tt
      · exact fun τ5 S5 h => h.base tt
      · exact fun τ5 S5 h M5 H5 σ5 t5 s5 st5 => ⟨M5, S5, τ5, (t2.trans t3).trans t5, s5, st5, h⟩
  · have : i = xs.length := by omega
    subst this
    rw [List.drop_length] at q2
    obtain ⟨hG, q2⟩ := q2
    obtain ⟨_, h1⟩ := it M2 S2 H2 t2.w s2 hG
    exact .inl ⟨h1 _ (Nat.le_refl _), q2 M2 H2 σ2 (t1.trans t2) s2 st2⟩
end
end L4
set_option Elab.async false
set_option linter.all false
set_option maxRecDepth 100000
namespace L4
open PySem PySem.Spec PyProof.Rows L2 L3
section
variable {X : Cx} {a b c e o i tg : Expr} {wa wb wc wo : WE} {pos : Pos}
theorem pi_seqX {l : Expr} {tl : TE} (hl : PE X l tl) : PI X tg l (fun σ H R => tl σ H fun x H1 => ∃ k a xs, x = .ref a ∧ SqX k X.K H1 a xs ∧ R (match k with | true => Itt X.K a | false => Itl X.K a) H1) := by
  intro pins s σ H R I h
  refine thn (hl pins s σ H _ I h) fun v s1 ⟨x, H1, I1, r1, q1⟩ => ?_
  obtain ⟨k, a, xs, e, hq, q⟩ := q1
  subst e
  cases r1
  cases k
  · obtain ⟨its, rv, p, hz⟩ := I1.list hq
    refine wpAny_pyIter_list p.isList ?_
    refine ⟨s1.heap.objs.size, [s1.heap.objs.size], _, _, H1, rfl, I1.kept (t' := s1.toks) fun b o e => Heap.get?_push_of_some _ e, turn_list a _, ⟨_, Heap.get?_push_size _ rfl, rfl, rfl⟩, fun b hb => ?_, q⟩
    have e : b = s1.heap.objs.size := by simpa using hb
    subst e
    exact I1.fpOk (Nat.le_refl _) (I1.hok.fresh (Nat.le_refl _))
  · obtain ⟨its, rv, p, hz⟩ := I1.tuple hq
    refine wpAny_pyIter_tuple (show s1.heap.IsTuple a its.toArray from p) ?_
    refine ⟨s1.heap.objs.size, [s1.heap.objs.size], _, _, H1, rfl, I1.kept (t' := s1.toks) fun b o e => Heap.get?_push_of_some _ e, turn_tuple a _, ⟨_, Heap.get?_push_size _ rfl, rfl, rfl⟩, fun b hb => ?_, q⟩
    have e : b = s1.heap.objs.size := by simpa using hb
    subst e
    exact I1.fpOk (Nat.le_refl _) (I1.hok.fresh (Nat.le_refl _))
def wSq (w : WE) : WI := fun τ S R => w τ S fun x S1 => ∃ k xs, seqW S1 x = some (k, xs) ∧ R xs (fun S' => seqW S' x = some (k, xs)) S1
/-- the same value at a later state -/
theorem seq_later {K : PySem.W.Frag} {M M' : Map} {S S' : Sto} {H H' : Hp} {x : PV} {k : Bool} {ys : List PV} {a : Addr} (r : RP K M S.length H x (.ref a)) (t : Stw K M S.length H M' S'.length H') (s' : Sim Ts K M' S' H') (h : seqW S' x = some (k, ys)) : ∃ us, SqX k K H' a us ∧ RPs K M' S'.length H' ys us := by
  obtain ⟨p, us, e, h4, r4⟩ := s'.seq h (r.stw t)
  cases e
  exact ⟨us, h4, r4⟩
theorem RPs.none {K : PySem.W.Frag} {M : Map} {n : Nat} {H : Hp} {xs : List PV} {us : List V} (r : RPs K M n H xs us) {i : Nat} (h : xs.length ≤ i) : us.length ≤ i := by rw [← r.length]; exact h
theorem si_seq (h : SE Ts X a wa) : SI Ts X tg a (wSq wa) := by
  refine ⟨pi_imp (pi_seqX h.pe) fun σ H R q => ?_, fun τ S R R' q k => h.mo _ _ _ _ q fun x S1 ⟨b, xs, e, q⟩ => ⟨b, xs, e, k _ _ _ q⟩⟩
  obtain ⟨M, S, τ, s, st, q⟩ := q
  refine runE h.mo s st q fun v S1 M1 H1 u f t1 s1 r1 => ?_
  obtain ⟨k, xs, e1, f⟩ := f
  obtain ⟨p, us, rfl, h4, r4⟩ := s1.seq e1 r1
  refine ⟨k, p, us, rfl, h4, f M1 H1 _ t1 s1 fun M2 S2 H2 t2 s2 hG => ?_⟩
  obtain ⟨ws, h5, r5⟩ := seq_later r1 t2 s2 hG (ys := xs)
  cases k
  · refine ⟨fun i x hx => ?_, fun i hi => ⟨ws, h5, r5.none hi⟩⟩
    obtain ⟨u, h6, r6⟩ := r5.get hx
    refine ⟨⟨ws, u, h5, h6⟩, fun u2 H3 yl => ?_⟩
    obtain ⟨rfl, y2⟩ := yl
    have := y2 ws h5
    rw [h6] at this
    cases this
    exact ⟨.refl _ _ _ _, s2, r6⟩
  · refine ⟨fun i x hx => ?_, fun i hi => ⟨ws, h5, r5.none hi⟩⟩
    obtain ⟨u, h6, r6⟩ := r5.get hx
    refine ⟨⟨ws, u, h5, h6⟩, fun u2 H3 yl => ?_⟩
    obtain ⟨rfl, y2⟩ := yl
    have := y2 ws h5
    rw [h6] at this
    cases this
    exact ⟨.refl _ _ _ _, s2, r6⟩
def rngP (lo : Int) (n : Nat) : List PV := (List.range n).map fun (i : Nat) => PV.int (lo + (i : Int))
theorem rngP_length (lo : Int) (n : Nat) : (rngP lo n).length = n := by simp [rngP]
theorem rngP_get {lo : Int} {n i : Nat} {x : PV} (h : (rngP lo n)[i]? = some x) : i < n ∧ x = .int (lo + (i : Int)) := by
  unfold rngP at h
  rw [List.getElem?_map] at h
  by_cases c : i < n
  · rw [List.getElem?_range c] at h
    cases h
    exact ⟨c, rfl⟩
  · rw [List.getElem?_eq_none (by simpa using c)] at h
    cases h
theorem it_rng {K : PySem.W.Frag} {lo : Int} {n k : Nat} {M : Map} {H : Hp} : ItR Ts K (Itr lo n) (rngP lo n) (fun _ => True) M k H := fun M2 S2 H2 t2 s2 _ => by
  refine ⟨fun i x hx => ?_, fun i hi => by rw [rngP_length] at hi; exact hi⟩
  obtain ⟨h1, rfl⟩ := rngP_get hx
  exact ⟨h1, fun u H3 ⟨h2, h3⟩ => by subst h2 h3; exact ⟨.refl _ _ _ _, s2, .int _⟩⟩
def wRng1 (w : WA) : WI := fun τ S R => w τ S fun vs S1 => ∃ j : Int, vs = [.int j] ∧ -4611686018427387904 ≤ j ∧ j < 4611686018427387904 ∧ R (rngP 0 j.toNat) (fun _ => True) S1
def wRng2 (w : WA) : WI := fun τ S R => w τ S fun vs S1 => ∃ i j : Int, vs = [.int i, .int j] ∧ (-4611686018427387904 ≤ i ∧ i < 4611686018427387904 ∧ -4611686018427387904 ≤ j ∧ j < 4611686018427387904) ∧ R (rngP i (j - i).toNat) (fun _ => True) S1
theorem si_range1 {w : WA} {p : Pos} (hg : Gl X "range") (hm : X.mg "range" = none) (ha : SA Ts X [a] w) (hs : starEach [a] X.env = [(false, eval a X.env)] := by rfl) : SI Ts X tg (.Call (.Name "range" p) [a] [] pos) (wRng1 w) := by
  refine ⟨pi_imp (pi_range1 hg hm ha.pa hs) fun σ H R q => ?_, fun τ S R R' q k => ha.mo _ _ _ _ q fun x S1 ⟨j, e, h1, h2, q⟩ => ⟨j, e, h1, h2, k _ _ _ q⟩⟩
  obtain ⟨M, S, τ, s, st, q⟩ := q
  refine runA ha.mo s st q fun v S1 M1 H1 u f t1 s1 r1 => ?_
  obtain ⟨j, rfl, h1, h2, f⟩ := f
  obtain ⟨u1, rfl, r2⟩ := r1.one
  cases r2
  exact ⟨j, rfl, by omega, by omega, f M1 H1 _ t1 s1 it_rng⟩
end
def IteY (k : Bool) (K : PySem.W.Frag) (a : Addr) : It :=
  ⟨fun i H => ∃ xs, SqX k K H a xs ∧ i < xs.length, fun i H v H' => ∃ T x, v = .ref T ∧ H T = none ∧ H' = upd H T (.tup [.int (i : Nat), x]) ∧ ∀ xs, SqX k K H a xs → xs[i]? = some x, fun i H => ∃ xs, SqX k K H a xs ∧ xs.length ≤ i⟩
theorem sqx_inj {X : Cx} {pins : List (Addr × Obj)} {σ : L2.St} {H : Hp} {s : Shared} {k : Bool} {a : Addr} {xs ys : List V} (I : Inv X pins σ H s) (h : SqX k X.K H a xs) (h' : SqX k X.K H a ys) : xs = ys := by
  cases k
  · exact I.list_inj h h'
  · exact I.tuple_inj h h'
theorem turn_enumY {P : Program} {w : World} {K : PySem.W.Frag} {elts : List Expr} {kk : Nat} {tpos : Pos} (k : Bool) (a e it : Addr) :
    Turn P w K (.Tuple elts kk tpos) (IteY k K a) [e, it] e (fun i h => (∃ old, IsEnum h e it ((i : Nat) : Int) old) ∧ SqI k h it a i ∧ e ≠ it) where
  mem := (turn_enumX (P := P) (w := w) (K := K) (elts := elts) (kk := kk) (tpos := tpos) k a e it []).mem
  obj := (turn_enumX (P := P) (w := w) (K := K) (elts := elts) (kk := kk) (tpos := tpos) k a e it []).obj
  keep := (turn_enumX (P := P) (w := w) (K := K) (elts := elts) (kk := kk) (tpos := tpos) k a e it []).keep
  item := fun X h1 h2 h3 h4 i pins s σ H E I hf tn ⟨xs, hq, hl⟩ => by
    refine thn ((turn_enumX k a e it xs).item X h1 h2 h3 h4 i pins s σ H E I hf tn ⟨hq, hl⟩) fun r s1 ⟨u, e1, q⟩ => ⟨u, e1, thn q fun _ s2 ⟨x, H', I2, rx, ⟨T, y, e2, e3, e4, e5⟩, tn2, hb⟩ => ⟨x, H', I2, rx, ⟨T, y, e2, e3, e4, fun ys hys => ?_⟩, tn2, hb⟩⟩
    subst h3
    rw [sqx_inj I hys hq]; exact e5
  done := fun X h1 h2 h3 h4 i pins s σ H E I hf tn ⟨xs, hq, hl⟩ => (turn_enumX (elts := elts) (kk := kk) (tpos := tpos) k a e it xs).done X h1 h2 h3 h4 i pins s σ H E I hf tn ⟨hq, hl⟩
  self := (turn_enumX (P := P) (w := w) (K := K) (elts := elts) (kk := kk) (tpos := tpos) k a e it []).self
def iEnumY (K : PySem.W.Frag) (ta : TA) : TI := fun σ H R => ta σ H fun vs H1 => ∃ k a xs, vs = [.ref a] ∧ SqX k K H1 a xs ∧ R (IteY k K a) H1
theorem pi_enumY {X : Cx} {e : Expr} {ta : TA} {p pos tpos : Pos} {elts : List Expr} {kk : Nat} (hg : Gl X "enumerate") (hm : X.mg "enumerate" = none) (ha : PA X [e] ta) (hs : starEach [e] X.env = [(false, eval e X.env)] := by rfl) :
    PI X (.Tuple elts kk tpos) (.Call (.Name "enumerate" p) [e] [] pos) (iEnumY X.K ta) := by
  intro pins s σ H R I h
  refine Call_ (ld_blt I hg hm boot_enumerate (PyProof.Rows.callWith_type1 (thn (ha pos pins s σ H _ I h) fun us s1 ⟨vs, H1, I1, r1, q1⟩ => ?_) hs rfl))
  obtain ⟨k, a, xs, ex, hq, q⟩ := q1
  subst ex
  cases r1 with
  | cons r rr =>
    cases rr
    cases r
    obtain ⟨its, rv, p', hz⟩ := sqx I1 hq
    refine call_enumX p' fun h' he hit hk => wpAny_pyIter_enum he ?_
    have I2 : Inv X pins σ H1 { s1 with heap := h' } := I1.kept (t' := s1.toks) hk
    refine ⟨s1.heap.objs.size + 1, [s1.heap.objs.size + 1, s1.heap.objs.size], _, _, H1, rfl, I2, turn_enumY k a (s1.heap.objs.size + 1) s1.heap.objs.size, ⟨⟨.none, he⟩, hit, Nat.succ_ne_self _⟩, fun b hb => ?_, q⟩
    have e' : b = s1.heap.objs.size + 1 ∨ b = s1.heap.objs.size := by simpa using hb
    have hle : s1.heap.objs.size ≤ b := by
      rcases e' with z | z
      · rw [z]; exact Nat.le_add_right _ _
      · rw [z]; exact Nat.le_refl _
    exact I1.fpOk hle (I1.hok.fresh hle)
section
variable {X : Cx} {a b c e o i tg : Expr} {wa wb wc wo : WE} {pos : Pos}
/-- enumerate(xs) -/
def enumP (xs : List PV) : List PV := xs.zipIdx.map fun p => PV.tup [.int (p.2 : Nat), p.1]
theorem enumP_length (xs : List PV) : (enumP xs).length = xs.length := by simp [enumP]
theorem enumP_get {xs : List PV} {i : Nat} {x : PV} (h : (enumP xs)[i]? = some x) : ∃ y, xs[i]? = some y ∧ x = .tup [.int (i : Nat), y] := by
  unfold enumP at h
  rw [List.getElem?_map, List.getElem?_zipIdx] at h
  cases q : xs[i]? with
  | none => rw [q] at h; cases h
  | some y =>
    rw [q] at h
    cases h
    exact ⟨y, rfl, by simp⟩
def wEnum (w : WA) : WI := fun τ S R => w τ S fun vs S1 => ∃ x k xs, vs = [x] ∧ seqW S1 x = some (k, xs) ∧ R (enumP xs) (fun S' => seqW S' x = some (k, xs)) S1
theorem si_enum {w : WA} {p tpos : Pos} {elts : List Expr} {kk : Nat} (hg : Gl X "enumerate") (hm : X.mg "enumerate" = none) (ha : SA Ts X [a] w) (hs : starEach [a] X.env = [(false, eval a X.env)] := by rfl) : SI Ts X (.Tuple elts kk tpos) (.Call (.Name "enumerate" p) [a] [] pos) (wEnum w) := by
  refine ⟨pi_imp (pi_enumY hg hm ha.pa hs) fun σ H R q => ?_, fun τ S R R' q k => ha.mo _ _ _ _ q fun x S1 ⟨v, b, xs, e, h1, q⟩ => ⟨v, b, xs, e, h1, k _ _ _ q⟩⟩
  obtain ⟨M, S, τ, s, st, q⟩ := q
  refine runA ha.mo s st q fun v S1 M1 H1 u f t1 s1 r1 => ?_
  obtain ⟨x, k, xs, rfl, h1, f⟩ := f
  obtain ⟨u1, rfl, r2⟩ := r1.one
  obtain ⟨p, us, rfl, h4, r4⟩ := s1.seq h1 r2
  refine ⟨k, p, us, rfl, h4, f M1 H1 _ t1 s1 fun M2 S2 H2 t2 s2 hG => ?_⟩
  obtain ⟨ws, h5, r5⟩ := seq_later r2 t2 s2 hG
  refine ⟨fun i x hx => ?_, fun i hi => ⟨ws, h5, by rw [enumP_length] at hi; exact r5.none hi⟩⟩
  obtain ⟨y, hy, rfl⟩ := enumP_get hx
  obtain ⟨u, h6, r6⟩ := r5.get hy
  refine ⟨⟨ws, h5, (List.getElem?_eq_some_iff.mp h6).1⟩, fun u2 H3 yl => ?_⟩
  obtain ⟨T, x2, rfl, h7, rfl, h8⟩ := yl
  have h9 := h8 ws h5
  rw [h6] at h9
  cases h9
  obtain ⟨s3, t3⟩ := s2.beside (o := .tup [.int (i : Nat), u]) h7
  exact ⟨t3, s3, .tup (SqT.of upd_same) (.cons (.int _) (.cons (r6.stp t3) .nil))⟩
/-- zip(xs, ys) -/
def zipP (xs ys : List PV) : List PV := (xs.zip ys).map fun p => PV.tup [p.1, p.2]
def wZip (w : WA) : WI := fun τ S R => w τ S fun vs S1 => ∃ x y k xs l ys, vs = [x, y] ∧ seqW S1 x = some (k, xs) ∧ seqW S1 y = some (l, ys) ∧ R (zipP xs ys) (fun S' => seqW S' x = some (k, xs) ∧ seqW S' y = some (l, ys)) S1
end
end L4
set_option Elab.async false
set_option linter.all false
set_option maxRecDepth 100000
namespace L4
open PySem PySem.Spec PyProof.Rows L2 L3
section
variable {K : PySem.W.Frag} {M M' : Map} {S : Sto} {n n' : Nat} {H H' H0 : Hp} {D : Addr} {o : HO} {us us' : List V}
theorem Stp.notOwn (t : Stp Ts K M n H M' n' H') (h : ¬ Own M n D) (hd : H D = some o) : ¬ Own M' n' D := by
  rintro ⟨i, hi, e⟩
  by_cases c : i < n
  · rw [t.m i c, t.q i c] at e
    exact h ⟨i, c, e⟩
  · obtain ⟨p, q⟩ := t.new i (by omega) hi
    rcases e with rfl | rfl
    · rw [p] at hd; cases hd
    · rw [q] at hd; cases hd
theorem Sim.notT (s : Sim Ts K M S H) (hd : H D = some (.lst us)) : D ∉ Ts := fun z => by
  obtain ⟨ps, e, _⟩ := s.tab D z
  rw [hd] at e; cases e
theorem muts_lst (hd : H D = some (.lst us)) : ∀ x, H D = some x → muts x := fun x e => by rw [hd] at e; cases e; trivial
theorem Sim.side (s : Sim Ts K M S H) (h : ¬ Own M S.length D) (hd : H D = some (.lst us)) : Sim Ts K M S (upd H D (.lst us')) := by
  refine ⟨fun i ob hi => ?_, s.sep, fun P hP => ?_⟩
  · have hl := (List.getElem?_eq_some_iff.mp hi).1
    refine (s.ob i ob hi).mono (Nat.le_refl _) (fun _ _ => rfl) (fun a us h => sqt_upd h (muts_lst hd)) (fun a us h => scr_upd h (muts_lst hd)) (upd_ne ?_) (upd_ne ?_)
    · rintro rfl; exact h ⟨i, hl, .inl rfl⟩
    · rintro rfl; exact h ⟨i, hl, .inr rfl⟩
  · refine (s.tab P hP).keep (fun ps e => ?_) fun a oc c e => ?_
    · rw [upd_ne]; exact e
      rintro rfl; rw [hd] at e; cases e
    · rw [upd_ne]; exact e
      rintro rfl; rw [hd] at e; cases e
theorem Stp.side (t : Stp Ts K M n H0 M' n' H) (h0 : H0 D = none) (hd : H D = some (.lst us)) : Stp Ts K M n H0 M' n' (upd H D (.lst us')) where
  le := t.le
  m := t.m
  q := t.q
  tup := fun a us h => sqt_upd (t.tup a us h) (muts_lst hd)
  scr := fun a us h => scr_upd (t.scr a us h) (muts_lst hd)
  fr := fun a u h h1 h2 => by
    rw [upd_ne]; exact t.fr a u h h1 h2
    rintro rfl; rw [h0] at h; cases h
  grow := fun a h => t.grow a (none_upd h)
  new := t.new
theorem RPs.side {xs : List PV} {ws : List V} (r : RPs K M n H xs ws) (hd : H D = some (.lst us)) : RPs K M n (upd H D (.lst us')) xs ws := r.mono (Nat.le_refl _) (fun _ _ => rfl) (fun a us h => sqt_upd h (muts_lst hd)) (fun a us h => scr_upd h (muts_lst hd))
theorem StR.side {τ : Ev} {σ : L2.St} (r : StR K M n H τ σ) (hd : H D = some (.lst us)) : StR K M n (upd H D (.lst us')) τ σ := ⟨r.len, fun i v h => let ⟨u, h1, h2⟩ := r.get i v h; ⟨u, h1, h2.mono (Nat.le_refl _) (fun _ _ => rfl) (fun a us h => sqt_upd h (muts_lst hd)) (fun a us h => scr_upd h (muts_lst hd))⟩⟩
end
theorem wipe_twice (σ : L2.St) (vs : List Nat) : wipe (wipe σ vs) vs = wipe σ vs := by
  apply List.ext_getElem?
  intro j
  by_cases m : j ∈ vs
  · rw [wipe_in m, wipe_in m, wipe_length]
  · rw [wipe_out m]
def wYes : WT := fun _ S Q => Q true S
def wLcGo (g : WG) (wt : WT) (we : WE) (τ : Ev) (G : Sto → Prop) : List PV → List PV → Sto → (List PV → Sto → Prop) → Prop
  | [], acc, S, F => G S ∧ F acc S
  | x :: xs, acc, S, F => G S ∧ g x τ fun τ2 => wt τ2 S fun b S3 => if b = true then we τ2 S3 fun y S4 => wLcGo g wt we τ G xs (acc ++ [y]) S4 F else wLcGo g wt we τ G xs acc S3 F
theorem mo_lcGo {g : WG} {wt : WT} {we : WE} {τ : Ev} {G : Sto → Prop} (mg : MoG g) (mt : MoT wt) (me : MoE we) : ∀ (xs acc : List PV) (S : Sto) (F F' : List PV → Sto → Prop), wLcGo g wt we τ G xs acc S F → (∀ ys S', F ys S' → F' ys S') → wLcGo g wt we τ G xs acc S F'
  | [], acc, S, F, F', h, k => ⟨h.1, k _ _ h.2⟩
  | x :: xs, acc, S, F, F', h, k => ⟨h.1, mg _ _ _ _ h.2 fun τ2 h => mt _ _ _ _ h fun b S3 h => ite_imp h (fun h => me _ _ _ _ h fun y S4 h => mo_lcGo mg mt me xs _ _ _ _ h k) fun h => mo_lcGo mg mt me xs _ _ _ _ h k⟩
def wLcV (wi : WI) (g : WG) (wt : WT) (we : WE) (vs : List Nat) : WA := fun τ S F => wi τ S fun xs G S1 => xs.length ≤ 16777216 ∧ wLcGo g wt we (wipeW τ vs) G xs [] S1 F
theorem mo_lcV {wi : WI} {g : WG} {wt : WT} {we : WE} {vs : List Nat} (mi : MoI wi) (mg : MoG g) (mt : MoT wt) (me : MoE we) : MoA (wLcV wi g wt we vs) := fun τ S F F' h k => mi _ _ _ _ h fun xs G S1 h => ⟨h.1, mo_lcGo mg mt me _ _ _ _ _ h.2 k⟩
/-- a list that was made beside the store -/
def LcQ (Ts : List Addr) (K : PySem.W.Frag) (M : Map) (n : Nat) (H : Hp) (Q : VK) : List PV → Sto → Prop := fun ys S2 => ys.length ≤ 16777216 → ∀ M2 H2 D us, Stp Ts K M n H M2 S2.length H2 → Sim Ts K M2 S2 H2 → ¬ Own M2 S2.length D → H D = none → H2 D = some (.lst us) → RPs K M2 S2.length H2 ys us → Q (.ref D) H2
theorem lc_sound {K : PySem.W.Frag} {wi : WI} {g : TG} {wg : WG} {wt : WT} {we : WE} {vs : List Nat} (mi : MoI wi) (gr : GR K g wg vs) (mg : MoG wg) (mt : MoT wt) (me : MoE we) {M : Map} {S : Sto} {τ : Ev} {σ : L2.St} {H : Hp} {Q : VK} (s : Sim Ts K M S H) (st : StR K M S.length H τ σ)
    (h : wLcV wi wg wt we vs τ S (LcQ Ts K M S.length H Q)) : tLc (upI Ts K wi) g (upT Ts K wt) (upE Ts K we) vs σ H Q := by
  refine ⟨M, S, τ, s, st, mi _ _ _ _ h fun xs G S1 ⟨hlen, f⟩ M1 H1 J t1 s1 it D hD => ?_⟩
  obtain ⟨s1', t1'⟩ := s1.beside (o := .lst []) hD
  have hf := s1.free hD
  refine ⟨fun i m H2 => m = xs.length - i ∧ i ≤ xs.length ∧ ∃ M2 S2 acc us, Stp Ts K M1 S1.length H1 M2 S2.length H2 ∧ Sim Ts K M2 S2 H2 ∧ ¬ Own M2 S2.length D ∧ H2 D = some (.lst us) ∧ RPs K M2 S2.length H2 acc us ∧ acc.length ≤ i ∧ wLcGo wg wt we (wipeW τ vs) G (xs.drop i) acc S2 (LcQ Ts K M S.length H Q),
    ⟨_, rfl, Nat.zero_le _, M1, S1, [], [], t1', s1', hf.1, upd_same, .nil, Nat.le_refl _, f⟩, ?_⟩
  rintro i m H2 ⟨rfl, hil, M2, S2, acc, us, t2, s2, no, hD2, ra, hal, q2⟩
  by_cases hl : i < xs.length
  · obtain ⟨x, hx⟩ : ∃ x, xs[i]? = some x := ⟨xs[i], by simp [hl]⟩
    have ed : xs.drop i = x :: xs.drop (i + 1) := by
      rw [List.drop_eq_getElem_cons hl]
      have := List.getElem?_eq_getElem hl
      rw [hx] at this
      rw [Option.some.inj this]
    rw [ed] at q2
    obtain ⟨hG, q2⟩ := q2
    obtain ⟨h1, _⟩ := it M2 S2 H2 t2.w s2 hG
    obtain ⟨hgo, hy⟩ := h1 i x hx
    refine .inr ⟨hgo, fun H3 => ∃ M2 S2 acc us, Stp Ts K M1 S1.length H1 M2 S2.length H3 ∧ Sim Ts K M2 S2 H3 ∧ ¬ Own M2 S2.length D ∧ H3 D = some (.lst us) ∧ RPs K M2 S2.length H3 acc us ∧ acc.length ≤ i + 1 ∧ wLcGo wg wt we (wipeW τ vs) G (xs.drop (i + 1)) acc S2 (LcQ Ts K M S.length H Q), fun H3 h => ⟨_, ?_, rfl, hl, h⟩, fun u H3 yl => ?_⟩
    · omega
    · obtain ⟨t3, s3, r3⟩ := hy u H3 yl
      have hD3 := t3.fr D _ hD2 no (s2.notT hD2)
      have st3 : StR K M2 S2.length H3 (wipeW τ vs) (wipe σ vs) := (((st.stp t1).stp t2).stp t3).wipe vs
      refine gr M2 S2.length H3 _ _ x u _ _ st3 r3 q2 fun τ4 σ4 q4 st4 e4 => ⟨by rw [e4]; exact wipe_twice σ vs, ?_⟩
      refine runT mt s3 st4 q4 fun b S5 M5 H5 f5 t5 s5 => ?_
      have no5 := t5.notOwn no hD3
      have hD5 := t5.fr D _ hD3 no (s3.notT hD3)
      refine ite_imp f5 (fun f5 => ?_) fun f5 => ⟨M5, S5, acc, us, (t2.trans t3).trans t5, s5, no5, hD5, (ra.stp t3).stp t5, by omega, f5⟩
      refine runE me s5 (st4.stp t5) f5 fun y S6 M6 H6 uy f6 t6 s6 r6 => ?_
      have no6 := t6.notOwn no5 hD5
      have hD6 := t6.fr D _ hD5 no5 (s5.notT hD5)
      have ra6 := ((ra.stp t3).stp t5).stp t6
      have el := ra6.length
      refine ⟨us, hD6, by rw [sizeLine_eq, ← el]; omega, M6, S6, acc ++ [y], us ++ [uy], (((t2.trans t3).trans t5).trans t6).side hD hD6, s6.side no6 hD6, no6, upd_same, ?_, by rw [List.length_append, List.length_singleton]; omega, f6⟩
      exact (ra6.append (.cons r6 .nil)).side hD6
  · have : i = xs.length := by omega
    subst this
    rw [List.drop_length] at q2
    obtain ⟨hG, q2⟩ := q2
    obtain ⟨_, h1⟩ := it M2 S2 H2 t2.w s2 hG
    exact .inl ⟨h1 _ (Nat.le_refl _), q2 (by omega) M2 H2 D us (t1.trans t2) s2 no (t1.grow D hD) hD2 ra⟩
end L4
set_option Elab.async false
set_option linter.all false
set_option maxRecDepth 100000
namespace L4
open PySem PySem.Spec PyProof.Rows L2 L3
section
variable {X : Cx} {a b c e elt iter tg : Expr} {ifs : List Expr} {scope : Scope} {own : List (Str × Nat)} {pos : Pos} {wi : WI} {g : TG} {wg : WG} {wt : WT} {we : WE}
structure STs (Ts : List Addr) (X : Cx) (ifs : List Expr) (w : WT) : Prop where
  pt : PTs X ifs (upT Ts X.K w)
  mo : MoT w
theorem sts_nil : STs Ts X [] wYes := ⟨fun pins s σ H Q I ⟨M, S, τ, s0, st, h⟩ => pts_nil pins s σ H Q I (h M H (.refl _ _ _ _) s0), fun τ S Q Q' h k => k _ _ h⟩
theorem sts_one (h : ST Ts X c wt) : STs Ts X [c] wt := ⟨pts_one h.pt, h.mo⟩
theorem mo_of {Y : Shared → Hp → Addr → List (Str × Addr) → List Addr → Cx} {elt : Expr} {we : WE} (X : Cx) (he : ∀ s H C cl fp, SE Ts (Y s H C cl fp) elt we) : MoE we := (he X.s_0 X.H_0 0 [] []).mo
theorem mt_of {Y : Shared → Hp → Addr → List (Str × Addr) → List Addr → Cx} {ifs : List Expr} {wt : WT} (X : Cx) (he : ∀ s H C cl fp, STs Ts (Y s H C cl fp) ifs wt) : MoT wt := (he X.s_0 X.H_0 0 [] []).mo
/-- the list, then what is done with it -/
def wLc (wi : WI) (g : WG) (wt : WT) (we : WE) (vs : List Nat) : WE := fun τ S Q => wLcV wi g wt we vs τ S fun ys S2 => Q (.ref S2.length) (S2 ++ [.lst ys])
theorem lc_take {K : PySem.W.Frag} {M : Map} {n : Nat} {H : Hp} {Q : VK} {ys : List PV} {S2 : Sto} (h : upQ Ts K M n H Q (.ref S2.length) (S2 ++ [.lst ys])) : LcQ Ts K M n H Q ys S2 := fun _ M2 H2 D us t s no h0 hD r => by
  have s' : Sim Ts K (M2.add S2.length D D) (S2 ++ [.lst ys]) H2 := s.take no no ⟨rfl, us, hD, r.mono (by omega) (fun j hj => M2.add_m' hj) (fun _ _ h => h) (fun _ _ h => h)⟩
  have t' : Stp Ts K M n H (M2.add S2.length D D) (S2 ++ [Ob.lst ys]).length H2 := by
    rw [List.length_append, List.length_singleton]
    exact t.take h0 h0
  refine h _ _ _ t' s' ?_
  have := RP.ref (K := K) (M := M2.add S2.length D D) (n := (S2 ++ [Ob.lst ys]).length) (H := H2) (i := S2.length) (by simp)
  rw [M2.add_m] at this
  exact this
theorem se_lc (hc : X.calm = true) (hN : X.N.Nodup) (hi : SI Ts X tg iter wi) (ok : BlkOk X.N X.env.scope scope own)
    (hg : ∀ (s : Shared) (H : Hp) (C : Addr) (cl : List (Str × Addr)) (fp : List Addr), PG (X.blk s H scope (compEnvC scope cl C X.env) fp) tg g) (gr : GR X.K g wg (own.map (·.2))) (mg : MoG wg)
    (ht : ∀ (s : Shared) (H : Hp) (C : Addr) (cl : List (Str × Addr)) (fp : List Addr), STs Ts (X.blk s H scope (compEnvC scope cl C X.env) fp) ifs wt)
    (he : ∀ (s : Shared) (H : Hp) (C : Addr) (cl : List (Str × Addr)) (fp : List Addr), SE Ts (X.blk s H scope (compEnvC scope cl C X.env) fp) elt we) (hs : ∀ x, foldedSetIterable iter X.env x = pure x := by intro _; rfl) :
    SE Ts X (.ListComp elt [⟨tg, iter, ifs, 0⟩] scope pos) (wLc wi wg wt we (own.map (·.2))) := by
  have mt := mt_of X ht
  have me := mo_of X he
  refine ⟨pe_imp (pe_lc (te := upE Ts X.K we) (tt := upT Ts X.K wt) hc hN hi.pi ok hg (fun s H C cl fp => (ht s H C cl fp).pt) (fun s H C cl fp => (he s H C cl fp).pe) hs) fun σ H Q h => ?_, fun τ S Q Q' h k => mo_lcV hi.mo mg mt me _ _ _ _ h fun ys S2 h => k _ _ h⟩
  obtain ⟨M, S, τ, s, st, h⟩ := h
  exact lc_sound hi.mo gr mg mt me s st (mo_lcV hi.mo mg mt me _ _ _ _ h fun ys S2 h => lc_take h)
/-- name = [..] -/
theorem ss_setLc {i : Nat} {y : Str} {py spos : Pos} (hc : X.calm = true) (hN : X.N.Nodup) (hy : X.N[i]? = some y) (hyl : X.env.scope.names.lookup y = some .local)
    (hsw : swapsWith (.ListComp elt [⟨tg, iter, ifs, 0⟩] scope pos) (some (.Name y py)) spos.line X.env = pure true) (hi : SI Ts X tg iter wi) (ok : BlkOk X.N X.env.scope scope own)
    (hg : ∀ (s : Shared) (H : Hp) (C : Addr) (cl : List (Str × Addr)) (fp : List Addr), PG (X.blk s H scope (compEnvC scope cl C X.env) fp) tg g) (gr : GR X.K g wg (own.map (·.2))) (mg : MoG wg)
    (ht : ∀ (s : Shared) (H : Hp) (C : Addr) (cl : List (Str × Addr)) (fp : List Addr), STs Ts (X.blk s H scope (compEnvC scope cl C X.env) fp) ifs wt)
    (he : ∀ (s : Shared) (H : Hp) (C : Addr) (cl : List (Str × Addr)) (fp : List Addr), SE Ts (X.blk s H scope (compEnvC scope cl C X.env) fp) elt we) (hs : ∀ x, foldedSetIterable iter X.env x = pure x := by intro _; rfl) :
    SS Ts X (.Assign [.Name y py] (.ListComp elt [⟨tg, iter, ifs, 0⟩] scope pos) spos) (wAsg (wLc wi wg wt we (own.map (·.2))) (wgName i)) := by
  have mt := mt_of X ht
  have me := mo_of X he
  have mw : MoE (wLc wi wg wt we (own.map (·.2))) := fun τ S Q Q' h k => mo_lcV hi.mo mg mt me _ _ _ _ h fun ys S2 h => k _ _ h
  refine ⟨ps_imp (ps_setLc (te := upE Ts X.K we) (tt := upT Ts X.K wt) hc hN hy hyl hsw hi.pi ok hg (fun s H C cl fp => (ht s H C cl fp).pt) (fun s H C cl fp => (he s H C cl fp).pe) hs) fun D σ H h => ?_, mo_asg mw (mg_name i)⟩
  obtain ⟨M, S, τ, s, st, h⟩ := h
  refine lc_sound hi.mo gr mg mt me s st (mo_lcV hi.mo mg mt me _ _ _ _ h fun ys S2 h => lc_take fun M1 H1 u t1 s1 r1 => ?_)
  exact h M1 H1 _ t1 s1 ((st.stp t1).set r1 i)
structure SCL (Ts : List Addr) (X : Cx) (f : Value) (r : WC) : Prop where
  ex : ∃ R, CallR X f R ∧ ∀ (M : Map) (S : Sto) (H : Hp) (ys : List PV) (us : List V) (D : Addr) (Q : VK), Sim Ts X.K M S H → H D = some (.lst us) → ys.length ≤ 16777216 → RPs X.K M S.length H ys us → r ys S (upQ Ts X.K M S.length H Q) → R [.ref D] H Q
  mo : ∀ (xs : List PV) (S : Sto) (Q Q' : WQ), r xs S Q → (∀ v S', Q v S' → Q' v S') → r xs S Q'
def wLcU (r : WC) (wi : WI) (g : WG) (wt : WT) (we : WE) (vs : List Nat) : WE := fun τ S Q => wLcV wi g wt we vs τ S fun ys S2 => r ys S2 Q
section
variable {f : Value} {r : WC} {x : Str} {p lpos : Pos}
theorem lcu_core {R : List V → Hp → VK → Prop} {t : TE} (hm : ∀ (xs : List PV) (S : Sto) (Q Q' : WQ), r xs S Q → (∀ v S', Q v S' → Q' v S') → r xs S Q')
    (snd : ∀ (M : Map) (S : Sto) (H : Hp) (ys : List PV) (us : List V) (D : Addr) (Q : VK), Sim Ts X.K M S H → H D = some (.lst us) → ys.length ≤ 16777216 → RPs X.K M S.length H ys us → r ys S (upQ Ts X.K M S.length H Q) → R [.ref D] H Q)
    {M : Map} {S : Sto} {H : Hp} {Q : VK} {ys : List PV} {S2 : Sto} (h : r ys S2 (upQ Ts X.K M S.length H Q)) : LcQ Ts X.K M S.length H (fun v H' => R [v] H' Q) ys S2 :=
  fun hl M2 H2 D us t s no h0 hD rr => snd M2 S2 H2 ys us D Q s hD hl rr (hm _ _ _ _ h fun v S3 h => h.base t)
theorem se_lcTy {T : String} (hcl : SCL Ts X (.type T) r) (hgx : Gl X x) (hm : X.mg x = none) (hv : bootBuiltins x = some (.type T)) (hc : X.calm = true) (hN : X.N.Nodup) (hi : SI Ts X tg iter wi) (ok : BlkOk X.N X.env.scope scope own)
    (hg : ∀ (s : Shared) (H : Hp) (C : Addr) (cl : List (Str × Addr)) (fp : List Addr), PG (X.blk s H scope (compEnvC scope cl C X.env) fp) tg g) (gr : GR X.K g wg (own.map (·.2))) (mg : MoG wg)
    (ht : ∀ (s : Shared) (H : Hp) (C : Addr) (cl : List (Str × Addr)) (fp : List Addr), STs Ts (X.blk s H scope (compEnvC scope cl C X.env) fp) ifs wt)
    (he : ∀ (s : Shared) (H : Hp) (C : Addr) (cl : List (Str × Addr)) (fp : List Addr), SE Ts (X.blk s H scope (compEnvC scope cl C X.env) fp) elt we) (hs : ∀ x, foldedSetIterable iter X.env x = pure x := by intro _; rfl)
    (hn : x ≠ "__name__" := by decide) (hdb : (x == ("__debug__" : Str)) = false := by decide)
    (hst : starEach [Expr.ListComp elt [⟨tg, iter, ifs, 0⟩] scope lpos] X.env = (false, eval (Expr.ListComp elt [⟨tg, iter, ifs, 0⟩] scope lpos) X.env) :: starEach [] X.env := by rfl) :
    SE Ts X (.Call (.Name x p) [.ListComp elt [⟨tg, iter, ifs, 0⟩] scope lpos] [] pos) (wLcU r wi wg wt we (own.map (·.2))) := by
  obtain ⟨R, o, snd⟩ := hcl.ex
  have mt := mt_of X ht
  have me := mo_of X he
  refine ⟨pe_imp (pe_callTy o hgx hm hv (pa_cons (pe_lc (te := upE Ts X.K we) (tt := upT Ts X.K wt) hc hN hi.pi ok hg (fun s H C cl fp => (ht s H C cl fp).pt) (fun s H C cl fp => (he s H C cl fp).pe) hs) pa_nil hst) hn hdb hst (by rfl)) fun σ H Q h => ?_, fun τ S Q Q' h k => mo_lcV hi.mo mg mt me _ _ _ _ h fun ys S2 h => hcl.mo _ _ _ _ h k⟩
  obtain ⟨M, S, τ, s, st, h⟩ := h
  exact lc_sound hi.mo gr mg mt me s st (mo_lcV hi.mo mg mt me _ _ _ _ h fun ys S2 h => lcu_core (t := upE Ts X.K we) hcl.mo snd h)
end
def uTuple : WC := fun ys S Q => Q (.tup ys) S
theorem u_tuple : SCL Ts X (.type "tuple") uTuple := ⟨⟨_, call_tuple_of, fun M S H ys us D Q s hD hl r h => ⟨D, us, rfl, .inl ⟨SqL.of hD, upQ.tup h s r⟩⟩⟩, fun xs S Q Q' h k => k _ _ h⟩
def uAll : WC := fun ys S Q => ∃ bs : List Bool, ys = bs.map PV.bl ∧ Q (.bl (bs.all id)) S
def uAny : WC := fun ys S Q => ∃ bs : List Bool, ys = bs.map PV.bl ∧ Q (.bl (bs.any id)) S
def uSum : WC := fun ys S Q => ∃ ns : List Int, ys = ns.map PV.int ∧ Q (.int ns.sum) S
end
end L4
set_option Elab.async false
set_option linter.all false
set_option maxRecDepth 100000
namespace L4
open PySem PySem.Spec PyProof.Rows L2 L3
def spW (Ts : List Addr) (K : PySem.W.Frag) (wf : WC) : Sp := fun vs H Q _ => ∃ M S pvs, Sim Ts K M S H ∧ RPs K M S.length H pvs vs ∧ wf pvs S (upQ Ts K M S.length H Q)
abbrev MoC (wf : WC) : Prop := ∀ (xs : List PV) (S : Sto) (Q Q' : WQ), wf xs S Q → (∀ v S', Q v S' → Q' v S') → wf xs S Q'
structure DefW (Ts : List Addr) (P : Program) (w : World) (K : PySem.W.Frag) (mg : Str → Option Value) (base : Heap) (x : Str) (k : Nat) (ps : List Str) (wf : WC) : Prop where
  d : Def P w K mg base x k ps (spW Ts K wf)
  mo : MoC wf
section
variable {X : Cx} {e : Expr} {es : List Expr} {w : WA} {pos p : Pos}
theorem se_def {x : Str} {k : Nat} {ps : List Str} {wf : WC} (D : DefW Ts X.prog X.w X.K X.mg X.base x k ps wf) (hr : Room k X.A) (hg : Gl X x) (ha : SA Ts X (e :: es) w)
    (hdb : (x == ("__debug__" : Str)) = false := by decide) (he : starEach (e :: es) X.env = (false, eval e X.env) :: starEach es X.env := by rfl) (hpl : (backTo pos (starEach es X.env)).any (·.1) = false := by rfl) : SE Ts X (.Call (.Name x p) (e :: es) [] pos) (wCall wf w) := by
  refine ⟨pe_imp (pe_def D.d hr hg ha.pa hdb he hpl) fun σ H Q h => ?_, mo_call D.mo ha.mo⟩
  obtain ⟨M, S, τ, s, st, h⟩ := h
  refine runA ha.mo s st h fun vs S1 M1 H1 us f t1 s1 r1 => ?_
  show spW Ts X.K wf (us ++ []) H1 Q _
  rw [List.append_nil]
  exact ⟨M1, S1, vs, s1, r1, D.mo _ _ _ _ f fun v S2 h => h.base t1⟩
end
/-- the newest things may be forgotten at the end -/
def Fg (n : Nat) (Q : WQ) : WQ := fun v S => Q v S ∨ ∃ k, n ≤ k ∧ k ≤ S.length ∧ v.Cl k ∧ Closed k (S.take k) ∧ Q v (S.take k)
theorem fg_here {n : Nat} {Q : WQ} {v : PV} {S : Sto} (h : Q v S) : Fg n Q v S := .inl h
theorem fg_drop {Q : WQ} {v : PV} {S G : Sto} (c : Closed S.length S) (hv : v.Cl S.length) (h : Q v S) : Fg S.length Q v (S ++ G) := by
  refine .inr ⟨S.length, Nat.le_refl _, by simp, hv, ?_, ?_⟩
  · rw [List.take_left]; exact c
  · rw [List.take_left]; exact h
def endsW (n : Nat) (Q : WQ) : WEnds := ⟨fun _ S => Fg n Q .non S, Fg n Q, fun _ _ => False, fun _ _ => False⟩
theorem fg_use {K : PySem.W.Frag} {M : Map} {S S1 : Sto} {H : Hp} {Q : VK} {v : PV} (h : Fg S.length (upQ Ts K M S.length H Q) v S1) {M1 : Map} {H1 : Hp} {u : V} (t : Stp Ts K M S.length H M1 S1.length H1) (s : Sim Ts K M1 S1 H1) (r : RP K M1 S1.length H1 v u) : Q u H1 := by
  rcases h with h | ⟨k, h1, h2, h3, h4, h⟩
  · exact h M1 H1 u t s r
  · have hl : (S1.take k).length = k := by rw [List.length_take]; omega
    have e : S1 = S1.take k ++ S1.drop k := (List.take_append_drop k S1).symm
    rw [e] at s
    have s' := Sim.forget s (by rw [hl]; exact h4)
    refine h M1 H1 u ?_ s' ?_
    · rw [hl]; exact t.forget h1 h2
    · rw [hl]; exact r.cut h3
theorem ok_body {P : Program} {w : World} {K : PySem.W.Frag} {mg : Str → Option Value} {base : Heap} {x qual : Str} {st : Stmt} {f : Addr} {fd : FuncData} {N ps : List Str} {k : Nat} {wf : WC} (F : Fun K x qual st f fd) (Sc : FnScope N ps (defScope st)) (len : ∀ pvs S Q, wf pvs S Q → pvs.length = ps.length)
    (hb : ∀ (cdv : Value) (A : Around) (outer : List Env) (s : Shared) (H : Hp) (E : XK), Room k (A.deeper (envOfC qual (defScope st) s.heap.objs.size f cdv)) →
      ∃ wb : WS, SSs Ts (cxOf CX0 P w K mg base N qual (defScope st) f cdv A outer s H E).nox (defBody st) wb ∧ ∀ pvs S Q, Closed S.length S → Cls S.length pvs → wf pvs S Q → wb (endsW S.length Q) (startW N.length pvs) S) :
    FnOk P w K mg base CX0 (k + 1) f fd ps (spW Ts K wf) := by
  refine F.ok Sc (fun vs H Q E h => ?_) (fun cdv A outer s H vs Q E hr h => ?_)
  · obtain ⟨M, S, pvs, sm, r, h⟩ := h
    rw [← r.length]; exact len _ _ _ h
  · obtain ⟨M, S, pvs, sm, r, h⟩ := h
    obtain ⟨wb, hwb, k⟩ := hb cdv A outer s H E hr
    refine ⟨_, hwb.ps, M, S, startW N.length pvs, sm, r.start, ?_⟩
    refine hwb.mo _ _ _ _ (k pvs S _ sm.closed r.cl h) ⟨?_, ?_, ?_, ?_⟩
    · exact fun τ1 S1 q M1 H1 σ1 t1 s1 st1 => fg_use q t1 s1 .non
    · exact fun v S1 q M1 H1 u t1 s1 r1 => fg_use q t1 s1 r1
    · exact fun τ1 S1 q => q.elim
    · exact fun τ1 S1 q => q.elim
theorem law_callW {P : Program} {w : World} {K : PySem.W.Frag} {mg mb : Str → Option Value} {CX : CXT} {k : Nat} {fa a : Addr} {fd : FuncData} {x : Str} {sp : Sp} {s₁ : Shared} {vs : List Value} {ns : List Int} {Ts : List Addr}
    (KX : K.In s₁.heap) (hns : s₁.heap.Ns mainGlobals mg) (hb : s₁.heap.Ns builtinsNs mb) (hbb : ∀ x : Str, x ≠ "__name__" → mb x = bootBuiltins x) (hlim : s₁.heap.NoLimit) (hg : s₁.gens = #[])
    (ha : s₁.heap.get? a = some { cls := .type "list", data := .seq vs.toArray }) (hi : IntsAre vs ns) (hl : ns.length ≤ sizeLine) (hr : Room k callerA)
    (hT : ∀ P ∈ Ts, TabAt K s₁.heap P) (hM : ∃ bm ob, BMod s₁.heap mainGlobals mg bm ob)
    (F : ∀ base : Heap, K.In base → base.Ns mainGlobals mg → (∃ bm ob, BMod base mainGlobals mg bm ob) → FnOk P w K mg base CX k fa fd [x] sp) (hbind : ∀ (s : Shared) (u : Value), BindsTo s fd ⟨[u], []⟩ [(x, u)])
    (hsp : ∀ H : Hp, (∀ P ∈ Ts, H P = some (.tbl #[])) → Scr K H a ns → sp [.ref a] H (fun v _ => v = .bl true) fun _ _ _ => False)
    (hCX : ∀ H e s', CX [] H s₁ (fun _ _ _ => False) e s' → False) :
    codeAny (model P w) callerA (.call (.ref fa) ⟨[.ref a], []⟩) (fun r s' => r = .ok (.ret (.bool true)) ∧ OldK s₁.heap s'.heap ∧ s'.os = s₁.os ∧ AllBare s'.gens) s₁ := by
  have rv := vals_ints hi
  have lenV := hi.length
  have nTa : a ∉ Ts := fun z => by
    have := (hT a z).tab
    rw [ha] at this; cases this
  have core : ∀ H : Hp, OnlyT Ts H → (∀ P ∈ Ts, H P = some (.tbl #[])) → Scr K H a ns → HOk P w H s₁.heap → (∀ b, H b ≠ none → b = a ∨ b ∈ Ts) → (H a ≠ none → K.lookup a = none) →
      codeAny (model P w) callerA (.call (.ref fa) ⟨[.ref a], []⟩) (fun r s' => r = .ok (.ret (.bool true)) ∧ OldK s₁.heap s'.heap ∧ s'.os = s₁.os ∧ AllBare s'.gens) s₁ := by
    intro H hO hTs hS hok hA hK
    have base_of : ∀ {b : Addr} {o : Obj}, s₁.heap.get? b = some o → H b = none → (hidT s₁.heap H).get? b = some o := fun e n => hidT_get e n
    have noA : ∀ {b : Addr} {o : Obj}, s₁.heap.get? b = some o → ((∃ es ep, o.data = .dict es ep) ∨ o.data = .plain) → H b = none := fun {b o} e d => by
      cases q : H b with
      | none => rfl
      | some u =>
        rcases hA b (by rw [q]; simp) with e' | e'
        · subst e'
          rw [ha] at e; cases e
          rcases d with ⟨es, ep, d⟩ | d
          · have d' : Data.seq vs.toArray _ = Data.dict es ep := d
            cases d'
          · have d' : Data.seq vs.toArray _ = Data.plain := d
            cases d'
        · rw [(hT b e').tab] at e; cases e
          rcases d with ⟨es, ep, d⟩ | d
          · have d' : Data.fields #[] = Data.dict es ep := d
            cases d'
          · have d' : Data.fields #[] = Data.plain := d
            cases d'
    have nsK : ∀ {b : Addr} {m : Str → Option Value}, s₁.heap.Ns b m → (hidT s₁.heap H).Ns b m := fun {b m} ⟨o, es, ep, e, d, r⟩ => ⟨o, es, ep, base_of e (noA e (.inl ⟨es, ep, d⟩)), d, r⟩
    have hKb : K.In (hidT s₁.heap H) := fun b o e => base_of (KX b o e) (by
      cases q : H b with
      | none => rfl
      | some u =>
        rcases hA b (by rw [q]; simp) with e' | e'
        · subst e'
          rw [hK (by rw [q]; simp)] at e; cases e
        · rw [(hT b e').out] at e; cases e)
    have hMb : ∃ bm ob, BMod (hidT s₁.heap H) mainGlobals mg bm ob := by
      obtain ⟨bm, ob, B⟩ := hM
      exact ⟨bm, ob, nsK B.ns, B.name, B.ne, base_of B.obj (noA B.obj (.inr B.data)), B.cls, B.dict, B.data⟩
    have hMd : Mod K mg (hidT s₁.heap H) := ⟨hKb, nsK hns, ⟨mb, nsK hb, hbb⟩, let ⟨mc, h1, h2⟩ := hlim; ⟨mc, nsK h1, h2⟩⟩
    have e0 : Env0 P w K mg (hidT s₁.heap H) callerA [] s₁ H := ⟨rfl, hMd, fun b o e => of_hidT e, Nat.le_of_eq (hidT_size _ _), trivial, fun b hb => absurd (show b ∈ ([] : List Addr) from hb) (by simp), hok, .of_eq hg⟩
    refine codeAny_mono ((F _ hKb (nsK hns) hMb).run callerA [] s₁ H ⟨[.ref a], []⟩ [.ref a] [.ref a] _ _ hr e0 (hbind s₁ (.ref a)) (.cons rfl .nil) (hsp H hTs hS)) fun r s' h => ?_
    cases r with
    | error e => exact (hCX H e s' h).elim
    | ok fl =>
      cases fl with
      | next => exact False.elim h
      | brk => exact False.elim h
      | cont => exact False.elim h
      | ret u =>
        obtain ⟨v, H', os, bare, un, hok', r', q⟩ := h
        have q' : v = .bl true := q
        subst q'
        obtain rfl : u = Value.bool true := r'
        have what : ∀ b o, s₁.heap.get? b = some o → asItWas s₁.heap s'.heap b o ∧ ∃ o', s'.heap.get? b = some o' := fun b o e => by
          rcases hO b with z | ⟨ob, xs, z⟩ | ⟨hm, z⟩
          · have := un.keep b o e z (by intro z; exact absurd (show b ∈ ([] : List Addr) from z) (by simp)) (by simp)
            exact ⟨.inl this, _, this⟩
          · have z2 := un.frzs b ob _ z
            obtain ⟨e1, _⟩ := hok b _ z
            obtain ⟨e2, _⟩ := hok' b _ z2
            rw [e] at e1; cases e1
            exact ⟨.inl e2, _, e2⟩
          · obtain ⟨more, z2⟩ := un.tbls b _ z
            have e2 : s'.heap.get? b = some { cls := .none, data := .fields (#[] ++ more) } := hok' b _ z2
            rw [(hT b hm).tab] at e; cases e
            exact ⟨.inr (.inl ⟨(hT b hm).is, rfl, #[], more, rfl, e2⟩), _, e2⟩
        exact ⟨rfl, ⟨fun b o e => (what b o e).1, fun b o e => (what b o e).2⟩, os, bare⟩
  cases hk : K.lookup a with
  | some o =>
    have e := KX a o hk
    rw [ha] at e
    cases e
    refine core (fun b => if b ∈ Ts then some (.tbl #[]) else none) (fun b => ?_) (fun P hP => if_pos hP) (.inr ⟨_, vs.toArray, _, hk, rfl, rfl, rfl, by rw [List.size_toArray, lenV]; exact hl, by simpa using rv⟩) (fun b u z => ?_) (fun b z => ?_) fun z => absurd (if_neg nTa) z
    · by_cases hb : b ∈ Ts
      · exact .inr (.inr ⟨hb, if_pos hb⟩)
      · exact .inl (if_neg hb)
    · by_cases hb : b ∈ Ts
      · have z' := (if_pos hb).symm.trans z
        cases z'
        exact (hT b hb).tab
      · have z' := (if_neg hb).symm.trans z
        cases z'
    · by_cases hb : b ∈ Ts
      · exact .inr hb
      · exact absurd (if_neg hb) z
  | none =>
    have neTs : ∀ P ∈ Ts, P ≠ a := fun P hP e => nTa (e ▸ hP)
    refine core (fun b => if b = a then some (.frz { cls := .type "list", data := .seq vs.toArray } (.lst (ns.map V.int))) else if b ∈ Ts then some (.tbl #[]) else none) (fun b => ?_) (fun P hP => ?_) (.inl ⟨{ cls := .type "list", data := .seq vs.toArray }, if_pos rfl⟩) (fun b u z => ?_) (fun b z => ?_) fun _ => hk
    · by_cases hb : b = a
      · exact .inr (.inl ⟨_, _, if_pos hb⟩)
      · by_cases hT' : b ∈ Ts
        · exact .inr (.inr ⟨hT', (if_neg hb).trans (if_pos hT')⟩)
        · exact .inl ((if_neg hb).trans (if_neg hT'))
    · exact (if_neg (neTs P hP)).trans (if_pos hP)
    · by_cases hb : b = a
      · have z' := (if_pos hb).symm.trans z
        cases z'
        subst hb
        exact ⟨ha, by rw [List.length_map]; exact hl, vs, _, rv, ha⟩
      · by_cases hT' : b ∈ Ts
        · have z' : some (HO.tbl #[]) = some u := ((if_neg hb).trans (if_pos hT')).symm.trans z
          cases z'
          exact (hT b hT').tab
        · have z' : none = some u := ((if_neg hb).trans (if_neg hT')).symm.trans z
          cases z'
    · by_cases hb : b = a
      · exact .inl hb
      · by_cases hT' : b ∈ Ts
        · exact .inr hT'
        · exact absurd ((if_neg hb).trans (if_neg hT')) z
theorem walk_ofW {l : PySem.W.OpenLaw} {n k : Nat} {q : Program} {loose : List Str} {XP : (Str → Option Value) → Heap → Prop} {YP : World → Heap → Prop} {d : DefRec} {K : Params → PySem.W.Frag} {CX : World → CXT} {sp : World → List Addr → Sp} {x : Str}
    (hn : l.most = some n) (hn2 : n ≤ sizeLine) (hdf : d.params.defaults = []) (hr : Room k callerA)
    (hY : ∀ (w : World) (h : Heap), YP w h → (K w.params).In h)
    (F : ∀ (w : World) (mg : Str → Option Value) (fa : Addr) (h : Heap), (K w.params).In h → h.Ns mainGlobals mg → mg d.name = some (.ref fa) →
      (∀ d ∈ recsOf q, ∃ a o fd c P, mg d.name = some (.ref a) ∧ h.get? a = some o ∧ o.data = .func fd ∧ fd.code = .ref c ∧ h.IsCode c P #[] ∧ h.TableAt c P #[]) →
      ∃ (Ts : List Addr) (fd : FuncData), (∀ P ∈ Ts, TabAt (K w.params) h P) ∧ (∀ (s : Shared) (u : Value), BindsTo s fd ⟨[u], []⟩ [(x, u)]) ∧
        ∀ base : Heap, (K w.params).In base → base.Ns mainGlobals mg → (∃ bm ob, BMod base mainGlobals mg bm ob) → FnOk l.prog w (K w.params) mg base (CX w) k fa fd [x] (sp w Ts))
    (hsp : ∀ (w : World) (Ts : List Addr) (H : Hp) (a : Addr) (ns : List Int), ns.length ≤ n → (∀ P ∈ Ts, H P = some (.tbl #[])) → Scr (K w.params) H a ns → sp w Ts [.ref a] H (fun v _ => v = .bl true) fun _ _ _ => False)
    (hCX : ∀ (w : World) (H : Hp) (s : Shared) (e : Value) (s' : Shared), CX w [] H s (fun _ _ _ => False) e s' → False) :
    PySem.W.WalkO q loose XP YP l.row.toRowW d [] (fun f vs => PySem.call f vs) := by
  refine Att.attach_call hn hdf fun w s₀ s₁ mg mb fa o pm cd doc a vs ns G Y ho hd hcd hmg hobj hints hlen hg => ?_
  have KX := hY w _ Y
  obtain ⟨Ts, fd, hT, hb, hF⟩ := F w mg fa _ KX G.T.g hmg G.T.tab
  obtain ⟨bm, ob, b1, b2, b3, b4, b5, b6⟩ := G.T.bmain
  exact law_callW KX G.T.g G.T.b G.T.builtins G.T.nolimit hg hobj hints (Nat.le_trans hlen hn2) hr hT ⟨bm, ob, G.T.g, b1, b2, b3, b4, b5, b6⟩ hF hb (fun H hO hS => hsp w Ts H a ns hlen hO hS) fun H e s' => hCX w H s₁ e s'
def wLaw : WC := fun vs S Q => ∃ ns : List Int, vs = [.scr ns] ∧ ns.length ≤ 63 ∧ S = [] ∧ ∀ S', Q (.bl true) S'
theorem walkW {l : PySem.W.OpenLaw} {k : Nat} {q : Program} {loose : List Str} {XP : (Str → Option Value) → Heap → Prop} {YP : World → Heap → Prop} {d : DefRec} {K : Params → PySem.W.Frag} (hr : Room k callerA) (hn : l.most = some 63) (hdf : d.params.defaults = [])
    (hY : ∀ (w : World) (h : Heap), YP w h → (K w.params).In h)
    (F : ∀ (w : World) (mg : Str → Option Value) (fa : Addr) (h : Heap), (K w.params).In h → h.Ns mainGlobals mg → mg d.name = some (.ref fa) →
      (∀ d ∈ recsOf q, ∃ a o fd c P, mg d.name = some (.ref a) ∧ h.get? a = some o ∧ o.data = .func fd ∧ fd.code = .ref c ∧ h.IsCode c P #[] ∧ h.TableAt c P #[]) →
      ∃ (Ts : List Addr) (fd : FuncData), (∀ P ∈ Ts, TabAt (K w.params) h P) ∧ (∀ (s : Shared) (u : Value), BindsTo s fd ⟨[u], []⟩ [("script", u)]) ∧
        ∀ base : Heap, (K w.params).In base → base.Ns mainGlobals mg → (∃ bm ob, BMod base mainGlobals mg bm ob) → FnOk l.prog w (K w.params) mg base CX0 k fa fd ["script"] (spW Ts (K w.params) wLaw)) :
    PySem.W.WalkO q loose XP YP l.row.toRowW d [] (fun f vs => PySem.call f vs) :=
  walk_ofW (n := 63) (k := k) (x := "script") (CX := fun _ => CX0) (sp := fun w Ts => spW Ts (K w.params) wLaw) hn (by decide) hdf hr hY F (fun w Ts H a ns hl hT hS => ⟨⟨fun _ => 0, fun _ => 0⟩, [], [.scr ns], ⟨fun i o h => (by simp at h), fun i j h => (by simp at h), fun P hP => ⟨_, hT P hP, trivial, fun pos cv h => by cases h⟩⟩, .cons (.scr hS) .nil, ns, rfl, hl, rfl, fun S' M' H' u t s r => by cases r; rfl⟩) fun _ _ _ _ _ z => z
end L4
set_option Elab.async false
set_option linter.all false
set_option maxRecDepth 100000
namespace L4
open PySem PySem.Spec PyProof.Rows L2 L3
theorem sv {X : Cx} (i : Nat) {x : Str} {pos : Pos} (hN : X.N[i]? = some x := by rfl) (hv : Vis X.env.scope x := by first | exact Or.inl rfl | exact Or.inr (Or.inl rfl) | exact Or.inr (Or.inr rfl)) (hd : (x == ("__debug__" : Str)) = false := by decide)
    (hcd : (x == ("__classdict__" : Str)) = false := by decide) : SE Ts X (.Name x pos) (wVar i) := se_var hN hv hd hcd
theorem se_gint {X : Cx} {x : Str} {i : Int} {t : Tok} {pos : Pos} (hg : Gl X x) (hm : X.mg x = some (.int i t)) (hd : (x == ("__debug__" : Str)) = false := by decide) : SE Ts X (.Name x pos) (wC (.int i)) := se_c (pe_glob hg hm (v := .int i) ⟨_, rfl⟩ hd) fun _ _ _ => .int i
/-- a value of trees -/
def ctrF {α : Type} (enc : α → List PV) (pre : α → Sto → Prop) (f : α → PV) : WC := fun vs S Q => ∃ a, vs = enc a ∧ pre a S ∧ Q (f a) S
theorem mo_ctrF {α : Type} {enc : α → List PV} {pre : α → Sto → Prop} {f : α → PV} : MoC (ctrF enc pre f) := fun xs S Q Q' ⟨a, e, p, q⟩ k => ⟨a, e, p, k _ _ q⟩
section
variable {K : PySem.W.Frag} {M : Map} {S : Sto} {H H' : Hp}
theorem Sim.jarKp (s : Sim Ts K M S H) {j : Nat} (hj : S[j]? = some .jar) (h1 : Jar H' (M.m j) (M.q j)) (h2 : Kp (M.m j) (M.q j) H H') : Sim Ts K M S H' ∧ Stp Ts K M S.length H M S.length H' := by
  have hl := (List.getElem?_eq_some_iff.mp hj).1
  obtain ⟨cs, r, sd, t, e1, e2, e3⟩ := (show Jar H (M.m j) (M.q j) from s.ob j _ hj).ex
  obtain ⟨cs', r', sd', t', e1', e2', e3'⟩ := h1.ex
  have ht : ∀ a us, SqT K H a us → SqT K H' a us := fun a us h => by
    rcases h with (h | ⟨ob, h⟩) | h
    · exact .inl (.inl (h2 _ _ h (ne_of h e1 (by intro z; cases z)) (ne_of h e2 (by intro z; cases z))))
    · exact .inl (.inr ⟨ob, h2 _ _ h (ne_of h e1 (by intro z; cases z)) (ne_of h e2 (by intro z; cases z))⟩)
    · exact .inr h
  have hs : ∀ a us, Scr K H a us → Scr K H' a us := fun a us h => by
    rcases h with ⟨ob, h⟩ | h
    · exact .inl ⟨ob, h2 _ _ h (ne_of h e1 (by intro z; cases z)) (ne_of h e2 (by intro z; cases z))⟩
    · exact .inr h
  refine ⟨⟨fun i o hi => ?_, s.sep, fun P hP => ?_⟩, ⟨Nat.le_refl _, fun _ _ => rfl, fun _ _ => rfl, ht, hs, fun a o h n1 n2 => ?_, fun a h => ?_, fun i h1 h2 => by omega⟩⟩
  · have hil := (List.getElem?_eq_some_iff.mp hi).1
    by_cases c : i = j
    · subst c
      rw [hj] at hi; cases hi
      exact h1
    · have sp := s.sep i j hil hl c
      have sp2 := s.sep j i hl hil (fun z => c z.symm)
      obtain ⟨⟨x, h3, _⟩, y, h4, _⟩ := (s.ob i o hi).at
      refine (s.ob i o hi).mono (Nat.le_refl _) (fun _ _ => rfl) ht hs ?_ ?_
      · rw [h3]; exact h2 _ _ h3 sp.1 sp.2.1
      · rw [h4]; exact h2 _ _ h4 (fun z => sp2.2.1 z.symm) sp.2.2
  · exact (s.tab P hP).keep (fun ps h => h2 _ _ h (ne_of h e1 (by intro z; cases z)) (ne_of h e2 (by intro z; cases z))) fun a oc c h => h2 _ _ h (ne_of h e1 (by intro z; cases z)) (ne_of h e2 (by intro z; cases z))
  · exact h2 a o h (fun z => n1 ⟨j, hl, .inl z⟩) (fun z => n1 ⟨j, hl, .inr z⟩)
  · by_cases c1 : a = M.m j
    · subst c1; rw [e1'] at h; cases h
    · by_cases c2 : a = M.q j
      · subst c2; rw [e2'] at h; cases h
      · cases q : H a with
        | none => rfl
        | some o => rw [h2 _ _ q c1 c2] at h; cases h
theorem Sim.ext (s : Sim Ts K M S H) (h : Same H H') : Sim Ts K M S H' ∧ Stp Ts K M S.length H M S.length H' := by
  have ht : ∀ a us, SqT K H a us → SqT K H' a us := fun a us e => by
    rcases e with (e | ⟨ob, e⟩) | e
    · exact .inl (.inl (h _ _ e))
    · exact .inl (.inr ⟨ob, h _ _ e⟩)
    · exact .inr e
  have hs : ∀ a us, Scr K H a us → Scr K H' a us := fun a us e => by
    rcases e with ⟨ob, e⟩ | e
    · exact .inl ⟨ob, h _ _ e⟩
    · exact .inr e
  refine ⟨⟨fun i o hi => ?_, s.sep, fun P hP => ?_⟩, ⟨Nat.le_refl _, fun _ _ => rfl, fun _ _ => rfl, ht, hs, fun a o e _ _ => h _ _ e, fun a e => ?_, fun i h1 h2 => by omega⟩⟩
  · obtain ⟨⟨x, h3, _⟩, y, h4, _⟩ := (s.ob i o hi).at
    exact (s.ob i o hi).mono (Nat.le_refl _) (fun _ _ => rfl) ht hs (by rw [h3]; exact h _ _ h3) (by rw [h4]; exact h _ _ h4)
  · exact (s.tab P hP).keep (fun ps e => h _ _ e) fun a oc c e => h _ _ e
  · cases q : H a with
    | none => rfl
    | some o => rw [h _ _ q] at e; cases e
end
/-- a number is drawn -/
def wPick : WC := fun vs S Q => ∃ (j : Nat) (n : Int), vs = [.ref j, .int n] ∧ S[j]? = some .jar ∧ 0 < n ∧ n < 10 ^ 60 ∧ ∀ f : Int, 0 ≤ f → f < n → Q (.int f) S
def wJar : WC := fun vs S Q => ∃ ns : List Int, vs = [.scr ns] ∧ Q (.ref S.length) (S ++ [.jar])
theorem mo_pick : MoC wPick := fun xs S Q Q' ⟨j, n, e, h1, h2, h3, q⟩ k => ⟨j, n, e, h1, h2, h3, fun f a b => k _ _ (q f a b)⟩
theorem mo_jar : MoC wJar := fun xs S Q Q' ⟨ns, e, q⟩ k => ⟨ns, e, k _ _ q⟩
theorem pick_imp {K : PySem.W.Frag} {spP : Sp} (h : ∀ vs H Q E, (∃ (j c : Addr) (n : Int), vs = [.ref j, .int n] ∧ Jar H j c ∧ 0 < n ∧ n < 10 ^ 60 ∧ ∀ (f : Int) (H' : Hp), 0 ≤ f → f < n → Jar H' j c → Kp j c H H' → Q (.int f) H') → spP vs H Q E) : ∀ vs H Q E, spW Ts K wPick vs H Q E → spP vs H Q E := fun vs H Q E q => by
  obtain ⟨M, S, pvs, s, r, j, n, rfl, hj, h1, h2, q⟩ := q
  obtain ⟨u, v, rfl, r1, r2⟩ := r.two
  cases r1; cases r2
  refine h _ _ _ _ ⟨_, _, n, rfl, s.ob j _ hj, h1, h2, fun f H' a b J k => ?_⟩
  obtain ⟨s', t'⟩ := s.jarKp hj J k
  exact q f a b M H' _ t' s' (.int f)
theorem jar_imp {K : PySem.W.Frag} {spJ : Sp} (h : ∀ vs H Q E, (∃ (a : Addr) (ns : List Int), vs = [.ref a] ∧ SqL K H a (ns.map V.int) ∧ ∀ (j c : Addr) (H' : Hp), H j = none → H c = none → Same H H' → Jar H' j c → Q (.ref j) H') → spJ vs H Q E) : ∀ vs H Q E, spW Ts K wJar vs H Q E → spJ vs H Q E := fun vs H Q E q => by
  obtain ⟨M, S, pvs, s, r, ns, rfl, q⟩ := q
  obtain ⟨u, rfl, r1⟩ := r.one
  cases r1 with
  | scr r1 =>
    refine h _ _ _ _ ⟨_, ns, rfl, r1.sql, fun j c H' hj hc hs J => ?_⟩
    obtain ⟨s1, t1⟩ := s.ext hs
    have s2 : Sim Ts K (M.add S.length j c) (S ++ [.jar]) H' := s1.take (s.free hj).1 (s.free hc).1 J
    have t2 : Stp Ts K M S.length H (M.add S.length j c) (S ++ [Ob.jar]).length H' := by
      rw [List.length_append, List.length_singleton]; exact t1.take hj hc
    refine q _ _ _ t2 s2 ?_
    have := RP.ref (K := K) (M := M.add S.length j c) (n := (S ++ [Ob.jar]).length) (H := H') (i := S.length) (by simp)
    rw [M.add_m] at this
    exact this
end L4
set_option Elab.async false
set_option linter.all false
set_option maxRecDepth 100000
namespace L4
open PySem PySem.Spec PyProof.Rows L2 L3
theorem rSlW_tup {xs : List PV} {lo hi : Option Int} {S : Sto} {Q : WQ} : rSlW (.tup xs) lo hi S Q = Q (.tup (cutP xs lo hi)) S := by
  unfold rSlW
  simp [seqW]
theorem cutP_map {α β : Type} (f : α → β) (xs : List α) (lo hi : Option Int) : cutP (xs.map f) lo hi = (cutP xs lo hi).map f := by
  unfold cutP
  rw [List.length_map, List.map_take, List.map_drop]
theorem cutP_from {α : Type} (xs : List α) (k : Nat) : cutP xs (some (k : Int)) none = xs.drop k := by
  unfold cutP
  rw [HT.sIx_nat, HT.sIx_none]
  by_cases h : k ≤ xs.length
  · rw [Nat.min_eq_left h, List.take_of_length_le (by rw [List.length_drop]; omega)]
  · rw [Nat.min_eq_right (by omega), List.drop_eq_nil_of_le (Nat.le_refl _), List.drop_eq_nil_of_le (by omega), List.take_nil]
theorem cutP_0 {α : Type} (xs : List α) : cutP xs (some 0) none = xs := cutP_from xs 0
theorem cutP_1 {α : Type} (xs : List α) : cutP xs (some 1) none = xs.drop 1 := cutP_from xs 1
theorem cutP_2 {α : Type} (xs : List α) : cutP xs (some 2) none = xs.drop 2 := cutP_from xs 2
theorem cutP_all {α : Type} (xs : List α) : cutP xs none none = xs := by
  unfold cutP
  rw [HT.sIx_none, HT.sIx_none, List.drop_zero, Nat.sub_zero, List.take_length]
theorem enumP_map {α : Type} (f : α → PV) (xs : List α) : enumP (xs.map f) = xs.zipIdx.map fun p => PV.tup [.int (p.2 : Nat), f p.1] := by
  unfold enumP
  rw [List.zipIdx_map, List.map_map]; rfl
theorem rngP_map (lo : Int) (n : Nat) : rngP lo n = (List.range n).map fun (i : Nat) => PV.int (lo + (i : Int)) := rfl
section
variable {g : WG} {wt : WT} {we : WE} {τ : Ev} {G : Sto → Prop} {F : List PV → Sto → Prop} {S : Sto} {acc : List PV} {α : Type}
theorem lc_map {e : α → PV} (f : α → PV) : ∀ {l : List α} {acc : List PV}, G S → (∀ a ∈ l, ∀ R : WQ, R (f a) S → g (e a) τ fun τ2 => we τ2 S R) → F (acc ++ l.map f) S → wLcGo g wYes we τ G (l.map e) acc S F
  | [], acc, hG, h, hF => ⟨hG, by simpa using hF⟩
  | a :: l, acc, hG, h, hF => by
    refine ⟨hG, h a List.mem_cons_self _ ?_⟩
    exact lc_map f hG (fun b hb => h b (List.mem_cons_of_mem _ hb)) (by simpa using hF)
theorem lc_filter {e : α → PV} (p : α → Bool) (f : α → PV) : ∀ {l : List α} {acc : List PV}, G S → (∀ a ∈ l, ∀ (R R' : Sto → Prop) (R2 : WQ), (p a = true → R2 (f a) S) → (p a = false → R' S) → g (e a) τ fun τ2 => wt τ2 S fun b S3 => if b = true then we τ2 S3 R2 else R' S3) → F (acc ++ (l.filter p).map f) S → wLcGo g wt we τ G (l.map e) acc S F
  | [], acc, hG, h, hF => ⟨hG, by simpa using hF⟩
  | a :: l, acc, hG, h, hF => by
    refine ⟨hG, h a List.mem_cons_self (fun _ => True) _ _ (fun hp => ?_) (fun hp => ?_)⟩
    · exact lc_filter p f hG (fun b hb => h b (List.mem_cons_of_mem _ hb)) (by rw [List.filter_cons, if_pos hp] at hF; simpa using hF)
    · exact lc_filter p f hG (fun b hb => h b (List.mem_cons_of_mem _ hb)) (by rw [List.filter_cons, if_neg (by rw [hp]; simp)] at hF; simpa using hF)
/-- any values, the store may change -/
theorem lc_inv (I : Nat → List PV → Sto → Prop) {xs : List PV} (step : ∀ i x acc S (R : List PV → Sto → Prop), xs[i]? = some x → I i acc S → (∀ acc' S', I (i + 1) acc' S' → R acc' S') → G S ∧ g x τ fun τ2 => wt τ2 S fun b S3 => if b = true then we τ2 S3 fun y S4 => R (acc ++ [y]) S4 else R acc S3)
    (fin : ∀ acc S, I xs.length acc S → G S ∧ F acc S) (h0 : I 0 acc S) : wLcGo g wt we τ G xs acc S F := by
  have main : ∀ (ys : List PV) (k : Nat) (acc : List PV) (S : Sto), xs.drop k = ys → k ≤ xs.length → I k acc S → wLcGo g wt we τ G ys acc S F := by
    intro ys
    induction ys with
    | nil =>
      intro k acc S e hk hI
      have : k = xs.length := by
        have := List.drop_eq_nil_iff.mp e
        omega
      subst this
      exact fin acc S hI
    | cons x ys ih =>
      intro k acc S e hk hI
      have hl : k < xs.length := by
        have h1 := congrArg List.length e
        rw [List.length_drop, List.length_cons] at h1
        omega
      have hx : xs[k]? = some x := by
        have h1 := congrArg (·[0]?) e
        simpa using h1
      have hd : xs.drop (k + 1) = ys := by
        rw [← List.drop_drop, e]; rfl
      exact step k x acc S _ hx hI fun acc' S' hI' => ih (k + 1) acc' S' hd hl hI'
  exact main xs 0 acc S rfl (Nat.zero_le _) h0
end
theorem loop_inv {g : WG} {t : WS} {G : Sto → Prop} {xs : List PV} {D : WEnds} {τ : Ev} {S : Sto} (I : Nat → Ev → Sto → Prop) (h0 : I 0 τ S)
    (step : ∀ i x τ S (N : Ev → Sto → Prop), xs[i]? = some x → I i τ S → (∀ τ' S', I (i + 1) τ' S' → N τ' S') → G S ∧ g x τ fun τ1 => t ⟨N, D.rt, D.nx, N⟩ τ1 S)
    (fin : ∀ τ S, I xs.length τ S → G S ∧ D.nx τ S) : wLoop g t G xs D τ S := by
  have main : ∀ (ys : List PV) (k : Nat) (τ : Ev) (S : Sto), xs.drop k = ys → k ≤ xs.length → I k τ S → wLoop g t G ys D τ S := by
    intro ys
    induction ys with
    | nil =>
      intro k τ S e hk hI
      have : k = xs.length := by
        have := List.drop_eq_nil_iff.mp e
        omega
      subst this
      exact fin τ S hI
    | cons x ys ih =>
      intro k τ S e hk hI
      have hl : k < xs.length := by
        have h1 := congrArg List.length e
        rw [List.length_drop, List.length_cons] at h1
        omega
      have hx : xs[k]? = some x := by
        have h1 := congrArg (·[0]?) e
        simpa using h1
      have hd : xs.drop (k + 1) = ys := by
        rw [← List.drop_drop, e]; rfl
      exact step k x τ S _ hx hI fun τ' S' hI' => ih (k + 1) τ' S' hd hl hI'
  exact main xs 0 τ S rfl (Nat.zero_le _) h0
/-- the items are a mapped list -/
theorem loop_map {α : Type} {e : α → PV} {g : WG} {t : WS} {G : Sto → Prop} {l : List α} {D : WEnds} {τ : Ev} {S : Sto} (I : Nat → Ev → Sto → Prop) (h0 : I 0 τ S)
    (step : ∀ i a τ S (N : Ev → Sto → Prop), l[i]? = some a → I i τ S → (∀ τ' S', I (i + 1) τ' S' → N τ' S') → G S ∧ g (e a) τ fun τ1 => t ⟨N, D.rt, D.nx, N⟩ τ1 S)
    (fin : ∀ τ S, I l.length τ S → G S ∧ D.nx τ S) : wLoop g t G (l.map e) D τ S := by
  refine loop_inv I h0 (fun i x τ S N hx hI hN => ?_) (fun τ S hI => fin τ S (by rw [List.length_map] at hI; exact hI))
  rw [List.getElem?_map] at hx
  cases q : l[i]? with
  | none => rw [q] at hx; cases hx
  | some a =>
    rw [q] at hx
    cases hx
    exact step i a τ S N q hI hN
def wCut (w : WS) : WS := fun D τ S => ∃ R : Ev → Sto → Prop, w { D with nx := R } τ S ∧ ∀ τ' S', R τ' S' → D.nx τ' S'
theorem ss_cut {X : Cx} {st : Stmt} {w : WS} (h : SS Ts X st w) : SS Ts X st (wCut w) := by
  refine ⟨ps_imp h.ps fun D σ H ⟨M, S, τ, s, st, R, q, k⟩ => ⟨M, S, τ, s, st, h.mo _ _ _ _ q ⟨fun τ1 S1 r => k _ _ r, fun _ _ r => r, fun _ _ r => r, fun _ _ r => r⟩⟩, fun D D' τ S ⟨R, q, k⟩ l => ⟨R, h.mo _ _ _ _ q ⟨fun _ _ r => r, l.rt, l.bk, l.ct⟩, fun τ1 S1 r => l.nx _ _ (k _ _ r)⟩⟩
theorem get_app {S G : Sto} {i : Nat} {o : Ob} (h : S[i]? = some o) : (S ++ G)[i]? = some o := by
  rw [List.getElem?_append_left (List.getElem?_eq_some_iff.mp h).1]; exact h
theorem get_new (S : Sto) (o : Ob) (G : Sto) : (S ++ o :: G)[S.length]? = some o := by
  rw [List.getElem?_append_right (Nat.le_refl _), Nat.sub_self]; rfl
theorem get_new1 (S : Sto) (o : Ob) : (S ++ [o])[S.length]? = some o := get_new S o []
theorem set_new (S : Sto) (o o' : Ob) : (S ++ [o]).set S.length o' = S ++ [o'] := by
  rw [List.set_append_right _ _ (Nat.le_refl _), Nat.sub_self]; rfl
def natP (n : Nat) : PV := .int (n : Int)
def natsP (l : List Nat) : PV := .tup (l.map natP)
def swP (s : Nat × Nat) : PV := .tup [natP s.1, natP s.2]
def intsP (ns : List Int) : PV := .tup (ns.map .int)
theorem cl_int {n : Nat} {i : Int} : (PV.int i).Cl n := by simp [PV.Cl]
theorem cl_bl {n : Nat} {i : Bool} : (PV.bl i).Cl n := by simp [PV.Cl]
end L4
set_option Elab.async false
set_option linter.all false
set_option maxRecDepth 100000
namespace L4
open PySem PySem.Spec PyProof.Rows L2 L3
theorem rIxW_tup {xs : List PV} {i : Int} {S : Sto} {Q : WQ} : rIxW (.tup xs) (.int i) S Q = ∃ v, atI xs i = some v ∧ Q v S := by
  unfold rIxW
  simp [seqW]
theorem rIxW_lst {k : Nat} {xs : List PV} {i : Int} {S : Sto} {Q : WQ} (h : S[k]? = some (.lst xs)) : rIxW (.ref k) (.int i) S Q = ∃ v, atI xs i = some v ∧ Q v S := by
  unfold rIxW
  simp [seqW, h]
theorem rLenW_tup {xs : List PV} {S : Sto} {Q : WQ} : rLenW [.tup xs] S Q = Q (.int xs.length) S := by
  unfold rLenW
  simp [seqW]
theorem rLenW_lst {k : Nat} {xs : List PV} {S : Sto} {Q : WQ} (h : S[k]? = some (.lst xs)) : rLenW [.ref k] S Q = Q (.int xs.length) S := by
  unfold rLenW
  simp [seqW, h]
theorem rTupleW_lst {k : Nat} {xs : List PV} {S : Sto} {Q : WQ} (h : S[k]? = some (.lst xs)) : rTupleW [.ref k] S Q = Q (.tup xs) S := by
  unfold rTupleW
  simp [seqW, h]
theorem rListW_tup {xs : List PV} {S : Sto} {Q : WQ} : rListW [.tup xs] S Q = Q (.ref S.length) (S ++ [.lst xs]) := by
  unfold rListW
  simp [seqW]
theorem rAppendW_lst {k : Nat} {xs : List PV} {y : PV} {S : Sto} {Q : WQ} (h : S[k]? = some (.lst xs)) : rAppendW (.ref k) [y] S Q = (xs.length < 16777216 ∧ Q .non (S.set k (.lst (xs ++ [y])))) := by
  unfold rAppendW
  simp [h]
theorem tyW_lst {k : Nat} {xs : List PV} {S : Sto} (h : S[k]? = some (.lst xs)) : tyW S "list" (.ref k) = True := by
  unfold tyW
  simp [seqW, h]
theorem atI_nat' {α : Type} {xs : List α} {i : Nat} {v : α} (h : xs[i]? = some v) : atI xs (i : Int) = some v := by
  have hl := (List.getElem?_eq_some_iff.mp h).1
  unfold atI ixN
  rw [if_pos (by omega), if_pos (by omega)]
  simpa using h
theorem atI_nats {xs : List Nat} {i : Nat} (h : i < xs.length) : atI (xs.map natP) (i : Int) = some (natP (xs.getD i 0)) := by
  refine atI_nat' ?_
  rw [List.getElem?_map]
  simp [List.getD_eq_getElem?_getD, h]
theorem loop_rng {g : WG} {t : WS} {n : Nat} {D : WEnds} {τ : Ev} {S : Sto} {G : Sto → Prop} (hG : ∀ S, G S) (I : Nat → Ev → Sto → Prop) (h0 : I 0 τ S)
    (step : ∀ i τ S (N : Ev → Sto → Prop), i < n → I i τ S → (∀ τ' S', I (i + 1) τ' S' → N τ' S') → g (natP i) τ fun τ1 => t ⟨N, D.rt, D.nx, N⟩ τ1 S)
    (fin : ∀ τ S, I n τ S → D.nx τ S) : wLoop g t G (rngP 0 n) D τ S := by
  rw [rngP_map]
  refine loop_map I h0 (fun i a τ S N ha hI hN => ⟨hG S, ?_⟩) (fun τ S hI => ⟨hG S, fin τ S (by rw [List.length_range] at hI; exact hI)⟩)
  obtain ⟨h1, h2⟩ := List.getElem?_eq_some_iff.mp ha
  rw [List.getElem_range] at h2
  subst h2
  rw [Int.zero_add]
  exact step i τ S N (by simpa using h1) hI hN
theorem atI_0 {α : Type} {x : α} {xs : List α} : atI (x :: xs) 0 = some x := by
  unfold atI ixN; rw [if_pos (by omega), if_pos (by first | (simp; done) | (simp; omega))]; rfl
theorem atI_1 {α : Type} {x y : α} {xs : List α} : atI (x :: y :: xs) 1 = some y := by
  unfold atI ixN; rw [if_pos (by omega), if_pos (by first | (simp; done) | (simp; omega))]; rfl
theorem atI_2 {α : Type} {x y z : α} {xs : List α} : atI (x :: y :: z :: xs) 2 = some z := by
  unfold atI ixN; rw [if_pos (by omega), if_pos (by first | (simp; done) | (simp; omega))]; rfl
theorem atI_3 {α : Type} {x y z u : α} {xs : List α} : atI (x :: y :: z :: u :: xs) 3 = some u := by
  unfold atI ixN; rw [if_pos (by omega), if_pos (by first | (simp; done) | (simp; omega))]; rfl
theorem rIsiW_eq {x : PV} {n : String} {S : Sto} {Q : WQ} : rIsiW [x, .ty n] S Q = ∃ t, tyP S x = some t ∧ ∃ b, isiB t n = some b ∧ Q (.bl b) S := by
  unfold rIsiW
  apply propext
  constructor
  · rintro ⟨x', n', t', b, e, h1, h2, q⟩
    cases e
    exact ⟨_, h1, b, h2, q⟩
  · rintro ⟨t, h1, b, h2, q⟩
    exact ⟨x, n, t, b, rfl, h1, h2, q⟩
theorem tyP_non {S : Sto} : tyP S .non = some "NoneType" := rfl
theorem tyP_bl {S : Sto} {b : Bool} : tyP S (.bl b) = some "bool" := rfl
theorem tyP_int {S : Sto} {i : Int} : tyP S (.int i) = some "int" := rfl
theorem tyP_str {S : Sto} {x : Str} : tyP S (.str x) = some "str" := rfl
theorem tyP_tup {S : Sto} {xs : List PV} : tyP S (.tup xs) = some "tuple" := rfl
theorem isi_NoneType_int : isiB "NoneType" "int" = some false := rfl
theorem isi_NoneType_bool : isiB "NoneType" "bool" = some false := rfl
theorem isi_NoneType_str : isiB "NoneType" "str" = some false := rfl
theorem isi_NoneType_list : isiB "NoneType" "list" = some false := rfl
theorem isi_NoneType_tuple : isiB "NoneType" "tuple" = some false := rfl
theorem isi_NoneType_dict : isiB "NoneType" "dict" = some false := rfl
theorem isi_bool_int : isiB "bool" "int" = some true := rfl
theorem isi_bool_bool : isiB "bool" "bool" = some true := rfl
theorem isi_bool_str : isiB "bool" "str" = some false := rfl
theorem isi_bool_list : isiB "bool" "list" = some false := rfl
theorem isi_bool_tuple : isiB "bool" "tuple" = some false := rfl
theorem isi_bool_dict : isiB "bool" "dict" = some false := rfl
theorem isi_int_int : isiB "int" "int" = some true := rfl
theorem isi_int_bool : isiB "int" "bool" = some false := rfl
theorem isi_int_str : isiB "int" "str" = some false := rfl
theorem isi_int_list : isiB "int" "list" = some false := rfl
theorem isi_int_tuple : isiB "int" "tuple" = some false := rfl
theorem isi_int_dict : isiB "int" "dict" = some false := rfl
theorem isi_str_int : isiB "str" "int" = some false := rfl
theorem isi_str_bool : isiB "str" "bool" = some false := rfl
theorem isi_str_str : isiB "str" "str" = some true := rfl
theorem isi_str_list : isiB "str" "list" = some false := rfl
theorem isi_str_tuple : isiB "str" "tuple" = some false := rfl
theorem isi_str_dict : isiB "str" "dict" = some false := rfl
theorem isi_tuple_int : isiB "tuple" "int" = some false := rfl
theorem isi_tuple_bool : isiB "tuple" "bool" = some false := rfl
theorem isi_tuple_str : isiB "tuple" "str" = some false := rfl
theorem isi_tuple_list : isiB "tuple" "list" = some false := rfl
theorem isi_tuple_tuple : isiB "tuple" "tuple" = some true := rfl
theorem isi_tuple_dict : isiB "tuple" "dict" = some false := rfl
theorem isi_list_int : isiB "list" "int" = some false := rfl
theorem isi_list_bool : isiB "list" "bool" = some false := rfl
theorem isi_list_str : isiB "list" "str" = some false := rfl
theorem isi_list_list : isiB "list" "list" = some true := rfl
theorem isi_list_tuple : isiB "list" "tuple" = some false := rfl
theorem isi_list_dict : isiB "list" "dict" = some false := rfl
theorem isi_dict_int : isiB "dict" "int" = some false := rfl
theorem isi_dict_bool : isiB "dict" "bool" = some false := rfl
theorem isi_dict_str : isiB "dict" "str" = some false := rfl
theorem isi_dict_list : isiB "dict" "list" = some false := rfl
theorem isi_dict_tuple : isiB "dict" "tuple" = some false := rfl
theorem isi_dict_dict : isiB "dict" "dict" = some true := rfl
end L4
set_option Elab.async false
set_option linter.all false
set_option maxRecDepth 100000
namespace L3
open PySem PySem.Spec PyProof.Rows L2
section
variable {prog : Program} {w : World} {A : Around} {E : Value → Shared → Prop} {s : Shared}
end
section
variable {X : Cx} {e c : Expr} {te : TE} {pos p2 : Pos} {lo : Option Expr} {tl : TO}
end
end L3
set_option Elab.async false
set_option linter.all false
set_option maxRecDepth 100000
namespace L3
open PySem PySem.Spec PyProof.Rows L2
section
variable {prog : Program} {w : World} {A : Around} {E : Value → Shared → Prop} {s : Shared} {z TI TO i1 i2 a b : Addr} {k1 k2 : Bool} {n : Nat} {xs ys : Array Value}
end
structure ZSX (k1 k2 : Bool) (h : Heap) (z TI TO i1 i2 a b : Addr) (i : Nat) : Prop where
  rc : IsZip h z TI TO .none ∨ ∃ a0 f1, IsZ2 h z TI TO a0 f1
  pI : IsPair h TI (.ref i1) (.ref i2)
  pO : ∃ x y, IsPair h TO x y
  s1 : SqI k1 h i1 a i
  s2 : SqI k2 h i2 b i
theorem ZSX.zip {k1 k2 : Bool} {h : Heap} {z TI TO i1 i2 a b : Addr} {i : Nat} (Z : ZSX k1 k2 h z TI TO i1 i2 a b i) : ∃ o, h.get? z = some o ∧ o.cls = .type "zip" ∧ ∀ v, o.data ≠ .cell v := by
  rcases Z.rc with e | ⟨a0, f1, e⟩
  · exact ⟨_, e, rfl, fun v q => nomatch q⟩
  · exact ⟨_, e, rfl, fun v q => nomatch q⟩
section
variable {X : Cx} {pins : List (Addr × Obj)} {σ : L2.St} {A : Around} {z TI TO i1 i2 a b : Addr} {xs ys : List V} {k1 k2 : Bool} {E : Value → Shared → Prop}
end
end L3
set_option Elab.async false
set_option linter.all false
set_option maxRecDepth 100000
namespace L3
open PySem PySem.Spec PyProof.Rows L2
section
variable {K : PySem.W.Frag} {H : Hp} {k : Bool} {a p : Addr} {xs : List V} {o : HO}
end
section
variable {X : Cx} {pins : List (Addr × Obj)} {σ : L2.St} {A : Around} {R : Result → Shared → Prop} {z TI TO i1 i2 a b : Addr} {xs ys : List V} {k1 k2 : Bool}
end
end L3
set_option Elab.async false
set_option linter.all false
set_option maxRecDepth 100000
namespace L3
open PySem PySem.Spec PyProof.Rows L2
section
variable {X : Cx} {e e2 : Expr} {ta : TA} {p p2 pos pos2 : Pos}
end
end L3
set_option Elab.async false
set_option linter.all false
set_option maxRecDepth 100000
namespace L3
open PySem PySem.Spec PyProof.Rows L2
section
variable {X : Cx} {pins : List (Addr × Obj)} {σ : L2.St} {A : Around} {z TI TO i1 i2 a b : Addr} {xs ys : List V} {k1 k2 : Bool} {E : Value → Shared → Prop}
end
section
variable {X : Cx} {e e2 : Expr} {ta : TA} {p p2 pos pos2 : Pos}
end
end L3
set_option Elab.async false
set_option linter.all false
set_option maxRecDepth 100000
namespace L4
open PySem PySem.Spec PyProof.Rows L2 L3
def wLcGo2 (g : WG) (wt : WT) (wi1 : WI) (g1 : WG) (wt1 : WT) (we : WE) (τ : Ev) (vs1 : List Nat) (G : Sto → Prop) : List PV → List PV → Sto → (List PV → Sto → Prop) → Prop
  | [], acc, S, F => G S ∧ F acc S
  | x :: xs, acc, S, F => G S ∧ g x τ fun τ2 => wt τ2 S fun b S3 => if b = true then wi1 τ2 S3 fun ys G1 S4 => acc.length + ys.length ≤ 16777216 ∧ wLcGo g1 wt1 we (wipeW τ2 vs1) G1 ys acc S4 fun acc' S5 => wLcGo2 g wt wi1 g1 wt1 we τ vs1 G xs acc' S5 F
      else wLcGo2 g wt wi1 g1 wt1 we τ vs1 G xs acc S3 F
def wLcV2 (wi : WI) (g : WG) (wt : WT) (wi1 : WI) (g1 : WG) (wt1 : WT) (we : WE) (vs vs1 : List Nat) : WA := fun τ S F => wi τ S fun xs G S1 => wLcGo2 g wt wi1 g1 wt1 we (wipeW τ vs) vs1 G xs [] S1 F
end L4
set_option Elab.async false
set_option linter.all false
set_option maxRecDepth 100000
namespace L4
open PySem PySem.Spec PyProof.Rows L2 L3
section
variable {X : Cx} {a b c e elt iter tg iter1 tg1 : Expr} {ifs ifs1 : List Expr} {scope : Scope} {own : List (Str × Nat)} {pos : Pos} {wi wi1 : WI} {g g1 : TG} {wg wg1 : WG} {wt wt1 : WT} {wa we : WE} {vs1 : List Nat}
def wLcU2 (r : WC) (wi : WI) (g : WG) (wt : WT) (wi1 : WI) (g1 : WG) (wt1 : WT) (we : WE) (vs vs1 : List Nat) : WE := fun τ S Q => wLcV2 wi g wt wi1 g1 wt1 we vs vs1 τ S fun ys S2 => r ys S2 Q
def wRev (w : WE) : WE := fun τ S Q => w τ S fun x S1 => (∃ xs, x = .tup xs ∧ Q (.tup xs.reverse) S1) ∨ ∃ xs, seqW S1 x = some (false, xs) ∧ Q (.ref S1.length) (S1 ++ [.lst xs.reverse])
theorem RPs.evL {K : PySem.W.Frag} {M : Map} {n : Nat} {H : Hp} {xs : List PV} {us : List V} (r : RPs K M n H xs us) (st : Nat) : RPs K M n H (L3.evL xs st) (L3.evL us st) := by
  unfold L3.evL
  rw [r.length]
  generalize (us.length + 1 - st) / 2 = m
  induction m with
  | zero => exact .nil
  | succ m ih =>
    rw [List.range_succ, List.filterMap_append, List.filterMap_append]
    refine ih.append ?_
    cases hx : xs[st + 2 * m]? with
    | none =>
      have : us[st + 2 * m]? = Option.none := by
        have := r.length
        rw [List.getElem?_eq_none_iff] at hx ⊢; omega
      simp [hx, this]; exact .nil
    | some v =>
      obtain ⟨u, hu, rv⟩ := r.get hx
      simp [hx, hu]; exact .cons rv .nil
def wStep (w : WE) (wl : WO) : WE := fun τ S Q => w τ S fun x S1 => wl τ S1 fun l S2 => ∃ k xs, seqW S2 x = some (k, xs) ∧ ∃ st : Nat, ((l = none ∧ st = 0) ∨ l = some (st : Int)) ∧ st ≤ xs.length ∧ (if k = true then Q (.tup (L3.evL xs st)) S2 else Q (.ref S2.length) (S2 ++ [.lst (L3.evL xs st)]))
def wTupZip (w : WA) : WE := fun τ S Q => w τ S fun vs S1 => ∃ x y k xs l ys, vs = [x, y] ∧ seqW S1 x = some (k, xs) ∧ seqW S1 y = some (l, ys) ∧ xs.length = ys.length ∧ Q (.tup (zipP xs ys)) S1
/-- for x in zip(a, b) -/
def wZipN (w : WA) : WI := fun τ S R => w τ S fun vs S1 => ∃ x y k xs l ys, vs = [x, y] ∧ seqW S1 x = some (k, xs) ∧ seqW S1 y = some (l, ys) ∧ xs.length = ys.length ∧ R (zipP xs ys) (fun S' => seqW S' x = some (k, xs) ∧ seqW S' y = some (l, ys)) S1
def wMaxD (w wd : WE) : WE := fun τ S Q => w τ S fun x S1 => wd τ S1 fun _ S2 => ∃ ns : List Int, x = intsP ns ∧ 0 < ns.length ∧ ∀ m, m ∈ ns → (∀ y, y ∈ ns → y ≤ m) → Q (.int m) S2
def wMinD (w wd : WE) : WE := fun τ S Q => w τ S fun x S1 => wd τ S1 fun _ S2 => ∃ ns : List Int, x = intsP ns ∧ 0 < ns.length ∧ ∀ m, m ∈ ns → (∀ y, y ∈ ns → m ≤ y) → Q (.int m) S2
end
theorem inP_int (i : Int) (ns : List Int) : inP (.int i) (ns.map .int) = decide (i ∈ ns) := by
  unfold inP inV
  rw [List.map_map, List.any_map]
  induction ns with
  | nil => rfl
  | cons n ns ih =>
    rw [List.any_cons, ih]
    simp only [Function.comp_apply, flV, eqV, List.mem_cons, Bool.decide_or]
    congr 1
    exact Bool.eq_iff_iff.mpr ⟨fun h => decide_eq_true (by simpa using (beq_iff_eq.mp h).symm), fun h => beq_iff_eq.mpr (by simpa using (of_decide_eq_true h).symm)⟩
theorem all_flat_int (ns : List Int) : (ns.map PV.int).all flatP = true := by
  rw [List.all_map]
  exact List.all_eq_true.mpr fun _ _ => rfl
theorem rInW_ints {neg : Bool} {i : Int} {ns : List Int} {S : Sto} {Q : WQ} : rInW neg (.int i) (.tup (ns.map .int)) S Q = Q (.bl (neg ^^ decide (i ∈ ns))) S := by
  unfold rInW
  apply propext
  constructor
  · rintro (⟨k, xs, e, _, _, q⟩ | ⟨j, kvs, k, e, _⟩ | ⟨a, b, e, _⟩)
    · cases e; rw [inP_int] at q; exact q
    · cases e
    · cases e
  · intro q
    exact .inl ⟨true, _, rfl, rfl, all_flat_int ns, by rw [inP_int]; exact q⟩
end L4
set_option Elab.async false
set_option linter.all false
namespace L4
end L4
set_option Elab.async false
set_option linter.all false
set_option maxRecDepth 100000
namespace L3
open PySem PySem.Spec PyProof.Rows L2
def top (i : Nat) : Stmt := PySem.Challenge.pw_turnfork_k34_whole_layers_named_and_put.main.body.getD i (.Pass ⟨0, 0, 0, 0⟩)
section
variable {P : Program} {w : World} {K : PySem.W.Frag} {mg : Str → Option Value} {base : Heap}
def spMix : Sp := fun vs H Q _ => ∃ n : Int, vs = [.int n] ∧ 0 ≤ n ∧ n < 2 ^ 64 ∧ ∀ m : Int, 0 ≤ m → m < 2 ^ 64 → Q (.int m) H
theorem xor_lt {x y : Int} (hx : 0 ≤ x) (hy : 0 ≤ y) (hx2 : x < 2 ^ 64) (hy2 : y < 2 ^ 64) : 0 ≤ Builtin.bitXor x y ∧ Builtin.bitXor x y < 2 ^ 64 := by
  rw [Bits.bitXor_pp hx hy]
  have h : x.toNat ^^^ y.toNat < 2 ^ 64 := Nat.xor_lt_two_pow (by omega) (by omega)
  omega
abbrev s_law_mix : Stmt := top 17
theorem sc_law_mix : FnScope ["one"] ["one"] (defScope s_law_mix) := ⟨rfl, rfl, rfl, by decide +kernel, rfl, by decide +kernel, by decide +kernel⟩
theorem ok_law_mix {f : Addr} {fd : FuncData} (F : Fun K "_law_mix" "_law_mix" s_law_mix f fd) : FnOk P w K mg base CX0 1 f fd ["one"] spMix := by
  refine F.ok sc_law_mix (fun vs H Q E h => ?_) (fun cdv A outer s H vs Q E hr h => ?_)
  · obtain ⟨n, rfl, _⟩ := h
    rfl
  · obtain ⟨n, rfl, h0, h1, k⟩ := h
    refine ⟨_, (pss_cons (ps_set (i := 0) sc_law_mix.nd rfl (by first | exact Or.inl rfl | exact Or.inr rfl) (pe_op op_mod (pe_op op_mul (pe_op op_xor (pv 0) (pe_op op_fdivB (pv 0) pe_int)) pe_int) pe_int))
      (pss_cons (ps_set (i := 0) sc_law_mix.nd rfl (by first | exact Or.inl rfl | exact Or.inr rfl) (pe_op op_mod (pe_op op_mul (pe_op op_xor (pv 0) (pe_op op_fdivB (pv 0) pe_int)) pe_int) pe_int))
      (pss_one (ps_ret (pe_op op_xor (pv 0) (pe_op op_fdivB (pv 0) pe_int)))))), ?_⟩
    refine ⟨_, rfl, _, rfl, _, _, rfl, rfl, ⟨by decide, by decide⟩, _, _, rfl, rfl, _, _, rfl, rfl, .inr ⟨by decide, by decide⟩, _, _, rfl, rfl, (by show (0 : Int) < 18446744073709551616; decide), ?_⟩
    refine ⟨_, rfl, _, rfl, _, _, rfl, rfl, ⟨by decide, by decide⟩, _, _, rfl, rfl, _, _, rfl, rfl, .inr ⟨by decide, by decide⟩, _, _, rfl, rfl, (by show (0 : Int) < 18446744073709551616; decide), ?_⟩
    refine ⟨_, rfl, _, rfl, _, _, rfl, rfl, ⟨by decide, by decide⟩, _, _, rfl, rfl, ?_⟩
    generalize hz : Builtin.bitXor _ _ * 10723151780598845931 % 18446744073709551616 = z
    have z0 : 0 ≤ z := by rw [← hz]; exact Int.emod_nonneg _ (by decide)
    have z1 : z < 2 ^ 64 := by rw [← hz]; exact Int.emod_lt_of_pos _ (by decide)
    have q := xor_lt z0 (y := z / 2147483648) (by omega) z1 (by omega)
    exact k _ q.1 q.2
end
end L3
set_option Elab.async false
set_option linter.all false
set_option maxRecDepth 100000
namespace L3
open PySem PySem.Spec PyProof.Rows L2
theorem shaped_ints (ns : List Int) : SeqAt.shaped (.list (ns.map PyData.int)) = true := by
  have h1 : ∀ l : List Int, PyData.canLayAll0 (l.map PyData.int) = true := fun l => by
    induction l with
    | nil => rfl
    | cons _ _ ih => exact ih
  have h2 : ∀ l : List Int, PyData.depthAll (l.map PyData.int) = 0 := fun l => by
    induction l with
    | nil => rfl
    | cons _ _ ih => show max 0 (PyData.depthAll _) = 0; rw [ih]; rfl
  have h3 : PyData.depth (.list (ns.map PyData.int)) = 1 := by show PyData.depthAll _ + 1 = 1; rw [h2]
  show (PyData.canLayAll0 _ && decide (PyData.depth _ ≤ 64)) = true
  rw [h1, h3]; rfl
theorem cut63 (ns : List Int) : cutV (ns.map V.int) none (some 63) = (ns.take 63).map V.int := by
  unfold cutV
  rw [show HT.sIx (ns.map V.int).length (ns.map V.int).length (some 63) = min 63 (ns.map V.int).length from HT.sIx_nat _ _ 63]
  show ((ns.map V.int).drop 0).take (min 63 (ns.map V.int).length - 0) = _
  rw [List.drop_zero, Nat.sub_zero, List.map_take]
  simp [List.take_eq_take_iff]
theorem get_int {ns : List Int} {i : Nat} {y : V} (h : (ns.map V.int)[i]? = some y) : ∃ z, y = V.int z ∧ ns[i]? = some z := by
  rw [List.getElem?_map] at h
  cases e : ns[i]? with
  | none => rw [e] at h; cases h
  | some z => rw [e] at h; exact ⟨z, (Option.some.inj h).symm, rfl⟩
section
variable {P : Program} {w : World} {K : PySem.W.Frag} {mg : Str → Option Value} {base : Heap}
def spJar (K : PySem.W.Frag) : Sp := fun vs H Q _ => ∃ (a : Addr) (ns : List Int), vs = [.ref a] ∧ SqL K H a (ns.map V.int) ∧ ∀ (j c : Addr) (H' : Hp), H j = none → H c = none → Same H H' → Jar H' j c → Q (.ref j) H'
abbrev s_law_jar : Stmt := top 18
theorem sc_law_jar : FnScope ["script", "seed", "cell"] ["script"] (defScope s_law_jar) := ⟨rfl, rfl, rfl, by decide +kernel, rfl, by decide +kernel, by decide +kernel⟩
theorem ok_law_jar {f : Addr} {fd : FuncData} (F : Fun K "_law_jar" "_law_jar" s_law_jar f fd) (T : Tn mg) (D_law_mix : Def P w K mg base "_law_mix" 1 ["one"] spMix) : FnOk P w K mg base CX0 2 f fd ["script"] (spJar K) := by
  refine F.ok sc_law_jar (fun vs H Q E h => ?_) (fun cdv A outer s H vs Q E hr h => ?_)
  · obtain ⟨a, ns, rfl, _⟩ := h
    rfl
  · obtain ⟨a, ns, rfl, hS, k⟩ := h
    have hu := hu_of hr
    refine ⟨_, (pss_cons (ps_set (i := 1) sc_law_jar.nd rfl (by first | exact Or.inl rfl | exact Or.inr rfl) pe_int)
      (pss_cons (ps_for PassesOwn.never rfl (pi_list (pe_slice sl_list (pv 0) po_none (po_some pe_int))) (pg_name (i := 2) sc_law_jar.nd rfl (by first | exact Or.inl rfl | exact Or.inr rfl)) (pss_one (ps_set (i := 1) sc_law_jar.nd rfl (by first | exact Or.inl rfl | exact Or.inr rfl) (pe_def D_law_mix (hr.mono (by first | decide | omega)) (by rfl) (pa_cons (pe_op op_mod (pe_op op_add (pe_op op_mul (pv 1) pe_int) (pv 2)) pe_int) pa_nil)))))
      (pss_one (ps_ret (pe_disp (pps_cons pe_str (pe_callTy call_list_of (by rfl) T.list_ (by decide +kernel) (pa_cons (pe_slice sl_list (pv 0) po_none (po_some pe_int)) pa_nil)) (pps_cons pe_str pe_int (pps_cons pe_str (pv 1) (pps_cons pe_str pe_int pps_nil)))) (by rfl) (by rfl) (fun z => by cases z) (by decide)))))), ?_⟩
    refine ⟨_, rfl, _, rfl, a, _, rfl, hS, fun p hp => ⟨p, rfl, ⟨_, SqL.of upd_same⟩, ?_⟩⟩
    have s1 : Same H (upd H p (.lst (cutV (ns.map V.int) none (some 63)))) := same_upd hp
    refine for_list (K := K) (a := p) (xs := cutV (ns.map V.int) none (some 63)) (fun i σ H2 => ∃ (z : Int) (v : Option V), σ = [some (.ref a), some (.int z), v] ∧ Same (upd H p (.lst (cutV (ns.map V.int) none (some 63)))) H2) ⟨_, none, rfl, Same.refl _⟩ (fun i σ H2 _ ⟨_, _, _, s2⟩ => SqL.of (s2 _ _ upd_same)) ?_ ?_
    · rintro i y σ H2 hi ⟨z, v, rfl, s2⟩
      rw [cut63] at hi
      obtain ⟨n, rfl, _⟩ := get_int hi
      refine ⟨_, rfl, _, _, rfl, rfl, .inr ⟨by decide, by decide⟩, _, rfl, _, _, rfl, rfl, _, _, rfl, rfl, (by show (0 : Int) < 18446744073709551616; decide), _, rfl, Int.emod_nonneg _ (by decide), Int.emod_lt_of_pos _ (by decide), fun m m0 m1 => ?_⟩
      exact ⟨m, _, rfl, s2⟩
    · rintro σ H2 ⟨z, v, rfl, s2⟩
      have hS2 : SqL K H2 a (ns.map V.int) := s2.seq (s1.seq hS)
      intro j hj
      refine ⟨_, rfl, _, rfl, a, _, rfl, (same_upd hj).seq hS2, fun p2 hp2 => ⟨p2, _, rfl, .inl (SqL.of upd_same), fun c hc => ?_⟩⟩
      have e1 : upd H2 j (.dK []) j = some (.dK []) := upd_same
      have nj2 : j ≠ p2 := ne_of_none e1 hp2
      have e2 : upd (upd H2 j (.dK [])) p2 (.lst (cutV (ns.map V.int) none (some 63))) j = some (.dK []) := by rw [upd_ne nj2]; exact e1
      have njc : j ≠ c := ne_of_none e2 hc
      refine ⟨_, rfl, ⟨by rw [upd_ne njc]; exact e2, kv c 0 z 0, rfl, (by show 4 ≤ 15; decide), ?_⟩⟩
      have hcH : H c = none := by
        have := (same_upd hp2).free hc
        exact (s1.trans (s2.trans (same_upd hj))).free this
      have hjH : H j = none := (s1.trans s2).free hj
      refine k j c _ hjH hcH ?_ ⟨(ns.take 63), 0, z, 0, by rw [kv_made]; exact upd_same, ?_, by rw [List.length_take]; omega⟩
      · intro b o e
        have b1 : b ≠ j := ne_of_none e hjH
        have b2 : b ≠ c := ne_of_none e hcH
        have b3 : b ≠ p2 := ne_of_none ((s1.trans (s2.trans (same_upd hj))) b o e) hp2
        rw [upd_ne b1, upd_ne b2, upd_ne b3, upd_ne b1]
        exact s2 _ _ (s1 _ _ e)
      · rw [upd_ne njc.symm, upd_same, cut63]
end
end L3
set_option Elab.async false
set_option linter.all false
set_option maxRecDepth 100000
namespace L3
open PySem PySem.Spec PyProof.Rows L2
section
variable {P : Program} {w : World} {K : PySem.W.Frag} {mg : Str → Option Value} {base : Heap}
def spPick : Sp := fun vs H Q _ => ∃ (j c : Addr) (n : Int), vs = [.ref j, .int n] ∧ Jar H j c ∧ 0 < n ∧ n < 10 ^ 60 ∧ ∀ (f : Int) (H' : Hp), 0 ≤ f → f < n → Jar H' j c → Kp j c H H' → Q (.int f) H'
abbrev s_law_pick : Stmt := top 19
theorem sc_law_pick : FnScope ["jar", "many", "cell", "turned", "one", "found"] ["jar", "many"] (defScope s_law_pick) := ⟨rfl, rfl, rfl, by decide +kernel, rfl, by decide +kernel, by decide +kernel⟩
theorem ok_law_pick {f : Addr} {fd : FuncData} (F : Fun K "_law_pick" "_law_pick" s_law_pick f fd) (D_law_mix : Def P w K mg base "_law_mix" 1 ["one"] spMix) : FnOk P w K mg base CX0 2 f fd ["jar", "many"] spPick := by
  refine F.ok sc_law_pick (fun vs H Q E h => ?_) (fun cdv A outer s H vs Q E hr h => ?_)
  · obtain ⟨j, c, n, rfl, _⟩ := h
    rfl
  · obtain ⟨j, c, n, rfl, J, n0, n1, k⟩ := h
    have hu := hu_of hr
    obtain ⟨cells, r, sd, t, hj, hc, hl⟩ := J.ex
    have njc : j ≠ c := ne_of hj hc (by intro z; cases z)
    refine ⟨_, (pss_cons (ps_cut (ps_if (pt_cmpR op_lt (pe_dget hu (pv 0) pe_str (fun _ _ => rfl)) (pv 1) (nomark _)) (pss_cons (ps_dput hu (pv 0) pe_str (pe_op op_add (pe_dget hu (pv 0) pe_str (fun _ _ => rfl)) pe_int) rfl)
      (pss_one (ps_if (pt_cmpR (op_neD hr.units) (pe_dget hu (pv 0) pe_str (fun _ _ => rfl)) (pe_lst pa_nil) (nomark _)) (pss_cons (ps_set (i := 2) sc_law_pick.nd rfl (by first | exact Or.inl rfl | exact Or.inr rfl) (pe_bm PySem.F.plainAttrs_list PySem.F.slot_list_pop PySem.F.type_list_pop mt_popAt (pe_dget hu (pv 0) pe_str (fun _ _ => rfl)) (pa_cons pe_int pa_nil)))
      (pss_cons (ps_dput hu (pv 0) pe_str (pv 2) rfl)
      (pss_one (ps_if (pt_cmpR op_lt (pv 2) (pe_op op_pow pe_int pe_int) (nomark _)) (pss_cons (ps_set (i := 3) sc_law_pick.nd rfl (by first | exact Or.inl rfl | exact Or.inr rfl) (pe_op op_add (pe_op op_mul (pv 2) pe_int) (pe_op op_mul (pe_dget hu (pv 0) pe_str (fun _ _ => rfl)) pe_int)))
      (pss_cons (ps_set (i := 4) sc_law_pick.nd rfl (by first | exact Or.inl rfl | exact Or.inr rfl) (pe_def D_law_mix (hr.mono (by first | decide | omega)) (by rfl) (pa_cons (pe_op op_mod (pv 3) pe_int) pa_nil)))
      (pss_one (ps_dput hu (pv 0) pe_str (pe_op op_add (pe_op op_mul (pv 4) pe_int) (pe_def D_law_mix (hr.mono (by first | decide | omega)) (by rfl) (pa_cons (pe_op op_xor (pv 4) pe_int) pa_nil))) rfl)))) pss_nil)))) (pss_cons (ps_dput hu (pv 0) pe_str (pe_def D_law_mix (hr.mono (by first | decide | omega)) (by rfl) (pa_cons (pe_op op_mod (pe_op op_add (pe_dget hu (pv 0) pe_str (fun _ _ => rfl)) pe_int) pe_int) pa_nil)) rfl)
      (pss_one (ps_dput hu (pv 0) pe_str (pe_dget hu (pv 0) pe_str (fun _ _ => rfl)) rfl)))))) pss_nil))
      (pss_cons (ps_set (i := 5) sc_law_pick.nd rfl (by first | exact Or.inl rfl | exact Or.inr rfl) (pe_op op_mod (pe_dget hu (pv 0) pe_str (fun _ _ => rfl)) (pv 1)))
      (pss_cons (ps_dput hu (pv 0) pe_str (pe_op op_fdivB (pe_dget hu (pv 0) pe_str (fun _ _ => rfl)) (pv 1)) rfl)
      (pss_one (ps_ret (pv 5)))))), ?_⟩
    refine ⟨fun σ H1 => (∃ x y z, σ = [some (.ref j), some (.int n), x, y, z, none]) ∧ Jar H1 j c ∧ Kp j c H H1, ?_, ?_⟩
    · refine ⟨_, rfl, j, _, rfl, jget_rest hj, _, rfl, _, _, rfl, rfl, _, rfl, ?_⟩
      refine ite2 (fun _ => ?_) (fun _ => ⟨⟨_, _, _, rfl⟩, J, Kp.refl _⟩)
      -- jar['turn'] = jar['turn'] + 1
      refine ⟨_, rfl, j, _, rfl, jget_turn hj, _, _, rfl, rfl, _, rfl, j, _, rfl, jput_turn hj, ?_⟩
      -- if jar['cells'] != []
      have hj1 : upd H j (.dK (kv c r sd (t + 1))) j = some (.dK (kv c r sd (t + 1))) := upd_same
      refine ⟨_, rfl, j, _, rfl, jget_cells hj1, Nat.zero_le _, fun l hl0 => ?_⟩
      have njl : j ≠ l := ne_of_none hj1 hl0
      have hc1 : upd H j (.dK (kv c r sd (t + 1))) c = some (.lst (cells.map V.int)) := by rw [upd_ne njc.symm]; exact hc
      have ncl : c ≠ l := ne_of_none hc1 hl0
      have hlH : H l = none := by rw [upd_ne njl.symm] at hl0; exact hl0
      have hj2 : upd (upd H j (.dK (kv c r sd (t + 1)))) l (.lst []) j = some (.dK (kv c r sd (t + 1))) := by rw [upd_ne njl]; exact hj1
      have hc2 : upd (upd H j (.dK (kv c r sd (t + 1)))) l (.lst []) c = some (.lst (cells.map V.int)) := by rw [upd_ne ncl]; exact hc1
      have kp2 : Kp j c H (upd (upd H j (.dK (kv c r sd (t + 1)))) l (.lst [])) := fun b o e b1 b2 => by
        rw [upd_ne (ne_of_none e hlH), upd_ne b1]; exact e
      have hl2 : upd (upd H j (.dK (kv c r sd (t + 1)))) l (.lst []) l = some (.lst []) := upd_same
      generalize upd (upd H j (.dK (kv c r sd (t + 1)))) l (.lst []) = H2 at hj2 hc2 hl2 kp2 ⊢
      cases cells with
      | nil =>
        refine ⟨.list [], .list [], .lst (SqL.of hc2) .nil, .lst (SqL.of hl2) .nil, rfl, rfl, _, rfl, iteB (by decide) ?_⟩
        refine ⟨_, rfl, j, _, rfl, jget_seed hj2, _, _, rfl, rfl, _, _, rfl, rfl, (by show (0 : Int) < 18446744073709551616; decide), _, rfl, Int.emod_nonneg _ (by decide), Int.emod_lt_of_pos _ (by decide), fun m m0 m1 => ?_⟩
        refine ⟨_, rfl, j, _, rfl, jput_seed hj2, ?_⟩
        refine ⟨_, rfl, j, _, rfl, jget_seed upd_same, _, rfl, j, _, rfl, jput_rest upd_same, ⟨_, _, _, rfl⟩, ⟨[], _, _, _, upd_same, ?_, Nat.zero_le _⟩, fun b o e b1 b2 => ?_⟩
        · rw [upd_ne njc.symm, upd_ne njc.symm]; exact hc2
        · rw [upd_ne b1, upd_ne b1]; exact kp2 b o e b1 b2
      | cons z zs =>
        refine ⟨.list ((z :: zs).map PyData.int), .list [], .lst (SqL.of hc2) (dpAll_ints _), .lst (SqL.of hl2) .nil, shaped_ints _, rfl, _, rfl, iteA rfl ?_⟩
        -- cell = jar['cells'].pop(0)
        have hz : ((z :: zs).map V.int)[0]? = some (V.int z) := rfl
        refine ⟨_, rfl, j, _, rfl, jget_cells hj2, .inl ⟨rfl, _, SqL.of hc2⟩, c, _, 0, 0, V.int z, rfl, rfl, hc2, by decide, by decide, seqIndex_of (by decide) (by simp), hz, ?_⟩
        have hj3 : upd H2 c (.lst (((z :: zs).map V.int).eraseIdx 0)) j = some (.dK (kv c r sd (t + 1))) := by rw [upd_ne njc]; exact hj2
        have hc3 : upd H2 c (.lst (((z :: zs).map V.int).eraseIdx 0)) c = some (.lst (zs.map V.int)) := upd_same
        have kp3 : Kp j c H (upd H2 c (.lst (((z :: zs).map V.int).eraseIdx 0))) := fun b o e b1 b2 => by rw [upd_ne b2]; exact kp2 b o e b1 b2
        generalize upd H2 c (.lst (((z :: zs).map V.int).eraseIdx 0)) = H3 at hj3 hc3 kp3 ⊢
        have hlz : zs.length ≤ 63 := by simp at hl; omega
        -- jar['rest'] = cell
        refine ⟨_, rfl, _, rfl, j, _, rfl, jput_rest hj3, ?_⟩
        have hj4 : upd H3 j (.dK (kv c z sd (t + 1))) j = some (.dK (kv c z sd (t + 1))) := upd_same
        have hc4 : upd H3 j (.dK (kv c z sd (t + 1))) c = some (.lst (zs.map V.int)) := by rw [upd_ne njc.symm]; exact hc3
        have kp4 : Kp j c H (upd H3 j (.dK (kv c z sd (t + 1)))) := fun b o e b1 b2 => by rw [upd_ne b1]; exact kp3 b o e b1 b2
        generalize upd H3 j (.dK (kv c z sd (t + 1))) = H4 at hj4 hc4 kp4 ⊢
        refine ⟨_, rfl, _, _, rfl, rfl, ⟨by decide, by decide, by decide⟩, _, _, rfl, rfl, _, rfl, ?_⟩
        refine ite2 (fun _ => ?_) (fun _ => ⟨⟨_, _, _, rfl⟩, ⟨zs, _, _, _, hj4, hc4, hlz⟩, kp4⟩)
        refine ⟨_, rfl, _, _, rfl, rfl, .inr ⟨by decide, by decide⟩, _, rfl, j, _, rfl, jget_turn hj4, _, _, rfl, rfl, .inr ⟨by decide, by decide⟩, _, _, rfl, rfl, ?_⟩
        refine ⟨_, rfl, _, _, rfl, rfl, (by show (0 : Int) < 18446744073709551616; decide), _, rfl, Int.emod_nonneg _ (by decide), Int.emod_lt_of_pos _ (by decide), fun m m0 m1 => ?_⟩
        have q := xor_lt m0 (y := 91) (by decide) m1 (by decide)
        refine ⟨_, rfl, _, _, rfl, rfl, .inl ⟨by omega, m1⟩, _, rfl, _, _, rfl, rfl, _, rfl, q.1, q.2, fun m' m0' m1' => ?_⟩
        refine ⟨_, _, rfl, rfl, _, rfl, j, _, rfl, jput_rest hj4, ⟨_, _, _, rfl⟩, ⟨zs, _, _, _, upd_same, ?_, hlz⟩, fun b o e b1 b2 => ?_⟩
        · rw [upd_ne njc.symm]; exact hc4
        · rw [upd_ne b1]; exact kp4 b o e b1 b2
    · rintro σ H1 ⟨⟨x, y, z, rfl⟩, J1, kp⟩
      obtain ⟨cells1, r1, sd1, t1, hj1, hc1, hl1⟩ := J1.ex
      refine ⟨_, rfl, j, _, rfl, jget_rest hj1, _, rfl, _, _, rfl, rfl, n0, ?_⟩
      refine ⟨_, rfl, j, _, rfl, jget_rest hj1, _, rfl, _, _, rfl, rfl, ⟨n0, n1⟩, _, rfl, j, _, rfl, jput_rest hj1, ?_⟩
      refine ⟨_, rfl, k _ _ (Int.emod_nonneg _ (by omega)) (Int.emod_lt_of_pos _ n0) ⟨cells1, _, sd1, t1, upd_same, by rw [upd_ne njc.symm]; exact hc1, hl1⟩ fun b o e b1 b2 => ?_⟩
      rw [upd_ne b1]; exact kp b o e b1 b2
end
end L3
set_option Elab.async false
set_option linter.all false
set_option maxRecDepth 100000
namespace L3
open PySem PySem.Spec PyProof.Rows L2
abbrev nV : Nat → V := fun i => V.int (i : Int)
theorem perm_erase : ∀ {rest : List Nat} {k y : Nat}, rest[k]? = some y → (y :: rest.eraseIdx k).Perm rest
  | [], k, y, h => by simp at h
  | x :: r, 0, y, h => by
    have e : x = y := Option.some.inj h
    subst e
    exact List.Perm.refl _
  | x :: r, k + 1, y, h => by
    have q := perm_erase (rest := r) (k := k) (y := y) h
    exact (List.Perm.swap x y _).trans (List.Perm.cons x q)
theorem perm_pop {acc rest all : List Nat} {k y : Nat} (h : (acc ++ rest).Perm all) (hk : rest[k]? = some y) : (acc ++ [y] ++ rest.eraseIdx k).Perm all := by
  rw [List.append_assoc]
  exact (List.Perm.append_left acc (perm_erase hk)).trans h
theorem erase_map : ∀ (l : List Nat) (k : Nat), (l.map nV).eraseIdx k = (l.eraseIdx k).map nV
  | [], _ => rfl
  | _ :: _, 0 => rfl
  | x :: r, k + 1 => by
    show nV x :: (r.map nV).eraseIdx k = nV x :: (r.eraseIdx k).map nV
    rw [erase_map r k]
section
variable {P : Program} {w : World} {K : PySem.W.Frag} {mg : Str → Option Value} {base : Heap}
def spOrder : Sp := fun vs H Q _ => ∃ (j c : Addr) (n : Nat), vs = [.ref j, nV n] ∧ Jar H j c ∧ n ≤ 1000 ∧ ∀ (l : Addr) (xs : List Nat) (H' : Hp), H l = none → H' l = some (.lst (xs.map nV)) → xs.Perm (List.range n) → Jar H' j c → Kp j c H H' → Q (.ref l) H'
abbrev s_law_order : Stmt := top 20
theorem sc_law_order : FnScope ["jar", "many", "left", "thing"] ["jar", "many"] (defScope s_law_order) := ⟨rfl, rfl, rfl, by decide +kernel, rfl, by decide +kernel, by decide +kernel⟩
theorem ok_law_order {f : Addr} {fd : FuncData} (F : Fun K "_law_order" "_law_order" s_law_order f fd) (T : Tn mg) (D_law_pick : Def P w K mg base "_law_pick" 2 ["jar", "many"] spPick) : FnOk P w K mg base CX0 3 f fd ["jar", "many"] spOrder := by
  refine F.ok sc_law_order (fun vs H Q E h => ?_) (fun cdv A outer s H vs Q E hr h => ?_)
  · obtain ⟨j, c, n, rfl, _⟩ := h
    rfl
  · obtain ⟨j, c, n, rfl, J, n1, k⟩ := h
    refine ⟨_, (pss_cons (ps_set (i := 2) sc_law_order.nd rfl (by first | exact Or.inl rfl | exact Or.inr rfl) (pe_callTy (call_list_rng rfl) (by rfl) T.list_ (by decide +kernel) (pa_cons (pe_callTy call_rng1 (by rfl) T.range_ (by decide +kernel) (pa_cons (pv 1) pa_nil)) pa_nil)))
      (pss_one (ps_ret (pe_lc (own := [("thing", 3)]) (g := (gName 3)) (by rfl) sc_law_order.nd (pi_range1 (by rfl) T.range_ (pa_cons (pv 1) pa_nil)) (blkOk_by (own := [("thing", 3)]) (N := ["jar", "many", "left", "thing"]) (sc := defScope s_law_order) (by decide +kernel)) (fun _ _ _ _ _ => (pg_name (i := 3) sc_law_order.nd rfl (by first | exact Or.inl rfl | exact Or.inr rfl))) (fun _ _ _ _ _ => pts_nil) (fun _ _ _ _ _ => (pe_bm' (K := K) rfl PySem.F.plainAttrs_list PySem.F.slot_list_pop PySem.F.type_list_pop mt_popAt (pv 2) (pa_cons (pe_def D_law_pick (hr.mono (by first | decide | omega)) (by rfl) (pa_cons (pv 0) (pa_cons (pe_callB (call_len_seq' (K := K) rfl) (by rfl) T.len_ (by decide +kernel) (pa_cons (pv 2) pa_nil)) pa_nil))) pa_nil))))))), ?_⟩
    refine ⟨_, rfl, _, rfl, fun p hp => ⟨p, _, rfl, upd_same, by omega, by omega, fun L hL => ?_⟩⟩
    refine ⟨_, rfl, _, rfl, by omega, by omega, fun D hD => ?_⟩
    have J0 := J
    obtain ⟨cells, r, sd, t, hj, hc, hl⟩ := J0.ex
    have hL0 : upd (upd H p (.rng 0 (n : Int))) L (.lst (upto (n : Int).toNat)) L = some (.lst (upto (n : Int).toNat)) := upd_same
    have sm : Same H (upd (upd H p (.rng 0 (n : Int))) L (.lst (upto (n : Int).toNat))) := (same_upd hp).trans (same_upd hL)
    have nLD : L ≠ D := ne_of_none hL0 hD
    have hLH : H L = none := (same_upd hp).free hL
    have hDH : H D = none := sm.free hD
    have nLj : L ≠ j := (ne_of_none hj hLH).symm
    have nLc : L ≠ c := (ne_of_none hc hLH).symm
    have nDj : D ≠ j := (ne_of_none hj hDH).symm
    have nDc : D ≠ c := (ne_of_none hc hDH).symm
    have en : (n : Int).toNat = n := by omega
    refine lc_range (lo := 0) (n := (n : Int).toNat) (fun i H1 => ∃ (acc rest : List Nat), H1 D = some (.lst (acc.map nV)) ∧ H1 L = some (.lst (rest.map nV)) ∧ (acc ++ rest).Perm (List.range n) ∧ acc.length = i ∧ Jar H1 j c ∧ Kp j c H H1) ?_ ?_ ?_
    · refine ⟨[], List.range n, upd_same, ?_, List.Perm.refl _, rfl, ⟨cells, r, sd, t, ?_, ?_, hl⟩, fun b o e b1 b2 => ?_⟩
      · rw [upd_ne nLD, hL0, en]; rfl
      · rw [upd_ne nDj.symm]; exact sm _ _ hj
      · rw [upd_ne nDc.symm]; exact sm _ _ hc
      · rw [upd_ne (ne_of_none e hDH)]; exact sm _ _ e
    · rintro i H2 hi ⟨acc, rest, hD2, hL2, pm, hal, J2, kp2⟩
      have hlen : acc.length + rest.length = n := by
        have := pm.length_eq
        rw [List.length_append, List.length_range] at this
        exact this
      refine ⟨rfl, ?_⟩
      refine ⟨_, rfl, .inl ⟨rfl, _, SqL.of hL2⟩, _, rfl, _, rfl, L, _, rfl, .inl (SqL.of hL2), j, c, _, rfl, J2, ?_, ?_, fun f H3 f0 f1 J3 kp3 => ?_⟩
      · rw [List.length_map]; omega
      · rw [List.length_map]; omega
      · rw [List.length_map] at f1
        have hL3 : H3 L = some (.lst (rest.map nV)) := kp3 _ _ hL2 nLj nLc
        have hD3 : H3 D = some (.lst (acc.map nV)) := kp3 _ _ hD2 nDj nDc
        have hfl : f.toNat < rest.length := by omega
        have hy : rest[f.toNat]? = some rest[f.toNat] := by simp [hfl]
        obtain ⟨cells3, r3, sd3, t3, hj3, hc3, hl3⟩ := J3.ex
        refine ⟨L, _, f, f.toNat, nV rest[f.toNat], rfl, rfl, hL3, by omega, by omega, seqIndex_of f0 (by rw [List.length_map]; omega), by rw [List.getElem?_map, hy]; rfl, ?_⟩
        refine ⟨_, by rw [upd_ne nLD.symm]; exact hD3, small1000 (by rw [List.length_map]; omega), acc ++ [rest[f.toNat]], rest.eraseIdx f.toNat, ?_, ?_, perm_pop pm hy, by rw [List.length_append, hal]; rfl, ⟨cells3, r3, sd3, t3, ?_, ?_, hl3⟩, fun b o e b1 b2 => ?_⟩
        · rw [upd_same, List.map_append]; rfl
        · rw [upd_ne nLD, upd_same, erase_map]
        · rw [upd_ne nDj.symm, upd_ne nLj.symm]; exact hj3
        · rw [upd_ne nDc.symm, upd_ne nLc.symm]; exact hc3
        · rw [upd_ne (ne_of_none e hDH), upd_ne (ne_of_none e hLH)]; exact kp3 b o (kp2 b o e b1 b2) b1 b2
    · rintro H2 ⟨acc, rest, hD2, hL2, pm, hal, J2, kp2⟩
      have hlen : acc.length + rest.length = n := by
        have := pm.length_eq
        rw [List.length_append, List.length_range] at this
        exact this
      have hr0 : rest = [] := List.eq_nil_of_length_eq_zero (by omega)
      subst hr0
      rw [List.append_nil] at pm
      exact k D acc H2 hDH hD2 pm J2 kp2
end
end L3
set_option Elab.async false
set_option linter.all false
set_option maxRecDepth 100000
namespace L3
open PySem PySem.Spec PyProof.Rows L2
structure Net where
  w : Nat
  sw : List (Nat × Nat)
  ord : List Nat
structure Net.Ok (N : Net) : Prop where
  w1 : 1 ≤ N.w
  w16 : N.w ≤ 16
  sw : ∀ p ∈ N.sw, p.1 < N.w ∧ p.2 < N.w ∧ p.1 ≠ p.2
  ord : N.ord.Perm (List.range N.w)
def PairsAt (H : Hp) (as : List Addr) (sw : List (Nat × Nat)) : Prop := as.length = sw.length ∧ ∀ (i : Nat) (a : Addr) (p : Nat × Nat), as[i]? = some a → sw[i]? = some p → H a = some (.tup [nV p.1, nV p.2])
structure NetAt (H : Hp) (p : Addr) (N : Net) : Prop where
  ex : ∃ (ps po : Addr) (as : List Addr), H p = some (.tup [nV N.w, .ref ps, .ref po]) ∧ H ps = some (.tup (as.map V.ref)) ∧ PairsAt H as N.sw ∧ H po = some (.tup (N.ord.map nV))
/-- tuples stay -/
def Tk (H H' : Hp) : Prop := ∀ b xs, H b = some (.tup xs) → H' b = some (.tup xs)
theorem Tk.refl (H : Hp) : Tk H H := fun _ _ h => h
theorem Tk.trans {H H1 H2 : Hp} (a : Tk H H1) (b : Tk H1 H2) : Tk H H2 := fun x o h => b x o (a x o h)
theorem tk_same {H H' : Hp} (s : Same H H') : Tk H H' := fun b xs h => s b _ h
theorem tk_new {H : Hp} {p : Addr} {o : HO} (h : H p = none) : Tk H (upd H p o) := tk_same (same_upd h)
theorem tk_upd {H : Hp} {p : Addr} {o u : HO} (h : H p = some u) (hu : ∀ xs, u ≠ .tup xs) : Tk H (upd H p o) := fun b xs e => by
  rw [upd_ne (ne_of e h (fun z => hu xs z.symm))]; exact e
theorem Kp.tk {j c : Addr} {H H' : Hp} (k : Kp j c H H') (J : Jar H j c) : Tk H H' := fun b xs e => by
  obtain ⟨_, _, _, _, hj, hc, _⟩ := J.ex
  exact k b _ e (ne_of e hj (by intro z; cases z)) (ne_of e hc (by intro z; cases z))
theorem PairsAt.tk {H H' : Hp} {as : List Addr} {sw : List (Nat × Nat)} (h : PairsAt H as sw) (t : Tk H H') : PairsAt H' as sw := ⟨h.1, fun i a p ha hp => t _ _ (h.2 i a p ha hp)⟩
theorem NetAt.tk {H H' : Hp} {p : Addr} {N : Net} (h : NetAt H p N) (t : Tk H H') : NetAt H' p N := by
  obtain ⟨ps, po, as, h1, h2, h3, h4⟩ := h.ex
  exact ⟨ps, po, as, t _ _ h1, t _ _ h2, h3.tk t, t _ _ h4⟩
theorem PairsAt.snoc {H : Hp} {as : List Addr} {sw : List (Nat × Nat)} {a : Addr} {p : Nat × Nat} (h : PairsAt H as sw) (e : H a = some (.tup [nV p.1, nV p.2])) : PairsAt H (as ++ [a]) (sw ++ [p]) := by
  refine ⟨by simp [h.1], fun i b q hb hq => ?_⟩
  by_cases hi : i < as.length
  · rw [List.getElem?_append_left hi] at hb
    rw [List.getElem?_append_left (by rw [← h.1]; exact hi)] at hq
    exact h.2 i b q hb hq
  · rw [List.getElem?_append_right (by omega)] at hb
    rw [List.getElem?_append_right (by rw [← h.1]; omega)] at hq
    have e0 : i - as.length = 0 := by
      have := (List.getElem?_eq_some_iff.mp hb).1
      simp at this; omega
    rw [e0] at hb
    rw [← h.1, e0] at hq
    cases (Option.some.inj hb)
    cases (Option.some.inj hq)
    exact e
theorem dec_eq {a b : Int} (h : decide (V.int a = V.int b) = true) : a = b := by
  have := of_decide_eq_true h
  injection this
theorem dec_ne {a b : Int} (h : ¬ decide (V.int a = V.int b) = true) : a ≠ b := fun e => h (by rw [e]; exact decide_eq_true rfl)
/-- between two turns of the net's loop -/
structure NetSt (H0 : Hp) (j c S : Addr) (w : Nat) (Lf : Addr) (lf : List Nat) (as : List Addr) (sw : List (Nat × Nat)) (H1 : Hp) : Prop where
  hS : H1 S = some (.lst (as.map V.ref))
  hP : PairsAt H1 as sw
  val : ∀ p ∈ sw, p.1 < w ∧ p.2 < w ∧ p.1 ≠ p.2
  hL : H1 Lf = some (.lst (lf.map nV))
  nd : lf.Nodup
  lt : ∀ x ∈ lf, x < w
  J : Jar H1 j c
  kp : Kp j c H0 H1
  nSL : S ≠ Lf
  S0 : H0 S = none
  L0 : H0 Lf = none
theorem Kp.free {j c : Addr} {H H' : Hp} {S : Addr} (k : Kp j c H H') (J' : Jar H' j c) (h : H' S = none) : H S = none := by
  obtain ⟨_, _, _, _, hj, hc, _⟩ := J'.ex
  cases q : H S with
  | none => rfl
  | some o =>
    rw [k S o q (ne_of_none hj h).symm (ne_of_none hc h).symm] at h
    cases h
theorem Jar.nej {j c S : Addr} {H : Hp} (J : Jar H j c) (h : H S = none) : S ≠ j := by
  obtain ⟨_, _, _, _, hj, hc, _⟩ := J.ex
  exact (ne_of_none hj h).symm
theorem Jar.nec {j c S : Addr} {H : Hp} (J : Jar H j c) (h : H S = none) : S ≠ c := by
  obtain ⟨_, _, _, _, hj, hc, _⟩ := J.ex
  exact (ne_of_none hc h).symm
theorem Jar.keep {j c : Addr} {H H' : Hp} (J : Jar H j c) (h1 : ∀ o, H j = some o → H' j = some o) (h2 : ∀ o, H c = some o → H' c = some o) : Jar H' j c := by
  obtain ⟨a, b, d, e, hj, hc, hl⟩ := J.ex
  exact ⟨a, b, d, e, h1 _ hj, h2 _ hc, hl⟩
theorem Jar.same {j c : Addr} {H H' : Hp} (J : Jar H j c) (s : Same H H') : Jar H' j c := J.keep (fun o => s j o) (fun o => s c o)
/-- a list of ours is written: the jar stays -/
theorem Jar.upd {j c S : Addr} {H : Hp} {o : HO} (J : Jar H j c) (h1 : S ≠ j) (h2 : S ≠ c) : Jar (upd H S o) j c := J.keep (fun u e => by rw [upd_ne h1.symm]; exact e) (fun u e => by rw [upd_ne h2.symm]; exact e)
section
variable {H0 H1 H2 : Hp} {j c S : Addr} {w : Nat} {Lf : Addr} {lf : List Nat} {as : List Addr} {sw : List (Nat × Nat)}
theorem NetSt.pick (N : NetSt H0 j c S w Lf lf as sw H1) (J0 : Jar H0 j c) (k : Kp j c H1 H2) (J2 : Jar H2 j c) : NetSt H0 j c S w Lf lf as sw H2 :=
  ⟨k _ _ N.hS (J0.nej N.S0) (J0.nec N.S0), N.hP.tk (k.tk N.J), N.val, k _ _ N.hL (J0.nej N.L0) (J0.nec N.L0), N.nd, N.lt, J2, N.kp.trans k, N.nSL, N.S0, N.L0⟩
/-- another list at left -/
theorem NetSt.left {L2 : Addr} {l2 : List Nat} (N : NetSt H0 j c S w Lf lf as sw H1) (h : H1 L2 = some (.lst (l2.map nV))) (nd : l2.Nodup) (lt : ∀ x ∈ l2, x < w) (n : S ≠ L2) (h0 : H0 L2 = none) : NetSt H0 j c S w L2 l2 as sw H1 :=
  ⟨N.hS, N.hP, N.val, h, nd, lt, N.J, N.kp, n, N.S0, h0⟩
/-- the last one popped off left -/
theorem NetSt.pop (N : NetSt H0 j c S w Lf lf as sw H1) (J0 : Jar H0 j c) : NetSt H0 j c S w Lf lf.dropLast as sw (upd H1 Lf (.lst (lf.map nV).dropLast)) := by
  refine ⟨by rw [upd_ne N.nSL]; exact N.hS, N.hP.tk (tk_upd N.hL (by intro xs z; cases z)), N.val, ?_, N.nd.sublist (List.dropLast_sublist _), fun x hx => N.lt x ((List.dropLast_sublist _).subset hx), N.J.upd (J0.nej N.L0) (J0.nec N.L0), fun b o e b1 b2 => ?_, N.nSL, N.S0, N.L0⟩
  · rw [upd_same, List.map_dropLast]
  · rw [upd_ne (ne_of_none e N.L0)]; exact N.kp b o e b1 b2
/-- a new switch -/
theorem NetSt.more {a : Addr} {p : Nat × Nat} (N : NetSt H0 j c S w Lf lf as sw H1) (J0 : Jar H0 j c) (ha : H1 a = none) (hp : p.1 < w ∧ p.2 < w ∧ p.1 ≠ p.2) :
    NetSt H0 j c S w Lf lf (as ++ [a]) (sw ++ [p]) (upd (upd H1 a (.tup [nV p.1, nV p.2])) S (.lst (as.map V.ref ++ [.ref a]))) := by
  have nSa : S ≠ a := ne_of_none N.hS ha
  have nLa : Lf ≠ a := ne_of_none N.hL ha
  have hS1 : upd H1 a (.tup [nV p.1, nV p.2]) S = some (.lst (as.map V.ref)) := by rw [upd_ne nSa]; exact N.hS
  have t : Tk (upd H1 a (.tup [nV p.1, nV p.2])) (upd (upd H1 a (.tup [nV p.1, nV p.2])) S (.lst (as.map V.ref ++ [.ref a]))) := tk_upd hS1 (by intro xs z; cases z)
  refine ⟨by rw [upd_same, List.map_append]; rfl, (((N.hP.tk (tk_new ha)).snoc (p := p) upd_same).tk t), fun q hq => ?_, by rw [upd_ne N.nSL.symm, upd_ne nLa]; exact N.hL, N.nd, N.lt, ?_, fun b o e b1 b2 => ?_, N.nSL, N.S0, N.L0⟩
  · rcases List.mem_append.mp hq with h | h
    · exact N.val q h
    · rw [List.mem_singleton.mp h]; exact hp
  · exact (N.J.same (same_upd ha)).upd (J0.nej N.S0) (J0.nec N.S0)
  · have e1 := N.kp b o e b1 b2
    rw [upd_ne (ne_of_none e N.S0), upd_ne (ne_of_none e1 ha)]; exact e1
end
theorem two_last {l : List Nat} (h : 2 ≤ l.length) : ∃ l0 y x, l = l0 ++ [y] ++ [x] := by
  obtain ⟨l1, x, rfl⟩ : ∃ l1 x, l = l1 ++ [x] := ⟨l.dropLast, l.getLast (by intro z; subst z; simp at h), (List.dropLast_concat_getLast _).symm⟩
  obtain ⟨l0, y, rfl⟩ : ∃ l0 y, l1 = l0 ++ [y] := ⟨l1.dropLast, l1.getLast (by intro z; subst z; simp at h), (List.dropLast_concat_getLast _).symm⟩
  exact ⟨l0, y, x, rfl⟩
theorem perm_lt {xs : List Nat} {n : Nat} (h : xs.Perm (List.range n)) : xs.Nodup ∧ ∀ x ∈ xs, x < n := ⟨h.nodup_iff.mpr List.nodup_range, fun x hx => List.mem_range.mp (h.mem_iff.mp hx)⟩
section
variable {P : Program} {w : World} {K : PySem.W.Frag} {mg : Str → Option Value} {base : Heap}
def spNet : Sp := fun vs H Q _ => ∃ (j c : Addr) (wd mo : Nat), vs = [.ref j, nV wd, nV mo] ∧ Jar H j c ∧ 1 ≤ wd ∧ wd ≤ 16 ∧ mo ≤ 160 ∧
  ∀ (p : Addr) (N : Net) (H' : Hp), N.Ok → N.w ≤ wd → N.sw.length ≤ mo → NetAt H' p N → Jar H' j c → Kp j c H H' → Q (.ref p) H'
abbrev s_law_net : Stmt := top 21
theorem sc_law_net : FnScope ["jar", "widest", "most", "width", "form", "many", "switches", "left", "k", "a", "step", "b", "order"] ["jar", "widest", "most"] (defScope s_law_net) := ⟨rfl, rfl, rfl, by decide +kernel, rfl, by decide +kernel, by decide +kernel⟩
set_option maxHeartbeats 1000000 in
theorem ok_law_net {f : Addr} {fd : FuncData} (F : Fun K "_law_net" "_law_net" s_law_net f fd) (T : Tn mg) (D_law_pick : Def P w K mg base "_law_pick" 2 ["jar", "many"] spPick) (D_law_order : Def P w K mg base "_law_order" 3 ["jar", "many"] spOrder) : FnOk P w K mg base CX0 4 f fd ["jar", "widest", "most"] spNet := by
  refine F.ok sc_law_net (fun vs H Q E h => ?_) (fun cdv A outer s H vs Q E hr h => ?_)
  · obtain ⟨j, c, wd, mo, rfl, _⟩ := h
    rfl
  · obtain ⟨j, c, wd, mo, rfl, J, wd1, wd16, mo1, k⟩ := h
    refine ⟨_, (pss_cons (ps_set (i := 3) sc_law_net.nd rfl (by first | exact Or.inl rfl | exact Or.inr rfl) (pe_op op_add pe_int (pe_def D_law_pick (hr.mono (by first | decide | omega)) (by rfl) (pa_cons (pv 0) (pa_cons (pv 1) pa_nil)))))
      (pss_cons (ps_set (i := 4) sc_law_net.nd rfl (by first | exact Or.inl rfl | exact Or.inr rfl) (pe_def D_law_pick (hr.mono (by first | decide | omega)) (by rfl) (pa_cons (pv 0) (pa_cons pe_int pa_nil))))
      (pss_cons (ps_set (i := 5) sc_law_net.nd rfl (by first | exact Or.inl rfl | exact Or.inr rfl) (pe_op op_mul (pe_def D_law_pick (hr.mono (by first | decide | omega)) (by rfl) (pa_cons (pv 0) (pa_cons (pe_op op_add (pv 2) pe_int) pa_nil))) (pe_callTy call_int1 (by rfl) T.int_ (by decide +kernel) (pa_cons (pe_cmpR op_gt (pv 3) pe_int (nomark _)) pa_nil))))
      (pss_cons (ps_set (i := 6) sc_law_net.nd rfl (by first | exact Or.inl rfl | exact Or.inr rfl) (pe_lst pa_nil))
      (pss_cons (ps_set (i := 7) sc_law_net.nd rfl (by first | exact Or.inl rfl | exact Or.inr rfl) (pe_lst pa_nil))
      (pss_cons (ps_for PassesOwn.never rfl (pi_range1 (by rfl) T.range_ (pa_cons (pv 5) pa_nil)) (pg_name (i := 8) sc_law_net.nd rfl (by first | exact Or.inl rfl | exact Or.inr rfl)) (pss_cons (ps_set (i := 9) sc_law_net.nd rfl (by first | exact Or.inl rfl | exact Or.inr rfl) (pe_def D_law_pick (hr.mono (by first | decide | omega)) (by rfl) (pa_cons (pv 0) (pa_cons (pv 3) pa_nil))))
      (pss_cons (ps_set (i := 10) sc_law_net.nd rfl (by first | exact Or.inl rfl | exact Or.inr rfl) (pe_op op_add pe_int (pe_def D_law_pick (hr.mono (by first | decide | omega)) (by rfl) (pa_cons (pv 0) (pa_cons (pe_op op_sub (pv 3) pe_int) pa_nil)))))
      (pss_cons (ps_cut (ps_if (pt_cmpR op_eq (pv 4) pe_int (nomark _)) (pss_one (ps_set (i := 10) sc_law_net.nd rfl (by first | exact Or.inl rfl | exact Or.inr rfl) pe_int)) pss_nil))
      (pss_cons (ps_cut (ps_if (pt_cmpR op_eq (pv 4) pe_int (nomark _)) (pss_one (ps_set (i := 9) sc_law_net.nd rfl (by first | exact Or.inl rfl | exact Or.inr rfl) pe_int)) pss_nil))
      (pss_cons (ps_cut (ps_if (PW.pt (pw_and (pt_cmpR op_eq (pv 4) pe_int (nomark _)) (pw_and1 (pt_cmpR op_lt (pe_callB call_len_seq (by rfl) T.len_ (by decide +kernel) (pa_cons (pv 7) pa_nil)) pe_int (nomark _))))) (pss_one (ps_set (i := 7) sc_law_net.nd rfl (by first | exact Or.inl rfl | exact Or.inr rfl) (pe_def D_law_order (hr.mono (by first | decide | omega)) (by rfl) (pa_cons (pv 0) (pa_cons (pv 3) pa_nil))))) pss_nil))
      (pss_cons (ps_cut (ps_if (PW.pt (pw_and (pt_cmpR op_eq (pv 4) pe_int (nomark _)) (pw_and1 (pt_cmpR op_gt (pv 8) pe_int (nomark _))))) (pss_one (ps_par (i := 9) (j := 10) (by rfl) sc_law_net.nd rfl rfl (by decide) rfl rfl (pa_cons (pe_ix ix_tup (pe_ix ix_list (pv 6) pe_int (fun _ _ => rfl)) pe_int (fun _ _ => rfl)) (pa_cons (pe_op op_sub (pe_ix ix_tup (pe_ix ix_list (pv 6) pe_int (fun _ _ => rfl)) pe_int (fun _ _ => rfl)) (pe_ix ix_tup (pe_ix ix_list (pv 6) pe_int (fun _ _ => rfl)) pe_int (fun _ _ => rfl))) pa_nil)) (by rfl))) pss_nil))
      (pss_cons (ps_set (i := 11) sc_law_net.nd rfl (by first | exact Or.inl rfl | exact Or.inr rfl) (pe_op op_mod (pe_op op_add (pv 9) (pv 10)) (pv 3)))
      (pss_cons (ps_cut (ps_if (pt_cmpR op_eq (pv 4) pe_int (nomark _)) (pss_cons (ps_set (i := 9) sc_law_net.nd rfl (by first | exact Or.inl rfl | exact Or.inr rfl) (pe_bm0 PySem.F.plainAttrs_list PySem.F.slot_list_pop PySem.F.type_list_pop mt_pop (pv 7)))
      (pss_one (ps_set (i := 11) sc_law_net.nd rfl (by first | exact Or.inl rfl | exact Or.inr rfl) (pe_bm0 PySem.F.plainAttrs_list PySem.F.slot_list_pop PySem.F.type_list_pop mt_pop (pv 7))))) pss_nil))
      (pss_one (ps_expr (pe_bm PySem.F.plainAttrs_list PySem.F.slot_list_append PySem.F.type_list_append mt_append (pv 6) (pa_cons (pe_tup (pa_cons (pv 9) (pa_cons (pv 11) pa_nil))) pa_nil)))))))))))))
      (pss_cons (ps_set (i := 12) sc_law_net.nd rfl (by first | exact Or.inl rfl | exact Or.inr rfl) (pe_callTy (call_tup_rng rfl) (by rfl) T.tuple_ (by decide +kernel) (pa_cons (pe_callTy call_rng1 (by rfl) T.range_ (by decide +kernel) (pa_cons (pv 3) pa_nil)) pa_nil)))
      (pss_cons (ps_cut (ps_if (pt_cmpR op_eq (pe_def D_law_pick (hr.mono (by first | decide | omega)) (by rfl) (pa_cons (pv 0) (pa_cons pe_int pa_nil))) pe_int (nomark _)) (pss_one (ps_set (i := 12) sc_law_net.nd rfl (by first | exact Or.inl rfl | exact Or.inr rfl) (pe_callTy call_tuple_of (by rfl) T.tuple_ (by decide +kernel) (pa_cons (pe_def D_law_order (hr.mono (by first | decide | omega)) (by rfl) (pa_cons (pv 0) (pa_cons (pv 3) pa_nil))) pa_nil)))) pss_nil))
      (pss_one (ps_ret (pe_tup (pa_cons (pv 3) (pa_cons (pe_callTy call_tuple_of (by rfl) T.tuple_ (by decide +kernel) (pa_cons (pv 6) pa_nil)) (pa_cons (pv 12) pa_nil)))))))))))))), ?_⟩
    -- width, form, many
    refine ⟨_, rfl, _, rfl, j, c, _, rfl, J, by omega, by omega, fun f1 H1 f1a f1b J1 kp1 => ⟨_, _, rfl, rfl, ?_⟩⟩
    obtain ⟨wn, rfl⟩ : ∃ wn : Nat, f1 = (wn : Int) := ⟨f1.toNat, by omega⟩
    refine ⟨_, rfl, j, c, _, rfl, J1, by decide, by decide, fun f2 H2 f2a f2b J2 kp2 => ?_⟩
    refine ⟨_, rfl, _, rfl, _, _, rfl, rfl, j, c, _, rfl, J2, by omega, by omega, fun f3 H3 f3a f3b J3 kp3 => ?_⟩
    refine ⟨_, rfl, _, _, rfl, rfl, .inr ⟨_, rfl, _, _, rfl, rfl, .inr ⟨by split <;> decide, by split <;> decide⟩, ?_⟩⟩
    -- switches = [], left = []
    refine ⟨Nat.zero_le _, fun S hS => ⟨Nat.zero_le _, fun L hL => ?_⟩⟩
    have nSL : S ≠ L := ne_of_none (upd_same (o := .lst [])) hL
    have kpa : Kp j c H H3 := (kp1.trans kp2).trans kp3
    have hS0 : H S = none := kpa.free J3 hS
    have hL3 : H3 L = none := (same_upd hS).free hL
    have hL0 : H L = none := kpa.free J3 hL3
    have sm : Same H3 (upd (upd H3 S (.lst [])) L (.lst [])) := (same_upd hS).trans (same_upd hL)
    have N0 : NetSt H j c S (1 + wn) L [] [] [] (upd (upd H3 S (.lst [])) L (.lst [])) :=
      ⟨by rw [upd_ne nSL]; exact upd_same, ⟨rfl, fun i a p h => by simp at h⟩, fun p h => by simp at h, upd_same, List.nodup_nil, fun x h => by simp at h, J3.same sm, kpa.trans (Same.kp sm), nSL, hS0, hL0⟩
    generalize upd (upd H3 S (.lst [])) L (.lst []) = H4 at N0 ⊢
    dsimp only
    generalize hm : (f3 * if decide (1 < 1 + (wn : Int)) = true then 1 else 0) = m
    have m0 : 0 ≤ m ∧ m ≤ mo ∧ (0 < m → 1 ≤ wn) := by
      rw [← hm]; split
      · rename_i h
        have := of_decide_eq_true h
        omega
      · omega
    refine ⟨_, rfl, m, rfl, by omega, by omega, ?_⟩
    refine for_range (lo := 0) (n := m.toNat) (fun i σ H1 => ∃ (Lf : Addr) (lf : List Nat) (as : List Addr) (sw : List (Nat × Nat)) (x8 x9 x10 x11 : Option V), σ = [some (.ref j), some (nV wd), some (nV mo), some (.int (1 + (wn : Int))), some (.int f2), some (.int m), some (.ref S), some (.ref Lf), x8, x9, x10, x11, none] ∧
      NetSt H j c S (1 + wn) Lf lf as sw H1 ∧ sw.length = i) ⟨L, [], [], [], _, _, _, _, rfl, N0, rfl⟩ ?_ ?_
    · rintro i σ H5 hi ⟨Lf, lf, as, sw, x8, x9, x10, x11, rfl, N5, hlen⟩
      have wn1 : 1 ≤ wn := m0.2.2 (by omega)
      -- a, step
      refine ⟨_, rfl, _, rfl, j, c, _, rfl, N5.J, by omega, by omega, fun a H6 a0 a1 J6 kp6 => ?_⟩
      have N6 := N5.pick J kp6 J6
      refine ⟨_, rfl, _, rfl, _, _, rfl, rfl, j, c, _, rfl, J6, by omega, by omega, fun st H7 st0 st1 J7 kp7 => ⟨_, _, rfl, rfl, ?_⟩⟩
      have N7 := N6.pick J kp7 J7
      -- if form == 1
      refine ⟨fun σ H' => ∃ st' : Int, 1 ≤ st' ∧ st' ≤ wn ∧ H7 = H' ∧ σ = [some (.ref j), some (nV wd), some (nV mo), some (.int (1 + (wn : Int))), some (.int f2), some (.int m), some (.ref S), some (.ref Lf), some (.int (0 + (i : Int))), some (.int a), some (.int st'), x11, none], ?_, ?_⟩
      · refine ⟨_, rfl, rfl, _, rfl, ite2 (fun _ => ⟨1, by omega, by omega, rfl, rfl⟩) (fun _ => ⟨1 + st, by omega, by omega, rfl, rfl⟩)⟩
      rintro _ _ ⟨st', s1, s2, rfl, rfl⟩
      -- if form == 2
      refine ⟨fun σ H'' => ∃ a' : Int, 0 ≤ a' ∧ a' ≤ wn ∧ H7 = H'' ∧ σ = [some (.ref j), some (nV wd), some (nV mo), some (.int (1 + (wn : Int))), some (.int f2), some (.int m), some (.ref S), some (.ref Lf), some (.int (0 + (i : Int))), some (.int a'), some (.int st'), x11, none], ?_, ?_⟩
      · refine ⟨_, rfl, rfl, _, rfl, ite2 (fun _ => ⟨0, by omega, by omega, rfl, rfl⟩) (fun _ => ⟨a, by omega, by omega, rfl, rfl⟩)⟩
      rintro _ _ ⟨a', a2, a3, rfl, rfl⟩
      -- if form == 3 and len(left) < 2
      refine ⟨fun σ H'' => ∃ (Lg : Addr) (lg : List Nat), NetSt H j c S (1 + wn) Lg lg as sw H'' ∧ (f2 = 3 → 2 ≤ lg.length) ∧ σ = [some (.ref j), some (nV wd), some (nV mo), some (.int (1 + (wn : Int))), some (.int f2), some (.int m), some (.ref S), some (.ref Lg), some (.int (0 + (i : Int))), some (.int a'), some (.int st'), x11, none], ?_, ?_⟩
      · refine ⟨_, rfl, rfl, _, rfl, ite2 (fun e3 => ?_) (fun e3 => ?_)⟩
        · refine ⟨_, rfl, Lf, _, rfl, .inl (SqL.of N7.hL), _, _, rfl, rfl, _, rfl, ite2 (fun e2 => ?_) (fun e2 => ?_)⟩
          · refine ⟨_, rfl, _, rfl, j, c, 1 + wn, rfl, J7, by omega, fun Lg lg H8 h8 hg pm J8 kp8 => ?_⟩
            have N8 := N7.pick J kp8 J8
            have q := perm_lt pm
            exact ⟨Lg, lg, N8.left hg q.1 q.2 (ne_of_none N7.hS h8) (N7.kp.free J7 h8), fun _ => by rw [pm.length_eq, List.length_range]; omega, rfl⟩
          · refine ⟨Lf, lf, N7, fun _ => ?_, rfl⟩
            have : ¬ ((lf.map nV).length : Int) < 2 := fun z => e2 (decide_eq_true z)
            rw [List.length_map] at this
            omega
        · exact ⟨Lf, lf, N7, fun z => absurd z (dec_ne e3), rfl⟩
      rintro _ H8 ⟨Lg, lg, N8, hlg, rfl⟩
      -- if form == 4 and k > 0
      refine ⟨fun σ H'' => ∃ a'' st'' : Int, 0 ≤ a'' ∧ a'' ≤ wn ∧ (a'' + st'') % (1 + (wn : Int)) ≠ a'' ∧ H8 = H'' ∧ σ = [some (.ref j), some (nV wd), some (nV mo), some (.int (1 + (wn : Int))), some (.int f2), some (.int m), some (.ref S), some (.ref Lg), some (.int (0 + (i : Int))), some (.int a''), some (.int st''), x11, none], ?_, ?_⟩
      · have plain : (a' + st') % (1 + (wn : Int)) ≠ a' := by
          by_cases hlt : a' + st' < 1 + (wn : Int)
          · rw [Int.emod_eq_of_lt (by omega) hlt]; omega
          · rw [← Int.sub_emod_right, Int.emod_eq_of_lt (by omega) (by omega)]; omega
        refine ⟨_, rfl, rfl, _, rfl, ite2 (fun e4 => ?_) (fun e4 => ⟨a', st', a2, a3, plain, rfl, rfl⟩)⟩
        refine ⟨_, rfl, _, _, rfl, rfl, _, rfl, ite2 (fun e5 => ?_) (fun e5 => ⟨a', st', a2, a3, plain, rfl, rfl⟩)⟩
        have i0 : 0 < i := by have := of_decide_eq_true e5; omega
        have hs0 : 0 < sw.length := by omega
        have ha0 : 0 < as.length := by rw [N8.hP.1]; omega
        obtain ⟨p, hp⟩ : ∃ p, sw[0]? = some p := ⟨sw[0], by simp [hs0]⟩
        obtain ⟨b, hb⟩ : ∃ b, as[0]? = some b := ⟨as[0], by simp [ha0]⟩
        have hpb := N8.hP.2 0 b p hb hp
        have hv := N8.val p (List.mem_of_getElem? hp)
        have hbV : (as.map V.ref)[0]? = some (V.ref b) := by rw [List.getElem?_map, hb]; rfl
        have g0 : atI ([nV p.1, nV p.2] : List V) 0 = some (nV p.1) := rfl
        have g1 : atI ([nV p.1, nV p.2] : List V) 1 = some (nV p.2) := rfl
        refine ⟨_, rfl, S, _, _, _, rfl, rfl, SqL.of N8.hS, at_of (j := 0) rfl hbV, b, _, _, _, rfl, rfl, SqT.of hpb, g0, _, rfl, S, _, _, _, rfl, rfl, SqL.of N8.hS, at_of (j := 0) rfl hbV, b, _, _, _, rfl, rfl, SqT.of hpb, g1, _, rfl, S, _, _, _, rfl, rfl, SqL.of N8.hS, at_of (j := 0) rfl hbV, b, _, _, _, rfl, rfl, SqT.of hpb, g0, _, _, rfl, rfl, _, _, rfl, (p.1 : Int), (p.2 : Int) - (p.1 : Int), by omega, by omega, ?_, rfl, rfl⟩
        have e : (p.1 : Int) + ((p.2 : Int) - (p.1 : Int)) = (p.2 : Int) := by omega
        rw [e, Int.emod_eq_of_lt (by omega) (by omega)]
        omega
      rintro _ _ ⟨a'', st'', c1, c2, c3, rfl, rfl⟩
      -- b
      refine ⟨_, rfl, _, rfl, _, _, rfl, rfl, _, rfl, _, _, rfl, rfl, (by show (0 : Int) < 1 + (wn : Int); omega), ?_⟩
      -- if form == 3
      refine ⟨fun σ H'' => ∃ (x y : Nat) (lh : List Nat), x < 1 + wn ∧ y < 1 + wn ∧ x ≠ y ∧ NetSt H j c S (1 + wn) Lg lh as sw H'' ∧ ∃ x10 : Option V, σ = [some (.ref j), some (nV wd), some (nV mo), some (.int (1 + (wn : Int))), some (.int f2), some (.int m), some (.ref S), some (.ref Lg), some (.int (0 + (i : Int))), some (nV x), x10, some (nV y), none], ?_, ?_⟩
      · refine ⟨_, rfl, rfl, _, rfl, ite2 (fun e3 => ?_) (fun e3 => ?_)⟩
        · obtain ⟨l0, y, x, rfl⟩ := two_last (hlg (dec_eq e3))
          have d1 : (l0 ++ [y] ++ [x]).dropLast = l0 ++ [y] := List.dropLast_concat
          have d2 : (l0 ++ [y]).dropLast = l0 := List.dropLast_concat
          have N9 := N8.pop J
          rw [d1] at N9
          have N10 := N9.pop J
          rw [d2] at N10
          refine ⟨_, rfl, .inl ⟨rfl, _, SqL.of N8.hL⟩, Lg, _, nV x, rfl, rfl, N8.hL, by simp, ?_⟩
          refine ⟨_, rfl, .inl ⟨rfl, _, SqL.of N9.hL⟩, Lg, _, nV y, rfl, rfl, N9.hL, by simp, ?_⟩
          refine ⟨x, y, l0, N8.lt x (by simp), N8.lt y (by simp), ?_, N10, some (.int st''), rfl⟩
          have nd := N8.nd
          rw [List.nodup_append] at nd
          exact fun e => nd.2.2 y (by simp) x (by simp) e.symm
        · have b0 := Int.emod_nonneg (a'' + st'') (show (1 + (wn : Int)) ≠ 0 by omega)
          have b1 := Int.emod_lt_of_pos (a'' + st'') (show 0 < (1 + (wn : Int)) by omega)
          refine ⟨a''.toNat, ((a'' + st'') % (1 + (wn : Int))).toNat, lg, by omega, by omega, by omega, N8, some (.int st''), ?_⟩
          have ea : nV a''.toNat = V.int a'' := congrArg V.int (by omega)
          have eb : nV ((a'' + st'') % (1 + (wn : Int))).toNat = V.int ((a'' + st'') % (1 + (wn : Int))) := congrArg V.int (by omega)
          rw [ea, eb]; rfl
      rintro _ H9 ⟨x, y, lh, hx, hy, hxy, N9, x10', rfl⟩
      -- switches.append((a, b))
      refine ⟨_, rfl, .inl ⟨rfl, _, SqL.of N9.hS⟩, _, rfl, _, rfl, (by show 2 ≤ sizeLine; decide), fun q hq => ⟨S, _, _, rfl, rfl, (by rw [upd_ne (ne_of_none N9.hS hq)]; exact N9.hS), small1000 (by rw [List.length_map, N9.hP.1]; omega), ?_⟩⟩
      exact ⟨Lg, lh, as ++ [q], sw ++ [(x, y)], _, _, _, _, rfl, N9.more J hq ⟨hx, hy, hxy⟩, by rw [List.length_append, hlen]; rfl⟩
    · rintro σ H5 ⟨Lf, lf, as, sw, x8, x9, x10, x11, rfl, N5, hlen⟩
      have hlm : sw.length ≤ mo := by omega
      -- order = tuple(range(width))
      refine ⟨_, rfl, _, rfl, fun p hp => ⟨p, _, rfl, upd_same, by omega, by omega, fun q hq => ?_⟩⟩
      have sm : Same H5 (upd (upd H5 p (.rng 0 (1 + (wn : Int)))) q (.tup (upto (1 + (wn : Int)).toNat))) := (same_upd hp).trans (same_upd hq)
      have hq1 : upd (upd H5 p (.rng 0 (1 + (wn : Int)))) q (.tup (upto (1 + (wn : Int)).toNat)) q = some (.tup ((List.range (1 + wn)).map nV)) := by
        rw [upd_same, show (1 + (wn : Int)).toNat = 1 + wn by omega]; rfl
      have N6 := N5.pick J (Same.kp sm) (N5.J.same sm)
      generalize upd (upd H5 p (.rng 0 (1 + (wn : Int)))) q (.tup (upto (1 + (wn : Int)).toNat)) = H6 at N6 hq1 ⊢
      refine ⟨fun σ H'' => ∃ (po : Addr) (ord : List Nat), NetSt H j c S (1 + wn) Lf lf as sw H'' ∧ H'' po = some (.tup (ord.map nV)) ∧ ord.Perm (List.range (1 + wn)) ∧ σ = [some (.ref j), some (nV wd), some (nV mo), some (.int (1 + (wn : Int))), some (.int f2), some (.int m), some (.ref S), some (.ref Lf), x8, x9, x10, x11, some (.ref po)], ?_, ?_⟩
      · refine ⟨_, rfl, j, c, _, rfl, N6.J, by decide, by decide, fun z H7 z0 z1 J7 kp7 => ⟨rfl, _, rfl, ?_⟩⟩
        have N7 := N6.pick J kp7 J7
        refine ite2 (fun _ => ?_) (fun _ => ⟨q, _, N7, kp7.tk N6.J _ _ hq1, List.Perm.refl _, rfl⟩)
        refine ⟨_, rfl, _, rfl, j, c, 1 + wn, rfl, J7, by omega, fun l xs H8 h8 hl pm J8 kp8 => ⟨l, _, rfl, .inl ⟨SqL.of hl, fun r hr => ?_⟩⟩⟩
        have N8 := N7.pick J kp8 J8
        have N9 := N8.pick J (Same.kp (same_upd (o := .tup (xs.map nV)) hr)) (N8.J.same (same_upd hr))
        exact ⟨r, xs, N9, upd_same, pm, rfl⟩
      rintro _ H7 ⟨po, ord, N7, hpo, pm, rfl⟩
      refine ⟨_, rfl, _, rfl, S, _, rfl, .inl ⟨SqL.of N7.hS, fun ps hps => ⟨_, rfl, (by show 3 ≤ sizeLine; decide), fun pp hpp => ?_⟩⟩⟩
      have t1 : Same H7 (upd (upd H7 ps (.tup (as.map V.ref))) pp (.tup [.int (1 + (wn : Int)), .ref ps, .ref po])) := (same_upd hps).trans (same_upd hpp)
      refine k pp ⟨1 + wn, sw, ord⟩ _ ⟨by show 1 ≤ 1 + wn; omega, by show 1 + wn ≤ 16; omega, N7.val, pm⟩ (by show 1 + wn ≤ wd; omega) hlm ⟨ps, po, as, upd_same, ?_, N7.hP.tk (tk_same t1), t1 _ _ hpo⟩ (N7.J.same t1) (N7.kp.trans (Same.kp t1))
      exact (same_upd hpp) _ _ upd_same
end
end L3
set_option Elab.async false
set_option linter.all false
set_option maxRecDepth 100000
namespace L3
open PySem PySem.Spec PyProof.Rows L2
section
variable {K : PySem.W.Frag}
end
def sq : Bool → List V → HO
  | true, xs => .tup xs
  | false, xs => .lst xs
inductive Flat : V → Prop where
  | int (i : Int) : Flat (.int i)
  | bl (b : Bool) : Flat (.bl b)
  | str (x : Str) : Flat (.str x)
  | non : Flat .non
/-- the same data, of a depth below n -/
def EqS : Nat → Hp → V → V → Prop
  | 0, _, _, _ => False
  | n + 1, H, x, y => (x = y ∧ Flat x) ∨ ∃ (t : Bool) (a b : Addr) (xs ys : List V), x = .ref a ∧ y = .ref b ∧ H a = some (sq t xs) ∧ H b = some (sq t ys) ∧ xs.length = ys.length ∧ xs.length ≤ 1000 ∧
      ∀ (i : Nat) (u v : V), xs[i]? = some u → ys[i]? = some v → EqS n H u v
theorem EqS.same {H H' : Hp} (s : Same H H') : ∀ {n : Nat} {x y : V}, EqS n H x y → EqS n H' x y
  | 0, _, _, h => h
  | n + 1, x, y, h => by
    rcases h with h | ⟨t, a, b, xs, ys, e1, e2, h1, h2, h3, h4, h5⟩
    · exact .inl h
    · exact .inr ⟨t, a, b, xs, ys, e1, e2, s _ _ h1, s _ _ h2, h3, h4, fun i u v hu hv => EqS.same s (h5 i u v hu hv)⟩
end L3
set_option Elab.async false
set_option linter.all false
set_option maxRecDepth 100000
namespace L3
open PySem PySem.Spec PyProof.Rows L2
section
variable {P : Program} {w : World} {K : PySem.W.Frag} {mg : Str → Option Value} {base : Heap}
/-- the list at L grows, or is written in, beside the jar -/
structure ListSt (H0 : Hp) (j c L : Addr) (cs : List Int) (H1 : Hp) : Prop where
  hL : H1 L = some (.lst (cs.map V.int))
  J : Jar H1 j c
  kp : Kp j c H0 H1
  L0 : H0 L = none
theorem ListSt.pick {H0 H1 H2 : Hp} {j c L : Addr} {cs : List Int} (S : ListSt H0 j c L cs H1) (J0 : Jar H0 j c) (k : Kp j c H1 H2) (J2 : Jar H2 j c) : ListSt H0 j c L cs H2 :=
  ⟨k _ _ S.hL (J0.nej S.L0) (J0.nec S.L0), J2, S.kp.trans k, S.L0⟩
theorem ListSt.put {H0 H1 : Hp} {j c L : Addr} {cs : List Int} (S : ListSt H0 j c L cs H1) (J0 : Jar H0 j c) (ds : List Int) (vs : List V) (e : vs = ds.map V.int) : ListSt H0 j c L ds (upd H1 L (.lst vs)) :=
  ⟨by rw [upd_same, e], S.J.upd (J0.nej S.L0) (J0.nec S.L0), fun b o h b1 b2 => by rw [upd_ne (ne_of_none h S.L0)]; exact S.kp b o h b1 b2, S.L0⟩
end
end L3
set_option Elab.async false
set_option linter.all false
set_option maxRecDepth 100000
namespace L4
open PySem PySem.Spec PyProof.Rows L2 L3
theorem rp_nats {K : PySem.W.Frag} {M : Map} {n : Nat} {H : Hp} : ∀ l : List Nat, RPs K M n H (l.map natP) (l.map nV)
  | [] => .nil
  | x :: l => .cons (.int _) (rp_nats l)
theorem rp_pairs {K : PySem.W.Frag} {M : Map} {n : Nat} {H : Hp} : ∀ {as : List Addr} {sw : List (Nat × Nat)}, PairsAt H as sw → RPs K M n H (sw.map swP) (as.map V.ref)
  | [], [], _ => .nil
  | a :: as, p :: sw, h => .cons (.tup (SqT.of (h.2 0 a p rfl rfl)) (.cons (.int _) (.cons (.int _) .nil))) (rp_pairs ⟨by simpa using h.1, fun i b q hb hq => h.2 (i + 1) b q (by simpa using hb) (by simpa using hq)⟩)
  | [], _ :: _, h => by have := h.1; simp at this
  | _ :: _, [], h => by have := h.1; simp at this
def netP (N : Net) : PV := .tup [natP N.w, .tup (N.sw.map swP), natsP N.ord]
theorem rp_net {K : PySem.W.Frag} {M : Map} {n : Nat} {H : Hp} {p : Addr} {N : Net} (h : NetAt H p N) : RP K M n H (netP N) (.ref p) := by
  obtain ⟨ps, po, as, h1, h2, h3, h4⟩ := h.ex
  exact .tup (SqT.of h1) (.cons (.int _) (.cons (.tup (SqT.of h2) (rp_pairs h3)) (.cons (.tup (SqT.of h4) (rp_nats _)) .nil)))
def wOrder : WC := fun vs S Q => ∃ (j n : Nat), vs = [.ref j, natP n] ∧ S[j]? = some .jar ∧ n ≤ 1000 ∧ ∀ xs : List Nat, xs.Perm (List.range n) → Q (.ref S.length) (S ++ [.lst (xs.map natP)])
theorem mo_order : MoC wOrder := fun xs S Q Q' ⟨j, n, e, h1, h2, q⟩ k => ⟨j, n, e, h1, h2, fun xs h => k _ _ (q xs h)⟩
theorem order_imp {K : PySem.W.Frag} : ∀ vs H Q E, spW Ts K wOrder vs H Q E → spOrder vs H Q E := fun vs H Q E q => by
  obtain ⟨M, S, pvs, s, r, j, n, rfl, hj, h1, q⟩ := q
  obtain ⟨u, v, rfl, r1, r2⟩ := r.two
  cases r1; cases r2
  refine ⟨_, _, n, rfl, s.ob j _ hj, h1, fun l xs H' hl hl' hp J k => ?_⟩
  obtain ⟨s1, t1⟩ := s.jarKp hj J k
  have no := (s.free hl).1
  have s2 : Sim Ts K (M.add S.length l l) (S ++ [.lst (xs.map natP)]) H' := s1.take no no ⟨rfl, _, hl', rp_nats _⟩
  have t2 : Stp Ts K M S.length H (M.add S.length l l) (S ++ [Ob.lst (xs.map natP)]).length H' := by
    rw [List.length_append, List.length_singleton]; exact t1.take hl hl
  refine q xs hp _ _ _ t2 s2 ?_
  have := RP.ref (K := K) (M := M.add S.length l l) (n := (S ++ [Ob.lst (xs.map natP)]).length) (H := H') (i := S.length) (by simp)
  rw [M.add_m] at this
  exact this
def wNet : WC := fun vs S Q => ∃ (j wd mo : Nat), vs = [.ref j, natP wd, natP mo] ∧ S[j]? = some .jar ∧ 1 ≤ wd ∧ wd ≤ 16 ∧ mo ≤ 160 ∧ ∀ N : Net, N.Ok → N.w ≤ wd → N.sw.length ≤ mo → Q (netP N) S
theorem mo_net : MoC wNet := fun xs S Q Q' ⟨j, wd, m, e, h1, h2, h3, h4, q⟩ k => ⟨j, wd, m, e, h1, h2, h3, h4, fun N a b c => k _ _ (q N a b c)⟩
theorem net_imp {K : PySem.W.Frag} : ∀ vs H Q E, spW Ts K wNet vs H Q E → spNet vs H Q E := fun vs H Q E q => by
  obtain ⟨M, S, pvs, s, r, j, wd, m, rfl, hj, h1, h2, h3, q⟩ := q
  cases r with
  | cons r1 rr =>
    obtain ⟨u, v, rfl, r2, r3⟩ := rr.two
    cases r1; cases r2; cases r3
    refine ⟨_, _, wd, m, rfl, s.ob j _ hj, h1, h2, h3, fun p N H' a b c d J k => ?_⟩
    obtain ⟨s1, t1⟩ := s.jarKp hj J k
    exact q N a b c M H' _ t1 s1 (rp_net d)
end L4
set_option Elab.async false
set_option linter.all false
set_option maxRecDepth 100000
namespace L4
open PySem PySem.Spec PyProof.Rows L2 L3
section
variable {P : Program} {w : World} {K : PySem.W.Frag} {mg : Str → Option Value} {base : Heap}
mutual
inductive EqW (S : Sto) : Nat → PV → PV → Prop
  | non {n : Nat} : EqW S (n + 1) .non .non
  | bl {n : Nat} (b : Bool) : EqW S (n + 1) (.bl b) (.bl b)
  | int {n : Nat} (i : Int) : EqW S (n + 1) (.int i) (.int i)
  | str {n : Nat} (x : Str) : EqW S (n + 1) (.str x) (.str x)
  | tup {n : Nat} {xs ys : List PV} : EqWs S n xs ys → xs.length ≤ 100000 → EqW S (n + 1) (.tup xs) (.tup ys)
  | lst {n : Nat} {i j : Nat} {xs ys : List PV} : S[i]? = some (.lst xs) → S[j]? = some (.lst ys) → EqWs S n xs ys → xs.length ≤ 100000 → EqW S (n + 1) (.ref i) (.ref j)
inductive EqWs (S : Sto) : Nat → List PV → List PV → Prop
  | nil {n : Nat} : EqWs S n [] []
  | cons {n : Nat} {x y : PV} {xs ys : List PV} : EqW S n x y → EqWs S n xs ys → EqWs S n (x :: xs) (y :: ys)
end
theorem EqWs.length {S : Sto} {n : Nat} : ∀ {xs ys : List PV}, EqWs S n xs ys → xs.length = ys.length
  | _, _, .nil => rfl
  | _, _, .cons _ t => by rw [List.length_cons, List.length_cons, EqWs.length t]
theorem EqWs.mem {S : Sto} {n : Nat} : ∀ {xs ys : List PV}, EqWs S n xs ys → ∀ p ∈ xs.zip ys, EqW S n p.1 p.2
  | _, _, .nil, p, h => by simp at h
  | _, _, .cons a t, p, h => by
    rw [List.zip_cons_cons] at h
    rcases List.mem_cons.mp h with rfl | h
    · exact a
    · exact EqWs.mem t p h
theorem EqWs.map {α : Type} {S : Sto} {n : Nat} (f : α → PV) : ∀ {l : List α}, (∀ a ∈ l, EqW S n (f a) (f a)) → EqWs S n (l.map f) (l.map f)
  | [], _ => .nil
  | a :: l, h => .cons (h a List.mem_cons_self) (EqWs.map f fun b hb => h b (List.mem_cons_of_mem _ hb))
def renN (N : Net) (xs : List Nat) : Net := ⟨N.w, N.sw.map fun s => (xs.getD s.1 0, xs.getD s.2 0), N.ord.map fun i => xs.getD i 0⟩
structure Ltn (N : Net) (n : Nat) : Prop where
  sw : ∀ s ∈ N.sw, s.1 < n ∧ s.2 < n
  ord : ∀ i ∈ N.ord, i < n
  l1 : N.sw.length ≤ 1000
  l2 : N.ord.length ≤ 1000
def wNamed : WC := ctrF (fun a : Net × List Nat => [netP a.1, natsP a.2]) (fun a _ => Ltn a.1 a.2.length) (fun a => .tup [.tup ((renN a.1 a.2).sw.map swP), natsP (renN a.1 a.2).ord])
abbrev s_named : Stmt := top 12
theorem sc_named : FnScope ["net", "wires", "width", "switches", "order", "new_switches", "a", "b", "new_order", "wire"] ["net", "wires"] (defScope s_named) := ⟨rfl, rfl, rfl, by decide +kernel, rfl, by decide +kernel, by decide +kernel⟩
set_option maxHeartbeats 1000000 in
theorem ok_named {f : Addr} {fd : FuncData} (F : Fun K "named" "named" s_named f fd) (T : Tn mg)  : FnOk P w K mg base CX0 1 f fd ["net", "wires"] (spW Ts K wNamed) := by
  refine ok_body (k := 0) F sc_named (fun pvs S Q h => by obtain ⟨a, rfl, _⟩ := h; rfl) (fun cdv A outer s H E hr => ?_)
  have hu := hu_of hr
  refine ⟨_, (sss_cons (ss_asg (vs := [2, 3, 4]) (sv 0) (pg_tup (n := 3) rfl (pgs_cons (pg_name (i := 2) sc_named.nd rfl (by first | exact Or.inl rfl | exact Or.inr rfl)) (pgs_cons (pg_name (i := 3) sc_named.nd rfl (by first | exact Or.inl rfl | exact Or.inr rfl)) (pgs_cons (pg_name (i := 4) sc_named.nd rfl (by first | exact Or.inl rfl | exact Or.inr rfl)) pgs_nil)))) (gr_tup (gr_cons (gr_name (i := 2) (by decide)) (gr_cons (gr_name (i := 3) (by decide)) (gr_cons (gr_name (i := 4) (by decide)) gr_nil)))) (mg_tup (mg_cons (mg_name _) (mg_cons (mg_name _) (mg_cons (mg_name _) mg_nil)))))
      (sss_cons (ss_set (i := 5) sc_named.nd rfl (by first | exact Or.inl rfl | exact Or.inr rfl) (se_lcTy (own := [("a", 6), ("b", 7)]) (g := (gTup K 2 (gCons (gName 6) (gCons (gName 7) gNil)))) u_tuple (by rfl) T.tuple_ (by decide +kernel) rfl sc_named.nd (si_seq (sv 3)) (blkOk_by (own := [("a", 6), ("b", 7)]) (N := ["net", "wires", "width", "switches", "order", "new_switches", "a", "b", "new_order", "wire"]) (sc := defScope s_named) (by decide +kernel)) (fun _ _ _ _ _ => (pg_tup' (n := 2) (K := K) rfl rfl (pgs_cons (pg_name (i := 6) sc_named.nd rfl (by first | exact Or.inl rfl | exact Or.inr rfl)) (pgs_cons (pg_name (i := 7) sc_named.nd rfl (by first | exact Or.inl rfl | exact Or.inr rfl)) pgs_nil)))) (gr_tup (gr_cons (gr_name (i := 6) (by decide)) (gr_cons (gr_name (i := 7) (by decide)) gr_nil))) (mg_tup (mg_cons (mg_name _) (mg_cons (mg_name _) mg_nil))) (fun _ _ _ _ _ => sts_nil) (fun _ _ _ _ _ => (se_tup (sa_cons (se_ix hu (sv 1) (sv 6) (fun _ _ => rfl)) (sa_cons (se_ix hu (sv 1) (sv 7) (fun _ _ => rfl)) sa_nil))))))
      (sss_cons (ss_set (i := 8) sc_named.nd rfl (by first | exact Or.inl rfl | exact Or.inr rfl) (se_lcTy (own := [("wire", 9)]) (g := (gName 9)) u_tuple (by rfl) T.tuple_ (by decide +kernel) rfl sc_named.nd (si_seq (sv 4)) (blkOk_by (own := [("wire", 9)]) (N := ["net", "wires", "width", "switches", "order", "new_switches", "a", "b", "new_order", "wire"]) (sc := defScope s_named) (by decide +kernel)) (fun _ _ _ _ _ => (pg_name (i := 9) sc_named.nd rfl (by first | exact Or.inl rfl | exact Or.inr rfl))) (gr_name (i := 9) (by decide)) (mg_name _) (fun _ _ _ _ _ => sts_nil) (fun _ _ _ _ _ => (se_ix hu (sv 1) (sv 9) (fun _ _ => rfl)))))
      (sss_one (ss_ret (se_tup (sa_cons (sv 5) (sa_cons (sv 8) sa_nil)))))))), fun pvs S Q hcl hca h => ?_⟩
  obtain ⟨⟨N, xs⟩, rfl, hn, h⟩ := h
  dsimp only at hn h
  simp only [wSeq, wAsg, wRet, wRetN, wDrop, wIfS, wVar, wC, wOp, wCall, wCons, wNil, wTup, wTest, wAnd, wOr, wNot, wAndV, wOrV, wNotV, wIf, wNext, wgName, wgTup, wgCons, wgNil, wFor, wSq, wYes, wLcU, wLcV, wLc, uTuple, uAll, uAny, uSum, wNeg, wSl, wPart, wNoPart, rSlW_tup, rAddW, rI0W, rIW, rMulW, rEqW, rIsW, isNonP, seqW_tup, wLst, wipeW, wPar, wPut, wAug, wZip, wEnum, wRng1, wRng2, wChain, List.getElem?_cons_zero, List.getElem?_cons_succ, List.set_cons_zero, List.set_cons_succ, Option.some.injEq, exists_eq_left', exists_eq_left, exists_and_left, exists_eq_right, exists_eq_right', and_assoc, true_and, and_true, List.cons.injEq, and_self, if_true, if_false, Bool.false_eq_true, PV.int.injEq, PV.bl.injEq, PV.tup.injEq, PV.ref.injEq, PV.str.injEq, Bool.false_xor, Bool.true_xor, List.length_cons, List.length_nil, Nat.reduceAdd, Nat.reduceLeDiff, Nat.reduceEqDiff, Prod.mk.injEq, cutP_map, cutP_0, cutP_1, cutP_2, cutP_all, decide_eq_true_eq, startW, endsW, List.map_cons, List.map_nil, List.cons_append, List.nil_append, List.replicate, Nat.reduceSub, rIxW_tup, rLenW_tup, rListW_tup, wMeth, wRngL, wRngT, rIsiW_eq, tyP_non, tyP_bl, tyP_int, tyP_str, tyP_tup, isi_NoneType_int, isi_NoneType_bool, isi_NoneType_str, isi_NoneType_list, isi_NoneType_tuple, isi_NoneType_dict, isi_bool_int, isi_bool_bool, isi_bool_str, isi_bool_list, isi_bool_tuple, isi_bool_dict, isi_int_int, isi_int_bool, isi_int_str, isi_int_list, isi_int_tuple, isi_int_dict, isi_str_int, isi_str_bool, isi_str_str, isi_str_list, isi_str_tuple, isi_str_dict, isi_tuple_int, isi_tuple_bool, isi_tuple_str, isi_tuple_list, isi_tuple_tuple, isi_tuple_dict, isi_list_int, isi_list_bool, isi_list_str, isi_list_list, isi_list_tuple, isi_list_dict, isi_dict_int, isi_dict_bool, isi_dict_str, isi_dict_list, isi_dict_tuple, isi_dict_dict, decide_true, decide_false, Bool.not_true, Bool.not_false, Bool.not_eq_true', decide_eq_false_iff_not, ite_not, natP, swP, natsP, intsP, atI_0, atI_1, atI_2, atI_3, wLcU2, wLcV2, wTupZip, wZipN, wStep, wRev, wMaxD, wMinD, rInW_ints, netP]
  have l1 := hn.l1
  have l2 := hn.l2
  refine ⟨by rw [List.length_map]; omega, ?_⟩
  refine lc_map (fun s : Nat × Nat => swP (xs.getD s.1 0, xs.getD s.2 0)) trivial (fun s hs R hR => ?_) ?_
  · simp only [wSeq, wAsg, wRet, wRetN, wDrop, wIfS, wVar, wC, wOp, wCall, wCons, wNil, wTup, wTest, wAnd, wOr, wNot, wAndV, wOrV, wNotV, wIf, wNext, wgName, wgTup, wgCons, wgNil, wFor, wSq, wYes, wLcU, wLcV, wLc, uTuple, uAll, uAny, uSum, wNeg, wSl, wPart, wNoPart, rSlW_tup, rAddW, rI0W, rIW, rMulW, rEqW, rIsW, isNonP, seqW_tup, wLst, wipeW, wPar, wPut, wAug, wZip, wEnum, wRng1, wRng2, wChain, List.getElem?_cons_zero, List.getElem?_cons_succ, List.set_cons_zero, List.set_cons_succ, Option.some.injEq, exists_eq_left', exists_eq_left, exists_and_left, exists_eq_right, exists_eq_right', and_assoc, true_and, and_true, List.cons.injEq, and_self, if_true, if_false, Bool.false_eq_true, PV.int.injEq, PV.bl.injEq, PV.tup.injEq, PV.ref.injEq, PV.str.injEq, Bool.false_xor, Bool.true_xor, List.length_cons, List.length_nil, Nat.reduceAdd, Nat.reduceLeDiff, Nat.reduceEqDiff, Prod.mk.injEq, cutP_map, cutP_0, cutP_1, cutP_2, cutP_all, decide_eq_true_eq, startW, endsW, List.map_cons, List.map_nil, List.cons_append, List.nil_append, List.replicate, Nat.reduceSub, rIxW_tup, rLenW_tup, rListW_tup, wMeth, wRngL, wRngT, rIsiW_eq, tyP_non, tyP_bl, tyP_int, tyP_str, tyP_tup, isi_NoneType_int, isi_NoneType_bool, isi_NoneType_str, isi_NoneType_list, isi_NoneType_tuple, isi_NoneType_dict, isi_bool_int, isi_bool_bool, isi_bool_str, isi_bool_list, isi_bool_tuple, isi_bool_dict, isi_int_int, isi_int_bool, isi_int_str, isi_int_list, isi_int_tuple, isi_int_dict, isi_str_int, isi_str_bool, isi_str_str, isi_str_list, isi_str_tuple, isi_str_dict, isi_tuple_int, isi_tuple_bool, isi_tuple_str, isi_tuple_list, isi_tuple_tuple, isi_tuple_dict, isi_list_int, isi_list_bool, isi_list_str, isi_list_list, isi_list_tuple, isi_list_dict, isi_dict_int, isi_dict_bool, isi_dict_str, isi_dict_list, isi_dict_tuple, isi_dict_dict, decide_true, decide_false, Bool.not_true, Bool.not_false, Bool.not_eq_true', decide_eq_false_iff_not, ite_not, natP, swP, natsP, intsP, atI_0, atI_1, atI_2, atI_3, wLcU2, wLcV2, wTupZip, wZipN, wStep, wRev, wMaxD, wMinD, rInW_ints]
    exact ⟨_, atI_nats (hn.sw s hs).1, _, atI_nats (hn.sw s hs).2, hR⟩
  · refine ⟨by rw [List.length_map]; omega, ?_⟩
    refine lc_map (fun i : Nat => natP (xs.getD i 0)) trivial (fun s hs R hR => ?_) ?_
    · simp only [wSeq, wAsg, wRet, wRetN, wDrop, wIfS, wVar, wC, wOp, wCall, wCons, wNil, wTup, wTest, wAnd, wOr, wNot, wAndV, wOrV, wNotV, wIf, wNext, wgName, wgTup, wgCons, wgNil, wFor, wSq, wYes, wLcU, wLcV, wLc, uTuple, uAll, uAny, uSum, wNeg, wSl, wPart, wNoPart, rSlW_tup, rAddW, rI0W, rIW, rMulW, rEqW, rIsW, isNonP, seqW_tup, wLst, wipeW, wPar, wPut, wAug, wZip, wEnum, wRng1, wRng2, wChain, List.getElem?_cons_zero, List.getElem?_cons_succ, List.set_cons_zero, List.set_cons_succ, Option.some.injEq, exists_eq_left', exists_eq_left, exists_and_left, exists_eq_right, exists_eq_right', and_assoc, true_and, and_true, List.cons.injEq, and_self, if_true, if_false, Bool.false_eq_true, PV.int.injEq, PV.bl.injEq, PV.tup.injEq, PV.ref.injEq, PV.str.injEq, Bool.false_xor, Bool.true_xor, List.length_cons, List.length_nil, Nat.reduceAdd, Nat.reduceLeDiff, Nat.reduceEqDiff, Prod.mk.injEq, cutP_map, cutP_0, cutP_1, cutP_2, cutP_all, decide_eq_true_eq, startW, endsW, List.map_cons, List.map_nil, List.cons_append, List.nil_append, List.replicate, Nat.reduceSub, rIxW_tup, rLenW_tup, rListW_tup, wMeth, wRngL, wRngT, rIsiW_eq, tyP_non, tyP_bl, tyP_int, tyP_str, tyP_tup, isi_NoneType_int, isi_NoneType_bool, isi_NoneType_str, isi_NoneType_list, isi_NoneType_tuple, isi_NoneType_dict, isi_bool_int, isi_bool_bool, isi_bool_str, isi_bool_list, isi_bool_tuple, isi_bool_dict, isi_int_int, isi_int_bool, isi_int_str, isi_int_list, isi_int_tuple, isi_int_dict, isi_str_int, isi_str_bool, isi_str_str, isi_str_list, isi_str_tuple, isi_str_dict, isi_tuple_int, isi_tuple_bool, isi_tuple_str, isi_tuple_list, isi_tuple_tuple, isi_tuple_dict, isi_list_int, isi_list_bool, isi_list_str, isi_list_list, isi_list_tuple, isi_list_dict, isi_dict_int, isi_dict_bool, isi_dict_str, isi_dict_list, isi_dict_tuple, isi_dict_dict, decide_true, decide_false, Bool.not_true, Bool.not_false, Bool.not_eq_true', decide_eq_false_iff_not, ite_not, natP, swP, natsP, intsP, atI_0, atI_1, atI_2, atI_3, wLcU2, wLcV2, wTupZip, wZipN, wStep, wRev, wMaxD, wMinD, rInW_ints]
      exact ⟨_, atI_nats (hn.ord s hs), hR⟩
    · refine fg_here ?_
      simpa [renN, natsP, List.map_map, Function.comp_def] using h
def wFit : WC := ctrF (fun a : Nat × List PV × PV => [natP a.1, .tup a.2.1, a.2.2]) (fun a _ => a.1 ≤ 16 ∧ a.2.1.length ≤ 160) (fun a => .tup [natP a.1, .tup a.2.1, a.2.2])
abbrev s_fitting : Stmt := top 11
theorem sc_fitting : FnScope ["width", "switches", "order"] ["width", "switches", "order"] (defScope s_fitting) := ⟨rfl, rfl, rfl, by decide +kernel, rfl, by decide +kernel, by decide +kernel⟩
set_option maxHeartbeats 1000000 in
theorem ok_fitting {f : Addr} {fd : FuncData} (F : Fun K "fitting" "fitting" s_fitting f fd) (T : Tn mg) {tk_MOST_WIRES : Tok} (C_MOST_WIRES : mg "MOST_WIRES" = some (.int 16 tk_MOST_WIRES)) {tk_MOST_SWITCHES : Tok} (C_MOST_SWITCHES : mg "MOST_SWITCHES" = some (.int 160 tk_MOST_SWITCHES)) : FnOk P w K mg base CX0 1 f fd ["width", "switches", "order"] (spW Ts K wFit) := by
  refine ok_body (k := 0) F sc_fitting (fun pvs S Q h => by obtain ⟨a, rfl, _⟩ := h; rfl) (fun cdv A outer s H E hr => ?_)
  have hu := hu_of hr
  refine ⟨_, (sss_cons (ss_if (st_cmp s_gt (sv 0) (se_gint (i := 16) (by rfl) C_MOST_WIRES) (nomark _)) (sss_one ss_never) sss_nil)
      (sss_cons (ss_if (st_cmp s_gt (se_callB c_len (by rfl) T.len_ (by decide +kernel) (sa_cons (sv 1) sa_nil)) (se_gint (i := 160) (by rfl) C_MOST_SWITCHES) (nomark _)) (sss_one ss_never) sss_nil)
      (sss_one (ss_ret (se_tup (sa_cons (sv 0) (sa_cons (sv 1) (sa_cons (sv 2) sa_nil)))))))), fun pvs S Q hcl hca h => ?_⟩
  obtain ⟨⟨n, sw, o⟩, rfl, ⟨h1, h2⟩, h⟩ := h
  simp only [wSeq, wAsg, wRet, wRetN, wDrop, wIfS, wVar, wC, wOp, wCall, wCons, wNil, wTup, wTest, wAnd, wOr, wNot, wAndV, wOrV, wNotV, wIf, wNext, wgName, wgTup, wgCons, wgNil, wFor, wSq, wYes, wLcU, wLcV, wLc, uTuple, uAll, uAny, uSum, wNeg, wSl, wPart, wNoPart, rSlW_tup, rAddW, rI0W, rIW, rMulW, rEqW, rIsW, isNonP, seqW_tup, wLst, wipeW, wPar, wPut, wAug, wZip, wEnum, wRng1, wRng2, wChain, List.getElem?_cons_zero, List.getElem?_cons_succ, List.set_cons_zero, List.set_cons_succ, Option.some.injEq, exists_eq_left', exists_eq_left, exists_and_left, exists_eq_right, exists_eq_right', and_assoc, true_and, and_true, List.cons.injEq, and_self, if_true, if_false, Bool.false_eq_true, PV.int.injEq, PV.bl.injEq, PV.tup.injEq, PV.ref.injEq, PV.str.injEq, Bool.false_xor, Bool.true_xor, List.length_cons, List.length_nil, Nat.reduceAdd, Nat.reduceLeDiff, Nat.reduceEqDiff, Prod.mk.injEq, cutP_map, cutP_0, cutP_1, cutP_2, cutP_all, decide_eq_true_eq, startW, endsW, List.map_cons, List.map_nil, List.cons_append, List.nil_append, List.replicate, Nat.reduceSub, rIxW_tup, rLenW_tup, rListW_tup, wMeth, wRngL, wRngT, rIsiW_eq, tyP_non, tyP_bl, tyP_int, tyP_str, tyP_tup, isi_NoneType_int, isi_NoneType_bool, isi_NoneType_str, isi_NoneType_list, isi_NoneType_tuple, isi_NoneType_dict, isi_bool_int, isi_bool_bool, isi_bool_str, isi_bool_list, isi_bool_tuple, isi_bool_dict, isi_int_int, isi_int_bool, isi_int_str, isi_int_list, isi_int_tuple, isi_int_dict, isi_str_int, isi_str_bool, isi_str_str, isi_str_list, isi_str_tuple, isi_str_dict, isi_tuple_int, isi_tuple_bool, isi_tuple_str, isi_tuple_list, isi_tuple_tuple, isi_tuple_dict, isi_list_int, isi_list_bool, isi_list_str, isi_list_list, isi_list_tuple, isi_list_dict, isi_dict_int, isi_dict_bool, isi_dict_str, isi_dict_list, isi_dict_tuple, isi_dict_dict, decide_true, decide_false, Bool.not_true, Bool.not_false, Bool.not_eq_true', decide_eq_false_iff_not, ite_not, natP, swP, natsP, intsP, atI_0, atI_1, atI_2, atI_3, wLcU2, wLcV2, wTupZip, wZipN, wStep, wRev, wMaxD, wMinD, rInW_ints]
  rw [if_neg (by dsimp only at h1; omega), if_neg (by dsimp only at h2; omega)]
  exact fg_here h
def wRenamed : WC := ctrF (fun a : Net × List Nat => [netP a.1, natsP a.2]) (fun a _ => Ltn a.1 a.2.length ∧ a.1.w ≤ 16 ∧ a.1.sw.length ≤ 160) (fun a => netP (renN a.1 a.2))
abbrev s_renamed : Stmt := top 15
theorem sc_renamed : FnScope ["net", "wires", "switches", "order"] ["net", "wires"] (defScope s_renamed) := ⟨rfl, rfl, rfl, by decide +kernel, rfl, by decide +kernel, by decide +kernel⟩
set_option maxHeartbeats 1000000 in
theorem ok_renamed {f : Addr} {fd : FuncData} (F : Fun K "renamed" "renamed" s_renamed f fd) (T : Tn mg) (D_fitting : DefW Ts P w K mg base "fitting" 1 ["width", "switches", "order"] wFit) (D_named : DefW Ts P w K mg base "named" 1 ["net", "wires"] wNamed) : FnOk P w K mg base CX0 2 f fd ["net", "wires"] (spW Ts K wRenamed) := by
  refine ok_body (k := 1) F sc_renamed (fun pvs S Q h => by obtain ⟨a, rfl, _⟩ := h; rfl) (fun cdv A outer s H E hr => ?_)
  have hu := hu_of hr
  refine ⟨_, (sss_cons (ss_asg (vs := [2, 3]) (se_def D_named (hr.mono (by first | decide | omega)) (by rfl) (sa_cons (sv 0) (sa_cons (sv 1) sa_nil))) (pg_tup (n := 2) rfl (pgs_cons (pg_name (i := 2) sc_renamed.nd rfl (by first | exact Or.inl rfl | exact Or.inr rfl)) (pgs_cons (pg_name (i := 3) sc_renamed.nd rfl (by first | exact Or.inl rfl | exact Or.inr rfl)) pgs_nil))) (gr_tup (gr_cons (gr_name (i := 2) (by decide)) (gr_cons (gr_name (i := 3) (by decide)) gr_nil))) (mg_tup (mg_cons (mg_name _) (mg_cons (mg_name _) mg_nil))))
      (sss_one (ss_ret (se_def D_fitting (hr.mono (by first | decide | omega)) (by rfl) (sa_cons (se_ix hu (sv 0) se_int (fun _ _ => rfl)) (sa_cons (sv 2) (sa_cons (sv 3) sa_nil))))))), fun pvs S Q hcl hca h => ?_⟩
  obtain ⟨⟨N, xs⟩, rfl, ⟨hn, h1, h2⟩, h⟩ := h
  dsimp only at hn h h1 h2
  simp only [wSeq, wAsg, wRet, wRetN, wDrop, wIfS, wVar, wC, wOp, wCall, wCons, wNil, wTup, wTest, wAnd, wOr, wNot, wAndV, wOrV, wNotV, wIf, wNext, wgName, wgTup, wgCons, wgNil, wFor, wSq, wYes, wLcU, wLcV, wLc, uTuple, uAll, uAny, uSum, wNeg, wSl, wPart, wNoPart, rSlW_tup, rAddW, rI0W, rIW, rMulW, rEqW, rIsW, isNonP, seqW_tup, wLst, wipeW, wPar, wPut, wAug, wZip, wEnum, wRng1, wRng2, wChain, List.getElem?_cons_zero, List.getElem?_cons_succ, List.set_cons_zero, List.set_cons_succ, Option.some.injEq, exists_eq_left', exists_eq_left, exists_and_left, exists_eq_right, exists_eq_right', and_assoc, true_and, and_true, List.cons.injEq, and_self, if_true, if_false, Bool.false_eq_true, PV.int.injEq, PV.bl.injEq, PV.tup.injEq, PV.ref.injEq, PV.str.injEq, Bool.false_xor, Bool.true_xor, List.length_cons, List.length_nil, Nat.reduceAdd, Nat.reduceLeDiff, Nat.reduceEqDiff, Prod.mk.injEq, cutP_map, cutP_0, cutP_1, cutP_2, cutP_all, decide_eq_true_eq, startW, endsW, List.map_cons, List.map_nil, List.cons_append, List.nil_append, List.replicate, Nat.reduceSub, rIxW_tup, rLenW_tup, rListW_tup, wMeth, wRngL, wRngT, rIsiW_eq, tyP_non, tyP_bl, tyP_int, tyP_str, tyP_tup, isi_NoneType_int, isi_NoneType_bool, isi_NoneType_str, isi_NoneType_list, isi_NoneType_tuple, isi_NoneType_dict, isi_bool_int, isi_bool_bool, isi_bool_str, isi_bool_list, isi_bool_tuple, isi_bool_dict, isi_int_int, isi_int_bool, isi_int_str, isi_int_list, isi_int_tuple, isi_int_dict, isi_str_int, isi_str_bool, isi_str_str, isi_str_list, isi_str_tuple, isi_str_dict, isi_tuple_int, isi_tuple_bool, isi_tuple_str, isi_tuple_list, isi_tuple_tuple, isi_tuple_dict, isi_list_int, isi_list_bool, isi_list_str, isi_list_list, isi_list_tuple, isi_list_dict, isi_dict_int, isi_dict_bool, isi_dict_str, isi_dict_list, isi_dict_tuple, isi_dict_dict, decide_true, decide_false, Bool.not_true, Bool.not_false, Bool.not_eq_true', decide_eq_false_iff_not, ite_not, natP, swP, natsP, intsP, atI_0, atI_1, atI_2, atI_3, wLcU2, wLcV2, wTupZip, wZipN, wStep, wRev, wMaxD, wMinD, rInW_ints]
  refine ⟨(N, xs), rfl, hn, ?_⟩
  simp only [wSeq, wAsg, wRet, wRetN, wDrop, wIfS, wVar, wC, wOp, wCall, wCons, wNil, wTup, wTest, wAnd, wOr, wNot, wAndV, wOrV, wNotV, wIf, wNext, wgName, wgTup, wgCons, wgNil, wFor, wSq, wYes, wLcU, wLcV, wLc, uTuple, uAll, uAny, uSum, wNeg, wSl, wPart, wNoPart, rSlW_tup, rAddW, rI0W, rIW, rMulW, rEqW, rIsW, isNonP, seqW_tup, wLst, wipeW, wPar, wPut, wAug, wZip, wEnum, wRng1, wRng2, wChain, List.getElem?_cons_zero, List.getElem?_cons_succ, List.set_cons_zero, List.set_cons_succ, Option.some.injEq, exists_eq_left', exists_eq_left, exists_and_left, exists_eq_right, exists_eq_right', and_assoc, true_and, and_true, List.cons.injEq, and_self, if_true, if_false, Bool.false_eq_true, PV.int.injEq, PV.bl.injEq, PV.tup.injEq, PV.ref.injEq, PV.str.injEq, Bool.false_xor, Bool.true_xor, List.length_cons, List.length_nil, Nat.reduceAdd, Nat.reduceLeDiff, Nat.reduceEqDiff, Prod.mk.injEq, cutP_map, cutP_0, cutP_1, cutP_2, cutP_all, decide_eq_true_eq, startW, endsW, List.map_cons, List.map_nil, List.cons_append, List.nil_append, List.replicate, Nat.reduceSub, rIxW_tup, rLenW_tup, rListW_tup, wMeth, wRngL, wRngT, rIsiW_eq, tyP_non, tyP_bl, tyP_int, tyP_str, tyP_tup, isi_NoneType_int, isi_NoneType_bool, isi_NoneType_str, isi_NoneType_list, isi_NoneType_tuple, isi_NoneType_dict, isi_bool_int, isi_bool_bool, isi_bool_str, isi_bool_list, isi_bool_tuple, isi_bool_dict, isi_int_int, isi_int_bool, isi_int_str, isi_int_list, isi_int_tuple, isi_int_dict, isi_str_int, isi_str_bool, isi_str_str, isi_str_list, isi_str_tuple, isi_str_dict, isi_tuple_int, isi_tuple_bool, isi_tuple_str, isi_tuple_list, isi_tuple_tuple, isi_tuple_dict, isi_list_int, isi_list_bool, isi_list_str, isi_list_list, isi_list_tuple, isi_list_dict, isi_dict_int, isi_dict_bool, isi_dict_str, isi_dict_list, isi_dict_tuple, isi_dict_dict, decide_true, decide_false, Bool.not_true, Bool.not_false, Bool.not_eq_true', decide_eq_false_iff_not, ite_not, natP, swP, natsP, intsP, atI_0, atI_1, atI_2, atI_3, wLcU2, wLcV2, wTupZip, wZipN, wStep, wRev, wMaxD, wMinD, rInW_ints, netP]
  refine ⟨(N.w, (renN N xs).sw.map swP, natsP (renN N xs).ord), rfl, ⟨h1, ?_⟩, fg_here h⟩
  simpa [renN] using h2
end
end L4
set_option Elab.async false
set_option linter.all false
namespace L4
open L3
end L4
set_option Elab.async false
set_option linter.all false
namespace L3
end L3
set_option Elab.async false
set_option linter.all false
namespace L3
def swAt (sw : List (Nat × Nat)) (i : Nat) : Nat × Nat := sw.getD i (0, 0)
def on (s : Nat × Nat) (x : Nat) : Prop := x = s.1 ∨ x = s.2
instance (s : Nat × Nat) (x : Nat) : Decidable (on s x) := inferInstanceAs (Decidable (_ ∨ _))
/-- the next layer of each wire ahead of switch i -/
def nlM (sw : List (Nat × Nat)) : Nat → Nat → Nat
  | 0, _ => 0
  | i + 1, x => if on (swAt sw i) x then max (nlM sw i (swAt sw i).1) (nlM sw i (swAt sw i).2) + 1 else nlM sw i x
def atM (sw : List (Nat × Nat)) (i : Nat) : Nat := max (nlM sw i (swAt sw i).1) (nlM sw i (swAt sw i).2)
theorem nlM_succ (sw : List (Nat × Nat)) (i x : Nat) : nlM sw (i + 1) x = if on (swAt sw i) x then atM sw i + 1 else nlM sw i x := rfl
def dpM (sw : List (Nat × Nat)) : Nat → Nat
  | 0 => 0
  | i + 1 => max (dpM sw i) (atM sw i + 1)
theorem nl_up (sw : List (Nat × Nat)) : ∀ (i x j : Nat), j < i → on (swAt sw j) x → atM sw j + 1 ≤ nlM sw i x
  | 0, _, _, h, _ => by omega
  | i + 1, x, j, h, hx => by
    rw [nlM_succ]
    by_cases e : j = i
    · subst e; rw [if_pos hx]; exact Nat.le_refl _
    · have ih := nl_up sw i x j (by omega) hx
      split
      · rename_i ho
        have : nlM sw i x ≤ atM sw i := by
          unfold atM
          rcases ho with h1 | h1 <;> rw [h1] <;> omega
        omega
      · exact ih
theorem nl_ex (sw : List (Nat × Nat)) : ∀ (i x : Nat), nlM sw i x = 0 ∨ ∃ j, j < i ∧ on (swAt sw j) x ∧ atM sw j + 1 = nlM sw i x
  | 0, _ => .inl rfl
  | i + 1, x => by
    rw [nlM_succ]
    split
    · rename_i ho; exact .inr ⟨i, by omega, ho, rfl⟩
    · rcases nl_ex sw i x with h | ⟨j, h1, h2, h3⟩
      · exact .inl h
      · exact .inr ⟨j, by omega, h2, h3⟩
def sh (s t : Nat × Nat) : Prop := on t s.1 ∨ on t s.2
instance (s t : Nat × Nat) : Decidable (sh s t) := inferInstanceAs (Decidable (_ ∨ _))
theorem at_up (sw : List (Nat × Nat)) {i j : Nat} (h : j < i) (hs : sh (swAt sw i) (swAt sw j)) : atM sw j + 1 ≤ atM sw i := by
  show _ ≤ max (nlM sw i (swAt sw i).1) (nlM sw i (swAt sw i).2)
  rcases hs with h1 | h1
  · have := nl_up sw i _ j h h1; omega
  · have := nl_up sw i _ j h h1; omega
theorem dp_up (sw : List (Nat × Nat)) : ∀ (i j : Nat), j < i → atM sw j + 1 ≤ dpM sw i
  | 0, _, h => by omega
  | i + 1, j, h => by
    show _ ≤ max (dpM sw i) (atM sw i + 1)
    by_cases e : j = i
    · subst e; omega
    · have := dp_up sw i j (by omega); omega
theorem nl_dp (sw : List (Nat × Nat)) (i x : Nat) : nlM sw i x ≤ dpM sw i := by
  rcases nl_ex sw i x with h | ⟨j, h1, _, h3⟩
  · omega
  · have := dp_up sw i j h1; omega
theorem at_dp (sw : List (Nat × Nat)) (i : Nat) : atM sw i ≤ dpM sw i := by
  have h1 := nl_dp sw i (swAt sw i).1
  have h2 := nl_dp sw i (swAt sw i).2
  show max (nlM sw i (swAt sw i).1) (nlM sw i (swAt sw i).2) ≤ dpM sw i
  omega
theorem dp_le (sw : List (Nat × Nat)) : ∀ i : Nat, dpM sw i ≤ i
  | 0 => Nat.le_refl _
  | i + 1 => by
    have h1 := dp_le sw i
    have h2 := at_dp sw i
    show max (dpM sw i) (atM sw i + 1) ≤ i + 1
    omega
/-- layer l's numbers among the first i -/
def rowM (sw : List (Nat × Nat)) (i l : Nat) : List Nat := (List.range i).filter fun k => atM sw k == l
theorem rowM_succ (sw : List (Nat × Nat)) (i l : Nat) : rowM sw (i + 1) l = if atM sw i = l then rowM sw i l ++ [i] else rowM sw i l := by
  unfold rowM
  rw [List.range_succ, List.filter_append, List.filter_cons]
  by_cases e : atM sw i = l
  · rw [if_pos e, if_pos (by simpa using e)]; rfl
  · rw [if_neg e, if_neg (by simpa using e)]; simp
theorem rowM_len (sw : List (Nat × Nat)) (i l : Nat) : (rowM sw i l).length ≤ i := by
  have := List.length_filter_le (fun k => atM sw k == l) (List.range i)
  rw [List.length_range] at this
  exact this
theorem rowM_new (sw : List (Nat × Nat)) (i l : Nat) (h : dpM sw i ≤ l) : rowM sw i l = [] := by
  unfold rowM
  rw [List.filter_eq_nil_iff]
  intro k hk
  have h1 := dp_up sw i k (List.mem_range.mp hk)
  simp; omega
end L3
set_option Elab.async false
set_option linter.all false
namespace L3
def Even (ns : List Int) : Prop := ∀ (i j : Nat) (x y : Int), i < j → ns[i]? = some x → ns[j]? = some y → 0 ≤ x - y ∧ x - y ≤ 1
end L3
set_option Elab.async false
set_option linter.all false
namespace L3
def Bit (t : Int) : Prop := t = 0 ∨ t = 1
def Bits (ts : List Int) : Prop := ∀ t ∈ ts, Bit t
section
variable {sw : List (Nat × Nat)} {ord : List Nat} {ts u v : List Int}
end
end L3
set_option Elab.async false
set_option linter.all false
namespace L3
def Dv (d : Nat) (z : Int) : Prop := ∃ q : Int, z = 2 ^ d * q
theorem Dv.add {d e f : Nat} {x y : Int} (hx : Dv d x) (hy : Dv e y) (h1 : f ≤ d) (h2 : f ≤ e) : Dv f (x + y) := by
  obtain ⟨p, rfl⟩ := hx
  obtain ⟨q, rfl⟩ := hy
  refine ⟨2 ^ (d - f) * p + 2 ^ (e - f) * q, ?_⟩
  have a1 : (2 : Int) ^ d = 2 ^ f * 2 ^ (d - f) := by rw [← Int.pow_add]; congr 1; omega
  have a2 : (2 : Int) ^ e = 2 ^ f * 2 ^ (e - f) := by rw [← Int.pow_add]; congr 1; omega
  rw [a1, a2, Int.mul_add, Int.mul_assoc, Int.mul_assoc]
theorem gd_some {ws : List Int} {i : Nat} (h : i < ws.length) : ws[i]? = some (ws.getD i 0) := by
  simp [List.getD_eq_getElem?_getD, h]
theorem sw_some {sw : List (Nat × Nat)} {i : Nat} (h : i < sw.length) : sw[i]? = some (swAt sw i) := by
  simp [swAt, List.getD_eq_getElem?_getD, h]
theorem Even.gd {ns : List Int} (h : Even ns) {i j : Nat} (hij : i < j) (hj : j < ns.length) : 0 ≤ ns.getD i 0 - ns.getD j 0 ∧ ns.getD i 0 - ns.getD j 0 ≤ 1 :=
  h i j _ _ hij (gd_some (by omega)) (gd_some hj)
end L3
set_option Elab.async false
set_option linter.all false
namespace L4
open L3
end L4
set_option Elab.async false
set_option linter.all false
namespace L4
open L3
def vals (u : List Int) (l : List Nat) : List Int := l.map fun x => u.getD x 0
end L4
set_option Elab.async false
set_option linter.all false
namespace L4
open L3
end L4
set_option Elab.async false
set_option linter.all false
set_option maxRecDepth 100000
namespace L4
open PySem PySem.Spec PyProof.Rows L2 L3
end L4
set_option Elab.async false
set_option linter.all false
set_option maxRecDepth 100000
namespace L4
open PySem PySem.Spec PyProof.Rows L2 L3
inductive Sh : Nat → PyData → Prop
  | non {n : Nat} : Sh n .none
  | bl {n : Nat} (b : Bool) : Sh n (.bool b)
  | int {n : Nat} (i : Int) : Sh n (.int i)
  | str {n : Nat} {x : Str} (h : PyData.strOk x = true) : Sh n (.str x)
  | tup {n : Nat} {ds : List PyData} (h : ∀ d ∈ ds, Sh n d) : Sh (n + 1) (.tuple ds)
  | lst {n : Nat} {ds : List PyData} (h : ∀ d ∈ ds, Sh n d) : Sh (n + 1) (.list ds)
theorem all_lay : ∀ {ds : List PyData}, (∀ d ∈ ds, PyData.canLay0 d = true) → PyData.canLayAll0 ds = true
  | [], _ => rfl
  | d :: ds, h => by
    show (PyData.canLay0 d && PyData.canLayAll0 ds) = true
    rw [h d List.mem_cons_self, all_lay fun e he => h e (List.mem_cons_of_mem _ he)]; rfl
theorem all_dep {n : Nat} : ∀ {ds : List PyData}, (∀ d ∈ ds, PyData.depth d ≤ n) → PyData.depthAll ds ≤ n
  | [], _ => Nat.zero_le _
  | d :: ds, h => by
    show max (PyData.depth d) (PyData.depthAll ds) ≤ n
    exact Nat.max_le.mpr ⟨h d List.mem_cons_self, all_dep fun e he => h e (List.mem_cons_of_mem _ he)⟩
theorem Sh.ok {n : Nat} {d : PyData} (h : Sh n d) : PyData.canLay0 d = true ∧ PyData.depth d ≤ n := by
  induction h with
  | non => exact ⟨rfl, Nat.zero_le _⟩
  | bl => exact ⟨rfl, Nat.zero_le _⟩
  | int => exact ⟨rfl, Nat.zero_le _⟩
  | str h => exact ⟨h, Nat.zero_le _⟩
  | tup h ih => exact ⟨all_lay fun d hd => (ih d hd).1, Nat.succ_le_succ (all_dep fun d hd => (ih d hd).2)⟩
  | lst h ih => exact ⟨all_lay fun d hd => (ih d hd).1, Nat.succ_le_succ (all_dep fun d hd => (ih d hd).2)⟩
theorem Sh.shaped {n : Nat} {d : PyData} (h : Sh n d) (hn : n ≤ 64 := by decide) : SeqAt.shaped d = true := by
  show (PyData.canLay0 d && decide (PyData.depth d ≤ 64)) = true
  rw [h.ok.1, decide_eq_true (Nat.le_trans h.ok.2 hn)]; rfl
theorem dvs_map {α : Type} {S : Sto} {f : α → PV} {g : α → PyData} : ∀ {l : List α}, (∀ a ∈ l, DV S (f a) (g a)) → DVs S (l.map f) (l.map g)
  | [], _ => .nil
  | a :: l, h => .cons (h a List.mem_cons_self) (dvs_map fun b hb => h b (List.mem_cons_of_mem _ hb))
theorem Sh.map {α : Type} {n : Nat} {g : α → PyData} {l : List α} (h : ∀ a ∈ l, Sh n (g a)) : ∀ d ∈ l.map g, Sh n d := fun d hd => by
  obtain ⟨a, ha, rfl⟩ := List.mem_map.mp hd
  exact h a ha
theorem eqW_same {neg : Bool} {n : Nat} {x y : PV} {d : PyData} {S : Sto} {Q : WQ} (hx : DV S x d) (hy : DV S y d) (h : Sh n d) (q : Q (.bl (neg ^^ true)) S) (hn : n ≤ 64 := by decide) : rEqW neg x y S Q := by
  have e : PyData.eqv d d = true := SeqAt.eqv_refl d h.ok.1
  have g : ∃ d' e', DV S x d' ∧ DV S y e' ∧ SeqAt.shaped d' = true ∧ SeqAt.shaped e' = true ∧ Q (.bl (neg ^^ PyData.eqv d' e')) S := ⟨d, d, hx, hy, h.shaped hn, h.shaped hn, by rw [e]; exact q⟩
  cases hx <;> cases hy <;> first
    | exact g
    | (show Q (.bl (neg ^^ decide (_ = _))) S; rw [decide_eq_true rfl]; exact q)
inductive NoB : PyData → Prop
  | non : NoB .none
  | int (i : Int) : NoB (.int i)
  | str (x : Str) : NoB (.str x)
  | tup {ds : List PyData} (h : ∀ d ∈ ds, NoB d) : NoB (.tuple ds)
  | lst {ds : List PyData} (h : ∀ d ∈ ds, NoB d) : NoB (.list ds)
theorem eqv_all {ds : List PyData} (ih : ∀ d ∈ ds, ∀ e, NoB e → PyData.eqv d e = true → d = e) : ∀ es : List PyData, (∀ e ∈ es, NoB e) → PyData.eqvAll ds es = true → ds = es := by
  induction ds with
  | nil => intro es _ q; cases es with
    | nil => rfl
    | cons _ _ => cases q
  | cons d ds ihd => intro es he q; cases es with
    | nil => cases q
    | cons e es =>
      have q' : (PyData.eqv d e && PyData.eqvAll ds es) = true := q
      obtain ⟨q1, q2⟩ := Bool.and_eq_true_iff.mp q'
      rw [ih d List.mem_cons_self e (he e List.mem_cons_self) q1, ihd (fun d hd => ih d (List.mem_cons_of_mem _ hd)) es (fun e h => he e (List.mem_cons_of_mem _ h)) q2]
theorem NoB.eqv {d : PyData} (h : NoB d) : ∀ e, NoB e → PyData.eqv d e = true → d = e := by
  induction h with
  | non => intro e he q; cases he <;> first | rfl | (simp [PyData.eqv] at q)
  | int i => intro e he q; cases he <;> first | (simp [PyData.eqv] at q; rw [q]) | (simp [PyData.eqv] at q)
  | str x => intro e he q; cases he <;> first | (simp [PyData.eqv] at q; rw [q]) | (simp [PyData.eqv] at q)
  | tup h ih => intro e he q; cases he with
    | tup h' => rw [PyData.eqv] at q; rw [eqv_all ih _ h' q]
    | _ => simp [PyData.eqv] at q
  | lst h ih => intro e he q; cases he with
    | lst h' => rw [PyData.eqv] at q; rw [eqv_all ih _ h' q]
    | _ => simp [PyData.eqv] at q
section
variable {S : Sto} {Q : WQ} {neg : Bool} {i j : Int} {x y : Str} {a b : Bool} {xs ys : List PV}
theorem rEqW_ii : rEqW neg (.int i) (.int j) S Q = Q (.bl (neg ^^ decide (i = j))) S := rfl
theorem rEqW_bb : rEqW neg (.bl a) (.bl b) S Q = Q (.bl (neg ^^ decide (a = b))) S := rfl
theorem rEqW_ss : rEqW neg (.str x) (.str y) S Q = Q (.bl (neg ^^ decide (x = y))) S := rfl
theorem rIsW_n {v : PV} : rIsW neg v .non S Q = Q (.bl (neg ^^ isNonP v)) S := by cases v <;> rfl
theorem rIsW_bb : rIsW neg (.bl a) (.bl b) S Q = Q (.bl (neg ^^ (a == b))) S := rfl
theorem rAddW_ii : rAddW (.int i) (.int j) S Q = Q (.int (i + j)) S := rfl
theorem rAddW_ss : rAddW (.str x) (.str y) S Q = (x.length + y.length ≤ 16777216 ∧ Q (.str (x ++ y)) S) := rfl
theorem rAddW_tt : rAddW (.tup xs) (.tup ys) S Q = (xs.length + ys.length ≤ 16777216 ∧ Q (.tup (xs ++ ys)) S) := rfl
theorem rAddW_ll {p q : Nat} (h1 : S[p]? = some (.lst xs)) (h2 : S[q]? = some (.lst ys)) : rAddW (.ref p) (.ref q) S Q = (xs.length + ys.length ≤ 16777216 ∧ Q (.ref S.length) (S ++ [.lst (xs ++ ys)])) := by
  show (∃ xs ys, S[p]? = some (.lst xs) ∧ S[q]? = some (.lst ys) ∧ xs.length + ys.length ≤ 16777216 ∧ Q (.ref S.length) (S ++ [.lst (xs ++ ys)])) = _
  rw [h1, h2]
  simp
theorem rIW_ii {C : Int → Int → Prop} {g : Int → Int → PV} : rIW C g (.int i) (.int j) S Q = (C i j ∧ Q (g i j) S) := rfl
theorem rI0W_ii {g : Int → Int → PV} : rI0W g (.int i) (.int j) S Q = Q (g i j) S := rfl
theorem rMulW_ii : rMulW (.int i) (.int j) S Q = (CMul i j ∧ Q (.int (i * j)) S) := rfl
theorem rMulW_ti : rMulW (.tup xs) (.int j) S Q = (-9223372036854775808 ≤ j ∧ j < 9223372036854775808 ∧ xs.length * j.toNat ≤ 16777216 ∧ Q (.tup (List.replicate j.toNat xs).flatten) S) := rfl
theorem rMulW_li {p : Nat} (h : S[p]? = some (.lst xs)) : rMulW (.ref p) (.int j) S Q = (-9223372036854775808 ≤ j ∧ j < 9223372036854775808 ∧ xs.length * j.toNat ≤ 16777216 ∧ Q (.ref S.length) (S ++ [.lst (List.replicate j.toNat xs).flatten])) := by
  show (∃ xs, S[p]? = some (.lst xs) ∧ -9223372036854775808 ≤ j ∧ j < 9223372036854775808 ∧ xs.length * j.toNat ≤ 16777216 ∧ Q (.ref S.length) (S ++ [.lst (List.replicate j.toNat xs).flatten])) = _
  rw [h]
  simp
theorem rIntW_i : rIntW [.int i] S Q = Q (.int i) S := rfl
theorem rIntW_b : rIntW [.bl a] S Q = Q (.int (if a = true then 1 else 0)) S := by cases a <;> rfl
theorem rMax2W_ii : rMax2W [.int i, .int j] S Q = Q (.int (if j > i then j else i)) S := rfl
theorem rMin2W_ii : rMin2W [.int i, .int j] S Q = Q (.int (if j < i then j else i)) S := rfl
end
end L4
set_option Elab.async false
set_option linter.all false
set_option maxRecDepth 100000
namespace L4
open PySem PySem.Spec PyProof.Rows L2 L3
theorem get_off {S G : Sto} {k : Nat} : (S ++ G)[S.length + k]? = G[k]? := by
  rw [List.getElem?_append_right (by omega), Nat.add_sub_cancel_left]
theorem set_off {S G : Sto} {k : Nat} {o : Ob} : (S ++ G).set (S.length + k) o = S ++ G.set k o := by
  rw [List.set_append_right _ _ (by omega), Nat.add_sub_cancel_left]
theorem len_off {S G : Sto} : (S ++ G).length = S.length + G.length := List.length_append
theorem put_lst' {k i : Nat} {xs : List PV} {v : PV} {S : Sto} {Q : Sto → Prop} (h : S[k]? = some (.lst xs)) (hi : i < xs.length) (q : Q (S.set k (.lst (xs.set i v)))) : rSetW (.ref k) (.int (i : Int)) v S Q :=
  .inl ⟨k, xs, (i : Int), i, rfl, rfl, h, by unfold ixN; rw [if_pos (by omega), if_pos (by omega)]; rfl, q⟩
end L4
set_option Elab.async false
set_option linter.all false
set_option maxRecDepth 100000
namespace L4
open PySem PySem.Spec PyProof.Rows L2 L3
section
variable {K : PySem.W.Frag} {M : Map} {n : Nat} {H : Hp} {f : Str}
theorem KR.lookup : ∀ {v : List (Str × PV)} {u : List (Str × V)}, KR K M n H v u → (v.lookup f = none ∧ u.lookup f = none) ∨ ∃ x y, v.lookup f = some x ∧ u.lookup f = some y ∧ RP K M n H x y
  | _, _, .nil => .inl ⟨rfl, rfl⟩
  | _, _, .cons (k := j) (x := x) (u := y) (xs := xs) (us := us) r t => by
    by_cases e : f = j
    · have hb : (f == j) = true := beq_iff_eq.mpr e
      refine .inr ⟨x, y, ?_, ?_, r⟩ <;> simp only [List.lookup, hb]
    · have hb : (f == j) = false := beq_eq_false_iff_ne.mpr e
      simp only [List.lookup, hb]
      exact KR.lookup t
end
theorem KR.length2 {κ : Type} {K : PySem.W.Frag} {M : Map} {n : Nat} {H : Hp} : ∀ {v : List (κ × PV)} {u : List (κ × V)}, KR K M n H v u → v.length = u.length
  | _, _, .nil => rfl
  | _, _, .cons _ t => by rw [List.length_cons, List.length_cons, KR.length2 t]
section
variable {K : PySem.W.Frag} {M : Map} {S : Sto} {H : Hp} {C : Addr}
theorem Sim.ins (s : Sim Ts K M S H) {i : Nat} {fs : List (Str × PV)} (h : S[i]? = some (.ins C fs)) : ∃ us, H (M.m i) = some (.ins C (M.q i) us) ∧ H (M.q i) = some (.own (M.m i)) ∧ KR K M S.length H fs us := s.ob i _ h
end
section
variable {X : Cx} {e o value : Expr} {es : List Expr} {we wo wv : WE} {w : WA} {C : Addr} {f m x : Str} {pos apos pos' tpos p : Pos}
end
end L4
set_option Elab.async false
set_option linter.all false
set_option maxRecDepth 100000
namespace L4
open PySem PySem.Spec PyProof.Rows L2 L3
section
variable {K : PySem.W.Frag} {M : Map} {S : Sto} {H : Hp}
theorem upQ.dct {Q : VK} {xs : List (Key × PV)} {us : List (Key × V)} (h : upQ Ts K M S.length H Q (.ref S.length) (S ++ [.dct xs])) (s : Sim Ts K M S H) (r : KR K M S.length H xs us) : ∀ p, H p = none → Q (.ref p) (upd H p (.dK us)) := fun p hp => by
  obtain ⟨s1, t1⟩ := s.alloc (o := .dK us) (ob := .dct xs) hp (fun M' H' t e => ⟨rfl, us, e, r.mono t.le t.m t.tup t.scr⟩)
  refine h _ _ _ t1 s1 ?_
  have := RP.ref (K := K) (M := M.add S.length p p) (n := (S ++ [Ob.dct xs]).length) (H := upd H p (.dK us)) (i := S.length) (by simp)
  rw [M.add_m] at this
  exact this
end
def wPairs : List (WE × WE) → Ev → Sto → (List (PV × PV) → Sto → Prop) → Prop
  | [], _, S, Q => Q [] S
  | (k, v) :: r, τ, S, Q => k τ S fun x S1 => v τ S1 fun y S2 => wPairs r τ S2 fun ps S3 => Q ((x, y) :: ps) S3
def keysW : List (PV × PV) → Option (List (Key × PV))
  | [] => some []
  | (x, y) :: r => match keyW x, keysW r with
    | some k, some l => some ((k, y) :: l)
    | _, _ => none
def mergeP (kvs more : List (Key × PV)) : List (Key × PV) := more.foldl (fun acc kv => putP acc kv.1 kv.2) kvs
def wDisp (ws : List (WE × WE)) : WE := fun τ S Q => wPairs ws τ (S ++ [.dct []]) fun ps S2 => S2[S.length]? = some (.dct []) ∧ ∃ kvs, keysW ps = some kvs ∧ kvs.length ≤ 15 ∧ Q (.ref S.length) (S2.set S.length (.dct (mergeP [] kvs)))
abbrev MoP (ws : List (WE × WE)) : Prop := ∀ (τ : Ev) (S : Sto) (Q Q' : List (PV × PV) → Sto → Prop), wPairs ws τ S Q → (∀ v S', Q v S' → Q' v S') → wPairs ws τ S Q'
inductive PRs (K : PySem.W.Frag) (M : Map) (n : Nat) (H : Hp) : List (PV × PV) → List (V × V) → Prop
  | nil : PRs K M n H [] []
  | cons {x y : PV} {u v : V} {xs : List (PV × PV)} {us : List (V × V)} : RP K M n H x u → RP K M n H y v → PRs K M n H xs us → PRs K M n H ((x, y) :: xs) ((u, v) :: us)
theorem PRs.keys {K : PySem.W.Frag} {M : Map} {n : Nat} {H : Hp} : ∀ {ps : List (PV × PV)} {us : List (V × V)} {kvs : List (Key × PV)}, PRs K M n H ps us → keysW ps = some kvs → ∃ ws : List (Key × V), us = ws.map (fun kv => (kV kv.1, kv.2)) ∧ KR K M n H kvs ws
  | _, _, _, .nil, e => by cases e; exact ⟨[], rfl, .nil⟩
  | _, _, _, .cons (x := x) (y := y) (xs := xs) r1 r2 t, e => by
    unfold keysW at e
    cases h1 : keyW x with
    | none => rw [h1] at e; simp at e
    | some k =>
      cases h2 : keysW xs with
      | none => rw [h1, h2] at e; simp at e
      | some l =>
        rw [h1, h2] at e
        cases e
        obtain ⟨ws, e1, r3⟩ := PRs.keys t h2
        obtain rfl := key_rp r1 h1
        exact ⟨(k, _) :: ws, by rw [e1]; rfl, .cons r2 r3⟩
theorem KR.merge {K : PySem.W.Frag} {M : Map} {n : Nat} {H : Hp} : ∀ {more : List (Key × PV)} {rs : List (Key × V)} {kvs : List (Key × PV)} {vs : List (Key × V)}, KR K M n H more rs → KR K M n H kvs vs → KR K M n H (mergeP kvs more) (mergeK vs rs)
  | _, _, _, _, .nil, q => q
  | _, _, kvs, vs, .cons (k := k) (x := x) (u := u) (xs := xs) (us := us) r t, q => by
    show KR K M n H (mergeP (putP kvs k x) xs) (mergeK (putK vs k u) us)
    exact KR.merge t (q.put r k)
section
variable {X : Cx} {pos : Pos}
structure SPP (Ts : List Addr) (X : Cx) (pos : Pos) (keys : List (Option Expr)) (values : List Expr) (ws : List (WE × WE)) : Prop where
  ex : ∃ trs, PPs X pos keys values trs ∧ ∀ (M : Map) (S : Sto) (H : Hp) (τ : Ev) (σ : L2.St) (F : List (PV × PV) → Sto → Prop) (Q : List (V × V) → Hp → Prop), Sim Ts X.K M S H → StR X.K M S.length H τ σ → wPairs ws τ S F →
    (∀ v S1 M1 H1 u, F v S1 → Stp Ts X.K M S.length H M1 S1.length H1 → Sim Ts X.K M1 S1 H1 → PRs X.K M1 S1.length H1 v u → Q u H1) → tPairs trs σ H Q
  mo : MoP ws
theorem spp_nil : SPP Ts X pos [] [] [] := ⟨⟨[], pps_nil, fun M S H τ σ F Q s st h k => k _ _ _ _ _ h (.refl _ _ _ _) s .nil⟩, fun τ S Q Q' q k => k _ _ q⟩
theorem PRs.stp {K : PySem.W.Frag} {M M' : Map} {n n' : Nat} {H H' : Hp} (t : Stp Ts K M n H M' n' H') : ∀ {ps : List (PV × PV)} {us : List (V × V)}, PRs K M n H ps us → PRs K M' n' H' ps us
  | _, _, .nil => .nil
  | _, _, .cons a b c => .cons (a.stp t) (b.stp t) (PRs.stp t c)
theorem spp_cons {k v : Expr} {ks : List (Option Expr)} {vs : List Expr} {wk wv : WE} {ws : List (WE × WE)} (hk : SE Ts X k wk) (hv : SE Ts X v wv) (hr : SPP Ts X pos ks vs ws) : SPP Ts X pos (some k :: ks) (v :: vs) ((wk, wv) :: ws) := by
  obtain ⟨trs, h1, h2⟩ := hr.ex
  refine ⟨⟨_, pps_cons hk.pe hv.pe h1, fun M S H τ σ F Q s st h c => ?_⟩, fun τ S Q Q' q c => hk.mo _ _ _ _ q fun x S1 q => hv.mo _ _ _ _ q fun y S2 q => hr.mo _ _ _ _ q fun ps S3 q => c _ _ q⟩
  refine runE hk.mo s st h fun x S1 M1 H1 u1 f t1 s1 r1 => ?_
  refine runE hv.mo s1 (st.stp t1) f fun y S2 M2 H2 u2 f t2 s2 r2 => ?_
  refine h2 M2 S2 H2 τ σ _ _ s2 ((st.stp t1).stp t2) f fun ps S3 M3 H3 u3 f t3 s3 r3 => ?_
  exact c _ _ _ _ _ f ((t1.trans t2).trans t3) s3 (.cons ((r1.stp t2).stp t3) (r2.stp t3) r3)
theorem se_disp {keys : List (Option Expr)} {values : List Expr} {ws : List (WE × WE)} (h : SPP Ts X pos keys values ws) (hall : keys.all (·.isSome) = true) (hl : keys.length = values.length) (h0 : keys ≠ []) (h15 : keys.length ≤ 15) : SE Ts X (.Dict keys values pos) (wDisp ws) := by
  obtain ⟨trs, h1, h2⟩ := h.ex
  refine ⟨pe_imp (pe_disp h1 hall hl h0 h15) fun σ H Q q => ?_, fun τ S Q Q' q k => h.mo _ _ _ _ q fun ps S2 ⟨a, kvs, b, c, q⟩ => ⟨a, kvs, b, c, k _ _ q⟩⟩
  obtain ⟨M, S, τ, s, st, q⟩ := q
  intro p hp
  obtain ⟨s1, t1⟩ := s.alloc (o := .dK []) (ob := .dct []) hp (fun M' H' t e => ⟨rfl, [], e, .nil⟩)
  refine h2 _ _ _ τ σ _ _ s1 (st.stp t1) q fun ps S2 M2 H2 us f t2 s2 r2 => ?_
  obtain ⟨g0, kvs, ek, l15, q⟩ := f
  obtain ⟨ws, e1, r3⟩ := r2.keys ek
  have em : M2.m S.length = p := by rw [t2.m S.length (by simp), M.add_m]
  obtain ⟨us0, p1, r0⟩ := s2.dct g0
  cases r0
  obtain ⟨s4, t4⟩ := s2.putD g0 (r3.merge .nil)
  rw [em] at p1 s4 t4
  refine ⟨p1, ws, e1, by rw [← r3.length2]; exact l15, q M2 _ _ ((t1.trans t2).trans t4) s4 ?_⟩
  have hr := RP.ref (K := X.K) (M := M2) (n := (S2.set S.length (Ob.dct (mergeP [] kvs))).length) (H := upd H2 p (.dK (mergeK [] ws))) (i := S.length) (by rw [List.length_set]; exact (List.getElem?_eq_some_iff.mp g0).1)
  rw [em] at hr
  exact hr
end
end L4
set_option Elab.async false
set_option linter.all false
set_option maxRecDepth 100000
namespace L3
open PySem PySem.Spec PyProof PyProof.Rows L2
section
variable {X : Cx}
def rRng2 : List V → Hp → VK → Prop := fun xs H Q => ∃ i j : Int, xs = [.int i, .int j] ∧ ∀ p, H p = none → Q (.ref p) (upd H p (.rng i j))
theorem call_rng2 : CallR X (.type "range") rRng2 := by
  intro pins s σ H xs us Q I r h
  obtain ⟨i, j, rfl, q⟩ := h
  cases r with
  | cons r1 rr =>
    obtain ⟨u, rfl, t, rfl⟩ := vals1 rr
    obtain ⟨t1, rfl⟩ := r1
    refine call_range_2 ?_
    refine ⟨.ref s.heap.objs.size, _, I.laid (t' := s.toks + 1) (fun b o e => Heap.get?_push_of_some _ e) (Nat.le_refl _) (show ObjOk X.prog X.w _ _ _ (.rng i j) from ⟨_, _, _, Heap.get?_push_size _ rfl⟩), rfl, q _ (I.hok.fresh (Nat.le_refl _))⟩
def fromV (lo : Int) (n : Nat) : List V := (List.range n).map fun (i : Nat) => V.int (lo + (i : Int))
theorem fromV_length (lo : Int) (n : Nat) : (fromV lo n).length = n := by simp [fromV]
theorem vals_fromA (lo : Int) : ∀ (l : List Value) (k : Nat), (∀ (i : Nat) (v : Value), l[i]? = some v → ∃ t, v = Value.int (lo + ((k + i : Nat) : Int)) t) → Vals ((List.range' k l.length).map fun (i : Nat) => V.int (lo + (i : Int))) l
  | [], k, _ => .nil
  | x :: l, k, h => by
    refine .cons ?_ (vals_fromA lo l (k + 1) fun i v hi => ?_)
    · obtain ⟨t, ht⟩ := h 0 x rfl
      exact ⟨t, ht⟩
    · obtain ⟨t, ht⟩ := h (i + 1) v (by simpa using hi)
      exact ⟨t, by rw [ht, show k + 1 + i = k + (i + 1) by omega]⟩
theorem vals_of_itemsA {lo : Int} {n : Nat} {acc : Array Value} (h : ItemsOf (fun i v => ∃ t, v = Value.int (lo + (i : Nat) * 1) t) acc n) : Vals (fromV lo n) acc.toList := by
  obtain ⟨hs, hv⟩ := h
  have e : fromV lo n = (List.range' 0 acc.toList.length).map fun (i : Nat) => V.int (lo + (i : Int)) := by
    rw [Array.length_toList, hs, ← List.range_eq_range']; rfl
  rw [e]
  refine vals_fromA lo _ 0 fun i v hi => ?_
  obtain ⟨t, ht⟩ := hv i v (by simpa using hi)
  exact ⟨t, by rw [ht]; simp⟩
theorem collect_rngA {prog : Program} {w : World} {A : Around} {E : Value → Shared → Prop} {s : Shared} {Q : List Value → Shared → Prop} {r : Addr} {lo b : Int} {t u v : Tok} {n : Nat} (hh : A.handled = none) (hr : IsRange s.heap r lo b 1 t u v) (hsm : Builtin.Range.small lo b 1 = true) (hn : Builtin.Range.rangeSize lo b 1 = n) (hl : n ≤ 2 ^ 24)
    (q : ∀ (h' : Heap) (tk : Nat) (acc : Array Value), (∀ b o, s.heap.get? b = some o → h'.get? b = some o) → ItemsOf (fun i v => ∃ t, v = Value.int (lo + (i : Nat) * 1) t) acc n → Q acc.toList { s with heap := h', toks := tk }) :
    wpAny (model prog w) A (collect (.ref r)) Q E s := by
  unfold collect
  refine wpAny_bind (wpAny_runValue (codeAny_builtin F.entry_proto_collect ?_))
  rw [Around.under_plainId F.plain_proto_collect _]
  refine wpAny_bind (m := newList []) (wpAny_newObj_type (wpAny_pure ⟨plainId_quiet F.plain_list_iadd _, codeAny_builtin F.entry_list_iadd ?_⟩))
  rw [Around.under_plainId F.plain_list_iadd _]
  have hS : (s.heap.push { cls := .type "list", data := .seq ([] : List Value).toArray }).get? s.heap.objs.size = some { cls := .type "list", data := .seq #[] 0 } := Heap.get?_push_size _ rfl
  have last : ∀ h' tk acc' c', (∀ b o, b ≠ s.heap.objs.size → (s.heap.push { cls := .type "list", data := .seq ([] : List Value).toArray }).get? b = some o → h'.get? b = some o) → h'.get? s.heap.objs.size = some { cls := .type "list", dict := none, data := .seq acc' c', slots := #[] } →
      ItemsOf (fun i v => ∃ t, v = Value.int (lo + (i : Nat) * 1) t) acc' n → wpAny (model prog w) A (match Value.ref s.heap.objs.size with
      | Value.ref a => do
        match (← load a).data with
          | Data.seq xs _ => pure xs.toList
          | _ => unsupported "internal:collect"
      | _ => unsupported "internal:collect") Q E { s with heap := h', toks := tk } := fun h' tk acc' c' kp e it => by
    refine wpAny_bind (m := load s.heap.objs.size) (wpAny_load e (wpAny_pure ?_))
    exact q h' tk acc' (fun b o eb => kp b o (Nat.ne_of_lt (Heap.lt_size eb)) (Heap.get?_push_of_some _ eb)) it
  refine wpAny_mono (wpAny_extend_range (A := A) (R := fun r s' => r = .ok (.ret (.ref s.heap.objs.size)) ∧ wpAny (model prog w) A (match Value.ref s.heap.objs.size with
      | Value.ref a => do
        match (← load a).data with
          | Data.seq xs _ => pure xs.toList
          | _ => unsupported "internal:collect"
      | _ => unsupported "internal:collect") Q E s') (s := { s with heap := s.heap.push { cls := .type "list", data := .seq ([] : List Value).toArray } }) hh (Heap.get?_push_of_some _ hr) hsm hn hl _ (.ref s.heap.objs.size) 0 hS
      fun h' tk acc' c' kp e it => ⟨rfl, last h' tk acc' c' kp e it⟩) (fun fin s' h => ?_) (fun e s' h => ?_)
  · cases fin with
    | done f =>
      obtain ⟨e, h⟩ := h
      cases e
      exact h
    | again c' => exact ⟨h.1, codeAny_mono h.2 fun r s'' hr => by obtain ⟨e, h⟩ := hr; cases e; exact h⟩
  · exact absurd h.1 (by simp)
theorem meets_tuple_rngA (r : Addr) (lo b : Int) (t u v : Tok) (n : Nat) (hsm : Builtin.Range.small lo b 1 = true) (hn : Builtin.Range.rangeSize lo b 1 = n) (hl : n ≤ 2 ^ 24) {prog : Program} {w : World} {A : Around} {Q : Value → Shared → Prop} {E : Value → Shared → Prop} {s : Shared} (hh : A.handled = none) (hr : IsRange s.heap r lo b 1 t u v)
    (q : ∀ (h' : Heap) (tk : Nat) (acc : Array Value), (∀ b o, s.heap.get? b = some o → h'.get? b = some o) → ItemsOf (fun i v => ∃ t, v = Value.int (lo + (i : Nat) * 1) t) acc n → Q (.ref h'.objs.size) { s with heap := h'.push { cls := .type "tuple", data := .seq acc }, toks := tk }) :
    codeAny (model prog w) A (.call (.builtin "tuple.__new__") ⟨[.type "tuple", .ref r], []⟩) (wants Q E) s := by
  refine codeAny_of_tree ?_
  show wpAny _ A.in1 (do checkBuiltinCall "tuple.__new__" ⟨[.type "tuple", .ref r], []⟩; again (.builtin "tuple.__new__" ⟨[.type "tuple", .ref r], []⟩)) _ _ s
  refine wpAny_bind (wpAny_of_eq (F.newCall_tuple_1 _) (wpAny_pure ⟨plainId_quiet F.plain_tuple_new _, codeAny_builtin F.entry_tuple_new ?_⟩))
  rw [Around.under_plainId F.plain_tuple_new _]
  have hsub := sub_tuple_self
  have hinit := init_tuple_lookup
  have hmh := madeHere_tuple
  have hT : s.TypeIs (.ref r) "range" := ⟨_, hr, rfl⟩
  have hh1 : A.in1.handled = none := hh
  wp_walk using wpAny_typeOf hT, collect_rngA hh1 hr hsm hn hl
  intro h' tk acc kp it
  show wpAny _ _ (Builtin.Tuple.tupleExact acc.toList.toArray >>= fun v => ret v) _ _ _
  unfold Builtin.Tuple.tupleExact
  have e : acc.toList.toArray = acc := by simp
  rw [e]
  refine wpAny_bind (wpAny_newObj_type (wpAny_pure (q h' tk acc kp it)) (by show acc.size ≤ sizeLine; rw [it.1]; exact hl))
theorem call_tuple_rngA {r : Addr} {lo b : Int} {t u v : Tok} {n : Nat} (hsm : Builtin.Range.small lo b 1 = true) (hn : Builtin.Range.rangeSize lo b 1 = n) (hl : n ≤ 2 ^ 24) {prog : Program} {w : World} {A : Around} {Q : Value → Shared → Prop} {E : Value → Shared → Prop} {s : Shared} (hh : A.handled = none) (hr : IsRange s.heap r lo b 1 t u v)
    (q : ∀ (h' : Heap) (tk : Nat) (acc : Array Value), (∀ b o, s.heap.get? b = some o → h'.get? b = some o) → ItemsOf (fun i v => ∃ t, v = Value.int (lo + (i : Nat) * 1) t) acc n → Q (.ref h'.objs.size) { s with heap := h'.push { cls := .type "tuple", data := .seq acc }, toks := tk }) :
    wpAny (model prog w) A (call (.type "tuple") [.ref r]) Q E s := by
  refine callType_codes (Q₁ := fun obj s₁ => s₁.TypeIs obj "tuple" ∧ Q obj s₁) F.called_tuple (F.typeCall_tuple_1 _) F.entry_object_init
    (meets_tuple_rngA r lo b t u v n hsm hn hl hh hr fun h' tk acc kp it => ⟨⟨_, Heap.get?_push_size _ rfl, rfl⟩, q h' tk acc kp it⟩) fun obj s₁ h₁ => ?_
  exact ⟨h₁.1, F.args_object_init_2 obj _, object_init_meets F.called_tuple.init.lookup F.called_tuple.made (by decide) prog w A.in1 _ s₁ ⟨h₁.1, rfl, h₁.2⟩⟩
def rTupRng2 : List V → Hp → VK → Prop := fun xs H Q => ∃ p i j, xs = [.ref p] ∧ H p = some (.rng i j) ∧ 0 ≤ i ∧ i ≤ j ∧ j ≤ 65536 ∧ ∀ l, H l = none → Q (.ref l) (upd H l (.tup (fromV i (j - i).toNat)))
theorem call_tup_rng2 (hc : X.calm = true) : CallR X (.type "tuple") rTupRng2 := by
  intro pins s σ H xs us Q I r h
  obtain ⟨p, i, j, rfl, hp, hi0, hij, hj, q⟩ := h
  obtain ⟨u, rfl, rx⟩ := vals1 r
  cases rx
  obtain ⟨t, u, v, hr⟩ := I.hok p _ hp
  have hz : Builtin.Range.rangeSize i j 1 = ((j - i).toNat : Int) := by rw [rangeSize_one]; split <;> omega
  refine call_tuple_rngA (small_one (by omega) (by omega) (by omega) (by omega)) hz (by omega) (I.ok.hd hc) hr fun h' tk acc kp it => ?_
  have I1 : Inv X pins σ H { s with heap := h', toks := tk } := I.kept kp
  have I2 : Inv X pins σ (upd H h'.objs.size (.tup (fromV i (j - i).toNat))) { s with heap := h'.push { cls := .type "tuple", data := .seq acc }, toks := tk } :=
    I1.laid (t' := tk) (fun b o e => Heap.get?_push_of_some _ e) (Nat.le_refl _) (show ObjOk X.prog X.w _ _ _ (.tup (fromV i (j - i).toNat)) from ⟨by rw [fromV_length]; have := small65536; omega, acc.toList, vals_of_itemsA it, by simpa using IsTupD.new h' acc⟩)
  exact ⟨.ref h'.objs.size, _, I2, rfl, q _ (I1.hok.fresh (Nat.le_refl _))⟩
end
end L3
set_option Elab.async false
set_option linter.all false
set_option maxRecDepth 100000
namespace L3
open PySem PySem.Spec PyProof PyProof.Rows L2
section
variable {prog : Program} {w : World} {A : Around} {E : Value → Shared → Prop} {s : Shared}
end
section
variable {X : Cx}
end
end L3
set_option Elab.async false
set_option linter.all false
set_option maxRecDepth 100000
namespace L3
open PySem PySem.Spec PyProof.Rows L2
section
variable {X : Cx}
theorem elt_full2 {PT : Addr} {gsc : Scope} {j1 j2 : Nat} {q1 q2 q3 q4 q5 q6 q7 q8 q9 : Pos} {H1 : Hp} {σ : L2.St} {p L : Addr} {xs ys : List V} {wd : Int}
    (hkind : gsc.kind = .function) (hkl : gsc.names.lookup ("layer" : Str) = some .local) (hkn : gsc.names.lookup ("net" : Str) = some .free) (hkg : gsc.names.lookup ("len" : Str) = some .globalImplicit)
    (hclo : ∀ cells : List (Str × Addr), (cloFrom cells gsc.names []).lookup ("net" : Str) = some ((cells.lookup ("net" : Str)).getD 0))
    (hm : X.mg "len" = none) (hN : X.N[0]? = some ("net" : Str)) (hcl : X.env.kindOf "net" = some .cell) (hvis : Vis X.env.scope "net")
    (hT : Tb H1 PT) (h0 : σ[0]? = some (some (.ref p))) (hp : SqT X.K H1 p (.int wd :: xs)) (hK : X.K.lookup PT = none) (hL : H1 L = some (.lst ys)) :
    EltG X PT gsc "layer" (.Compare (.BinOp (.Constant (.int 2) j1 q1) .Mult (.Call (.Name "len" q2) [.Name "layer" q3] [] q4) q5) [.Eq] [.Subscript (.Name "net" q6) (.Constant (.int 0) j2 q7) q8] q9) H1 σ (.ref L) (decide (2 * (ys.length : Int) = wd)) := by
  intro pins s1 s2 A' E' C code u m2 I hA hk hn hm2 r
  cases r
  obtain ⟨ps, hP, _⟩ := hT
  -- the net
  obtain ⟨m, _, hl⟩ := I.loc
  obtain ⟨u, ru, lk⟩ := hl 0 "net" _ hN h0 hvis
  cases ru
  obtain ⟨c, hc, hcell⟩ : ∃ c, X.env.cells.lookup ("net" : Str) = some c ∧ s1.heap.IsCell c (some (.ref p)) := by
    rcases lk with ⟨z, _⟩ | ⟨_, c, e, hc⟩
    · rw [hcl] at z; cases z
    · exact ⟨c, e, hc⟩
  have ncP : c ≠ PT := fun z => by
    have := I.freeC "net" c hc
    rw [z, hP] at this; cases this
  have hcell2 : s2.heap.IsCell c (some (.ref p)) := by
    obtain ⟨o, ho, hd⟩ := hcell
    exact ⟨o, hk _ _ ncP ho, hd⟩
  have hcc : (cloFrom X.env.cells gsc.names []).lookup ("net" : Str) = some c := by rw [hclo, hc]; rfl
  have npP : p ≠ PT := by
    rcases hp with (hp | ⟨ob, hp⟩) | ⟨o, its, n, hp, _⟩
    · exact ne_of hp hP (by intro z; cases z)
    · exact ne_of hp hP (by intro z; cases z)
    · intro z; rw [z, hK] at hp; cases hp
  have nLP : L ≠ PT := ne_of hL hP (by intro z; cases z)
  obtain ⟨its, rt, pt, zt⟩ := I.tuple hp
  have pt2 : IsTup s2.heap p its.toArray := by
    obtain ⟨o, ho, rr⟩ := pt
    exact ⟨o, hk _ _ npP ho, rr⟩
  obtain ⟨jts, rl, pl, zl⟩ := I.list (SqL.of (K := X.K) hL)
  have pl2 : PlainL s2.heap L jts.toArray := by
    obtain ⟨o, n, ho, rr⟩ := pl
    exact ⟨o, n, hk _ _ nLP ho, rr⟩
  obtain ⟨v0, its', rfl, rv0⟩ : ∃ v0 its', its = v0 :: its' ∧ RelV (.int wd) v0 := by
    cases rt with
    | cons a b => exact ⟨_, _, rfl, a⟩
  obtain ⟨t0, rfl⟩ := rv0
  have lenL := rl.length
  have hn63 := line63
  obtain ⟨mb, hb1, hb2⟩ := I.mod.blt
  have baseNe : ∀ b o, X.base.get? b = some o → b ≠ PT := fun b o e z => by
    have := (I.bs b o e).2
    rw [z, hP] at this; cases this
  have k2 : ∀ b o, X.base.get? b = some o → s2.heap.get? b = some o := fun b o e => hk b o (baseNe b o e) (I.bk b o e)
  have glob2 : s2.heap.Ns mainGlobals X.mg := I.mod.glob.keeps k2
  have blt2 : s2.heap.Ns builtinsNs mb := hb1.keeps k2
  have eg : (genEnv gsc (cloFrom X.env.cells gsc.names []) C code builtinsNs X.env).globals = mainGlobals := I.ok.glob
  refine wpAny_Compare1 ?_ rfl
  refine wpAny_BinOp (wpAny_Constant_int ?_)
  refine wpAny_Call_Name_kw (Calls.Name_function_global hkind hkg (Calls.loadGlobal_builtin (by rw [eg]; exact glob2) hm (show _ from blt2) ((hb2 "len" (by decide)).trans (by decide +kernel : bootBuiltins "len" = some (.builtin "len"))) ?_) (by decide))
  refine PyProof.Rows.callWith_builtin1 ?_ (by rfl) (by rfl)
  refine Calls.spliced_cons (wpAny_Name (wpAny_loadName_local hkind hkl hn hm2 (Calls.spliced_nil ?_)) (by decide))
  refine Calls.call_len_list pl2.isList (by simp only [List.size_toArray] <;> omega) ?_
  refine mul_int ?_ (CMul.ok (.inl ⟨by decide, by decide⟩))
  refine Subscript_ (wpAny_Name (wpAny_loadName_free hkind hkn hcc hcell2 (wpAny_Constant_int ?_) (by decide)) (by decide))
  refine subscriptTail_builtinR (x := .int wd t0) pt2.typeIs slot_tuple_getitem.lookup (getItem_tuple (j := 0) pt2 (by omega) (by omega) (by simp [seqIndex?] <;> omega) (by simp) ⟨rfl, ?_⟩) rfl
  refine eq_int ?_
  refine ⟨?_, s2.heap, _, rfl, fun _ _ e => e⟩
  rw [List.size_toArray, ← lenL]
  congr 1
end
end L3
set_option Elab.async false
set_option linter.all false
set_option maxRecDepth 100000
namespace L4
open PySem PySem.Spec PyProof.Rows L2 L3
section
variable {K : PySem.W.Frag} {M : Map} {S : Sto} {H : Hp}
theorem Sim.tabU (s : Sim Ts K M S H) {PT : Addr} (hT : PT ∈ Ts) {ps' : Array Value} (tok : TriplesOk ps'.toList) (cd : Cods H ps'.toList) (hK : K.lookup PT = none) : Sim Ts K M S (upd H PT (.tbl ps')) ∧ Stp Ts K M S.length H M S.length (upd H PT (.tbl ps')) := by
  obtain ⟨ps, hP, _⟩ := s.tab PT hT
  have ht : ∀ a us, SqT K H a us → SqT K (upd H PT (.tbl ps')) a us := fun a us h => by
    rcases h with (h | ⟨ob, h⟩) | h
    · exact .inl (.inl (by rw [upd_ne (ne_of h hP (by intro z; cases z))]; exact h))
    · exact .inl (.inr ⟨ob, by rw [upd_ne (ne_of h hP (by intro z; cases z))]; exact h⟩)
    · exact .inr h
  have hs : ∀ a us, Scr K H a us → Scr K (upd H PT (.tbl ps')) a us := fun a us h => by
    rcases h with ⟨ob, h⟩ | h
    · exact .inl ⟨ob, by rw [upd_ne (ne_of h hP (by intro z; cases z))]; exact h⟩
    · exact .inr h
  have hc : ∀ a oc c, H a = some (.frz oc (.own c)) → upd H PT (.tbl ps') a = some (.frz oc (.own c)) := fun a oc c h => by
    rw [upd_ne (ne_of h hP (by intro z; cases z))]; exact h
  refine ⟨⟨fun i o hi => ?_, s.sep, fun P hQ => ?_⟩, ⟨Nat.le_refl _, fun _ _ => rfl, fun _ _ => rfl, ht, hs, fun a o h n1 n2 => ?_, fun a h => none_upd h, fun i h1 h2 => by omega⟩⟩
  · obtain ⟨⟨x, h3, m3⟩, y, h4, m4⟩ := (s.ob i o hi).at
    refine (s.ob i o hi).mono (Nat.le_refl _) (fun _ _ => rfl) ht hs (upd_ne ?_) (upd_ne ?_)
    · intro z; rw [z, hP] at h3; cases h3; exact m3
    · intro z; rw [z, hP] at h4; cases h4; exact m4
  · by_cases e : P = PT
    · subst e; exact ⟨ps', upd_same, tok, cd.keep hc⟩
    · exact (s.tab P hQ).keep (fun q h => by rw [upd_ne e]; exact h) hc
  · rw [upd_ne]; exact h
    rintro rfl; exact n2 hT
end
theorem ok_bodyC {P : Program} {w : World} {K : PySem.W.Frag} {mg : Str → Option Value} {base : Heap} {x qual : Str} {st : Stmt} {f : Addr} {N ps : List Str} {k : Nat} {wf : WC} {oc : Value} {od an : Option Addr} {osl : Array (Option Value)} {kV doc pm cdv ct : Value}
    (lk : K.lookup f = some ⟨oc, od, .func (PySem.W.fnOf x qual (defArgs st) (defBody st) (defScope st) .none kV doc pm an cdv ct), osl⟩) (hcd : PySem.W.codeIn K cdv qual = true) (Sc : FnScope N ps (defScope st)) (len : ∀ pvs S Q, wf pvs S Q → pvs.length = ps.length)
    (hb : ∀ (A : Around) (outer : List Env) (s : Shared) (H : Hp) (E : XK), Room k (A.deeper (envOfC qual (defScope st) s.heap.objs.size f cdv)) →
      ∃ wb : WS, SSs Ts (cxOf CX0 P w K mg base N qual (defScope st) f cdv A outer s H E).nox (defBody st) wb ∧ ∀ pvs S Q, Closed S.length S → Cls S.length pvs → wf pvs S Q → wb (endsW S.length Q) (startW N.length pvs) S) :
    FnOk P w K mg base CX0 (k + 1) f (PySem.W.fnOf x qual (defArgs st) (defBody st) (defScope st) .none kV doc pm an cdv ct) ps (spW Ts K wf) := by
  refine fn_of lk hcd Sc (fun vs H Q E h => ?_) fun A outer s H vs Q E hr h => ?_
  · obtain ⟨M, S, pvs, sm, r, h⟩ := h
    rw [← r.length]; exact len _ _ _ h
  · obtain ⟨M, S, pvs, sm, r, h⟩ := h
    obtain ⟨wb, hwb, k⟩ := hb A outer s H E hr
    have body : ∃ t, PSs (cxOf CX0 P w K mg base N qual (defScope st) f cdv A outer s H E).nox (defBody st) t ∧ t { nx := fun _ H' => Q .non H', rt := Q } (start N vs) H := by
      refine ⟨_, hwb.ps, M, S, startW N.length pvs, sm, r.start, ?_⟩
      refine hwb.mo _ _ _ _ (k pvs S _ sm.closed r.cl h) ⟨?_, ?_, ?_, ?_⟩
      · exact fun τ1 S1 q M1 H1 σ1 t1 s1 st1 => fg_use q t1 s1 .non
      · exact fun v S1 q M1 H1 u t1 s1 r1 => fg_use q t1 s1 r1
      · exact fun τ1 S1 q => q.elim
      · exact fun τ1 S1 q => q.elim
    obtain ⟨t, h, q⟩ := body
    exact ⟨t, h.nox, q⟩
end L4
namespace L4
open PySem PySem.Spec PyProof.Rows L2 L3
end L4
set_option Elab.async false
set_option linter.all false
set_option maxRecDepth 100000
namespace L4
open PySem PySem.Spec PyProof.Rows L2 L3
section
variable {K : PySem.W.Frag} {M : Map} {S : Sto} {H H' : Hp}
end
theorem pen_at {S G : Sto} {j : Nat} {o : Ob} (h : S[j]? = some o) : (S ++ G)[j]? = some o := by rw [List.getElem?_append_left (List.getElem?_eq_some_iff.mp h).1]; exact h
end L4
set_option Elab.async false
set_option linter.all false
set_option maxRecDepth 100000
namespace L4
open PySem PySem.Spec PyProof.Rows L2 L3
/-- the store has grown -/
def Pre (S S' : Sto) : Prop := ∃ G, S' = S ++ G
theorem Pre.refl (S : Sto) : Pre S S := ⟨[], by simp⟩
theorem Pre.trans {S S1 S2 : Sto} (a : Pre S S1) (b : Pre S1 S2) : Pre S S2 := by
  obtain ⟨G, rfl⟩ := a
  obtain ⟨G', rfl⟩ := b
  exact ⟨G ++ G', by rw [List.append_assoc]⟩
theorem Pre.add (S G : Sto) : Pre S (S ++ G) := ⟨G, rfl⟩
theorem Pre.get {S S' : Sto} (a : Pre S S') {i : Nat} {o : Ob} (h : S[i]? = some o) : S'[i]? = some o := by
  obtain ⟨G, rfl⟩ := a
  exact pen_at h
theorem Pre.len {S S' : Sto} (a : Pre S S') : S.length ≤ S'.length := by
  obtain ⟨G, rfl⟩ := a
  simp
/-- a thing behind it may change -/
theorem Pre.set {S S' : Sto} (a : Pre S S') {k : Nat} {o : Ob} (h : S.length ≤ k) : Pre S (S'.set k o) := by
  obtain ⟨G, rfl⟩ := a
  exact ⟨G.set (k - S.length) o, List.set_append_right _ _ h⟩
theorem st0 {A : Sto} {n : Nat} (hn : A.length = n) {x z : Ob} {G : Sto} : (A ++ x :: G).set n z = A ++ z :: G := by subst hn; rw [List.set_append_right _ _ (Nat.le_refl _), Nat.sub_self]; rfl
theorem st1 {A : Sto} {n : Nat} (hn : A.length = n) {x y z : Ob} {G : Sto} : (A ++ x :: y :: G).set (n + 1) z = A ++ x :: z :: G := by subst hn; rw [List.set_append_right _ _ (by omega), show A.length + 1 - A.length = 1 by omega]; rfl
end L4
set_option Elab.async false
set_option linter.all false
set_option maxRecDepth 100000
namespace L4
open PySem PySem.Spec PyProof.Rows L2 L3
section
variable {X : Cx} {e o i p j : Expr} {wv wo wi wp wj : WE} {pos : Pos}
end
end L4
set_option Elab.async false
set_option linter.all false
set_option maxRecDepth 100000
namespace L3
open PySem PySem.Spec PyProof.Rows L2
section
variable {X : Cx}
end
end L3
set_option Elab.async false
set_option linter.all false
set_option maxRecDepth 100000
namespace L4
open PySem PySem.Spec PyProof.Rows L2 L3
section
variable {X : Cx} {pos : Pos}
end
end L4
set_option Elab.async false
set_option linter.all false
set_option maxRecDepth 100000
namespace L4
open PySem PySem.Spec PyProof.Rows L2 L3
section
variable {X : Cx} {a b e o i tg : Expr} {wa wb wo wi : WE} {pos : Pos}
def keyP : Key → PV
  | .inl i => .int i
  | .inr x => .str x
theorem KR.keys {K : PySem.W.Frag} {M : Map} {n : Nat} {H : Hp} : ∀ {v : List (Key × PV)} {u : List (Key × V)}, KR K M n H v u → RPs K M n H (v.map fun kv => keyP kv.1) (u.map fun kv => kV kv.1)
  | _, _, .nil => .nil
  | _, _, .cons (k := k) r t => .cons (by cases k <;> first | exact .int _ | exact .str _) (KR.keys t)
theorem KR.get {κ : Type} {K : PySem.W.Frag} {M : Map} {n : Nat} {H : Hp} : ∀ {v : List (κ × PV)} {u : List (κ × V)} {i : Nat} {k : κ} {x : PV}, KR K M n H v u → v[i]? = some (k, x) → ∃ y, u[i]? = some (k, y) ∧ RP K M n H x y
  | _, _, _, _, _, .nil, e => by simp at e
  | _, _, 0, _, _, .cons r _, e => by simp at e; obtain ⟨rfl, rfl⟩ := e; exact ⟨_, rfl, r⟩
  | _, _, i + 1, k, x, .cons _ t, e => by
    obtain ⟨y, h1, h2⟩ := KR.get (i := i) (k := k) (x := x) t (by simpa using e)
    exact ⟨y, by simpa using h1, h2⟩
end
end L4
set_option Elab.async false
set_option linter.all false
set_option maxRecDepth 100000
namespace L4
open PySem PySem.Spec PyProof.Rows L2 L3
section
variable {X : Cx}
end
section
variable {X : Cx} {a b c e elt iter tg iter1 tg1 : Expr} {ifs ifs1 : List Expr} {scope : Scope} {own : List (Str × Nat)} {pos : Pos} {wi wi1 : WI} {g g1 : TG} {wg wg1 : WG} {wt wt1 : WT} {wa we : WE} {vs1 : List Nat}
end
end L4
set_option Elab.async false
set_option linter.all false
set_option maxRecDepth 100000
namespace L4
open PySem PySem.Spec PyProof.Rows L2 L3
section
variable {X : Cx}
end
end L4
set_option Elab.async false
set_option linter.all false
set_option maxRecDepth 100000
namespace L4
open PySem PySem.Spec PyProof.Rows L2 L3
end L4
set_option Elab.async false
set_option linter.all false
set_option maxRecDepth 100000
namespace L4
open PySem PySem.Spec PyProof.Rows L2 L3
section
variable {Ts : List Addr}
variable {X : Cx} {a b c e elt iter tg iter1 tg1 : Expr} {ifs ifs1 : List Expr} {scope : Scope} {own : List (Str × Nat)} {pos : Pos} {wi wi1 : WI} {g g1 : TG} {wg wg1 : WG} {wt wt1 : WT} {wa we : WE} {vs1 : List Nat}
end
end L4
set_option Elab.async false
set_option linter.all false
set_option maxRecDepth 100000
namespace L3
open PySem PySem.Spec PyProof.Rows L2
section
variable {X : Cx}
end
end L3
set_option Elab.async false
set_option linter.all false
set_option maxRecDepth 100000
namespace L4
open PySem PySem.Spec PyProof.Rows L2 L3
section
variable {Ts : List Addr} {X : Cx}
end
end L4
set_option Elab.async false
set_option linter.all false
set_option maxRecDepth 100000
namespace L4
open PySem PySem.Spec PyProof.Rows L2 L3
section
variable {Ts : List Addr} {X : Cx}
end
end L4
set_option Elab.async false
set_option linter.all false
set_option maxRecDepth 100000
namespace L3
open PySem PySem.Spec PyProof.Rows L2
theorem Chg.more {F F' : List Addr} {h0 h h' : Heap} {H : Hp} (c : Chg F h0 H h h') (hF : ∀ b ∈ F, b ∈ F') : Chg F' h0 H h h' := ⟨fun b o g n z => c.keep b o g n fun y => z (hF b y), c.slot⟩
section
variable {X : Cx} {pins : List (Addr × Obj)} {σ σ0 : L2.St} {H H0 H' : Hp} {s s0 : Shared} {h' : Heap}
/-- a new thing that nobody tracked is tracked from here on -/
theorem inv_adopt {a : Addr} {o : HO} (I0 : Inv X pins σ0 H0 s0) (I : Inv X pins σ H s) (hx : X.ex = []) (n0 : s0.heap.get? a = none) (nH : H a = none) (new : ObjOk X.prog X.w (upd H a o) s.heap a o) : Inv X pins σ (upd H a o) s := by
  have nex : ∀ b : Addr, b ∉ X.ex := fun b z => by rw [hx] at z; cases z
  have old : ∀ b o, X.s_0.heap.get? b = some o → b ≠ a := fun b o e z => by
    obtain ⟨o', g⟩ := I0.base.there b o e (nex b)
    rw [z, n0] at g; cases g
  have trk : ∀ b u, H b = some u → b ≠ a := fun b u e z => by rw [z, nH] at e; cases e
  refine ⟨I.ok, I.os, I.bare, ⟨I.base.keep, I.base.slot, fun b u e n hb => ?_, I.base.there, fun b xs e => ?_, fun b u v e => ?_, fun b ps e => ?_⟩, I.loc, I.cell, ?_, fun x c e => ?_, fun p hp => ?_, fun b u e => ?_, I.len⟩
  · rw [upd_ne (old b u e)]; exact I.base.free b u e n hb
  · have := I.base.tups b xs e
    rw [upd_ne (trk b _ this)]; exact this
  · have := I.base.frzs b u v e
    rw [upd_ne (trk b _ this)]; exact this
  · obtain ⟨more, z⟩ := I.base.tbls b ps e
    exact ⟨more, by rw [upd_ne (trk b _ z)]; exact z⟩
  · rw [upd_ne]
    · exact I.free
    · intro z
      obtain ⟨_, ⟨o0, _, _, g, _⟩, _⟩ := I0.loc
      rw [z, n0] at g; cases g
  · rw [upd_ne]
    · exact I.freeC x c e
    · intro z
      obtain ⟨_, o0, g, _⟩ := I0.cell x c e
      rw [z, n0] at g; cases g
  · obtain ⟨e, n, ne, nf, d⟩ := I.pin p hp
    obtain ⟨e0, _⟩ := I0.pin p hp
    refine ⟨e, ?_, ne, nf, d⟩
    rw [upd_ne]
    · exact n
    · intro z; rw [z, n0] at e0; cases e0
  · by_cases hb : b = a
    · subst hb; rw [upd_same] at e; cases e; exact new
    · rw [upd_ne hb] at e
      exact (I.hok b u e).stay (fun c v _ q => q) (fun c q => by rw [upd_ne (trk c _ q)]; exact q) fun c xs q => by rw [upd_ne (trk c _ q)]; exact q
end
section
variable {P : Program} {w : World} {K : PySem.W.Frag} {mg : Str → Option Value} {base : Heap} {N : List Str} {qual : Str} {scope : Scope} {f : Addr} {cd : Value} {A : Around} {outer : List Env} {s : Shared} {H : Hp} {E : XK}
end
section
variable {X : Cx} {EX : Value → Option Addr → L2.St → Hp → Prop}
variable {k : Nat} {f : Addr} {fd : FuncData} {ps : List Str} {sp : Sp} {x m : Str} {p pos apos : Pos} {e o : Expr} {es : List Expr} {ta : TE} {t : TA} {C : Addr}
end
end L3
set_option Elab.async false
set_option linter.all false
set_option maxRecDepth 100000
namespace L3
open PySem PySem.Spec PyProof.Rows L2
abbrev TJ := L2.St → Hp → (Hp → Prop) → Prop
section
variable {X : Cx} {e : Expr} {es : List Expr} {te : TE} {t : TJ} {n : Nat}
end
abbrev bmV : List Value := [.type "ValueError", .type "Exception", .type "BaseException", .type "object"]
def mroK (K : PySem.W.Frag) (C : Addr) : List Value := match K.lookup C with
  | some ⟨_, _, .cls cd, _⟩ => cd.mro
  | _ => []
structure ExcC (K : PySem.W.Frag) (mg : Str → Option Value) (x : Str) (C : Addr) : Prop where
  nm : mg x = some (.ref C)
  ex : PySem.W.excIn K C bmV "ValueError.__new__" = true
theorem ExcC.obj {K : PySem.W.Frag} {mg : Str → Option Value} {x : Str} {C : Addr} {h : Heap} (c : ExcC K mg x C) (k : K.In h) : ∃ bm N nm q bs hd sn sub ab col dd k0 k1 k2 k3 k5 mN,
    h.get? C = some (excClassObj nm q C N bs bm hd sn sub ab col dd k0 k1 k2 k3 k5 "ValueError.__new__") ∧ h.Ns N mN ∧ mN "__init__" = none ∧ OwnTail h bmV bm ∧ mroK K C = .ref C :: bm := by
  have q := c.ex
  unfold PySem.W.excIn at q
  split at q
  · rename_i dd cd sl ho
    split at q
    · rename_i C' bm k0 k1 k2 k3 n k5 hm hs
      simp only [Bool.and_eq_true, beq_iff_eq, Bool.not_eq_true'] at q
      obtain ⟨⟨⟨⟨⟨rfl, rfl⟩, del⟩, ht⟩, okn⟩, ni⟩ := q
      have em : mroK K C' = .ref C' :: bm := by unfold mroK; rw [ho]; exact hm
      obtain ⟨nm, bs, mro, ns, qn, hd, sn, sub, ab, col, dl⟩ := cd
      dsimp only at hm del okn ni
      subst hm del
      have es : sl = #[k0, k1, k2, k3, some (.builtin "ValueError.__new__"), k5] := by
        obtain ⟨l⟩ := sl
        simp only at hs
        rw [hs]
      subst es
      exact ⟨bm, ns, nm, qn, bs, hd, sn, sub, ab, col, dd, k0, k1, k2, k3, k5, _, k _ _ ho, .of_isNs (PySem.W.isNs_of_in k okn), PySem.W.nsMap_none_of_in k okn ni, PySem.W.tail_of_in k ht, em⟩
    · cases q
  · cases q
section
variable {X : Cx} {EX : Value → Option Addr → L2.St → Hp → Prop} {x : Str} {C : Addr} {e : Expr} {te : TE} {np cpos pos : Pos}
end
end L3
set_option Elab.async false
set_option linter.all false
set_option maxRecDepth 100000
namespace L3
open PySem PySem.Spec PyProof.Rows L2
section
variable {X : Cx} {pins p : List (Addr × Obj)} {σ : L2.St} {H : Hp} {s : Shared} {E : Value → Shared → Prop} {a : Addr}
end
section
variable {X : Cx} {body suite : List Stmt} {b₀ : Stmt} {n cls : Str} {i : Nat} {F : Addr} {np hpos pos : Pos} {tb : (Value → Option Addr → L2.St → Hp → Prop) → TS} {th : TS}
end
end L3
set_option Elab.async false
set_option linter.all false
set_option maxRecDepth 100000
namespace L4
open PySem PySem.Spec PyProof.Rows L2 L3
/-- where a body began -/
structure Bs where
  M : Map
  n : Nat
  H : Hp
section
variable {Ts : List Addr} {X : Cx} {B : Bs} {a b c e o : Expr} {wa wb : WE} {pos p : Pos} {st : Stmt} {rest as bs : List Stmt} {t u : WS} {wt : WT}
end
end L4
set_option Elab.async false
set_option linter.all false
set_option maxRecDepth 100000
namespace L3
open PySem PySem.Spec PySem.Calls PyProof.Rows L2
structure ExcI (K : PySem.W.Frag) (C : Addr) : Prop where
  ga : PySem.W.findIn K (.ref C) "__getattribute__" = some (some (.builtin "BaseException.__getattribute__"))
  gh : PySem.W.findIn K (.ref C) "__getattr__" = some none
  cl : PySem.W.findIn K (.ref C) "__class__" = some (some (.builtin "object.__class__"))
  get : PySem.W.specialIn K (.builtin "object.__class__") "__get__" = some (some (.builtin "getset_descriptor.__get__"))
  tk : PySem.W.takesIn K (.builtin "object.__class__") = some true
  ob : PySem.W.mroIn K C (.type "object") = some true
  be : PySem.W.mroIn K C (.type "BaseException") = some true
  ex : PySem.W.excIn K C bmV "ValueError.__new__" = true
section
variable {prog : Program} {w : World} {A : Around} {E : Value → Shared → Prop} {s : Shared} {K : PySem.W.Frag} {x C : Addr} {ox : Obj}
theorem ExcI.cls (e : ExcI K C) : ∃ cd, PySem.W.clsIn K C = some cd := by
  have q := e.ex
  unfold PySem.W.excIn at q
  split at q
  · rename_i dd cd sl ho
    exact ⟨cd, by unfold PySem.W.clsIn; rw [ho]⟩
  · cases q
end
section
variable {X : Cx}
end
end L3
set_option Elab.async false
set_option linter.all false
set_option maxRecDepth 100000
namespace L4
open PySem PySem.Spec PyProof.Rows L2 L3
section
variable {Ts : List Addr} {X : Cx} {a b c e o : Expr} {wa wb : WE} {pos p : Pos}
theorem WEnds.le.trans {D D1 D2 : WEnds} (a : D.le D1) (b : D1.le D2) : D.le D2 := ⟨fun _ _ h => b.nx _ _ (a.nx _ _ h), fun _ _ h => b.rt _ _ (a.rt _ _ h), fun _ _ h => b.bk _ _ (a.bk _ _ h), fun _ _ h => b.ct _ _ (a.ct _ _ h)⟩
end
end L4
set_option Elab.async false
set_option linter.all false
set_option maxRecDepth 100000
namespace L4
open PySem PySem.Spec PyProof.Rows L2 L3
section
variable {Ts : List Addr} {X : Cx}
end
end L4
set_option Elab.async false
set_option linter.all false
set_option maxRecDepth 100000
namespace L2
open PySem PySem.Spec PyProof.Rows
section
variable {X : Cx}
end
end L2
set_option Elab.async false
set_option linter.all false
set_option maxRecDepth 100000
namespace L4
open PySem PySem.Spec PyProof.Rows L2 L3
section
variable {Ts : List Addr} {X : Cx}
end
end L4
set_option Elab.async false
set_option linter.all false
set_option maxRecDepth 100000
namespace L3
open PySem PySem.Spec PySem.Calls PyProof.Rows L2
section
variable {prog : Program} {w : World} {A : Around} {R : Result → Shared → Prop} {s : Shared}
end
abbrev lamFn (qual : Str) (params : Arguments) (body : Expr) (scope : Scope) (cl : List (Str × Addr)) (pm : Value) (c : Addr) (ctv : Value) : FuncData := PySem.W.kla_fn "<lambda>" qual params body scope cl pm (.ref c) ctv
/-- the lambda at f, what its names hold: all untracked but its code -/
structure Lam (s : Shared) (H : Hp) (N : List Str) (f c : Addr) (qual : Str) (params : Arguments) (body : Expr) (scope : Scope) (cl : List (Str × Addr)) (pm ctv : Value) (σ : L2.St) : Prop where
  at_ : ∃ o, s.heap.get? f = some o ∧ o.data = .func (lamFn qual params body scope cl pm c ctv)
  nf : H f = none
  code : CodeH H c
  cell : ∀ x a, cl.lookup x = some a → (∃ v, s.heap.IsCell a v) ∧ H a = none
  val : ∀ (i : Nat) (x : Str) (v : V), N[i]? = some x → σ[i]? = some (some v) → ∃ u a, RelV v u ∧ cl.lookup x = some a ∧ s.heap.IsCell a (some u) ∧ scope.names.lookup x = some .free
  len : σ.length = N.length
  inj : ∀ x y a, cl.lookup x = some a → cl.lookup y = some a → x = y
  has : ∀ x, (scope.names.lookup x = some .cell ∨ scope.names.lookup x = some .free) → ∃ a, cl.lookup x = some a
section
variable {X : Cx} {pins : List (Addr × Obj)} {σ σl : L2.St} {H H' : Hp} {s s' : Shared} {N : List Str} {f c : Addr} {qual : Str} {params : Arguments} {body : Expr} {scope : Scope} {cl : List (Str × Addr)} {pm ctv : Value} {E : XK} {Q : VK} {tl : TE} {fs : List Addr}
theorem Lam.later (L : Lam s H N f c qual params body scope cl pm ctv σl) (u : Un fs [] H H' s.heap s'.heap) : Lam s' H' N f c qual params body scope cl pm ctv σl := by
  have nex : ∀ b : Addr, b ∉ ([] : List Addr) := fun b z => by cases z
  have cellK : ∀ a v, s.heap.IsCell a v → H a = none → s'.heap.IsCell a v := fun a v ⟨o, ho, hd⟩ n => by
    obtain ⟨sl, e⟩ := u.any ho n (nex a)
    exact ⟨_, e, hd⟩
  refine ⟨?_, ?_, L.code.keep fun a oc c e => u.frzs a oc _ e, fun x a e => ?_, fun i x v e1 e2 => ?_, L.len, L.inj, L.has⟩
  · obtain ⟨o, ho, hd⟩ := L.at_
    obtain ⟨sl, e⟩ := u.any ho L.nf (nex f)
    exact ⟨_, e, hd⟩
  · obtain ⟨o, ho, hd⟩ := L.at_
    exact u.free f o ho L.nf (nex f)
  · obtain ⟨⟨v, o, ho, hd⟩, n⟩ := L.cell x a e
    exact ⟨⟨v, cellK a v ⟨o, ho, hd⟩ n⟩, u.free a o ho n (nex a)⟩
  · obtain ⟨u', a, r, hl, hc, hf⟩ := L.val i x v e1 e2
    exact ⟨u', a, r, hl, cellK a _ hc (L.cell x a hl).2, hf⟩
end
end L3
set_option Elab.async false
set_option linter.all false
set_option maxRecDepth 100000
namespace L3
open PySem PySem.Spec PySem.Calls PyProof.Rows L2
theorem CodeK.hd {K : PySem.W.Frag} {cd : Value} {PT : Addr} (C : CodeK K cd PT) : ∃ c, cd = .ref c ∧ ∀ h : Heap, K.In h → PySem.W.CodeHd h c PT := by
  obtain ⟨c, od, vs, sl, file, tf, flags, tg, inF, text, tt, rfl, lk, a1, a2, a3, a4, a5, a6, ne⟩ := C.ex
  exact ⟨c, rfl, fun h X => ⟨_, vs, file, tf, flags, tg, inF, text, tt, X _ _ lk, rfl, rfl, a2, a1, a3, a4, a5, a6, ne⟩⟩
theorem upd_comm {H : Hp} {a b : Addr} {x y : HO} (h : a ≠ b) : upd (upd H a x) b y = upd (upd H b y) a x := by
  funext c
  by_cases e : c = a
  · subst e
    rw [upd_ne h, upd_same, upd_same]
  · have e0 : c ≠ a := e
    by_cases e2 : c = b
    · subst e2; rw [upd_same, upd_ne e0, upd_same]
    · have e3 : c ≠ b := e2
      rw [upd_ne e3, upd_ne e0, upd_ne e0, upd_ne e3]
/-- how the abstract heap has changed -/
def LamGrow (PT : Addr) (H H1 : Hp) : Prop := H1 = H ∨ ∃ (c : Addr) (oc : Obj) (ps : Array Value), H c = none ∧ c ≠ PT ∧ H1 = upd (upd H c (.frz oc (.own c))) PT (.tbl ps) ∧ TriplesOk ps.toList ∧ Cods (upd H c (.frz oc (.own c))) ps.toList
section
variable {X : Cx} {pins : List (Addr × Obj)} {σ σl : L2.St} {H : Hp} {s : Shared} {N : List Str} {params : Arguments} {body : Expr} {scope : Scope} {PT : Addr} {lpos : Pos}
end
end L3
set_option Elab.async false
set_option linter.all false
set_option maxRecDepth 100000
namespace L4
open PySem PySem.Spec PyProof.Rows L2 L3
section
variable {Ts : List Addr} {X : Cx} {B B0 : Bs} {e : Expr} {we : WE} {pos p : Pos} {x : Str}
end
end L4
set_option Elab.async false
set_option linter.all false
set_option maxRecDepth 100000
namespace L4
open PySem PySem.Spec PyProof.Rows L2 L3
theorem Sim.grow {Ts : List Addr} {K : PySem.W.Frag} {M : Map} {S : Sto} {H H1 : Hp} {PT : Addr} (s : Sim Ts K M S H) (hT : PT ∈ Ts) (hK : K.lookup PT = none) (g : LamGrow PT H H1) : Sim Ts K M S H1 ∧ Stp Ts K M S.length H M S.length H1 := by
  rcases g with rfl | ⟨c, oc, ps, hc, nc, rfl, tok, cd⟩
  · exact ⟨s, .refl _ _ _ _⟩
  · obtain ⟨s1, t1⟩ := s.beside (o := .frz oc (.own c)) hc
    obtain ⟨s2, t2⟩ := s1.tabU hT tok cd hK
    exact ⟨s2, t1.trans t2⟩
section
variable {Ts : List Addr} {X : Cx} {pos p lpos : Pos} {x : Str} {N ps : List Str} {PT : Addr} {params : Arguments} {body : Expr} {scope : Scope}
end
end L4
set_option Elab.async false
set_option linter.all false
set_option maxRecDepth 100000
namespace L3
open PySem PySem.Spec PyProof.Rows L2
def tAllT (K : PySem.W.Frag) (PT : Addr) (Elt : Hp → L2.St → V → Bool → Prop) (ti : TE) : TE := fun σ H Q => ti σ H fun v H1 => ∃ l xs, v = .ref l ∧ SqL K H1 l xs ∧ TabO H1 PT ∧
  ∃ tr : Nat → Bool, (∀ i x, xs[i]? = some x → Elt H1 σ x (tr i)) ∧ ∀ H', LamGrow PT H1 H' → Q (.bl ((List.range xs.length).all tr)) H'
theorem upd_self {H : Hp} {a : Addr} {o : HO} (h : H a = some o) : upd H a o = H := by
  funext c
  by_cases e : c = a
  · subst e; rw [upd_same, h]
  · rw [upd_ne e]
section
variable {X : Cx}
theorem pe_allT {elt iter : Expr} {x : Str} {p1 px gpos pos : Pos} {gsc : Scope} {ti : TE} {PT : Addr} (hex : X.ex = []) (hc : X.calm = true) (hg : Gl X "all") (hm : X.mg "all" = none) (CK : CodeK X.K X.env.code PT) (hM : ∃ bm ob, BMod X.base mainGlobals X.mg bm ob) (hroom : X.A.depth < recursionLimit)
    (hco : gsc.isCoroutine = false) (hcell : ∀ y ∈ gsc.names, y.2 ≠ .cell) (h0 : gsc.names.lookup (".0" : Str) = some NameKind.local) (hx : gsc.names.lookup x = some .local) (hkind : gsc.kind = .function)
    {sc : Scope} (hsc : X.env.scope = sc) (hfr : ∀ y ∈ gsc.names, y.2 = .free → sc.names.lookup y.1 = some .cell ∨ sc.names.lookup y.1 = some .free) (hi : PE X iter ti)
    (hs : ∀ x, genFold iter X.env x = pure x := by intro _; rfl) :
    PE X (.Call (.Name "all" p1) [.GeneratorExp elt [⟨.Name x px, iter, [], 0⟩] gsc gpos] [] pos) (tAllT X.K PT (EltG X PT gsc x elt) ti) := by
  intro pins s σ H Q I h
  refine wpAny_Call_Name_kw (ld_blt I hg hm (by decide +kernel : bootBuiltins "all" = some (.builtin "all")) ?_)
  refine PyProof.Rows.callWith_builtin1 ?_ (by rfl) (by rfl)
  show wpAny _ _ (spliced ((false, eval (.GeneratorExp elt [⟨.Name x px, iter, [], 0⟩] gsc gpos) X.env) :: [])) _ _ s
  have hh := I.ok.hd hc
  have hclos : closureFor gsc X.env = pure (cloFrom X.env.cells gsc.names []) := closure_ok fun y hy e => I.ok.has _ (by have := hfr y hy e; rw [← hsc] at this; exact this)
  refine Calls.spliced_cons (wpAny_GeneratorExp_walksQ hh hco hclos hcell h0 hx hkind hroom (thn (hi pins s σ H _ I h) fun u s1 ⟨v, H1, I1, r1, q1⟩ => ?_) hs)
  obtain ⟨l, xs, rfl, hl, ⟨ps, hP, tok, cds⟩, tr, helt, q⟩ := q1
  cases r1
  obtain ⟨its, rv, pl, hz⟩ := I1.list hl
  have hll := pl.isList
  refine wpAny_pyIter_list hll ?_
  have hlt : l < s1.heap.objs.size := by obtain ⟨_, e, _⟩ := hll; exact Heap.lt_size e
  generalize hs2 : ({ s1 with heap := s1.heap.push { cls := .type "list_iterator", data := .fields #[.ref l, .int 0 0] } } : Shared) = s2
  have k12 : ∀ b o, s1.heap.get? b = some o → s2.heap.get? b = some o := fun b o e => by rw [← hs2]; exact Heap.get?_push_of_some _ e
  have sz2 : s2.heap.objs.size = s1.heap.objs.size + 1 := by rw [← hs2]; exact Heap.size_push ..
  have hst2 : s2.heap.IsListIter s1.heap.objs.size l 0 ∧ s2.heap.IsList l its.toArray := by rw [← hs2]; exact ⟨⟨_, Heap.get?_push_size _ rfl, rfl, rfl⟩, hll.push _⟩
  have hT1 : s1.heap.get? PT = some { cls := .none, data := .fields ps } := I1.hok PT _ hP
  have hT2 := k12 _ _ hT1
  obtain ⟨c, ec, hcP, hcode⟩ := CK.at
  have K2 : X.K.In s2.heap := I1.kIn.keeps k12
  obtain ⟨ic2, tb2⟩ := hcode s2.heap ps K2 hT2 tok
  have lim2 : s2.heap.NoLimit := I1.nolimit.keeps k12
  have nPl : l ≠ PT := fun e => by
    obtain ⟨o, ho, hcl, _⟩ := hll
    rw [e, hT1] at ho; cases ho; exact absurd hcl (by simp)
  have ltP : PT < s1.heap.objs.size := Heap.lt_size hT1
  have nPs : cStatics ≠ PT := fun e => by
    obtain ⟨_, hns, _⟩ := lim2
    obtain ⟨o, es, ep, ho, hd, _⟩ := hns
    rw [e, hT2] at ho; cases ho; cases hd
  obtain ⟨bm, ob, M0⟩ := hM
  have M2 : BMod s2.heap mainGlobals X.mg bm ob := M0.keeps fun b o e => k12 b o (I1.bk b o e)
  refine ⟨lim2, ?_⟩
  -- behind the code
  have rest : ∀ (code : Value) (h' : Heap) (tk : Nat) (more : Array Value), Heap.ExtBut PT s2.heap h' → s2.heap.objs.size ≤ h'.objs.size → h'.get? PT = some { cls := .none, data := .fields (ps ++ more) } → TriplesOk (ps ++ more).toList →
      (∀ s' : Shared, Inv X pins σ (upd H1 PT (.tbl (ps ++ more))) s' → (∀ b o, b ≠ PT → b ≠ h'.objs.size → b ≠ s1.heap.objs.size → h'.get? b = some o → s'.heap.get? b = some o) → ∃ H', Inv X pins σ H' s' ∧ LamGrow PT H1 H') →
      wpAny (model X.prog X.w) X.A (builtinsFor X.env.globals X.env.builtins) (fun bi s₄ =>
        ∃ I fp wr n₀ P St₀ pz F, Value.ref s1.heap.objs.size = .ref I ∧ (∀ A' : Around, A'.handled = none → Walks X.prog X.w A' I fp wr n₀ P St₀) ∧ St₀ 0 s₄.heap ∧ (∀ b ∈ fp, b < s₄.heap.objs.size) ∧ s₄.heap.NoLimit ∧ cStatics ∉ wr ∧
          (∀ href : Heap, (∀ b o, s₄.heap.get? b = some o → href.get? b = some o) →
            QuietGen X.prog X.w (genEnv gsc (cloFrom X.env.cells gsc.names []) s₄.heap.objs.size code bi X.env) x [] elt (List.range s₄.heap.objs.size) wr P pz F href) ∧
          (∀ a h₅ tk gs, gs.bare = true → s₄.heap.objs.size < a → h₅.objs.size = a + 1 → (∀ b o, s₄.heap.get? b = some o → h₅.get? b = some o) →
            WalksS X.prog X.w X.A.in4 a (a :: s₄.heap.objs.size :: List.range s₄.heap.objs.size) (s₄.heap.objs.size :: wr) (GenOnlyQ s₄.gens.size) (passing pz n₀ 0).length
              (fun j y => ∃ i, (passing pz n₀ 0)[j]? = some i ∧ F i y) (GenAt X.prog X.w X.A.in4 a s₄.gens.size s₄.heap.objs.size (List.range s₄.heap.objs.size) wr pz n₀ F) →
            GenAt X.prog X.w X.A.in4 a s₄.gens.size s₄.heap.objs.size (List.range s₄.heap.objs.size) wr pz n₀ F 0 { s₄ with gens := s₄.gens.push gs, toks := tk, heap := h₅ } →
            wpAny (model X.prog X.w) X.A (spliced []) (fun vs s' => wpAny (model X.prog X.w) X.A (call (.builtin "all") (Value.ref a :: vs)) (EP X pins σ Q) X.xe s') X.xe { s₄ with gens := s₄.gens.push gs, toks := tk, heap := h₅ })) X.xe { s2 with heap := h', toks := tk } := by
    intro code h' tk more hx' hsz hT' tok' grow
    have hsz1 : s1.heap.objs.size < h'.objs.size := by omega
    have M' : BMod h' mainGlobals X.mg bm ob := M2.extBut tb2 hx'
    have lim' : h'.NoLimit := lim2.extBut hx' nPs
    rw [I.ok.glob]
    refine wpAny_builtinsFor M'.ns M'.name M'.ne M'.obj M'.cls M'.dict M'.data ?_
    have hst' : h'.IsListIter s1.heap.objs.size l 0 ∧ h'.IsList l its.toArray := ⟨hst2.1.at fun o e => hx' _ o (Nat.ne_of_gt ltP) e, hst2.2.at fun o e => hx' _ o nPl e⟩
    refine ⟨s1.heap.objs.size, [s1.heap.objs.size, l], [s1.heap.objs.size], its.toArray.size, _, _, fun _ => true, fun i y => y = .bool (tr i), rfl, (fun A' hA => Walks.list hA _ _ (Nat.ne_of_lt hlt) its.toArray), hst', ?_, lim', ?_, ?_, ?_⟩
    · intro b hb
      show b < h'.objs.size
      rcases List.mem_cons.mp hb with rfl | hb
      · exact hsz1
      · rcases List.mem_cons.mp hb with rfl | hb
        · exact Nat.lt_trans hlt hsz1
        · cases hb
    · intro hb
      have e : cStatics = s1.heap.objs.size := by simpa using hb
      obtain ⟨_, hns, _⟩ := I1.nolimit
      exact Nat.ne_of_lt hns.lt e
    · intro href hhref
      refine ⟨fun A' E' i v s₂ m₂ hA _ _ _ _ => wpAny_pure ⟨rfl, s₂.heap, s₂.toks, rfl, fun _ _ e => e⟩, fun A' E' i v s₂ m₂ hA hv _ hn hm2 hk => ?_⟩
      have hiv : its[i]? = some v := by simpa using hv
      obtain ⟨xv, hxv, rxv⟩ : ∃ xv, xs[i]? = some xv ∧ RelV xv v := by
        have hil : i < xs.length := by rw [rv.length]; exact (List.getElem?_eq_some_iff.mp hiv).1
        have hx1 : xs[i]? = some xs[i] := by simp [hil]
        obtain ⟨u, hu, ru⟩ := rv.get hx1
        rw [hiv] at hu
        have e := Option.some.inj hu
        exact ⟨_, hx1, by rw [e]; exact ru⟩
      exact helt i xv hxv pins s1 s₂ A' E' _ code v m₂ I1 hA (fun b o nb e => hk b (List.mem_range.mpr (Nat.lt_trans (Heap.lt_size e) hsz1)) (fun z => by
        have z' : b = s1.heap.objs.size := by simpa using z
        exact Nat.ne_of_lt (Heap.lt_size e) z') o (hhref b o (hx' b o nb (k12 b o e)))) hn hm2 rxv
    · intro a h₅ tk₅ gs hgb hag hsz₅ hk₅ W hat
      refine Calls.spliced_nil ?_
      have W := W.in4_1
      refine call_all_walkS (W.self 0 _ _ _ hat ⟨a, _, _, _, _, _, _, tr, rfl, W, hat, ?_, fun s' hmv => ?_⟩)
      · intro i y s Q' E'' hy hq
        obtain ⟨i', hi', rfl⟩ := hy
        rw [passing_all] at hi'
        have : i' = i := by
          have := (List.getElem?_eq_some_iff.mp hi').2
          simpa using this.symm
        subst this
        exact wpAny_truthy_bool hq
      · rw [passing_all, List.length_range, List.size_toArray, ← rv.length]
        have kAll : ∀ b o, b ≠ PT → s1.heap.get? b = some o → s'.heap.get? b = some o := fun b o nb e => by
          have lt := Heap.lt_size e
          refine hmv.heap b o (fun z => ?_) (hk₅ b o (hx' b o nb (k12 b o e)))
          rcases List.mem_cons.mp z with z | z
          · exact Nat.ne_of_lt (Nat.lt_trans lt hsz1) z
          · have z' : b = s1.heap.objs.size := by simpa using z
            exact Nat.ne_of_lt lt z'
        have kT : s'.heap.get? PT = some { cls := .none, data := .fields (ps ++ more) } := by
          refine hmv.heap PT _ (fun z => ?_) (hk₅ _ _ hT')
          rcases List.mem_cons.mp z with z | z
          · exact Nat.ne_of_lt (Nat.lt_trans ltP hsz1) z
          · have z' : PT = s1.heap.objs.size := by simpa using z
            exact Nat.ne_of_lt ltP z'
        have bare : AllBare s'.gens := ((I1.bare.push hgb)).moved (by
          have := hmv.gens
          rw [← hs2] at this
          exact this)
        have I2 := Inv.grown (d' := s'.drawn) (t' := s'.toks) I1 hP kAll kT bare
        have es : ({ s1 with heap := s'.heap, gens := s'.gens, drawn := s'.drawn, toks := s'.toks } : Shared) = s' := by
          have ho := hmv.os
          have ho' : s'.os = s1.os := by rw [ho, ← hs2]
          cases s'
          simp only at ho'
          rw [ho']
        rw [es] at I2
        obtain ⟨H', I3, lg⟩ := grow s' I2 fun b o nb n1 n2 e => hmv.heap b o (fun z => by
          rcases List.mem_cons.mp z with z | z
          · exact n1 z
          · have z' : b = s1.heap.objs.size := by simpa using z
            exact n2 z') (hk₅ b o e)
        exact ⟨.bl _, H', I3, rfl, q H' lg⟩
  cases hnf : codeAmong gpos ps.toList with
  | some cv =>
    refine wpAny_genexprCode_hit ec ic2 hnf ?_
    have := rest cv s2.heap s2.toks #[] (Heap.ExtBut.refl _ _) (Nat.le_refl _) (by simpa using hT2) (by simpa using tok) fun s' J _ => ⟨H1, by rw [Array.append_empty, upd_self hP] at J; exact J, .inl rfl⟩
    exact this
  | none =>
    refine wpAny_genexprCodeX ec ic2 tb2 hnf fun c' h' tk hx' hge hlt' _ hrec htab' _ => ?_
    have hsz1 : s1.heap.objs.size < c' := by omega
    have tk2 : TriplesOk (ps ++ #[rawInt gpos.line, rawInt gpos.col, .ref c']).toList := by
      have := TriplesOk_snoc gpos.line gpos.col (.ref c') ps.toList tok
      simpa using this
    refine rest (.ref c') h' tk #[rawInt gpos.line, rawInt gpos.col, .ref c'] hx' (by omega) htab'.2 tk2 fun s' J k => ?_
    obtain ⟨c2, oc, vs, t, e2, hoc, hod, hv⟩ := hrec
    cases e2
    have hcH : H1 c' = none := I1.hok.fresh (Nat.le_of_lt hsz1)
    have ncP : c' ≠ PT := fun z => by rw [z] at hsz1; exact absurd (Nat.lt_trans ltP hsz1) (Nat.lt_irrefl _)
    have hoc' := k c' oc ncP (Nat.ne_of_lt hlt') (Nat.ne_of_gt hsz1) hoc
    have I2 := inv_adopt (a := c') (o := .frz oc (.own c')) I1 J hex (Heap.get?_none_of_le (Nat.le_of_lt hsz1)) (by rw [upd_ne ncP]; exact hcH) ⟨hoc', _, hoc'⟩
    rw [upd_comm (fun z => ncP z.symm)] at I2
    refine ⟨_, I2, .inr ⟨c', oc, _, hcH, ncP, rfl, tk2, fun pos cv e => ?_⟩⟩
    have e' : codeAmong pos (ps.toList ++ [rawInt gpos.line, rawInt gpos.col, .ref c']) = some cv := by simpa using e
    rcases codeAmong_snoc pos _ _ _ _ tok cv e' with e3 | rfl
    · obtain ⟨c3, e4, e5⟩ := cds pos cv e3
      refine ⟨c3, e4, e5.keep fun a oa ca ea => ?_⟩
      rw [upd_ne]; exact ea
      rintro rfl; rw [hcH] at ea; cases ea
    · exact ⟨c', rfl, oc, vs, _, t, upd_same, hod, hv⟩
end
end L3
set_option Elab.async false
set_option linter.all false
set_option maxRecDepth 100000
namespace L4
open PySem PySem.Spec PyProof.Rows L2 L3
def wFullE (wi : WE) : WE := fun τ S Q => wi τ S fun (v : PV) (S1 : Sto) => ∃ (p : Nat) (rs : List Nat) (rows : Nat → List PV) (wd : Int) (xs : List PV), v = PV.ref p ∧ S1[p]? = some (Ob.lst (rs.map PV.ref)) ∧ (∀ i r, rs[i]? = some r → S1[r]? = some (Ob.lst (rows i))) ∧ τ[0]? = some (some (.tup (.int wd :: xs))) ∧
  Q (.bl ((List.range rs.length).all fun i => decide (2 * ((rows i).length : Int) = wd))) S1
section
variable {X : Cx}
theorem se_full {iter : Expr} {wi : WE} {p1 px gpos pos : Pos} {gsc : Scope} {PT : Addr} {j1 j2 : Nat} {q1 q2 q3 q4 q5 q6 q7 q8 q9 : Pos} (hex : X.ex = []) (hc : X.calm = true) (hg : Gl X "all") (hm : X.mg "all" = none) (hml : X.mg "len" = none) (CK : CodeK X.K X.env.code PT) (hM : ∃ bm ob, BMod X.base mainGlobals X.mg bm ob) (hroom : X.A.depth < recursionLimit)
    (hT : PT ∈ Ts) (hK : X.K.lookup PT = none) (hN : X.N[0]? = some ("net" : Str)) (hcl : X.env.kindOf "net" = some .cell) (hvis : Vis X.env.scope "net")
    (hco : gsc.isCoroutine = false) (hcell : ∀ y ∈ gsc.names, y.2 ≠ .cell) (h0 : gsc.names.lookup (".0" : Str) = some NameKind.local) (hkind : gsc.kind = .function)
    (hkl : gsc.names.lookup ("layer" : Str) = some .local) (hkn : gsc.names.lookup ("net" : Str) = some .free) (hkg : gsc.names.lookup ("len" : Str) = some .globalImplicit)
    (hclo : ∀ cells : List (Str × Addr), (cloFrom cells gsc.names []).lookup ("net" : Str) = some ((cells.lookup ("net" : Str)).getD 0))
    {sc : Scope} (hsc : X.env.scope = sc) (hfr : ∀ y ∈ gsc.names, y.2 = .free → sc.names.lookup y.1 = some .cell ∨ sc.names.lookup y.1 = some .free) (hi : SE Ts X iter wi)
    (hs : ∀ x, genFold iter X.env x = pure x := by intro _; rfl) :
    SE Ts X (.Call (.Name "all" p1) [.GeneratorExp (.Compare (.BinOp (.Constant (.int 2) j1 q1) .Mult (.Call (.Name "len" q2) [.Name "layer" q3] [] q4) q5) [.Eq] [.Subscript (.Name "net" q6) (.Constant (.int 0) j2 q7) q8] q9) [⟨.Name "layer" px, iter, [], 0⟩] gsc gpos] [] pos) (wFullE wi) := by
  refine ⟨pe_imp (pe_allT (X := X) (x := "layer") hex hc hg hm CK hM hroom hco hcell h0 hkl hkind hsc hfr hi.pe hs) fun σ H Q h => ?_, fun τ S Q Q' q k => hi.mo _ _ _ _ q fun v S1 ⟨p, rs, rows, wd, xs, e1, e2, e3, e4, q⟩ => ⟨p, rs, rows, wd, xs, e1, e2, e3, e4, k _ _ q⟩⟩
  obtain ⟨M, S, τ, s, st, h⟩ := h
  refine runE hi.mo s st h fun v S1 M1 H1 u f t1 s1 r1 => ?_
  obtain ⟨p, rs, rows, wd, xs, rfl, gp, gr, hτ, q⟩ := f
  cases r1
  obtain ⟨us, hus, rus⟩ := s1.lst gp
  have hTo : TabO H1 PT := s1.tab PT hT
  have hTb : Tb H1 PT := let ⟨ps, a, b, _⟩ := hTo; ⟨ps, a, b⟩
  obtain ⟨u0, e0, r0⟩ := st.get 0 _ hτ
  have r0' := r0.stp t1
  cases r0' with
  | tup sq rxs =>
    cases rxs with
    | cons rw rx =>
      cases rw
      have lus : us.length = rs.length := by rw [← rus.length, List.length_map]
      refine ⟨_, us, rfl, SqL.of hus, hTo, fun i => decide (2 * ((rows i).length : Int) = wd), fun i x hx => ?_, fun H' lg => ?_⟩
      · obtain ⟨y, hy, ry⟩ := rus.get' hx
        rw [List.getElem?_map] at hy
        cases e : rs[i]? with
        | none => rw [e] at hy; cases hy
        | some r =>
          rw [e] at hy; cases hy
          cases ry
          obtain ⟨ys, hys, rys⟩ := s1.lst (gr i r e)
          dsimp only
          rw [rys.length]
          exact elt_full2 hkind hkl hkn hkg hclo hml hN hcl hvis hTb e0 sq hK hys
      · rw [lus]
        obtain ⟨s2, t2⟩ := s1.grow hT hK lg
        exact q M1 _ _ (t1.trans t2) s2 (.bl _)
end
end L4
set_option Elab.async false
set_option linter.all false
set_option maxRecDepth 100000
namespace L3
open PySem PySem.Spec PyProof.Rows L2
section
variable {Y : Cx} {A0 : Around} {tg elt iter : Expr} {gsc : Scope} {gpos : Pos} {J : It} {fp : List Addr} {it : Addr} {tn : Nat → Heap → Prop} {gp : List (Addr × Obj)} {n g : Nat} {G : Nat → L2.St → Hp → Prop} {tr : Nat → Bool} {tt : TG} {te : TE}
end
end L3
set_option Elab.async false
set_option linter.all false
set_option maxRecDepth 100000
namespace L3
open PySem PySem.Spec PyProof.Rows L2
section
variable {Y : Cx} {A : Around} {gp : List (Addr × Obj)} {tn : Nat → Heap → Prop} {fp : List Addr} {G : Nat → L2.St → Hp → Prop} {g n : Nat} {tr : Nat → Bool} {a : Addr}
end
section
variable {X : Cx} {pins : List (Addr × Obj)} {σ σl : L2.St} {H : Hp} {s : Shared} {Nt NF : List Str} {gsc : Scope} {fp : List Addr} {A' : Around} {code : Value} {PT : Addr} {gpos : Pos}
end
end L3
set_option Elab.async false
set_option linter.all false
set_option maxRecDepth 100000
namespace L3
open PySem PySem.Spec PyProof.Rows L2
section
variable {X : Cx}
end
end L3
set_option Elab.async false
set_option linter.all false
set_option maxRecDepth 100000
namespace L4
open PySem PySem.Spec PyProof.Rows L2 L3
section
variable {Ts : List Addr} {X : Cx}
end
end L4
set_option Elab.async false
set_option linter.all false
set_option maxRecDepth 100000
namespace L4
open PySem PySem.Spec PyProof.Rows L2 L3
section
variable {P : Program} {w : World} {K : PySem.W.Frag} {mg : Str → Option Value} {base : Heap}
end
end L4
set_option Elab.async false
set_option linter.all false
set_option maxRecDepth 100000
namespace L4
open PySem PySem.Spec PyProof.Rows L2 L3
section
variable {P : Program} {w : World} {K : PySem.W.Frag} {mg : Str → Option Value} {base : Heap}
end
end L4
set_option Elab.async false
set_option linter.all false
set_option maxRecDepth 100000
namespace L4
open PySem PySem.Spec PyProof.Rows L2 L3
theorem two_get1 (S : Sto) (a b : Ob) : (S ++ [a, b])[S.length + 1]? = some b := by simp
section
variable {P : Program} {w : World} {K : PySem.W.Frag} {mg : Str → Option Value} {base : Heap}
def wBehind : WC := ctrF (fun a : Net × Net => [netP a.1, netP a.2]) (fun a _ => Ltn a.2 a.1.ord.length ∧ a.1.w ≤ 16 ∧ a.1.sw.length + a.2.sw.length ≤ 160) (fun a => netP ⟨a.1.w, a.1.sw ++ (renN a.2 a.1.ord).sw, (renN a.2 a.1.ord).ord⟩)
abbrev s_behind : Stmt := top 14
theorem sc_behind : FnScope ["one", "other", "switches", "order"] ["one", "other"] (defScope s_behind) := ⟨rfl, rfl, rfl, by decide +kernel, rfl, by decide +kernel, by decide +kernel⟩
set_option maxHeartbeats 1000000 in
theorem ok_behind {f : Addr} {fd : FuncData} (F : Fun K "behind" "behind" s_behind f fd) (T : Tn mg) (D_fitting : DefW Ts P w K mg base "fitting" 1 ["width", "switches", "order"] wFit) (D_named : DefW Ts P w K mg base "named" 1 ["net", "wires"] wNamed) : FnOk P w K mg base CX0 2 f fd ["one", "other"] (spW Ts K wBehind) := by
  refine ok_body (k := 1) F sc_behind (fun pvs S Q h => by obtain ⟨a, rfl, _⟩ := h; rfl) (fun cdv A outer s H E hr => ?_)
  have hu := hu_of hr
  refine ⟨_, (sss_cons (ss_asg (vs := [2, 3]) (se_def D_named (hr.mono (by first | decide | omega)) (by rfl) (sa_cons (sv 1) (sa_cons (se_ix hu (sv 0) se_int (fun _ _ => rfl)) sa_nil))) (pg_tup (n := 2) rfl (pgs_cons (pg_name (i := 2) sc_behind.nd rfl (by first | exact Or.inl rfl | exact Or.inr rfl)) (pgs_cons (pg_name (i := 3) sc_behind.nd rfl (by first | exact Or.inl rfl | exact Or.inr rfl)) pgs_nil))) (gr_tup (gr_cons (gr_name (i := 2) (by decide)) (gr_cons (gr_name (i := 3) (by decide)) gr_nil))) (mg_tup (mg_cons (mg_name _) (mg_cons (mg_name _) mg_nil))))
      (sss_one (ss_ret (se_def D_fitting (hr.mono (by first | decide | omega)) (by rfl) (sa_cons (se_ix hu (sv 0) se_int (fun _ _ => rfl)) (sa_cons (se_op s_add (se_ix hu (sv 0) se_int (fun _ _ => rfl)) (sv 2)) (sa_cons (sv 3) sa_nil))))))), fun pvs S Q hcl hca h => ?_⟩
  obtain ⟨⟨N, O⟩, rfl, ⟨hn, h1, h2⟩, h⟩ := h
  dsimp only at hn h h1 h2
  simp only [wSeq, wAsg, wRet, wRetN, wDrop, wIfS, wVar, wC, wOp, wCall, wCons, wNil, wTup, wTest, wAnd, wOr, wNot, wAndV, wOrV, wNotV, wIf, wNext, wgName, wgTup, wgCons, wgNil, wFor, wSq, wYes, wLcU, wLcV, wLc, uTuple, uAll, uAny, uSum, wNeg, wSl, wPart, wNoPart, rSlW_tup, rAddW, rI0W, rIW, rMulW, rEqW, rIsW, isNonP, seqW_tup, wLst, wipeW, wPar, wPut, wAug, wZip, wEnum, wRng1, wRng2, wChain, List.getElem?_cons_zero, List.getElem?_cons_succ, List.set_cons_zero, List.set_cons_succ, Option.some.injEq, exists_eq_left', exists_eq_left, exists_and_left, exists_eq_right, exists_eq_right', and_assoc, true_and, and_true, List.cons.injEq, and_self, if_true, if_false, Bool.false_eq_true, PV.int.injEq, PV.bl.injEq, PV.tup.injEq, PV.ref.injEq, PV.str.injEq, Bool.false_xor, Bool.true_xor, List.length_cons, List.length_nil, Nat.reduceAdd, Nat.reduceLeDiff, Nat.reduceEqDiff, Prod.mk.injEq, cutP_map, cutP_0, cutP_1, cutP_2, cutP_all, decide_eq_true_eq, startW, endsW, List.map_cons, List.map_nil, List.cons_append, List.nil_append, List.replicate, Nat.reduceSub, rIxW_tup, rLenW_tup, rListW_tup, wMeth, wRngL, wRngT, rIsiW_eq, tyP_non, tyP_bl, tyP_int, tyP_str, tyP_tup, isi_NoneType_int, isi_NoneType_bool, isi_NoneType_str, isi_NoneType_list, isi_NoneType_tuple, isi_NoneType_dict, isi_bool_int, isi_bool_bool, isi_bool_str, isi_bool_list, isi_bool_tuple, isi_bool_dict, isi_int_int, isi_int_bool, isi_int_str, isi_int_list, isi_int_tuple, isi_int_dict, isi_str_int, isi_str_bool, isi_str_str, isi_str_list, isi_str_tuple, isi_str_dict, isi_tuple_int, isi_tuple_bool, isi_tuple_str, isi_tuple_list, isi_tuple_tuple, isi_tuple_dict, isi_list_int, isi_list_bool, isi_list_str, isi_list_list, isi_list_tuple, isi_list_dict, isi_dict_int, isi_dict_bool, isi_dict_str, isi_dict_list, isi_dict_tuple, isi_dict_dict, decide_true, decide_false, Bool.not_true, Bool.not_false, Bool.not_eq_true', decide_eq_false_iff_not, ite_not, natP, swP, natsP, intsP, atI_0, atI_1, atI_2, atI_3, wLcU2, wLcV2, wTupZip, wZipN, wStep, wRev, wMaxD, wMinD, rInW_ints, netP]
  refine ⟨(O, N.ord), rfl, hn, ?_⟩
  simp only [wSeq, wAsg, wRet, wRetN, wDrop, wIfS, wVar, wC, wOp, wCall, wCons, wNil, wTup, wTest, wAnd, wOr, wNot, wAndV, wOrV, wNotV, wIf, wNext, wgName, wgTup, wgCons, wgNil, wFor, wSq, wYes, wLcU, wLcV, wLc, uTuple, uAll, uAny, uSum, wNeg, wSl, wPart, wNoPart, rSlW_tup, rAddW, rI0W, rIW, rMulW, rEqW, rIsW, isNonP, seqW_tup, wLst, wipeW, wPar, wPut, wAug, wZip, wEnum, wRng1, wRng2, wChain, List.getElem?_cons_zero, List.getElem?_cons_succ, List.set_cons_zero, List.set_cons_succ, Option.some.injEq, exists_eq_left', exists_eq_left, exists_and_left, exists_eq_right, exists_eq_right', and_assoc, true_and, and_true, List.cons.injEq, and_self, if_true, if_false, Bool.false_eq_true, PV.int.injEq, PV.bl.injEq, PV.tup.injEq, PV.ref.injEq, PV.str.injEq, Bool.false_xor, Bool.true_xor, List.length_cons, List.length_nil, Nat.reduceAdd, Nat.reduceLeDiff, Nat.reduceEqDiff, Prod.mk.injEq, cutP_map, cutP_0, cutP_1, cutP_2, cutP_all, decide_eq_true_eq, startW, endsW, List.map_cons, List.map_nil, List.cons_append, List.nil_append, List.replicate, Nat.reduceSub, rIxW_tup, rLenW_tup, rListW_tup, wMeth, wRngL, wRngT, rIsiW_eq, tyP_non, tyP_bl, tyP_int, tyP_str, tyP_tup, isi_NoneType_int, isi_NoneType_bool, isi_NoneType_str, isi_NoneType_list, isi_NoneType_tuple, isi_NoneType_dict, isi_bool_int, isi_bool_bool, isi_bool_str, isi_bool_list, isi_bool_tuple, isi_bool_dict, isi_int_int, isi_int_bool, isi_int_str, isi_int_list, isi_int_tuple, isi_int_dict, isi_str_int, isi_str_bool, isi_str_str, isi_str_list, isi_str_tuple, isi_str_dict, isi_tuple_int, isi_tuple_bool, isi_tuple_str, isi_tuple_list, isi_tuple_tuple, isi_tuple_dict, isi_list_int, isi_list_bool, isi_list_str, isi_list_list, isi_list_tuple, isi_list_dict, isi_dict_int, isi_dict_bool, isi_dict_str, isi_dict_list, isi_dict_tuple, isi_dict_dict, decide_true, decide_false, Bool.not_true, Bool.not_false, Bool.not_eq_true', decide_eq_false_iff_not, ite_not, natP, swP, natsP, intsP, atI_0, atI_1, atI_2, atI_3, wLcU2, wLcV2, wTupZip, wZipN, wStep, wRev, wMaxD, wMinD, rInW_ints, netP]
  have l : (renN O N.ord).sw.length = O.sw.length := by simp [renN]
  refine ⟨by rw [List.length_map, List.length_map, l]; omega, ⟨(N.w, N.sw.map swP ++ (renN O N.ord).sw.map swP, natsP (renN O N.ord).ord), rfl, ⟨h1, by rw [List.length_append, List.length_map, List.length_map, l]; exact h2⟩, fg_here ?_⟩⟩
  simpa [netP, List.map_append] using h
end
end L4
set_option Elab.async false
set_option linter.all false
set_option maxRecDepth 100000
namespace L4
open PySem PySem.Spec PyProof.Rows L2 L3
section
variable {Ts : List Addr} {X : Cx} {a b : Expr} {wa wb : WE} {pos : Pos}
theorem from_rps {K : PySem.W.Frag} {M : Map} {n : Nat} {H : Hp} (lo : Int) (k : Nat) : RPs K M n H (rngP lo k) (fromV lo k) := by
  have h := RPs.ints (K := K) (M := M) (n := n) (H := H) ((List.range k).map fun (i : Nat) => lo + (i : Int))
  unfold rngP fromV
  rw [List.map_map, List.map_map] at h
  exact h
def wRngT2 (wa wb : WE) : WE := fun τ S Q => wa τ S fun x S1 => wb τ S1 fun y S2 => ∃ i j, x = .int i ∧ y = .int j ∧ 0 ≤ i ∧ i ≤ j ∧ j ≤ 65536 ∧ Q (.tup (rngP i (j - i).toNat)) S2
theorem se_rngT2 {p1 p2 pos2 : Pos} (hc : X.calm = true) (hg1 : Gl X "tuple") (hm1 : X.mg "tuple" = none) (hg2 : Gl X "range") (hm2 : X.mg "range" = none) (ha : SE Ts X a wa) (hb : SE Ts X b wb) (hs : starEach [a, b] X.env = (false, eval a X.env) :: starEach [b] X.env := by rfl) (hs1 : starEach [b] X.env = (false, eval b X.env) :: starEach [] X.env := by rfl)
    (hs2 : starEach [Expr.Call (.Name "range" p2) [a, b] [] pos2] X.env = (false, eval (Expr.Call (.Name "range" p2) [a, b] [] pos2) X.env) :: starEach [] X.env := by rfl) :
    SE Ts X (.Call (.Name "tuple" p1) [.Call (.Name "range" p2) [a, b] [] pos2] [] pos) (wRngT2 wa wb) := by
  have sa := sa_cons ha (sa_cons hb sa_nil hs1) hs
  refine ⟨pe_imp (pe_callTy (call_tup_rng2 hc) hg1 hm1 (by decide +kernel) (pa_cons (pe_callTy call_rng2 hg2 hm2 (by decide +kernel) sa.pa (by decide) (by decide) hs (by rw [hs1]; rfl)) pa_nil hs2) (by decide) (by decide) hs2 (by rfl)) fun σ H Q h => ?_, fun τ S Q Q' q k => ha.mo _ _ _ _ q fun v S1 q => hb.mo _ _ _ _ q fun v2 S2 ⟨i, j, h1, h2, h3, h4, h5, q⟩ => ⟨i, j, h1, h2, h3, h4, h5, k _ _ q⟩⟩
  obtain ⟨M, S, τ, s, st, h⟩ := h
  refine runA sa.mo s st (show wCons wa (wCons wb wNil) τ S (fun vs S2 => ∃ i j, vs = [.int i, .int j] ∧ 0 ≤ i ∧ i ≤ j ∧ j ≤ 65536 ∧ upQ Ts X.K M S.length H Q (.tup (rngP i (j - i).toNat)) S2) from ha.mo _ _ _ _ h fun x S1 q => hb.mo _ _ _ _ q fun y S2 ⟨i, j, h1, h2, h3, h4, h5, q⟩ => ⟨i, j, by rw [h1, h2], h3, h4, h5, q⟩) fun vs S1 M1 H1 us f t1 s1 r1 => ?_
  obtain ⟨i, j, rfl, h3, h4, h5, q⟩ := f
  obtain ⟨u1, u2, rfl, r2, r3⟩ := r1.two
  cases r2; cases r3
  refine ⟨i, j, rfl, fun p hp => ?_⟩
  obtain ⟨s2, t2⟩ := s1.beside (o := .rng i j) hp
  exact ⟨p, i, j, rfl, upd_same, h3, h4, h5, (q.base (t1.trans t2)).tup s2 (from_rps _ _)⟩
end
end L4
set_option Elab.async false
set_option linter.all false
set_option maxRecDepth 100000
namespace L4
open PySem PySem.Spec PyProof.Rows L2 L3
section
variable {P : Program} {w : World} {K : PySem.W.Frag} {mg : Str → Option Value} {base : Heap}
theorem rngP_nats (a n : Nat) : rngP (a : Int) n = (List.range' a n).map natP := by
  rw [rngP_map, List.range'_eq_map_range, List.map_map]
  refine List.map_congr_left fun i _ => ?_
  show PV.int _ = PV.int _
  congr 1
def besN (N O : Net) : Net := ⟨N.w + O.w, N.sw ++ (renN O (List.range' N.w O.w)).sw, N.ord ++ (renN O (List.range' N.w O.w)).ord⟩
def wBeside : WC := ctrF (fun a : Net × Net => [netP a.1, netP a.2]) (fun a _ => Ltn a.2 a.2.w ∧ a.1.w + a.2.w ≤ 16 ∧ a.1.sw.length + a.2.sw.length ≤ 160 ∧ a.1.ord.length ≤ 1000) (fun a => netP (besN a.1 a.2))
abbrev s_beside : Stmt := top 13
theorem sc_beside : FnScope ["one", "other", "width", "switches", "order"] ["one", "other"] (defScope s_beside) := ⟨rfl, rfl, rfl, by decide +kernel, rfl, by decide +kernel, by decide +kernel⟩
set_option maxHeartbeats 1000000 in
theorem ok_beside {f : Addr} {fd : FuncData} (F : Fun K "beside" "beside" s_beside f fd) (T : Tn mg) (D_fitting : DefW Ts P w K mg base "fitting" 1 ["width", "switches", "order"] wFit) (D_named : DefW Ts P w K mg base "named" 1 ["net", "wires"] wNamed) : FnOk P w K mg base CX0 2 f fd ["one", "other"] (spW Ts K wBeside) := by
  refine ok_body (k := 1) F sc_beside (fun pvs S Q h => by obtain ⟨a, rfl, _⟩ := h; rfl) (fun cdv A outer s H E hr => ?_)
  have hu := hu_of hr
  refine ⟨_, (sss_cons (ss_set (i := 2) sc_beside.nd rfl (by first | exact Or.inl rfl | exact Or.inr rfl) (se_op s_add (se_ix hu (sv 0) se_int (fun _ _ => rfl)) (se_ix hu (sv 1) se_int (fun _ _ => rfl))))
      (sss_cons (ss_asg (vs := [3, 4]) (se_def D_named (hr.mono (by first | decide | omega)) (by rfl) (sa_cons (sv 1) (sa_cons (se_rngT2 rfl (by rfl) T.tuple_ (by rfl) T.range_ (se_ix hu (sv 0) se_int (fun _ _ => rfl)) (sv 2)) sa_nil))) (pg_tup (n := 2) rfl (pgs_cons (pg_name (i := 3) sc_beside.nd rfl (by first | exact Or.inl rfl | exact Or.inr rfl)) (pgs_cons (pg_name (i := 4) sc_beside.nd rfl (by first | exact Or.inl rfl | exact Or.inr rfl)) pgs_nil))) (gr_tup (gr_cons (gr_name (i := 3) (by decide)) (gr_cons (gr_name (i := 4) (by decide)) gr_nil))) (mg_tup (mg_cons (mg_name _) (mg_cons (mg_name _) mg_nil))))
      (sss_one (ss_ret (se_def D_fitting (hr.mono (by first | decide | omega)) (by rfl) (sa_cons (sv 2) (sa_cons (se_op s_add (se_ix hu (sv 0) se_int (fun _ _ => rfl)) (sv 3)) (sa_cons (se_op s_add (se_ix hu (sv 0) se_int (fun _ _ => rfl)) (sv 4)) sa_nil)))))))), fun pvs S Q hcl hca h => ?_⟩
  obtain ⟨⟨N, O⟩, rfl, ⟨hn, h1, h2, h3⟩, h⟩ := h
  dsimp only at hn h h1 h2 h3
  simp only [wSeq, wAsg, wRet, wRetN, wDrop, wIfS, wVar, wC, wOp, wCall, wCons, wNil, wTup, wTest, wAnd, wOr, wNot, wAndV, wOrV, wNotV, wIf, wNext, wgName, wgTup, wgCons, wgNil, wFor, wSq, wYes, wLcU, wLcV, wLc, uTuple, uAll, uAny, uSum, wNeg, wSl, wPart, wNoPart, rSlW_tup, rAddW, rI0W, rIW, rMulW, rEqW, rIsW, isNonP, seqW_tup, wLst, wipeW, wPar, wPut, wAug, wZip, wEnum, wRng1, wRng2, wChain, List.getElem?_cons_zero, List.getElem?_cons_succ, List.set_cons_zero, List.set_cons_succ, Option.some.injEq, exists_eq_left', exists_eq_left, exists_and_left, exists_eq_right, exists_eq_right', and_assoc, true_and, and_true, List.cons.injEq, and_self, if_true, if_false, Bool.false_eq_true, PV.int.injEq, PV.bl.injEq, PV.tup.injEq, PV.ref.injEq, PV.str.injEq, Bool.false_xor, Bool.true_xor, List.length_cons, List.length_nil, Nat.reduceAdd, Nat.reduceLeDiff, Nat.reduceEqDiff, Prod.mk.injEq, cutP_map, cutP_0, cutP_1, cutP_2, cutP_all, decide_eq_true_eq, startW, endsW, List.map_cons, List.map_nil, List.cons_append, List.nil_append, List.replicate, Nat.reduceSub, rIxW_tup, rLenW_tup, rListW_tup, wMeth, wRngL, wRngT, rIsiW_eq, tyP_non, tyP_bl, tyP_int, tyP_str, tyP_tup, isi_NoneType_int, isi_NoneType_bool, isi_NoneType_str, isi_NoneType_list, isi_NoneType_tuple, isi_NoneType_dict, isi_bool_int, isi_bool_bool, isi_bool_str, isi_bool_list, isi_bool_tuple, isi_bool_dict, isi_int_int, isi_int_bool, isi_int_str, isi_int_list, isi_int_tuple, isi_int_dict, isi_str_int, isi_str_bool, isi_str_str, isi_str_list, isi_str_tuple, isi_str_dict, isi_tuple_int, isi_tuple_bool, isi_tuple_str, isi_tuple_list, isi_tuple_tuple, isi_tuple_dict, isi_list_int, isi_list_bool, isi_list_str, isi_list_list, isi_list_tuple, isi_list_dict, isi_dict_int, isi_dict_bool, isi_dict_str, isi_dict_list, isi_dict_tuple, isi_dict_dict, decide_true, decide_false, Bool.not_true, Bool.not_false, Bool.not_eq_true', decide_eq_false_iff_not, ite_not, natP, swP, natsP, intsP, atI_0, atI_1, atI_2, atI_3, wLcU2, wLcV2, wTupZip, wZipN, wStep, wRev, wMaxD, wMinD, rInW_ints, netP, wRngT2]
  refine ⟨by omega, by omega, by omega, ?_⟩
  have e : ((N.w : Int) + (O.w : Int) - (N.w : Int)).toNat = O.w := by omega
  rw [e, rngP_nats]
  refine ⟨(O, List.range' N.w O.w), rfl, (by show Ltn O (List.range' N.w O.w).length; rw [List.length_range']; exact hn), ?_⟩
  simp only [wSeq, wAsg, wRet, wRetN, wDrop, wIfS, wVar, wC, wOp, wCall, wCons, wNil, wTup, wTest, wAnd, wOr, wNot, wAndV, wOrV, wNotV, wIf, wNext, wgName, wgTup, wgCons, wgNil, wFor, wSq, wYes, wLcU, wLcV, wLc, uTuple, uAll, uAny, uSum, wNeg, wSl, wPart, wNoPart, rSlW_tup, rAddW, rI0W, rIW, rMulW, rEqW, rIsW, isNonP, seqW_tup, wLst, wipeW, wPar, wPut, wAug, wZip, wEnum, wRng1, wRng2, wChain, List.getElem?_cons_zero, List.getElem?_cons_succ, List.set_cons_zero, List.set_cons_succ, Option.some.injEq, exists_eq_left', exists_eq_left, exists_and_left, exists_eq_right, exists_eq_right', and_assoc, true_and, and_true, List.cons.injEq, and_self, if_true, if_false, Bool.false_eq_true, PV.int.injEq, PV.bl.injEq, PV.tup.injEq, PV.ref.injEq, PV.str.injEq, Bool.false_xor, Bool.true_xor, List.length_cons, List.length_nil, Nat.reduceAdd, Nat.reduceLeDiff, Nat.reduceEqDiff, Prod.mk.injEq, cutP_map, cutP_0, cutP_1, cutP_2, cutP_all, decide_eq_true_eq, startW, endsW, List.map_cons, List.map_nil, List.cons_append, List.nil_append, List.replicate, Nat.reduceSub, rIxW_tup, rLenW_tup, rListW_tup, wMeth, wRngL, wRngT, rIsiW_eq, tyP_non, tyP_bl, tyP_int, tyP_str, tyP_tup, isi_NoneType_int, isi_NoneType_bool, isi_NoneType_str, isi_NoneType_list, isi_NoneType_tuple, isi_NoneType_dict, isi_bool_int, isi_bool_bool, isi_bool_str, isi_bool_list, isi_bool_tuple, isi_bool_dict, isi_int_int, isi_int_bool, isi_int_str, isi_int_list, isi_int_tuple, isi_int_dict, isi_str_int, isi_str_bool, isi_str_str, isi_str_list, isi_str_tuple, isi_str_dict, isi_tuple_int, isi_tuple_bool, isi_tuple_str, isi_tuple_list, isi_tuple_tuple, isi_tuple_dict, isi_list_int, isi_list_bool, isi_list_str, isi_list_list, isi_list_tuple, isi_list_dict, isi_dict_int, isi_dict_bool, isi_dict_str, isi_dict_list, isi_dict_tuple, isi_dict_dict, decide_true, decide_false, Bool.not_true, Bool.not_false, Bool.not_eq_true', decide_eq_false_iff_not, ite_not, natP, swP, natsP, intsP, atI_0, atI_1, atI_2, atI_3, wLcU2, wLcV2, wTupZip, wZipN, wStep, wRev, wMaxD, wMinD, rInW_ints, netP]
  have l : (renN O (List.range' N.w O.w)).sw.length = O.sw.length := by simp [renN]
  have l3 : (renN O (List.range' N.w O.w)).ord.length = O.ord.length := by simp [renN]
  have l4 := hn.l2
  refine ⟨by rw [List.length_map, List.length_map, l]; omega, by rw [List.length_map, List.length_map, l3]; omega, ⟨(N.w + O.w, N.sw.map swP ++ (renN O (List.range' N.w O.w)).sw.map swP, .tup (N.ord.map natP ++ (renN O (List.range' N.w O.w)).ord.map natP)), rfl, ⟨h1, by dsimp only; rw [List.length_append, List.length_map, List.length_map, l]; exact h2⟩, fg_here ?_⟩⟩
  simpa [netP, besN, natsP, List.map_append] using h
end
end L4
set_option Elab.async false
set_option linter.all false
set_option maxRecDepth 100000
namespace L4
open PySem PySem.Spec PyProof.Rows L2 L3
theorem swAt_of' {sw : List (Nat × Nat)} {i : Nat} {s : Nat × Nat} (h : sw[i]? = some s) : swAt sw i = s := by
  unfold swAt
  rw [List.getD_eq_getElem?_getD, h]; rfl
def nlP (sw : List (Nat × Nat)) (w i : Nat) : List PV := (List.range w).map fun x => natP (nlM sw i x)
theorem nlP_get {sw : List (Nat × Nat)} {w i x : Nat} (h : x < w) : (nlP sw w i)[x]? = some (natP (nlM sw i x)) := by simp [nlP, h]
theorem nlP_len (sw : List (Nat × Nat)) (w i : Nat) : (nlP sw w i).length = w := by simp [nlP]
theorem nlP_set {sw : List (Nat × Nat)} {i w : Nat} (h1 : (swAt sw i).1 < w) (h2 : (swAt sw i).2 < w) : ((nlP sw w i).set (swAt sw i).1 (natP (atM sw i + 1))).set (swAt sw i).2 (natP (atM sw i + 1)) = nlP sw w (i + 1) := by
  apply List.ext_getElem
  · simp [nlP]
  · intro x q1 q2
    have hx : x < w := by simpa [nlP] using q2
    rw [List.getElem_set, List.getElem_set]
    simp only [nlP, List.getElem_map, List.getElem_range, nlM_succ]
    by_cases e2 : (swAt sw i).2 = x
    · rw [if_pos e2, if_pos (.inr e2.symm)]
    · rw [if_neg e2]
      by_cases e1 : (swAt sw i).1 = x
      · rw [if_pos e1, if_pos (.inl e1.symm)]
      · rw [if_neg e1, if_neg (fun z => by rcases z with z | z; exact e1 z.symm; exact e2 z.symm)]
theorem nlP_0 (sw : List (Nat × Nat)) (w : Nat) : (List.replicate w [PV.int 0]).flatten = nlP sw w 0 := by
  have h : (List.replicate w [PV.int 0]).flatten = List.replicate w (PV.int 0) := by rw [List.flatten_replicate_singleton]
  rw [h]
  apply List.ext_getElem
  · simp [nlP]
  · intro x h1 h2
    simp [nlP, nlM, natP]
def rowO (sw : List (Nat × Nat)) (i l : Nat) : Ob := .lst ((L3.rowM sw i l).map natP)
def refsP (b d : Nat) : List PV := (List.range d).map fun l => PV.ref (b + 3 + l)
def layG (b : Nat) (sw : List (Nat × Nat)) (w i d : Nat) : Sto := .lst [.int 0] :: .lst (nlP sw w i) :: .lst (refsP b d) :: (List.range d).map (rowO sw i)
theorem refsP_len (b d : Nat) : (refsP b d).length = d := by simp [refsP]
theorem refsP_get {b d l : Nat} (h : l < d) : (refsP b d)[l]? = some (.ref (b + 3 + l)) := by simp [refsP, h]
theorem refsP_succ (b d : Nat) : refsP b (d + 1) = refsP b d ++ [.ref (b + 3 + d)] := by simp [refsP, List.range_succ]
theorem layG_len (b : Nat) (sw : List (Nat × Nat)) (w i d : Nat) : (layG b sw w i d).length = 3 + d := by simp [layG]; omega
theorem layG_row {b : Nat} {sw : List (Nat × Nat)} {w i d l : Nat} (h : l < d) : (layG b sw w i d)[3 + l]? = some (rowO sw i l) := by
  rw [show 3 + l = l + 1 + 1 + 1 by omega]
  simp [layG, h]
theorem layG_rows {sw : List (Nat × Nat)} {i d : Nat} (h : atM sw i < d) : ((List.range d).map (rowO sw i)).set (atM sw i) (.lst ((L3.rowM sw i (atM sw i)).map natP ++ [natP i])) = (List.range d).map (rowO sw (i + 1)) := by
  apply List.ext_getElem
  · simp
  · intro l h1 h2
    rw [List.getElem_set]
    simp only [List.getElem_map, List.getElem_range, rowO, rowM_succ]
    by_cases e : atM sw i = l
    · rw [if_pos e, if_pos e, List.map_append, e]; rfl
    · rw [if_neg e, if_neg e]
section
variable {P : Program} {w : World} {K : PySem.W.Frag} {mg : Str → Option Value} {base : Heap}
def wLayers : WC := fun vs S Q => ∃ N : Net, vs = [netP N] ∧ (N.w ≤ 16 ∧ (∀ s ∈ N.sw, s.1 < N.w ∧ s.2 < N.w) ∧ N.sw.length ≤ 1000) ∧ Q (.ref (S.length + 2)) (S ++ layG S.length N.sw N.w N.sw.length (dpM N.sw N.sw.length))
theorem mo_layers : MoC wLayers := fun xs S Q Q' ⟨N, e, h1, q⟩ k => ⟨N, e, h1, k _ _ q⟩
abbrev s_layers : Stmt := top 3
theorem sc_layers : FnScope ["net", "width", "switches", "order", "next_layer", "told", "number", "a", "b", "layer"] ["net"] (defScope s_layers) := ⟨rfl, rfl, rfl, by decide +kernel, rfl, by decide +kernel, by decide +kernel⟩
set_option maxHeartbeats 1000000 in
theorem ok_layers {f : Addr} {fd : FuncData} (F : Fun K "layers" "layers" s_layers f fd) (T : Tn mg)  : FnOk P w K mg base CX0 1 f fd ["net"] (spW Ts K wLayers) := by
  refine ok_body (k := 0) F sc_layers (fun pvs S Q h => by obtain ⟨a, rfl, _⟩ := h; rfl) (fun cdv A outer s H E hr => ?_)
  have hu := hu_of hr
  refine ⟨_, (sss_cons (ss_asg (vs := [1, 2, 3]) (sv 0) (pg_tup (n := 3) rfl (pgs_cons (pg_name (i := 1) sc_layers.nd rfl (by first | exact Or.inl rfl | exact Or.inr rfl)) (pgs_cons (pg_name (i := 2) sc_layers.nd rfl (by first | exact Or.inl rfl | exact Or.inr rfl)) (pgs_cons (pg_name (i := 3) sc_layers.nd rfl (by first | exact Or.inl rfl | exact Or.inr rfl)) pgs_nil)))) (gr_tup (gr_cons (gr_name (i := 1) (by decide)) (gr_cons (gr_name (i := 2) (by decide)) (gr_cons (gr_name (i := 3) (by decide)) gr_nil)))) (mg_tup (mg_cons (mg_name _) (mg_cons (mg_name _) (mg_cons (mg_name _) mg_nil)))))
      (sss_cons (ss_set (i := 4) sc_layers.nd rfl (by first | exact Or.inl rfl | exact Or.inr rfl) (se_op s_mul (se_lst (sa_cons se_int sa_nil)) (sv 1)))
      (sss_cons (ss_set (i := 5) sc_layers.nd rfl (by first | exact Or.inl rfl | exact Or.inr rfl) (se_lst sa_nil))
      (sss_cons (ss_for (vs := [6, 7, 8]) PassesOwn.never rfl (si_enum (by rfl) T.enumerate_ (sa_cons (sv 2) sa_nil)) (pg_tup (n := 2) rfl (pgs_cons (pg_name (i := 6) sc_layers.nd rfl (by first | exact Or.inl rfl | exact Or.inr rfl)) (pgs_cons (pg_tup (n := 2) rfl (pgs_cons (pg_name (i := 7) sc_layers.nd rfl (by first | exact Or.inl rfl | exact Or.inr rfl)) (pgs_cons (pg_name (i := 8) sc_layers.nd rfl (by first | exact Or.inl rfl | exact Or.inr rfl)) pgs_nil))) pgs_nil))) (gr_tup (gr_cons (gr_name (i := 6) (by decide)) (gr_cons (gr_tup (gr_cons (gr_name (i := 7) (by decide)) (gr_cons (gr_name (i := 8) (by decide)) gr_nil))) gr_nil))) (mg_tup (mg_cons (mg_name _) (mg_cons (mg_tup (mg_cons (mg_name _) (mg_cons (mg_name _) mg_nil))) mg_nil))) (sss_cons (ss_set (i := 9) sc_layers.nd rfl (by first | exact Or.inl rfl | exact Or.inr rfl) (se_callB (c_max2 rfl) (by rfl) T.max_ (by decide +kernel) (sa_cons (se_ix hu (sv 4) (sv 7) (fun _ _ => rfl)) (sa_cons (se_ix hu (sv 4) (sv 8) (fun _ _ => rfl)) sa_nil))))
      (sss_cons (ss_cut (ss_if (st_cmp (s_eq hr.units) (sv 9) (se_callB c_len (by rfl) T.len_ (by decide +kernel) (sa_cons (sv 5) sa_nil)) (nomark _)) (sss_one (ss_expr (se_bm PySem.F.plainAttrs_list PySem.F.slot_list_append PySem.F.type_list_append m_append (sv 5) (sa_cons (se_lst sa_nil) sa_nil)))) sss_nil))
      (sss_cons (ss_expr (se_bm PySem.F.plainAttrs_list PySem.F.slot_list_append PySem.F.type_list_append m_append (se_ix hu (sv 5) (sv 9) (fun _ _ => rfl)) (sa_cons (sv 6) sa_nil)))
      (sss_cons (ss_put hu (sv 4) (sv 7) (se_op s_add (sv 9) se_int))
      (sss_one (ss_put hu (sv 4) (sv 8) (se_op s_add (sv 9) se_int))))))))
      (sss_one (ss_ret (sv 5))))))), fun pvs S Q hcl hca h => ?_⟩
  obtain ⟨N, rfl, ⟨hw, hs, hl⟩, h⟩ := h
  simp only [wSeq, wAsg, wRet, wRetN, wDrop, wIfS, wVar, wC, wOp, wCall, wCons, wNil, wTup, wTest, wAnd, wOr, wNot, wAndV, wOrV, wNotV, wIf, wNext, wgName, wgTup, wgCons, wgNil, wFor, wSq, wYes, wLcU, wLcV, wLc, uTuple, uAll, uAny, uSum, wNeg, wSl, wPart, wNoPart, rSlW_tup, isNonP, seqW_tup, wLst, wipeW, wPar, wPut, wAug, wZip, wEnum, wRng1, wRng2, wChain, List.getElem?_cons_zero, List.getElem?_cons_succ, List.set_cons_zero, List.set_cons_succ, Option.some.injEq, exists_eq_left', exists_eq_left, exists_and_left, exists_eq_right, exists_eq_right', and_assoc, true_and, and_true, List.cons.injEq, and_self, if_true, if_false, Bool.false_eq_true, PV.int.injEq, PV.bl.injEq, PV.tup.injEq, PV.ref.injEq, PV.str.injEq, Bool.false_xor, Bool.true_xor, List.length_cons, List.length_nil, Nat.reduceAdd, Nat.reduceLeDiff, Nat.reduceEqDiff, Prod.mk.injEq, cutP_map, cutP_0, cutP_1, cutP_2, cutP_all, decide_eq_true_eq, startW, endsW, List.map_cons, List.map_nil, List.cons_append, List.nil_append, List.replicate, Nat.reduceSub, rIxW_tup, rLenW_tup, rListW_tup, wMeth, wRngL, wRngT, rIsiW_eq, tyP_non, tyP_bl, tyP_int, tyP_str, tyP_tup, isi_NoneType_int, isi_NoneType_bool, isi_NoneType_str, isi_NoneType_list, isi_NoneType_tuple, isi_NoneType_dict, isi_bool_int, isi_bool_bool, isi_bool_str, isi_bool_list, isi_bool_tuple, isi_bool_dict, isi_int_int, isi_int_bool, isi_int_str, isi_int_list, isi_int_tuple, isi_int_dict, isi_str_int, isi_str_bool, isi_str_str, isi_str_list, isi_str_tuple, isi_str_dict, isi_tuple_int, isi_tuple_bool, isi_tuple_str, isi_tuple_list, isi_tuple_tuple, isi_tuple_dict, isi_list_int, isi_list_bool, isi_list_str, isi_list_list, isi_list_tuple, isi_list_dict, isi_dict_int, isi_dict_bool, isi_dict_str, isi_dict_list, isi_dict_tuple, isi_dict_dict, decide_true, decide_false, Bool.not_true, Bool.not_false, Bool.not_eq_true', decide_eq_false_iff_not, ite_not, natP, swP, natsP, intsP, atI_0, atI_1, atI_2, atI_3, wLcU2, wLcV2, wTupZip, wZipN, wStep, wRev, wMaxD, wMinD, rInW_ints, rEqW_ii, rEqW_bb, rEqW_ss, rIsW_n, rIsW_bb, rAddW_ii, rAddW_ss, rAddW_tt, rIW_ii, rI0W_ii, rMulW_ii, rMulW_ti, rIntW_i, rIntW_b, rMax2W_ii, rMin2W_ii, netP]
  rw [rMulW_li (get_new1 S _), Int.toNat_natCast]
  refine ⟨by omega, by omega, by simp only [List.length_cons, List.length_nil]; omega, ?_⟩
  rw [nlP_0 N.sw]
  have e0 : ((S ++ [Ob.lst [PV.int 0]]) ++ [Ob.lst (nlP N.sw N.w 0)]) ++ [Ob.lst []] = S ++ layG S.length N.sw N.w 0 0 := by simp [layG, refsP]
  have e1 : List.length (S ++ [Ob.lst [PV.int 0]]) = S.length + 1 := by simp
  have e2 : List.length (S ++ [Ob.lst [PV.int 0]] ++ [Ob.lst (nlP N.sw N.w 0)]) = S.length + 2 := by simp
  simp only [wSeq, wAsg, wRet, wRetN, wDrop, wIfS, wVar, wC, wOp, wCall, wCons, wNil, wTup, wTest, wAnd, wOr, wNot, wAndV, wOrV, wNotV, wIf, wNext, wgName, wgTup, wgCons, wgNil, wFor, wSq, wYes, wLcU, wLcV, wLc, uTuple, uAll, uAny, uSum, wNeg, wSl, wPart, wNoPart, rSlW_tup, isNonP, seqW_tup, wLst, wipeW, wPar, wPut, wAug, wZip, wEnum, wRng1, wRng2, wChain, List.getElem?_cons_zero, List.getElem?_cons_succ, List.set_cons_zero, List.set_cons_succ, Option.some.injEq, exists_eq_left', exists_eq_left, exists_and_left, exists_eq_right, exists_eq_right', and_assoc, true_and, and_true, List.cons.injEq, and_self, if_true, if_false, Bool.false_eq_true, PV.int.injEq, PV.bl.injEq, PV.tup.injEq, PV.ref.injEq, PV.str.injEq, Bool.false_xor, Bool.true_xor, List.length_cons, List.length_nil, Nat.reduceAdd, Nat.reduceLeDiff, Nat.reduceEqDiff, Prod.mk.injEq, cutP_map, cutP_0, cutP_1, cutP_2, cutP_all, decide_eq_true_eq, startW, endsW, List.map_cons, List.map_nil, List.cons_append, List.nil_append, List.replicate, Nat.reduceSub, rIxW_tup, rLenW_tup, rListW_tup, wMeth, wRngL, wRngT, rIsiW_eq, tyP_non, tyP_bl, tyP_int, tyP_str, tyP_tup, isi_NoneType_int, isi_NoneType_bool, isi_NoneType_str, isi_NoneType_list, isi_NoneType_tuple, isi_NoneType_dict, isi_bool_int, isi_bool_bool, isi_bool_str, isi_bool_list, isi_bool_tuple, isi_bool_dict, isi_int_int, isi_int_bool, isi_int_str, isi_int_list, isi_int_tuple, isi_int_dict, isi_str_int, isi_str_bool, isi_str_str, isi_str_list, isi_str_tuple, isi_str_dict, isi_tuple_int, isi_tuple_bool, isi_tuple_str, isi_tuple_list, isi_tuple_tuple, isi_tuple_dict, isi_list_int, isi_list_bool, isi_list_str, isi_list_list, isi_list_tuple, isi_list_dict, isi_dict_int, isi_dict_bool, isi_dict_str, isi_dict_list, isi_dict_tuple, isi_dict_dict, decide_true, decide_false, Bool.not_true, Bool.not_false, Bool.not_eq_true', decide_eq_false_iff_not, ite_not, natP, swP, natsP, intsP, atI_0, atI_1, atI_2, atI_3, wLcU2, wLcV2, wTupZip, wZipN, wStep, wRev, wMaxD, wMinD, rInW_ints, rEqW_ii, rEqW_bb, rEqW_ss, rIsW_n, rIsW_bb, rAddW_ii, rAddW_ss, rAddW_tt, rIW_ii, rI0W_ii, rMulW_ii, rMulW_ti, rIntW_i, rIntW_b, rMax2W_ii, rMin2W_ii, e0, e1, e2]
  rw [enumP_map]
  refine loop_map (fun i τ' S' => (∃ x6 x7 x8 x9, τ' = [some (PV.tup [PV.int ↑N.w, PV.tup (List.map swP N.sw), PV.tup (List.map natP N.ord)]), some (PV.int ↑N.w), some (PV.tup (List.map swP N.sw)), some (PV.tup (List.map natP N.ord)), some (PV.ref (S.length + 1)), some (PV.ref (S.length + 2)), x6, x7, x8, x9]) ∧ S' = S ++ layG S.length N.sw N.w i (dpM N.sw i)) ⟨⟨_, _, _, _, rfl⟩, rfl⟩ ?_ ?_
  · rintro i ⟨sp, j⟩ τ' S' R hi ⟨⟨x6, x7, x8, x9, rfl⟩, rfl⟩ hR
    obtain ⟨hj, hsp⟩ : i = j ∧ N.sw[i]? = some sp := by
      rw [List.getElem?_zipIdx] at hi
      cases q : N.sw[i]? with
      | none => rw [q] at hi; cases hi
      | some z => rw [q] at hi; cases hi; exact ⟨by simp, rfl⟩
    subst j
    have hil : i < N.sw.length := (List.getElem?_eq_some_iff.mp hsp).1
    have esp := swAt_of' hsp
    obtain ⟨ha, hb⟩ := hs sp (List.mem_of_getElem? hsp)
    have had := at_dp N.sw i
    have hdl := dp_le N.sw i
    have gN : (S ++ layG S.length N.sw N.w i (dpM N.sw i))[S.length + 1]? = some (.lst (nlP N.sw N.w i)) := get_off
    have gT : (S ++ layG S.length N.sw N.w i (dpM N.sw i))[S.length + 2]? = some (.lst (refsP S.length (dpM N.sw i))) := get_off
    refine ⟨trivial, ?_⟩
    simp only [wSeq, wAsg, wRet, wRetN, wDrop, wIfS, wVar, wC, wOp, wCall, wCons, wNil, wTup, wTest, wAnd, wOr, wNot, wAndV, wOrV, wNotV, wIf, wNext, wgName, wgTup, wgCons, wgNil, wFor, wSq, wYes, wLcU, wLcV, wLc, uTuple, uAll, uAny, uSum, wNeg, wSl, wPart, wNoPart, rSlW_tup, isNonP, seqW_tup, wLst, wipeW, wPar, wPut, wAug, wZip, wEnum, wRng1, wRng2, wChain, List.getElem?_cons_zero, List.getElem?_cons_succ, List.set_cons_zero, List.set_cons_succ, Option.some.injEq, exists_eq_left', exists_eq_left, exists_and_left, exists_eq_right, exists_eq_right', and_assoc, true_and, and_true, List.cons.injEq, and_self, if_true, if_false, Bool.false_eq_true, PV.int.injEq, PV.bl.injEq, PV.tup.injEq, PV.ref.injEq, PV.str.injEq, Bool.false_xor, Bool.true_xor, List.length_cons, List.length_nil, Nat.reduceAdd, Nat.reduceLeDiff, Nat.reduceEqDiff, Prod.mk.injEq, cutP_map, cutP_0, cutP_1, cutP_2, cutP_all, decide_eq_true_eq, startW, endsW, List.map_cons, List.map_nil, List.cons_append, List.nil_append, List.replicate, Nat.reduceSub, rIxW_tup, rLenW_tup, rListW_tup, wMeth, wRngL, wRngT, rIsiW_eq, tyP_non, tyP_bl, tyP_int, tyP_str, tyP_tup, isi_NoneType_int, isi_NoneType_bool, isi_NoneType_str, isi_NoneType_list, isi_NoneType_tuple, isi_NoneType_dict, isi_bool_int, isi_bool_bool, isi_bool_str, isi_bool_list, isi_bool_tuple, isi_bool_dict, isi_int_int, isi_int_bool, isi_int_str, isi_int_list, isi_int_tuple, isi_int_dict, isi_str_int, isi_str_bool, isi_str_str, isi_str_list, isi_str_tuple, isi_str_dict, isi_tuple_int, isi_tuple_bool, isi_tuple_str, isi_tuple_list, isi_tuple_tuple, isi_tuple_dict, isi_list_int, isi_list_bool, isi_list_str, isi_list_list, isi_list_tuple, isi_list_dict, isi_dict_int, isi_dict_bool, isi_dict_str, isi_dict_list, isi_dict_tuple, isi_dict_dict, decide_true, decide_false, Bool.not_true, Bool.not_false, Bool.not_eq_true', decide_eq_false_iff_not, ite_not, natP, swP, natsP, intsP, atI_0, atI_1, atI_2, atI_3, wLcU2, wLcV2, wTupZip, wZipN, wStep, wRev, wMaxD, wMinD, rInW_ints, rEqW_ii, rEqW_bb, rEqW_ss, rIsW_n, rIsW_bb, rAddW_ii, rAddW_ss, rAddW_tt, rIW_ii, rI0W_ii, rMulW_ii, rMulW_ti, rIntW_i, rIntW_b, rMax2W_ii, rMin2W_ii, (rIxW_lst gN)]
    refine ⟨_, atI_nat' (nlP_get ha), _, atI_nat' (nlP_get hb), ?_⟩
    have em : (if (nlM N.sw i sp.2 : Int) > (nlM N.sw i sp.1 : Int) then (nlM N.sw i sp.2 : Int) else (nlM N.sw i sp.1 : Int)) = ((atM N.sw i : Nat) : Int) := by
      unfold atM; rw [esp]; split <;> omega
    simp only [wSeq, wAsg, wRet, wRetN, wDrop, wIfS, wVar, wC, wOp, wCall, wCons, wNil, wTup, wTest, wAnd, wOr, wNot, wAndV, wOrV, wNotV, wIf, wNext, wgName, wgTup, wgCons, wgNil, wFor, wSq, wYes, wLcU, wLcV, wLc, uTuple, uAll, uAny, uSum, wNeg, wSl, wPart, wNoPart, rSlW_tup, isNonP, seqW_tup, wLst, wipeW, wPar, wPut, wAug, wZip, wEnum, wRng1, wRng2, wChain, List.getElem?_cons_zero, List.getElem?_cons_succ, List.set_cons_zero, List.set_cons_succ, Option.some.injEq, exists_eq_left', exists_eq_left, exists_and_left, exists_eq_right, exists_eq_right', and_assoc, true_and, and_true, List.cons.injEq, and_self, if_true, if_false, Bool.false_eq_true, PV.int.injEq, PV.bl.injEq, PV.tup.injEq, PV.ref.injEq, PV.str.injEq, Bool.false_xor, Bool.true_xor, List.length_cons, List.length_nil, Nat.reduceAdd, Nat.reduceLeDiff, Nat.reduceEqDiff, Prod.mk.injEq, cutP_map, cutP_0, cutP_1, cutP_2, cutP_all, decide_eq_true_eq, startW, endsW, List.map_cons, List.map_nil, List.cons_append, List.nil_append, List.replicate, Nat.reduceSub, rIxW_tup, rLenW_tup, rListW_tup, wMeth, wRngL, wRngT, rIsiW_eq, tyP_non, tyP_bl, tyP_int, tyP_str, tyP_tup, isi_NoneType_int, isi_NoneType_bool, isi_NoneType_str, isi_NoneType_list, isi_NoneType_tuple, isi_NoneType_dict, isi_bool_int, isi_bool_bool, isi_bool_str, isi_bool_list, isi_bool_tuple, isi_bool_dict, isi_int_int, isi_int_bool, isi_int_str, isi_int_list, isi_int_tuple, isi_int_dict, isi_str_int, isi_str_bool, isi_str_str, isi_str_list, isi_str_tuple, isi_str_dict, isi_tuple_int, isi_tuple_bool, isi_tuple_str, isi_tuple_list, isi_tuple_tuple, isi_tuple_dict, isi_list_int, isi_list_bool, isi_list_str, isi_list_list, isi_list_tuple, isi_list_dict, isi_dict_int, isi_dict_bool, isi_dict_str, isi_dict_list, isi_dict_tuple, isi_dict_dict, decide_true, decide_false, Bool.not_true, Bool.not_false, Bool.not_eq_true', decide_eq_false_iff_not, ite_not, natP, swP, natsP, intsP, atI_0, atI_1, atI_2, atI_3, wLcU2, wLcV2, wTupZip, wZipN, wStep, wRev, wMaxD, wMinD, rInW_ints, rEqW_ii, rEqW_bb, rEqW_ss, rIsW_n, rIsW_bb, rAddW_ii, rAddW_ss, rAddW_tt, rIW_ii, rI0W_ii, rMulW_ii, rMulW_ti, rIntW_i, rIntW_b, rMax2W_ii, rMin2W_ii, em]
    refine ⟨fun τ' S' => τ' = [some (PV.tup [PV.int ↑N.w, PV.tup (List.map swP N.sw), PV.tup (List.map natP N.ord)]), some (PV.int ↑N.w), some (PV.tup (List.map swP N.sw)), some (PV.tup (List.map natP N.ord)), some (PV.ref (S.length + 1)), some (PV.ref (S.length + 2)), some (PV.int i), some (PV.int sp.1), some (PV.int sp.2), some (PV.int (atM N.sw i : Nat))] ∧ S' = S ++ layG S.length N.sw N.w i (dpM N.sw (i + 1)), ?_, ?_⟩
    · simp only [wSeq, wAsg, wRet, wRetN, wDrop, wIfS, wVar, wC, wOp, wCall, wCons, wNil, wTup, wTest, wAnd, wOr, wNot, wAndV, wOrV, wNotV, wIf, wNext, wgName, wgTup, wgCons, wgNil, wFor, wSq, wYes, wLcU, wLcV, wLc, uTuple, uAll, uAny, uSum, wNeg, wSl, wPart, wNoPart, rSlW_tup, isNonP, seqW_tup, wLst, wipeW, wPar, wPut, wAug, wZip, wEnum, wRng1, wRng2, wChain, List.getElem?_cons_zero, List.getElem?_cons_succ, List.set_cons_zero, List.set_cons_succ, Option.some.injEq, exists_eq_left', exists_eq_left, exists_and_left, exists_eq_right, exists_eq_right', and_assoc, true_and, and_true, List.cons.injEq, and_self, if_true, if_false, Bool.false_eq_true, PV.int.injEq, PV.bl.injEq, PV.tup.injEq, PV.ref.injEq, PV.str.injEq, Bool.false_xor, Bool.true_xor, List.length_cons, List.length_nil, Nat.reduceAdd, Nat.reduceLeDiff, Nat.reduceEqDiff, Prod.mk.injEq, cutP_map, cutP_0, cutP_1, cutP_2, cutP_all, decide_eq_true_eq, startW, endsW, List.map_cons, List.map_nil, List.cons_append, List.nil_append, List.replicate, Nat.reduceSub, rIxW_tup, rLenW_tup, rListW_tup, wMeth, wRngL, wRngT, rIsiW_eq, tyP_non, tyP_bl, tyP_int, tyP_str, tyP_tup, isi_NoneType_int, isi_NoneType_bool, isi_NoneType_str, isi_NoneType_list, isi_NoneType_tuple, isi_NoneType_dict, isi_bool_int, isi_bool_bool, isi_bool_str, isi_bool_list, isi_bool_tuple, isi_bool_dict, isi_int_int, isi_int_bool, isi_int_str, isi_int_list, isi_int_tuple, isi_int_dict, isi_str_int, isi_str_bool, isi_str_str, isi_str_list, isi_str_tuple, isi_str_dict, isi_tuple_int, isi_tuple_bool, isi_tuple_str, isi_tuple_list, isi_tuple_tuple, isi_tuple_dict, isi_list_int, isi_list_bool, isi_list_str, isi_list_list, isi_list_tuple, isi_list_dict, isi_dict_int, isi_dict_bool, isi_dict_str, isi_dict_list, isi_dict_tuple, isi_dict_dict, decide_true, decide_false, Bool.not_true, Bool.not_false, Bool.not_eq_true', decide_eq_false_iff_not, ite_not, natP, swP, natsP, intsP, atI_0, atI_1, atI_2, atI_3, wLcU2, wLcV2, wTupZip, wZipN, wStep, wRev, wMaxD, wMinD, rInW_ints, rEqW_ii, rEqW_bb, rEqW_ss, rIsW_n, rIsW_bb, rAddW_ii, rAddW_ss, rAddW_tt, rIW_ii, rI0W_ii, rMulW_ii, rMulW_ti, rIntW_i, rIntW_b, rMax2W_ii, rMin2W_ii, (rLenW_lst gT), refsP_len]
      by_cases c : atM N.sw i = dpM N.sw i
      · rw [if_pos (by omega)]
        have dn : dpM N.sw (i + 1) = dpM N.sw i + 1 := by show max (dpM N.sw i) (atM N.sw i + 1) = _; omega
        have gT2 : ((S ++ layG S.length N.sw N.w i (dpM N.sw i)) ++ [Ob.lst []])[S.length + 2]? = some (.lst (refsP S.length (dpM N.sw i))) := get_app gT
        have el : List.length (S ++ layG S.length N.sw N.w i (dpM N.sw i)) = S.length + 3 + dpM N.sw i := by rw [len_off, layG_len]; omega
        rw [tyW_lst gT, rAppendW_lst gT2]
        refine ⟨trivial, by rw [refsP_len]; omega, ?_⟩
        rw [el, ← refsP_succ, dn, List.append_assoc, set_off]
        have er : rowO N.sw i (dpM N.sw i) = .lst [] := by unfold rowO; rw [rowM_new N.sw i _ (Nat.le_refl _)]; rfl
        simp [layG, List.range_succ, er]
      · rw [if_neg (by omega)]
        have dn : dpM N.sw (i + 1) = dpM N.sw i := by show max (dpM N.sw i) (atM N.sw i + 1) = _; omega
        rw [dn]
    · rintro τ' S' ⟨rfl, rfl⟩
      have hlt : atM N.sw i < dpM N.sw (i + 1) := by show _ < max (dpM N.sw i) (atM N.sw i + 1); omega
      have gT' : (S ++ layG S.length N.sw N.w i (dpM N.sw (i + 1)))[S.length + 2]? = some (.lst (refsP S.length (dpM N.sw (i + 1)))) := get_off
      have gR : (S ++ layG S.length N.sw N.w i (dpM N.sw (i + 1)))[S.length + 3 + atM N.sw i]? = some (rowO N.sw i (atM N.sw i)) := by rw [Nat.add_assoc, get_off, layG_row hlt]
      simp only [wSeq, wAsg, wRet, wRetN, wDrop, wIfS, wVar, wC, wOp, wCall, wCons, wNil, wTup, wTest, wAnd, wOr, wNot, wAndV, wOrV, wNotV, wIf, wNext, wgName, wgTup, wgCons, wgNil, wFor, wSq, wYes, wLcU, wLcV, wLc, uTuple, uAll, uAny, uSum, wNeg, wSl, wPart, wNoPart, rSlW_tup, isNonP, seqW_tup, wLst, wipeW, wPar, wPut, wAug, wZip, wEnum, wRng1, wRng2, wChain, List.getElem?_cons_zero, List.getElem?_cons_succ, List.set_cons_zero, List.set_cons_succ, Option.some.injEq, exists_eq_left', exists_eq_left, exists_and_left, exists_eq_right, exists_eq_right', and_assoc, true_and, and_true, List.cons.injEq, and_self, if_true, if_false, Bool.false_eq_true, PV.int.injEq, PV.bl.injEq, PV.tup.injEq, PV.ref.injEq, PV.str.injEq, Bool.false_xor, Bool.true_xor, List.length_cons, List.length_nil, Nat.reduceAdd, Nat.reduceLeDiff, Nat.reduceEqDiff, Prod.mk.injEq, cutP_map, cutP_0, cutP_1, cutP_2, cutP_all, decide_eq_true_eq, startW, endsW, List.map_cons, List.map_nil, List.cons_append, List.nil_append, List.replicate, Nat.reduceSub, rIxW_tup, rLenW_tup, rListW_tup, wMeth, wRngL, wRngT, rIsiW_eq, tyP_non, tyP_bl, tyP_int, tyP_str, tyP_tup, isi_NoneType_int, isi_NoneType_bool, isi_NoneType_str, isi_NoneType_list, isi_NoneType_tuple, isi_NoneType_dict, isi_bool_int, isi_bool_bool, isi_bool_str, isi_bool_list, isi_bool_tuple, isi_bool_dict, isi_int_int, isi_int_bool, isi_int_str, isi_int_list, isi_int_tuple, isi_int_dict, isi_str_int, isi_str_bool, isi_str_str, isi_str_list, isi_str_tuple, isi_str_dict, isi_tuple_int, isi_tuple_bool, isi_tuple_str, isi_tuple_list, isi_tuple_tuple, isi_tuple_dict, isi_list_int, isi_list_bool, isi_list_str, isi_list_list, isi_list_tuple, isi_list_dict, isi_dict_int, isi_dict_bool, isi_dict_str, isi_dict_list, isi_dict_tuple, isi_dict_dict, decide_true, decide_false, Bool.not_true, Bool.not_false, Bool.not_eq_true', decide_eq_false_iff_not, ite_not, natP, swP, natsP, intsP, atI_0, atI_1, atI_2, atI_3, wLcU2, wLcV2, wTupZip, wZipN, wStep, wRev, wMaxD, wMinD, rInW_ints, rEqW_ii, rEqW_bb, rEqW_ss, rIsW_n, rIsW_bb, rAddW_ii, rAddW_ss, rAddW_tt, rIW_ii, rI0W_ii, rMulW_ii, rMulW_ti, rIntW_i, rIntW_b, rMax2W_ii, rMin2W_ii, (rIxW_lst gT')]
      have rl := rowM_len N.sw i (atM N.sw i)
      refine ⟨_, atI_nat' (refsP_get hlt), ?_⟩
      rw [tyW_lst gR, rAppendW_lst gR]
      refine ⟨trivial, by rw [List.length_map]; omega, ?_⟩
      have e3 : (S ++ layG S.length N.sw N.w i (dpM N.sw (i + 1))).set (S.length + 3 + atM N.sw i) (.lst ((L3.rowM N.sw i (atM N.sw i)).map natP ++ [PV.int i])) = S ++ (.lst [.int 0] :: .lst (nlP N.sw N.w i) :: .lst (refsP S.length (dpM N.sw (i + 1))) :: (List.range (dpM N.sw (i + 1))).map (rowO N.sw (i + 1))) := by
        rw [Nat.add_assoc, set_off, ← layG_rows hlt, show 3 + atM N.sw i = atM N.sw i + 1 + 1 + 1 by omega]
        rfl
      rw [e3]
      refine put_lst' (i := sp.1) (xs := nlP N.sw N.w i) get_off (by rw [nlP_len]; exact ha) ?_
      rw [set_off]
      refine put_lst' (i := sp.2) (xs := (nlP N.sw N.w i).set sp.1 (PV.int (↑(atM N.sw i) + 1))) get_off (by rw [List.length_set, nlP_len]; exact hb) ?_
      rw [set_off]
      refine hR _ _ ⟨⟨_, _, _, _, rfl⟩, ?_⟩
      have ns := nlP_set (sw := N.sw) (i := i) (w := N.w) (by rw [esp]; exact ha) (by rw [esp]; exact hb)
      rw [esp] at ns
      rw [layG, ← ns]
      rfl
  · rintro τ' S' ⟨⟨x6, x7, x8, x9, rfl⟩, rfl⟩
    refine ⟨trivial, ?_⟩
    simp only [wSeq, wAsg, wRet, wRetN, wDrop, wIfS, wVar, wC, wOp, wCall, wCons, wNil, wTup, wTest, wAnd, wOr, wNot, wAndV, wOrV, wNotV, wIf, wNext, wgName, wgTup, wgCons, wgNil, wFor, wSq, wYes, wLcU, wLcV, wLc, uTuple, uAll, uAny, uSum, wNeg, wSl, wPart, wNoPart, rSlW_tup, isNonP, seqW_tup, wLst, wipeW, wPar, wPut, wAug, wZip, wEnum, wRng1, wRng2, wChain, List.getElem?_cons_zero, List.getElem?_cons_succ, List.set_cons_zero, List.set_cons_succ, Option.some.injEq, exists_eq_left', exists_eq_left, exists_and_left, exists_eq_right, exists_eq_right', and_assoc, true_and, and_true, List.cons.injEq, and_self, if_true, if_false, Bool.false_eq_true, PV.int.injEq, PV.bl.injEq, PV.tup.injEq, PV.ref.injEq, PV.str.injEq, Bool.false_xor, Bool.true_xor, List.length_cons, List.length_nil, Nat.reduceAdd, Nat.reduceLeDiff, Nat.reduceEqDiff, Prod.mk.injEq, cutP_map, cutP_0, cutP_1, cutP_2, cutP_all, decide_eq_true_eq, startW, endsW, List.map_cons, List.map_nil, List.cons_append, List.nil_append, List.replicate, Nat.reduceSub, rIxW_tup, rLenW_tup, rListW_tup, wMeth, wRngL, wRngT, rIsiW_eq, tyP_non, tyP_bl, tyP_int, tyP_str, tyP_tup, isi_NoneType_int, isi_NoneType_bool, isi_NoneType_str, isi_NoneType_list, isi_NoneType_tuple, isi_NoneType_dict, isi_bool_int, isi_bool_bool, isi_bool_str, isi_bool_list, isi_bool_tuple, isi_bool_dict, isi_int_int, isi_int_bool, isi_int_str, isi_int_list, isi_int_tuple, isi_int_dict, isi_str_int, isi_str_bool, isi_str_str, isi_str_list, isi_str_tuple, isi_str_dict, isi_tuple_int, isi_tuple_bool, isi_tuple_str, isi_tuple_list, isi_tuple_tuple, isi_tuple_dict, isi_list_int, isi_list_bool, isi_list_str, isi_list_list, isi_list_tuple, isi_list_dict, isi_dict_int, isi_dict_bool, isi_dict_str, isi_dict_list, isi_dict_tuple, isi_dict_dict, decide_true, decide_false, Bool.not_true, Bool.not_false, Bool.not_eq_true', decide_eq_false_iff_not, ite_not, natP, swP, natsP, intsP, atI_0, atI_1, atI_2, atI_3, wLcU2, wLcV2, wTupZip, wZipN, wStep, wRev, wMaxD, wMinD, rInW_ints, rEqW_ii, rEqW_bb, rEqW_ss, rIsW_n, rIsW_bb, rAddW_ii, rAddW_ss, rAddW_tt, rIW_ii, rI0W_ii, rMulW_ii, rMulW_ti, rIntW_i, rIntW_b, rMax2W_ii, rMin2W_ii]
    rw [List.length_zipIdx]
    exact fg_here h
def wDepth : WC := ctrF (fun N : Net => [netP N]) (fun N _ => N.w ≤ 16 ∧ (∀ s ∈ N.sw, s.1 < N.w ∧ s.2 < N.w) ∧ N.sw.length ≤ 1000) (fun N => natP (dpM N.sw N.sw.length))
abbrev s_depth : Stmt := top 4
theorem sc_depth : FnScope ["net"] ["net"] (defScope s_depth) := ⟨rfl, rfl, rfl, by decide +kernel, rfl, by decide +kernel, by decide +kernel⟩
set_option maxHeartbeats 1000000 in
theorem ok_depth {f : Addr} {fd : FuncData} (F : Fun K "depth" "depth" s_depth f fd) (T : Tn mg) (D_layers : DefW Ts P w K mg base "layers" 1 ["net"] wLayers) : FnOk P w K mg base CX0 2 f fd ["net"] (spW Ts K wDepth) := by
  refine ok_body (k := 1) F sc_depth (fun pvs S Q h => by obtain ⟨a, rfl, _⟩ := h; rfl) (fun cdv A outer s H E hr => ?_)
  have hu := hu_of hr
  refine ⟨_, (sss_one (ss_ret (se_callB c_len (by rfl) T.len_ (by decide +kernel) (sa_cons (se_def D_layers (hr.mono (by first | decide | omega)) (by rfl) (sa_cons (sv 0) sa_nil)) sa_nil)))), fun pvs S Q hcl hca h => ?_⟩
  obtain ⟨N, rfl, h1, h⟩ := h
  simp only [wSeq, wAsg, wRet, wRetN, wDrop, wIfS, wVar, wC, wOp, wCall, wCons, wNil, wTup, wTest, wAnd, wOr, wNot, wAndV, wOrV, wNotV, wIf, wNext, wgName, wgTup, wgCons, wgNil, wFor, wSq, wYes, wLcU, wLcV, wLc, uTuple, uAll, uAny, uSum, wNeg, wSl, wPart, wNoPart, rSlW_tup, isNonP, seqW_tup, wLst, wipeW, wPar, wPut, wAug, wZip, wEnum, wRng1, wRng2, wChain, List.getElem?_cons_zero, List.getElem?_cons_succ, List.set_cons_zero, List.set_cons_succ, Option.some.injEq, exists_eq_left', exists_eq_left, exists_and_left, exists_eq_right, exists_eq_right', and_assoc, true_and, and_true, List.cons.injEq, and_self, if_true, if_false, Bool.false_eq_true, PV.int.injEq, PV.bl.injEq, PV.tup.injEq, PV.ref.injEq, PV.str.injEq, Bool.false_xor, Bool.true_xor, List.length_cons, List.length_nil, Nat.reduceAdd, Nat.reduceLeDiff, Nat.reduceEqDiff, Prod.mk.injEq, cutP_map, cutP_0, cutP_1, cutP_2, cutP_all, decide_eq_true_eq, startW, endsW, List.map_cons, List.map_nil, List.cons_append, List.nil_append, List.replicate, Nat.reduceSub, rIxW_tup, rLenW_tup, rListW_tup, wMeth, wRngL, wRngT, rIsiW_eq, tyP_non, tyP_bl, tyP_int, tyP_str, tyP_tup, isi_NoneType_int, isi_NoneType_bool, isi_NoneType_str, isi_NoneType_list, isi_NoneType_tuple, isi_NoneType_dict, isi_bool_int, isi_bool_bool, isi_bool_str, isi_bool_list, isi_bool_tuple, isi_bool_dict, isi_int_int, isi_int_bool, isi_int_str, isi_int_list, isi_int_tuple, isi_int_dict, isi_str_int, isi_str_bool, isi_str_str, isi_str_list, isi_str_tuple, isi_str_dict, isi_tuple_int, isi_tuple_bool, isi_tuple_str, isi_tuple_list, isi_tuple_tuple, isi_tuple_dict, isi_list_int, isi_list_bool, isi_list_str, isi_list_list, isi_list_tuple, isi_list_dict, isi_dict_int, isi_dict_bool, isi_dict_str, isi_dict_list, isi_dict_tuple, isi_dict_dict, decide_true, decide_false, Bool.not_true, Bool.not_false, Bool.not_eq_true', decide_eq_false_iff_not, ite_not, natP, swP, natsP, intsP, atI_0, atI_1, atI_2, atI_3, wLcU2, wLcV2, wTupZip, wZipN, wStep, wRev, wMaxD, wMinD, rInW_ints, rEqW_ii, rEqW_bb, rEqW_ss, rIsW_n, rIsW_bb, rAddW_ii, rAddW_ss, rAddW_tt, rIW_ii, rI0W_ii, rMulW_ii, rMulW_ti, rIntW_i, rIntW_b, rMax2W_ii, rMin2W_ii]
  refine ⟨N, rfl, h1, ?_⟩
  have gT : (S ++ layG S.length N.sw N.w N.sw.length (dpM N.sw N.sw.length))[S.length + 2]? = some (.lst (refsP S.length (dpM N.sw N.sw.length))) := get_off
  dsimp only
  rw [rLenW_lst gT, refsP_len]
  exact fg_drop hcl cl_int h
end
end L4
set_option Elab.async false
set_option linter.all false
namespace L4
open L3
end L4
set_option Elab.async false
set_option linter.all false
set_option maxRecDepth 100000
namespace L4
open L3
def mir (P j : Nat) : Nat := j / P * P + (P - 1 - j % P)
def layF (P : Nat) (x : Nat → Int) : Nat → Int := fun j => if j % P < P / 2 then (x j + x (mir P j) + 1) / 2 else (x j + x (mir P j)) / 2
def runs (t : Nat) : Nat → (Nat → Int) → Nat → Int
  | 0, x => x
  | d + 1, x => layF (2 ^ (t + 1)) (runs (t + 1) d x)
def EvF (n : Nat) (x : Nat → Int) : Prop := ∀ i j, i < j → j < n → 0 ≤ x i - x j ∧ x i - x j ≤ 1
theorem EvF.sub {n m : Nat} {x : Nat → Int} (h : EvF n x) (f : Nat → Nat) (mono : ∀ i j, i < j → f i < f j) (lt : ∀ i, i < m → f i < n) : EvF m (fun t => x (f t)) := fun i j hij hj => h _ _ (mono i j hij) (lt j hj)
end L4
set_option Elab.async false
set_option linter.all false
set_option maxRecDepth 100000
namespace L4
open L3
def renS (f : List Nat) (sw : List (Nat × Nat)) : List (Nat × Nat) := sw.map fun s => (f.getD s.1 0, f.getD s.2 0)
theorem gdn_mem {f : List Nat} {x : Nat} (h : x < f.length) : f.getD x 0 ∈ f := by
  rw [List.getD_eq_getElem?_getD, List.getElem?_eq_getElem h]; exact List.getElem_mem h
theorem gdn_inj {f : List Nat} (nd : f.Nodup) {x y : Nat} (hx : x < f.length) (hy : y < f.length) (e : f.getD x 0 = f.getD y 0) : x = y := by
  rw [List.getD_eq_getElem?_getD, List.getElem?_eq_getElem hx, List.getD_eq_getElem?_getD, List.getElem?_eq_getElem hy] at e
  exact (List.getElem_inj nd).mp e
section
variable {A sw : List (Nat × Nat)} {f o : List Nat} {ta tb u : List Int}
end
theorem rng_gd {n m x : Nat} (h : x < m) : (List.range' n m).getD x 0 = n + x := by
  rw [List.getD_eq_getElem?_getD, List.getElem?_range' h]; simp
theorem perm_nd {f : List Nat} {n : Nat} (h : f.Perm (List.range n)) : f.Nodup := h.nodup_iff.mpr List.nodup_range
theorem perm_lt {f : List Nat} {n : Nat} (h : f.Perm (List.range n)) : ∀ x ∈ f, x < n := fun x hx => List.mem_range.mp (h.mem_iff.mp hx)
end L4
set_option Elab.async false
set_option linter.all false
namespace L4
open L3
theorem swAt_l {A C : List (Nat × Nat)} {i : Nat} (h : i < A.length) : swAt (A ++ C) i = swAt A i := by
  unfold swAt
  rw [List.getD_eq_getElem?_getD, List.getD_eq_getElem?_getD, List.getElem?_append_left h]
theorem swAt_r {A C : List (Nat × Nat)} {i : Nat} : swAt (A ++ C) (A.length + i) = swAt C i := by
  unfold swAt
  rw [List.getD_eq_getElem?_getD, List.getD_eq_getElem?_getD, List.getElem?_append_right (by omega), Nat.add_sub_cancel_left]
theorem nl_l {A C : List (Nat × Nat)} : ∀ i, i ≤ A.length → ∀ x, nlM (A ++ C) i x = nlM A i x
  | 0, _, _ => rfl
  | i + 1, h, x => by
    have ih := nl_l (A := A) (C := C) i (by omega)
    show (if on (swAt (A ++ C) i) x then max _ _ + 1 else _) = (if on (swAt A i) x then max _ _ + 1 else _)
    rw [swAt_l (by omega), ih, ih, ih]
theorem at_l {A C : List (Nat × Nat)} {i : Nat} (h : i < A.length) : atM (A ++ C) i = atM A i := by
  unfold atM
  rw [swAt_l h, nl_l i (by omega), nl_l i (by omega)]
theorem dp_l {A C : List (Nat × Nat)} : ∀ i, i ≤ A.length → dpM (A ++ C) i = dpM A i
  | 0, _ => rfl
  | i + 1, h => by
    show max _ _ = max _ _
    rw [dp_l i (by omega), at_l (by omega)]
theorem dp_mono (sw : List (Nat × Nat)) (i : Nat) : ∀ k, dpM sw i ≤ dpM sw (i + k)
  | 0 => Nat.le_refl _
  | k + 1 => Nat.le_trans (dp_mono sw i k) (Nat.le_max_left _ _)
section
variable {A B : List (Nat × Nat)} {f : List Nat}
theorem swAt_ren {i : Nat} (h : i < B.length) : swAt (A ++ renS f B) (A.length + i) = (f.getD (swAt B i).1 0, f.getD (swAt B i).2 0) := by
  rw [swAt_r]
  have e : swAt B i = B[i] := by
    unfold swAt
    rw [List.getD_eq_getElem?_getD, List.getElem?_eq_getElem h]; rfl
  rw [e]
  unfold swAt renS
  rw [List.getD_eq_getElem?_getD, List.getElem?_map, List.getElem?_eq_getElem h]; rfl
theorem swAt_mem {i : Nat} (h : i < B.length) : swAt B i ∈ B := by
  unfold swAt
  rw [List.getD_eq_getElem?_getD, List.getElem?_eq_getElem h]
  exact List.getElem_mem h
variable (nd : f.Nodup) (ok : ∀ s ∈ B, s.1 < f.length ∧ s.2 < f.length)
include nd ok
theorem on_ren {i x : Nat} (h : i < B.length) (hx : x < f.length) : on (f.getD (swAt B i).1 0, f.getD (swAt B i).2 0) (f.getD x 0) ↔ on (swAt B i) x := by
  obtain ⟨a, b⟩ := ok _ (swAt_mem h)
  constructor
  · rintro (z | z)
    · exact .inl (gdn_inj nd hx a z)
    · exact .inr (gdn_inj nd hx b z)
  · rintro (z | z)
    · exact .inl (by rw [z])
    · exact .inr (by rw [z])
/-- one behind the other: not deeper than both, not less deep than either -/
theorem nl_beh : ∀ i, i ≤ B.length → (∀ x, x < f.length → nlM B i x ≤ nlM (A ++ renS f B) (A.length + i) (f.getD x 0) ∧ nlM (A ++ renS f B) (A.length + i) (f.getD x 0) ≤ dpM A A.length + nlM B i x) ∧
    dpM B i ≤ dpM (A ++ renS f B) (A.length + i) ∧ dpM (A ++ renS f B) (A.length + i) ≤ dpM A A.length + dpM B i
  | 0, _ => ⟨fun x hx => by
      rw [Nat.add_zero, nl_l _ (Nat.le_refl _)]
      exact ⟨Nat.zero_le _, by have := nl_dp A A.length (f.getD x 0); show _ ≤ _ + 0; omega⟩, Nat.zero_le _, by rw [Nat.add_zero, dp_l _ (Nat.le_refl _)]; exact Nat.le_add_right _ _⟩
  | i + 1, h => by
    obtain ⟨ih, d1, d2⟩ := nl_beh i (by omega)
    obtain ⟨a, b⟩ := ok _ (swAt_mem (show i < B.length by omega))
    have ea : atM B i ≤ atM (A ++ renS f B) (A.length + i) ∧ atM (A ++ renS f B) (A.length + i) ≤ dpM A A.length + atM B i := by
      unfold atM
      rw [swAt_ren (by omega)]
      have h1 := ih _ a
      have h2 := ih _ b
      dsimp only
      omega
    refine ⟨fun x hx => ?_, ?_, ?_⟩
    · rw [show A.length + (i + 1) = (A.length + i) + 1 by omega, nlM_succ, nlM_succ, swAt_ren (by omega)]
      have hx1 := ih x hx
      by_cases c : on (swAt B i) x
      · rw [if_pos c, if_pos ((on_ren nd ok (by omega) hx).mpr c)]; omega
      · rw [if_neg c, if_neg fun z => c ((on_ren nd ok (by omega) hx).mp z)]; exact hx1
    · show max (dpM B i) (atM B i + 1) ≤ max (dpM (A ++ renS f B) (A.length + i)) (atM (A ++ renS f B) (A.length + i) + 1)
      omega
    · show max (dpM (A ++ renS f B) (A.length + i)) (atM (A ++ renS f B) (A.length + i) + 1) ≤ dpM A A.length + max (dpM B i) (atM B i + 1)
      omega
/-- where nothing ahead touches the wires: as deep as the deeper one -/
theorem nl_bes (hz : ∀ x, x < f.length → nlM A A.length (f.getD x 0) = 0) : ∀ i, i ≤ B.length → (∀ x, x < f.length → nlM (A ++ renS f B) (A.length + i) (f.getD x 0) = nlM B i x) ∧ dpM (A ++ renS f B) (A.length + i) = max (dpM A A.length) (dpM B i)
  | 0, _ => ⟨fun x hx => by rw [Nat.add_zero, nl_l _ (Nat.le_refl _), hz x hx]; rfl, by rw [Nat.add_zero, dp_l _ (Nat.le_refl _)]; show _ = max _ 0; omega⟩
  | i + 1, h => by
    obtain ⟨ih, d⟩ := nl_bes hz i (by omega)
    obtain ⟨a, b⟩ := ok _ (swAt_mem (show i < B.length by omega))
    have ea : atM (A ++ renS f B) (A.length + i) = atM B i := by
      unfold atM
      rw [swAt_ren (by omega)]
      dsimp only
      rw [ih _ a, ih _ b]
    refine ⟨fun x hx => ?_, ?_⟩
    · rw [show A.length + (i + 1) = (A.length + i) + 1 by omega, nlM_succ, nlM_succ, swAt_ren (by omega), ea]
      by_cases c : on (swAt B i) x
      · rw [if_pos c, if_pos ((on_ren nd ok (by omega) hx).mpr c)]
      · rw [if_neg c, if_neg fun z => c ((on_ren nd ok (by omega) hx).mp z)]; exact ih x hx
    · show max (dpM (A ++ renS f B) (A.length + i)) (atM (A ++ renS f B) (A.length + i) + 1) = max _ (max _ _)
      rw [d, ea]; omega
end
theorem nl_out {A : List (Nat × Nat)} {x : Nat} (h : ∀ s ∈ A, x ≠ s.1 ∧ x ≠ s.2) : ∀ i, i ≤ A.length → nlM A i x = 0
  | 0, _ => rfl
  | i + 1, hi => by
    rw [nlM_succ, if_neg, nl_out h i (by omega)]
    have := h _ (swAt_mem (B := A) (show i < A.length by omega))
    rintro (z | z)
    · exact this.1 z
    · exact this.2 z
end L4
set_option Elab.async false
set_option linter.all false
set_option maxRecDepth 100000
namespace L4
open PySem PySem.Spec PyProof.Rows L2 L3
section
variable {N : Net} {f : List Nat}
theorem n2f_len (hf : f.Perm (List.range N.w)) : f.length = N.w := by rw [hf.length_eq, List.length_range]
theorem n2f_lt (hf : f.Perm (List.range N.w)) : ∀ x ∈ f, x < N.w := fun x hx => List.mem_range.mp (hf.mem_iff.mp hx)
theorem n2f_nd (hf : f.Perm (List.range N.w)) : f.Nodup := hf.nodup_iff.mpr List.nodup_range
theorem n2f_gd (hf : f.Perm (List.range N.w)) {x : Nat} (hx : x < N.w) : f.getD x 0 < N.w := by
  have h := n2f_len hf
  rw [List.getD_eq_getElem?_getD, List.getElem?_eq_getElem (by omega)]
  exact n2f_lt hf _ (List.getElem_mem _)
theorem n2f_inj (hf : f.Perm (List.range N.w)) {x y : Nat} (hx : x < N.w) (hy : y < N.w) (e : f.getD x 0 = f.getD y 0) : x = y := by
  have h := n2f_len hf
  rw [List.getD_eq_getElem?_getD, List.getD_eq_getElem?_getD, List.getElem?_eq_getElem (by omega), List.getElem?_eq_getElem (by omega)] at e
  have e' : f[x]'(by omega) = f[y]'(by omega) := e
  have nd := List.pairwise_iff_getElem.mp (n2f_nd hf)
  rcases Nat.lt_trichotomy x y with c | c | c
  · exact absurd e' (nd x y (by omega) (by omega) c)
  · exact c
  · exact absurd e'.symm (nd y x (by omega) (by omega) c)
theorem n2ren_ok (hN : N.Ok) (hf : f.Perm (List.range N.w)) : (renN N f).Ok := by
  refine ⟨hN.w1, hN.w16, fun p hp => ?_, ?_⟩
  · obtain ⟨s, hs, rfl⟩ := List.mem_map.mp hp
    obtain ⟨a, b, c⟩ := hN.sw s hs
    exact ⟨n2f_gd hf a, n2f_gd hf b, fun e => c (n2f_inj hf a b e)⟩
  · show (N.ord.map fun i => f.getD i 0).Perm (List.range N.w)
    refine (hN.ord.map _).trans ?_
    have e : (List.range N.w).map (fun i => f.getD i 0) = f := by
      refine List.ext_getElem? fun i => ?_
      by_cases c : i < N.w
      · rw [List.getElem?_map, List.getElem?_range c]
        show some (f.getD i 0) = f[i]?
        rw [List.getD_eq_getElem?_getD, List.getElem?_eq_getElem (by rw [n2f_len hf]; exact c)]; rfl
      · rw [List.getElem?_eq_none (by simp; omega), List.getElem?_eq_none (by rw [n2f_len hf]; omega)]
    rw [e]
    exact hf
end
theorem n2ordL {N : Net} (h : N.Ok) : N.ord.length = N.w := by rw [h.ord.length_eq, List.length_range]
theorem n2lt {N : Net} (h : N.Ok) (hl : N.sw.length ≤ 1000) : Ltn N N.w := ⟨fun s hs => ⟨(h.sw s hs).1, (h.sw s hs).2.1⟩, fun i hi => perm_lt h.ord i hi, hl, by rw [n2ordL h]; have := h.w16; omega⟩
def behN (N O : Net) : Net := ⟨N.w, N.sw ++ (renN O N.ord).sw, (renN O N.ord).ord⟩
theorem beh_ok {N O : Net} (hN : N.Ok) (hO : O.Ok) (e : O.w = N.w) : (behN N O).Ok := by
  have r := n2ren_ok hO (f := N.ord) (by rw [e]; exact hN.ord)
  refine ⟨hN.w1, hN.w16, fun p hp => ?_, by have := r.ord; rw [show (renN O N.ord).w = N.w from e] at this; exact this⟩
  rcases List.mem_append.mp hp with hp | hp
  · exact hN.sw p hp
  · have := r.sw p hp
    rw [show (renN O N.ord).w = N.w from e] at this
    exact this
theorem ren_shift {O : Net} (hO : O.Ok) (a : Nat) : renN O (List.range' a O.w) = ⟨O.w, O.sw.map fun s => (a + s.1, a + s.2), O.ord.map (a + ·)⟩ := by
  unfold renN
  congr 1
  · exact List.map_congr_left fun s hs => by
      obtain ⟨h1, h2, _⟩ := hO.sw s hs
      rw [rng_gd h1, rng_gd h2]
  · exact List.map_congr_left fun i hi => by
      rw [rng_gd (perm_lt hO.ord i hi)]
theorem bes_is {N O : Net} (hO : O.Ok) : besN N O = ⟨N.w + O.w, N.sw ++ O.sw.map (fun s => (N.w + s.1, N.w + s.2)), N.ord ++ O.ord.map (N.w + ·)⟩ := by
  unfold besN
  rw [ren_shift hO]
theorem bes_ok {N O : Net} (hN : N.Ok) (hO : O.Ok) (h : N.w + O.w ≤ 16) : (besN N O).Ok := by
  rw [bes_is hO]
  have w1 := hN.w1
  refine ⟨by show 1 ≤ N.w + O.w; omega, h, fun p hp => ?_, ?_⟩
  · rcases List.mem_append.mp hp with hp | hp
    · obtain ⟨a, b, c⟩ := hN.sw p hp
      exact ⟨by show _ < N.w + O.w; omega, by show _ < N.w + O.w; omega, c⟩
    · obtain ⟨s, hs, rfl⟩ := List.mem_map.mp hp
      obtain ⟨a, b, c⟩ := hO.sw s hs
      exact ⟨by show _ < N.w + O.w; dsimp only; omega, by show _ < N.w + O.w; dsimp only; omega, by dsimp only; omega⟩
  · show (N.ord ++ O.ord.map (N.w + ·)).Perm (List.range (N.w + O.w))
    rw [List.range_add]
    exact hN.ord.append (hO.ord.map _)
theorem n2dp_beh {N O : Net} (hN : N.Ok) (hO : O.Ok) (e : O.w = N.w) : dpM O.sw O.sw.length ≤ dpM (behN N O).sw (behN N O).sw.length ∧ dpM (behN N O).sw (behN N O).sw.length ≤ dpM N.sw N.sw.length + dpM O.sw O.sw.length := by
  have l : (behN N O).sw.length = N.sw.length + O.sw.length := by simp [behN, renN]
  rw [l]
  exact (nl_beh (A := N.sw) (B := O.sw) (f := N.ord) (perm_nd hN.ord) (fun s hs => by rw [n2ordL hN, ← e]; exact ⟨(hO.sw s hs).1, (hO.sw s hs).2.1⟩) _ (Nat.le_refl _)).2
theorem n2dp_bes {N O : Net} (hN : N.Ok) (hO : O.Ok) : dpM (besN N O).sw (besN N O).sw.length = max (dpM N.sw N.sw.length) (dpM O.sw O.sw.length) := by
  have l : (besN N O).sw.length = N.sw.length + O.sw.length := by simp [besN, renN]
  rw [l]
  refine (nl_bes (A := N.sw) (B := O.sw) (f := List.range' N.w O.w) List.nodup_range' (fun s hs => by rw [List.length_range']; exact ⟨(hO.sw s hs).1, (hO.sw s hs).2.1⟩) (fun x hx => ?_) _ (Nat.le_refl _)).2
  rw [List.length_range'] at hx
  rw [rng_gd hx]
  exact nl_out (fun s hs => by obtain ⟨a, b, _⟩ := hN.sw s hs; omega) _ (Nat.le_refl _)
theorem n2dp_ren {N : Net} (hN : N.Ok) {f : List Nat} (hf : f.Perm (List.range N.w)) : dpM (renN N f).sw (renN N f).sw.length = dpM N.sw N.sw.length := by
  have l : (renN N f).sw.length = N.sw.length := by simp [renN]
  have := (nl_bes (A := []) (B := N.sw) (f := f) (n2f_nd hf) (fun s hs => by rw [n2f_len hf]; exact ⟨(hN.sw s hs).1, (hN.sw s hs).2.1⟩) (fun x hx => rfl) _ (Nat.le_refl _)).2
  rw [l]
  have e : ([] : List (Nat × Nat)).length + N.sw.length = N.sw.length := by simp
  rw [e] at this
  have z : dpM ([] : List (Nat × Nat)) ([] : List (Nat × Nat)).length = 0 := rfl
  rw [z, Nat.max_eq_right (Nat.zero_le _)] at this
  exact this
theorem n2x0 {N : Net} {S : Sto} {Q : WQ} : rIxW (netP N) (.int 0) S Q = Q (natP N.w) S := by
  unfold netP; rw [rIxW_tup, atI_0]; simp
theorem n2x1 {N : Net} {S : Sto} {Q : WQ} : rIxW (netP N) (.int 1) S Q = Q (.tup (N.sw.map swP)) S := by
  unfold netP; rw [rIxW_tup, atI_1]; simp
theorem n2dep {N : Net} (h : N.Ok) (hl : N.sw.length ≤ 1000) : N.w ≤ 16 ∧ (∀ s ∈ N.sw, s.1 < N.w ∧ s.2 < N.w) ∧ N.sw.length ≤ 1000 := ⟨h.w16, fun s hs => ⟨(h.sw s hs).1, (h.sw s hs).2.1⟩, hl⟩
end L4
set_option Elab.async false
set_option linter.all false
namespace L3
end L3
set_option Elab.async false
set_option linter.all false
namespace L3
/-- the wires of layer l's switches among the first i -/
def wiresM (sw : List (Nat × Nat)) (l : Nat) : Nat → List Nat
  | 0 => []
  | i + 1 => if atM sw i = l then wiresM sw l i ++ [(swAt sw i).1, (swAt sw i).2] else wiresM sw l i
theorem wires_mem {sw : List (Nat × Nat)} {l : Nat} : ∀ {i x : Nat}, x ∈ wiresM sw l i → ∃ k, k < i ∧ atM sw k = l ∧ on (swAt sw k) x
  | 0, x, h => by simp [wiresM] at h
  | i + 1, x, h => by
    unfold wiresM at h
    split at h
    · rename_i e
      rcases List.mem_append.mp h with z | z
      · obtain ⟨k, h1, h2, h3⟩ := wires_mem z
        exact ⟨k, by omega, h2, h3⟩
      · refine ⟨i, by omega, e, ?_⟩
        rcases List.mem_cons.mp z with z | z
        · exact .inl z
        · exact .inr (List.mem_singleton.mp z)
    · obtain ⟨k, h1, h2, h3⟩ := wires_mem h
      exact ⟨k, by omega, h2, h3⟩
theorem wires_nd {sw : List (Nat × Nat)} (l : Nat) (ok : ∀ p ∈ sw, p.1 ≠ p.2) : ∀ i, i ≤ sw.length → (wiresM sw l i).Nodup
  | 0, _ => List.nodup_nil
  | i + 1, h => by
    unfold wiresM
    split
    · rename_i e
      have ne := ok _ (List.mem_of_getElem? (sw_some (show i < sw.length by omega)))
      refine List.nodup_append.mpr ⟨wires_nd l ok i (by omega), ?_, fun a ha b hb z => ?_⟩
      · simp; exact ne
      · obtain ⟨k, h1, h2, h3⟩ := wires_mem ha
        have hs : sh (swAt sw i) (swAt sw k) := by
          rcases List.mem_cons.mp hb with y | y
          · exact .inl (by rw [← y, ← z]; exact h3)
          · exact .inr (by rw [← List.mem_singleton.mp y, ← z]; exact h3)
        have := at_up sw h1 hs
        omega
    · exact wires_nd l ok i (by omega)
theorem wires_len (sw : List (Nat × Nat)) (l : Nat) : ∀ i, (wiresM sw l i).length = 2 * (rowM sw i l).length
  | 0 => rfl
  | i + 1 => by
    rw [rowM_succ]
    unfold wiresM
    split
    · rw [List.length_append, List.length_append, wires_len sw l i]; simp; omega
    · exact wires_len sw l i
theorem sum_one (h : Nat → Int) (y : Nat) (c : Int) : ∀ n : Nat, ((List.range n).map fun x => h x + if x = y then c else 0).sum = ((List.range n).map h).sum + if y < n then c else 0
  | 0 => by simp
  | n + 1 => by
    rw [List.range_succ, List.map_append, List.map_append, List.sum_append, List.sum_append, sum_one h y c n]
    show _ + ((h n + if n = y then c else 0) + 0) = _ + (h n + 0) + _
    by_cases e : n = y
    · subst e
      rw [if_pos rfl, if_neg (by omega), if_pos (by omega)]; omega
    · rw [if_neg e]
      by_cases q : y < n
      · rw [if_pos q, if_pos (by omega)]; omega
      · rw [if_neg q, if_neg (by omega)]; omega
theorem sum_none : ∀ n : Nat, ((List.range n).map fun _ => (0 : Int)).sum = 0
  | 0 => rfl
  | n + 1 => by
    rw [List.range_succ, List.map_append, List.sum_append, sum_none n]; rfl
/-- over a list of different ones, as over all -/
theorem ind_sum (n : Nat) (f : Nat → Int) : ∀ L : List Nat, L.Nodup → (∀ x ∈ L, x < n) → (L.map f).sum = ((List.range n).map fun x => if x ∈ L then f x else 0).sum
  | [], _, _ => by
    have : ((List.range n).map fun x => if x ∈ ([] : List Nat) then f x else 0) = (List.range n).map fun _ => (0 : Int) := List.map_congr_left fun x _ => by simp
    rw [this, sum_none]; rfl
  | y :: L, nd, lt => by
    have hy : y ∉ L := (List.nodup_cons.mp nd).1
    have ih := ind_sum n f L (List.nodup_cons.mp nd).2 (fun x hx => lt x (List.mem_cons_of_mem _ hx))
    have e : ((List.range n).map fun x => if x ∈ y :: L then f x else 0) = (List.range n).map fun x => (if x ∈ L then f x else 0) + if x = y then f y else 0 := by
      refine List.map_congr_left fun x _ => ?_
      by_cases q : x = y
      · subst q
        rw [if_pos List.mem_cons_self, if_neg hy, if_pos rfl]; omega
      · rw [if_neg q]
        by_cases z : x ∈ L
        · rw [if_pos (List.mem_cons_of_mem _ z), if_pos z]; omega
        · rw [if_neg (fun m => (List.mem_cons.mp m).elim q z), if_neg z]; omega
    rw [e, sum_one, if_pos (lt y List.mem_cons_self), ← ih, List.map_cons, List.sum_cons]; omega
theorem sum_mono {f g : Nat → Int} : ∀ n : Nat, (∀ x, x < n → f x ≤ g x) → ((List.range n).map f).sum ≤ ((List.range n).map g).sum
  | 0, _ => Int.le_refl _
  | n + 1, h => by
    rw [List.range_succ, List.map_append, List.map_append, List.sum_append, List.sum_append]
    have ih := sum_mono n (fun x hx => h x (by omega))
    have := h n (by omega)
    show _ + (f n + 0) ≤ _ + (g n + 0)
    omega
theorem sum_ones : ∀ n : Nat, ((List.range n).map fun _ => (1 : Int)).sum = (n : Int)
  | 0 => rfl
  | n + 1 => by
    rw [List.range_succ, List.map_append, List.sum_append, sum_ones n]; rfl
theorem nd_len {n : Nat} {L : List Nat} (nd : L.Nodup) (lt : ∀ x ∈ L, x < n) : L.length ≤ n := by
  have h := ind_sum n (fun _ => 1) L nd lt
  have h1 : (L.map fun _ => (1 : Int)).sum = (L.length : Int) := by
    clear h nd lt
    induction L with
    | nil => rfl
    | cons x L ih => rw [List.map_cons, List.sum_cons, ih, List.length_cons]; omega
  have h2 := sum_ones n
  have h3 := sum_mono (f := fun x => if x ∈ L then (1 : Int) else 0) (g := fun _ => 1) n (fun x _ => by show (if x ∈ L then (1 : Int) else 0) ≤ 1; split <;> decide)
  rw [h2] at h3
  rw [h1] at h
  rw [← h] at h3
  omega
end L3
set_option Elab.async false
set_option linter.all false
namespace L3
def stepB (s : Nat × Nat) (R : Nat → Bool) : Nat → Bool := fun x => R x || ((R s.1 || R s.2) && (x == s.1 || x == s.2))
def reachB (sw : List (Nat × Nat)) (R : Nat → Bool) : Nat → Bool := sw.foldl (fun R s => stepB s R) R
def only (y : Nat) : Nat → Bool := fun x => x == y
theorem stepB_un (s : Nat × Nat) (R : Nat → Bool) (x : Nat) : stepB s R x = true ↔ ∃ y, R y = true ∧ stepB s (only y) x = true := by
  unfold stepB only
  simp only [Bool.or_eq_true, Bool.and_eq_true, beq_iff_eq]
  constructor
  · rintro (h | ⟨h | h, hx⟩)
    · exact ⟨x, h, .inl rfl⟩
    · exact ⟨s.1, h, .inr ⟨.inl rfl, hx⟩⟩
    · exact ⟨s.2, h, .inr ⟨.inr rfl, hx⟩⟩
  · rintro ⟨y, hy, h | ⟨h | h, hx⟩⟩
    · subst h; exact .inl hy
    · rw [← h] at hy; exact .inr ⟨.inl hy, hx⟩
    · rw [← h] at hy; exact .inr ⟨.inr hy, hx⟩
theorem reachB_un : ∀ (sw : List (Nat × Nat)) (R : Nat → Bool) (x : Nat), reachB sw R x = true ↔ ∃ y, R y = true ∧ reachB sw (only y) x = true
  | [], R, x => by
    show R x = true ↔ ∃ y, R y = true ∧ (x == y) = true
    constructor
    · intro h; exact ⟨x, h, by simp⟩
    · rintro ⟨y, hy, h⟩
      have : x = y := by simpa using h
      subst this; exact hy
  | s :: r, R, x => by
    show reachB r (stepB s R) x = true ↔ ∃ y, R y = true ∧ reachB r (stepB s (only y)) x = true
    rw [reachB_un r (stepB s R) x]
    constructor
    · rintro ⟨z, hz, h⟩
      obtain ⟨y, hy, hs⟩ := (stepB_un s R z).mp hz
      exact ⟨y, hy, (reachB_un r (stepB s (only y)) x).mpr ⟨z, hs, h⟩⟩
    · rintro ⟨y, hy, h⟩
      obtain ⟨z, hz, h2⟩ := (reachB_un r (stepB s (only y)) x).mp h
      exact ⟨z, (stepB_un s R z).mpr ⟨y, hy, hz⟩, h2⟩
theorem reachB_snoc {sw : List (Nat × Nat)} {i : Nat} {s : Nat × Nat} (h : sw[i]? = some s) (R : Nat → Bool) : reachB (sw.take (i + 1)) R = stepB s (reachB (sw.take i) R) := by
  have e : sw.take (i + 1) = sw.take i ++ [s] := by rw [List.take_succ, h]; rfl
  unfold reachB
  rw [e, List.foldl_append]; rfl
end L3
set_option Elab.async false
set_option linter.all false
namespace L4
open L3
section
variable {A B : List (Nat × Nat)} {f : List Nat}
section
variable (nd : f.Nodup) (ok : ∀ s ∈ B, s.1 < f.length ∧ s.2 < f.length) (hz : ∀ x, x < f.length → nlM A A.length (f.getD x 0) = 0)
include nd ok hz
theorem at_bes {i : Nat} (h : i < B.length) : atM (A ++ renS f B) (A.length + i) = atM B i := by
  obtain ⟨a, b⟩ := ok _ (swAt_mem h)
  have ih := (nl_bes nd ok hz i (by omega)).1
  unfold atM
  rw [swAt_ren h]
  dsimp only
  rw [ih _ a, ih _ b]
theorem rows_bes (l : Nat) : rowM (A ++ renS f B) (A.length + B.length) l = rowM A A.length l ++ (rowM B B.length l).map (A.length + ·) := by
  unfold rowM
  rw [List.range_add, List.filter_append, List.filter_map]
  congr 1
  · exact List.filter_congr fun k hk => by rw [at_l (List.mem_range.mp hk)]
  · congr 1
    exact List.filter_congr fun k hk => by
      show (atM _ (A.length + k) == l) = _
      rw [at_bes nd ok hz (List.mem_range.mp hk)]
end
theorem rows_ren (nd : f.Nodup) (ok : ∀ s ∈ B, s.1 < f.length ∧ s.2 < f.length) (l : Nat) : rowM (renS f B) B.length l = rowM B B.length l := by
  have h := rows_bes (A := []) nd ok (fun x _ => rfl) l
  have e : ([] : List (Nat × Nat)).length + B.length = B.length := by simp
  rw [e, List.nil_append] at h
  rw [h]
  have z : rowM ([] : List (Nat × Nat)) ([] : List (Nat × Nat)).length l = [] := rfl
  rw [z, List.nil_append]
  simp
theorem row_half {sw : List (Nat × Nat)} {n : Nat} (ok : ∀ s ∈ sw, s.1 < n ∧ s.2 < n ∧ s.1 ≠ s.2) (l : Nat) : 2 * (rowM sw sw.length l).length ≤ n := by
  rw [← wires_len]
  refine nd_len (wires_nd l (fun p hp => (ok p hp).2.2) _ (Nat.le_refl _)) fun x hx => ?_
  obtain ⟨k, h1, _, h3⟩ := wires_mem hx
  obtain ⟨a, b, _⟩ := ok _ (swAt_mem h1)
  rcases h3 with z | z <;> rw [z] <;> assumption
end
def fullR (sw : List (Nat × Nat)) (w : Nat) : Bool := (List.range (dpM sw sw.length)).all fun l => decide (2 * ((rowM sw sw.length l).length : Int) = (w : Int))
theorem fullR_iff {sw : List (Nat × Nat)} {w : Nat} : fullR sw w = true ↔ ∀ l, l < dpM sw sw.length → 2 * (rowM sw sw.length l).length = w := by
  unfold fullR
  rw [List.all_eq_true]
  constructor
  · intro h l hl
    have := of_decide_eq_true (h l (List.mem_range.mpr hl))
    omega
  · intro h l hl
    have := h l (List.mem_range.mp hl)
    exact decide_eq_true (by omega)
theorem full_bes {A B C : List (Nat × Nat)} {a b : Nat} (ha : ∀ s ∈ A, s.1 < a ∧ s.2 < a ∧ s.1 ≠ s.2) (hb : ∀ s ∈ B, s.1 < b ∧ s.2 < b ∧ s.1 ≠ s.2) (a1 : 1 ≤ a) (b1 : 1 ≤ b)
    (hd : dpM C C.length = max (dpM A A.length) (dpM B B.length)) (hr : ∀ l, rowM C C.length l = rowM A A.length l ++ (rowM B B.length l).map (A.length + ·)) :
    fullR C (a + b) = (fullR A a && (fullR B b && decide ((dpM A A.length : Int) = (dpM B B.length : Int)))) := by
  rw [Bool.eq_iff_iff, Bool.and_eq_true, Bool.and_eq_true, fullR_iff, fullR_iff, fullR_iff, decide_eq_true_iff, hd]
  have hl : ∀ l, (rowM C C.length l).length = (rowM A A.length l).length + (rowM B B.length l).length := fun l => by rw [hr, List.length_append, List.length_map]
  have r1 := row_half ha
  have r2 := row_half hb
  have n1 : ∀ l, dpM A A.length ≤ l → (rowM A A.length l).length = 0 := fun l h => by rw [rowM_new _ _ _ h]; rfl
  have n2 : ∀ l, dpM B B.length ≤ l → (rowM B B.length l).length = 0 := fun l h => by rw [rowM_new _ _ _ h]; rfl
  constructor
  · intro h
    have key : ∀ l, l < max (dpM A A.length) (dpM B B.length) → 2 * (rowM A A.length l).length = a ∧ 2 * (rowM B B.length l).length = b := fun l hl' => by
      have h1 := h l hl'
      rw [hl] at h1
      have := r1 l
      have := r2 l
      omega
    refine ⟨fun l q => (key l (by omega)).1, fun l q => (key l (by omega)).2, ?_⟩
    by_cases c : dpM A A.length < dpM B B.length
    · have := (key (dpM A A.length) (by omega)).1
      rw [n1 _ (Nat.le_refl _)] at this
      omega
    · by_cases c2 : dpM B B.length < dpM A A.length
      · have := (key (dpM B B.length) (by omega)).2
        rw [n2 _ (Nat.le_refl _)] at this
        omega
      · omega
  · rintro ⟨h1, h2, h3⟩ l q
    rw [hl]
    have := h1 l (by omega)
    have := h2 l (by omega)
    omega
theorem reach_app (A C : List (Nat × Nat)) (R : Nat → Bool) : reachB (A ++ C) R = reachB C (reachB A R) := by
  unfold reachB
  rw [List.foldl_append]
theorem reach_off : ∀ {A : List (Nat × Nat)} {R : Nat → Bool} {x : Nat}, (∀ s ∈ A, x ≠ s.1 ∧ x ≠ s.2) → reachB A R x = R x
  | [], _, _, _ => rfl
  | s :: A, R, x, h => by
    show reachB A (stepB s R) x = R x
    rw [reach_off fun t ht => h t (.tail _ ht)]
    obtain ⟨a, b⟩ := h s (.head _)
    unfold stepB
    simp [a, b]
theorem reach_none : ∀ (A : List (Nat × Nat)) (x : Nat), reachB A (fun _ => false) x = false
  | [], _ => rfl
  | s :: A, x => by
    show reachB A (stepB s fun _ => false) x = false
    have e : stepB s (fun _ => false) = fun _ => false := by funext y; simp [stepB]
    rw [e]
    exact reach_none A x
theorem reach_ren {f : List Nat} (nd : f.Nodup) : ∀ {B : List (Nat × Nat)} {R R' : Nat → Bool}, (∀ s ∈ B, s.1 < f.length ∧ s.2 < f.length) → (∀ x, x < f.length → R' (f.getD x 0) = R x) → ∀ x, x < f.length → reachB (renS f B) R' (f.getD x 0) = reachB B R x
  | [], _, _, _, h, x, hx => h x hx
  | s :: B, R, R', ok, h, x, hx => by
    show reachB (renS f B) (stepB (f.getD s.1 0, f.getD s.2 0) R') (f.getD x 0) = reachB B (stepB s R) x
    refine reach_ren nd (fun t ht => ok t (.tail _ ht)) (fun y hy => ?_) x hx
    obtain ⟨a, b⟩ := ok s (.head _)
    have eqs : ∀ z, z < f.length → (f.getD y 0 == f.getD z 0) = (y == z) := fun z hz => by
      rw [Bool.eq_iff_iff, beq_iff_eq, beq_iff_eq]
      exact ⟨gdn_inj nd hy hz, fun e => by rw [e]⟩
    show (R' (f.getD y 0) || ((R' (f.getD s.1 0) || R' (f.getD s.2 0)) && (f.getD y 0 == f.getD s.1 0 || f.getD y 0 == f.getD s.2 0))) = _
    rw [h y hy, h _ a, h _ b, eqs _ a, eqs _ b]
    rfl
theorem sorted_ext : ∀ {a b : List Int}, a.Pairwise (· < ·) → b.Pairwise (· < ·) → (∀ x, x ∈ a ↔ x ∈ b) → a = b
  | [], [], _, _, _ => rfl
  | [], y :: b, _, _, h => absurd ((h y).mpr (.head _)) (by simp)
  | x :: a, [], _, _, h => absurd ((h x).mp (.head _)) (by simp)
  | x :: a, y :: b, ha, hb, h => by
    obtain ⟨a1, a2⟩ := List.pairwise_cons.mp ha
    obtain ⟨b1, b2⟩ := List.pairwise_cons.mp hb
    have e : x = y := by
      rcases List.mem_cons.mp ((h x).mp (.head _)) with z | z
      · exact z
      · rcases List.mem_cons.mp ((h y).mpr (.head _)) with q | q
        · exact q.symm
        · have := b1 _ z
          have := a1 _ q
          omega
    subst e
    rw [sorted_ext a2 b2 fun z => ?_]
    constructor
    · intro hz
      rcases List.mem_cons.mp ((h z).mp (.tail _ hz)) with q | q
      · have := a1 _ hz
        omega
      · exact q
    · intro hz
      rcases List.mem_cons.mp ((h z).mpr (.tail _ hz)) with q | q
      · have := b1 _ hz
        omega
      · exact q
end L4
set_option Elab.async false
set_option linter.all false
set_option maxRecDepth 100000
namespace L4
open PySem PySem.Spec PyProof.Rows L2 L3
def DcR (kvs : List (Key × PV)) (R : Nat → Bool) : Prop := ∀ x : Nat, (valP kvs (Sum.inl (x : Int))).isSome = R x
def addB (a : Nat) (R : Nat → Bool) : Nat → Bool := fun x => R x || x == a
theorem valP_cons {κ : Type} [DecidableEq κ] (c : κ) (y : PV) (r : List (κ × PV)) (j : κ) : valP ((c, y) :: r) j = if c = j then some y else valP r j := by
  unfold valP
  by_cases e : c = j
  · simp [e]
  · simp [e]
theorem valP_over {κ : Type} [DecidableEq κ] (k : κ) (v : PV) (j : κ) : ∀ kvs : List (κ × PV), valP (kvs.map (fun kv => if kv.1 = k then (kv.1, v) else kv)) j = if j = k then (valP kvs j).map (fun _ => v) else valP kvs j
  | [] => by simp [valP]
  | (c, y) :: r => by
    have ih := valP_over k v j r
    rw [List.map_cons, valP_cons]
    by_cases e : c = k
    · subst e
      simp only [if_true]
      rw [valP_cons, ih]
      by_cases e2 : c = j
      · subst e2; simp
      · have : ¬ j = c := fun z => e2 z.symm
        simp [e2, this]
    · simp only [if_neg e]
      rw [valP_cons, ih]
      by_cases e2 : c = j
      · subst e2; simp [e]
      · simp [e2]
theorem any_valP {κ : Type} [DecidableEq κ] (k : κ) : ∀ kvs : List (κ × PV), (kvs.any fun kv => decide (kv.1 = k)) = (valP kvs k).isSome
  | [] => rfl
  | (c, y) :: r => by
    rw [List.any_cons, any_valP k r, valP_cons]
    by_cases e : c = k <;> simp [e]
theorem valP_app {κ : Type} [DecidableEq κ] (k : κ) : ∀ a b : List (κ × PV), valP (a ++ b) k = (valP a k).or (valP b k)
  | [], b => by simp [valP]
  | (c, y) :: r, b => by
    rw [List.cons_append, valP_cons, valP_cons, valP_app k r b]
    by_cases e : c = k <;> simp [e]
theorem valP_put {κ : Type} [DecidableEq κ] (kvs : List (κ × PV)) (k j : κ) (v : PV) : valP (putP kvs k v) j = if j = k then some v else valP kvs j := by
  unfold putP
  rw [any_valP]
  cases h : valP kvs k with
  | none =>
    simp only [Option.isSome_none, Bool.false_eq_true, if_false]
    rw [valP_app, valP_cons]
    by_cases e : j = k
    · subst e; rw [h]; simp
    · have e' : ¬ k = j := fun z => e z.symm
      rw [if_neg e, if_neg e']; simp [valP]
  | some y =>
    simp only [Option.isSome_some, if_true]
    rw [valP_over]
    by_cases e : j = k
    · subst e; rw [h]; simp
    · simp [e]
theorem putP_len {κ : Type} [DecidableEq κ] (kvs : List (κ × PV)) (k : κ) (v : PV) : (putP kvs k v).length ≤ kvs.length + 1 := by
  unfold putP
  split <;> simp
theorem DcR.put {kvs : List (Key × PV)} {R : Nat → Bool} (h : DcR kvs R) (a : Nat) (v : PV) : DcR (putP kvs (Sum.inl (a : Int)) v) (addB a R) := fun x => by
  rw [valP_put]
  by_cases e : x = a
  · subst e; rw [if_pos rfl]; simp [addB]
  · rw [if_neg (fun z => e (by injection z with z; omega)), h x]
    simp [addB, e]
theorem step_yes {s : Nat × Nat} {R : Nat → Bool} (h : (R s.1 || R s.2) = true) : addB s.2 (addB s.1 R) = stepB s R := by
  funext x
  unfold addB stepB
  rw [h]
  cases R x <;> simp
theorem step_no {s : Nat × Nat} {R : Nat → Bool} (h : (R s.1 || R s.2) = false) : stepB s R = R := by
  funext x
  unfold stepB
  rw [h]; simp
def endsL (ord : List Nat) (R : Nat → Bool) (n : Nat) : List Nat := (List.range n).filter fun i => R (ord.getD i 0)
theorem endsL_succ (ord : List Nat) (R : Nat → Bool) (n : Nat) : endsL ord R (n + 1) = if R (ord.getD n 0) = true then endsL ord R n ++ [n] else endsL ord R n := by
  unfold endsL
  rw [List.range_succ, List.filter_append, List.filter_cons]
  split <;> simp
def fwdN (N : Net) (u : Nat) : List Nat := endsL N.ord (reachB N.sw (only u)) N.ord.length
theorem rInW_dct {neg : Bool} {x : Nat} {k : Nat} {kvs : List (Key × PV)} {S : Sto} {Q : WQ} (h : S[k]? = some (.dct kvs)) : rInW neg (.int (x : Int)) (.ref k) S Q = Q (.bl (neg ^^ (valP kvs (Sum.inl (x : Int))).isSome)) S := by
  unfold rInW
  apply propext
  constructor
  · rintro (⟨b, xs, h1, _⟩ | ⟨i, kvs', c, h1, h2, h3, q⟩ | ⟨a, b, h1, _⟩)
    · simp only [seqW, h] at h1; cases h1
    · cases h1; rw [h] at h2; cases h2; cases h3; exact q
    · cases h1
  · exact fun q => .inr (.inl ⟨k, kvs, Sum.inl (x : Int), rfl, h, rfl, q⟩)
theorem put_dct {k : Nat} {kvs : List (Key × PV)} {i v : PV} {y : Key} {S : Sto} {Q : Sto → Prop} (h : S[k]? = some (.dct kvs)) (hy : keyW i = some y) (hl : kvs.length < 16777216) (q : Q (S.set k (.dct (putP kvs y v)))) : rSetW (.ref k) i v S Q :=
  .inr ⟨k, kvs, y, rfl, h, hy, hl, q⟩
section
variable {P : Program} {w : World} {K : PySem.W.Frag} {mg : Str → Option Value} {base : Heap}
def wEnds : WC := fun vs S Q => ∃ a : Net × Nat, vs = [netP a.1, natP a.2] ∧ (a.1.sw.length ≤ 1000 ∧ a.1.ord.length ≤ 1000) ∧ ∀ kvs, Q (.ref (S.length + 1)) (S ++ [.dct kvs, .lst ((fwdN a.1 a.2).map natP)])
theorem mo_ends : MoC wEnds := fun xs S Q Q' ⟨a, e, h1, q⟩ k => ⟨a, e, h1, fun kvs => k _ _ (q kvs)⟩
abbrev s_ends_from : Stmt := top 6
theorem sc_ends_from : FnScope ["net", "wire", "width", "switches", "order", "reached", "a", "b", "end", "at"] ["net", "wire"] (defScope s_ends_from) := ⟨rfl, rfl, rfl, by decide +kernel, rfl, by decide +kernel, by decide +kernel⟩
set_option maxHeartbeats 1000000 in
theorem ok_ends_from {f : Addr} {fd : FuncData} (F : Fun K "ends_from" "ends_from" s_ends_from f fd) (T : Tn mg)  : FnOk P w K mg base CX0 1 f fd ["net", "wire"] (spW Ts K wEnds) := by
  refine ok_body (k := 0) F sc_ends_from (fun pvs S Q h => by obtain ⟨a, rfl, _⟩ := h; rfl) (fun cdv A outer s H E hr => ?_)
  have hu := hu_of hr
  refine ⟨_, (sss_cons (ss_asg (vs := [2, 3, 4]) (sv 0) (pg_tup (n := 3) rfl (pgs_cons (pg_name (i := 2) sc_ends_from.nd rfl (by first | exact Or.inl rfl | exact Or.inr rfl)) (pgs_cons (pg_name (i := 3) sc_ends_from.nd rfl (by first | exact Or.inl rfl | exact Or.inr rfl)) (pgs_cons (pg_name (i := 4) sc_ends_from.nd rfl (by first | exact Or.inl rfl | exact Or.inr rfl)) pgs_nil)))) (gr_tup (gr_cons (gr_name (i := 2) (by decide)) (gr_cons (gr_name (i := 3) (by decide)) (gr_cons (gr_name (i := 4) (by decide)) gr_nil)))) (mg_tup (mg_cons (mg_name _) (mg_cons (mg_name _) (mg_cons (mg_name _) mg_nil)))))
      (sss_cons (ss_set (i := 5) sc_ends_from.nd rfl (by first | exact Or.inl rfl | exact Or.inr rfl) (se_disp (spp_cons (sv 1) se_bl spp_nil) (by rfl) (by rfl) (fun z => by cases z) (by decide)))
      (sss_cons (ss_for (vs := [6, 7]) PassesOwn.never rfl (si_seq (sv 3)) (pg_tup (n := 2) rfl (pgs_cons (pg_name (i := 6) sc_ends_from.nd rfl (by first | exact Or.inl rfl | exact Or.inr rfl)) (pgs_cons (pg_name (i := 7) sc_ends_from.nd rfl (by first | exact Or.inl rfl | exact Or.inr rfl)) pgs_nil))) (gr_tup (gr_cons (gr_name (i := 6) (by decide)) (gr_cons (gr_name (i := 7) (by decide)) gr_nil))) (mg_tup (mg_cons (mg_name _) (mg_cons (mg_name _) mg_nil))) (sss_one (ss_if (SW.st (sw_or (st_cmp (s_in hu) (sv 6) (sv 5) (by rfl)) (sw_or1 (st_cmp (s_in hu) (sv 7) (sv 5) (by rfl))))) (sss_cons (ss_put hu (sv 5) (sv 6) se_bl)
      (sss_one (ss_put hu (sv 5) (sv 7) se_bl))) sss_nil)))
      (sss_one (ss_ret (se_lc (own := [("end", 8), ("at", 9)]) (g := (gTup K 2 (gCons (gName 8) (gCons (gName 9) gNil)))) rfl sc_ends_from.nd (si_enum (by rfl) T.enumerate_ (sa_cons (sv 4) sa_nil)) (blkOk_by (own := [("end", 8), ("at", 9)]) (N := ["net", "wire", "width", "switches", "order", "reached", "a", "b", "end", "at"]) (sc := defScope s_ends_from) (by decide +kernel)) (fun _ _ _ _ _ => (pg_tup' (n := 2) (K := K) rfl rfl (pgs_cons (pg_name (i := 8) sc_ends_from.nd rfl (by first | exact Or.inl rfl | exact Or.inr rfl)) (pgs_cons (pg_name (i := 9) sc_ends_from.nd rfl (by first | exact Or.inl rfl | exact Or.inr rfl)) pgs_nil)))) (gr_tup (gr_cons (gr_name (i := 8) (by decide)) (gr_cons (gr_name (i := 9) (by decide)) gr_nil))) (mg_tup (mg_cons (mg_name _) (mg_cons (mg_name _) mg_nil))) (fun _ _ _ _ _ => (sts_one (st_cmp (s_in hu) (sv 9) (sv 5) (by rfl)))) (fun _ _ _ _ _ => (sv 8)))))))), fun pvs S Q hcl hca h => ?_⟩
  obtain ⟨⟨N, u⟩, rfl, ⟨hl, ho⟩, h⟩ := h
  dsimp only at hl ho h
  simp only [wSeq, wAsg, wRet, wRetN, wDrop, wIfS, wVar, wC, wOp, wCall, wCons, wNil, wTup, wTest, wAnd, wOr, wNot, wAndV, wOrV, wNotV, wIf, wNext, wgName, wgTup, wgCons, wgNil, wFor, wSq, wYes, wLcU, wLcV, wLc, uTuple, uAll, uAny, uSum, wNeg, wSl, wPart, wNoPart, rSlW_tup, isNonP, seqW_tup, wLst, wipeW, wPar, wPut, wAug, wZip, wEnum, wRng1, wRng2, wChain, List.getElem?_cons_zero, List.getElem?_cons_succ, List.set_cons_zero, List.set_cons_succ, Option.some.injEq, exists_eq_left', exists_eq_left, exists_and_left, exists_eq_right, exists_eq_right', and_assoc, true_and, and_true, List.cons.injEq, and_self, if_true, if_false, Bool.false_eq_true, PV.int.injEq, PV.bl.injEq, PV.tup.injEq, PV.ref.injEq, PV.str.injEq, Bool.false_xor, Bool.true_xor, List.length_cons, List.length_nil, Nat.reduceAdd, Nat.reduceLeDiff, Nat.reduceEqDiff, Prod.mk.injEq, cutP_map, cutP_0, cutP_1, cutP_2, cutP_all, decide_eq_true_eq, startW, endsW, List.map_cons, List.map_nil, List.cons_append, List.nil_append, List.replicate, Nat.reduceSub, rIxW_tup, rLenW_tup, rListW_tup, wMeth, wRngL, wRngT, rIsiW_eq, tyP_non, tyP_bl, tyP_int, tyP_str, tyP_tup, isi_NoneType_int, isi_NoneType_bool, isi_NoneType_str, isi_NoneType_list, isi_NoneType_tuple, isi_NoneType_dict, isi_bool_int, isi_bool_bool, isi_bool_str, isi_bool_list, isi_bool_tuple, isi_bool_dict, isi_int_int, isi_int_bool, isi_int_str, isi_int_list, isi_int_tuple, isi_int_dict, isi_str_int, isi_str_bool, isi_str_str, isi_str_list, isi_str_tuple, isi_str_dict, isi_tuple_int, isi_tuple_bool, isi_tuple_str, isi_tuple_list, isi_tuple_tuple, isi_tuple_dict, isi_list_int, isi_list_bool, isi_list_str, isi_list_list, isi_list_tuple, isi_list_dict, isi_dict_int, isi_dict_bool, isi_dict_str, isi_dict_list, isi_dict_tuple, isi_dict_dict, decide_true, decide_false, Bool.not_true, Bool.not_false, Bool.not_eq_true', decide_eq_false_iff_not, ite_not, natP, swP, natsP, intsP, atI_0, atI_1, atI_2, atI_3, wLcU2, wLcV2, wTupZip, wZipN, wStep, wRev, wMaxD, wMinD, rInW_ints, rEqW_ii, rEqW_bb, rEqW_ss, rIsW_n, rIsW_bb, rAddW_ii, rAddW_ss, rAddW_tt, rIW_ii, rI0W_ii, rMulW_ii, rMulW_ti, rIntW_i, rIntW_b, rMax2W_ii, rMin2W_ii, netP, wDisp, wPairs, keysW, keyW, mergeP, get_new1, List.foldl]
  rw [set_new]
  refine loop_map (fun i τ' S' => (∃ x6 x7 x8 x9, τ' = [some (PV.tup [PV.int ↑N.w, PV.tup (List.map swP N.sw), PV.tup (List.map natP N.ord)]), some (PV.int ↑u), some (PV.int ↑N.w), some (PV.tup (List.map swP N.sw)), some (PV.tup (List.map natP N.ord)), some (PV.ref S.length), x6, x7, x8, x9]) ∧ ∃ kvs, S' = S ++ [.dct kvs] ∧ kvs.length ≤ 1 + 2 * i ∧ DcR kvs (reachB (N.sw.take i) (only u))) ⟨⟨_, _, _, _, rfl⟩, _, rfl, by simp [putP], ?_⟩ ?_ ?_
  · intro x
    by_cases e : x = u
    · subst e; simp [putP, valP, reachB, only]
    · have : ¬ (u : Int) = (x : Int) := by omega
      simp [putP, valP, reachB, only, this, e]
  · rintro i s1 τ' S' R hi ⟨⟨x6, x7, x8, x9, rfl⟩, kvs, rfl, hk, hD⟩ hR
    have hil := (List.getElem?_eq_some_iff.mp hi).1
    have rs := reachB_snoc hi (only u)
    refine ⟨trivial, ?_⟩
    simp only [wSeq, wAsg, wRet, wRetN, wDrop, wIfS, wVar, wC, wOp, wCall, wCons, wNil, wTup, wTest, wAnd, wOr, wNot, wAndV, wOrV, wNotV, wIf, wNext, wgName, wgTup, wgCons, wgNil, wFor, wSq, wYes, wLcU, wLcV, wLc, uTuple, uAll, uAny, uSum, wNeg, wSl, wPart, wNoPart, rSlW_tup, isNonP, seqW_tup, wLst, wipeW, wPar, wPut, wAug, wZip, wEnum, wRng1, wRng2, wChain, List.getElem?_cons_zero, List.getElem?_cons_succ, List.set_cons_zero, List.set_cons_succ, Option.some.injEq, exists_eq_left', exists_eq_left, exists_and_left, exists_eq_right, exists_eq_right', and_assoc, true_and, and_true, List.cons.injEq, and_self, if_true, if_false, Bool.false_eq_true, PV.int.injEq, PV.bl.injEq, PV.tup.injEq, PV.ref.injEq, PV.str.injEq, Bool.false_xor, Bool.true_xor, List.length_cons, List.length_nil, Nat.reduceAdd, Nat.reduceLeDiff, Nat.reduceEqDiff, Prod.mk.injEq, cutP_map, cutP_0, cutP_1, cutP_2, cutP_all, decide_eq_true_eq, startW, endsW, List.map_cons, List.map_nil, List.cons_append, List.nil_append, List.replicate, Nat.reduceSub, rIxW_tup, rLenW_tup, rListW_tup, wMeth, wRngL, wRngT, rIsiW_eq, tyP_non, tyP_bl, tyP_int, tyP_str, tyP_tup, isi_NoneType_int, isi_NoneType_bool, isi_NoneType_str, isi_NoneType_list, isi_NoneType_tuple, isi_NoneType_dict, isi_bool_int, isi_bool_bool, isi_bool_str, isi_bool_list, isi_bool_tuple, isi_bool_dict, isi_int_int, isi_int_bool, isi_int_str, isi_int_list, isi_int_tuple, isi_int_dict, isi_str_int, isi_str_bool, isi_str_str, isi_str_list, isi_str_tuple, isi_str_dict, isi_tuple_int, isi_tuple_bool, isi_tuple_str, isi_tuple_list, isi_tuple_tuple, isi_tuple_dict, isi_list_int, isi_list_bool, isi_list_str, isi_list_list, isi_list_tuple, isi_list_dict, isi_dict_int, isi_dict_bool, isi_dict_str, isi_dict_list, isi_dict_tuple, isi_dict_dict, decide_true, decide_false, Bool.not_true, Bool.not_false, Bool.not_eq_true', decide_eq_false_iff_not, ite_not, natP, swP, natsP, intsP, atI_0, atI_1, atI_2, atI_3, wLcU2, wLcV2, wTupZip, wZipN, wStep, wRev, wMaxD, wMinD, rInW_ints, rEqW_ii, rEqW_bb, rEqW_ss, rIsW_n, rIsW_bb, rAddW_ii, rAddW_ss, rAddW_tt, rIW_ii, rI0W_ii, rMulW_ii, rMulW_ti, rIntW_i, rIntW_b, rMax2W_ii, rMin2W_ii, (rInW_dct (get_new1 S (.dct kvs))), hD s1.1, hD s1.2]
    have two : ∀ τ'' : Ev, (reachB (N.sw.take i) (only u) s1.1 || reachB (N.sw.take i) (only u) s1.2) = true → (∃ x6 x7 x8 x9, τ'' = [some (PV.tup [PV.int ↑N.w, PV.tup (List.map swP N.sw), PV.tup (List.map natP N.ord)]), some (PV.int ↑u), some (PV.int ↑N.w), some (PV.tup (List.map swP N.sw)), some (PV.tup (List.map natP N.ord)), some (PV.ref S.length), x6, x7, x8, x9]) → rSetW (PV.ref S.length) (PV.int ↑s1.1) (PV.bl true) (S ++ [Ob.dct kvs]) fun S4 => rSetW (PV.ref S.length) (PV.int ↑s1.2) (PV.bl true) S4 fun S4 => R τ'' S4 := by
      intro τ'' hc hτ
      refine put_dct (get_new1 S _) rfl (by omega) ?_
      rw [set_new]
      have l1 := putP_len kvs (Sum.inl (s1.1 : Int)) (PV.bl true)
      refine put_dct (get_new1 S _) rfl (by omega) ?_
      rw [set_new]
      have l2 := putP_len (putP kvs (Sum.inl (s1.1 : Int)) (PV.bl true)) (Sum.inl (s1.2 : Int)) (PV.bl true)
      refine hR _ _ ⟨hτ, _, rfl, by omega, ?_⟩
      rw [rs, ← step_yes hc]
      exact (hD.put s1.1 _).put s1.2 _
    by_cases c1 : reachB (N.sw.take i) (only u) s1.1 = true
    · rw [if_pos c1]
      exact two _ (by rw [c1]; rfl) ⟨_, _, _, _, rfl⟩
    · rw [if_neg c1]
      by_cases c2 : reachB (N.sw.take i) (only u) s1.2 = true
      · rw [if_pos c2]
        exact two _ (by rw [c2]; simp) ⟨_, _, _, _, rfl⟩
      · rw [if_neg c2]
        refine hR _ _ ⟨⟨_, _, _, _, rfl⟩, _, rfl, by omega, ?_⟩
        rw [rs, step_no (by rw [Bool.eq_false_iff.mpr c1, Bool.eq_false_iff.mpr c2]; rfl)]
        exact hD
  · rintro τ' S' ⟨⟨x6, x7, x8, x9, rfl⟩, kvs, rfl, hk, hD⟩
    refine ⟨trivial, ?_⟩
    rw [List.take_length] at hD
    simp only [wSeq, wAsg, wRet, wRetN, wDrop, wIfS, wVar, wC, wOp, wCall, wCons, wNil, wTup, wTest, wAnd, wOr, wNot, wAndV, wOrV, wNotV, wIf, wNext, wgName, wgTup, wgCons, wgNil, wFor, wSq, wYes, wLcU, wLcV, wLc, uTuple, uAll, uAny, uSum, wNeg, wSl, wPart, wNoPart, rSlW_tup, isNonP, seqW_tup, wLst, wipeW, wPar, wPut, wAug, wZip, wEnum, wRng1, wRng2, wChain, List.getElem?_cons_zero, List.getElem?_cons_succ, List.set_cons_zero, List.set_cons_succ, Option.some.injEq, exists_eq_left', exists_eq_left, exists_and_left, exists_eq_right, exists_eq_right', and_assoc, true_and, and_true, List.cons.injEq, and_self, if_true, if_false, Bool.false_eq_true, PV.int.injEq, PV.bl.injEq, PV.tup.injEq, PV.ref.injEq, PV.str.injEq, Bool.false_xor, Bool.true_xor, List.length_cons, List.length_nil, Nat.reduceAdd, Nat.reduceLeDiff, Nat.reduceEqDiff, Prod.mk.injEq, cutP_map, cutP_0, cutP_1, cutP_2, cutP_all, decide_eq_true_eq, startW, endsW, List.map_cons, List.map_nil, List.cons_append, List.nil_append, List.replicate, Nat.reduceSub, rIxW_tup, rLenW_tup, rListW_tup, wMeth, wRngL, wRngT, rIsiW_eq, tyP_non, tyP_bl, tyP_int, tyP_str, tyP_tup, isi_NoneType_int, isi_NoneType_bool, isi_NoneType_str, isi_NoneType_list, isi_NoneType_tuple, isi_NoneType_dict, isi_bool_int, isi_bool_bool, isi_bool_str, isi_bool_list, isi_bool_tuple, isi_bool_dict, isi_int_int, isi_int_bool, isi_int_str, isi_int_list, isi_int_tuple, isi_int_dict, isi_str_int, isi_str_bool, isi_str_str, isi_str_list, isi_str_tuple, isi_str_dict, isi_tuple_int, isi_tuple_bool, isi_tuple_str, isi_tuple_list, isi_tuple_tuple, isi_tuple_dict, isi_list_int, isi_list_bool, isi_list_str, isi_list_list, isi_list_tuple, isi_list_dict, isi_dict_int, isi_dict_bool, isi_dict_str, isi_dict_list, isi_dict_tuple, isi_dict_dict, decide_true, decide_false, Bool.not_true, Bool.not_false, Bool.not_eq_true', decide_eq_false_iff_not, ite_not, natP, swP, natsP, intsP, atI_0, atI_1, atI_2, atI_3, wLcU2, wLcV2, wTupZip, wZipN, wStep, wRev, wMaxD, wMinD, rInW_ints, rEqW_ii, rEqW_bb, rEqW_ss, rIsW_n, rIsW_bb, rAddW_ii, rAddW_ss, rAddW_tt, rIW_ii, rI0W_ii, rMulW_ii, rMulW_ti, rIntW_i, rIntW_b, rMax2W_ii, rMin2W_ii]
    refine ⟨by rw [enumP_length, List.length_map]; omega, ?_⟩
    refine lc_inv (fun i acc S' => S' = S ++ [.dct kvs] ∧ acc = (endsL N.ord (reachB N.sw (only u)) i).map natP) ?_ ?_ ⟨rfl, rfl⟩
    · rintro i x acc S' R hx ⟨rfl, rfl⟩ hR
      obtain ⟨y, hy, rfl⟩ := enumP_get hx
      rw [List.getElem?_map] at hy
      cases q : N.ord[i]? with
      | none => rw [q] at hy; cases hy
      | some z =>
        rw [q] at hy; cases hy
        have gz : N.ord.getD i 0 = z := by rw [List.getD_eq_getElem?_getD, q]; rfl
        refine ⟨trivial, ?_⟩
        simp only [wSeq, wAsg, wRet, wRetN, wDrop, wIfS, wVar, wC, wOp, wCall, wCons, wNil, wTup, wTest, wAnd, wOr, wNot, wAndV, wOrV, wNotV, wIf, wNext, wgName, wgTup, wgCons, wgNil, wFor, wSq, wYes, wLcU, wLcV, wLc, uTuple, uAll, uAny, uSum, wNeg, wSl, wPart, wNoPart, rSlW_tup, isNonP, seqW_tup, wLst, wipeW, wPar, wPut, wAug, wZip, wEnum, wRng1, wRng2, wChain, List.getElem?_cons_zero, List.getElem?_cons_succ, List.set_cons_zero, List.set_cons_succ, Option.some.injEq, exists_eq_left', exists_eq_left, exists_and_left, exists_eq_right, exists_eq_right', and_assoc, true_and, and_true, List.cons.injEq, and_self, if_true, if_false, Bool.false_eq_true, PV.int.injEq, PV.bl.injEq, PV.tup.injEq, PV.ref.injEq, PV.str.injEq, Bool.false_xor, Bool.true_xor, List.length_cons, List.length_nil, Nat.reduceAdd, Nat.reduceLeDiff, Nat.reduceEqDiff, Prod.mk.injEq, cutP_map, cutP_0, cutP_1, cutP_2, cutP_all, decide_eq_true_eq, startW, endsW, List.map_cons, List.map_nil, List.cons_append, List.nil_append, List.replicate, Nat.reduceSub, rIxW_tup, rLenW_tup, rListW_tup, wMeth, wRngL, wRngT, rIsiW_eq, tyP_non, tyP_bl, tyP_int, tyP_str, tyP_tup, isi_NoneType_int, isi_NoneType_bool, isi_NoneType_str, isi_NoneType_list, isi_NoneType_tuple, isi_NoneType_dict, isi_bool_int, isi_bool_bool, isi_bool_str, isi_bool_list, isi_bool_tuple, isi_bool_dict, isi_int_int, isi_int_bool, isi_int_str, isi_int_list, isi_int_tuple, isi_int_dict, isi_str_int, isi_str_bool, isi_str_str, isi_str_list, isi_str_tuple, isi_str_dict, isi_tuple_int, isi_tuple_bool, isi_tuple_str, isi_tuple_list, isi_tuple_tuple, isi_tuple_dict, isi_list_int, isi_list_bool, isi_list_str, isi_list_list, isi_list_tuple, isi_list_dict, isi_dict_int, isi_dict_bool, isi_dict_str, isi_dict_list, isi_dict_tuple, isi_dict_dict, decide_true, decide_false, Bool.not_true, Bool.not_false, Bool.not_eq_true', decide_eq_false_iff_not, ite_not, natP, swP, natsP, intsP, atI_0, atI_1, atI_2, atI_3, wLcU2, wLcV2, wTupZip, wZipN, wStep, wRev, wMaxD, wMinD, rInW_ints, rEqW_ii, rEqW_bb, rEqW_ss, rIsW_n, rIsW_bb, rAddW_ii, rAddW_ss, rAddW_tt, rIW_ii, rI0W_ii, rMulW_ii, rMulW_ti, rIntW_i, rIntW_b, rMax2W_ii, rMin2W_ii, (rInW_dct (get_new1 S (.dct kvs))), hD z]
        by_cases c : reachB N.sw (only u) z = true
        · rw [if_pos c]
          refine hR _ _ ⟨rfl, ?_⟩
          rw [endsL_succ, gz, if_pos c, List.map_append]; rfl
        · rw [if_neg c]
          refine hR _ _ ⟨rfl, ?_⟩
          rw [endsL_succ, gz, if_neg c]
    · rintro acc S' ⟨rfl, rfl⟩
      refine ⟨trivial, ?_⟩
      rw [enumP_length, List.length_map]
      have := h kvs
      have e : List.length (S ++ [Ob.dct kvs]) = S.length + 1 := by simp
      rw [e, List.append_assoc]
      exact fg_here this
end
end L4
set_option Elab.async false
set_option linter.all false
set_option maxRecDepth 100000
namespace L4
open PySem PySem.Spec PyProof.Rows L2 L3
def fullN (N : Net) : Bool := (List.range (dpM N.sw N.sw.length)).all fun l => decide (2 * ((L3.rowM N.sw N.sw.length l).length : Int) = (N.w : Int))
section
variable {P : Program} {w : World} {K : PySem.W.Frag} {mg : Str → Option Value} {base : Heap}
def wFull : WC := ctrF (fun N : Net => [netP N]) (fun N _ => N.w ≤ 16 ∧ (∀ s ∈ N.sw, s.1 < N.w ∧ s.2 < N.w) ∧ N.sw.length ≤ 1000) (fun N => .bl (fullN N))
abbrev s_is_full : Stmt := top 5
theorem sc_is_full : FnScope ["net"] ["net"] (defScope s_is_full) := ⟨rfl, rfl, rfl, by decide +kernel, rfl, by decide +kernel, by decide +kernel⟩
set_option maxHeartbeats 1000000 in
theorem ok_is_full {f PT : Addr} {oc : Value} {od an : Option Addr} {osl : Array (Option Value)} {kV doc pm cdv ct : Value} (lk : K.lookup f = some ⟨oc, od, .func (PySem.W.fnOf "is_full" "is_full" (defArgs s_is_full) (defBody s_is_full) (defScope s_is_full) .none kV doc pm an cdv ct), osl⟩) (hcd : PySem.W.codeIn K cdv "is_full" = true) (CK : CodeK K cdv PT) (hM : ∃ bm ob, BMod base mainGlobals mg bm ob) (hPT : PT ∈ Ts) (hPK : K.lookup PT = none) (T : Tn mg) (D_layers : DefW Ts P w K mg base "layers" 1 ["net"] wLayers) : FnOk P w K mg base CX0 2 f (PySem.W.fnOf "is_full" "is_full" (defArgs s_is_full) (defBody s_is_full) (defScope s_is_full) .none kV doc pm an cdv ct) ["net"] (spW Ts K wFull) := by
  refine ok_bodyC (k := 1) lk hcd sc_is_full (fun pvs S Q h => by obtain ⟨a, rfl, _⟩ := h; rfl) (fun A outer s H E hr => ?_)
  have hu := hu_of hr
  refine ⟨_, (sss_one (ss_ret (se_full rfl rfl (by rfl) T.all_ T.len_ CK hM hr.depth hPT hPK rfl rfl (.inr (.inl rfl)) rfl (by decide +kernel) rfl rfl rfl rfl rfl (fun _ => rfl) (sc := defScope s_is_full) rfl (by decide +kernel) (se_def D_layers (hr.mono (by first | decide | omega)) (by rfl) (sa_cons (sv 0) sa_nil))))), fun pvs S Q hcl hca h => ?_⟩
  obtain ⟨N, rfl, h1, h⟩ := h
  simp only [wSeq, wAsg, wRet, wRetN, wDrop, wIfS, wVar, wC, wOp, wCall, wCons, wNil, wTup, wTest, wAnd, wOr, wNot, wAndV, wOrV, wNotV, wIf, wNext, wgName, wgTup, wgCons, wgNil, wFor, wSq, wYes, wLcU, wLcV, wLc, uTuple, uAll, uAny, uSum, wNeg, wSl, wPart, wNoPart, rSlW_tup, isNonP, seqW_tup, wLst, wipeW, wPar, wPut, wAug, wZip, wEnum, wRng1, wRng2, wChain, List.getElem?_cons_zero, List.getElem?_cons_succ, List.set_cons_zero, List.set_cons_succ, Option.some.injEq, exists_eq_left', exists_eq_left, exists_and_left, exists_eq_right, exists_eq_right', and_assoc, true_and, and_true, List.cons.injEq, and_self, if_true, if_false, Bool.false_eq_true, PV.int.injEq, PV.bl.injEq, PV.tup.injEq, PV.ref.injEq, PV.str.injEq, Bool.false_xor, Bool.true_xor, List.length_cons, List.length_nil, Nat.reduceAdd, Nat.reduceLeDiff, Nat.reduceEqDiff, Prod.mk.injEq, cutP_map, cutP_0, cutP_1, cutP_2, cutP_all, decide_eq_true_eq, startW, endsW, List.map_cons, List.map_nil, List.cons_append, List.nil_append, List.replicate, Nat.reduceSub, rIxW_tup, rLenW_tup, rListW_tup, wMeth, wRngL, wRngT, rIsiW_eq, tyP_non, tyP_bl, tyP_int, tyP_str, tyP_tup, isi_NoneType_int, isi_NoneType_bool, isi_NoneType_str, isi_NoneType_list, isi_NoneType_tuple, isi_NoneType_dict, isi_bool_int, isi_bool_bool, isi_bool_str, isi_bool_list, isi_bool_tuple, isi_bool_dict, isi_int_int, isi_int_bool, isi_int_str, isi_int_list, isi_int_tuple, isi_int_dict, isi_str_int, isi_str_bool, isi_str_str, isi_str_list, isi_str_tuple, isi_str_dict, isi_tuple_int, isi_tuple_bool, isi_tuple_str, isi_tuple_list, isi_tuple_tuple, isi_tuple_dict, isi_list_int, isi_list_bool, isi_list_str, isi_list_list, isi_list_tuple, isi_list_dict, isi_dict_int, isi_dict_bool, isi_dict_str, isi_dict_list, isi_dict_tuple, isi_dict_dict, decide_true, decide_false, Bool.not_true, Bool.not_false, Bool.not_eq_true', decide_eq_false_iff_not, ite_not, natP, swP, natsP, intsP, atI_0, atI_1, atI_2, atI_3, wLcU2, wLcV2, wTupZip, wZipN, wStep, wRev, wMaxD, wMinD, rInW_ints, rEqW_ii, rEqW_bb, rEqW_ss, rIsW_n, rIsW_bb, rAddW_ii, rAddW_ss, rAddW_tt, rIW_ii, rI0W_ii, rMulW_ii, rMulW_ti, rIntW_i, rIntW_b, rMax2W_ii, rMin2W_ii]
  show wFullE _ _ _ _
  unfold wFullE
  simp only [wCall, wCons, wNil, wVar, List.getElem?_cons_zero, Option.some.injEq, exists_eq_left']
  refine ⟨N, rfl, h1, ?_⟩
  have gT : (S ++ layG S.length N.sw N.w N.sw.length (dpM N.sw N.sw.length))[S.length + 2]? = some (.lst (refsP S.length (dpM N.sw N.sw.length))) := get_off
  refine ⟨S.length + 2, (List.range (dpM N.sw N.sw.length)).map (fun l => S.length + 3 + l), fun l => (L3.rowM N.sw N.sw.length l).map natP, (N.w : Int), [.tup (N.sw.map swP), natsP N.ord], rfl, ?_, fun i r hr => ?_, rfl, ?_⟩
  · rw [gT]; unfold refsP; rw [List.map_map]; rfl
  · rw [List.getElem?_map] at hr
    have hi : i < dpM N.sw N.sw.length := by
      cases e : (List.range (dpM N.sw N.sw.length))[i]? with
      | none => rw [e] at hr; cases hr
      | some z => have := (List.getElem?_eq_some_iff.mp e).1; simpa using this
    rw [List.getElem?_range hi] at hr
    cases hr
    dsimp only
    rw [Nat.add_assoc, get_off, layG_row hi]; rfl
  · have e : (List.range ((List.range (dpM N.sw N.sw.length)).map (fun l => S.length + 3 + l)).length).all (fun i => decide (2 * (((L3.rowM N.sw N.sw.length i).map natP).length : Int) = (N.w : Int))) = fullN N := by
      rw [List.length_map, List.length_range]
      unfold fullN
      simp only [List.length_map]
    rw [e]
    exact fg_drop hcl cl_bl h
end
end L4
set_option Elab.async false
set_option linter.all false
set_option maxRecDepth 100000
namespace L4
open PySem PySem.Spec PyProof.Rows L2 L3
end L4
set_option Elab.async false
set_option linter.all false
set_option maxRecDepth 100000
namespace L4
open PySem PySem.Spec PyProof.Rows L2 L3
end L4
set_option Elab.async false
set_option linter.all false
set_option maxRecDepth 100000
namespace L4
open PySem PySem.Spec PyProof.Rows L2 L3
end L4
set_option Elab.async false
set_option linter.all false
set_option maxRecDepth 100000
namespace L3
open PySem PySem.Spec PyProof.Rows L2
section
variable {X : Cx} {pins : List (Addr × Obj)} {σ : L2.St} {H : Hp} {s : Shared}
end
section
variable {X : Cx}
end
end L3
set_option Elab.async false
set_option linter.all false
set_option maxRecDepth 100000
namespace L4
open PySem PySem.Spec PyProof.Rows L2 L3
section
variable {K : PySem.W.Frag} {M M' : Map} {S : Sto} {n n' : Nat} {H H' H0 : Hp} {D : Addr} {o : HO} {us us' : List (Key × V)}
end
section
variable {X : Cx} {tg iter kx vx : Expr} {ifs : List Expr} {scope : Scope} {own : List (Str × Nat)} {pos : Pos} {wi : WI} {g : TG} {wg : WG} {wt : WT} {wk wv : WE}
end
end L4
set_option Elab.async false
set_option linter.all false
set_option maxRecDepth 100000
namespace L3
open PySem PySem.Spec PyProof.Rows L2
section
variable {prog : Program} {w : World} {A : Around} {E : Value → Shared → Prop} {s : Shared}
end
section
variable {X : Cx} {e c u : Expr} {te : TE} {pos p2 : Pos}
end
end L3
set_option Elab.async false
set_option linter.all false
set_option maxRecDepth 100000
namespace L4
open PySem PySem.Spec PyProof.Rows L2 L3
section
variable {Ts : List Addr} {X : Cx} {a : Expr} {wa : WE} {pos : Pos}
end
end L4
set_option Elab.async false
set_option linter.all false
set_option maxRecDepth 100000
namespace L3
open PySem PySem.Spec PyProof PyProof.Rows L2
def UpN (l : List Nat) : Prop := l.Pairwise (· < ·)
theorem UpN.at {xs : Array Nat} (u : UpN xs.toList) {i j : Nat} (h : i < j) (hj : j < xs.size) : xs.getD i 0 < xs.getD j 0 := by
  have hi : i < xs.size := by omega
  have e := List.pairwise_iff_getElem.mp u i j (by simpa using hi) (by simpa using hj) h
  simpa [Array.getD, hi, hj] using e
theorem getD_any {xs : Array Nat} {i d : Nat} (h : i < xs.size) : xs.getD i d = xs.getD i 0 := by simp [Array.getD, h]
theorem below_go (xs : Array Nat) (j : Nat) (u : UpN xs.toList) : ∀ (fuel lo hi : Nat), hi - lo ≤ fuel → lo ≤ hi → hi ≤ xs.size → (∀ i, i < lo → xs.getD i 0 < j) → (∀ i, hi ≤ i → i < xs.size → j ≤ xs.getD i 0) →
    SetTable.below.go xs j fuel lo hi ≤ xs.size ∧ (∀ i, i < SetTable.below.go xs j fuel lo hi → xs.getD i 0 < j) ∧ (∀ i, SetTable.below.go xs j fuel lo hi ≤ i → i < xs.size → j ≤ xs.getD i 0)
  | 0, lo, hi, h0, h1, h2, h3, h4 => by
    unfold SetTable.below.go
    have e : lo = hi := by omega
    subst e
    exact ⟨h2, h3, h4⟩
  | fuel + 1, lo, hi, h0, h1, h2, h3, h4 => by
    unfold SetTable.below.go
    by_cases hl : lo < hi
    · rw [if_pos hl]
      have hm1 : lo ≤ (lo + hi) / 2 := by omega
      have hm2 : (lo + hi) / 2 < hi := by omega
      have hm3 : (lo + hi) / 2 < xs.size := by omega
      dsimp only
      rw [getD_any hm3]
      by_cases hx : xs.getD ((lo + hi) / 2) 0 < j
      · rw [if_pos hx]
        refine below_go xs j u fuel _ hi (by omega) (by omega) h2 (fun i hi' => ?_) h4
        by_cases e : i = (lo + hi) / 2
        · rw [e]; exact hx
        · have := u.at (show i < (lo + hi) / 2 by omega) hm3
          omega
      · rw [if_neg hx]
        refine below_go xs j u fuel lo _ (by omega) (by omega) (by omega) h3 fun i h5 h6 => ?_
        by_cases e : i = (lo + hi) / 2
        · rw [e]; omega
        · have := u.at (show (lo + hi) / 2 < i by omega) h6
          omega
    · rw [if_neg hl]
      have e : lo = hi := by omega
      subst e
      exact ⟨h2, h3, h4⟩
theorem below_spec {xs : Array Nat} (u : UpN xs.toList) (j : Nat) : SetTable.below xs j ≤ xs.size ∧ (∀ i, i < SetTable.below xs j → xs.getD i 0 < j) ∧ (∀ i, SetTable.below xs j ≤ i → i < xs.size → j ≤ xs.getD i 0) :=
  below_go xs j u xs.size 0 xs.size (by omega) (by omega) (Nat.le_refl _) (fun i h => absurd h (Nat.not_lt_zero _)) fun i h1 h2 => absurd h1 (by omega)
theorem below_eq {xs : Array Nat} (u : UpN xs.toList) {j k : Nat} (hk : k ≤ xs.size) (h1 : ∀ i, i < k → xs.getD i 0 < j) (h2 : ∀ i, k ≤ i → i < xs.size → j ≤ xs.getD i 0) : SetTable.below xs j = k := by
  obtain ⟨a, b, c⟩ := below_spec u j
  by_cases e1 : SetTable.below xs j < k
  · have := c _ (Nat.le_refl _) (by omega)
    have := h1 _ e1
    omega
  · by_cases e2 : k < SetTable.below xs j
    · have := b _ e2
      have := h2 _ (Nat.le_refl _) (by omega)
      omega
    · omega
/-- the place behind the k-th is the next -/
theorem below_next {xs : Array Nat} (u : UpN xs.toList) {k : Nat} (hk : k < xs.size) : SetTable.below xs (xs.getD k 0 + 1) = k + 1 := by
  refine below_eq u hk (fun i h => ?_) fun i h1 h2 => ?_
  · by_cases e : i = k
    · rw [e]; omega
    · have := u.at (show i < k by omega) hk
      omega
  · have := u.at (show k < i by omega) h2
    omega
theorem below_zero {xs : Array Nat} (u : UpN xs.toList) : SetTable.below xs 0 = 0 := below_eq u (Nat.zero_le _) (fun i h => absurd h (Nat.not_lt_zero _)) fun i _ _ => Nat.zero_le _
/-- a table in order -/
def GoodT (bt : Bool) (t : SetTable) : Prop := UpN t.place.toList ∧ t.dummies = #[] ∧ (bt = false → t.led = true)
theorem GoodT.plain {bt : Bool} {t : SetTable} (g : GoodT bt t) (b : Bool) : GoodT bt { t with plain := b } := g
theorem has_none (j : Nat) : SetTable.has #[] j = false := by simp [SetTable.has]
theorem probe_free {t : SetTable} (hd : t.dummies = #[]) (h : Int) : ∀ (fuel : Nat) (p : SetTable.Probe), p.dummy = none → ∀ m, SetTable.probe.go t (fun _ => h + 1) h fuel p = some m → ∃ j, m = .empty j none ∧ t.slot j = .empty
  | 0, p, _, m, e => by unfold SetTable.probe.go at e; cases e
  | fuel + 1, p, hp, m, e => by
    unfold SetTable.probe.go at e
    cases hs : t.slot p.j with
    | empty =>
      rw [hs] at e
      cases e
      exact ⟨p.j, by rw [hp], hs⟩
    | dummy =>
      unfold SetTable.slot at hs
      rw [hd, has_none] at hs
      simp only [Bool.false_eq_true, if_false] at hs
      split at hs <;> cases hs
    | live i =>
      rw [hs] at e
      have hne : (h + 1 == h) = false := by rw [beq_eq_false_iff_ne]; omega
      simp only [hne, Bool.false_eq_true, if_false] at e
      refine probe_free hd h fuel _ ?_ m e
      unfold SetTable.advance
      split <;> exact hp
theorem free_slot {t : SetTable} (hd : t.dummies = #[]) {h : Int} {j : Nat} {b : Bool} (e : t.freeSlot h = some (j, b)) : t.slot j = .empty := by
  unfold SetTable.freeSlot SetTable.probe at e
  cases hq : SetTable.probe.go t (fun _ => h + 1) h (10 * SetTable.turns t.mask) (t.probeStart h) with
  | none => rw [hq] at e; cases e
  | some m =>
    obtain ⟨j', rfl, hs⟩ := probe_free hd h _ _ (by rfl) _ hq
    rw [hq] at e
    cases e
    exact hs
theorem up_insert {xs : Array Nat} (u : UpN xs.toList) {j : Nat} (hn : xs[SetTable.below xs j]? ≠ some j) : UpN (SetTable.insertAt xs (SetTable.below xs j) j).toList := by
  obtain ⟨a, b, c⟩ := below_spec u j
  rw [SetTable.toList_insertAt]
  have lo : ∀ x, x ∈ xs.toList.take (SetTable.below xs j) → x < j := fun x hx => by
    obtain ⟨i, hi, rfl⟩ := List.mem_iff_getElem.mp hx
    rw [List.length_take, Array.length_toList] at hi
    have := b i (by omega)
    rw [List.getElem_take, Array.getElem_toList]
    simpa [Array.getD, show i < xs.size by omega] using this
  have hiX : ∀ x, x ∈ xs.toList.drop (SetTable.below xs j) → j < x := fun x hx => by
    obtain ⟨i, hi, rfl⟩ := List.mem_iff_getElem.mp hx
    rw [List.length_drop, Array.length_toList] at hi
    have hs : SetTable.below xs j + i < xs.size := by omega
    have h1 := c (SetTable.below xs j + i) (by omega) hs
    rw [List.getElem_drop, Array.getElem_toList]
    have h2 : xs.getD (SetTable.below xs j + i) 0 = xs[SetTable.below xs j + i] := by simp [Array.getD, hs]
    rw [h2] at h1
    by_cases e0 : i = 0
    · subst e0
      simp only [Nat.add_zero] at h1 hs ⊢
      rw [Array.getElem?_eq_getElem hs] at hn
      have : xs[SetTable.below xs j] ≠ j := fun z => hn (by rw [z])
      omega
    · have h3 := c (SetTable.below xs j) (Nat.le_refl _) (by omega)
      have h4 := u.at (show SetTable.below xs j < SetTable.below xs j + i by omega) hs
      rw [h2] at h4
      omega
  refine List.pairwise_append.mpr ⟨u.sublist (List.take_sublist _ _), List.pairwise_cons.mpr ⟨fun y hy => hiX y hy, u.sublist (List.drop_sublist _ _)⟩, fun x hx y hy => ?_⟩
  rcases List.mem_cons.mp hy with rfl | hy
  · exact lo x hx
  · have := lo x hx
    have := hiX y hy
    omega
theorem good_put {bt : Bool} {t : SetTable} (g : GoodT bt t) {j : Nat} (hs : t.slot j = .empty) : GoodT bt (t.put j).1 := by
  obtain ⟨u, d, l⟩ := g
  refine ⟨up_insert u ?_, ?_, l⟩
  · intro e
    simp [SetTable.slot, e] at hs
  · show (if SetTable.has t.dummies j then _ else t.dummies) = _
    rw [d, has_none]
    rfl
theorem good_standIn {bt : Bool} {t : SetTable} (g : GoodT bt t) (n : Nat) : GoodT bt (t.standIn n) := by
  refine ⟨?_, rfl, g.2.2⟩
  show UpN (Array.range n).toList
  rw [Array.toList_range]
  exact List.pairwise_lt_range
theorem good_orStandIn {bt : Bool} {t : SetTable} (g : GoodT bt t) (n : Nat) : GoodT bt (t.orStandIn n) := by
  unfold SetTable.orStandIn
  split
  · exact g
  · exact good_standIn g n
theorem good_layNew {bt : Bool} {t : SetTable} (g : GoodT bt t) (es : Array (Int × Value)) (h : Int) (x : Value) : GoodT bt (layNew t es h x).2.1 := by
  unfold layNew
  cases e : t.freeSlot h with
  | none => exact good_standIn g _
  | some p =>
    obtain ⟨j, b⟩ := p
    exact good_orStandIn (good_put g (free_slot g.2.1 e)) _
theorem sub_places (g : Nat → Option Nat) : ∀ l : List Nat, ((l.filterMap fun j => (g j).map (j, ·)).map (·.1)).Sublist l
  | [] => .slnil
  | j :: l => by
    cases e : g j with
    | none => rw [List.filterMap_cons_none (by rw [e]; rfl)]; exact (sub_places g l).cons _
    | some k => rw [List.filterMap_cons_some (b := (j, k)) (by rw [e]; rfl)]; exact (sub_places g l).cons_cons _
theorem good_relayAll {bt : Bool} {t : SetTable} (g : GoodT bt t) (es : Array (Int × Value)) (n : Nat) : GoodT bt (relayAll t es n).2.1 := by
  unfold relayAll
  cases e : t.relaid (es.map (·.1)) n with
  | none => exact good_standIn g _
  | some p =>
    obtain ⟨t', order⟩ := p
    dsimp only
    split
    · unfold SetTable.relaid SetTable.laid at e
      simp only [Option.bind_eq_bind, Option.bind_eq_some_iff] at e
      obtain ⟨owner, _, e⟩ := e
      cases e
      refine ⟨?_, rfl, g.2.2⟩
      show UpN (List.toArray _).toList
      exact (List.pairwise_lt_range (n := _)).sublist (sub_places _ _)
    · exact good_standIn g _
end L3
set_option Elab.async false
set_option linter.all false
set_option maxRecDepth 100000
namespace L3
open PySem PySem.Spec PyProof PyProof.Rows L2
def intOf : Value → Int
  | .int k _ => k
  | _ => 0
def byText (w : World) : Bool := w.params.followText "set-order"
def SetV (prog : Program) (w : World) (h : Heap) (a : Addr) (σ : List Int) : Prop :=
  ∃ o es ep t, h.get? a = some o ∧ o.ExactSet ∧ o.data = .set es ep t ∧ ElemsOf (intKind prog w) es.toList ∧ (es.toList.map fun e => intOf e.2).Perm σ ∧ σ.length < scanBound ∧ t.fits es.size = true ∧ GoodT (byText w) t
section
variable {prog : Program} {w : World} {A : Around} {E : Value → Shared → Prop} {s : Shared} {σ : List Int} {a : Addr}
theorem SetV.at {h h' : Heap} (x : SetV prog w h a σ) (e : ∀ o, h.get? a = some o → h'.get? a = some o) : SetV prog w h' a σ := let ⟨o, es, ep, t, ho, r⟩ := x; ⟨o, es, ep, t, e _ ho, r⟩
theorem SetV.lt {h : Heap} (x : SetV prog w h a σ) : a < h.objs.size := let ⟨_, _, _, _, ho, _⟩ := x; Heap.lt_size ho
theorem SetV.typeIs (x : SetV prog w s.heap a σ) : s.TypeIs (.ref a) "set" := let ⟨o, _, _, _, ho, hx, _⟩ := x; ⟨o, ho, hx.1⟩
theorem isInt_int {k : Int} {v : Value} (h : Value.isInt k v = true) : intOf v = k := by obtain ⟨t, rfl⟩ := Value.isInt_shape h; rfl
/-- what is stored behind a change -/
theorem setV_store {o : Obj} {es : Array (Int × Value)} {ep : Nat} {t : SetTable} {es' : Array (Int × Value)} {t' : SetTable} {h : Heap} (ho : h.get? a = some o) (hex : o.ExactSet) (hd : o.data = .set es ep t)
    (he : ElemsOf (intKind prog w) es'.toList) (hp : (es'.toList.map fun e => intOf e.2).Perm σ) (hl : σ.length < scanBound) (hf : t'.fits es'.size = true) (hg : GoodT (byText w) t') :
    (h.update a (Obj.putSet es' t')).get? a = some { o with data := .set es' (ep + 1) t' } ∧ SetV prog w (h.update a (Obj.putSet es' t')) a σ := by
  have e : (h.update a (Obj.putSet es' t')).get? a = some { o with data := .set es' (ep + 1) t' } := by
    have z := Heap.get?_update_self (Obj.putSet es' t') ho (by rw [putSet_of es' t' hd]; rfl)
    rwa [putSet_of es' t' hd] at z
  exact ⟨e, _, es', ep + 1, t', e, hex, rfl, he, hp, hl, hf, hg⟩
theorem any_of_find {es : List (Int × Value)} {k : Int} (h : ElemsOf (intKind prog w) es) : es.any (fun e => Value.isInt k e.2) = (es.map fun e => intOf e.2).any (· == k) := by
  induction es with
  | nil => rfl
  | cons e es ih =>
    obtain ⟨⟨k', hk, _⟩, _⟩ := h.head
    rw [List.any_cons, List.map_cons, List.any_cons, ih h.tail, show Value.isInt k e.2 = decide (k = k') from KeyKind.is_eq_decide (knd := intKind prog w) hk k, isInt_int hk]
    congr 1
    by_cases z : k = k'
    · rw [z]; simp
    · simp [z, Ne.symm z]
theorem setV_add {k : Int} {tk : Tok} {Q : Bool → Shared → Prop} (hS : SetV prog w s.heap a σ) (hr : σ.length + 1 < scanBound)
    (h : ∀ b h', Heap.SameBut a s.heap h' → SetV prog w h' a (step_dedup σ k) → Q b { s with heap := h' }) :
    wpAny (model prog w) A (setAddHashed a (.int k tk) (hashInt k)) Q E s := by
  obtain ⟨o, es, ep, t, ho, hex, hd, hel, hp, hl, hf, hg⟩ := hS
  have hz : es.size = σ.length := by have := hp.length_eq; rwa [List.length_map, Array.length_toList] at this
  have hb : es.size < scanBound := by omega
  have hkey : (intKind prog w).is k (.int k tk) = true := intKind_is _ _ _ _
  have hany : es.toList.any (fun e => Value.isInt k e.2) = σ.any (· == k) := by
    rw [any_of_find hel]
    cases e : σ.any (· == k) with
    | true => exact List.any_eq_true.mpr (let ⟨x, m, q⟩ := List.any_eq_true.mp e; ⟨x, hp.mem_iff.mpr m, q⟩)
    | false => exact List.any_eq_false.mpr fun x m => List.any_eq_false.mp e x (hp.mem_iff.mp m)
  unfold setAddHashed setAddHashedIn
  refine wpAny_holding (wpAny_bind (wpAny_setState_of ho hd hf ?_))
  dsimp only
  rw [byScan_of rfl hb hel, if_pos rfl]
  unfold setAddByScan
  refine wpAny_bind (wpAny_bind (wpAny_rule (wpAny_bind (wpAny_setScan_of (k := k) hkey ho hd hf hel ?_))))
  cases hq : List.findIdx? (fun e => (intKind prog w).is k e.2) es.toList with
  | some j =>
    dsimp only
    refine wpAny_pure (wpAny_pure ?_)
    have e : σ.any (· == k) = true := by
      rw [← hany]
      obtain ⟨hj, q, _⟩ := List.findIdx?_eq_some_iff_getElem.mp hq
      exact List.any_eq_true.mpr ⟨_, List.getElem_mem hj, q⟩
    have z := h false s.heap (Heap.SameBut.refl a s.heap) (by rw [step_dedup, if_pos e]; exact ⟨o, es, ep, t, ho, hex, hd, hel, hp, hl, hf, hg⟩)
    exact z
  | none =>
    dsimp only
    have e : σ.any (· == k) = false := by
      rw [← hany]
      exact List.any_eq_false.mpr fun x m => by rw [show Value.isInt k x.2 = (intKind prog w).is k x.2 from rfl, List.findIdx?_eq_none_iff.mp hq x m]; simp
    have hn : step_dedup σ k = σ ++ [k] := by rw [step_dedup, if_neg (by rw [e]; simp)]
    have p1 := layNew_perm t es (hashInt k) (.int k tk)
    have f1 := layNew_fits t es (hashInt k) (.int k tk)
    have g1 := good_layNew hg es (hashInt k) (.int k tk)
    show wpAny _ _ (match layNew t es (hashInt k) (.int k tk) with | (es, t, wasDummy, gave) => _) _ _ _
    generalize layNew t es (hashInt k) (.int k tk) = L at p1 f1 g1 ⊢
    obtain ⟨es1, t1, wd, gv⟩ := L
    dsimp only at p1 f1 g1 ⊢
    rw [Array.toList_push] at p1
    have el1 : ElemsOf (intKind prog w) es1.toList := (hel.push hkey rfl).perm p1
    have q1 : (es1.toList.map fun e => intOf e.2).Perm (step_dedup σ k) := by
      rw [hn]
      refine (p1.map _).trans ?_
      rw [List.map_append]
      exact hp.append (.refl _)
    have z1 : (step_dedup σ k).length < scanBound := by rw [hn, List.length_append]; exact hr
    have n1 : es1.size < scanBound := by have := q1.length_eq; rw [List.length_map, Array.length_toList] at this; omega
    have gw : ∀ (b : Bool) {s₁ : Shared} {Q' : Unit → Shared → Prop}, Q' () s₁ → wpAny (model prog w) A (match b with | true => rule "set.scan.the-table-gave-way" | false => pure ()) Q' E s₁ := fun b s₁ Q' q => by cases b <;> first | exact wpAny_pure q | exact wpAny_rule q
    refine wpAny_bind (gw _ ?_)
    have fin : ∀ (t2 : SetTable), t2.fits es1.size = true → GoodT (byText w) t2 → wpAny (model prog w) A (do
        storeSet a es1 t2
        if (!wd && t2.tooFull) = true then do
            (match (relayAll t2 es1 (SetTable.grown es1.size)).2.2 with | true => rule "set.scan.the-table-gave-way" | false => pure ())
            storeSet a (relayAll t2 es1 (SetTable.grown es1.size)).1 (relayAll t2 es1 (SetTable.grown es1.size)).2.1
            pure (some true)
          else pure (some true)) (fun r s' => wpAny (model prog w) A (match r with | some added => pure added | none => setAddHashedIn a (.int k tk) (hashInt k) 99999) Q E s') E s := by
      intro t2 f2 g2
      obtain ⟨o1, S1⟩ := setV_store ho hex hd el1 q1 z1 f2 g2
      have b1 := Heap.SameBut.update s.heap a (Obj.putSet es1 t2)
      refine wpAny_bind (wpAny_storeSet_of ho hd ?_ (fits_of_scanBound n1))
      split
      · have p2 := relayAll_perm t2 es1 (SetTable.grown es1.size)
        have f3 := relayAll_fits t2 es1 (SetTable.grown es1.size)
        have g3 := good_relayAll g2 es1 (SetTable.grown es1.size)
        generalize relayAll t2 es1 (SetTable.grown es1.size) = L at p2 f3 g3 ⊢
        obtain ⟨es2, t3, gv2⟩ := L
        dsimp only at p2 f3 g3 ⊢
        have n2 : es2.size < scanBound := by have := p2.length_eq; rw [Array.length_toList, Array.length_toList] at this; omega
        refine wpAny_bind (gw _ (wpAny_bind (wpAny_storeSet_of o1 rfl ?_ (fits_of_scanBound n2))))
        obtain ⟨_, S2⟩ := setV_store (prog := prog) (w := w) o1 hex rfl (el1.perm p2) ((p2.map _).trans q1) z1 f3 g3
        exact wpAny_pure (wpAny_pure (h true _ (b1.trans (Heap.SameBut.update _ a _)) S2))
      · exact wpAny_pure (wpAny_pure (h true _ b1 S1))
    split
    · rw [hashByValue_scannable 8 (show (Value.int k tk).scannable = true from rfl)]
      refine wpAny_bind (wpAny_pure ?_)
      exact fin _ f1 g1
    · refine wpAny_bind (wpAny_pure ?_)
      exact fin _ f1 g1
end
end L3
set_option Elab.async false
set_option linter.all false
set_option maxRecDepth 100000
namespace L3
open PySem PySem.Spec PyProof PyProof.Rows L2
section
variable {prog : Program} {w : World} {A : Around} {E : Value → Shared → Prop} {s : Shared}
/-- the numbers of a list, each where it is met first -/
def onceL (ns : List Int) : List Int := ns.foldl step_dedup []
theorem once_take {ns : List Int} {i : Nat} (h : i < ns.length) : (ns.take (i + 1)).foldl step_dedup [] = step_dedup ((ns.take i).foldl step_dedup []) (ns.getD i 0) := by
  rw [List.take_succ_eq_append_getElem h, List.foldl_append]
  simp [h]
theorem once_len : ∀ (l : List Int) (σ : List Int), (l.foldl step_dedup σ).length ≤ σ.length + l.length
  | [], σ => by simp
  | k :: l, σ => by
    rw [List.foldl_cons]
    refine Nat.le_trans (once_len l _) ?_
    have := step_length σ k
    split at this <;> simp [this] <;> omega
theorem once_nodup : ∀ (l : List Int) (σ : List Int), σ.Nodup → (l.foldl step_dedup σ).Nodup
  | [], σ, h => h
  | k :: l, σ, h => by
    rw [List.foldl_cons]
    refine once_nodup l _ ?_
    unfold step_dedup
    split
    · exact h
    · rename_i z
      refine List.nodup_append.mpr ⟨h, by simp, fun x hx y hy e => ?_⟩
      rw [List.mem_singleton.mp hy] at e
      exact z (List.any_eq_true.mpr ⟨x, hx, by simp [e]⟩)
theorem once_mem : ∀ (l : List Int) (σ : List Int) (x : Int), x ∈ l.foldl step_dedup σ ↔ x ∈ σ ∨ x ∈ l
  | [], σ, x => by simp
  | k :: l, σ, x => by
    rw [List.foldl_cons, once_mem l]
    have : x ∈ step_dedup σ k ↔ x ∈ σ ∨ x = k := by
      unfold step_dedup
      split
      · rename_i z
        obtain ⟨y, hy, e⟩ := List.any_eq_true.mp z
        have e' : y = k := by simpa using e
        exact ⟨.inl, fun h => h.elim id fun q => by rw [q, ← e']; exact hy⟩
      · simp
    rw [this, List.mem_cons]
    exact or_assoc
theorem setLoop {I : Addr} {fp wr : List Addr} {G : Array GenState → Array GenState → Prop} {ns : List Int} {P : Nat → Value → Prop} {St : Nat → Shared → Prop} {R : Result → Shared → Prop} (W : WalksS prog w A.in1 I fp wr G ns.length P St) (S : Addr) (hSf : S ∉ fp)
    (hval : ∀ i v, i < ns.length → P i v → ∃ t, v = .int (ns.getD i 0) t) (hb : ns.length + 1 < scanBound) :
    ∀ (k i : Nat) (s : Shared), ns.length - i = k → i ≤ ns.length → St i s → SetV prog w s.heap S ((ns.take i).foldl step_dedup []) →
      (∀ s', Moved (S :: wr) G s s' → SetV prog w s'.heap S (onceL ns) → R (.ok (.ret .none)) s') → codeAny (model prog w) A (.builtin "set.update.loop" ⟨[.ref S, .ref I], []⟩) R s := by
  have nw : S ∉ wr := fun h => hSf (W.sub _ h)
  have up : ∀ b ∈ wr, b ∈ S :: wr := fun b hb => .tail _ hb
  intro k
  induction k with
  | zero =>
    intro i s hk hi hst hS hR
    have e : i = ns.length := by omega
    subst e
    refine codeAny_builtin F.entry_set_update_loop ?_
    rw [Around.under_plainId F.plain_set_update_loop _]
    refine wpAny_bind (m := pyNext (.ref I)) (W.done s _ _ hst fun s' hm => ?_)
    refine wpAny_pure (hR s' (hm.mono up) ?_)
    rw [List.take_length] at hS
    exact hS.at fun o e => hm.heap S o nw e
  | succ k ih =>
    intro i s hk hi hst hS hR
    have hlt : i < ns.length := by omega
    refine codeAny_builtin F.entry_set_update_loop ?_
    rw [Around.under_plainId F.plain_set_update_loop _]
    refine wpAny_bind (m := pyNext (.ref I)) (W.item i s _ _ hlt hst fun v s' hP hst' hm => ?_)
    obtain ⟨t, rfl⟩ := hval i v hlt hP
    have hS' : SetV prog w s'.heap S ((ns.take i).foldl step_dedup []) := hS.at fun o e => hm.heap S o nw e
    refine wpAny_bind (m := holding [Value.int (ns.getD i 0) t] (setAdd S (.int (ns.getD i 0) t))) (wpAny_holding ?_)
    unfold setAdd
    refine wpAny_holding (wpAny_bind ((intKind prog w).pyHash (k := ns.getD i 0) (intKind_is _ _ _ _) ?_))
    have hroom : ((ns.take i).foldl step_dedup []).length + 1 < scanBound := by
      have := once_len (ns.take i) []
      rw [List.length_take, List.length_nil] at this
      omega
    refine setV_add (s := { s' with toks := s'.toks + 1 }) hS' hroom fun b h' hsb hS2 => ?_
    rw [← once_take hlt] at hS2
    refine wpAny_pure ⟨plainId_quiet F.plain_set_update_loop _, ih (i + 1) _ (by omega) hlt (W.frame _ s' _ _ hst' (Nat.le_succ _) fun b hb o e => (hsb.2 b (fun z => hSf (z ▸ hb))).trans e) hS2 fun s'' hm'' hS'' => ?_⟩
    exact hR s'' (Moved.trans W.gtrans ((hm.mono up).then_heap (Nat.le_succ _) fun b o hb e => (hsb.2 b (fun z => hb (z ▸ .head _))).trans e) hm'') hS''
/-- the empty set -/
def set0 (w : World) : Obj := { cls := .type "set", dict := none, data := .set #[] 0 (.fresh 0 0 (!byText w)) }
theorem setV_0 (h : Heap) : SetV prog w (h.push (set0 w)) h.objs.size [] :=
  ⟨_, #[], 0, _, Heap.get?_push_size _ rfl, ⟨rfl, rfl, rfl⟩, rfl, fun e he => by simp at he, by simp, by decide, by rfl, .nil, rfl, fun e => by show (!byText w) = true; rw [e]; rfl⟩
theorem code_set1 (a : Value) {Q₁ : Value → Shared → Prop} (h : Q₁ (.ref s.heap.objs.size) { s with heap := s.heap.push (set0 w) }) : codeAny (model prog w) A (.call (.builtin "set.__new__") ⟨[.type "set", a], []⟩) (wants Q₁ E) s := by
  refine codeAny_of_tree ?_
  refine wpAny_bind (m := checkBuiltinCall "set.__new__" ⟨[.type "set", a], []⟩) (wpAny_of_eq (F.newCall_set_1 a) (wpAny_pure ⟨plainId_quiet F.plain_set_new _, codeAny_builtin F.entry_set_new ?_⟩))
  rw [Around.under_plainId F.plain_set_new _]
  unfold Builtin.«set.__new__» Builtin.Frozenset.newClass
  have hs := sub_set_self
  obtain ⟨hp, g, d, tk, os⟩ := s
  dsimp only
  wp_walk
  refine wpAny_askSetting (wpAny_pure ?_)
  dsimp only
  simp only [newObj]
  exact wpAny_bind (wpAny_alloc (wpAny_pure (wpAny_pure h)))
set_option maxHeartbeats 3200000 in
theorem call_setV {l : Addr} {items : Array Value} {ns : List Int} {Q : Value → Shared → Prop} (hh : A.handled = none) (hl : s.heap.IsList l items) (hi : IntsAre items.toList ns) (hb : ns.length + 1 < scanBound)
    (h : ∀ (h' : Heap) (tk : Nat), SetV prog w h' s.heap.objs.size (onceL ns) → (∀ b o, s.heap.get? b = some o → h'.get? b = some o) → Q (.ref s.heap.objs.size) { s with heap := h', toks := tk }) :
    wpAny (model prog w) A (call (.type "set") [.ref l]) Q E s := by
  obtain ⟨c, tl, hmro⟩ := F.called_set.mro
  have hmade := F.called_set.made
  have hsub := F.called_set.sub
  refine wpAny_call (codeAny_of_tree ?_)
  refine wpAny_pure ⟨Code.quiet_builtin _ (by decide +kernel), codeAny_builtin F.entry_type_call ?_⟩
  rw [Around.under_plain (weight_type_call_type "set" [.ref l] []) rfl]
  have h1 := F.called_set.notType
  have h2 := F.called_set.canCreate
  have hct := F.typeCall_set_1 (.ref l)
  repeat (any_goals (first | assumption | wp_step))
  refine codeAny_mono (code_set1 (.ref l) (E := E) (Q₁ := fun obj s₁ => obj = .ref s.heap.objs.size ∧ s₁ = { s with heap := s.heap.push (set0 w) }) ⟨rfl, rfl⟩) fun r s₁ hr => ?_
  cases r with
  | error e => exact hr
  | ok fl =>
    cases fl with
    | ret obj =>
      obtain ⟨rfl, rfl⟩ := hr
      have hT : Shared.TypeIs { s with heap := s.heap.push (set0 w) } (.ref s.heap.objs.size) "set" := ⟨_, Heap.get?_push_size _ rfl, rfl⟩
      have hli := F.called_set.init.lookup
      have hbi := F.called_set.init.bind (.ref s.heap.objs.size)
      repeat (any_goals (first | assumption | wp_step))
      refine codeAny_mono (codeAny_call_builtin (R := wants (fun r s₂ => r = .none ∧ ∃ h' tk, s₂ = { s with heap := h', toks := tk } ∧ SetV prog w h' s.heap.objs.size (onceL ns) ∧ (∀ b o, s.heap.get? b = some o → h'.get? b = some o)) E) F.called_set.init.plain F.entry_set_init (check_set_init_1 hT ?_)) fun r₂ s₂ hr₂ => ?_
      · obtain ⟨ol, hol, hcl, nl, hdl⟩ := hl
        obtain ⟨ocls, odict, odata, oslots⟩ := ol
        simp only at hcl hdl
        subst hcl; subst hdl
        have hl1 : (s.heap.push (set0 w)).IsList l items := ⟨_, Heap.get?_push_of_some _ hol, rfl, nl, rfl⟩
        have hTl : Shared.TypeIs { s with heap := s.heap.push (set0 w) } (.ref l) "list" := hl1.typeIs (s := { s with heap := s.heap.push (set0 w) })
        have hsls := F.sub_list_set
        have hslf := F.sub_list_frozenset
        have hne : (Value.type "list" == Value.type "dict") = false := by decide
        have hu : (s.heap.push (set0 w)).get? s.heap.objs.size = some (set0 w) := Heap.get?_push_size _ rfl
        have hol' := Heap.get?_push_of_some (set0 w) hol
        unfold set0 at hu hT hl1 hol' ⊢
        generalize hSV : (SetV prog w : Heap → Addr → List Int → Prop) = SV
        unfold Builtin.«set.__init__» noKeywords Builtin.Frozenset.updateFrom
        generalize hPI : pyIter = PI
        wp_walk
        subst hPI
        subst hSV
        refine wpAny_pyIter_list hl1 (wpAny_bind (wpAny_runValue ?_))
        have hlS : l < s.heap.objs.size := Heap.lt_size hol
        have hz : ∀ o : Obj, (s.heap.push o).objs.size = s.heap.objs.size + 1 := fun o => Heap.size_push _ _
        have hneI : l ≠ (s.heap.push (set0 w)).objs.size := by rw [hz]; exact Nat.ne_of_lt (Nat.lt_succ_of_lt hlS)
        have hSf : s.heap.objs.size ∉ [(s.heap.push (set0 w)).objs.size, l] := by
          rw [hz]
          simp only [List.mem_cons, List.not_mem_nil, or_false, not_or]
          exact ⟨Nat.ne_of_lt (Nat.lt_succ_self _), Nat.ne_of_gt hlS⟩
        have hn : items.size = ns.length := by have := hi.length; rwa [Array.length_toList] at this
        have Wk := (Walks.list (prog := prog) (w := w) (A := A.in1.in1.in1) (by simp [hh]) (s.heap.push (set0 w)).objs.size l hneI items).toS
        rw [hn] at Wk
        refine setLoop Wk s.heap.objs.size hSf (fun i v _ hv => IntsAre.int_at hi i v (by rw [Array.getElem?_toList]; exact hv)) hb (ns.length - 0) 0 _ (by omega) (Nat.zero_le _)
          ⟨⟨_, Heap.get?_push_size _ rfl, rfl, rfl⟩, (hl1.push _)⟩ (by exact (setV_0 s.heap).at fun o e => Heap.get?_push_of_some _ e) fun s' hm hS' => ?_
        obtain ⟨h', g', d', tk', os'⟩ := s'
        have eg : g' = s.gens := hm.gens
        have ed : d' = s.drawn := hm.drawn
        have eo : os' = s.os := hm.os
        subst eg; subst ed; subst eo
        refine wpAny_pure (wpAny_pure ⟨rfl, h', tk', rfl, hS', fun b o e => ?_⟩)
        have hb0 := Heap.lt_size e
        refine hm.heap b o ?_ (Heap.get?_push_of_some _ (Heap.get?_push_of_some _ e))
        simp only [List.mem_cons, List.not_mem_nil, or_false, not_or]
        show b ≠ s.heap.objs.size ∧ b ≠ (s.heap.push (set0 w)).objs.size
        rw [hz]
        exact ⟨Nat.ne_of_lt hb0, Nat.ne_of_lt (Nat.lt_succ_of_lt hb0)⟩
      · cases r₂ with
        | error e => exact hr₂
        | ok fl₂ =>
          cases fl₂ with
          | ret r =>
            obtain ⟨rfl, h', tk, rfl, hS', hk'⟩ := hr₂
            repeat (any_goals (first | assumption | wp_step))
            exact h _ _ hS' hk'
          | _ => exact hr₂.elim
    | _ => exact hr.elim
end
end L3
set_option Elab.async false
set_option linter.all false
set_option maxRecDepth 100000
namespace L3
open PySem PySem.Spec PyProof PyProof.Rows L2
namespace SF
theorem slot_next : Slot "set_iterator" "__next__" "set_iterator.__next__" := .of (owner := "set_iterator") (n := "__next__") (by rw [typeLookup_type, builtinLookup_eq_fast]; kernel_rfl) (by decide +kernel) (by decide +kernel) (by decide +kernel) (by first | exact .inl (by decide +kernel) | exact .inr (by decide +kernel)) (by rw [isSubtype_type]; kernel_rfl)
theorem slot_iter : Slot "set_iterator" "__iter__" "set_iterator.__iter__" := .of (owner := "set_iterator") (n := "__iter__") (by rw [typeLookup_type, builtinLookup_eq_fast]; kernel_rfl) (by decide +kernel) (by decide +kernel) (by decide +kernel) (by first | exact .inl (by decide +kernel) | exact .inr (by decide +kernel)) (by rw [isSubtype_type]; kernel_rfl)
theorem entry_next : entryFor table "set_iterator.__next__" = some Builtin.«set_iterator.__next__» := entryFor_of_tree (by kernel_rfl)
theorem entry_iter : entryFor table "set.__iter__" = some Builtin.«frozenset.__iter__» := entryFor_alias (id' := "frozenset.__iter__") (by kernel_rfl) rfl (by decide +kernel) (by kernel_rfl)
theorem entry_iiter : entryFor table "set_iterator.__iter__" = some Builtin.«dict_keyiterator.__iter__» := entryFor_alias (id' := "dict_keyiterator.__iter__") (by kernel_rfl) rfl (by decide +kernel) (by kernel_rfl)
theorem args_next (a : Value) : argsOk "set_iterator.__next__" ⟨[a], []⟩ := by unfold argsOk; kernel_rfl
theorem args_iiter (a : Value) : argsOk "set_iterator.__iter__" ⟨[a], []⟩ := by unfold argsOk; kernel_rfl
end SF
section
variable {M : Model} {prog : Program} {w : World} {A : Around} {E : Value → Shared → Prop} {s : Shared} {a I : Addr} {o : Obj} {es : Array (Int × Value)} {ep : Nat} {t : SetTable}
theorem wpAny_chooseAny {src : Source} {n : Nat} (hn : n ≠ 0) {Q : Nat → Shared → Prop} (h : ∀ i d, i < n → Q i { s with drawn := d }) : wpAny M A (choose src n) Q E s := fun Γ p _ => by
  show Sem.wp M Γ (.choose src n .pure) _ _ p s
  rw [Sem.wp_choose]
  exact ⟨hn, h _ _ (Nat.mod_lt _ (Nat.pos_of_ne_zero hn))⟩
theorem set_perm_erase {α : Type} {l : List α} {i : Nat} (h : i < l.length) : (l[i] :: l.eraseIdx i).Perm l := by
  rw [List.eraseIdx_eq_take_drop_succ]
  have e : l.take i ++ l[i] :: l.drop (i + 1) = l := by rw [← List.drop_eq_getElem_cons h, List.take_append_drop]
  have p : (l[i] :: (l.take i ++ l.drop (i + 1))).Perm (l.take i ++ l[i] :: l.drop (i + 1)) := List.perm_middle.symm
  rwa [e] at p
theorem wpAny_drawOrder {α : Type} : ∀ (n : Nat) (xs : List α) (s : Shared) (Q : List α → Shared → Prop), n = xs.length → (∀ ys d, List.Perm ys xs → Q ys { s with drawn := d }) → wpAny M A (drawOrder n xs) Q E s
  | 0, xs, s, Q, hn, h => by
    have e : xs = [] := List.length_eq_zero_iff.mp hn.symm
    subst e
    exact wpAny_pure (h [] s.drawn (.refl _))
  | n + 1, [], s, Q, hn, h => by simp at hn
  | n + 1, x :: xs, s, Q, hn, h => by
    unfold drawOrder
    refine wpAny_bind (wpAny_chooseAny (by simp) fun i d hi => ?_)
    have e : (x :: xs)[i]? = some (x :: xs)[i] := List.getElem?_eq_getElem hi
    rw [e]
    dsimp only
    refine wpAny_bind (wpAny_drawOrder n _ _ _ (by rw [List.length_eraseIdx_of_lt hi]; omega) fun ys d' p => ?_)
    exact wpAny_pure (h _ d' ((p.cons _).trans (set_perm_erase hi)))
theorem pickGo {α : Type} (next : Nat → Nat) : ∀ (n k : Nat) (left : List α) (out : Array α), n = left.length → (pickOrder.go next n k left out).toList.Perm (out.toList ++ left)
  | 0, k, left, out, h => by
    have e : left = [] := List.length_eq_zero_iff.mp h.symm
    subst e
    rw [List.append_nil]
    exact .refl _
  | n + 1, k, left, out, h => by
    unfold pickOrder.go
    have hi : next k % left.length < left.length := Nat.mod_lt _ (by omega)
    rw [List.getElem?_eq_getElem hi]
    dsimp only
    refine (pickGo next n (k + 1) _ _ (by rw [List.length_eraseIdx_of_lt hi]; omega)).trans ?_
    rw [Array.toList_push, List.append_assoc]
    exact (set_perm_erase hi).append_left _
theorem pickAll {α : Type} (next : Nat → Nat) (xs : Array α) : (pickOrder next xs).toList.Perm xs.toList := by
  have := pickGo next xs.size 0 xs.toList #[] (by rw [Array.length_toList])
  simpa [pickOrder] using this
/-- the walker of a set -/
def SetIt (h : Heap) (I a : Addr) (f : Value) (k n ep : Nat) : Prop := h.get? I = some { cls := .type "set_iterator", data := .fields #[f, .int k 0, .ref a, .int n 0, .int ep 0] }
theorem SetIt.typeIs {f : Value} {k n : Nat} (x : SetIt s.heap I a f k n ep) : s.TypeIs (.ref I) "set_iterator" := ⟨_, x, rfl⟩
theorem wpAny_byText {Q : Bool → Shared → Prop} (h : Q (byText w) s) : wpAny (model prog w) A setsByText Q E s := by
  unfold setsByText
  exact wpAny_bind (wpAny_askSetting (wpAny_pure h))
theorem setNext_text {Q : Option (Value × Nat) → Shared → Prop} {sl k : Nat} (hb : byText w = true) (ho : s.heap.get? a = some o) (hd : o.data = .set es ep t) (hf : t.fits es.size = true)
    (h : Q (((pickOrder (w.params.setOrder a ep) es)[k]?).map fun e => (e.2, sl)) s) : wpAny (model prog w) A (setNext a sl k ep) Q E s := by
  unfold setNext
  refine wpAny_bind (wpAny_setState_of ho hd hf (wpAny_bind (wpAny_byText ?_)))
  dsimp only
  rw [if_pos hb]
  simp only [bne_self_eq_false, Bool.false_eq_true, if_false]
  refine wpAny_bind ?_
  unfold setWalk
  refine wpAny_bind (wpAny_setState_of ho hd hf (wpAny_bind (wpAny_byText ?_)))
  rw [if_pos hb]
  exact wpAny_bind (wpAny_askSetting (wpAny_pure (wpAny_pure h)))
theorem setNext_led {Q : Option (Value × Nat) → Shared → Prop} {sl k n : Nat} (hb : byText w = false) (hl : t.led = true) (hdr : (!t.plain && decide (es.size > 1)) = false) (ho : s.heap.get? a = some o) (hd : o.data = .set es ep t) (hf : t.fits es.size = true)
    (h : Q (match es[SetTable.below t.place sl]?, t.place[SetTable.below t.place sl]? with | some (_, x), some j => some (x, j + 1) | _, _ => none) s) : wpAny (model prog w) A (setNext a sl k n) Q E s := by
  unfold setNext
  refine wpAny_bind (wpAny_setState_of ho hd hf (wpAny_bind (wpAny_byText ?_)))
  dsimp only
  rw [if_neg (by rw [hb]; simp)]
  refine wpAny_ite_split (fun z => absurd ((show (!t.plain && decide (es.size > 1)) = true from z).symm.trans hdr) (by simp)) fun _ => ?_
  refine wpAny_bind ?_
  refine wpAny_ite_split (fun z => absurd (show (!t.led && !es.isEmpty) = true from z) (by rw [hl]; simp)) fun _ => wpAny_pure (wpAny_pure h)
theorem wpAny_setDrawn {Q : Bool → Shared → Prop} (ho : s.heap.get? a = some o) (hd : o.data = .set es ep t) (hf : t.fits es.size = true) (h : Q (!byText w && (!t.plain && decide (es.size > 1))) s) : wpAny (model prog w) A (setDrawn a) Q E s := by
  unfold setDrawn
  exact wpAny_bind (wpAny_setState_of ho hd hf (wpAny_bind (wpAny_byText (wpAny_pure h))))
theorem setNextDrawn_of {Q : Value → Shared → Prop} {k : Nat} {x : Int × Value} (ho : s.heap.get? a = some o) (hd : o.data = .set es ep t) (hf : t.fits es.size = true) (hx : es[k]? = some x) (h : Q x.2 s) : wpAny (model prog w) A (setNextDrawn a k ep) Q E s := by
  unfold setNextDrawn
  refine wpAny_bind (wpAny_setState_of ho hd hf ?_)
  dsimp only
  simp only [bne_self_eq_false, Bool.false_eq_true, if_false, hx]
  exact wpAny_pure h
/-- StopIteration ends it -/
theorem raise_stop {B : Around} (hh : B.handled = none) {Q : Option Value → Shared → Prop} (h : ∀ (h' : Heap), Heap.ExtBut I s.heap h' → Q none { s with heap := h' }) {E' : Fin → Shared → Prop} :
    wpAny (model prog w) B (do raiseNew (← newExc (.type "StopIteration") [])) E' (fun e s' => wpAny (model prog w) A (do if ← isInstance e (.type "StopIteration") then pure none else throw e) Q E s') s := by
  refine wpAny_bind ?_
  simp only [newExc, newTuple]
  refine wpAny_bind (wpAny_newObj_type ?_ (by size_fits))
  refine wpAny_bind (m := firstArgMember _ _) (wpAny_of_eq (a := Value.none) (by first | rfl | (simp only [firstArgMember]; rfl)) ?_)
  refine wpAny_newObj_type ?_ (by size_fits)
  simp only [raiseNew]
  refine wpAny_bind (wpAny_handled ?_)
  rw [hh]
  refine wpAny_bind (wpAny_pure (wpAny_throw ?_))
  refine wpAny_bind (wpAny_isInstance (T := "StopIteration") (b := true) ⟨_, Heap.get?_push_size _ rfl, rfl⟩ isSubtype_stop ?_)
  exact wpAny_pure (h _ (((Heap.SameBut.refl I s.heap).extBut.push _).push _))
end
end L3
set_option Elab.async false
set_option linter.all false
set_option maxRecDepth 100000
namespace L3
open PySem PySem.Spec PyProof PyProof.Rows L2
section
variable {M : Model} {prog : Program} {w : World} {A : Around} {E : Value → Shared → Prop} {s : Shared} {a I T : Addr} {o : Obj} {es : Array (Int × Value)} {ep : Nat} {t : SetTable}
/-- one step of a set's walker: what is done behind the look at the set's size -/
def nextBody (I a : Addr) (f : Value) (k ep : Nat) : Sem Fin := do
  if let .int slot _ := f then
    match ← setNext a slot.toNat k ep with
    | some (x, next) =>
      setField (.ref I) 0 (rawInt next)
      setField (.ref I) 1 (rawInt ((k : Int) + 1))
      ret x
    | none => setField (.ref I) 2 .none; raiseNew (← newExc (.type "StopIteration") [])
  else
    let some places ← seqItems? f | unsupported "internal:set_iterator"
    match places[k]? with
    | some (.int place _) =>
      let x ← setNextDrawn a place.toNat ep
      setField (.ref I) 1 (rawInt ((k : Int) + 1))
      ret x
    | some _ => unsupported "internal:set_iterator"
    | none => setField (.ref I) 0 (rawInt 0); setField (.ref I) 2 .none; raiseNew (← newExc (.type "StopIteration") [])
theorem setIt_next {f : Value} {k n : Nat} {Q : Option Value → Shared → Prop} (it : SetIt s.heap I a f k n ep) (ho : s.heap.get? a = some o) (hd : o.data = .set es ep t) (hf : t.fits es.size = true) (hn : es.size = n)
    (h : wpAny (model prog w) A.in1 (nextBody I a f k ep) (fun fin s' => ∃ v, fin = .done (.ret v) ∧ Q (some v) s') (fun e s' => wpAny (model prog w) A (do if ← isInstance e (.type "StopIteration") then pure none else throw e) Q E s') s) :
    wpAny (model prog w) A (pyNext (.ref I)) Q E s := by
  unfold pyNext
  refine wpAny_bind (wpAny_attempt (wpAny_callSpecial?_slot (name := Str.ofString "__next__") it.typeIs SF.slot_next (wpAny_call_entry SF.slot_next it.typeIs SF.entry_next ?_ (SF.args_next _))))
  refine wpAny_bind (m := slotArgs "__next__" 0 ⟨[.ref I], []⟩) (wpAny_pure ?_)
  refine wpAny_bind (wpAny_fieldsOf it rfl ?_)
  refine wpAny_bind (wpAny_setEntries_of ho hd hf ?_)
  have e : ((es.size : Int) != (n : Int)) = false := by rw [hn]; simp
  simp only [e, Bool.false_eq_true, if_false]
  refine wpAny_mono (show wpAny (model prog w) A.in1 (nextBody I a f k ep) _ _ s from h) (fun fin s' x => ?_) fun e s' x => x
  obtain ⟨v, rfl, q⟩ := x
  exact ⟨v, rfl, wpAny_pure q⟩
theorem SetIt.put {h : Heap} {f g : Value} {k n : Nat} (it : SetIt h I a f k n ep) : h.get? I = some { cls := .type "set_iterator", dict := none, data := .fields #[f, .int k 0, .ref a, .int n 0, .int ep 0], slots := #[] } := it
theorem stop2 {f : Value} {k n : Nat} {B : Around} (hh : B.handled = none) {Q : Option Value → Shared → Prop} (it : SetIt s.heap I a f k n ep) (hQ : ∀ h', Heap.ExtBut I s.heap h' → Q none { s with heap := h' }) {E' : Fin → Shared → Prop} :
    wpAny (model prog w) B (do setField (.ref I) 2 .none; raiseNew (← newExc (.type "StopIteration") [])) E' (fun e s' => wpAny (model prog w) A (do if ← isInstance e (.type "StopIteration") then pure none else throw e) Q E s') s :=
  wpAny_bind (wpAny_setField_rec it (by simp) fun h1 e1 b1 => raise_stop (s := { s with heap := h1 }) hh fun h2 b2 => hQ h2 (b1.extBut.trans b2))
theorem stop3 {f : Value} {k n : Nat} {B : Around} (hh : B.handled = none) {Q : Option Value → Shared → Prop} (it : SetIt s.heap I a f k n ep) (hQ : ∀ h', Heap.ExtBut I s.heap h' → Q none { s with heap := h' }) {E' : Fin → Shared → Prop} :
    wpAny (model prog w) B (do setField (.ref I) 0 (rawInt 0); setField (.ref I) 2 .none; raiseNew (← newExc (.type "StopIteration") [])) E' (fun e s' => wpAny (model prog w) A (do if ← isInstance e (.type "StopIteration") then pure none else throw e) Q E s') s :=
  wpAny_bind (wpAny_setField_rec it (by simp) fun h1 e1 b1 => wpAny_bind (wpAny_setField_rec (s := { s with heap := h1 }) e1 (by simp) fun h3 e3 b3 => raise_stop (s := { s with heap := h3 }) hh fun h2 b2 => hQ h2 ((b1.extBut.trans b3.extBut).trans b2)))
theorem iter_self {f : Value} {k n : Nat} {Q : Value → Shared → Prop} (it : SetIt s.heap I a f k n ep) (h : Q (.ref I) s) : wpAny (model prog w) A (pyIter (.ref I)) Q E s :=
  wpAny_pyIter_slot it.typeIs SF.slot_iter (wpAny_call_entry SF.slot_iter it.typeIs SF.entry_iiter (by
    show wpAny _ _ (ret (.ref I)) _ _ s
    exact wpAny_pure ⟨_, rfl, "set_iterator", _, it.typeIs, SF.slot_next.lookup, h⟩) (SF.args_iiter _))
theorem extOther {h h' : Heap} {b : Addr} {u : Obj} (x : Heap.ExtBut I h h') (hb : b ∉ [I]) (e : h.get? b = some u) : h'.get? b = some u := x b u (fun z => hb (by simp [z])) e
theorem walk_text (hh : A.handled = none) (hne : a ≠ I) (hb : byText w = true) (hd : o.data = .set es ep t) (hf : t.fits es.size = true) :
    Walks prog w A I [I, a] [I] es.size (fun i v => ((pickOrder (w.params.setOrder a ep) es).toList.map (·.2))[i]? = some v) (fun k h => SetIt h I a (.int 0 0) k es.size ep ∧ h.get? a = some o) where
  sub := fun b hb => by simp at hb; simp [hb]
  frame := fun _ _ _ st hk => ⟨hk I (by simp) _ st.1, hk a (by simp) _ st.2⟩
  item := fun i s Q E hi st hQ => by
    have hsz : (pickOrder (w.params.setOrder a ep) es).size = es.size := by have := (pickAll (w.params.setOrder a ep) es).length_eq; simpa using this
    refine setIt_next st.1 st.2 hd hf rfl ?_
    refine wpAny_bind (m := setNext a 0 i ep) (setNext_text hb st.2 hd hf ?_)
    have e : (pickOrder (w.params.setOrder a ep) es)[i]? = some ((pickOrder (w.params.setOrder a ep) es)[i]'(by omega)) := Array.getElem?_eq_getElem (by omega)
    rw [e]
    refine wpAny_bind (wpAny_setField_rec st.1 (by simp) fun h1 e1 b1 => ?_)
    refine wpAny_bind (wpAny_setField_rec (s := { s with heap := h1 }) e1 (by simp) fun h2 e2 b2 => wpAny_pure ⟨_, rfl, ?_⟩)
    refine hQ _ h2 s.toks (by rw [List.getElem?_map, Array.getElem?_toList, e]; rfl) ⟨?_, ?_⟩ fun b u hb e => extOther (b1.extBut.trans b2.extBut) hb e
    · unfold SetIt
      rw [e2]
      simp [rawInt]
    · exact extOther (I := I) (b1.extBut.trans b2.extBut) (by simp [hne]) st.2
  done := fun s Q E st hQ => by
    have hsz : (pickOrder (w.params.setOrder a ep) es).size = es.size := by have := (pickAll (w.params.setOrder a ep) es).length_eq; simpa using this
    refine setIt_next st.1 st.2 hd hf rfl ?_
    refine wpAny_bind (m := setNext a 0 es.size ep) (setNext_text hb st.2 hd hf ?_)
    rw [Array.getElem?_eq_none (by omega)]
    exact stop2 (B := A.in1) hh st.1 fun h' x => hQ h' s.toks fun b u hb e => extOther x hb e
  self := fun _ _ _ _ st hQ => iter_self st.1 hQ
theorem walk_led (hh : A.handled = none) (hne : a ≠ I) (hb : byText w = false) (hg : GoodT (byText w) t) (hdr : (!t.plain && decide (es.size > 1)) = false) (hd : o.data = .set es ep t) (hf : t.fits es.size = true) :
    Walks prog w A I [I, a] [I] es.size (fun i v => (es.toList.map (·.2))[i]? = some v) (fun k h => (∃ sl : Nat, SetIt h I a (.int sl 0) k es.size ep ∧ SetTable.below t.place sl = k) ∧ h.get? a = some o) where
  sub := fun b hb => by simp at hb; simp [hb]
  frame := fun _ _ _ ⟨⟨sl, st, z⟩, st2⟩ hk => ⟨⟨sl, hk I (by simp) _ st, z⟩, hk a (by simp) _ st2⟩
  item := fun i s Q E hi st hQ => by
    obtain ⟨⟨sl, st1, z⟩, st2⟩ := st
    have hp : t.place.size = es.size := by have := hf; unfold SetTable.fits at this; simp only [Bool.and_eq_true, beq_iff_eq] at this; exact this.1
    refine setIt_next st1 st2 hd hf rfl ?_
    refine wpAny_bind (m := setNext a sl i ep) (setNext_led hb (hg.2.2 hb) hdr st2 hd hf ?_)
    rw [z, Array.getElem?_eq_getElem hi, Array.getElem?_eq_getElem (show i < t.place.size by omega)]
    refine wpAny_bind (wpAny_setField_rec st1 (by simp) fun h1 e1 b1 => ?_)
    refine wpAny_bind (wpAny_setField_rec (s := { s with heap := h1 }) e1 (by simp) fun h2 e2 b2 => wpAny_pure ⟨_, rfl, ?_⟩)
    refine hQ _ h2 s.toks (by rw [List.getElem?_map, Array.getElem?_toList, Array.getElem?_eq_getElem hi]; rfl) ⟨⟨t.place[i]'(by omega) + 1, ?_, ?_⟩, ?_⟩ fun b u hb e => extOther (b1.extBut.trans b2.extBut) hb e
    · unfold SetIt
      rw [e2]
      simp [rawInt]
    · have := below_next hg.1 (show i < t.place.size by omega)
      simpa [Array.getD, show i < t.place.size by omega] using this
    · exact extOther (I := I) (b1.extBut.trans b2.extBut) (by simp [hne]) st2
  done := fun s Q E st hQ => by
    obtain ⟨⟨sl, st1, z⟩, st2⟩ := st
    refine setIt_next st1 st2 hd hf rfl ?_
    refine wpAny_bind (m := setNext a sl es.size ep) (setNext_led hb (hg.2.2 hb) hdr st2 hd hf ?_)
    rw [z, Array.getElem?_eq_none (Nat.le_refl _)]
    exact stop2 (B := A.in1) hh st1 fun h' x => hQ h' s.toks fun b u hb e => extOther x hb e
  self := fun _ _ _ _ ⟨⟨sl, st, z⟩, st2⟩ hQ => iter_self st hQ
theorem walk_drawn (hh : A.handled = none) (hne : a ≠ I) (hnT : T ≠ I) {ord : List Nat} (hp : ord.Perm (List.range es.size)) (hd : o.data = .set es ep t) (hf : t.fits es.size = true) :
    Walks prog w A I [I, T, a] [I] es.size (fun i v => ∃ j, ord[i]? = some j ∧ (es.toList.map (·.2))[j]? = some v) (fun k h => SetIt h I a (.ref T) k es.size ep ∧ h.get? T = some { cls := .type "tuple", data := .seq (ord.map fun (i : Nat) => rawInt i).toArray } ∧ h.get? a = some o) where
  sub := fun b hb => by simp at hb; simp [hb]
  frame := fun _ _ _ st hk => ⟨hk I (by simp) _ st.1, hk T (by simp) _ st.2.1, hk a (by simp) _ st.2.2⟩
  item := fun i s Q E hi st hQ => by
    have hl : ord.length = es.size := by have := hp.length_eq; simpa using this
    have hj : ord[i]'(by omega) < es.size := List.mem_range.mp (hp.mem_iff.mp (List.getElem_mem _))
    refine setIt_next st.1 st.2.2 hd hf rfl ?_
    refine wpAny_bind (m := seqItems? (.ref T)) (wpAny_seqItems st.2.1 rfl ?_)
    have e : ((ord.map fun (i : Nat) => rawInt i).toArray)[i]? = some (.int (ord[i]'(by omega) : Nat) 0) := by simp [rawInt, show i < ord.length by omega]
    dsimp only
    rw [e]
    refine wpAny_bind (m := setNextDrawn a _ ep) (setNextDrawn_of st.2.2 hd hf (by rw [Int.toNat_natCast]; exact Array.getElem?_eq_getElem hj) ?_)
    refine wpAny_bind (wpAny_setField_rec st.1 (by simp) fun h2 e2 b2 => wpAny_pure ⟨_, rfl, ?_⟩)
    refine hQ _ h2 s.toks ⟨ord[i]'(by omega), List.getElem?_eq_getElem (by omega), by rw [List.getElem?_map, Array.getElem?_toList, Array.getElem?_eq_getElem hj]; rfl⟩ ⟨?_, extOther (I := I) b2.extBut (by simp [hnT]) st.2.1, extOther (I := I) b2.extBut (by simp [hne]) st.2.2⟩ fun b u hb e => extOther b2.extBut hb e
    unfold SetIt
    rw [e2]
    simp [rawInt]
  done := fun s Q E st hQ => by
    have hl : ord.length = es.size := by have := hp.length_eq; simpa using this
    refine setIt_next st.1 st.2.2 hd hf rfl ?_
    refine wpAny_bind (m := seqItems? (.ref T)) (wpAny_seqItems st.2.1 rfl ?_)
    dsimp only
    rw [Array.getElem?_eq_none (by simp [hl])]
    exact stop3 (B := A.in1) hh st.1 fun h' x => hQ h' s.toks fun b u hb e => extOther x hb e
  self := fun _ _ _ _ st hQ => iter_self st.1 hQ
end
end L3
set_option Elab.async false
set_option linter.all false
set_option maxRecDepth 100000
namespace L3
open PySem PySem.Spec PyProof PyProof.Rows L2
section
variable {M : Model} {prog : Program} {w : World} {A : Around} {E : Value → Shared → Prop} {s : Shared} {a : Addr} {σ : List Int}
theorem ints_map : ∀ {vs : List Value}, (∀ v ∈ vs, ∃ k t, v = Value.int k t) → IntsAre vs (vs.map intOf)
  | [], _ => .nil
  | v :: vs, h => by
    obtain ⟨k, t, rfl⟩ := h v (.head _)
    exact .cons k t (ints_map fun u hu => h u (.tail _ hu))
theorem items_list {vs : List Value} {acc : Array Value} (h : ItemsOf (fun i v => vs[i]? = some v) acc vs.length) : acc.toList = vs := by
  apply List.ext_getElem?
  intro i
  by_cases hi : i < acc.size
  · have := h.2 i acc[i] (Array.getElem?_eq_getElem hi)
    rw [this, Array.getElem?_toList, Array.getElem?_eq_getElem hi]
  · rw [List.getElem?_eq_none (by rw [Array.length_toList]; omega), List.getElem?_eq_none (by have := h.1; omega)]
theorem ints_perm {vs us : List Value} (p : us.Perm vs) (h : ∀ v ∈ vs, ∃ k t, v = Value.int k t) (hp : (vs.map intOf).Perm σ) : ∃ ns, IntsAre us ns ∧ ns.Perm σ :=
  ⟨us.map intOf, ints_map fun v hv => h v (p.mem_iff.mp hv), (p.map _).trans hp⟩
/-- a walker of a set is made; what it gives are the set's numbers -/
theorem pyIter_setV (hS : SetV prog w s.heap a σ) {Q : Value → Shared → Prop}
    (h : ∀ (h' : Heap) d (I : Addr) (fp : List Addr) (P : Nat → Value → Prop) (St : Nat → Heap → Prop), (∀ b o, s.heap.get? b = some o → h'.get? b = some o) → (∀ b, b ∈ fp → b = a ∨ s.heap.objs.size ≤ b) → s.heap.objs.size ≤ I →
      (∀ B : Around, B.handled = none → Walks prog w B I fp [I] σ.length P St) → (∀ acc : Array Value, ItemsOf P acc σ.length → ∃ ns, IntsAre acc.toList ns ∧ ns.Perm σ) → St 0 h' → Q (.ref I) { s with heap := h', drawn := d }) :
    wpAny (model prog w) A (pyIter (.ref a)) Q E s := by
  have hT := hS.typeIs
  have ha := hS.lt
  obtain ⟨o, es, ep, t, ho, hex, hd, hel, hp, hl, hf, hg⟩ := hS
  have hz : es.size = σ.length := by have := hp.length_eq; rwa [List.length_map, Array.length_toList] at this
  have hv : ∀ v ∈ es.toList.map (·.2), ∃ k t, v = Value.int k t := fun v hv => by
    obtain ⟨e, he, rfl⟩ := List.mem_map.mp hv
    obtain ⟨⟨k, hk, _⟩, _⟩ := hel e he
    obtain ⟨t, e'⟩ := Value.isInt_shape (show Value.isInt k e.2 = true from hk)
    exact ⟨k, t, e'⟩
  have hp' : ((es.toList.map (·.2)).map intOf).Perm σ := by rw [List.map_map]; exact hp
  refine wpAny_pyIter_slot hT PySem.F.slot_set_iter (wpAny_call_entry PySem.F.slot_set_iter hT SF.entry_iter ?_ (PySem.F.args_set_iter_1 _))
  refine wpAny_bind (m := Builtin.Frozenset.slot0 "__iter__" ⟨[.ref a], []⟩) (wpAny_of_eq (a := a) (by rfl) ?_)
  unfold Builtin.Frozenset.sizeOf
  refine wpAny_bind (wpAny_bind (wpAny_setEntries_of ho hd hf (wpAny_pure ?_)))
  refine wpAny_bind (wpAny_setDrawn ho hd hf ?_)
  cases hb : byText w with
  | true =>
    simp only [Bool.not_true, Bool.false_and, Bool.false_eq_true, if_false]
    refine wpAny_bind (wpAny_pure (wpAny_bind (wpAny_setEpoch_of ho hd hf ?_)))
    refine wpAny_bind (wpAny_newObj_type (wpAny_pure ⟨_, rfl, "set_iterator", _, ⟨_, Heap.get?_push_size _ rfl, rfl⟩, SF.slot_next.lookup, ?_⟩))
    have W := fun (B : Around) (hB : B.handled = none) => walk_text (prog := prog) (w := w) (A := B) (I := s.heap.objs.size) hB (Nat.ne_of_lt ha) hb hd hf
    rw [hz] at W
    refine h _ s.drawn _ _ _ _ (fun b u e => Heap.get?_push_of_some _ e) (fun b hb => ?_) (Nat.le_refl _) W (fun acc hacc => ?_) ⟨?_, Heap.get?_push_of_some _ ho⟩
    · simp only [List.mem_cons, List.not_mem_nil, or_false] at hb
      rcases hb with rfl | rfl
      · exact .inr (Nat.le_refl _)
      · exact .inl rfl
    · have hlen : ((pickOrder (w.params.setOrder a ep) es).toList.map (·.2)).length = σ.length := by rw [List.length_map, (pickAll _ es).length_eq, Array.length_toList, hz]
      rw [← hlen] at hacc
      rw [items_list hacc]
      exact ints_perm ((pickAll _ es).map _) hv hp'
    · unfold SetIt
      rw [← hz]
      simpa [rawInt] using Heap.get?_push_size s.heap (o := { cls := .type "set_iterator", data := .fields #[.int 0 0, .int 0 0, .ref a, .int es.size 0, .int ep 0] }) rfl
  | false =>
    cases hdr : (!t.plain && decide (es.size > 1)) with
    | false =>
      simp only [Bool.not_false, Bool.true_and, Bool.false_eq_true, if_false]
      refine wpAny_bind (wpAny_pure (wpAny_bind (wpAny_setEpoch_of ho hd hf ?_)))
      refine wpAny_bind (wpAny_newObj_type (wpAny_pure ⟨_, rfl, "set_iterator", _, ⟨_, Heap.get?_push_size _ rfl, rfl⟩, SF.slot_next.lookup, ?_⟩))
      have W := fun (B : Around) (hB : B.handled = none) => walk_led (prog := prog) (w := w) (A := B) (I := s.heap.objs.size) (ep := ep) hB (Nat.ne_of_lt ha) hb hg hdr hd hf
      rw [hz] at W
      refine h _ s.drawn _ _ _ _ (fun b u e => Heap.get?_push_of_some _ e) (fun b hb => ?_) (Nat.le_refl _) W (fun acc hacc => ?_) ⟨⟨0, ?_, below_zero hg.1⟩, Heap.get?_push_of_some _ ho⟩
      · simp only [List.mem_cons, List.not_mem_nil, or_false] at hb
        rcases hb with rfl | rfl
        · exact .inr (Nat.le_refl _)
        · exact .inl rfl
      · have hlen : (es.toList.map (·.2)).length = σ.length := by rw [List.length_map, Array.length_toList, hz]
        rw [← hlen] at hacc
        rw [items_list hacc]
        exact ints_perm (.refl _) hv hp'
      · unfold SetIt
        rw [← hz]
        simpa [rawInt] using Heap.get?_push_size s.heap (o := { cls := .type "set_iterator", data := .fields #[.int 0 0, .int 0 0, .ref a, .int es.size 0, .int ep 0] }) rfl
    | true =>
      simp only [Bool.not_false, Bool.true_and, if_true]
      refine wpAny_bind (wpAny_drawOrder _ _ _ _ (List.length_range).symm fun ord d po => ?_)
      have hlo : ord.length = es.size := by have := po.length_eq; simpa using this
      refine wpAny_bind (wpAny_newTuple ?_ (by rw [List.length_map, hlo, hz]; exact fits_of_scanBound hl))
      refine wpAny_bind (wpAny_setEpoch_of (Heap.get?_push_of_some _ ho) hd hf ?_)
      refine wpAny_bind (wpAny_newObj_type (wpAny_pure ⟨_, rfl, "set_iterator", _, ⟨_, Heap.get?_push_size _ rfl, rfl⟩, SF.slot_next.lookup, ?_⟩))
      have hsz : ∀ u : Obj, (s.heap.push u).objs.size = s.heap.objs.size + 1 := fun u => Heap.size_push _ _
      have W := fun (B : Around) (hB : B.handled = none) => walk_drawn (prog := prog) (w := w) (A := B) (I := s.heap.objs.size + 1) (T := s.heap.objs.size) (ep := ep) hB (Nat.ne_of_lt (Nat.lt_succ_of_lt ha)) (Nat.ne_of_lt (Nat.lt_succ_self _)) po hd hf
      rw [hz] at W
      dsimp only
      rw [hsz]
      refine h _ d _ _ _ _ (fun b u e => Heap.get?_push_of_some _ (Heap.get?_push_of_some _ e)) (fun b hb => ?_) (Nat.le_succ _) W (fun acc hacc => ?_) ⟨?_, Heap.get?_push_of_some _ (Heap.get?_push_size _ rfl), Heap.get?_push_of_some _ (Heap.get?_push_of_some _ ho)⟩
      · simp only [List.mem_cons, List.not_mem_nil, or_false] at hb
        rcases hb with rfl | rfl | rfl
        · exact .inr (Nat.le_succ _)
        · exact .inr (Nat.le_refl _)
        · exact .inl rfl
      · have hx : acc.toList = ord.filterMap fun j => (es.toList.map (·.2))[j]? := by
          have hb : ∀ j ∈ ord, j < (es.toList.map (·.2)).length := fun j hj => by
            rw [List.length_map, Array.length_toList]
            exact List.mem_range.mp (po.mem_iff.mp hj)
          have e1 : (ord.filterMap fun j => (es.toList.map (·.2))[j]?) = ord.map fun j => (es.toList.map (·.2)).getD j .none := by
            clear hacc W po hlo
            induction ord with
            | nil => rfl
            | cons j ord ih =>
              have hj := hb j (.head _)
              rw [List.filterMap_cons_some (b := (es.toList.map (·.2))[j]) (List.getElem?_eq_getElem hj), List.map_cons, ih fun j hj => hb j (.tail _ hj)]
              congr 1
              rw [List.getD_eq_getElem?_getD, List.getElem?_eq_getElem hj]
              rfl
          rw [e1]
          apply List.ext_getElem?
          intro i
          by_cases hi : i < acc.size
          · obtain ⟨j, h1, h2⟩ := hacc.2 i acc[i] (Array.getElem?_eq_getElem hi)
            rw [Array.getElem?_toList, Array.getElem?_eq_getElem hi, List.getElem?_map, h1]
            show some acc[i] = some ((es.toList.map (·.2)).getD j .none)
            rw [List.getD_eq_getElem?_getD, h2]
            rfl
          · have h1 := hacc.1
            rw [List.getElem?_eq_none (by rw [Array.length_toList]; omega), List.getElem?_eq_none (by rw [List.length_map]; omega)]
        rw [hx]
        refine ints_perm ((po.filterMap _).trans ?_) hv hp'
        have e2 := List.filterMap_getElem?_range_length (es.toList.map (·.2))
        rw [List.length_map, Array.length_toList] at e2
        rw [e2]
      · unfold SetIt
        rw [← hz]
        have q := Heap.get?_push_size (s.heap.push { cls := .type "tuple", data := .seq (ord.map fun (i : Nat) => rawInt i).toArray }) (o := { cls := .type "set_iterator", data := .fields #[.ref s.heap.objs.size, .int 0 0, .ref a, .int es.size 0, .int ep 0] }) rfl
        rw [hsz] at q
        simpa [rawInt] using q
theorem hint_setV (hT : s.TypeIs (.ref a) "set") {Q : Bool → Shared → Prop} (h : Q false s) : wpAny (model prog w) A (Builtin.List.listLengthHint (.ref a)) Q E s := by
  unfold Builtin.List.listLengthHint
  refine wpAny_bind (wpAny_specialOf hT PySem.F.slot_set_len.lookup ?_)
  generalize hid : ("set.__len__" : String) = id1
  wp_delta
  rw [show splitId id1 = some ("set", "__len__") from by subst hid; decide +kernel]
  subst hid
  refine wpAny_bind (wpAny_isInstance (T := "set") (b := true) hT sub_set_self ?_)
  refine wpAny_ite_split (fun z => absurd z (by decide)) fun _ => wpAny_ite_split (fun _ => ?_) fun z => absurd (by decide +kernel) z
  exact wpAny_bind (wpAny_typeOf hT (wpAny_pure h))
theorem pushL (h : Heap) (b : Addr) (u : Obj) (S : Addr) (f : Obj → Obj) (hb : b ≠ S) (e : h.get? b = some u) : (h.update S f).get? b = some u := (Heap.get?_update_other _ _ (Ne.symm hb)).trans e
/-- list-extend by a set -/
theorem extend_setV {R : Result → Shared → Prop} (hh : A.handled = none) (hS : SetV prog w s.heap a σ) (S : Addr) (hSa : S ≠ a) (res : Value) (c₀ : Nat) (hL : s.heap.get? S = some { cls := .type "list", data := .seq #[] c₀ })
    (hR : ∀ h' tk d acc c' ns, (∀ b o, b ≠ S → s.heap.get? b = some o → h'.get? b = some o) → h'.get? S = some { cls := .type "list", dict := none, data := .seq acc c', slots := #[] } → IntsAre acc.toList ns → ns.Perm σ → R (.ok (.ret res)) { s with heap := h', toks := tk, drawn := d }) :
    wpAny (model prog w) A.in1 (Builtin.List.listExtendWith (.ref S) (.ref a) res) (fun fin s' => match fin with | .done f => R (.ok f) s' | .again c' => c'.quiet = true ∧ codeAny (model prog w) A c' R s') (fun e s' => R (.error e) s') s := by
  have hlS := Heap.lt_size hL
  have hl : σ.length ≤ sizeLine := by obtain ⟨_, _, _, _, _, _, _, _, _, hl, _⟩ := id hS; exact fits_of_scanBound hl
  unfold Builtin.List.listExtendWith
  refine wpAny_bind (wpAny_typeOf hS.typeIs ?_)
  have h1 : Builtin.List.listSameRef (.ref S) (.ref a) = false := by simp [Builtin.List.listSameRef, hSa]
  have h2 : (Value.type "set" == Value.type "list") = false := by decide
  have h3 : (Value.type "set" == Value.type "tuple") = false := by decide
  simp only [h1, h2, h3, Bool.or_false, Bool.false_eq_true, if_false]
  refine wpAny_bind (pyIter_setV hS fun h' d I fp P St k hfp hI W it st => ?_)
  have hSf : S ∉ fp := fun z => by
    rcases hfp S z with e | e
    · exact hSa e
    · exact absurd hlS (Nat.not_lt.mpr e)
  have key : ∀ (g : Heap) (c₁ tk : Nat), St 0 g → (∀ b o, b ≠ S → s.heap.get? b = some o → g.get? b = some o) → g.get? S = some { cls := .type "list", data := .seq #[] c₁ } →
      codeAny (model prog w) A (.builtin "list.extend.loop" ⟨[.ref S, .ref I, res], []⟩) R { s with heap := g, toks := tk, drawn := d } := by
    intro g c₁ tk hst hk hS₁
    refine codeAny_extend_loopS (W A.in1 hh).toS hl S hSf res σ.length 0 _ #[] c₁ rfl (Nat.zero_le _) hst hS₁ (ItemsOf.nil _) fun s' acc c' hm hS' hacc => ?_
    obtain ⟨ns, n1, n2⟩ := it acc hacc
    have e := hR s'.heap s'.toks d acc c' ns (fun b o hb e => hm.heap b o (fun z => ?_) (hk b o hb e)) hS' n1 n2
    · obtain ⟨h', g', d', tk', os'⟩ := s'
      have eg : g' = s.gens := hm.gens
      have ed : d' = d := hm.drawn
      have eo : os' = s.os := hm.os
      subst eg; subst ed; subst eo
      exact e
    · rcases List.mem_cons.mp z with z | z
      · exact hb z
      · exact absurd (Heap.lt_size e) (by rw [List.mem_singleton.mp z]; exact Nat.not_lt.mpr hI)
  refine wpAny_bind (wpAny_holding (hint_setV (s := { s with heap := h', drawn := d }) (let ⟨o, ho, hc⟩ := hS.typeIs; ⟨o, k _ _ ho, hc⟩) ?_))
  have hS₁ := k _ _ hL
  refine wpAny_ite_split (fun _ => ?_) fun _ => wpAny_pure ⟨plainId_quiet PySem.F.plain_extend_loop _, key _ c₀ _ st (fun b o _ e => k b o e) hS₁⟩
  refine wpAny_bind (wpAny_rule (wpAny_bind ?_))
  show wpAny _ _ (updateSeq S (·.push .none) >>= fun _ => updateSeq S (·.pop)) _ _ _
  refine wpAny_bind (wpAny_updateSeq hS₁ rfl ?_)
  have hS₂ := Heap.get?_update_self (Obj.mapSeq (·.push Value.none)) hS₁ rfl
  refine wpAny_updateSeq (hz := by seq_fits) hS₂ rfl ?_
  have hS₃ := Heap.get?_update_self (Obj.mapSeq (·.pop)) hS₂ rfl
  refine wpAny_pure ⟨plainId_quiet PySem.F.plain_extend_loop _, key _ _ _ ?_ (fun b o hb e => pushL _ _ _ _ _ hb (pushL _ _ _ _ _ hb (k b o e))) hS₃⟩
  exact (W A hh).frame 0 _ _ st fun b hb o e => pushL _ _ _ _ _ (fun z => hSf (z ▸ hb)) (pushL _ _ _ _ _ (fun z => hSf (z ▸ hb)) e)
theorem collect_setV (hh : A.handled = none) (hS : SetV prog w s.heap a σ) {Q : List Value → Shared → Prop}
    (h : ∀ (h' : Heap) (tk : Nat) d (vs : List Value) (ns : List Int), (∀ b o, s.heap.get? b = some o → h'.get? b = some o) → IntsAre vs ns → ns.Perm σ → Q vs { s with heap := h', toks := tk, drawn := d }) : wpAny (model prog w) A (collect (.ref a)) Q E s := by
  unfold collect
  refine wpAny_bind (wpAny_runValue (codeAny_builtin PySem.F.entry_proto_collect ?_))
  rw [Around.under_plainId PySem.F.plain_proto_collect _]
  refine wpAny_bind (m := newList []) (wpAny_newObj_type (wpAny_pure ⟨plainId_quiet PySem.F.plain_list_iadd _, codeAny_builtin PySem.F.entry_list_iadd ?_⟩))
  rw [Around.under_plainId PySem.F.plain_list_iadd _]
  have hL : (s.heap.push { cls := .type "list", data := .seq ([] : List Value).toArray }).get? s.heap.objs.size = some { cls := .type "list", data := .seq #[] } := Heap.get?_push_size _ rfl
  have key := extend_setV (A := A) (s := { s with heap := s.heap.push { cls := .type "list", data := .seq ([] : List Value).toArray } })
    (R := fun (q : Result) (s' : Shared) => ∃ (h' : Heap) (tk : Nat) (d : _) (acc : Array Value) (c' : Nat) (ns : List Int), q = .ok (.ret (.ref s.heap.objs.size)) ∧ s' = { s with heap := h', toks := tk, drawn := d } ∧ (∀ b o, s.heap.get? b = some o → h'.get? b = some o) ∧
      h'.get? s.heap.objs.size = some { cls := .type "list", dict := none, data := .seq acc c', slots := #[] } ∧ IntsAre acc.toList ns ∧ ns.Perm σ)
    hh (hS.at fun o e => Heap.get?_push_of_some _ e) s.heap.objs.size (Nat.ne_of_gt hS.lt) (.ref s.heap.objs.size) 0 hL
    fun h' tk d acc c' ns hk hS' i1 i2 => ⟨h', tk, d, acc, c', ns, rfl, rfl, fun b o e => hk b o (Nat.ne_of_lt (Heap.lt_size e)) (Heap.get?_push_of_some _ e), hS', i1, i2⟩
  refine wpAny_mono key (fun fin s' x => ?_) fun e s' x => ?_
  · cases fin with
    | done f =>
      obtain ⟨h', tk, d, acc, c', ns, e, rfl, hk, hS', i1, i2⟩ := x
      cases e
      exact wpAny_bind (m := load s.heap.objs.size) (wpAny_load hS' (wpAny_pure (h h' tk d _ ns hk i1 i2)))
    | again c₁ =>
      refine ⟨x.1, codeAny_mono x.2 fun q s₂ y => ?_⟩
      obtain ⟨h', tk, d, acc, c', ns, rfl, rfl, hk, hS', i1, i2⟩ := y
      exact wpAny_bind (m := load s.heap.objs.size) (wpAny_load hS' (wpAny_pure (h h' tk d _ ns hk i1 i2)))
  · obtain ⟨_, _, _, _, _, _, z, _⟩ := x
    cases z
/-- sorted of a set -/
theorem sorted_setV (hh : A.handled = none) (hS : SetV prog w s.heap a σ) {Q : Value → Shared → Prop}
    (h : ∀ (h1 h' : Heap) (tk : Nat) d (out : List Value) (ns : List Int) (e : Nat), (∀ b o, s.heap.get? b = some o → h1.get? b = some o) → (∀ b o, h1.get? b = some o → h'.get? b = some o) → h'.get? h1.objs.size = some (seqObj "list" out.toArray e) → IntsAre out ns → ns.Perm σ → ns.Pairwise (· ≤ ·) → Q (.ref h1.objs.size) { s with heap := h', toks := tk, drawn := d }) :
    wpAny (model prog w) A (call (.builtin "sorted") [.ref a]) Q E s := by
  have hl : σ.length ≤ sizeLine := by obtain ⟨_, _, _, _, _, _, _, _, _, hl, _⟩ := id hS; exact fits_of_scanBound hl
  refine Calls.call_function_entry kind_sorted plain_sorted entry_sorted (args_sorted1 _) ?_
  unfold Builtin.«sorted»
  refine wpAny_bind (m := checkCount "sorted" 1 1 _) (wpAny_pure ?_)
  refine wpAny_bind (collect_setV (A := A.in1) hh hS fun h' tk d vs ns k i1 i2 => ?_)
  have hvl : vs.length ≤ sizeLine := by rw [i1.length, i2.length_eq]; exact hl
  refine wpAny_bind (wpAny_newList ?_ hvl)
  have hoL : (h'.push (seqObj "list" vs.toArray 0)).get? h'.objs.size = some (seqObj "list" vs.toArray 0) := Heap.get?_push_size _ rfl
  refine wpAny_bind (wpAny_holding (wpAny_call_entry slot_list_sort ⟨_, hoL, rfl⟩ entry_list_sort (list_sort_treeAny (s := { s with heap := h'.push (seqObj "list" vs.toArray 0), toks := tk, drawn := d }) hoL i1 hvl fun out ns' a1 a2 a3 => ⟨_, rfl, ?_⟩) (args_list_sort _)))
  obtain ⟨e, he⟩ := sortedHeap_at (vs := vs) (out := out) hoL
  refine wpAny_pure ⟨_, rfl, h h' _ tk d out.toList ns' e k (fun b o eb => ?_) (by simpa using he) a1 (a2.trans i2) a3⟩
  have hb := Heap.lt_size eb
  rw [sortedHeap_old (Nat.ne_of_lt hb) (by rw [Heap.size_push]; exact Nat.lt_succ_of_lt hb)]
  exact Heap.get?_push_of_some _ eb
end
end L3
set_option Elab.async false
set_option linter.all false
set_option maxRecDepth 100000
namespace L3
open PySem PySem.Spec PyProof PyProof.Rows L2
section
variable {X : Cx} {e : Expr} {ta : TA} {p p2 pos pos2 : Pos}
theorem inv_drawn {pins : List (Addr × Obj)} {σ : L2.St} {H : Hp} {s : Shared} (I : Inv X pins σ H s) (d : Drawn) : Inv X pins σ H { s with drawn := d } := ⟨I.ok, I.os, I.bare, I.base, I.loc, I.cell, I.free, I.freeC, I.pin, I.hok, I.len⟩
theorem lt_of_le_nodup {ns : List Int} (h : ns.Pairwise (· ≤ ·)) (n : ns.Nodup) : ns.Pairwise (· < ·) := by
  refine (List.pairwise_and_iff.mpr ⟨h, n⟩).imp fun ⟨a, b⟩ => ?_
  omega
theorem once_of_perm {ns out : List Int} (p : out.Perm (onceL ns)) (h : out.Pairwise (· ≤ ·)) : out.Pairwise (· < ·) ∧ ∀ x, x ∈ out ↔ x ∈ ns := by
  have nd : (onceL ns).Nodup := once_nodup ns [] .nil
  refine ⟨lt_of_le_nodup h (p.nodup_iff.mpr nd), fun x => ?_⟩
  rw [p.mem_iff]
  unfold onceL
  rw [once_mem]
  simp
def tSortedSet (ta : TA) : TE := fun σ H Q => ta σ H fun vs H1 => ∃ (a : Addr) (ns : List Int), vs = [.ref a] ∧ SqL X.K H1 a (ns.map V.int) ∧ ns.length ≤ 4000 ∧ ∀ (out : List Int) (l : Addr), out.Pairwise (· < ·) → (∀ x, x ∈ out ↔ x ∈ ns) → H1 l = none → Q (.ref l) (upd H1 l (.lst (out.map V.int)))
theorem pe_sortedSet (hc : X.calm = true) (hg1 : Gl X "sorted") (hm1 : X.mg "sorted" = none) (hg2 : Gl X "set") (hm2 : X.mg "set" = none) (ha : PA X [e] ta) (hs : starEach [e] X.env = (false, eval e X.env) :: starEach [] X.env := by rfl) :
    PE X (.Call (.Name "sorted" p) [.Call (.Name "set" p2) [e] [] pos2] [] pos) (tSortedSet (X := X) ta) := by
  intro pins s σ H Q I h
  have hh := I.ok.hd hc
  refine wpAny_Call_Name_kw (ld_blt I hg1 hm1 (by decide +kernel : bootBuiltins "sorted" = some (.builtin "sorted")) ?_)
  refine PyProof.Rows.callWith_builtin1 ?_ (by rfl) (by rfl)
  show wpAny _ _ (spliced ((false, eval (.Call (.Name "set" p2) [e] [] pos2) X.env) :: [])) _ _ s
  refine Calls.spliced_cons (Call_ (ld_blt I hg2 hm2 (by decide +kernel : bootBuiltins "set" = some (.type "set")) (PyProof.Rows.callWith_type1 (thn (ha pos2 pins s σ H _ I h) fun us s1 ⟨vs, H1, I1, r1, q1⟩ => ?_) hs (by rfl))))
  obtain ⟨a, ns, rfl, hsq, hl, q⟩ := q1
  rw [Vals.ref1 r1]
  obtain ⟨its, rv, pl, _⟩ := I1.list hsq
  have hi := rv.ints
  refine call_setV hh pl.isList (by simpa using hi) (by unfold scanBound; omega) fun h1 tk hS k => Calls.spliced_nil ?_
  have I2 : Inv X pins σ H1 { s1 with heap := h1, toks := tk } := I1.kept k
  refine sorted_setV (s := { s1 with heap := h1, toks := tk }) hh hS fun h2 h3 tk2 d out ns' ep k2 k3 hat i1 i2 i3 => ?_
  have I3 : Inv X pins σ H1 { s1 with heap := h2, toks := tk2 } := I2.kept k2
  obtain ⟨o1, o2⟩ := once_of_perm i2 i3
  have hz : ns'.length ≤ 4000 := by
    have := i2.length_eq
    have := once_len ns []
    unfold onceL at i2
    simp only [List.length_nil, Nat.zero_add] at this
    have e := i2.length_eq
    omega
  have I4 : Inv X pins σ (upd H1 h2.objs.size (.lst (ns'.map V.int))) { s1 with heap := h3, toks := tk2 } :=
    I3.laid (t' := tk2) k3 (Nat.le_refl _) ⟨by rw [List.length_map, sizeLine_eq]; omega, out, ep, vals_of_ints i1, hat⟩
  exact ⟨.ref h2.objs.size, _, inv_drawn I4 d, rfl, q ns' _ o1 o2 (I3.hok.fresh (Nat.le_refl _))⟩
end
end L3
set_option Elab.async false
set_option linter.all false
set_option maxRecDepth 100000
namespace L4
open PySem PySem.Spec PyProof.Rows L2 L3
section
variable {Ts : List Addr} {X : Cx} {a b : Expr} {wa wb : WE} {pos : Pos}
/-- sorted(set(xs)) -/
def wSortedSet (wa : WE) : WE := fun τ S Q => wa τ S fun x S1 => ∃ ns : List Int, seqW S1 x = some (false, ns.map PV.int) ∧ ns.length ≤ 4000 ∧ ∀ out : List Int, out.Pairwise (· < ·) → (∀ y, y ∈ out ↔ y ∈ ns) → Q (.ref S1.length) (S1 ++ [.lst (out.map PV.int)])
theorem se_sortedSet {p1 p2 pos2 : Pos} (hc : X.calm = true) (hg1 : Gl X "sorted") (hm1 : X.mg "sorted" = none) (hg2 : Gl X "set") (hm2 : X.mg "set" = none) (ha : SE Ts X a wa) (hs : starEach [a] X.env = (false, eval a X.env) :: starEach [] X.env := by rfl) :
    SE Ts X (.Call (.Name "sorted" p1) [.Call (.Name "set" p2) [a] [] pos2] [] pos) (wSortedSet wa) := by
  have sa := sa_cons ha sa_nil hs
  refine ⟨pe_imp (pe_sortedSet hc hg1 hm1 hg2 hm2 sa.pa hs) fun σ H Q h => ?_, fun τ S Q Q' q k => ha.mo _ _ _ _ q fun v S1 ⟨ns, h1, h2, q⟩ => ⟨ns, h1, h2, fun out a b => k _ _ (q out a b)⟩⟩
  obtain ⟨M, S, τ, s, st, h⟩ := h
  refine runA sa.mo s st (show wCons wa wNil τ S (fun vs S2 => ∃ (x : PV) (ns : List Int), vs = [x] ∧ seqW S2 x = some (false, ns.map PV.int) ∧ ns.length ≤ 4000 ∧ ∀ out : List Int, out.Pairwise (· < ·) → (∀ y, y ∈ out ↔ y ∈ ns) → upQ Ts X.K M S.length H Q (.ref S2.length) (S2 ++ [.lst (out.map PV.int)])) from ha.mo _ _ _ _ h fun x S1 ⟨ns, h1, h2, q⟩ => ⟨x, ns, rfl, h1, h2, q⟩) fun vs S1 M1 H1 us f t1 s1 r1 => ?_
  obtain ⟨x, ns, rfl, h1, h2, q⟩ := f
  obtain ⟨u, rfl, r0⟩ := r1.one
  obtain ⟨p, us, rfl, h4, r4⟩ := s1.seq h1 r0
  have e := r4.of_ints
  subst e
  exact ⟨p, ns, rfl, h4, h2, fun out l h5 h6 hp => ((q out h5 h6).base t1).lst s1 (.ints _) l hp⟩
end
end L4
set_option Elab.async false
set_option linter.all false
set_option maxRecDepth 100000
namespace L4
open PySem PySem.Spec PyProof.Rows L2 L3
def n3row (l : List Nat) : PyData := .list (l.map fun k : Nat => .int k)
def n3rows (ls : List (List Nat)) : PyData := .list (ls.map n3row)
def n3lay (N : Net) : List (List Nat) := (List.range (dpM N.sw N.sw.length)).map fun l => rowM N.sw N.sw.length l
theorem n3sh (ls : List (List Nat)) : Sh 2 (n3rows ls) := .lst fun d hd => by
  obtain ⟨l, _, rfl⟩ := List.mem_map.mp hd
  exact .lst fun e he => by
    obtain ⟨k, _, rfl⟩ := List.mem_map.mp he
    exact .int _
/-- the rows ls lie in the store, and a list of them at b -/
def RowsAt (S : Sto) (b : Nat) (ls : List (List Nat)) : Prop := ∃ rs : List Nat, S[b]? = some (.lst (rs.map PV.ref)) ∧ rs.length = ls.length ∧ ∀ (i r : Nat), rs[i]? = some r → b < r ∧ ∃ l : List Nat, ls[i]? = some l ∧ S[r]? = some (.lst (l.map natP))
theorem dvs_get {S : Sto} : ∀ {xs : List PV} {ds : List PyData}, xs.length = ds.length → (∀ (i : Nat) (x : PV), xs[i]? = some x → ∃ d, ds[i]? = some d ∧ DV S x d) → DVs S xs ds
  | [], [], _, _ => .nil
  | [], _ :: _, h, _ => by simp at h
  | _ :: _, [], h, _ => by simp at h
  | x :: xs, d :: ds, h, k => by
    obtain ⟨d', e, q⟩ := k 0 x rfl
    cases e
    exact .cons q (dvs_get (by simpa using h) fun i y hy => k (i + 1) y hy)
theorem RowsAt.dv {S : Sto} {b : Nat} {ls : List (List Nat)} (h : RowsAt S b ls) : DV S (.ref b) (n3rows ls) := by
  obtain ⟨rs, h1, h2, h3⟩ := h
  refine .lst h1 (dvs_get (by rw [List.length_map, List.length_map, h2]) fun i x hx => ?_)
  rw [List.getElem?_map] at hx
  cases e : rs[i]? with
  | none => rw [e] at hx; cases hx
  | some r =>
    rw [e] at hx
    cases hx
    obtain ⟨_, l, e1, e2⟩ := h3 i r e
    refine ⟨n3row l, by rw [List.getElem?_map, e1]; rfl, .lst e2 (dvs_map fun k _ => .int _)⟩
theorem RowsAt.app {S : Sto} {b : Nat} {ls : List (List Nat)} (h : RowsAt S b ls) (G : Sto) : RowsAt (S ++ G) b ls := by
  obtain ⟨rs, h1, h2, h3⟩ := h
  exact ⟨rs, get_app h1, h2, fun i r hr => let ⟨a, l, e1, e2⟩ := h3 i r hr; ⟨a, l, e1, get_app e2⟩⟩
theorem rows_new (S : Sto) (N : Net) : RowsAt (S ++ layG S.length N.sw N.w N.sw.length (dpM N.sw N.sw.length)) (S.length + 2) (n3lay N) := by
  refine ⟨(List.range (dpM N.sw N.sw.length)).map fun l => S.length + 3 + l, ?_, by simp [n3lay], fun i r hr => ?_⟩
  · have gT : (S ++ layG S.length N.sw N.w N.sw.length (dpM N.sw N.sw.length))[S.length + 2]? = some (.lst (refsP S.length (dpM N.sw N.sw.length))) := get_off
    rw [gT, List.map_map]; rfl
  · rw [List.getElem?_map] at hr
    cases e : (List.range (dpM N.sw N.sw.length))[i]? with
    | none => rw [e] at hr; cases hr
    | some k =>
      rw [e] at hr
      cases hr
      have hi : i < dpM N.sw N.sw.length := by simpa using (List.getElem?_eq_some_iff.mp e).1
      have ek : k = i := by rw [List.getElem?_range hi] at e; exact (Option.some.inj e).symm
      subst ek
      show _ < S.length + 3 + k ∧ ∃ l : List Nat, _ ∧ (S ++ layG S.length N.sw N.w N.sw.length (dpM N.sw N.sw.length))[S.length + 3 + k]? = _
      refine ⟨by omega, rowM N.sw N.sw.length k, by rw [n3lay, List.getElem?_map, e]; rfl, ?_⟩
      rw [Nat.add_assoc, get_off, layG_row hi]
      rfl
theorem eq_rows {neg : Bool} {S : Sto} {a b : Nat} {ls ms : List (List Nat)} {Q : WQ} (h1 : RowsAt S a ls) (h2 : RowsAt S b ms) (e : ls = ms) (q : Q (.bl (neg ^^ true)) S) : rEqW neg (.ref a) (.ref b) S Q := by
  subst e
  exact eqW_same h1.dv h2.dv (n3sh ls) q
section
variable {N O : Net} {f : List Nat}
theorem n3_is {N : Net} (u : Nat) (hN : N.Ok) : fwdN N u = (List.range N.w).filter fun i => reachB N.sw (only u) (N.ord.getD i 0) := by
  unfold fwdN endsL
  rw [n2ordL hN]
theorem n3lay_ren (hN : N.Ok) (hf : f.Perm (List.range N.w)) : n3lay (renN N f) = n3lay N := by
  have l : (renN N f).sw.length = N.sw.length := by simp [renN]
  have hd := n2dp_ren hN hf
  unfold n3lay
  rw [hd, l]
  refine List.map_congr_left fun k _ => ?_
  exact rows_ren (B := N.sw) (f := f) (n2f_nd hf) (fun s hs => by rw [n2f_len hf]; exact ⟨(hN.sw s hs).1, (hN.sw s hs).2.1⟩) k
theorem full_ren (hN : N.Ok) (hf : f.Perm (List.range N.w)) : fullN (renN N f) = fullN N := by
  have l : (renN N f).sw.length = N.sw.length := by simp [renN]
  unfold fullN
  rw [n2dp_ren hN hf, l]
  have e : ∀ k, rowM (renN N f).sw N.sw.length k = rowM N.sw N.sw.length k := rows_ren (B := N.sw) (f := f) (n2f_nd hf) (fun s hs => by rw [n2f_len hf]; exact ⟨(hN.sw s hs).1, (hN.sw s hs).2.1⟩)
  simp only [e]
  rfl
theorem fwd_ren (hN : N.Ok) (hf : f.Perm (List.range N.w)) {u : Nat} (hu : u < N.w) : fwdN (renN N f) (f.getD u 0) = fwdN N u := by
  have fl := n2f_len hf
  rw [n3_is _ (n2ren_ok hN hf), n3_is _ hN]
  show (List.range N.w).filter _ = _
  refine List.filter_congr fun i hi => ?_
  have hi' := List.mem_range.mp hi
  have ho := perm_lt hN.ord _ (gdn_mem (f := N.ord) (x := i) (by rw [n2ordL hN]; exact hi'))
  have e : (renN N f).ord.getD i 0 = f.getD (N.ord.getD i 0) 0 := by
    show (N.ord.map fun i => f.getD i 0).getD i 0 = _
    rw [List.getD_eq_getElem?_getD, List.getElem?_map, List.getD_eq_getElem?_getD (l := N.ord), List.getElem?_eq_getElem (by rw [n2ordL hN]; exact hi')]; rfl
  rw [e]
  refine reach_ren (f := f) (n2f_nd hf) (B := N.sw) (fun s hs => by rw [fl]; exact ⟨(hN.sw s hs).1, (hN.sw s hs).2.1⟩) (fun x hx => ?_) _ (by rw [fl]; exact ho)
  unfold only
  rw [Bool.eq_iff_iff, beq_iff_eq, beq_iff_eq]
  exact ⟨gdn_inj (n2f_nd hf) hx (by omega), fun z => by rw [z]⟩
theorem bes_rows (hN : N.Ok) (hO : O.Ok) (l : Nat) : rowM (besN N O).sw (besN N O).sw.length l = rowM N.sw N.sw.length l ++ (rowM O.sw O.sw.length l).map (N.sw.length + ·) := by
  have ll : (besN N O).sw.length = N.sw.length + O.sw.length := by simp [besN, renN]
  rw [ll]
  refine rows_bes (A := N.sw) (B := O.sw) (f := List.range' N.w O.w) List.nodup_range' (fun s hs => by rw [List.length_range']; exact ⟨(hO.sw s hs).1, (hO.sw s hs).2.1⟩) (fun x hx => ?_) l
  rw [List.length_range'] at hx
  rw [rng_gd hx]
  exact nl_out (fun s hs => by obtain ⟨a, b, _⟩ := hN.sw s hs; omega) _ (Nat.le_refl _)
theorem full_besN (hN : N.Ok) (hO : O.Ok) : fullN (besN N O) = (fullN N && (fullN O && decide ((dpM N.sw N.sw.length : Int) = (dpM O.sw O.sw.length : Int)))) :=
  full_bes (C := (besN N O).sw) hN.sw hO.sw hN.w1 hO.w1 (n2dp_bes hN hO) (bes_rows hN hO)
/-- both's layers, layer by layer -/
theorem n3lay_bes (hN : N.Ok) (hO : O.Ok) : n3lay (besN N O) = (List.range (max (dpM N.sw N.sw.length) (dpM O.sw O.sw.length))).map fun l => rowM N.sw N.sw.length l ++ (rowM O.sw O.sw.length l).map (N.sw.length + ·) := by
  unfold n3lay
  rw [n2dp_bes hN hO]
  exact List.map_congr_left fun l _ => bes_rows hN hO l
theorem bes_ord {i : Nat} (hN : N.Ok) (hO : O.Ok) : (i < N.w → (besN N O).ord.getD i 0 = N.ord.getD i 0) ∧ (∀ j, j < O.w → (besN N O).ord.getD (N.w + j) 0 = N.w + O.ord.getD j 0) := by
  have l1 := n2ordL hN
  have l2 := n2ordL hO
  rw [bes_is hO]
  constructor
  · intro h
    show (N.ord ++ O.ord.map (N.w + ·)).getD i 0 = _
    rw [List.getD_eq_getElem?_getD, List.getElem?_append_left (by omega), List.getD_eq_getElem?_getD]
  · intro j h
    show (N.ord ++ O.ord.map (N.w + ·)).getD (N.w + j) 0 = _
    rw [List.getD_eq_getElem?_getD, List.getElem?_append_right (by omega), l1, Nat.add_sub_cancel_left, List.getElem?_map, List.getD_eq_getElem?_getD, List.getElem?_eq_getElem (by omega)]
    rfl
theorem fwd_bes1 (hN : N.Ok) (hO : O.Ok) (h : N.w + O.w ≤ 16) {u : Nat} (hu : u < N.w) : fwdN (besN N O) u = fwdN N u := by
  rw [n3_is _ (bes_ok hN hO h), n3_is _ hN]
  show (List.range (N.w + O.w)).filter _ = _
  have sw : (besN N O).sw = N.sw ++ renS (List.range' N.w O.w) O.sw := rfl
  have ok : ∀ s ∈ O.sw, s.1 < (List.range' N.w O.w).length ∧ s.2 < (List.range' N.w O.w).length := fun s hs => by rw [List.length_range']; exact ⟨(hO.sw s hs).1, (hO.sw s hs).2.1⟩
  rw [List.range_add, List.filter_append]
  have e1 : ((List.range O.w).map (N.w + ·)).filter (fun i => reachB (besN N O).sw (only u) ((besN N O).ord.getD i 0)) = [] := by
    rw [List.filter_eq_nil_iff]
    intro i hi
    obtain ⟨j, hj, rfl⟩ := List.mem_map.mp hi
    have hj' := List.mem_range.mp hj
    have ho := perm_lt hO.ord _ (gdn_mem (f := O.ord) (x := j) (by rw [n2ordL hO]; exact hj'))
    rw [(bes_ord (i := 0) hN hO).2 j hj', sw, reach_app]
    have r := reach_ren (f := List.range' N.w O.w) List.nodup_range' (B := O.sw) (R := fun _ => false) (R' := reachB N.sw (only u)) ok (fun x hx => ?_) (O.ord.getD j 0) (by rw [List.length_range']; exact ho)
    · rw [rng_gd ho] at r
      rw [r, reach_none]
      simp
    · rw [List.length_range'] at hx
      rw [rng_gd hx, reach_off fun s hs => by obtain ⟨a, b, _⟩ := hN.sw s hs; omega]
      unfold only
      rw [beq_eq_false_iff_ne]
      omega
  rw [e1, List.append_nil]
  refine List.filter_congr fun i hi => ?_
  have hi' := List.mem_range.mp hi
  have ho := perm_lt hN.ord _ (gdn_mem (f := N.ord) (x := i) (by rw [n2ordL hN]; exact hi'))
  rw [(bes_ord hN hO).1 hi', sw, reach_app]
  refine reach_off fun s hs => ?_
  obtain ⟨t, ht, rfl⟩ := List.mem_map.mp hs
  obtain ⟨a, b, _⟩ := hO.sw t ht
  rw [rng_gd a, rng_gd b]
  omega
theorem fwd_bes2 (hN : N.Ok) (hO : O.Ok) (h : N.w + O.w ≤ 16) {u : Nat} (hu : u < O.w) : fwdN (besN N O) (u + N.w) = (fwdN O u).map (· + N.w) := by
  rw [n3_is _ (bes_ok hN hO h), n3_is _ hO]
  show (List.range (N.w + O.w)).filter _ = _
  have sw : (besN N O).sw = N.sw ++ renS (List.range' N.w O.w) O.sw := rfl
  have ok : ∀ s ∈ O.sw, s.1 < (List.range' N.w O.w).length ∧ s.2 < (List.range' N.w O.w).length := fun s hs => by rw [List.length_range']; exact ⟨(hO.sw s hs).1, (hO.sw s hs).2.1⟩
  rw [List.range_add, List.filter_append]
  have e1 : (List.range N.w).filter (fun i => reachB (besN N O).sw (only (u + N.w)) ((besN N O).ord.getD i 0)) = [] := by
    rw [List.filter_eq_nil_iff]
    intro i hi
    have hi' := List.mem_range.mp hi
    have ho := perm_lt hN.ord _ (gdn_mem (f := N.ord) (x := i) (by rw [n2ordL hN]; exact hi'))
    rw [(bes_ord hN hO).1 hi', sw, reach_app, reach_off fun s hs => ?_]
    · rw [Bool.not_eq_true]
      have step : ∀ (A : List (Nat × Nat)) (R : Nat → Bool), (∀ s ∈ A, s.1 < N.w ∧ s.2 < N.w) → (∀ z, z < N.w → R z = false) → ∀ z, z < N.w → reachB A R z = false := by
        intro A
        induction A with
        | nil => intro R _ hR z hz; exact hR z hz
        | cons s A ih =>
          intro R hs hR z hz
          refine ih (stepB s R) (fun t ht => hs t (.tail _ ht)) (fun y hy => ?_) z hz
          obtain ⟨a, b⟩ := hs s (.head _)
          unfold stepB
          rw [hR y hy, hR _ a, hR _ b]
          rfl
      refine step N.sw _ (fun s hs => ⟨(hN.sw s hs).1, (hN.sw s hs).2.1⟩) (fun z hz => ?_) _ ho
      unfold only
      rw [beq_eq_false_iff_ne]
      omega
    · obtain ⟨t, ht, rfl⟩ := List.mem_map.mp hs
      obtain ⟨a, b, _⟩ := hO.sw t ht
      rw [rng_gd a, rng_gd b]
      omega
  rw [e1, List.nil_append, List.filter_map]
  have e2 : ((fun i => reachB (besN N O).sw (only (u + N.w)) ((besN N O).ord.getD i 0)) ∘ (N.w + ·)) = fun j => reachB (besN N O).sw (only (u + N.w)) ((besN N O).ord.getD (N.w + j) 0) := rfl
  rw [e2, List.map_congr_left (g := (· + N.w)) fun x _ => Nat.add_comm _ _]
  congr 1
  refine List.filter_congr fun j hj => ?_
  have hj' := List.mem_range.mp hj
  have ho := perm_lt hO.ord _ (gdn_mem (f := O.ord) (x := j) (by rw [n2ordL hO]; exact hj'))
  rw [(bes_ord (i := 0) hN hO).2 j hj', sw, reach_app]
  have r := reach_ren (f := List.range' N.w O.w) List.nodup_range' (B := O.sw) (R := only u) (R' := reachB N.sw (only (u + N.w))) ok (fun x hx => ?_) (O.ord.getD j 0) (by rw [List.length_range']; exact ho)
  · rw [rng_gd ho] at r
    exact r
  · rw [List.length_range'] at hx
    rw [rng_gd hx, reach_off fun s hs => by obtain ⟨a, b, _⟩ := hN.sw s hs; omega]
    unfold only
    rw [Bool.eq_iff_iff, beq_iff_eq, beq_iff_eq]
    omega
/-- behind one another: the ends of the second from some end of the first -/
theorem fwd_beh (hN : N.Ok) (hO : O.Ok) (e : O.w = N.w) (u i : Nat) : i ∈ fwdN (behN N O) u ↔ ∃ x, x ∈ fwdN N u ∧ i ∈ fwdN O x := by
  have l1 := n2ordL hN
  have l2 := n2ordL hO
  rw [n3_is _ (beh_ok hN hO e), n3_is _ hN]
  show i ∈ (List.range N.w).filter _ ↔ _
  rw [List.mem_filter, List.mem_range]
  have hR : ∀ x, i ∈ fwdN O x ↔ i < N.w ∧ reachB O.sw (only x) (O.ord.getD i 0) = true := fun x => by
    rw [n3_is _ hO, List.mem_filter, List.mem_range, e]
  have main : i < N.w → (reachB (behN N O).sw (only u) ((behN N O).ord.getD i 0) = true ↔ ∃ x, (x < N.w ∧ reachB N.sw (only u) (N.ord.getD x 0) = true) ∧ reachB O.sw (only x) (O.ord.getD i 0) = true) := fun hi => by
    have ho := perm_lt hO.ord _ (gdn_mem (f := O.ord) (x := i) (by omega))
    have eo : (behN N O).ord.getD i 0 = N.ord.getD (O.ord.getD i 0) 0 := by
      show (O.ord.map fun i => N.ord.getD i 0).getD i 0 = _
      rw [List.getD_eq_getElem?_getD, List.getElem?_map, List.getD_eq_getElem?_getD (l := O.ord), List.getElem?_eq_getElem (by omega)]; rfl
    have sw : (behN N O).sw = N.sw ++ renS N.ord O.sw := rfl
    rw [eo, sw, reach_app]
    have r := reach_ren (f := N.ord) (perm_nd hN.ord) (B := O.sw) (R := fun x => decide (x < N.w) && reachB N.sw (only u) (N.ord.getD x 0)) (R' := reachB N.sw (only u)) (fun s hs => by rw [l1, ← e]; exact ⟨(hO.sw s hs).1, (hO.sw s hs).2.1⟩)
      (fun x hx => by rw [decide_eq_true (by omega)]; rfl) (O.ord.getD i 0) (by omega)
    rw [r, reachB_un]
    simp only [Bool.and_eq_true, decide_eq_true_eq]
  constructor
  · rintro ⟨hi, h⟩
    obtain ⟨x, ⟨h1, h2⟩, h3⟩ := (main hi).mp h
    exact ⟨x, List.mem_filter.mpr ⟨List.mem_range.mpr h1, h2⟩, (hR x).mpr ⟨hi, h3⟩⟩
  · rintro ⟨x, h1, h2⟩
    obtain ⟨a, b⟩ := List.mem_filter.mp h1
    obtain ⟨c, d⟩ := (hR x).mp h2
    exact ⟨c, (main c).mpr ⟨x, ⟨List.mem_range.mp a, b⟩, d⟩⟩
theorem fwd_up (N : Net) (u : Nat) : ((fwdN N u).map fun k : Nat => (k : Int)).Pairwise (· < ·) := by
  unfold fwdN endsL
  refine List.pairwise_map.mpr ?_
  exact (List.pairwise_lt_range.filter _).imp fun h => by omega
end
end L4
set_option Elab.async false
set_option linter.all false
set_option maxRecDepth 100000
namespace L4
open PySem PySem.Spec PyProof.Rows L2 L3
section
variable {P : Program} {w : World} {K : PySem.W.Frag} {mg : Str → Option Value} {base : Heap}
theorem ends_eq {neg : Bool} {S : Sto} {a b : Nat} {xs ys : List Nat} {Q : WQ} (h1 : S[a]? = some (.lst (xs.map natP))) (h2 : S[b]? = some (.lst (ys.map natP))) (e : xs = ys) (q : Q (.bl (neg ^^ true)) S) : rEqW neg (.ref a) (.ref b) S Q := by
  subst e
  refine eqW_same (n := 1) (d := .list (xs.map fun k : Nat => .int k)) (.lst h1 (dvs_map fun k _ => .int _)) (.lst h2 (dvs_map fun k _ => .int _)) (.lst fun d hd => ?_) q
  obtain ⟨k, _, rfl⟩ := List.mem_map.mp hd
  exact .int _
def wNamedR : WC := fun vs S Q => ∃ a : Nat × Net, vs = [.ref a.1, netP a.2] ∧ (S[a.1]? = some .jar ∧ a.2.Ok ∧ a.2.sw.length ≤ 160) ∧ Q (.bl true) S
theorem mo_namedR : MoC wNamedR := fun xs S Q Q' ⟨a, e, h1, q⟩ k => ⟨a, e, h1, k _ _ q⟩
abbrev s_law_named_right : Stmt := top 22
theorem sc_law_named_right : FnScope ["jar", "net", "names", "called", "wire"] ["jar", "net"] (defScope s_law_named_right) := ⟨rfl, rfl, rfl, by decide +kernel, rfl, by decide +kernel, by decide +kernel⟩
set_option maxHeartbeats 1000000 in
theorem ok_law_named_right {f : Addr} {fd : FuncData} (F : Fun K "_law_named_right" "_law_named_right" s_law_named_right f fd) (T : Tn mg) (D_ends_from : DefW Ts P w K mg base "ends_from" 1 ["net", "wire"] wEnds) (D_depth : DefW Ts P w K mg base "depth" 2 ["net"] wDepth) (D_is_full : DefW Ts P w K mg base "is_full" 2 ["net"] wFull) (D_layers : DefW Ts P w K mg base "layers" 1 ["net"] wLayers) (D_renamed : DefW Ts P w K mg base "renamed" 2 ["net", "wires"] wRenamed) (D_law_order : DefW Ts P w K mg base "_law_order" 3 ["jar", "many"] wOrder) : FnOk P w K mg base CX0 4 f fd ["jar", "net"] (spW Ts K wNamedR) := by
  refine ok_body (k := 3) F sc_law_named_right (fun pvs S Q h => by obtain ⟨a, rfl, _⟩ := h; rfl) (fun cdv A outer s H E hr => ?_)
  have hu := hu_of hr
  refine ⟨_, (sss_cons (ss_set (i := 2) sc_law_named_right.nd rfl (by first | exact Or.inl rfl | exact Or.inr rfl) (se_def D_law_order (hr.mono (by first | decide | omega)) (by rfl) (sa_cons (sv 0) (sa_cons (se_ix hu (sv 1) se_int (fun _ _ => rfl)) sa_nil))))
      (sss_cons (ss_set (i := 3) sc_law_named_right.nd rfl (by first | exact Or.inl rfl | exact Or.inr rfl) (se_def D_renamed (hr.mono (by first | decide | omega)) (by rfl) (sa_cons (sv 1) (sa_cons (se_callTy c_tuple (by rfl) T.tuple_ (by decide +kernel) (sa_cons (sv 2) sa_nil)) sa_nil))))
      (sss_cons (ss_if (SW.st (sw_or (st_cmp (s_ne hr.units) (se_def D_layers (hr.mono (by first | decide | omega)) (by rfl) (sa_cons (sv 3) sa_nil)) (se_def D_layers (hr.mono (by first | decide | omega)) (by rfl) (sa_cons (sv 1) sa_nil)) (nomark _)) (sw_or (st_cmp (s_ne hr.units) (se_def D_is_full (hr.mono (by first | decide | omega)) (by rfl) (sa_cons (sv 3) sa_nil)) (se_def D_is_full (hr.mono (by first | decide | omega)) (by rfl) (sa_cons (sv 1) sa_nil)) (nomark _)) (sw_or1 (st_cmp (s_ne hr.units) (se_def D_depth (hr.mono (by first | decide | omega)) (by rfl) (sa_cons (sv 3) sa_nil)) (se_def D_depth (hr.mono (by first | decide | omega)) (by rfl) (sa_cons (sv 1) sa_nil)) (nomark _)))))) (sss_one (ss_ret se_bl)) sss_nil)
      (sss_one (ss_ret (se_cmp (s_eq hr.units) (se_lc (own := [("wire", 4)]) (g := (gName 4)) rfl sc_law_named_right.nd (si_range1 (by rfl) T.range_ (sa_cons (se_ix hu (sv 1) se_int (fun _ _ => rfl)) sa_nil)) (blkOk_by (own := [("wire", 4)]) (N := ["jar", "net", "names", "called", "wire"]) (sc := defScope s_law_named_right) (by decide +kernel)) (fun _ _ _ _ _ => (pg_name (i := 4) sc_law_named_right.nd rfl (by first | exact Or.inl rfl | exact Or.inr rfl))) (gr_name (i := 4) (by decide)) (mg_name _) (fun _ _ _ _ _ => (sts_one (st_cmp (s_ne hr.units) (se_def D_ends_from (hr.mono (by first | decide | omega)) (by rfl) (sa_cons (sv 3) (sa_cons (se_ix hu (sv 2) (sv 4) (fun _ _ => rfl)) sa_nil))) (se_def D_ends_from (hr.mono (by first | decide | omega)) (by rfl) (sa_cons (sv 1) (sa_cons (sv 4) sa_nil))) (nomark _)))) (fun _ _ _ _ _ => (sv 4))) (se_lst sa_nil) (nomark _))))))), fun pvs S Q hcl hca h => ?_⟩
  obtain ⟨⟨j, N⟩, rfl, ⟨hj, ok, hl⟩, h⟩ := h
  dsimp only at hj ok hl h
  simp only [wSeq, wAsg, wRet, wRetN, wDrop, wIfS, wVar, wC, wOp, wCall, wCons, wNil, wTup, wTest, wAnd, wOr, wNot, wAndV, wOrV, wNotV, wIf, wNext, wgName, wgTup, wgCons, wgNil, wFor, wSq, wYes, wLcU, wLcV, wLc, uTuple, uAll, uAny, uSum, wNeg, wSl, wPart, wNoPart, rSlW_tup, isNonP, seqW_tup, wLst, wipeW, wPar, wPut, wAug, wZip, wEnum, wRng1, wRng2, wChain, List.getElem?_cons_zero, List.getElem?_cons_succ, List.set_cons_zero, List.set_cons_succ, Option.some.injEq, exists_eq_left', exists_eq_left, exists_and_left, exists_eq_right, exists_eq_right', and_assoc, true_and, and_true, List.cons.injEq, and_self, if_true, if_false, Bool.false_eq_true, PV.int.injEq, PV.bl.injEq, PV.tup.injEq, PV.ref.injEq, PV.str.injEq, Bool.false_xor, Bool.true_xor, List.length_cons, List.length_nil, Nat.reduceAdd, Nat.reduceLeDiff, Nat.reduceEqDiff, Prod.mk.injEq, cutP_map, cutP_0, cutP_1, cutP_2, cutP_all, decide_eq_true_eq, startW, endsW, List.map_cons, List.map_nil, List.cons_append, List.nil_append, List.replicate, Nat.reduceSub, rIxW_tup, rLenW_tup, rListW_tup, wMeth, wRngL, wRngT, rIsiW_eq, tyP_non, tyP_bl, tyP_int, tyP_str, tyP_tup, isi_NoneType_int, isi_NoneType_bool, isi_NoneType_str, isi_NoneType_list, isi_NoneType_tuple, isi_NoneType_dict, isi_bool_int, isi_bool_bool, isi_bool_str, isi_bool_list, isi_bool_tuple, isi_bool_dict, isi_int_int, isi_int_bool, isi_int_str, isi_int_list, isi_int_tuple, isi_int_dict, isi_str_int, isi_str_bool, isi_str_str, isi_str_list, isi_str_tuple, isi_str_dict, isi_tuple_int, isi_tuple_bool, isi_tuple_str, isi_tuple_list, isi_tuple_tuple, isi_tuple_dict, isi_list_int, isi_list_bool, isi_list_str, isi_list_list, isi_list_tuple, isi_list_dict, isi_dict_int, isi_dict_bool, isi_dict_str, isi_dict_list, isi_dict_tuple, isi_dict_dict, decide_true, decide_false, Bool.not_true, Bool.not_false, Bool.not_eq_true', decide_eq_false_iff_not, ite_not, natP, swP, natsP, intsP, atI_0, atI_1, atI_2, atI_3, wLcU2, wLcV2, wTupZip, wZipN, wStep, wRev, wMaxD, wMinD, rInW_ints, rEqW_ii, rEqW_bb, rEqW_ss, rIsW_n, rIsW_bb, rAddW_ii, rAddW_ss, rAddW_tt, rIW_ii, rI0W_ii, rMulW_ii, rMulW_ti, rIntW_i, rIntW_b, rMax2W_ii, rMin2W_ii, n2x0]
  refine ⟨j, N.w, rfl, hj, by have := ok.w16; omega, fun fs hf => ?_⟩
  have fl : fs.length = N.w := n2f_len hf
  have w16 := ok.w16
  have gf : (S ++ [Ob.lst (fs.map natP)])[S.length]? = some (.lst (fs.map natP)) := get_new1 _ _
  have lR : (renN N fs).sw.length = N.sw.length := by simp [renN]
  have oR := n2ren_ok ok hf
  simp only [wSeq, wAsg, wRet, wRetN, wDrop, wIfS, wVar, wC, wOp, wCall, wCons, wNil, wTup, wTest, wAnd, wOr, wNot, wAndV, wOrV, wNotV, wIf, wNext, wgName, wgTup, wgCons, wgNil, wFor, wSq, wYes, wLcU, wLcV, wLc, uTuple, uAll, uAny, uSum, wNeg, wSl, wPart, wNoPart, rSlW_tup, isNonP, seqW_tup, wLst, wipeW, wPar, wPut, wAug, wZip, wEnum, wRng1, wRng2, wChain, List.getElem?_cons_zero, List.getElem?_cons_succ, List.set_cons_zero, List.set_cons_succ, Option.some.injEq, exists_eq_left', exists_eq_left, exists_and_left, exists_eq_right, exists_eq_right', and_assoc, true_and, and_true, List.cons.injEq, and_self, if_true, if_false, Bool.false_eq_true, PV.int.injEq, PV.bl.injEq, PV.tup.injEq, PV.ref.injEq, PV.str.injEq, Bool.false_xor, Bool.true_xor, List.length_cons, List.length_nil, Nat.reduceAdd, Nat.reduceLeDiff, Nat.reduceEqDiff, Prod.mk.injEq, cutP_map, cutP_0, cutP_1, cutP_2, cutP_all, decide_eq_true_eq, startW, endsW, List.map_cons, List.map_nil, List.cons_append, List.nil_append, List.replicate, Nat.reduceSub, rIxW_tup, rLenW_tup, rListW_tup, wMeth, wRngL, wRngT, rIsiW_eq, tyP_non, tyP_bl, tyP_int, tyP_str, tyP_tup, isi_NoneType_int, isi_NoneType_bool, isi_NoneType_str, isi_NoneType_list, isi_NoneType_tuple, isi_NoneType_dict, isi_bool_int, isi_bool_bool, isi_bool_str, isi_bool_list, isi_bool_tuple, isi_bool_dict, isi_int_int, isi_int_bool, isi_int_str, isi_int_list, isi_int_tuple, isi_int_dict, isi_str_int, isi_str_bool, isi_str_str, isi_str_list, isi_str_tuple, isi_str_dict, isi_tuple_int, isi_tuple_bool, isi_tuple_str, isi_tuple_list, isi_tuple_tuple, isi_tuple_dict, isi_list_int, isi_list_bool, isi_list_str, isi_list_list, isi_list_tuple, isi_list_dict, isi_dict_int, isi_dict_bool, isi_dict_str, isi_dict_list, isi_dict_tuple, isi_dict_dict, decide_true, decide_false, Bool.not_true, Bool.not_false, Bool.not_eq_true', decide_eq_false_iff_not, ite_not, natP, swP, natsP, intsP, atI_0, atI_1, atI_2, atI_3, wLcU2, wLcV2, wTupZip, wZipN, wStep, wRev, wMaxD, wMinD, rInW_ints, rEqW_ii, rEqW_bb, rEqW_ss, rIsW_n, rIsW_bb, rAddW_ii, rAddW_ss, rAddW_tt, rIW_ii, rI0W_ii, rMulW_ii, rMulW_ti, rIntW_i, rIntW_b, rMax2W_ii, rMin2W_ii, (rTupleW_lst gf)]
  refine ⟨(N, fs), rfl, ⟨by rw [fl]; exact n2lt ok (by dsimp only; omega), ok.w16, hl⟩, ?_⟩
  simp only [wSeq, wAsg, wRet, wRetN, wDrop, wIfS, wVar, wC, wOp, wCall, wCons, wNil, wTup, wTest, wAnd, wOr, wNot, wAndV, wOrV, wNotV, wIf, wNext, wgName, wgTup, wgCons, wgNil, wFor, wSq, wYes, wLcU, wLcV, wLc, uTuple, uAll, uAny, uSum, wNeg, wSl, wPart, wNoPart, rSlW_tup, isNonP, seqW_tup, wLst, wipeW, wPar, wPut, wAug, wZip, wEnum, wRng1, wRng2, wChain, List.getElem?_cons_zero, List.getElem?_cons_succ, List.set_cons_zero, List.set_cons_succ, Option.some.injEq, exists_eq_left', exists_eq_left, exists_and_left, exists_eq_right, exists_eq_right', and_assoc, true_and, and_true, List.cons.injEq, and_self, if_true, if_false, Bool.false_eq_true, PV.int.injEq, PV.bl.injEq, PV.tup.injEq, PV.ref.injEq, PV.str.injEq, Bool.false_xor, Bool.true_xor, List.length_cons, List.length_nil, Nat.reduceAdd, Nat.reduceLeDiff, Nat.reduceEqDiff, Prod.mk.injEq, cutP_map, cutP_0, cutP_1, cutP_2, cutP_all, decide_eq_true_eq, startW, endsW, List.map_cons, List.map_nil, List.cons_append, List.nil_append, List.replicate, Nat.reduceSub, rIxW_tup, rLenW_tup, rListW_tup, wMeth, wRngL, wRngT, rIsiW_eq, tyP_non, tyP_bl, tyP_int, tyP_str, tyP_tup, isi_NoneType_int, isi_NoneType_bool, isi_NoneType_str, isi_NoneType_list, isi_NoneType_tuple, isi_NoneType_dict, isi_bool_int, isi_bool_bool, isi_bool_str, isi_bool_list, isi_bool_tuple, isi_bool_dict, isi_int_int, isi_int_bool, isi_int_str, isi_int_list, isi_int_tuple, isi_int_dict, isi_str_int, isi_str_bool, isi_str_str, isi_str_list, isi_str_tuple, isi_str_dict, isi_tuple_int, isi_tuple_bool, isi_tuple_str, isi_tuple_list, isi_tuple_tuple, isi_tuple_dict, isi_list_int, isi_list_bool, isi_list_str, isi_list_list, isi_list_tuple, isi_list_dict, isi_dict_int, isi_dict_bool, isi_dict_str, isi_dict_list, isi_dict_tuple, isi_dict_dict, decide_true, decide_false, Bool.not_true, Bool.not_false, Bool.not_eq_true', decide_eq_false_iff_not, ite_not, natP, swP, natsP, intsP, atI_0, atI_1, atI_2, atI_3, wLcU2, wLcV2, wTupZip, wZipN, wStep, wRev, wMaxD, wMinD, rInW_ints, rEqW_ii, rEqW_bb, rEqW_ss, rIsW_n, rIsW_bb, rAddW_ii, rAddW_ss, rAddW_tt, rIW_ii, rI0W_ii, rMulW_ii, rMulW_ti, rIntW_i, rIntW_b, rMax2W_ii, rMin2W_ii]
  refine ⟨renN N fs, rfl, n2dep oR (by omega), N, rfl, n2dep ok (by omega), ?_⟩
  refine eq_rows ((rows_new _ _).app _) (rows_new _ _) (n3lay_ren ok hf) ?_
  have gf2 : ∀ G1 G2 : Sto, (S ++ [Ob.lst (fs.map natP)] ++ G1 ++ G2)[S.length]? = some (.lst (fs.map natP)) := fun G1 G2 => get_app (get_app gf)
  generalize layG (List.length (S ++ [Ob.lst (List.map natP fs)])) (renN N fs).sw (renN N fs).w (renN N fs).sw.length (dpM (renN N fs).sw (renN N fs).sw.length) = L1
  generalize layG _ N.sw N.w N.sw.length (dpM N.sw N.sw.length) = L2
  obtain ⟨S3, hS3⟩ : ∃ S3, S3 = S ++ [Ob.lst (List.map natP fs)] ++ L1 ++ L2 := ⟨_, rfl⟩
  have gf3 : S3[S.length]? = some (.lst (fs.map natP)) := by rw [hS3]; exact gf2 _ _
  rw [← hS3]
  refine ⟨_, rfl, ?_⟩
  rw [if_neg (by decide)]
  refine ⟨renN N fs, rfl, n2dep oR (by omega), N, rfl, n2dep ok (by omega), ?_⟩
  dsimp only
  rw [full_ren ok hf, rEqW_bb, decide_eq_true rfl]
  refine ⟨_, rfl, ?_⟩
  rw [if_neg (by decide)]
  refine ⟨renN N fs, rfl, n2dep oR (by omega), N, rfl, n2dep ok (by omega), ?_⟩
  dsimp only
  rw [n2dp_ren ok hf]
  simp only [wSeq, wAsg, wRet, wRetN, wDrop, wIfS, wVar, wC, wOp, wCall, wCons, wNil, wTup, wTest, wAnd, wOr, wNot, wAndV, wOrV, wNotV, wIf, wNext, wgName, wgTup, wgCons, wgNil, wFor, wSq, wYes, wLcU, wLcV, wLc, uTuple, uAll, uAny, uSum, wNeg, wSl, wPart, wNoPart, rSlW_tup, isNonP, seqW_tup, wLst, wipeW, wPar, wPut, wAug, wZip, wEnum, wRng1, wRng2, wChain, List.getElem?_cons_zero, List.getElem?_cons_succ, List.set_cons_zero, List.set_cons_succ, Option.some.injEq, exists_eq_left', exists_eq_left, exists_and_left, exists_eq_right, exists_eq_right', and_assoc, true_and, and_true, List.cons.injEq, and_self, if_true, if_false, Bool.false_eq_true, PV.int.injEq, PV.bl.injEq, PV.tup.injEq, PV.ref.injEq, PV.str.injEq, Bool.false_xor, Bool.true_xor, List.length_cons, List.length_nil, Nat.reduceAdd, Nat.reduceLeDiff, Nat.reduceEqDiff, Prod.mk.injEq, cutP_map, cutP_0, cutP_1, cutP_2, cutP_all, decide_eq_true_eq, startW, endsW, List.map_cons, List.map_nil, List.cons_append, List.nil_append, List.replicate, Nat.reduceSub, rIxW_tup, rLenW_tup, rListW_tup, wMeth, wRngL, wRngT, rIsiW_eq, tyP_non, tyP_bl, tyP_int, tyP_str, tyP_tup, isi_NoneType_int, isi_NoneType_bool, isi_NoneType_str, isi_NoneType_list, isi_NoneType_tuple, isi_NoneType_dict, isi_bool_int, isi_bool_bool, isi_bool_str, isi_bool_list, isi_bool_tuple, isi_bool_dict, isi_int_int, isi_int_bool, isi_int_str, isi_int_list, isi_int_tuple, isi_int_dict, isi_str_int, isi_str_bool, isi_str_str, isi_str_list, isi_str_tuple, isi_str_dict, isi_tuple_int, isi_tuple_bool, isi_tuple_str, isi_tuple_list, isi_tuple_tuple, isi_tuple_dict, isi_list_int, isi_list_bool, isi_list_str, isi_list_list, isi_list_tuple, isi_list_dict, isi_dict_int, isi_dict_bool, isi_dict_str, isi_dict_list, isi_dict_tuple, isi_dict_dict, decide_true, decide_false, Bool.not_true, Bool.not_false, Bool.not_eq_true', decide_eq_false_iff_not, ite_not, natP, swP, natsP, intsP, atI_0, atI_1, atI_2, atI_3, wLcU2, wLcV2, wTupZip, wZipN, wStep, wRev, wMaxD, wMinD, rInW_ints, rEqW_ii, rEqW_bb, rEqW_ss, rIsW_n, rIsW_bb, rAddW_ii, rAddW_ss, rAddW_tt, rIW_ii, rI0W_ii, rMulW_ii, rMulW_ti, rIntW_i, rIntW_b, rMax2W_ii, rMin2W_ii, n2x0]
  rw [Int.toNat_natCast, rngP_map]
  refine ⟨by omega, by omega, by rw [List.length_map, List.length_range]; omega, ?_⟩
  refine lc_inv (fun i acc S' => acc = [] ∧ ∃ G, S' = S3 ++ G) ?_ ?_ ⟨rfl, [], by simp⟩
  · rintro i x acc S' R hx ⟨rfl, G, rfl⟩ hR
    have hi : i < N.w := by have := (List.getElem?_eq_some_iff.mp hx).1; simpa using this
    rw [List.getElem?_map, List.getElem?_range hi] at hx
    cases hx
    have g : (S3 ++ G)[S.length]? = some (.lst (fs.map natP)) := get_app gf3
    refine ⟨trivial, ?_⟩
    simp only [wSeq, wAsg, wRet, wRetN, wDrop, wIfS, wVar, wC, wOp, wCall, wCons, wNil, wTup, wTest, wAnd, wOr, wNot, wAndV, wOrV, wNotV, wIf, wNext, wgName, wgTup, wgCons, wgNil, wFor, wSq, wYes, wLcU, wLcV, wLc, uTuple, uAll, uAny, uSum, wNeg, wSl, wPart, wNoPart, rSlW_tup, isNonP, seqW_tup, wLst, wipeW, wPar, wPut, wAug, wZip, wEnum, wRng1, wRng2, wChain, List.getElem?_cons_zero, List.getElem?_cons_succ, List.set_cons_zero, List.set_cons_succ, Option.some.injEq, exists_eq_left', exists_eq_left, exists_and_left, exists_eq_right, exists_eq_right', and_assoc, true_and, and_true, List.cons.injEq, and_self, if_true, if_false, Bool.false_eq_true, PV.int.injEq, PV.bl.injEq, PV.tup.injEq, PV.ref.injEq, PV.str.injEq, Bool.false_xor, Bool.true_xor, List.length_cons, List.length_nil, Nat.reduceAdd, Nat.reduceLeDiff, Nat.reduceEqDiff, Prod.mk.injEq, cutP_map, cutP_0, cutP_1, cutP_2, cutP_all, decide_eq_true_eq, startW, endsW, List.map_cons, List.map_nil, List.cons_append, List.nil_append, List.replicate, Nat.reduceSub, rIxW_tup, rLenW_tup, rListW_tup, wMeth, wRngL, wRngT, rIsiW_eq, tyP_non, tyP_bl, tyP_int, tyP_str, tyP_tup, isi_NoneType_int, isi_NoneType_bool, isi_NoneType_str, isi_NoneType_list, isi_NoneType_tuple, isi_NoneType_dict, isi_bool_int, isi_bool_bool, isi_bool_str, isi_bool_list, isi_bool_tuple, isi_bool_dict, isi_int_int, isi_int_bool, isi_int_str, isi_int_list, isi_int_tuple, isi_int_dict, isi_str_int, isi_str_bool, isi_str_str, isi_str_list, isi_str_tuple, isi_str_dict, isi_tuple_int, isi_tuple_bool, isi_tuple_str, isi_tuple_list, isi_tuple_tuple, isi_tuple_dict, isi_list_int, isi_list_bool, isi_list_str, isi_list_list, isi_list_tuple, isi_list_dict, isi_dict_int, isi_dict_bool, isi_dict_str, isi_dict_list, isi_dict_tuple, isi_dict_dict, decide_true, decide_false, Bool.not_true, Bool.not_false, Bool.not_eq_true', decide_eq_false_iff_not, ite_not, natP, swP, natsP, intsP, atI_0, atI_1, atI_2, atI_3, wLcU2, wLcV2, wTupZip, wZipN, wStep, wRev, wMaxD, wMinD, rInW_ints, rEqW_ii, rEqW_bb, rEqW_ss, rIsW_n, rIsW_bb, rAddW_ii, rAddW_ss, rAddW_tt, rIW_ii, rI0W_ii, rMulW_ii, rMulW_ti, rIntW_i, rIntW_b, rMax2W_ii, rMin2W_ii, (rIxW_lst g)]
    rw [Int.zero_add]
    have hif : i < fs.length := by omega
    refine ⟨_, atI_nats hif, (renN N fs, fs.getD i 0), rfl, ⟨by dsimp only; omega, by dsimp only; rw [n2ordL oR]; exact Nat.le_trans ok.w16 (by decide)⟩, fun k1 => ⟨(N, i), rfl, ⟨by dsimp only; omega, by dsimp only; rw [n2ordL ok]; omega⟩, fun k2 => ?_⟩⟩
    dsimp only
    refine ends_eq (get_app (two_get1 _ _ _)) (two_get1 _ _ _) (fwd_ren ok hf hi) ⟨_, rfl, ?_⟩
    rw [if_neg (by decide)]
    exact hR _ _ ⟨rfl, _, by rw [List.append_assoc, List.append_assoc]⟩
  · rintro acc S' ⟨rfl, G, rfl⟩
    refine ⟨trivial, ?_⟩
    refine ends_eq (xs := []) (ys := []) (get_app (get_new1 _ _)) (get_new1 _ _) rfl ?_
    rw [hS3, List.append_assoc, List.append_assoc, List.append_assoc, List.append_assoc, List.append_assoc]
    exact fg_drop hcl cl_bl h
/-- as RowsAt, the addresses told -/
def RowsR (S : Sto) (b : Nat) (rs : List Nat) (ls : List (List Nat)) : Prop := S[b]? = some (.lst (rs.map PV.ref)) ∧ rs.length = ls.length ∧ ∀ (i r : Nat), rs[i]? = some r → b < r ∧ ∃ l : List Nat, ls[i]? = some l ∧ S[r]? = some (.lst (l.map natP))
theorem RowsR.at {S : Sto} {b : Nat} {rs : List Nat} {ls : List (List Nat)} (h : RowsR S b rs ls) : RowsAt S b ls := ⟨rs, h⟩
theorem RowsR.app {S : Sto} {b : Nat} {rs : List Nat} {ls : List (List Nat)} (h : RowsR S b rs ls) (G : Sto) : RowsR (S ++ G) b rs ls := by
  obtain ⟨h1, h2, h3⟩ := h
  exact ⟨get_app h1, h2, fun i r hr => let ⟨a, l, e1, e2⟩ := h3 i r hr; ⟨a, l, e1, get_app e2⟩⟩
theorem get_set_ne {S : Sto} {b r : Nat} {o u : Ob} (hb : b ≠ r) (h : S[r]? = some o) : (S.set b u)[r]? = some o := by rw [List.getElem?_set_ne hb]; exact h
theorem get_set_eq {S : Sto} {b : Nat} {o u : Ob} (h : S[b]? = some o) : (S.set b u)[b]? = some u := by
  have := (List.getElem?_eq_some_iff.mp h).1
  rw [List.getElem?_set_self this]
theorem RowsR.put {S : Sto} {b q i : Nat} {rs : List Nat} {ls : List (List Nat)} {l : List Nat} (h : RowsR S b rs ls) (hq : S[q]? = some (.lst (l.map natP))) (hb : b < q) (hi : i < ls.length) : RowsR (S.set b (.lst ((rs.set i q).map PV.ref))) b (rs.set i q) (ls.set i l) := by
  obtain ⟨h1, h2, h3⟩ := h
  refine ⟨get_set_eq h1, by rw [List.length_set, List.length_set, h2], fun k r hr => ?_⟩
  by_cases e : i = k
  · subst e
    rw [List.getElem?_set_self (by omega)] at hr
    cases hr
    exact ⟨hb, l, by rw [List.getElem?_set_self hi], get_set_ne (by omega) hq⟩
  · rw [List.getElem?_set_ne e] at hr
    obtain ⟨a, m, e1, e2⟩ := h3 k r hr
    exact ⟨a, m, by rw [List.getElem?_set_ne e]; exact e1, get_set_ne (by omega) e2⟩
theorem RowsR.push {S : Sto} {b : Nat} {rs : List Nat} {ls : List (List Nat)} (h : RowsR S b rs ls) (l : List Nat) : RowsR ((S ++ [Ob.lst (l.map natP)]).set b (Ob.lst (rs.map PV.ref ++ [PV.ref S.length]))) b (rs ++ [S.length]) (ls ++ [l]) := by
  obtain ⟨h1, h2, h3⟩ := h
  have hb : b < S.length := (List.getElem?_eq_some_iff.mp h1).1
  refine ⟨by rw [get_set_eq (get_app h1), List.map_append]; rfl, by simp [h2], fun k r hr => ?_⟩
  by_cases e : k < rs.length
  · rw [List.getElem?_append_left e] at hr
    obtain ⟨a, m, e1, e2⟩ := h3 k r hr
    exact ⟨a, m, by rw [List.getElem?_append_left (by omega)]; exact e1, get_set_ne (by omega) (get_app e2)⟩
  · have e' : k = rs.length := by
      have := (List.getElem?_eq_some_iff.mp hr).1
      rw [List.length_append] at this
      simp only [List.length_cons, List.length_nil] at this
      omega
    subst e'
    rw [List.getElem?_append_right (Nat.le_refl _), Nat.sub_self] at hr
    cases hr
    exact ⟨hb, l, by rw [h2, List.getElem?_append_right (Nat.le_refl _), Nat.sub_self]; rfl, get_set_ne (by omega) (get_new1 _ _)⟩
theorem RowsR.off {S : Sto} {b o : Nat} {rs : List Nat} {ls : List (List Nat)} {u : Ob} (h : RowsR S o rs ls) (hb : b < o) : RowsR (S.set b u) o rs ls := by
  obtain ⟨h1, h2, h3⟩ := h
  exact ⟨get_set_ne (by omega) h1, h2, fun i r hr => let ⟨a, l, e1, e2⟩ := h3 i r hr; ⟨a, l, e1, get_set_ne (by omega) e2⟩⟩
def dueRow (rA rB : Nat → List Nat) (n i l : Nat) : List Nat := rA l ++ (if l < i then (rB l).map (n + ·) else [])
def dueL (rA rB : Nat → List Nat) (n d i : Nat) : List (List Nat) := (List.range (max d i)).map (dueRow rA rB n i)
theorem dueL_len {rA rB : Nat → List Nat} {n d i : Nat} : (dueL rA rB n d i).length = max d i := by simp [dueL]
theorem dueL_get {rA rB : Nat → List Nat} {n d i l : Nat} (h : l < max d i) : (dueL rA rB n d i)[l]? = some (dueRow rA rB n i l) := by
  unfold dueL
  rw [List.getElem?_map, List.getElem?_range h]; rfl
theorem dueRow_step {rA rB : Nat → List Nat} {n i l : Nat} (h : l ≠ i) : dueRow rA rB n (i + 1) l = dueRow rA rB n i l := by
  unfold dueRow
  by_cases c : l < i
  · rw [if_pos c, if_pos (by omega)]
  · rw [if_neg c, if_neg (by omega)]
theorem dueRow_here {rA rB : Nat → List Nat} {n i : Nat} : dueRow rA rB n i i = rA i := by
  unfold dueRow
  rw [if_neg (by omega), List.append_nil]
theorem dueRow_now {rA rB : Nat → List Nat} {n i : Nat} : dueRow rA rB n (i + 1) i = rA i ++ (rB i).map (n + ·) := by
  unfold dueRow
  rw [if_pos (by omega)]
theorem dueL_in {rA rB : Nat → List Nat} {n d i : Nat} (h : i < d) : (dueL rA rB n d i).set i (rA i ++ (rB i).map (n + ·)) = dueL rA rB n d (i + 1) := by
  apply List.ext_getElem?
  intro l
  by_cases c : l < max d i
  · by_cases e : i = l
    · subst e
      rw [List.getElem?_set_self (by rw [dueL_len]; omega), dueL_get (by omega), dueRow_now]
    · rw [List.getElem?_set_ne e, dueL_get c, dueL_get (by omega), dueRow_step (fun z => e z.symm)]
  · rw [List.getElem?_eq_none (by rw [List.length_set, dueL_len]; omega), List.getElem?_eq_none (by rw [dueL_len]; omega)]
theorem dueL_new {rA rB : Nat → List Nat} {n d i : Nat} (h : d ≤ i) (h0 : rA i = []) : (dueL rA rB n d i ++ [[]]).set i (rA i ++ (rB i).map (n + ·)) = dueL rA rB n d (i + 1) := by
  have hl : (dueL rA rB n d i).length = i := by rw [dueL_len]; omega
  apply List.ext_getElem?
  intro l
  by_cases c : l < i
  · rw [List.getElem?_set_ne (by omega), List.getElem?_append_left (by omega), dueL_get (by omega), dueL_get (by omega), dueRow_step (by omega)]
  · by_cases e : i = l
    · subst e
      rw [List.getElem?_set_self (by rw [List.length_append, hl]; simp), dueL_get (by omega), dueRow_now]
    · rw [List.getElem?_eq_none (by rw [List.length_set, List.length_append, hl]; simp; omega), List.getElem?_eq_none (by rw [dueL_len]; omega)]
theorem and3 {N O : Net} {S : Sto} {Q : WQ} (ok : N.Ok) (ok2 : O.Ok) (hl : N.sw.length ≤ 1000) (hl2 : O.sw.length ≤ 1000) (h : Q (.bl (fullN N && (fullN O && decide ((dpM N.sw N.sw.length : Int) = (dpM O.sw O.sw.length : Int))))) S) :
    ∃ c, PV.bl (fullN N) = PV.bl c ∧ if c = true then wFull [netP O] S fun x S1 => ∃ c, x = PV.bl c ∧ if c = true then wDepth [netP N] S1 fun x S1 => wDepth [netP O] S1 fun y S2 => rEqW false x y S2 Q else Q (PV.bl false) S1 else Q (PV.bl false) S := by
  refine ⟨_, rfl, ?_⟩
  cases e : fullN N with
  | false =>
    rw [if_neg (by decide)]
    rw [e] at h
    exact h
  | true =>
    rw [if_pos rfl]
    refine ⟨O, rfl, n2dep ok2 hl2, ?_⟩
    refine ⟨_, rfl, ?_⟩
    cases e2 : fullN O with
    | false =>
      rw [if_neg (by decide)]
      rw [e, e2] at h
      exact h
    | true =>
      rw [if_pos rfl]
      refine ⟨N, rfl, n2dep ok hl, O, rfl, n2dep ok2 hl2, ?_⟩
      rw [e, e2, Bool.true_and, Bool.true_and] at h
      show Q (.bl (false ^^ decide (_ = _))) S
      rw [Bool.false_xor]
      exact h
def wBesR : WC := fun vs S Q => ∃ a : Net × Net, vs = [netP a.1, netP a.2] ∧ (a.1.Ok ∧ a.2.Ok ∧ a.1.w + a.2.w ≤ 16 ∧ a.1.sw.length ≤ 30 ∧ a.2.sw.length ≤ 30) ∧ Q (.bl true) S
theorem mo_besR : MoC wBesR := fun xs S Q Q' ⟨a, e, h1, q⟩ k => ⟨a, e, h1, k _ _ q⟩
abbrev s_law_beside_right : Stmt := top 23
theorem sc_law_beside_right : FnScope ["one", "other", "both", "due", "at", "layer", "k", "wire", "end"] ["one", "other"] (defScope s_law_beside_right) := ⟨rfl, rfl, rfl, by decide +kernel, rfl, by decide +kernel, by decide +kernel⟩
set_option maxHeartbeats 1000000 in
theorem ok_law_beside_right {f : Addr} {fd : FuncData} (F : Fun K "_law_beside_right" "_law_beside_right" s_law_beside_right f fd) (T : Tn mg) (D_ends_from : DefW Ts P w K mg base "ends_from" 1 ["net", "wire"] wEnds) (D_is_full : DefW Ts P w K mg base "is_full" 2 ["net"] wFull) (D_depth : DefW Ts P w K mg base "depth" 2 ["net"] wDepth) (D_layers : DefW Ts P w K mg base "layers" 1 ["net"] wLayers) (D_beside : DefW Ts P w K mg base "beside" 2 ["one", "other"] wBeside) : FnOk P w K mg base CX0 3 f fd ["one", "other"] (spW Ts K wBesR) := by
  refine ok_body (k := 2) F sc_law_beside_right (fun pvs S Q h => by obtain ⟨a, rfl, _⟩ := h; rfl) (fun cdv A outer s H E hr => ?_)
  have hu := hu_of hr
  refine ⟨_, (sss_cons (ss_set (i := 2) sc_law_beside_right.nd rfl (by first | exact Or.inl rfl | exact Or.inr rfl) (se_def D_beside (hr.mono (by first | decide | omega)) (by rfl) (sa_cons (sv 0) (sa_cons (sv 1) sa_nil))))
      (sss_cons (ss_set (i := 3) sc_law_beside_right.nd rfl (by first | exact Or.inl rfl | exact Or.inr rfl) (se_def D_layers (hr.mono (by first | decide | omega)) (by rfl) (sa_cons (sv 0) sa_nil)))
      (sss_cons (ss_for (vs := [4, 5]) PassesOwn.never rfl (si_enum (by rfl) T.enumerate_ (sa_cons (se_def D_layers (hr.mono (by first | decide | omega)) (by rfl) (sa_cons (sv 1) sa_nil)) sa_nil)) (pg_tup (n := 2) rfl (pgs_cons (pg_name (i := 4) sc_law_beside_right.nd rfl (by first | exact Or.inl rfl | exact Or.inr rfl)) (pgs_cons (pg_name (i := 5) sc_law_beside_right.nd rfl (by first | exact Or.inl rfl | exact Or.inr rfl)) pgs_nil))) (gr_tup (gr_cons (gr_name (i := 4) (by decide)) (gr_cons (gr_name (i := 5) (by decide)) gr_nil))) (mg_tup (mg_cons (mg_name _) (mg_cons (mg_name _) mg_nil))) (sss_cons (ss_cut (ss_if (st_cmp (s_eq hr.units) (sv 4) (se_callB c_len (by rfl) T.len_ (by decide +kernel) (sa_cons (sv 3) sa_nil)) (nomark _)) (sss_one (ss_expr (se_bm PySem.F.plainAttrs_list PySem.F.slot_list_append PySem.F.type_list_append m_append (sv 3) (sa_cons (se_lst sa_nil) sa_nil)))) sss_nil))
      (sss_one (ss_put hu (sv 3) (sv 4) (se_op s_add (se_ix hu (sv 3) (sv 4) (fun _ _ => rfl)) (se_lc (own := [("k", 6)]) (g := (gName 6)) rfl sc_law_beside_right.nd (si_seq (sv 5)) (blkOk_by (own := [("k", 6)]) (N := ["one", "other", "both", "due", "at", "layer", "k", "wire", "end"]) (sc := defScope s_law_beside_right) (by decide +kernel)) (fun _ _ _ _ _ => (pg_name (i := 6) sc_law_beside_right.nd rfl (by first | exact Or.inl rfl | exact Or.inr rfl))) (gr_name (i := 6) (by decide)) (mg_name _) (fun _ _ _ _ _ => sts_nil) (fun _ _ _ _ _ => (se_op s_add (sv 6) (se_callB c_len (by rfl) T.len_ (by decide +kernel) (sa_cons (se_ix hu (sv 0) se_int (fun _ _ => rfl)) sa_nil))))))))))
      (sss_cons (ss_if (st_cmp (s_ne hr.units) (se_def D_layers (hr.mono (by first | decide | omega)) (by rfl) (sa_cons (sv 2) sa_nil)) (sv 3) (nomark _)) (sss_one (ss_ret se_bl)) sss_nil)
      (sss_cons (ss_if (st_cmp (s_ne hr.units) (se_def D_is_full (hr.mono (by first | decide | omega)) (by rfl) (sa_cons (sv 2) sa_nil)) (se_and (se_def D_is_full (hr.mono (by first | decide | omega)) (by rfl) (sa_cons (sv 0) sa_nil)) (se_and (se_def D_is_full (hr.mono (by first | decide | omega)) (by rfl) (sa_cons (sv 1) sa_nil)) (se_one (se_cmp (s_eq hr.units) (se_def D_depth (hr.mono (by first | decide | omega)) (by rfl) (sa_cons (sv 0) sa_nil)) (se_def D_depth (hr.mono (by first | decide | omega)) (by rfl) (sa_cons (sv 1) sa_nil)) (nomark _))))) (nomark _)) (sss_one (ss_ret se_bl)) sss_nil)
      (sss_cons (ss_for (vs := [7]) PassesOwn.never rfl (si_range1 (by rfl) T.range_ (sa_cons (se_ix hu (sv 0) se_int (fun _ _ => rfl)) sa_nil)) (pg_name (i := 7) sc_law_beside_right.nd rfl (by first | exact Or.inl rfl | exact Or.inr rfl)) (gr_name (i := 7) (by decide)) (mg_name _) (sss_one (ss_if (st_cmp (s_ne hr.units) (se_def D_ends_from (hr.mono (by first | decide | omega)) (by rfl) (sa_cons (sv 2) (sa_cons (sv 7) sa_nil))) (se_def D_ends_from (hr.mono (by first | decide | omega)) (by rfl) (sa_cons (sv 0) (sa_cons (sv 7) sa_nil))) (nomark _)) (sss_one (ss_ret se_bl)) sss_nil)))
      (sss_cons (ss_for (vs := [7]) PassesOwn.never rfl (si_range1 (by rfl) T.range_ (sa_cons (se_ix hu (sv 1) se_int (fun _ _ => rfl)) sa_nil)) (pg_name (i := 7) sc_law_beside_right.nd rfl (by first | exact Or.inl rfl | exact Or.inr rfl)) (gr_name (i := 7) (by decide)) (mg_name _) (sss_one (ss_if (st_cmp (s_ne hr.units) (se_def D_ends_from (hr.mono (by first | decide | omega)) (by rfl) (sa_cons (sv 2) (sa_cons (se_op s_add (sv 7) (se_ix hu (sv 0) se_int (fun _ _ => rfl))) sa_nil))) (se_lc (own := [("end", 8)]) (g := (gName 8)) rfl sc_law_beside_right.nd (si_seq (se_def D_ends_from (hr.mono (by first | decide | omega)) (by rfl) (sa_cons (sv 1) (sa_cons (sv 7) sa_nil)))) (blkOk_by (own := [("end", 8)]) (N := ["one", "other", "both", "due", "at", "layer", "k", "wire", "end"]) (sc := defScope s_law_beside_right) (by decide +kernel)) (fun _ _ _ _ _ => (pg_name (i := 8) sc_law_beside_right.nd rfl (by first | exact Or.inl rfl | exact Or.inr rfl))) (gr_name (i := 8) (by decide)) (mg_name _) (fun _ _ _ _ _ => sts_nil) (fun _ _ _ _ _ => (se_op s_add (sv 8) (se_ix hu (sv 0) se_int (fun _ _ => rfl))))) (nomark _)) (sss_one (ss_ret se_bl)) sss_nil)))
      (sss_one (ss_ret se_bl))))))))), fun pvs S Q hcl hca h => ?_⟩
  obtain ⟨⟨N, O⟩, rfl, ⟨ok, ok2, ew, hl, hl2⟩, h⟩ := h
  dsimp only at ok ok2 ew hl hl2 h
  have w16 := ok.w16
  have oB := bes_ok ok ok2 ew
  have lB : (besN N O).sw.length = N.sw.length + O.sw.length := by simp [besN, renN]
  simp only [wSeq, wAsg, wRet, wRetN, wDrop, wIfS, wVar, wC, wOp, wCall, wCons, wNil, wTup, wTest, wAnd, wOr, wNot, wAndV, wOrV, wNotV, wIf, wNext, wgName, wgTup, wgCons, wgNil, wFor, wSq, wYes, wLcU, wLcV, wLc, uTuple, uAll, uAny, uSum, wNeg, wSl, wPart, wNoPart, rSlW_tup, isNonP, seqW_tup, wLst, wipeW, wPar, wPut, wAug, wZip, wEnum, wRng1, wRng2, wChain, List.getElem?_cons_zero, List.getElem?_cons_succ, List.set_cons_zero, List.set_cons_succ, Option.some.injEq, exists_eq_left', exists_eq_left, exists_and_left, exists_eq_right, exists_eq_right', and_assoc, true_and, and_true, List.cons.injEq, and_self, if_true, if_false, Bool.false_eq_true, PV.int.injEq, PV.bl.injEq, PV.tup.injEq, PV.ref.injEq, PV.str.injEq, Bool.false_xor, Bool.true_xor, List.length_cons, List.length_nil, Nat.reduceAdd, Nat.reduceLeDiff, Nat.reduceEqDiff, Prod.mk.injEq, cutP_map, cutP_0, cutP_1, cutP_2, cutP_all, decide_eq_true_eq, startW, endsW, List.map_cons, List.map_nil, List.cons_append, List.nil_append, List.replicate, Nat.reduceSub, rIxW_tup, rLenW_tup, rListW_tup, wMeth, wRngL, wRngT, rIsiW_eq, tyP_non, tyP_bl, tyP_int, tyP_str, tyP_tup, isi_NoneType_int, isi_NoneType_bool, isi_NoneType_str, isi_NoneType_list, isi_NoneType_tuple, isi_NoneType_dict, isi_bool_int, isi_bool_bool, isi_bool_str, isi_bool_list, isi_bool_tuple, isi_bool_dict, isi_int_int, isi_int_bool, isi_int_str, isi_int_list, isi_int_tuple, isi_int_dict, isi_str_int, isi_str_bool, isi_str_str, isi_str_list, isi_str_tuple, isi_str_dict, isi_tuple_int, isi_tuple_bool, isi_tuple_str, isi_tuple_list, isi_tuple_tuple, isi_tuple_dict, isi_list_int, isi_list_bool, isi_list_str, isi_list_list, isi_list_tuple, isi_list_dict, isi_dict_int, isi_dict_bool, isi_dict_str, isi_dict_list, isi_dict_tuple, isi_dict_dict, decide_true, decide_false, Bool.not_true, Bool.not_false, Bool.not_eq_true', decide_eq_false_iff_not, ite_not, natP, swP, natsP, intsP, atI_0, atI_1, atI_2, atI_3, wLcU2, wLcV2, wTupZip, wZipN, wStep, wRev, wMaxD, wMinD, rInW_ints, rEqW_ii, rEqW_bb, rEqW_ss, rIsW_n, rIsW_bb, rAddW_ii, rAddW_ss, rAddW_tt, rIW_ii, rI0W_ii, rMulW_ii, rMulW_ti, rIntW_i, rIntW_b, rMax2W_ii, rMin2W_ii, n2x0, n2x1]
  refine ⟨(N, O), rfl, ⟨n2lt (N := O) ok2 (by omega), ew, by dsimp only; omega, by dsimp only; rw [n2ordL ok]; omega⟩, ?_⟩
  simp only [wSeq, wAsg, wRet, wRetN, wDrop, wIfS, wVar, wC, wOp, wCall, wCons, wNil, wTup, wTest, wAnd, wOr, wNot, wAndV, wOrV, wNotV, wIf, wNext, wgName, wgTup, wgCons, wgNil, wFor, wSq, wYes, wLcU, wLcV, wLc, uTuple, uAll, uAny, uSum, wNeg, wSl, wPart, wNoPart, rSlW_tup, isNonP, seqW_tup, wLst, wipeW, wPar, wPut, wAug, wZip, wEnum, wRng1, wRng2, wChain, List.getElem?_cons_zero, List.getElem?_cons_succ, List.set_cons_zero, List.set_cons_succ, Option.some.injEq, exists_eq_left', exists_eq_left, exists_and_left, exists_eq_right, exists_eq_right', and_assoc, true_and, and_true, List.cons.injEq, and_self, if_true, if_false, Bool.false_eq_true, PV.int.injEq, PV.bl.injEq, PV.tup.injEq, PV.ref.injEq, PV.str.injEq, Bool.false_xor, Bool.true_xor, List.length_cons, List.length_nil, Nat.reduceAdd, Nat.reduceLeDiff, Nat.reduceEqDiff, Prod.mk.injEq, cutP_map, cutP_0, cutP_1, cutP_2, cutP_all, decide_eq_true_eq, startW, endsW, List.map_cons, List.map_nil, List.cons_append, List.nil_append, List.replicate, Nat.reduceSub, rIxW_tup, rLenW_tup, rListW_tup, wMeth, wRngL, wRngT, rIsiW_eq, tyP_non, tyP_bl, tyP_int, tyP_str, tyP_tup, isi_NoneType_int, isi_NoneType_bool, isi_NoneType_str, isi_NoneType_list, isi_NoneType_tuple, isi_NoneType_dict, isi_bool_int, isi_bool_bool, isi_bool_str, isi_bool_list, isi_bool_tuple, isi_bool_dict, isi_int_int, isi_int_bool, isi_int_str, isi_int_list, isi_int_tuple, isi_int_dict, isi_str_int, isi_str_bool, isi_str_str, isi_str_list, isi_str_tuple, isi_str_dict, isi_tuple_int, isi_tuple_bool, isi_tuple_str, isi_tuple_list, isi_tuple_tuple, isi_tuple_dict, isi_list_int, isi_list_bool, isi_list_str, isi_list_list, isi_list_tuple, isi_list_dict, isi_dict_int, isi_dict_bool, isi_dict_str, isi_dict_list, isi_dict_tuple, isi_dict_dict, decide_true, decide_false, Bool.not_true, Bool.not_false, Bool.not_eq_true', decide_eq_false_iff_not, ite_not, natP, swP, natsP, intsP, atI_0, atI_1, atI_2, atI_3, wLcU2, wLcV2, wTupZip, wZipN, wStep, wRev, wMaxD, wMinD, rInW_ints, rEqW_ii, rEqW_bb, rEqW_ss, rIsW_n, rIsW_bb, rAddW_ii, rAddW_ss, rAddW_tt, rIW_ii, rI0W_ii, rMulW_ii, rMulW_ti, rIntW_i, rIntW_b, rMax2W_ii, rMin2W_ii]
  refine ⟨N, rfl, n2dep ok (by omega), O, rfl, n2dep ok2 (by omega), ?_⟩
  have gN := rows_new S N
  generalize layG S.length N.sw N.w N.sw.length (dpM N.sw N.sw.length) = L1 at gN ⊢
  have gO := rows_new (S ++ L1) O
  generalize layG (S ++ L1).length O.sw O.w O.sw.length (dpM O.sw O.sw.length) = L2 at gO ⊢
  obtain ⟨rn, gN⟩ := gN
  have gN : RowsR (S ++ L1) (S.length + 2) rn (n3lay N) := gN
  obtain ⟨ro, gO⟩ := gO
  have gO : RowsR (S ++ L1 ++ L2) ((S ++ L1).length + 2) ro (n3lay O) := gO
  have hbo : S.length + 2 < (S ++ L1).length + 2 := by
    have := (List.getElem?_eq_some_iff.mp gN.1).1
    omega
  generalize (S ++ L1).length + 2 = o at gO hbo ⊢
  have lro : ro.length = dpM O.sw O.sw.length := by rw [gO.2.1]; simp [n3lay]
  refine ⟨false, ro.map PV.ref, seqW_ref gO.1, ?_⟩
  rw [show enumP (ro.map PV.ref) = ro.zipIdx.map (fun p => PV.tup [.int (p.2 : Int), .ref p.1]) from enumP_map PV.ref ro]
  obtain ⟨rA, hA⟩ : ∃ rA : Nat → List Nat, rA = fun l => rowM N.sw N.sw.length l := ⟨_, rfl⟩
  obtain ⟨rB, hB⟩ : ∃ rB : Nat → List Nat, rB = fun l => rowM O.sw O.sw.length l := ⟨_, rfl⟩
  have dN := dp_le N.sw N.sw.length
  have dO := dp_le O.sw O.sw.length
  refine loop_map (fun i τ' S' => (∃ x4 x5 x6 x7 x8, τ' = [some (netP N), some (netP O), some (netP (besN N O)), some (PV.ref (S.length + 2)), x4, x5, x6, x7, x8]) ∧ RowsR S' o ro (n3lay O) ∧ (∃ rs, RowsR S' (S.length + 2) rs (dueL rA rB N.sw.length (dpM N.sw N.sw.length) i)) ∧ ∃ G, S' = S ++ G)
    ⟨⟨_, _, _, _, _, rfl⟩, gO, ⟨rn, ?_⟩, L1 ++ L2, by rw [List.append_assoc]⟩ ?_ ?_
  · have e : dueL rA rB N.sw.length (dpM N.sw N.sw.length) 0 = n3lay N := by
      unfold dueL n3lay
      rw [Nat.max_eq_left (Nat.zero_le _), hA]
      refine List.map_congr_left fun l _ => ?_
      unfold dueRow
      rw [if_neg (by omega), List.append_nil]
    rw [e]
    exact gN.app _
  · rintro i ⟨r, j⟩ τ' S' R hi ⟨⟨x4, x5, x6, x7, x8, rfl⟩, hO', ⟨rs, hD⟩, G, rfl⟩ hR
    obtain ⟨hj, hr⟩ : i = j ∧ ro[i]? = some r := by
      rw [List.getElem?_zipIdx] at hi
      cases q : ro[i]? with
      | none => rw [q] at hi; cases hi
      | some z => rw [q] at hi; cases hi; exact ⟨by simp, rfl⟩
    subst j
    refine ⟨seqW_ref hO'.1, ?_⟩
    simp only [wSeq, wAsg, wRet, wRetN, wDrop, wIfS, wVar, wC, wOp, wCall, wCons, wNil, wTup, wTest, wAnd, wOr, wNot, wAndV, wOrV, wNotV, wIf, wNext, wgName, wgTup, wgCons, wgNil, wFor, wSq, wYes, wLcU, wLcV, wLc, uTuple, uAll, uAny, uSum, wNeg, wSl, wPart, wNoPart, rSlW_tup, isNonP, seqW_tup, wLst, wipeW, wPar, wPut, wAug, wZip, wEnum, wRng1, wRng2, wChain, List.getElem?_cons_zero, List.getElem?_cons_succ, List.set_cons_zero, List.set_cons_succ, Option.some.injEq, exists_eq_left', exists_eq_left, exists_and_left, exists_eq_right, exists_eq_right', and_assoc, true_and, and_true, List.cons.injEq, and_self, if_true, if_false, Bool.false_eq_true, PV.int.injEq, PV.bl.injEq, PV.tup.injEq, PV.ref.injEq, PV.str.injEq, Bool.false_xor, Bool.true_xor, List.length_cons, List.length_nil, Nat.reduceAdd, Nat.reduceLeDiff, Nat.reduceEqDiff, Prod.mk.injEq, cutP_map, cutP_0, cutP_1, cutP_2, cutP_all, decide_eq_true_eq, startW, endsW, List.map_cons, List.map_nil, List.cons_append, List.nil_append, List.replicate, Nat.reduceSub, rIxW_tup, rLenW_tup, rListW_tup, wMeth, wRngL, wRngT, rIsiW_eq, tyP_non, tyP_bl, tyP_int, tyP_str, tyP_tup, isi_NoneType_int, isi_NoneType_bool, isi_NoneType_str, isi_NoneType_list, isi_NoneType_tuple, isi_NoneType_dict, isi_bool_int, isi_bool_bool, isi_bool_str, isi_bool_list, isi_bool_tuple, isi_bool_dict, isi_int_int, isi_int_bool, isi_int_str, isi_int_list, isi_int_tuple, isi_int_dict, isi_str_int, isi_str_bool, isi_str_str, isi_str_list, isi_str_tuple, isi_str_dict, isi_tuple_int, isi_tuple_bool, isi_tuple_str, isi_tuple_list, isi_tuple_tuple, isi_tuple_dict, isi_list_int, isi_list_bool, isi_list_str, isi_list_list, isi_list_tuple, isi_list_dict, isi_dict_int, isi_dict_bool, isi_dict_str, isi_dict_list, isi_dict_tuple, isi_dict_dict, decide_true, decide_false, Bool.not_true, Bool.not_false, Bool.not_eq_true', decide_eq_false_iff_not, ite_not, natP, swP, natsP, intsP, atI_0, atI_1, atI_2, atI_3, wLcU2, wLcV2, wTupZip, wZipN, wStep, wRev, wMaxD, wMinD, rInW_ints, rEqW_ii, rEqW_bb, rEqW_ss, rIsW_n, rIsW_bb, rAddW_ii, rAddW_ss, rAddW_tt, rIW_ii, rI0W_ii, rMulW_ii, rMulW_ti, rIntW_i, rIntW_b, rMax2W_ii, rMin2W_ii, (rLenW_lst hD.1), n2x1]
    have hid : i < dpM O.sw O.sw.length := by have := (List.getElem?_eq_some_iff.mp hr).1; omega
    have lD := hD.2.1
    rw [dueL_len] at lD
    refine ⟨fun τ' S' => τ' = [some (netP N), some (netP O), some (netP (besN N O)), some (PV.ref (S.length + 2)), some (PV.int i), some (PV.ref r), x6, x7, x8] ∧ ∃ rs2 d2 G2, RowsR S' (S.length + 2) rs2 d2 ∧ RowsR S' o ro (n3lay O) ∧ S' = S ++ G2 ∧ i < d2.length ∧ d2[i]? = some (rA i) ∧ d2.set i (rA i ++ (rB i).map (N.sw.length + ·)) = dueL rA rB N.sw.length (dpM N.sw N.sw.length) (i + 1), ?_, ?_⟩
    · simp only [wSeq, wAsg, wRet, wRetN, wDrop, wIfS, wVar, wC, wOp, wCall, wCons, wNil, wTup, wTest, wAnd, wOr, wNot, wAndV, wOrV, wNotV, wIf, wNext, wgName, wgTup, wgCons, wgNil, wFor, wSq, wYes, wLcU, wLcV, wLc, uTuple, uAll, uAny, uSum, wNeg, wSl, wPart, wNoPart, rSlW_tup, isNonP, seqW_tup, wLst, wipeW, wPar, wPut, wAug, wZip, wEnum, wRng1, wRng2, wChain, List.getElem?_cons_zero, List.getElem?_cons_succ, List.set_cons_zero, List.set_cons_succ, Option.some.injEq, exists_eq_left', exists_eq_left, exists_and_left, exists_eq_right, exists_eq_right', and_assoc, true_and, and_true, List.cons.injEq, and_self, if_true, if_false, Bool.false_eq_true, PV.int.injEq, PV.bl.injEq, PV.tup.injEq, PV.ref.injEq, PV.str.injEq, Bool.false_xor, Bool.true_xor, List.length_cons, List.length_nil, Nat.reduceAdd, Nat.reduceLeDiff, Nat.reduceEqDiff, Prod.mk.injEq, cutP_map, cutP_0, cutP_1, cutP_2, cutP_all, decide_eq_true_eq, startW, endsW, List.map_cons, List.map_nil, List.cons_append, List.nil_append, List.replicate, Nat.reduceSub, rIxW_tup, rLenW_tup, rListW_tup, wMeth, wRngL, wRngT, rIsiW_eq, tyP_non, tyP_bl, tyP_int, tyP_str, tyP_tup, isi_NoneType_int, isi_NoneType_bool, isi_NoneType_str, isi_NoneType_list, isi_NoneType_tuple, isi_NoneType_dict, isi_bool_int, isi_bool_bool, isi_bool_str, isi_bool_list, isi_bool_tuple, isi_bool_dict, isi_int_int, isi_int_bool, isi_int_str, isi_int_list, isi_int_tuple, isi_int_dict, isi_str_int, isi_str_bool, isi_str_str, isi_str_list, isi_str_tuple, isi_str_dict, isi_tuple_int, isi_tuple_bool, isi_tuple_str, isi_tuple_list, isi_tuple_tuple, isi_tuple_dict, isi_list_int, isi_list_bool, isi_list_str, isi_list_list, isi_list_tuple, isi_list_dict, isi_dict_int, isi_dict_bool, isi_dict_str, isi_dict_list, isi_dict_tuple, isi_dict_dict, decide_true, decide_false, Bool.not_true, Bool.not_false, Bool.not_eq_true', decide_eq_false_iff_not, ite_not, natP, swP, natsP, intsP, atI_0, atI_1, atI_2, atI_3, wLcU2, wLcV2, wTupZip, wZipN, wStep, wRev, wMaxD, wMinD, rInW_ints, rEqW_ii, rEqW_bb, rEqW_ss, rIsW_n, rIsW_bb, rAddW_ii, rAddW_ss, rAddW_tt, rIW_ii, rI0W_ii, rMulW_ii, rMulW_ti, rIntW_i, rIntW_b, rMax2W_ii, rMin2W_ii, (rLenW_lst hD.1)]
      rw [List.length_map]
      by_cases c : dpM N.sw N.sw.length ≤ i
      · have e0 : rA i = [] := by rw [hA]; exact rowM_new _ _ _ c
        rw [if_pos (by omega)]
        have gD := get_app (G := [Ob.lst []]) hD.1
        rw [tyW_lst hD.1, rAppendW_lst gD]
        refine ⟨trivial, by rw [List.length_map]; omega, rs ++ [(S ++ G).length], dueL rA rB N.sw.length (dpM N.sw N.sw.length) i ++ [[]], hD.push [], (hO'.app _).off hbo, _, by rw [List.append_assoc, set_off], by rw [List.length_append, dueL_len]; simp; omega, ?_, dueL_new c e0⟩
        rw [e0, List.getElem?_append_right (by rw [dueL_len]; omega), dueL_len, show i - max (dpM N.sw N.sw.length) i = 0 by omega]; rfl
      · rw [if_neg (by omega)]
        exact ⟨rs, _, hD, hO', G, rfl, by rw [dueL_len]; omega, by rw [dueL_get (by omega), dueRow_here], dueL_in (by omega)⟩
    · rintro τ' S' ⟨rfl, rs2, d2, G2, hD2, hO2, rfl, hi2, hd2, e2⟩
      have hq : ∃ q, rs2[i]? = some q := ⟨_, List.getElem?_eq_getElem (by rw [hD2.2.1]; exact hi2)⟩
      obtain ⟨q, hq⟩ := hq
      obtain ⟨hbq, l1, hl1, hS1⟩ := hD2.2.2 i q hq
      rw [hd2] at hl1
      cases hl1
      obtain ⟨hor, l2, hl2', hS2⟩ := hO2.2.2 i r hr
      have el2 : l2 = rB i := by
        rw [hB]
        unfold n3lay at hl2'
        rw [List.getElem?_map, List.getElem?_range hid] at hl2'
        exact (Option.some.inj hl2').symm
      subst el2
      have rl1 : (rA i).length ≤ 30 := by rw [hA]; exact Nat.le_trans (rowM_len _ _ _) hl
      have rl2 : (rB i).length ≤ 30 := by rw [hB]; exact Nat.le_trans (rowM_len _ _ _) hl2
      simp only [wSeq, wAsg, wRet, wRetN, wDrop, wIfS, wVar, wC, wOp, wCall, wCons, wNil, wTup, wTest, wAnd, wOr, wNot, wAndV, wOrV, wNotV, wIf, wNext, wgName, wgTup, wgCons, wgNil, wFor, wSq, wYes, wLcU, wLcV, wLc, uTuple, uAll, uAny, uSum, wNeg, wSl, wPart, wNoPart, rSlW_tup, isNonP, seqW_tup, wLst, wipeW, wPar, wPut, wAug, wZip, wEnum, wRng1, wRng2, wChain, List.getElem?_cons_zero, List.getElem?_cons_succ, List.set_cons_zero, List.set_cons_succ, Option.some.injEq, exists_eq_left', exists_eq_left, exists_and_left, exists_eq_right, exists_eq_right', and_assoc, true_and, and_true, List.cons.injEq, and_self, if_true, if_false, Bool.false_eq_true, PV.int.injEq, PV.bl.injEq, PV.tup.injEq, PV.ref.injEq, PV.str.injEq, Bool.false_xor, Bool.true_xor, List.length_cons, List.length_nil, Nat.reduceAdd, Nat.reduceLeDiff, Nat.reduceEqDiff, Prod.mk.injEq, cutP_map, cutP_0, cutP_1, cutP_2, cutP_all, decide_eq_true_eq, startW, endsW, List.map_cons, List.map_nil, List.cons_append, List.nil_append, List.replicate, Nat.reduceSub, rIxW_tup, rLenW_tup, rListW_tup, wMeth, wRngL, wRngT, rIsiW_eq, tyP_non, tyP_bl, tyP_int, tyP_str, tyP_tup, isi_NoneType_int, isi_NoneType_bool, isi_NoneType_str, isi_NoneType_list, isi_NoneType_tuple, isi_NoneType_dict, isi_bool_int, isi_bool_bool, isi_bool_str, isi_bool_list, isi_bool_tuple, isi_bool_dict, isi_int_int, isi_int_bool, isi_int_str, isi_int_list, isi_int_tuple, isi_int_dict, isi_str_int, isi_str_bool, isi_str_str, isi_str_list, isi_str_tuple, isi_str_dict, isi_tuple_int, isi_tuple_bool, isi_tuple_str, isi_tuple_list, isi_tuple_tuple, isi_tuple_dict, isi_list_int, isi_list_bool, isi_list_str, isi_list_list, isi_list_tuple, isi_list_dict, isi_dict_int, isi_dict_bool, isi_dict_str, isi_dict_list, isi_dict_tuple, isi_dict_dict, decide_true, decide_false, Bool.not_true, Bool.not_false, Bool.not_eq_true', decide_eq_false_iff_not, ite_not, natP, swP, natsP, intsP, atI_0, atI_1, atI_2, atI_3, wLcU2, wLcV2, wTupZip, wZipN, wStep, wRev, wMaxD, wMinD, rInW_ints, rEqW_ii, rEqW_bb, rEqW_ss, rIsW_n, rIsW_bb, rAddW_ii, rAddW_ss, rAddW_tt, rIW_ii, rI0W_ii, rMulW_ii, rMulW_ti, rIntW_i, rIntW_b, rMax2W_ii, rMin2W_ii, (rIxW_lst hD2.1), n2x1]
      refine ⟨_, atI_nat' (v := PV.ref q) (by rw [List.getElem?_map, hq]; rfl), ?_⟩
      refine ⟨_, _, seqW_ref hS2, by rw [List.length_map]; omega, ?_⟩
      refine lc_map (fun k : Nat => natP (N.sw.length + k)) (seqW_ref hS2) (fun k hk R2 hR2 => ?_) ?_
      · simp only [wSeq, wAsg, wRet, wRetN, wDrop, wIfS, wVar, wC, wOp, wCall, wCons, wNil, wTup, wTest, wAnd, wOr, wNot, wAndV, wOrV, wNotV, wIf, wNext, wgName, wgTup, wgCons, wgNil, wFor, wSq, wYes, wLcU, wLcV, wLc, uTuple, uAll, uAny, uSum, wNeg, wSl, wPart, wNoPart, rSlW_tup, isNonP, seqW_tup, wLst, wipeW, wPar, wPut, wAug, wZip, wEnum, wRng1, wRng2, wChain, List.getElem?_cons_zero, List.getElem?_cons_succ, List.set_cons_zero, List.set_cons_succ, Option.some.injEq, exists_eq_left', exists_eq_left, exists_and_left, exists_eq_right, exists_eq_right', and_assoc, true_and, and_true, List.cons.injEq, and_self, if_true, if_false, Bool.false_eq_true, PV.int.injEq, PV.bl.injEq, PV.tup.injEq, PV.ref.injEq, PV.str.injEq, Bool.false_xor, Bool.true_xor, List.length_cons, List.length_nil, Nat.reduceAdd, Nat.reduceLeDiff, Nat.reduceEqDiff, Prod.mk.injEq, cutP_map, cutP_0, cutP_1, cutP_2, cutP_all, decide_eq_true_eq, startW, endsW, List.map_cons, List.map_nil, List.cons_append, List.nil_append, List.replicate, Nat.reduceSub, rIxW_tup, rLenW_tup, rListW_tup, wMeth, wRngL, wRngT, rIsiW_eq, tyP_non, tyP_bl, tyP_int, tyP_str, tyP_tup, isi_NoneType_int, isi_NoneType_bool, isi_NoneType_str, isi_NoneType_list, isi_NoneType_tuple, isi_NoneType_dict, isi_bool_int, isi_bool_bool, isi_bool_str, isi_bool_list, isi_bool_tuple, isi_bool_dict, isi_int_int, isi_int_bool, isi_int_str, isi_int_list, isi_int_tuple, isi_int_dict, isi_str_int, isi_str_bool, isi_str_str, isi_str_list, isi_str_tuple, isi_str_dict, isi_tuple_int, isi_tuple_bool, isi_tuple_str, isi_tuple_list, isi_tuple_tuple, isi_tuple_dict, isi_list_int, isi_list_bool, isi_list_str, isi_list_list, isi_list_tuple, isi_list_dict, isi_dict_int, isi_dict_bool, isi_dict_str, isi_dict_list, isi_dict_tuple, isi_dict_dict, decide_true, decide_false, Bool.not_true, Bool.not_false, Bool.not_eq_true', decide_eq_false_iff_not, ite_not, natP, swP, natsP, intsP, atI_0, atI_1, atI_2, atI_3, wLcU2, wLcV2, wTupZip, wZipN, wStep, wRev, wMaxD, wMinD, rInW_ints, rEqW_ii, rEqW_bb, rEqW_ss, rIsW_n, rIsW_bb, rAddW_ii, rAddW_ss, rAddW_tt, rIW_ii, rI0W_ii, rMulW_ii, rMulW_ti, rIntW_i, rIntW_b, rMax2W_ii, rMin2W_ii, n2x1]
        rw [List.length_map, show (k : Int) + (N.sw.length : Int) = ((N.sw.length + k : Nat) : Int) by omega]
        exact hR2
      have hadd : ∀ (Q2 : WQ), Q2 (.ref (S ++ G2 ++ [Ob.lst ((rB i).map fun k : Nat => natP (N.sw.length + k))]).length) (S ++ G2 ++ [Ob.lst ((rB i).map fun k : Nat => natP (N.sw.length + k))] ++ [Ob.lst ((rA i ++ (rB i).map (N.sw.length + ·)).map natP)]) → rAddW (PV.ref q) (PV.ref (S ++ G2).length) (S ++ G2 ++ [Ob.lst ((rB i).map fun k : Nat => natP (N.sw.length + k))]) Q2 := fun Q2 h2 => by
        rw [rAddW_ll (get_app hS1) (get_new1 _ _)]
        refine ⟨by rw [List.length_map, List.length_map]; omega, ?_⟩
        rw [List.map_append, List.map_map] at h2
        exact h2
      rw [List.nil_append]
      refine hadd _ ?_
      have hD3 := (hD2.app [Ob.lst ((rB i).map fun k : Nat => natP (N.sw.length + k))]).app [Ob.lst ((rA i ++ (rB i).map (N.sw.length + ·)).map natP)]
      have hO3 := (hO2.app [Ob.lst ((rB i).map fun k : Nat => natP (N.sw.length + k))]).app [Ob.lst ((rA i ++ (rB i).map (N.sw.length + ·)).map natP)]
      have hnew := get_new1 (S ++ G2 ++ [Ob.lst ((rB i).map fun k : Nat => natP (N.sw.length + k))]) (Ob.lst ((rA i ++ (rB i).map (N.sw.length + ·)).map natP))
      have hbn : S.length + 2 < (S ++ G2 ++ [Ob.lst ((rB i).map fun k : Nat => natP (N.sw.length + k))]).length := by
        have := (List.getElem?_eq_some_iff.mp hD2.1).1
        rw [List.length_append]
        simp only [List.length_cons, List.length_nil]
        omega
      refine put_lst' hD3.1 (by rw [List.length_map, hD2.2.1]; exact hi2) ?_
      rw [← List.map_set (f := PV.ref)]
      refine hR _ _ ⟨⟨_, _, _, _, _, rfl⟩, hO3.off hbo, ⟨rs2.set i (S ++ G2 ++ [Ob.lst ((rB i).map fun k : Nat => natP (N.sw.length + k))]).length, ?_⟩, _, by rw [List.append_assoc, List.append_assoc, set_off]⟩
      rw [← e2]
      exact hD3.put hnew hbn hi2
  · rintro τ' S' ⟨⟨x4, x5, x6, x7, x8, rfl⟩, hO', ⟨rs, hD⟩, G, rfl⟩
    refine ⟨seqW_ref hO'.1, ?_⟩
    simp only [wSeq, wAsg, wRet, wRetN, wDrop, wIfS, wVar, wC, wOp, wCall, wCons, wNil, wTup, wTest, wAnd, wOr, wNot, wAndV, wOrV, wNotV, wIf, wNext, wgName, wgTup, wgCons, wgNil, wFor, wSq, wYes, wLcU, wLcV, wLc, uTuple, uAll, uAny, uSum, wNeg, wSl, wPart, wNoPart, rSlW_tup, isNonP, seqW_tup, wLst, wipeW, wPar, wPut, wAug, wZip, wEnum, wRng1, wRng2, wChain, List.getElem?_cons_zero, List.getElem?_cons_succ, List.set_cons_zero, List.set_cons_succ, Option.some.injEq, exists_eq_left', exists_eq_left, exists_and_left, exists_eq_right, exists_eq_right', and_assoc, true_and, and_true, List.cons.injEq, and_self, if_true, if_false, Bool.false_eq_true, PV.int.injEq, PV.bl.injEq, PV.tup.injEq, PV.ref.injEq, PV.str.injEq, Bool.false_xor, Bool.true_xor, List.length_cons, List.length_nil, Nat.reduceAdd, Nat.reduceLeDiff, Nat.reduceEqDiff, Prod.mk.injEq, cutP_map, cutP_0, cutP_1, cutP_2, cutP_all, decide_eq_true_eq, startW, endsW, List.map_cons, List.map_nil, List.cons_append, List.nil_append, List.replicate, Nat.reduceSub, rIxW_tup, rLenW_tup, rListW_tup, wMeth, wRngL, wRngT, rIsiW_eq, tyP_non, tyP_bl, tyP_int, tyP_str, tyP_tup, isi_NoneType_int, isi_NoneType_bool, isi_NoneType_str, isi_NoneType_list, isi_NoneType_tuple, isi_NoneType_dict, isi_bool_int, isi_bool_bool, isi_bool_str, isi_bool_list, isi_bool_tuple, isi_bool_dict, isi_int_int, isi_int_bool, isi_int_str, isi_int_list, isi_int_tuple, isi_int_dict, isi_str_int, isi_str_bool, isi_str_str, isi_str_list, isi_str_tuple, isi_str_dict, isi_tuple_int, isi_tuple_bool, isi_tuple_str, isi_tuple_list, isi_tuple_tuple, isi_tuple_dict, isi_list_int, isi_list_bool, isi_list_str, isi_list_list, isi_list_tuple, isi_list_dict, isi_dict_int, isi_dict_bool, isi_dict_str, isi_dict_list, isi_dict_tuple, isi_dict_dict, decide_true, decide_false, Bool.not_true, Bool.not_false, Bool.not_eq_true', decide_eq_false_iff_not, ite_not, natP, swP, natsP, intsP, atI_0, atI_1, atI_2, atI_3, wLcU2, wLcV2, wTupZip, wZipN, wStep, wRev, wMaxD, wMinD, rInW_ints, rEqW_ii, rEqW_bb, rEqW_ss, rIsW_n, rIsW_bb, rAddW_ii, rAddW_ss, rAddW_tt, rIW_ii, rI0W_ii, rMulW_ii, rMulW_ti, rIntW_i, rIntW_b, rMax2W_ii, rMin2W_ii, n2x0, n2x1]
    have lend : (ro.zipIdx).length = dpM O.sw O.sw.length := by rw [List.length_zipIdx, lro]
    rw [lend] at hD
    have eD : dueL rA rB N.sw.length (dpM N.sw N.sw.length) (dpM O.sw O.sw.length) = n3lay (besN N O) := by
      rw [n3lay_bes ok ok2]
      unfold dueL
      refine List.map_congr_left fun l _ => ?_
      unfold dueRow
      rw [hA, hB]
      dsimp only
      by_cases c : l < dpM O.sw O.sw.length
      · rw [if_pos c]
      · rw [if_neg c, rowM_new O.sw O.sw.length l (by omega)]; rfl
    rw [eD] at hD
    refine ⟨besN N O, rfl, n2dep oB (by omega), ?_⟩
    refine eq_rows (rows_new _ _) (hD.at.app _) rfl ⟨_, rfl, ?_⟩
    rw [if_neg (by decide), List.append_assoc]
    generalize G ++ layG _ _ _ _ _ = G3
    refine ⟨besN N O, rfl, n2dep oB (by omega), N, rfl, n2dep ok (by omega), ?_⟩
    dsimp only
    refine and3 ok ok2 (by omega) (by omega) ?_
    rw [full_besN ok ok2, rEqW_bb, decide_eq_true rfl]
    refine ⟨_, rfl, ?_⟩
    rw [if_neg (by decide), Int.toNat_natCast]
    have w2 := ok2.w16
    refine ⟨by omega, by omega, loop_rng (fun _ => trivial) (fun i τ' S' => (∃ x4 x5 x6 x7 x8, τ' = [some (netP N), some (netP O), some (netP (besN N O)), some (PV.ref (S.length + 2)), x4, x5, x6, x7, x8]) ∧ ∃ G, S' = S ++ G) ⟨⟨_, _, _, _, _, rfl⟩, G3, rfl⟩ ?_ ?_⟩
    · rintro i τ' S' R hi ⟨⟨x4, x5, x6, x7, x8, rfl⟩, G, rfl⟩ hR
      simp only [wSeq, wAsg, wRet, wRetN, wDrop, wIfS, wVar, wC, wOp, wCall, wCons, wNil, wTup, wTest, wAnd, wOr, wNot, wAndV, wOrV, wNotV, wIf, wNext, wgName, wgTup, wgCons, wgNil, wFor, wSq, wYes, wLcU, wLcV, wLc, uTuple, uAll, uAny, uSum, wNeg, wSl, wPart, wNoPart, rSlW_tup, isNonP, seqW_tup, wLst, wipeW, wPar, wPut, wAug, wZip, wEnum, wRng1, wRng2, wChain, List.getElem?_cons_zero, List.getElem?_cons_succ, List.set_cons_zero, List.set_cons_succ, Option.some.injEq, exists_eq_left', exists_eq_left, exists_and_left, exists_eq_right, exists_eq_right', and_assoc, true_and, and_true, List.cons.injEq, and_self, if_true, if_false, Bool.false_eq_true, PV.int.injEq, PV.bl.injEq, PV.tup.injEq, PV.ref.injEq, PV.str.injEq, Bool.false_xor, Bool.true_xor, List.length_cons, List.length_nil, Nat.reduceAdd, Nat.reduceLeDiff, Nat.reduceEqDiff, Prod.mk.injEq, cutP_map, cutP_0, cutP_1, cutP_2, cutP_all, decide_eq_true_eq, startW, endsW, List.map_cons, List.map_nil, List.cons_append, List.nil_append, List.replicate, Nat.reduceSub, rIxW_tup, rLenW_tup, rListW_tup, wMeth, wRngL, wRngT, rIsiW_eq, tyP_non, tyP_bl, tyP_int, tyP_str, tyP_tup, isi_NoneType_int, isi_NoneType_bool, isi_NoneType_str, isi_NoneType_list, isi_NoneType_tuple, isi_NoneType_dict, isi_bool_int, isi_bool_bool, isi_bool_str, isi_bool_list, isi_bool_tuple, isi_bool_dict, isi_int_int, isi_int_bool, isi_int_str, isi_int_list, isi_int_tuple, isi_int_dict, isi_str_int, isi_str_bool, isi_str_str, isi_str_list, isi_str_tuple, isi_str_dict, isi_tuple_int, isi_tuple_bool, isi_tuple_str, isi_tuple_list, isi_tuple_tuple, isi_tuple_dict, isi_list_int, isi_list_bool, isi_list_str, isi_list_list, isi_list_tuple, isi_list_dict, isi_dict_int, isi_dict_bool, isi_dict_str, isi_dict_list, isi_dict_tuple, isi_dict_dict, decide_true, decide_false, Bool.not_true, Bool.not_false, Bool.not_eq_true', decide_eq_false_iff_not, ite_not, natP, swP, natsP, intsP, atI_0, atI_1, atI_2, atI_3, wLcU2, wLcV2, wTupZip, wZipN, wStep, wRev, wMaxD, wMinD, rInW_ints, rEqW_ii, rEqW_bb, rEqW_ss, rIsW_n, rIsW_bb, rAddW_ii, rAddW_ss, rAddW_tt, rIW_ii, rI0W_ii, rMulW_ii, rMulW_ti, rIntW_i, rIntW_b, rMax2W_ii, rMin2W_ii]
      refine ⟨(besN N O, i), rfl, ⟨by dsimp only; omega, by dsimp only; rw [n2ordL oB]; exact Nat.le_trans oB.w16 (by decide)⟩, fun k1 => ⟨(N, i), rfl, ⟨by dsimp only; omega, by dsimp only; rw [n2ordL ok]; omega⟩, fun k2 => ?_⟩⟩
      dsimp only
      refine ends_eq (get_app (two_get1 _ _ _)) (two_get1 _ _ _) (fwd_bes1 ok ok2 ew hi) ⟨_, rfl, ?_⟩
      rw [if_neg (by decide)]
      exact hR _ _ ⟨⟨_, _, _, _, _, rfl⟩, _, by rw [List.append_assoc, List.append_assoc]⟩
    · rintro τ' S' ⟨⟨x4, x5, x6, x7, x8, rfl⟩, G, rfl⟩
      simp only [wSeq, wAsg, wRet, wRetN, wDrop, wIfS, wVar, wC, wOp, wCall, wCons, wNil, wTup, wTest, wAnd, wOr, wNot, wAndV, wOrV, wNotV, wIf, wNext, wgName, wgTup, wgCons, wgNil, wFor, wSq, wYes, wLcU, wLcV, wLc, uTuple, uAll, uAny, uSum, wNeg, wSl, wPart, wNoPart, rSlW_tup, isNonP, seqW_tup, wLst, wipeW, wPar, wPut, wAug, wZip, wEnum, wRng1, wRng2, wChain, List.getElem?_cons_zero, List.getElem?_cons_succ, List.set_cons_zero, List.set_cons_succ, Option.some.injEq, exists_eq_left', exists_eq_left, exists_and_left, exists_eq_right, exists_eq_right', and_assoc, true_and, and_true, List.cons.injEq, and_self, if_true, if_false, Bool.false_eq_true, PV.int.injEq, PV.bl.injEq, PV.tup.injEq, PV.ref.injEq, PV.str.injEq, Bool.false_xor, Bool.true_xor, List.length_cons, List.length_nil, Nat.reduceAdd, Nat.reduceLeDiff, Nat.reduceEqDiff, Prod.mk.injEq, cutP_map, cutP_0, cutP_1, cutP_2, cutP_all, decide_eq_true_eq, startW, endsW, List.map_cons, List.map_nil, List.cons_append, List.nil_append, List.replicate, Nat.reduceSub, rIxW_tup, rLenW_tup, rListW_tup, wMeth, wRngL, wRngT, rIsiW_eq, tyP_non, tyP_bl, tyP_int, tyP_str, tyP_tup, isi_NoneType_int, isi_NoneType_bool, isi_NoneType_str, isi_NoneType_list, isi_NoneType_tuple, isi_NoneType_dict, isi_bool_int, isi_bool_bool, isi_bool_str, isi_bool_list, isi_bool_tuple, isi_bool_dict, isi_int_int, isi_int_bool, isi_int_str, isi_int_list, isi_int_tuple, isi_int_dict, isi_str_int, isi_str_bool, isi_str_str, isi_str_list, isi_str_tuple, isi_str_dict, isi_tuple_int, isi_tuple_bool, isi_tuple_str, isi_tuple_list, isi_tuple_tuple, isi_tuple_dict, isi_list_int, isi_list_bool, isi_list_str, isi_list_list, isi_list_tuple, isi_list_dict, isi_dict_int, isi_dict_bool, isi_dict_str, isi_dict_list, isi_dict_tuple, isi_dict_dict, decide_true, decide_false, Bool.not_true, Bool.not_false, Bool.not_eq_true', decide_eq_false_iff_not, ite_not, natP, swP, natsP, intsP, atI_0, atI_1, atI_2, atI_3, wLcU2, wLcV2, wTupZip, wZipN, wStep, wRev, wMaxD, wMinD, rInW_ints, rEqW_ii, rEqW_bb, rEqW_ss, rIsW_n, rIsW_bb, rAddW_ii, rAddW_ss, rAddW_tt, rIW_ii, rI0W_ii, rMulW_ii, rMulW_ti, rIntW_i, rIntW_b, rMax2W_ii, rMin2W_ii, n2x0]
      rw [Int.toNat_natCast]
      refine ⟨by omega, by omega, loop_rng (fun _ => trivial) (fun i τ' S' => (∃ x4 x5 x6 x7 x8, τ' = [some (netP N), some (netP O), some (netP (besN N O)), some (PV.ref (S.length + 2)), x4, x5, x6, x7, x8]) ∧ ∃ G, S' = S ++ G) ⟨⟨_, _, _, _, _, rfl⟩, G, rfl⟩ ?_ ?_⟩
      · rintro i τ' S' R hi ⟨⟨x4, x5, x6, x7, x8, rfl⟩, G, rfl⟩ hR
        simp only [wSeq, wAsg, wRet, wRetN, wDrop, wIfS, wVar, wC, wOp, wCall, wCons, wNil, wTup, wTest, wAnd, wOr, wNot, wAndV, wOrV, wNotV, wIf, wNext, wgName, wgTup, wgCons, wgNil, wFor, wSq, wYes, wLcU, wLcV, wLc, uTuple, uAll, uAny, uSum, wNeg, wSl, wPart, wNoPart, rSlW_tup, isNonP, seqW_tup, wLst, wipeW, wPar, wPut, wAug, wZip, wEnum, wRng1, wRng2, wChain, List.getElem?_cons_zero, List.getElem?_cons_succ, List.set_cons_zero, List.set_cons_succ, Option.some.injEq, exists_eq_left', exists_eq_left, exists_and_left, exists_eq_right, exists_eq_right', and_assoc, true_and, and_true, List.cons.injEq, and_self, if_true, if_false, Bool.false_eq_true, PV.int.injEq, PV.bl.injEq, PV.tup.injEq, PV.ref.injEq, PV.str.injEq, Bool.false_xor, Bool.true_xor, List.length_cons, List.length_nil, Nat.reduceAdd, Nat.reduceLeDiff, Nat.reduceEqDiff, Prod.mk.injEq, cutP_map, cutP_0, cutP_1, cutP_2, cutP_all, decide_eq_true_eq, startW, endsW, List.map_cons, List.map_nil, List.cons_append, List.nil_append, List.replicate, Nat.reduceSub, rIxW_tup, rLenW_tup, rListW_tup, wMeth, wRngL, wRngT, rIsiW_eq, tyP_non, tyP_bl, tyP_int, tyP_str, tyP_tup, isi_NoneType_int, isi_NoneType_bool, isi_NoneType_str, isi_NoneType_list, isi_NoneType_tuple, isi_NoneType_dict, isi_bool_int, isi_bool_bool, isi_bool_str, isi_bool_list, isi_bool_tuple, isi_bool_dict, isi_int_int, isi_int_bool, isi_int_str, isi_int_list, isi_int_tuple, isi_int_dict, isi_str_int, isi_str_bool, isi_str_str, isi_str_list, isi_str_tuple, isi_str_dict, isi_tuple_int, isi_tuple_bool, isi_tuple_str, isi_tuple_list, isi_tuple_tuple, isi_tuple_dict, isi_list_int, isi_list_bool, isi_list_str, isi_list_list, isi_list_tuple, isi_list_dict, isi_dict_int, isi_dict_bool, isi_dict_str, isi_dict_list, isi_dict_tuple, isi_dict_dict, decide_true, decide_false, Bool.not_true, Bool.not_false, Bool.not_eq_true', decide_eq_false_iff_not, ite_not, natP, swP, natsP, intsP, atI_0, atI_1, atI_2, atI_3, wLcU2, wLcV2, wTupZip, wZipN, wStep, wRev, wMaxD, wMinD, rInW_ints, rEqW_ii, rEqW_bb, rEqW_ss, rIsW_n, rIsW_bb, rAddW_ii, rAddW_ss, rAddW_tt, rIW_ii, rI0W_ii, rMulW_ii, rMulW_ti, rIntW_i, rIntW_b, rMax2W_ii, rMin2W_ii, n2x0]
        refine ⟨(besN N O, i + N.w), by simp [natP], ⟨by dsimp only; omega, by dsimp only; rw [n2ordL oB]; exact Nat.le_trans oB.w16 (by decide)⟩, fun k1 => ⟨(O, i), rfl, ⟨by dsimp only; omega, by dsimp only; rw [n2ordL ok2]; omega⟩, fun k2 => ?_⟩⟩
        dsimp only
        have lf : (fwdN O i).length ≤ 16 := by
          rw [n3_is _ ok2]
          have := List.length_filter_le (fun j => reachB O.sw (only i) (O.ord.getD j 0)) (List.range O.w)
          rw [List.length_range] at this
          omega
        refine ⟨_, _, seqW_ref (two_get1 _ _ _), by rw [List.length_map]; omega, ?_⟩
        refine lc_map (fun k : Nat => natP (k + N.w)) (seqW_ref (two_get1 _ _ _)) (fun k hk R2 hR2 => ?_) ?_
        · simp only [wSeq, wAsg, wRet, wRetN, wDrop, wIfS, wVar, wC, wOp, wCall, wCons, wNil, wTup, wTest, wAnd, wOr, wNot, wAndV, wOrV, wNotV, wIf, wNext, wgName, wgTup, wgCons, wgNil, wFor, wSq, wYes, wLcU, wLcV, wLc, uTuple, uAll, uAny, uSum, wNeg, wSl, wPart, wNoPart, rSlW_tup, isNonP, seqW_tup, wLst, wipeW, wPar, wPut, wAug, wZip, wEnum, wRng1, wRng2, wChain, List.getElem?_cons_zero, List.getElem?_cons_succ, List.set_cons_zero, List.set_cons_succ, Option.some.injEq, exists_eq_left', exists_eq_left, exists_and_left, exists_eq_right, exists_eq_right', and_assoc, true_and, and_true, List.cons.injEq, and_self, if_true, if_false, Bool.false_eq_true, PV.int.injEq, PV.bl.injEq, PV.tup.injEq, PV.ref.injEq, PV.str.injEq, Bool.false_xor, Bool.true_xor, List.length_cons, List.length_nil, Nat.reduceAdd, Nat.reduceLeDiff, Nat.reduceEqDiff, Prod.mk.injEq, cutP_map, cutP_0, cutP_1, cutP_2, cutP_all, decide_eq_true_eq, startW, endsW, List.map_cons, List.map_nil, List.cons_append, List.nil_append, List.replicate, Nat.reduceSub, rIxW_tup, rLenW_tup, rListW_tup, wMeth, wRngL, wRngT, rIsiW_eq, tyP_non, tyP_bl, tyP_int, tyP_str, tyP_tup, isi_NoneType_int, isi_NoneType_bool, isi_NoneType_str, isi_NoneType_list, isi_NoneType_tuple, isi_NoneType_dict, isi_bool_int, isi_bool_bool, isi_bool_str, isi_bool_list, isi_bool_tuple, isi_bool_dict, isi_int_int, isi_int_bool, isi_int_str, isi_int_list, isi_int_tuple, isi_int_dict, isi_str_int, isi_str_bool, isi_str_str, isi_str_list, isi_str_tuple, isi_str_dict, isi_tuple_int, isi_tuple_bool, isi_tuple_str, isi_tuple_list, isi_tuple_tuple, isi_tuple_dict, isi_list_int, isi_list_bool, isi_list_str, isi_list_list, isi_list_tuple, isi_list_dict, isi_dict_int, isi_dict_bool, isi_dict_str, isi_dict_list, isi_dict_tuple, isi_dict_dict, decide_true, decide_false, Bool.not_true, Bool.not_false, Bool.not_eq_true', decide_eq_false_iff_not, ite_not, natP, swP, natsP, intsP, atI_0, atI_1, atI_2, atI_3, wLcU2, wLcV2, wTupZip, wZipN, wStep, wRev, wMaxD, wMinD, rInW_ints, rEqW_ii, rEqW_bb, rEqW_ss, rIsW_n, rIsW_bb, rAddW_ii, rAddW_ss, rAddW_tt, rIW_ii, rI0W_ii, rMulW_ii, rMulW_ti, rIntW_i, rIntW_b, rMax2W_ii, rMin2W_ii, n2x0]
          rw [show (k : Int) + (N.w : Int) = ((k + N.w : Nat) : Int) by omega]
          exact hR2
        rw [List.nil_append]
        have em : ((fwdN O i).map fun k : Nat => natP (k + N.w)) = ((fwdN O i).map (· + N.w)).map natP := by rw [List.map_map]; rfl
        rw [em]
        refine ends_eq (get_app (get_app (two_get1 _ _ _))) (get_new1 _ _) (fwd_bes2 ok ok2 ew hi) ⟨_, rfl, ?_⟩
        rw [if_neg (by decide)]
        exact hR _ _ ⟨⟨_, _, _, _, _, rfl⟩, _, by rw [List.append_assoc, List.append_assoc, List.append_assoc]⟩
      · rintro τ' S' ⟨⟨x4, x5, x6, x7, x8, rfl⟩, G, rfl⟩
        simp only [wSeq, wAsg, wRet, wRetN, wDrop, wIfS, wVar, wC, wOp, wCall, wCons, wNil, wTup, wTest, wAnd, wOr, wNot, wAndV, wOrV, wNotV, wIf, wNext, wgName, wgTup, wgCons, wgNil, wFor, wSq, wYes, wLcU, wLcV, wLc, uTuple, uAll, uAny, uSum, wNeg, wSl, wPart, wNoPart, rSlW_tup, isNonP, seqW_tup, wLst, wipeW, wPar, wPut, wAug, wZip, wEnum, wRng1, wRng2, wChain, List.getElem?_cons_zero, List.getElem?_cons_succ, List.set_cons_zero, List.set_cons_succ, Option.some.injEq, exists_eq_left', exists_eq_left, exists_and_left, exists_eq_right, exists_eq_right', and_assoc, true_and, and_true, List.cons.injEq, and_self, if_true, if_false, Bool.false_eq_true, PV.int.injEq, PV.bl.injEq, PV.tup.injEq, PV.ref.injEq, PV.str.injEq, Bool.false_xor, Bool.true_xor, List.length_cons, List.length_nil, Nat.reduceAdd, Nat.reduceLeDiff, Nat.reduceEqDiff, Prod.mk.injEq, cutP_map, cutP_0, cutP_1, cutP_2, cutP_all, decide_eq_true_eq, startW, endsW, List.map_cons, List.map_nil, List.cons_append, List.nil_append, List.replicate, Nat.reduceSub, rIxW_tup, rLenW_tup, rListW_tup, wMeth, wRngL, wRngT, rIsiW_eq, tyP_non, tyP_bl, tyP_int, tyP_str, tyP_tup, isi_NoneType_int, isi_NoneType_bool, isi_NoneType_str, isi_NoneType_list, isi_NoneType_tuple, isi_NoneType_dict, isi_bool_int, isi_bool_bool, isi_bool_str, isi_bool_list, isi_bool_tuple, isi_bool_dict, isi_int_int, isi_int_bool, isi_int_str, isi_int_list, isi_int_tuple, isi_int_dict, isi_str_int, isi_str_bool, isi_str_str, isi_str_list, isi_str_tuple, isi_str_dict, isi_tuple_int, isi_tuple_bool, isi_tuple_str, isi_tuple_list, isi_tuple_tuple, isi_tuple_dict, isi_list_int, isi_list_bool, isi_list_str, isi_list_list, isi_list_tuple, isi_list_dict, isi_dict_int, isi_dict_bool, isi_dict_str, isi_dict_list, isi_dict_tuple, isi_dict_dict, decide_true, decide_false, Bool.not_true, Bool.not_false, Bool.not_eq_true', decide_eq_false_iff_not, ite_not, natP, swP, natsP, intsP, atI_0, atI_1, atI_2, atI_3, wLcU2, wLcV2, wTupZip, wZipN, wStep, wRev, wMaxD, wMinD, rInW_ints, rEqW_ii, rEqW_bb, rEqW_ss, rIsW_n, rIsW_bb, rAddW_ii, rAddW_ss, rAddW_tt, rIW_ii, rI0W_ii, rMulW_ii, rMulW_ti, rIntW_i, rIntW_b, rMax2W_ii, rMin2W_ii]
        exact fg_drop hcl cl_bl h
end
end L4
set_option Elab.async false
set_option linter.all false
set_option maxRecDepth 100000
namespace L4
open PySem PySem.Spec PyProof.Rows L2 L3
section
variable {P : Program} {w : World} {K : PySem.W.Frag} {mg : Str → Option Value} {base : Heap}
def wBehR : WC := fun vs S Q => ∃ a : Nat × Net × Net, vs = [.ref a.1, netP a.2.1, netP a.2.2] ∧ (S[a.1]? = some .jar ∧ a.2.1.Ok ∧ a.2.2.Ok ∧ a.2.1.sw.length ≤ 30 ∧ a.2.2.sw.length ≤ 30) ∧ Q (.bl true) S
theorem mo_behR : MoC wBehR := fun xs S Q Q' ⟨a, e, h1, q⟩ k => ⟨a, e, h1, k _ _ q⟩
abbrev s_law_behind_right : Stmt := top 24
theorem sc_law_behind_right : FnScope ["jar", "one", "other", "some", "pair", "like", "both", "wire", "due", "end"] ["jar", "one", "other"] (defScope s_law_behind_right) := ⟨rfl, rfl, rfl, by decide +kernel, rfl, by decide +kernel, by decide +kernel⟩
set_option maxHeartbeats 1000000 in
theorem ok_law_behind_right {f : Addr} {fd : FuncData} (F : Fun K "_law_behind_right" "_law_behind_right" s_law_behind_right f fd) (T : Tn mg) (D_depth : DefW Ts P w K mg base "depth" 2 ["net"] wDepth) (D_ends_from : DefW Ts P w K mg base "ends_from" 1 ["net", "wire"] wEnds) (D_behind : DefW Ts P w K mg base "behind" 2 ["one", "other"] wBehind) (D_law_order : DefW Ts P w K mg base "_law_order" 3 ["jar", "many"] wOrder) : FnOk P w K mg base CX0 4 f fd ["jar", "one", "other"] (spW Ts K wBehR) := by
  refine ok_body (k := 3) F sc_law_behind_right (fun pvs S Q h => by obtain ⟨a, rfl, _⟩ := h; rfl) (fun cdv A outer s H E hr => ?_)
  have hu := hu_of hr
  refine ⟨_, (sss_cons (ss_setLc (i := 3) (own := [("pair", 4)]) (g := (gName 4)) rfl sc_law_behind_right.nd rfl rfl (sw_true rfl rfl rfl (by decide +kernel)) (si_seq (se_ix hu (sv 2) se_int (fun _ _ => rfl))) (blkOk_by (own := [("pair", 4)]) (N := ["jar", "one", "other", "some", "pair", "like", "both", "wire", "due", "end"]) (sc := defScope s_law_behind_right) (by decide +kernel)) (fun _ _ _ _ _ => (pg_name (i := 4) sc_law_behind_right.nd rfl (by first | exact Or.inl rfl | exact Or.inr rfl))) (gr_name (i := 4) (by decide)) (mg_name _) (fun _ _ _ _ _ => (sts_one (st_cmp s_lt (se_callB (c_max rfl) (by rfl) T.max_ (by decide +kernel) (sa_cons (sv 4) sa_nil)) (se_ix hu (sv 1) se_int (fun _ _ => rfl)) (nomark _)))) (fun _ _ _ _ _ => (sv 4)))
      (sss_cons (ss_set (i := 5) sc_law_behind_right.nd rfl (by first | exact Or.inl rfl | exact Or.inr rfl) (se_tup (sa_cons (se_ix hu (sv 1) se_int (fun _ _ => rfl)) (sa_cons (se_callTy c_tuple (by rfl) T.tuple_ (by decide +kernel) (sa_cons (sv 3) sa_nil)) (sa_cons (se_callTy c_tuple (by rfl) T.tuple_ (by decide +kernel) (sa_cons (se_def D_law_order (hr.mono (by first | decide | omega)) (by rfl) (sa_cons (sv 0) (sa_cons (se_ix hu (sv 1) se_int (fun _ _ => rfl)) sa_nil))) sa_nil)) sa_nil)))))
      (sss_cons (ss_set (i := 6) sc_law_behind_right.nd rfl (by first | exact Or.inl rfl | exact Or.inr rfl) (se_def D_behind (hr.mono (by first | decide | omega)) (by rfl) (sa_cons (sv 1) (sa_cons (sv 5) sa_nil))))
      (sss_cons (ss_for (vs := [7]) PassesOwn.never rfl (si_range1 (by rfl) T.range_ (sa_cons (se_ix hu (sv 1) se_int (fun _ _ => rfl)) sa_nil)) (pg_name (i := 7) sc_law_behind_right.nd rfl (by first | exact Or.inl rfl | exact Or.inr rfl)) (gr_name (i := 7) (by decide)) (mg_name _) (sss_cons (ss_set (i := 8) sc_law_behind_right.nd rfl (by first | exact Or.inl rfl | exact Or.inr rfl) (se_lst sa_nil))
      (sss_cons (ss_for (vs := [9]) PassesOwn.never rfl (si_seq (se_def D_ends_from (hr.mono (by first | decide | omega)) (by rfl) (sa_cons (sv 1) (sa_cons (sv 7) sa_nil)))) (pg_name (i := 9) sc_law_behind_right.nd rfl (by first | exact Or.inl rfl | exact Or.inr rfl)) (gr_name (i := 9) (by decide)) (mg_name _) (sss_one (ss_set (i := 8) sc_law_behind_right.nd rfl (by first | exact Or.inl rfl | exact Or.inr rfl) (se_op s_add (sv 8) (se_def D_ends_from (hr.mono (by first | decide | omega)) (by rfl) (sa_cons (sv 5) (sa_cons (sv 9) sa_nil)))))))
      (sss_one (ss_if (st_cmp (s_ne hr.units) (se_def D_ends_from (hr.mono (by first | decide | omega)) (by rfl) (sa_cons (sv 6) (sa_cons (sv 7) sa_nil))) (se_sortedSet rfl (by rfl) T.sorted_ (by rfl) T.set_ (sv 8)) (nomark _)) (sss_one (ss_ret se_bl)) sss_nil)))))
      (sss_one (ss_ret (se_chain s_le s_le (se_callB (c_max2 rfl) (by rfl) T.max_ (by decide +kernel) (sa_cons (se_def D_depth (hr.mono (by first | decide | omega)) (by rfl) (sa_cons (sv 1) sa_nil)) (sa_cons (se_def D_depth (hr.mono (by first | decide | omega)) (by rfl) (sa_cons (sv 5) sa_nil)) sa_nil))) (se_def D_depth (hr.mono (by first | decide | omega)) (by rfl) (sa_cons (sv 6) sa_nil)) (se_op s_add (se_def D_depth (hr.mono (by first | decide | omega)) (by rfl) (sa_cons (sv 1) sa_nil)) (se_def D_depth (hr.mono (by first | decide | omega)) (by rfl) (sa_cons (sv 5) sa_nil)))))))))), fun pvs S Q hcl hca h => ?_⟩
  obtain ⟨⟨j, N, O⟩, rfl, ⟨hj, ok, ok2, hl, hl2⟩, h⟩ := h
  dsimp only at hj ok ok2 hl hl2 h
  have w16 := ok.w16
  simp only [wSeq, wAsg, wRet, wRetN, wDrop, wIfS, wVar, wC, wOp, wCall, wCons, wNil, wTup, wTest, wAnd, wOr, wNot, wAndV, wOrV, wNotV, wIf, wNext, wgName, wgTup, wgCons, wgNil, wFor, wSq, wYes, wLcU, wLcV, wLc, uTuple, uAll, uAny, uSum, wNeg, wSl, wPart, wNoPart, rSlW_tup, isNonP, seqW_tup, wLst, wipeW, wPar, wPut, wAug, wZip, wEnum, wRng1, wRng2, wChain, List.getElem?_cons_zero, List.getElem?_cons_succ, List.set_cons_zero, List.set_cons_succ, Option.some.injEq, exists_eq_left', exists_eq_left, exists_and_left, exists_eq_right, exists_eq_right', and_assoc, true_and, and_true, List.cons.injEq, and_self, if_true, if_false, Bool.false_eq_true, PV.int.injEq, PV.bl.injEq, PV.tup.injEq, PV.ref.injEq, PV.str.injEq, Bool.false_xor, Bool.true_xor, List.length_cons, List.length_nil, Nat.reduceAdd, Nat.reduceLeDiff, Nat.reduceEqDiff, Prod.mk.injEq, cutP_map, cutP_0, cutP_1, cutP_2, cutP_all, decide_eq_true_eq, startW, endsW, List.map_cons, List.map_nil, List.cons_append, List.nil_append, List.replicate, Nat.reduceSub, rIxW_tup, rLenW_tup, rListW_tup, wMeth, wRngL, wRngT, rIsiW_eq, tyP_non, tyP_bl, tyP_int, tyP_str, tyP_tup, isi_NoneType_int, isi_NoneType_bool, isi_NoneType_str, isi_NoneType_list, isi_NoneType_tuple, isi_NoneType_dict, isi_bool_int, isi_bool_bool, isi_bool_str, isi_bool_list, isi_bool_tuple, isi_bool_dict, isi_int_int, isi_int_bool, isi_int_str, isi_int_list, isi_int_tuple, isi_int_dict, isi_str_int, isi_str_bool, isi_str_str, isi_str_list, isi_str_tuple, isi_str_dict, isi_tuple_int, isi_tuple_bool, isi_tuple_str, isi_tuple_list, isi_tuple_tuple, isi_tuple_dict, isi_list_int, isi_list_bool, isi_list_str, isi_list_list, isi_list_tuple, isi_list_dict, isi_dict_int, isi_dict_bool, isi_dict_str, isi_dict_list, isi_dict_tuple, isi_dict_dict, decide_true, decide_false, Bool.not_true, Bool.not_false, Bool.not_eq_true', decide_eq_false_iff_not, ite_not, natP, swP, natsP, intsP, atI_0, atI_1, atI_2, atI_3, wLcU2, wLcV2, wTupZip, wZipN, wStep, wRev, wMaxD, wMinD, rInW_ints, rEqW_ii, rEqW_bb, rEqW_ss, rIsW_n, rIsW_bb, rAddW_ii, rAddW_ss, rAddW_tt, rIW_ii, rI0W_ii, rMulW_ii, rMulW_ti, rIntW_i, rIntW_b, rMax2W_ii, rMin2W_ii, n2x0, n2x1]
  refine ⟨by rw [List.length_map]; omega, ?_⟩
  refine lc_filter (fun s : Nat × Nat => decide (max s.1 s.2 < N.w)) swP trivial (fun s hs R R' R2 h1 h2 => ?_) ?_
  · simp only [wSeq, wAsg, wRet, wRetN, wDrop, wIfS, wVar, wC, wOp, wCall, wCons, wNil, wTup, wTest, wAnd, wOr, wNot, wAndV, wOrV, wNotV, wIf, wNext, wgName, wgTup, wgCons, wgNil, wFor, wSq, wYes, wLcU, wLcV, wLc, uTuple, uAll, uAny, uSum, wNeg, wSl, wPart, wNoPart, rSlW_tup, isNonP, seqW_tup, wLst, wipeW, wPar, wPut, wAug, wZip, wEnum, wRng1, wRng2, wChain, List.getElem?_cons_zero, List.getElem?_cons_succ, List.set_cons_zero, List.set_cons_succ, Option.some.injEq, exists_eq_left', exists_eq_left, exists_and_left, exists_eq_right, exists_eq_right', and_assoc, true_and, and_true, List.cons.injEq, and_self, if_true, if_false, Bool.false_eq_true, PV.int.injEq, PV.bl.injEq, PV.tup.injEq, PV.ref.injEq, PV.str.injEq, Bool.false_xor, Bool.true_xor, List.length_cons, List.length_nil, Nat.reduceAdd, Nat.reduceLeDiff, Nat.reduceEqDiff, Prod.mk.injEq, cutP_map, cutP_0, cutP_1, cutP_2, cutP_all, decide_eq_true_eq, startW, endsW, List.map_cons, List.map_nil, List.cons_append, List.nil_append, List.replicate, Nat.reduceSub, rIxW_tup, rLenW_tup, rListW_tup, wMeth, wRngL, wRngT, rIsiW_eq, tyP_non, tyP_bl, tyP_int, tyP_str, tyP_tup, isi_NoneType_int, isi_NoneType_bool, isi_NoneType_str, isi_NoneType_list, isi_NoneType_tuple, isi_NoneType_dict, isi_bool_int, isi_bool_bool, isi_bool_str, isi_bool_list, isi_bool_tuple, isi_bool_dict, isi_int_int, isi_int_bool, isi_int_str, isi_int_list, isi_int_tuple, isi_int_dict, isi_str_int, isi_str_bool, isi_str_str, isi_str_list, isi_str_tuple, isi_str_dict, isi_tuple_int, isi_tuple_bool, isi_tuple_str, isi_tuple_list, isi_tuple_tuple, isi_tuple_dict, isi_list_int, isi_list_bool, isi_list_str, isi_list_list, isi_list_tuple, isi_list_dict, isi_dict_int, isi_dict_bool, isi_dict_str, isi_dict_list, isi_dict_tuple, isi_dict_dict, decide_true, decide_false, Bool.not_true, Bool.not_false, Bool.not_eq_true', decide_eq_false_iff_not, ite_not, natP, swP, natsP, intsP, atI_0, atI_1, atI_2, atI_3, wLcU2, wLcV2, wTupZip, wZipN, wStep, wRev, wMaxD, wMinD, rInW_ints, rEqW_ii, rEqW_bb, rEqW_ss, rIsW_n, rIsW_bb, rAddW_ii, rAddW_ss, rAddW_tt, rIW_ii, rI0W_ii, rMulW_ii, rMulW_ti, rIntW_i, rIntW_b, rMax2W_ii, rMin2W_ii, n2x0]
    refine ⟨_, true, [(s.1 : Int), (s.2 : Int)], rfl, rfl, (by simp), fun m hm hx => ?_⟩
    have m1 := hx _ (.head _)
    have m2 := hx _ (.tail _ (.head _))
    have m3 : m = s.1 ∨ m = s.2 := by
      rcases List.mem_cons.mp hm with z | z
      · exact .inl z
      · exact .inr (List.mem_singleton.mp z)
    show ∃ b, PV.bl (decide (m < (N.w : Int))) = PV.bl b ∧ _
    refine ⟨_, rfl, ?_⟩
    by_cases c : max s.1 s.2 < N.w
    · rw [if_pos (decide_eq_true (by omega))]
      exact h1 (decide_eq_true c)
    · rw [if_neg (by rw [decide_eq_false (by omega)]; decide)]
      exact h2 (decide_eq_false c)
  rw [List.nil_append]
  obtain ⟨B, hB⟩ : ∃ B, B = O.sw.filter fun s : Nat × Nat => decide (max s.1 s.2 < N.w) := ⟨_, rfl⟩
  have lB : B.length ≤ 30 := by rw [hB]; exact Nat.le_trans (List.length_filter_le _ _) hl2
  have oB : ∀ s ∈ B, s.1 < N.w ∧ s.2 < N.w ∧ s.1 ≠ s.2 := fun s hs => by
    rw [hB] at hs
    obtain ⟨h1, h2⟩ := List.mem_filter.mp hs
    have h3 := of_decide_eq_true h2
    exact ⟨by omega, by omega, (ok2.sw s h1).2.2⟩
  rw [← hB, rTupleW_lst (get_new1 _ _)]
  refine ⟨j, N.w, rfl, get_app hj, by omega, fun zs hz => ?_⟩
  dsimp only
  rw [rTupleW_lst (get_new1 _ _)]
  obtain ⟨L, hL⟩ : ∃ L : Net, L = ⟨N.w, B, zs⟩ := ⟨_, rfl⟩
  have eL : PV.tup [PV.int (N.w : Int), PV.tup (B.map swP), PV.tup (zs.map natP)] = netP L := by rw [hL]; rfl
  have okL : L.Ok := by rw [hL]; exact ⟨ok.w1, ok.w16, oB, hz⟩
  have wL : L.w = N.w := by rw [hL]
  have lL : L.sw.length ≤ 30 := by rw [hL]; exact lB
  rw [eL]
  have okB := beh_ok ok okL wL
  have lBN : (behN N L).sw.length = N.sw.length + L.sw.length := by simp [behN, renN]
  refine ⟨(N, L), rfl, ⟨by rw [n2ordL ok, ← wL]; exact n2lt (N := L) okL (by omega), ok.w16, by dsimp only; omega⟩, ?_⟩
  show _ ∧ _ ∧ wLoop _ _ _ _ _ _ _
  dsimp only
  rw [Int.toNat_natCast]
  rw [List.append_assoc]
  generalize [Ob.lst (B.map swP)] ++ [Ob.lst (zs.map natP)] = G0
  refine ⟨by omega, by omega, loop_rng (fun _ => trivial) (fun i τ' S' => (∃ x7 x8 x9, τ' = [some (PV.ref j), some (netP N), some (netP O), some (PV.ref S.length), none, some (netP L), some (netP (behN N L)), x7, x8, x9]) ∧ ∃ G, S' = S ++ G) ⟨⟨_, _, _, rfl⟩, G0, rfl⟩ ?_ ?_⟩
  · rintro i τ' S' R hi ⟨⟨x7, x8, x9, rfl⟩, G, rfl⟩ hR
    simp only [wSeq, wAsg, wRet, wRetN, wDrop, wIfS, wVar, wC, wOp, wCall, wCons, wNil, wTup, wTest, wAnd, wOr, wNot, wAndV, wOrV, wNotV, wIf, wNext, wgName, wgTup, wgCons, wgNil, wFor, wSq, wYes, wLcU, wLcV, wLc, uTuple, uAll, uAny, uSum, wNeg, wSl, wPart, wNoPart, rSlW_tup, isNonP, seqW_tup, wLst, wipeW, wPar, wPut, wAug, wZip, wEnum, wRng1, wRng2, wChain, List.getElem?_cons_zero, List.getElem?_cons_succ, List.set_cons_zero, List.set_cons_succ, Option.some.injEq, exists_eq_left', exists_eq_left, exists_and_left, exists_eq_right, exists_eq_right', and_assoc, true_and, and_true, List.cons.injEq, and_self, if_true, if_false, Bool.false_eq_true, PV.int.injEq, PV.bl.injEq, PV.tup.injEq, PV.ref.injEq, PV.str.injEq, Bool.false_xor, Bool.true_xor, List.length_cons, List.length_nil, Nat.reduceAdd, Nat.reduceLeDiff, Nat.reduceEqDiff, Prod.mk.injEq, cutP_map, cutP_0, cutP_1, cutP_2, cutP_all, decide_eq_true_eq, startW, endsW, List.map_cons, List.map_nil, List.cons_append, List.nil_append, List.replicate, Nat.reduceSub, rIxW_tup, rLenW_tup, rListW_tup, wMeth, wRngL, wRngT, rIsiW_eq, tyP_non, tyP_bl, tyP_int, tyP_str, tyP_tup, isi_NoneType_int, isi_NoneType_bool, isi_NoneType_str, isi_NoneType_list, isi_NoneType_tuple, isi_NoneType_dict, isi_bool_int, isi_bool_bool, isi_bool_str, isi_bool_list, isi_bool_tuple, isi_bool_dict, isi_int_int, isi_int_bool, isi_int_str, isi_int_list, isi_int_tuple, isi_int_dict, isi_str_int, isi_str_bool, isi_str_str, isi_str_list, isi_str_tuple, isi_str_dict, isi_tuple_int, isi_tuple_bool, isi_tuple_str, isi_tuple_list, isi_tuple_tuple, isi_tuple_dict, isi_list_int, isi_list_bool, isi_list_str, isi_list_list, isi_list_tuple, isi_list_dict, isi_dict_int, isi_dict_bool, isi_dict_str, isi_dict_list, isi_dict_tuple, isi_dict_dict, decide_true, decide_false, Bool.not_true, Bool.not_false, Bool.not_eq_true', decide_eq_false_iff_not, ite_not, natP, swP, natsP, intsP, atI_0, atI_1, atI_2, atI_3, wLcU2, wLcV2, wTupZip, wZipN, wStep, wRev, wMaxD, wMinD, rInW_ints, rEqW_ii, rEqW_bb, rEqW_ss, rIsW_n, rIsW_bb, rAddW_ii, rAddW_ss, rAddW_tt, rIW_ii, rI0W_ii, rMulW_ii, rMulW_ti, rIntW_i, rIntW_b, rMax2W_ii, rMin2W_ii]
    refine ⟨(N, i), rfl, ⟨by dsimp only; omega, by dsimp only; rw [n2ordL ok]; omega⟩, fun k1 => ?_⟩
    dsimp only
    have lf : ∀ (M : Net) (u : Nat), M.Ok → (fwdN M u).length ≤ 16 := fun M u oM => by
      rw [n3_is _ oM]
      have := List.length_filter_le (fun j => reachB M.sw (only u) (M.ord.getD j 0)) (List.range M.w)
      rw [List.length_range] at this
      have := oM.w16
      omega
    refine ⟨false, _, seqW_ref (two_get1 _ _ _), ?_⟩
    obtain ⟨src, hsrc⟩ : ∃ src, src = (S ++ G ++ [Ob.lst []]).length + 1 := ⟨_, rfl⟩
    have gs : (S ++ G ++ [Ob.lst []] ++ [Ob.dct k1, Ob.lst ((fwdN N i).map natP)])[src]? = some (.lst ((fwdN N i).map natP)) := by rw [hsrc]; exact two_get1 _ _ _
    have gd : (S ++ G ++ [Ob.lst []] ++ [Ob.dct k1, Ob.lst ((fwdN N i).map natP)])[(S ++ G).length]? = some (.lst []) := get_app (get_new1 _ _)
    rw [← hsrc]
    generalize (S ++ G).length = d0 at gd ⊢
    refine loop_map (fun k τ' S' => (∃ x9 d, τ' = [some (PV.ref j), some (netP N), some (netP O), some (PV.ref S.length), none, some (netP L), some (netP (behN N L)), some (PV.int i), some (PV.ref d), x9] ∧
        ∃ ds : List Nat, S'[d]? = some (.lst (ds.map natP)) ∧ ds = ((fwdN N i).take k).flatMap (fwdN L) ∧ ds.length ≤ 16 * k) ∧ S'[src]? = some (.lst ((fwdN N i).map natP)) ∧ ∃ G, S' = S ++ G)
      ⟨⟨_, d0, rfl, [], gd, by simp, by simp⟩, gs, _, by rw [List.append_assoc, List.append_assoc]⟩ ?_ ?_
    · rintro k u τ' S' R2 hk ⟨⟨x9, d, rfl, ds, hd, eds, lds⟩, hs, G2, rfl⟩ hR2
      have hkl := (List.getElem?_eq_some_iff.mp hk).1
      have l16 := lf N i ok
      refine ⟨seqW_ref hs, ?_⟩
      simp only [wSeq, wAsg, wRet, wRetN, wDrop, wIfS, wVar, wC, wOp, wCall, wCons, wNil, wTup, wTest, wAnd, wOr, wNot, wAndV, wOrV, wNotV, wIf, wNext, wgName, wgTup, wgCons, wgNil, wFor, wSq, wYes, wLcU, wLcV, wLc, uTuple, uAll, uAny, uSum, wNeg, wSl, wPart, wNoPart, rSlW_tup, isNonP, seqW_tup, wLst, wipeW, wPar, wPut, wAug, wZip, wEnum, wRng1, wRng2, wChain, List.getElem?_cons_zero, List.getElem?_cons_succ, List.set_cons_zero, List.set_cons_succ, Option.some.injEq, exists_eq_left', exists_eq_left, exists_and_left, exists_eq_right, exists_eq_right', and_assoc, true_and, and_true, List.cons.injEq, and_self, if_true, if_false, Bool.false_eq_true, PV.int.injEq, PV.bl.injEq, PV.tup.injEq, PV.ref.injEq, PV.str.injEq, Bool.false_xor, Bool.true_xor, List.length_cons, List.length_nil, Nat.reduceAdd, Nat.reduceLeDiff, Nat.reduceEqDiff, Prod.mk.injEq, cutP_map, cutP_0, cutP_1, cutP_2, cutP_all, decide_eq_true_eq, startW, endsW, List.map_cons, List.map_nil, List.cons_append, List.nil_append, List.replicate, Nat.reduceSub, rIxW_tup, rLenW_tup, rListW_tup, wMeth, wRngL, wRngT, rIsiW_eq, tyP_non, tyP_bl, tyP_int, tyP_str, tyP_tup, isi_NoneType_int, isi_NoneType_bool, isi_NoneType_str, isi_NoneType_list, isi_NoneType_tuple, isi_NoneType_dict, isi_bool_int, isi_bool_bool, isi_bool_str, isi_bool_list, isi_bool_tuple, isi_bool_dict, isi_int_int, isi_int_bool, isi_int_str, isi_int_list, isi_int_tuple, isi_int_dict, isi_str_int, isi_str_bool, isi_str_str, isi_str_list, isi_str_tuple, isi_str_dict, isi_tuple_int, isi_tuple_bool, isi_tuple_str, isi_tuple_list, isi_tuple_tuple, isi_tuple_dict, isi_list_int, isi_list_bool, isi_list_str, isi_list_list, isi_list_tuple, isi_list_dict, isi_dict_int, isi_dict_bool, isi_dict_str, isi_dict_list, isi_dict_tuple, isi_dict_dict, decide_true, decide_false, Bool.not_true, Bool.not_false, Bool.not_eq_true', decide_eq_false_iff_not, ite_not, natP, swP, natsP, intsP, atI_0, atI_1, atI_2, atI_3, wLcU2, wLcV2, wTupZip, wZipN, wStep, wRev, wMaxD, wMinD, rInW_ints, rEqW_ii, rEqW_bb, rEqW_ss, rIsW_n, rIsW_bb, rAddW_ii, rAddW_ss, rAddW_tt, rIW_ii, rI0W_ii, rMulW_ii, rMulW_ti, rIntW_i, rIntW_b, rMax2W_ii, rMin2W_ii]
      refine ⟨(L, u), rfl, ⟨by dsimp only; omega, by dsimp only; rw [n2ordL okL]; omega⟩, fun k2 => ?_⟩
      dsimp only
      have l17 := lf L u okL
      rw [rAddW_ll (get_app hd) (two_get1 _ _ _)]
      refine ⟨by rw [List.length_map, List.length_map]; omega, ?_⟩
      rw [← List.map_append]
      refine hR2 _ _ ⟨⟨_, _, rfl, ds ++ fwdN L u, get_new1 _ _, ?_, by rw [List.length_append]; omega⟩, get_app (get_app hs), _, by rw [List.append_assoc, List.append_assoc]⟩
      rw [List.take_succ, hk, List.flatMap_append, ← eds]
      simp
    · rintro τ' S' ⟨⟨x9, d, rfl, ds, hd, eds, lds⟩, hs, G2, rfl⟩
      have l16 := lf N i ok
      refine ⟨seqW_ref hs, ?_⟩
      rw [List.take_length] at eds
      simp only [wSeq, wAsg, wRet, wRetN, wDrop, wIfS, wVar, wC, wOp, wCall, wCons, wNil, wTup, wTest, wAnd, wOr, wNot, wAndV, wOrV, wNotV, wIf, wNext, wgName, wgTup, wgCons, wgNil, wFor, wSq, wYes, wLcU, wLcV, wLc, uTuple, uAll, uAny, uSum, wNeg, wSl, wPart, wNoPart, rSlW_tup, isNonP, seqW_tup, wLst, wipeW, wPar, wPut, wAug, wZip, wEnum, wRng1, wRng2, wChain, List.getElem?_cons_zero, List.getElem?_cons_succ, List.set_cons_zero, List.set_cons_succ, Option.some.injEq, exists_eq_left', exists_eq_left, exists_and_left, exists_eq_right, exists_eq_right', and_assoc, true_and, and_true, List.cons.injEq, and_self, if_true, if_false, Bool.false_eq_true, PV.int.injEq, PV.bl.injEq, PV.tup.injEq, PV.ref.injEq, PV.str.injEq, Bool.false_xor, Bool.true_xor, List.length_cons, List.length_nil, Nat.reduceAdd, Nat.reduceLeDiff, Nat.reduceEqDiff, Prod.mk.injEq, cutP_map, cutP_0, cutP_1, cutP_2, cutP_all, decide_eq_true_eq, startW, endsW, List.map_cons, List.map_nil, List.cons_append, List.nil_append, List.replicate, Nat.reduceSub, rIxW_tup, rLenW_tup, rListW_tup, wMeth, wRngL, wRngT, rIsiW_eq, tyP_non, tyP_bl, tyP_int, tyP_str, tyP_tup, isi_NoneType_int, isi_NoneType_bool, isi_NoneType_str, isi_NoneType_list, isi_NoneType_tuple, isi_NoneType_dict, isi_bool_int, isi_bool_bool, isi_bool_str, isi_bool_list, isi_bool_tuple, isi_bool_dict, isi_int_int, isi_int_bool, isi_int_str, isi_int_list, isi_int_tuple, isi_int_dict, isi_str_int, isi_str_bool, isi_str_str, isi_str_list, isi_str_tuple, isi_str_dict, isi_tuple_int, isi_tuple_bool, isi_tuple_str, isi_tuple_list, isi_tuple_tuple, isi_tuple_dict, isi_list_int, isi_list_bool, isi_list_str, isi_list_list, isi_list_tuple, isi_list_dict, isi_dict_int, isi_dict_bool, isi_dict_str, isi_dict_list, isi_dict_tuple, isi_dict_dict, decide_true, decide_false, Bool.not_true, Bool.not_false, Bool.not_eq_true', decide_eq_false_iff_not, ite_not, natP, swP, natsP, intsP, atI_0, atI_1, atI_2, atI_3, wLcU2, wLcV2, wTupZip, wZipN, wStep, wRev, wMaxD, wMinD, rInW_ints, rEqW_ii, rEqW_bb, rEqW_ss, rIsW_n, rIsW_bb, rAddW_ii, rAddW_ss, rAddW_tt, rIW_ii, rI0W_ii, rMulW_ii, rMulW_ti, rIntW_i, rIntW_b, rMax2W_ii, rMin2W_ii, wSortedSet]
      refine ⟨(behN N L, i), rfl, ⟨by dsimp only; omega, by dsimp only; rw [n2ordL okB]; exact Nat.le_trans okB.w16 (by decide)⟩, fun k2 => ?_⟩
      dsimp only
      refine ⟨ds.map fun k : Nat => (k : Int), by rw [seqW_ref (get_app hd), List.map_map]; rfl, by rw [List.length_map]; omega, fun out o1 o2 => ?_⟩
      have eo : out = (fwdN (behN N L) i).map fun k : Nat => (k : Int) := by
        refine sorted_ext o1 (fwd_up _ _) fun y => ?_
        rw [o2, List.mem_map, List.mem_map]
        constructor
        · rintro ⟨x, hx, rfl⟩
          rw [eds] at hx
          obtain ⟨z, hz1, hz2⟩ := List.mem_flatMap.mp hx
          exact ⟨x, (fwd_beh ok okL wL i x).mpr ⟨z, hz1, hz2⟩, rfl⟩
        · rintro ⟨x, hx, rfl⟩
          obtain ⟨z, hz1, hz2⟩ := (fwd_beh ok okL wL i x).mp hx
          exact ⟨x, by rw [eds]; exact List.mem_flatMap.mpr ⟨z, hz1, hz2⟩, rfl⟩
      have em : out.map PV.int = (fwdN (behN N L) i).map natP := by rw [eo, List.map_map]; rfl
      rw [em]
      refine ends_eq (get_app (two_get1 _ _ _)) (get_new1 _ _) rfl ⟨_, rfl, ?_⟩
      rw [if_neg (by decide)]
      exact hR _ _ ⟨⟨_, _, _, rfl⟩, _, by rw [List.append_assoc, List.append_assoc]⟩
  · rintro τ' S' ⟨⟨x7, x8, x9, rfl⟩, G, rfl⟩
    simp only [wSeq, wAsg, wRet, wRetN, wDrop, wIfS, wVar, wC, wOp, wCall, wCons, wNil, wTup, wTest, wAnd, wOr, wNot, wAndV, wOrV, wNotV, wIf, wNext, wgName, wgTup, wgCons, wgNil, wFor, wSq, wYes, wLcU, wLcV, wLc, uTuple, uAll, uAny, uSum, wNeg, wSl, wPart, wNoPart, rSlW_tup, isNonP, seqW_tup, wLst, wipeW, wPar, wPut, wAug, wZip, wEnum, wRng1, wRng2, wChain, List.getElem?_cons_zero, List.getElem?_cons_succ, List.set_cons_zero, List.set_cons_succ, Option.some.injEq, exists_eq_left', exists_eq_left, exists_and_left, exists_eq_right, exists_eq_right', and_assoc, true_and, and_true, List.cons.injEq, and_self, if_true, if_false, Bool.false_eq_true, PV.int.injEq, PV.bl.injEq, PV.tup.injEq, PV.ref.injEq, PV.str.injEq, Bool.false_xor, Bool.true_xor, List.length_cons, List.length_nil, Nat.reduceAdd, Nat.reduceLeDiff, Nat.reduceEqDiff, Prod.mk.injEq, cutP_map, cutP_0, cutP_1, cutP_2, cutP_all, decide_eq_true_eq, startW, endsW, List.map_cons, List.map_nil, List.cons_append, List.nil_append, List.replicate, Nat.reduceSub, rIxW_tup, rLenW_tup, rListW_tup, wMeth, wRngL, wRngT, rIsiW_eq, tyP_non, tyP_bl, tyP_int, tyP_str, tyP_tup, isi_NoneType_int, isi_NoneType_bool, isi_NoneType_str, isi_NoneType_list, isi_NoneType_tuple, isi_NoneType_dict, isi_bool_int, isi_bool_bool, isi_bool_str, isi_bool_list, isi_bool_tuple, isi_bool_dict, isi_int_int, isi_int_bool, isi_int_str, isi_int_list, isi_int_tuple, isi_int_dict, isi_str_int, isi_str_bool, isi_str_str, isi_str_list, isi_str_tuple, isi_str_dict, isi_tuple_int, isi_tuple_bool, isi_tuple_str, isi_tuple_list, isi_tuple_tuple, isi_tuple_dict, isi_list_int, isi_list_bool, isi_list_str, isi_list_list, isi_list_tuple, isi_list_dict, isi_dict_int, isi_dict_bool, isi_dict_str, isi_dict_list, isi_dict_tuple, isi_dict_dict, decide_true, decide_false, Bool.not_true, Bool.not_false, Bool.not_eq_true', decide_eq_false_iff_not, ite_not, natP, swP, natsP, intsP, atI_0, atI_1, atI_2, atI_3, wLcU2, wLcV2, wTupZip, wZipN, wStep, wRev, wMaxD, wMinD, rInW_ints, rEqW_ii, rEqW_bb, rEqW_ss, rIsW_n, rIsW_bb, rAddW_ii, rAddW_ss, rAddW_tt, rIW_ii, rI0W_ii, rMulW_ii, rMulW_ti, rIntW_i, rIntW_b, rMax2W_ii, rMin2W_ii]
    obtain ⟨d1, d2⟩ := n2dp_beh ok okL wL
    have d3 : dpM N.sw N.sw.length ≤ dpM (behN N L).sw (behN N L).sw.length := by
      have e := dp_mono (behN N L).sw N.sw.length L.sw.length
      rw [← lBN] at e
      have e2 : dpM (behN N L).sw N.sw.length = dpM N.sw N.sw.length := dp_l (A := N.sw) (C := (renN L N.ord).sw) N.sw.length (Nat.le_refl _)
      omega
    refine ⟨N, rfl, n2dep ok (by omega), L, rfl, n2dep okL (by omega), ?_⟩
    simp only [wSeq, wAsg, wRet, wRetN, wDrop, wIfS, wVar, wC, wOp, wCall, wCons, wNil, wTup, wTest, wAnd, wOr, wNot, wAndV, wOrV, wNotV, wIf, wNext, wgName, wgTup, wgCons, wgNil, wFor, wSq, wYes, wLcU, wLcV, wLc, uTuple, uAll, uAny, uSum, wNeg, wSl, wPart, wNoPart, rSlW_tup, isNonP, seqW_tup, wLst, wipeW, wPar, wPut, wAug, wZip, wEnum, wRng1, wRng2, wChain, List.getElem?_cons_zero, List.getElem?_cons_succ, List.set_cons_zero, List.set_cons_succ, Option.some.injEq, exists_eq_left', exists_eq_left, exists_and_left, exists_eq_right, exists_eq_right', and_assoc, true_and, and_true, List.cons.injEq, and_self, if_true, if_false, Bool.false_eq_true, PV.int.injEq, PV.bl.injEq, PV.tup.injEq, PV.ref.injEq, PV.str.injEq, Bool.false_xor, Bool.true_xor, List.length_cons, List.length_nil, Nat.reduceAdd, Nat.reduceLeDiff, Nat.reduceEqDiff, Prod.mk.injEq, cutP_map, cutP_0, cutP_1, cutP_2, cutP_all, decide_eq_true_eq, startW, endsW, List.map_cons, List.map_nil, List.cons_append, List.nil_append, List.replicate, Nat.reduceSub, rIxW_tup, rLenW_tup, rListW_tup, wMeth, wRngL, wRngT, rIsiW_eq, tyP_non, tyP_bl, tyP_int, tyP_str, tyP_tup, isi_NoneType_int, isi_NoneType_bool, isi_NoneType_str, isi_NoneType_list, isi_NoneType_tuple, isi_NoneType_dict, isi_bool_int, isi_bool_bool, isi_bool_str, isi_bool_list, isi_bool_tuple, isi_bool_dict, isi_int_int, isi_int_bool, isi_int_str, isi_int_list, isi_int_tuple, isi_int_dict, isi_str_int, isi_str_bool, isi_str_str, isi_str_list, isi_str_tuple, isi_str_dict, isi_tuple_int, isi_tuple_bool, isi_tuple_str, isi_tuple_list, isi_tuple_tuple, isi_tuple_dict, isi_list_int, isi_list_bool, isi_list_str, isi_list_list, isi_list_tuple, isi_list_dict, isi_dict_int, isi_dict_bool, isi_dict_str, isi_dict_list, isi_dict_tuple, isi_dict_dict, decide_true, decide_false, Bool.not_true, Bool.not_false, Bool.not_eq_true', decide_eq_false_iff_not, ite_not, natP, swP, natsP, intsP, atI_0, atI_1, atI_2, atI_3, wLcU2, wLcV2, wTupZip, wZipN, wStep, wRev, wMaxD, wMinD, rInW_ints, rEqW_ii, rEqW_bb, rEqW_ss, rIsW_n, rIsW_bb, rAddW_ii, rAddW_ss, rAddW_tt, rIW_ii, rI0W_ii, rMulW_ii, rMulW_ti, rIntW_i, rIntW_b, rMax2W_ii, rMin2W_ii]
    refine ⟨behN N L, rfl, n2dep okB (by omega), ?_⟩
    simp only [wSeq, wAsg, wRet, wRetN, wDrop, wIfS, wVar, wC, wOp, wCall, wCons, wNil, wTup, wTest, wAnd, wOr, wNot, wAndV, wOrV, wNotV, wIf, wNext, wgName, wgTup, wgCons, wgNil, wFor, wSq, wYes, wLcU, wLcV, wLc, uTuple, uAll, uAny, uSum, wNeg, wSl, wPart, wNoPart, rSlW_tup, isNonP, seqW_tup, wLst, wipeW, wPar, wPut, wAug, wZip, wEnum, wRng1, wRng2, wChain, List.getElem?_cons_zero, List.getElem?_cons_succ, List.set_cons_zero, List.set_cons_succ, Option.some.injEq, exists_eq_left', exists_eq_left, exists_and_left, exists_eq_right, exists_eq_right', and_assoc, true_and, and_true, List.cons.injEq, and_self, if_true, if_false, Bool.false_eq_true, PV.int.injEq, PV.bl.injEq, PV.tup.injEq, PV.ref.injEq, PV.str.injEq, Bool.false_xor, Bool.true_xor, List.length_cons, List.length_nil, Nat.reduceAdd, Nat.reduceLeDiff, Nat.reduceEqDiff, Prod.mk.injEq, cutP_map, cutP_0, cutP_1, cutP_2, cutP_all, decide_eq_true_eq, startW, endsW, List.map_cons, List.map_nil, List.cons_append, List.nil_append, List.replicate, Nat.reduceSub, rIxW_tup, rLenW_tup, rListW_tup, wMeth, wRngL, wRngT, rIsiW_eq, tyP_non, tyP_bl, tyP_int, tyP_str, tyP_tup, isi_NoneType_int, isi_NoneType_bool, isi_NoneType_str, isi_NoneType_list, isi_NoneType_tuple, isi_NoneType_dict, isi_bool_int, isi_bool_bool, isi_bool_str, isi_bool_list, isi_bool_tuple, isi_bool_dict, isi_int_int, isi_int_bool, isi_int_str, isi_int_list, isi_int_tuple, isi_int_dict, isi_str_int, isi_str_bool, isi_str_str, isi_str_list, isi_str_tuple, isi_str_dict, isi_tuple_int, isi_tuple_bool, isi_tuple_str, isi_tuple_list, isi_tuple_tuple, isi_tuple_dict, isi_list_int, isi_list_bool, isi_list_str, isi_list_list, isi_list_tuple, isi_list_dict, isi_dict_int, isi_dict_bool, isi_dict_str, isi_dict_list, isi_dict_tuple, isi_dict_dict, decide_true, decide_false, Bool.not_true, Bool.not_false, Bool.not_eq_true', decide_eq_false_iff_not, ite_not, natP, swP, natsP, intsP, atI_0, atI_1, atI_2, atI_3, wLcU2, wLcV2, wTupZip, wZipN, wStep, wRev, wMaxD, wMinD, rInW_ints, rEqW_ii, rEqW_bb, rEqW_ss, rIsW_n, rIsW_bb, rAddW_ii, rAddW_ss, rAddW_tt, rIW_ii, rI0W_ii, rMulW_ii, rMulW_ti, rIntW_i, rIntW_b, rMax2W_ii, rMin2W_ii]
    rw [if_pos (by split <;> omega)]
    refine ⟨N, rfl, n2dep ok (by omega), L, rfl, n2dep okL (by omega), ?_⟩
    simp only [wSeq, wAsg, wRet, wRetN, wDrop, wIfS, wVar, wC, wOp, wCall, wCons, wNil, wTup, wTest, wAnd, wOr, wNot, wAndV, wOrV, wNotV, wIf, wNext, wgName, wgTup, wgCons, wgNil, wFor, wSq, wYes, wLcU, wLcV, wLc, uTuple, uAll, uAny, uSum, wNeg, wSl, wPart, wNoPart, rSlW_tup, isNonP, seqW_tup, wLst, wipeW, wPar, wPut, wAug, wZip, wEnum, wRng1, wRng2, wChain, List.getElem?_cons_zero, List.getElem?_cons_succ, List.set_cons_zero, List.set_cons_succ, Option.some.injEq, exists_eq_left', exists_eq_left, exists_and_left, exists_eq_right, exists_eq_right', and_assoc, true_and, and_true, List.cons.injEq, and_self, if_true, if_false, Bool.false_eq_true, PV.int.injEq, PV.bl.injEq, PV.tup.injEq, PV.ref.injEq, PV.str.injEq, Bool.false_xor, Bool.true_xor, List.length_cons, List.length_nil, Nat.reduceAdd, Nat.reduceLeDiff, Nat.reduceEqDiff, Prod.mk.injEq, cutP_map, cutP_0, cutP_1, cutP_2, cutP_all, decide_eq_true_eq, startW, endsW, List.map_cons, List.map_nil, List.cons_append, List.nil_append, List.replicate, Nat.reduceSub, rIxW_tup, rLenW_tup, rListW_tup, wMeth, wRngL, wRngT, rIsiW_eq, tyP_non, tyP_bl, tyP_int, tyP_str, tyP_tup, isi_NoneType_int, isi_NoneType_bool, isi_NoneType_str, isi_NoneType_list, isi_NoneType_tuple, isi_NoneType_dict, isi_bool_int, isi_bool_bool, isi_bool_str, isi_bool_list, isi_bool_tuple, isi_bool_dict, isi_int_int, isi_int_bool, isi_int_str, isi_int_list, isi_int_tuple, isi_int_dict, isi_str_int, isi_str_bool, isi_str_str, isi_str_list, isi_str_tuple, isi_str_dict, isi_tuple_int, isi_tuple_bool, isi_tuple_str, isi_tuple_list, isi_tuple_tuple, isi_tuple_dict, isi_list_int, isi_list_bool, isi_list_str, isi_list_list, isi_list_tuple, isi_list_dict, isi_dict_int, isi_dict_bool, isi_dict_str, isi_dict_list, isi_dict_tuple, isi_dict_dict, decide_true, decide_false, Bool.not_true, Bool.not_false, Bool.not_eq_true', decide_eq_false_iff_not, ite_not, natP, swP, natsP, intsP, atI_0, atI_1, atI_2, atI_3, wLcU2, wLcV2, wTupZip, wZipN, wStep, wRev, wMaxD, wMinD, rInW_ints, rEqW_ii, rEqW_bb, rEqW_ss, rIsW_n, rIsW_bb, rAddW_ii, rAddW_ss, rAddW_tt, rIW_ii, rI0W_ii, rMulW_ii, rMulW_ti, rIntW_i, rIntW_b, rMax2W_ii, rMin2W_ii]
    rw [decide_eq_true (by omega)]
    exact fg_drop hcl cl_bl h
end
end L4
set_option Elab.async false
set_option linter.all false
set_option maxRecDepth 100000
namespace L4
open PySem PySem.Spec PyProof.Rows L2 L3
section
variable {P : Program} {w : World} {K : PySem.W.Frag} {mg : Str → Option Value} {base : Heap}
abbrev s_law : Stmt := top 25
theorem sc_law : FnScope ["script", "jar", "turn", "one", "other"] ["script"] (defScope s_law) := ⟨rfl, rfl, rfl, by decide +kernel, rfl, by decide +kernel, by decide +kernel⟩
set_option maxHeartbeats 1000000 in
theorem ok_law {f : Addr} {fd : FuncData} (F : Fun K "law" "law" s_law f fd) (T : Tn mg) (D_law_behind_right : DefW Ts P w K mg base "_law_behind_right" 4 ["jar", "one", "other"] wBehR) (D_law_beside_right : DefW Ts P w K mg base "_law_beside_right" 3 ["one", "other"] wBesR) (D_law_named_right : DefW Ts P w K mg base "_law_named_right" 4 ["jar", "net"] wNamedR) (D_law_net : DefW Ts P w K mg base "_law_net" 4 ["jar", "widest", "most"] wNet) (D_law_jar : DefW Ts P w K mg base "_law_jar" 2 ["script"] wJar) : FnOk P w K mg base CX0 5 f fd ["script"] (spW Ts K wLaw) := by
  refine ok_body (k := 4) F sc_law (fun pvs S Q h => by obtain ⟨a, rfl, _⟩ := h; rfl) (fun cdv A outer s H E hr => ?_)
  have hu := hu_of hr
  refine ⟨_, (sss_cons (ss_set (i := 1) sc_law.nd rfl (by first | exact Or.inl rfl | exact Or.inr rfl) (se_def D_law_jar (hr.mono (by first | decide | omega)) (by rfl) (sa_cons (sv 0) sa_nil)))
      (sss_cons (ss_for (vs := [2]) PassesOwn.never rfl (si_range1 (by rfl) T.range_ (sa_cons se_int sa_nil)) (pg_name (i := 2) sc_law.nd rfl (by first | exact Or.inl rfl | exact Or.inr rfl)) (gr_name (i := 2) (by decide)) (mg_name _) (sss_cons (ss_set (i := 3) sc_law.nd rfl (by first | exact Or.inl rfl | exact Or.inr rfl) (se_def D_law_net (hr.mono (by first | decide | omega)) (by rfl) (sa_cons (sv 1) (sa_cons se_int (sa_cons (se_ix hu (se_lst (sa_cons se_int (sa_cons se_int sa_nil))) (sv 2) (fun _ _ => rfl)) sa_nil)))))
      (sss_cons (ss_set (i := 4) sc_law.nd rfl (by first | exact Or.inl rfl | exact Or.inr rfl) (se_def D_law_net (hr.mono (by first | decide | omega)) (by rfl) (sa_cons (sv 1) (sa_cons se_int (sa_cons (se_ix hu (se_lst (sa_cons se_int (sa_cons se_int sa_nil))) (sv 2) (fun _ _ => rfl)) sa_nil)))))
      (sss_cons (ss_if (SW.st (sw_or (st_not (st_val (se_def D_law_named_right (hr.mono (by first | decide | omega)) (by rfl) (sa_cons (sv 1) (sa_cons (sv 3) sa_nil))))) (sw_or1 (st_not (st_val (se_def D_law_beside_right (hr.mono (by first | decide | omega)) (by rfl) (sa_cons (sv 3) (sa_cons (sv 4) sa_nil)))))))) (sss_one (ss_ret se_bl)) sss_nil)
      (sss_one (ss_if (SW.st (sw_or (st_not (st_val (se_def D_law_beside_right (hr.mono (by first | decide | omega)) (by rfl) (sa_cons (sv 3) (sa_cons (sv 3) sa_nil))))) (sw_or1 (st_not (st_val (se_def D_law_behind_right (hr.mono (by first | decide | omega)) (by rfl) (sa_cons (sv 1) (sa_cons (sv 3) (sa_cons (sv 4) sa_nil))))))))) (sss_one (ss_ret se_bl)) sss_nil))))))
      (sss_one (ss_ret se_bl)))), fun pvs S Q hcl hca h => ?_⟩
  obtain ⟨ns, rfl, hl, rfl, h⟩ := h
  simp only [wSeq, wAsg, wRet, wRetN, wDrop, wIfS, wVar, wC, wOp, wCall, wCons, wNil, wTup, wTest, wAnd, wOr, wNot, wAndV, wOrV, wNotV, wIf, wNext, wgName, wgTup, wgCons, wgNil, wFor, wSq, wYes, wLcU, wLcV, wLc, uTuple, uAll, uAny, uSum, wNeg, wSl, wPart, wNoPart, rSlW_tup, isNonP, seqW_tup, wLst, wipeW, wPar, wPut, wAug, wZip, wEnum, wRng1, wRng2, wChain, List.getElem?_cons_zero, List.getElem?_cons_succ, List.set_cons_zero, List.set_cons_succ, Option.some.injEq, exists_eq_left', exists_eq_left, exists_and_left, exists_eq_right, exists_eq_right', and_assoc, true_and, and_true, List.cons.injEq, and_self, if_true, if_false, Bool.false_eq_true, PV.int.injEq, PV.bl.injEq, PV.tup.injEq, PV.ref.injEq, PV.str.injEq, Bool.false_xor, Bool.true_xor, List.length_cons, List.length_nil, Nat.reduceAdd, Nat.reduceLeDiff, Nat.reduceEqDiff, Prod.mk.injEq, cutP_map, cutP_0, cutP_1, cutP_2, cutP_all, decide_eq_true_eq, startW, endsW, List.map_cons, List.map_nil, List.cons_append, List.nil_append, List.replicate, Nat.reduceSub, rIxW_tup, rLenW_tup, rListW_tup, wMeth, wRngL, wRngT, rIsiW_eq, tyP_non, tyP_bl, tyP_int, tyP_str, tyP_tup, isi_NoneType_int, isi_NoneType_bool, isi_NoneType_str, isi_NoneType_list, isi_NoneType_tuple, isi_NoneType_dict, isi_bool_int, isi_bool_bool, isi_bool_str, isi_bool_list, isi_bool_tuple, isi_bool_dict, isi_int_int, isi_int_bool, isi_int_str, isi_int_list, isi_int_tuple, isi_int_dict, isi_str_int, isi_str_bool, isi_str_str, isi_str_list, isi_str_tuple, isi_str_dict, isi_tuple_int, isi_tuple_bool, isi_tuple_str, isi_tuple_list, isi_tuple_tuple, isi_tuple_dict, isi_list_int, isi_list_bool, isi_list_str, isi_list_list, isi_list_tuple, isi_list_dict, isi_dict_int, isi_dict_bool, isi_dict_str, isi_dict_list, isi_dict_tuple, isi_dict_dict, decide_true, decide_false, Bool.not_true, Bool.not_false, Bool.not_eq_true', decide_eq_false_iff_not, ite_not, natP, swP, natsP, intsP, atI_0, atI_1, atI_2, atI_3, wLcU2, wLcV2, wTupZip, wZipN, wStep, wRev, wMaxD, wMinD, rInW_ints, rEqW_ii, rEqW_bb, rEqW_ss, rIsW_n, rIsW_bb, rAddW_ii, rAddW_ss, rAddW_tt, rIW_ii, rI0W_ii, rMulW_ii, rMulW_ti, rIntW_i, rIntW_b, rMax2W_ii, rMin2W_ii]
  refine ⟨ns, rfl, by decide, by decide, ?_⟩
  show wLoop _ _ _ (rngP 0 2) _ _ _
  refine loop_rng (fun _ => trivial) (fun i τ' S' => S'[0]? = some .jar ∧ ∃ x2 x3 x4, τ' = [some (PV.scr ns), some (PV.ref 0), x2, x3, x4]) ⟨rfl, none, none, none, rfl⟩ ?_ ?_
  · rintro i τ' S R hi ⟨hj, x2, x3, x4, rfl⟩ hR
    simp only [wSeq, wAsg, wRet, wRetN, wDrop, wIfS, wVar, wC, wOp, wCall, wCons, wNil, wTup, wTest, wAnd, wOr, wNot, wAndV, wOrV, wNotV, wIf, wNext, wgName, wgTup, wgCons, wgNil, wFor, wSq, wYes, wLcU, wLcV, wLc, uTuple, uAll, uAny, uSum, wNeg, wSl, wPart, wNoPart, rSlW_tup, isNonP, seqW_tup, wLst, wipeW, wPar, wPut, wAug, wZip, wEnum, wRng1, wRng2, wChain, List.getElem?_cons_zero, List.getElem?_cons_succ, List.set_cons_zero, List.set_cons_succ, Option.some.injEq, exists_eq_left', exists_eq_left, exists_and_left, exists_eq_right, exists_eq_right', and_assoc, true_and, and_true, List.cons.injEq, and_self, if_true, if_false, Bool.false_eq_true, PV.int.injEq, PV.bl.injEq, PV.tup.injEq, PV.ref.injEq, PV.str.injEq, Bool.false_xor, Bool.true_xor, List.length_cons, List.length_nil, Nat.reduceAdd, Nat.reduceLeDiff, Nat.reduceEqDiff, Prod.mk.injEq, cutP_map, cutP_0, cutP_1, cutP_2, cutP_all, decide_eq_true_eq, startW, endsW, List.map_cons, List.map_nil, List.cons_append, List.nil_append, List.replicate, Nat.reduceSub, rIxW_tup, rLenW_tup, rListW_tup, wMeth, wRngL, wRngT, rIsiW_eq, tyP_non, tyP_bl, tyP_int, tyP_str, tyP_tup, isi_NoneType_int, isi_NoneType_bool, isi_NoneType_str, isi_NoneType_list, isi_NoneType_tuple, isi_NoneType_dict, isi_bool_int, isi_bool_bool, isi_bool_str, isi_bool_list, isi_bool_tuple, isi_bool_dict, isi_int_int, isi_int_bool, isi_int_str, isi_int_list, isi_int_tuple, isi_int_dict, isi_str_int, isi_str_bool, isi_str_str, isi_str_list, isi_str_tuple, isi_str_dict, isi_tuple_int, isi_tuple_bool, isi_tuple_str, isi_tuple_list, isi_tuple_tuple, isi_tuple_dict, isi_list_int, isi_list_bool, isi_list_str, isi_list_list, isi_list_tuple, isi_list_dict, isi_dict_int, isi_dict_bool, isi_dict_str, isi_dict_list, isi_dict_tuple, isi_dict_dict, decide_true, decide_false, Bool.not_true, Bool.not_false, Bool.not_eq_true', decide_eq_false_iff_not, ite_not, natP, swP, natsP, intsP, atI_0, atI_1, atI_2, atI_3, wLcU2, wLcV2, wTupZip, wZipN, wStep, wRev, wMaxD, wMinD, rInW_ints, rEqW_ii, rEqW_bb, rEqW_ss, rIsW_n, rIsW_bb, rAddW_ii, rAddW_ss, rAddW_tt, rIW_ii, rI0W_ii, rMulW_ii, rMulW_ti, rIntW_i, rIntW_b, rMax2W_ii, rMin2W_ii, (rIxW_lst (get_new1 _ _))]
    obtain ⟨m, hm, hv⟩ : ∃ m : Nat, m ≤ 30 ∧ atI [PV.int 8, PV.int 30] (i : Int) = some (natP m) := by
      rcases (show i = 0 ∨ i = 1 by omega) with rfl | rfl
      · exact ⟨8, by decide, rfl⟩
      · exact ⟨30, by decide, rfl⟩
    refine ⟨_, hv, 0, 8, m, rfl, get_app hj, by decide, by decide, by omega, fun N ok hw hl => ⟨_, hv, 0, 8, m, rfl, get_app (get_app hj), by decide, by decide, by omega, fun O ok2 hw2 hl2 => ?_⟩⟩
    have hl3 : N.sw.length ≤ 30 := by omega
    have hl4 : O.sw.length ≤ 30 := by omega
    refine ⟨(0, N), rfl, ⟨get_app (get_app hj), ok, by dsimp only; omega⟩, _, rfl, ?_⟩
    rw [if_neg (by decide)]
    refine ⟨(N, O), rfl, ⟨ok, ok2, by dsimp only; omega, hl3, hl4⟩, _, rfl, ?_⟩
    rw [if_neg (by decide)]
    refine ⟨(N, N), rfl, ⟨ok, ok, by dsimp only; omega, hl3, hl3⟩, _, rfl, ?_⟩
    rw [if_neg (by decide)]
    refine ⟨(0, N, O), rfl, ⟨get_app (get_app hj), ok, ok2, hl3, hl4⟩, _, rfl, ?_⟩
    rw [if_neg (by decide)]
    exact hR _ _ ⟨get_app (get_app hj), _, _, _, rfl⟩
  · rintro τ' S' ⟨hj, x2, x3, x4, rfl⟩
    simp only [wSeq, wAsg, wRet, wRetN, wDrop, wIfS, wVar, wC, wOp, wCall, wCons, wNil, wTup, wTest, wAnd, wOr, wNot, wAndV, wOrV, wNotV, wIf, wNext, wgName, wgTup, wgCons, wgNil, wFor, wSq, wYes, wLcU, wLcV, wLc, uTuple, uAll, uAny, uSum, wNeg, wSl, wPart, wNoPart, rSlW_tup, isNonP, seqW_tup, wLst, wipeW, wPar, wPut, wAug, wZip, wEnum, wRng1, wRng2, wChain, List.getElem?_cons_zero, List.getElem?_cons_succ, List.set_cons_zero, List.set_cons_succ, Option.some.injEq, exists_eq_left', exists_eq_left, exists_and_left, exists_eq_right, exists_eq_right', and_assoc, true_and, and_true, List.cons.injEq, and_self, if_true, if_false, Bool.false_eq_true, PV.int.injEq, PV.bl.injEq, PV.tup.injEq, PV.ref.injEq, PV.str.injEq, Bool.false_xor, Bool.true_xor, List.length_cons, List.length_nil, Nat.reduceAdd, Nat.reduceLeDiff, Nat.reduceEqDiff, Prod.mk.injEq, cutP_map, cutP_0, cutP_1, cutP_2, cutP_all, decide_eq_true_eq, startW, endsW, List.map_cons, List.map_nil, List.cons_append, List.nil_append, List.replicate, Nat.reduceSub, rIxW_tup, rLenW_tup, rListW_tup, wMeth, wRngL, wRngT, rIsiW_eq, tyP_non, tyP_bl, tyP_int, tyP_str, tyP_tup, isi_NoneType_int, isi_NoneType_bool, isi_NoneType_str, isi_NoneType_list, isi_NoneType_tuple, isi_NoneType_dict, isi_bool_int, isi_bool_bool, isi_bool_str, isi_bool_list, isi_bool_tuple, isi_bool_dict, isi_int_int, isi_int_bool, isi_int_str, isi_int_list, isi_int_tuple, isi_int_dict, isi_str_int, isi_str_bool, isi_str_str, isi_str_list, isi_str_tuple, isi_str_dict, isi_tuple_int, isi_tuple_bool, isi_tuple_str, isi_tuple_list, isi_tuple_tuple, isi_tuple_dict, isi_list_int, isi_list_bool, isi_list_str, isi_list_list, isi_list_tuple, isi_list_dict, isi_dict_int, isi_dict_bool, isi_dict_str, isi_dict_list, isi_dict_tuple, isi_dict_dict, decide_true, decide_false, Bool.not_true, Bool.not_false, Bool.not_eq_true', decide_eq_false_iff_not, ite_not, natP, swP, natsP, intsP, atI_0, atI_1, atI_2, atI_3, wLcU2, wLcV2, wTupZip, wZipN, wStep, wRev, wMaxD, wMinD, rInW_ints, rEqW_ii, rEqW_bb, rEqW_ss, rIsW_n, rIsW_bb, rAddW_ii, rAddW_ss, rAddW_tt, rIW_ii, rI0W_ii, rMulW_ii, rMulW_ti, rIntW_i, rIntW_b, rMax2W_ii, rMin2W_ii]
    exact fg_here (h _)
end
end L4
set_option Elab.async false
set_option linter.all false
set_option maxRecDepth 100000
namespace L4
open PySem PySem.Spec PyProof.Rows L2 L3
set_option maxHeartbeats 0 in
theorem all_mk {l : PySem.W.OpenLaw} {q : Program} {w : World} {K : PySem.W.Frag} {h : Heap} {mg : Str → Option Value} {fa : Addr} {f0 f1 f2 f3 f4 f5 f6 f7 f8 f9 f10 f11 f12 f13 f14 f15 f16 f17 : Addr} (X : K.In h) (G : h.Ns mainGlobals mg) (hfa : mg "law" = some (.ref fa))
    (tabs : ∀ d ∈ recsOf q, ∃ a o fd c P, mg d.name = some (.ref a) ∧ h.get? a = some o ∧ o.data = .func fd ∧ fd.code = .ref c ∧ h.IsCode c P #[] ∧ h.TableAt c P #[])
    {od0 an0 od1 an1 od2 an2 od3 an3 od4 an4 od5 an5 od6 an6 od7 an7 od8 an8 od9 an9 od10 an10 od11 an11 od12 an12 od13 an13 od14 an14 od15 an15 od16 an16 od17 an17 : Option Addr} {sl0 sl1 sl2 sl3 sl4 sl5 sl6 sl7 sl8 sl9 sl10 sl11 sl12 sl13 sl14 sl15 sl16 sl17 : Array (Option Value)} {oc0 kV0 dc0 pm0 cd0 ct0 oc1 kV1 dc1 pm1 cd1 ct1 oc2 kV2 dc2 pm2 cd2 ct2 oc3 kV3 dc3 pm3 cd3 ct3 oc4 kV4 dc4 pm4 cd4 ct4 oc5 kV5 dc5 pm5 cd5 ct5 oc6 kV6 dc6 pm6 cd6 ct6 oc7 kV7 dc7 pm7 cd7 ct7 oc8 kV8 dc8 pm8 cd8 ct8 oc9 kV9 dc9 pm9 cd9 ct9 oc10 kV10 dc10 pm10 cd10 ct10 oc11 kV11 dc11 pm11 cd11 ct11 oc12 kV12 dc12 pm12 cd12 ct12 oc13 kV13 dc13 pm13 cd13 ct13 oc14 kV14 dc14 pm14 cd14 ct14 oc15 kV15 dc15 pm15 cd15 ct15 oc16 kV16 dc16 pm16 cd16 ct16 oc17 kV17 dc17 pm17 cd17 ct17 : Value}
    (a0 : PySem.W.nsIn K mainGlobals "layers" = some (some (.ref f0))) (l0 : K.lookup f0 = some ⟨oc0, od0, .func (PySem.W.fnOf "layers" "layers" (defArgs s_layers) (defBody s_layers) (defScope s_layers) .none kV0 dc0 pm0 an0 cd0 ct0), sl0⟩) (c0 : PySem.W.codeIn K cd0 "layers" = true) (k0 : PySem.W.keepIn K (.ref f0) = true)
    (a1 : PySem.W.nsIn K mainGlobals "depth" = some (some (.ref f1))) (l1 : K.lookup f1 = some ⟨oc1, od1, .func (PySem.W.fnOf "depth" "depth" (defArgs s_depth) (defBody s_depth) (defScope s_depth) .none kV1 dc1 pm1 an1 cd1 ct1), sl1⟩) (c1 : PySem.W.codeIn K cd1 "depth" = true) (k1 : PySem.W.keepIn K (.ref f1) = true)
    (a2 : PySem.W.nsIn K mainGlobals "is_full" = some (some (.ref f2))) (l2 : K.lookup f2 = some ⟨oc2, od2, .func (PySem.W.fnOf "is_full" "is_full" (defArgs s_is_full) (defBody s_is_full) (defScope s_is_full) .none kV2 dc2 pm2 an2 cd2 ct2), sl2⟩) (c2 : PySem.W.codeIn K cd2 "is_full" = true) (k2 : PySem.W.keepIn K (.ref f2) = true)
    (a3 : PySem.W.nsIn K mainGlobals "ends_from" = some (some (.ref f3))) (l3 : K.lookup f3 = some ⟨oc3, od3, .func (PySem.W.fnOf "ends_from" "ends_from" (defArgs s_ends_from) (defBody s_ends_from) (defScope s_ends_from) .none kV3 dc3 pm3 an3 cd3 ct3), sl3⟩) (c3 : PySem.W.codeIn K cd3 "ends_from" = true) (k3 : PySem.W.keepIn K (.ref f3) = true)
    (a4 : PySem.W.nsIn K mainGlobals "fitting" = some (some (.ref f4))) (l4 : K.lookup f4 = some ⟨oc4, od4, .func (PySem.W.fnOf "fitting" "fitting" (defArgs s_fitting) (defBody s_fitting) (defScope s_fitting) .none kV4 dc4 pm4 an4 cd4 ct4), sl4⟩) (c4 : PySem.W.codeIn K cd4 "fitting" = true) (k4 : PySem.W.keepIn K (.ref f4) = true)
    (a5 : PySem.W.nsIn K mainGlobals "named" = some (some (.ref f5))) (l5 : K.lookup f5 = some ⟨oc5, od5, .func (PySem.W.fnOf "named" "named" (defArgs s_named) (defBody s_named) (defScope s_named) .none kV5 dc5 pm5 an5 cd5 ct5), sl5⟩) (c5 : PySem.W.codeIn K cd5 "named" = true) (k5 : PySem.W.keepIn K (.ref f5) = true)
    (a6 : PySem.W.nsIn K mainGlobals "beside" = some (some (.ref f6))) (l6 : K.lookup f6 = some ⟨oc6, od6, .func (PySem.W.fnOf "beside" "beside" (defArgs s_beside) (defBody s_beside) (defScope s_beside) .none kV6 dc6 pm6 an6 cd6 ct6), sl6⟩) (c6 : PySem.W.codeIn K cd6 "beside" = true) (k6 : PySem.W.keepIn K (.ref f6) = true)
    (a7 : PySem.W.nsIn K mainGlobals "behind" = some (some (.ref f7))) (l7 : K.lookup f7 = some ⟨oc7, od7, .func (PySem.W.fnOf "behind" "behind" (defArgs s_behind) (defBody s_behind) (defScope s_behind) .none kV7 dc7 pm7 an7 cd7 ct7), sl7⟩) (c7 : PySem.W.codeIn K cd7 "behind" = true) (k7 : PySem.W.keepIn K (.ref f7) = true)
    (a8 : PySem.W.nsIn K mainGlobals "renamed" = some (some (.ref f8))) (l8 : K.lookup f8 = some ⟨oc8, od8, .func (PySem.W.fnOf "renamed" "renamed" (defArgs s_renamed) (defBody s_renamed) (defScope s_renamed) .none kV8 dc8 pm8 an8 cd8 ct8), sl8⟩) (c8 : PySem.W.codeIn K cd8 "renamed" = true) (k8 : PySem.W.keepIn K (.ref f8) = true)
    (a9 : PySem.W.nsIn K mainGlobals "_law_mix" = some (some (.ref f9))) (l9 : K.lookup f9 = some ⟨oc9, od9, .func (PySem.W.fnOf "_law_mix" "_law_mix" (defArgs s_law_mix) (defBody s_law_mix) (defScope s_law_mix) .none kV9 dc9 pm9 an9 cd9 ct9), sl9⟩) (c9 : PySem.W.codeIn K cd9 "_law_mix" = true) (k9 : PySem.W.keepIn K (.ref f9) = true)
    (a10 : PySem.W.nsIn K mainGlobals "_law_jar" = some (some (.ref f10))) (l10 : K.lookup f10 = some ⟨oc10, od10, .func (PySem.W.fnOf "_law_jar" "_law_jar" (defArgs s_law_jar) (defBody s_law_jar) (defScope s_law_jar) .none kV10 dc10 pm10 an10 cd10 ct10), sl10⟩) (c10 : PySem.W.codeIn K cd10 "_law_jar" = true) (k10 : PySem.W.keepIn K (.ref f10) = true)
    (a11 : PySem.W.nsIn K mainGlobals "_law_pick" = some (some (.ref f11))) (l11 : K.lookup f11 = some ⟨oc11, od11, .func (PySem.W.fnOf "_law_pick" "_law_pick" (defArgs s_law_pick) (defBody s_law_pick) (defScope s_law_pick) .none kV11 dc11 pm11 an11 cd11 ct11), sl11⟩) (c11 : PySem.W.codeIn K cd11 "_law_pick" = true) (k11 : PySem.W.keepIn K (.ref f11) = true)
    (a12 : PySem.W.nsIn K mainGlobals "_law_order" = some (some (.ref f12))) (l12 : K.lookup f12 = some ⟨oc12, od12, .func (PySem.W.fnOf "_law_order" "_law_order" (defArgs s_law_order) (defBody s_law_order) (defScope s_law_order) .none kV12 dc12 pm12 an12 cd12 ct12), sl12⟩) (c12 : PySem.W.codeIn K cd12 "_law_order" = true) (k12 : PySem.W.keepIn K (.ref f12) = true)
    (a13 : PySem.W.nsIn K mainGlobals "_law_net" = some (some (.ref f13))) (l13 : K.lookup f13 = some ⟨oc13, od13, .func (PySem.W.fnOf "_law_net" "_law_net" (defArgs s_law_net) (defBody s_law_net) (defScope s_law_net) .none kV13 dc13 pm13 an13 cd13 ct13), sl13⟩) (c13 : PySem.W.codeIn K cd13 "_law_net" = true) (k13 : PySem.W.keepIn K (.ref f13) = true)
    (a14 : PySem.W.nsIn K mainGlobals "_law_named_right" = some (some (.ref f14))) (l14 : K.lookup f14 = some ⟨oc14, od14, .func (PySem.W.fnOf "_law_named_right" "_law_named_right" (defArgs s_law_named_right) (defBody s_law_named_right) (defScope s_law_named_right) .none kV14 dc14 pm14 an14 cd14 ct14), sl14⟩) (c14 : PySem.W.codeIn K cd14 "_law_named_right" = true) (k14 : PySem.W.keepIn K (.ref f14) = true)
    (a15 : PySem.W.nsIn K mainGlobals "_law_beside_right" = some (some (.ref f15))) (l15 : K.lookup f15 = some ⟨oc15, od15, .func (PySem.W.fnOf "_law_beside_right" "_law_beside_right" (defArgs s_law_beside_right) (defBody s_law_beside_right) (defScope s_law_beside_right) .none kV15 dc15 pm15 an15 cd15 ct15), sl15⟩) (c15 : PySem.W.codeIn K cd15 "_law_beside_right" = true) (k15 : PySem.W.keepIn K (.ref f15) = true)
    (a16 : PySem.W.nsIn K mainGlobals "_law_behind_right" = some (some (.ref f16))) (l16 : K.lookup f16 = some ⟨oc16, od16, .func (PySem.W.fnOf "_law_behind_right" "_law_behind_right" (defArgs s_law_behind_right) (defBody s_law_behind_right) (defScope s_law_behind_right) .none kV16 dc16 pm16 an16 cd16 ct16), sl16⟩) (c16 : PySem.W.codeIn K cd16 "_law_behind_right" = true) (k16 : PySem.W.keepIn K (.ref f16) = true)
    (a17 : PySem.W.nsIn K mainGlobals "law" = some (some (.ref f17))) (l17 : K.lookup f17 = some ⟨oc17, od17, .func (PySem.W.fnOf "law" "law" (defArgs s_law) (defBody s_law) (defScope s_law) .none kV17 dc17 pm17 an17 cd17 ct17), sl17⟩) (c17 : PySem.W.codeIn K cd17 "law" = true) (k17 : PySem.W.keepIn K (.ref f17) = true)
    (z_list : PySem.W.nsIn K mainGlobals "list" = some none)
    (z_tuple : PySem.W.nsIn K mainGlobals "tuple" = some none)
    (z_range : PySem.W.nsIn K mainGlobals "range" = some none)
    (z_int : PySem.W.nsIn K mainGlobals "int" = some none)
    (z_bool : PySem.W.nsIn K mainGlobals "bool" = some none)
    (z_str : PySem.W.nsIn K mainGlobals "str" = some none)
    (z_len : PySem.W.nsIn K mainGlobals "len" = some none)
    (z_isinstance : PySem.W.nsIn K mainGlobals "isinstance" = some none)
    (z_all : PySem.W.nsIn K mainGlobals "all" = some none)
    (z_zip : PySem.W.nsIn K mainGlobals "zip" = some none)
    (z_enumerate : PySem.W.nsIn K mainGlobals "enumerate" = some none)
    (z_max : PySem.W.nsIn K mainGlobals "max" = some none)
    (z_min : PySem.W.nsIn K mainGlobals "min" = some none)
    (z_sorted : PySem.W.nsIn K mainGlobals "sorted" = some none)
    (z_set : PySem.W.nsIn K mainGlobals "set" = some none)
    (z_repr : PySem.W.nsIn K mainGlobals "repr" = some none)
    (z_sum : PySem.W.nsIn K mainGlobals "sum" = some none)
    (z_any : PySem.W.nsIn K mainGlobals "any" = some none)
    (z_abs : PySem.W.nsIn K mainGlobals "abs" = some none)
    (z_dict : PySem.W.nsIn K mainGlobals "dict" = some none)
    {tk_MOST_WIRES : Tok} (g_MOST_WIRES : PySem.W.nsIn K mainGlobals "MOST_WIRES" = some (some (.int 16 tk_MOST_WIRES)))
    {tk_MOST_SWITCHES : Tok} (g_MOST_SWITCHES : PySem.W.nsIn K mainGlobals "MOST_SWITCHES" = some (some (.int 160 tk_MOST_SWITCHES)))
    {cA2 PT2 : Addr} {odc2 : Option Addr} {vs2 : Array Value} {slc2 : Array (Option Value)} {fl2 : Str} {tf2 : Tok} {fg2 : Int} {tg2 : Tok} {iF2 : Bool} {tx2 : Int} {tt2 : Tok}
    (ec2 : cd2 = .ref cA2) (lc2 : K.lookup cA2 = some ⟨.type "code", odc2, .fields vs2, slc2⟩) (va2 : vs2.getD 11 .none = .ref PT2) (vb2 : vs2[11]? = some (.ref PT2)) (vc2 : vs2.getD 18 .none = .str fl2 tf2) (vd2 : vs2.getD 7 .none = .int fg2 tg2) (ve2 : vs2.getD 9 .none = .bool iF2) (vf2 : vs2.getD 10 .none = .int tx2 tt2) (vn2 : (cA2 == PT2) = false) (vo2 : K.lookup PT2 = none) (vr2 : (recsOf q).any (fun d => d.name == "is_full") = true)
    : ∃ (Ts : List Addr) (fd : FuncData), (∀ P ∈ Ts, TabAt K h P) ∧ (∀ (s : Shared) (v : Value), BindsTo s fd ⟨[v], []⟩ [("script", v)]) ∧ ∀ base : Heap, K.In base → base.Ns mainGlobals mg → (∃ bm ob, BMod base mainGlobals mg bm ob) → FnOk l.prog w K mg base CX0 5 fa fd ["script"] (spW Ts K wLaw) := by
  have e := hfa.symm.trans (PySem.W.mg_of X G a17)
  cases e
  have T : Tn mg := ⟨PySem.W.mg_none_of X G z_list, PySem.W.mg_none_of X G z_tuple, PySem.W.mg_none_of X G z_range, PySem.W.mg_none_of X G z_int, PySem.W.mg_none_of X G z_bool, PySem.W.mg_none_of X G z_str, PySem.W.mg_none_of X G z_len, PySem.W.mg_none_of X G z_isinstance, PySem.W.mg_none_of X G z_all, PySem.W.mg_none_of X G z_zip, PySem.W.mg_none_of X G z_enumerate, PySem.W.mg_none_of X G z_max, PySem.W.mg_none_of X G z_min, PySem.W.mg_none_of X G z_sorted, PySem.W.mg_none_of X G z_set, PySem.W.mg_none_of X G z_repr, PySem.W.mg_none_of X G z_sum, PySem.W.mg_none_of X G z_any, PySem.W.mg_none_of X G z_abs, PySem.W.mg_none_of X G z_dict⟩
  have C_MOST_WIRES := PySem.W.mg_of X G g_MOST_WIRES
  have C_MOST_SWITCHES := PySem.W.mg_of X G g_MOST_SWITCHES
  have F_layers := fun_mk (st := s_layers) l0 c0 k0
  have m_layers := PySem.W.mg_of X G a0
  have b_layers := F_layers.binds (ps := ["net"]) fun _ _ _ _ _ _ us hl => match us, hl with | [_], _ => rfl
  have F_depth := fun_mk (st := s_depth) l1 c1 k1
  have m_depth := PySem.W.mg_of X G a1
  have b_depth := F_depth.binds (ps := ["net"]) fun _ _ _ _ _ _ us hl => match us, hl with | [_], _ => rfl
  have F_is_full := fun_mk (st := s_is_full) l2 c2 k2
  have m_is_full := PySem.W.mg_of X G a2
  have b_is_full := F_is_full.binds (ps := ["net"]) fun _ _ _ _ _ _ us hl => match us, hl with | [_], _ => rfl
  have F_ends_from := fun_mk (st := s_ends_from) l3 c3 k3
  have m_ends_from := PySem.W.mg_of X G a3
  have b_ends_from := F_ends_from.binds (ps := ["net", "wire"]) fun _ _ _ _ _ _ us hl => match us, hl with | [_, _], _ => rfl
  have F_fitting := fun_mk (st := s_fitting) l4 c4 k4
  have m_fitting := PySem.W.mg_of X G a4
  have b_fitting := F_fitting.binds (ps := ["width", "switches", "order"]) fun _ _ _ _ _ _ us hl => match us, hl with | [_, _, _], _ => rfl
  have F_named := fun_mk (st := s_named) l5 c5 k5
  have m_named := PySem.W.mg_of X G a5
  have b_named := F_named.binds (ps := ["net", "wires"]) fun _ _ _ _ _ _ us hl => match us, hl with | [_, _], _ => rfl
  have F_beside := fun_mk (st := s_beside) l6 c6 k6
  have m_beside := PySem.W.mg_of X G a6
  have b_beside := F_beside.binds (ps := ["one", "other"]) fun _ _ _ _ _ _ us hl => match us, hl with | [_, _], _ => rfl
  have F_behind := fun_mk (st := s_behind) l7 c7 k7
  have m_behind := PySem.W.mg_of X G a7
  have b_behind := F_behind.binds (ps := ["one", "other"]) fun _ _ _ _ _ _ us hl => match us, hl with | [_, _], _ => rfl
  have F_renamed := fun_mk (st := s_renamed) l8 c8 k8
  have m_renamed := PySem.W.mg_of X G a8
  have b_renamed := F_renamed.binds (ps := ["net", "wires"]) fun _ _ _ _ _ _ us hl => match us, hl with | [_, _], _ => rfl
  have F_law_mix := fun_mk (st := s_law_mix) l9 c9 k9
  have m_law_mix := PySem.W.mg_of X G a9
  have b_law_mix := F_law_mix.binds (ps := ["one"]) fun _ _ _ _ _ _ us hl => match us, hl with | [_], _ => rfl
  have F_law_jar := fun_mk (st := s_law_jar) l10 c10 k10
  have m_law_jar := PySem.W.mg_of X G a10
  have b_law_jar := F_law_jar.binds (ps := ["script"]) fun _ _ _ _ _ _ us hl => match us, hl with | [_], _ => rfl
  have F_law_pick := fun_mk (st := s_law_pick) l11 c11 k11
  have m_law_pick := PySem.W.mg_of X G a11
  have b_law_pick := F_law_pick.binds (ps := ["jar", "many"]) fun _ _ _ _ _ _ us hl => match us, hl with | [_, _], _ => rfl
  have F_law_order := fun_mk (st := s_law_order) l12 c12 k12
  have m_law_order := PySem.W.mg_of X G a12
  have b_law_order := F_law_order.binds (ps := ["jar", "many"]) fun _ _ _ _ _ _ us hl => match us, hl with | [_, _], _ => rfl
  have F_law_net := fun_mk (st := s_law_net) l13 c13 k13
  have m_law_net := PySem.W.mg_of X G a13
  have b_law_net := F_law_net.binds (ps := ["jar", "widest", "most"]) fun _ _ _ _ _ _ us hl => match us, hl with | [_, _, _], _ => rfl
  have F_law_named_right := fun_mk (st := s_law_named_right) l14 c14 k14
  have m_law_named_right := PySem.W.mg_of X G a14
  have b_law_named_right := F_law_named_right.binds (ps := ["jar", "net"]) fun _ _ _ _ _ _ us hl => match us, hl with | [_, _], _ => rfl
  have F_law_beside_right := fun_mk (st := s_law_beside_right) l15 c15 k15
  have m_law_beside_right := PySem.W.mg_of X G a15
  have b_law_beside_right := F_law_beside_right.binds (ps := ["one", "other"]) fun _ _ _ _ _ _ us hl => match us, hl with | [_, _], _ => rfl
  have F_law_behind_right := fun_mk (st := s_law_behind_right) l16 c16 k16
  have m_law_behind_right := PySem.W.mg_of X G a16
  have b_law_behind_right := F_law_behind_right.binds (ps := ["jar", "one", "other"]) fun _ _ _ _ _ _ us hl => match us, hl with | [_, _, _], _ => rfl
  have F_law := fun_mk (st := s_law) l17 c17 k17
  have m_law := PySem.W.mg_of X G a17
  have b_law := F_law.binds (ps := ["script"]) fun _ _ _ _ _ _ us hl => match us, hl with | [_], _ => rfl
  have CK_is_full : CodeK K cd2 PT2 := codeK_of ec2 lc2 va2 vb2 vc2 vd2 ve2 vf2 vn2
  have TA_is_full : TabAt K h PT2 := tabAt_of X tabs vr2 m_is_full l2 (by exact ec2) lc2 vb2 vo2
  have lk_is_full := l2
  have cc_is_full := c2
  refine ⟨[PT2], PySem.W.fnOf "law" "law" (defArgs s_law) (defBody s_law) (defScope s_law) .none kV17 dc17 pm17 an17 cd17 ct17, fun P hP => ?_, fun s v => .of_eq rfl, fun base _ _ hM => ?_⟩
  · simp only [List.mem_cons, List.not_mem_nil, or_false] at hP
    subst hP; exact TA_is_full
  have D0_law_mix : Def l.prog w K mg base "_law_mix" 1 ["one"] spMix := ⟨_, _, ok_law_mix F_law_mix, m_law_mix, F_law_mix.kp, b_law_mix⟩
  have D_law_jar : DefW [PT2] l.prog w K mg base "_law_jar" 2 ["script"] wJar := ⟨⟨_, _, (ok_law_jar F_law_jar T D0_law_mix).imp (jar_imp fun _ _ _ _ h => h), m_law_jar, F_law_jar.kp, b_law_jar⟩, mo_jar⟩
  have D0_law_pick : Def l.prog w K mg base "_law_pick" 2 ["jar", "many"] spPick := ⟨_, _, ok_law_pick F_law_pick D0_law_mix, m_law_pick, F_law_pick.kp, b_law_pick⟩
  have D_law_pick : DefW [PT2] l.prog w K mg base "_law_pick" 2 ["jar", "many"] wPick := ⟨⟨_, _, (ok_law_pick F_law_pick D0_law_mix).imp (pick_imp fun _ _ _ _ h => h), m_law_pick, F_law_pick.kp, b_law_pick⟩, mo_pick⟩
  have D0_law_order : Def l.prog w K mg base "_law_order" 3 ["jar", "many"] spOrder := ⟨_, _, ok_law_order F_law_order T D0_law_pick, m_law_order, F_law_order.kp, b_law_order⟩
  have D_law_order : DefW [PT2] l.prog w K mg base "_law_order" 3 ["jar", "many"] wOrder := ⟨⟨_, _, (ok_law_order F_law_order T D0_law_pick).imp order_imp, m_law_order, F_law_order.kp, b_law_order⟩, mo_order⟩
  have D_law_net : DefW [PT2] l.prog w K mg base "_law_net" 4 ["jar", "widest", "most"] wNet := ⟨⟨_, _, (ok_law_net F_law_net T D0_law_pick D0_law_order).imp net_imp, m_law_net, F_law_net.kp, b_law_net⟩, mo_net⟩
  have D_named : DefW [PT2] l.prog w K mg base "named" 1 ["net", "wires"] wNamed := ⟨⟨_, _, ok_named F_named T , m_named, F_named.kp, b_named⟩, mo_ctrF⟩
  have D_fitting : DefW [PT2] l.prog w K mg base "fitting" 1 ["width", "switches", "order"] wFit := ⟨⟨_, _, ok_fitting F_fitting T C_MOST_WIRES C_MOST_SWITCHES, m_fitting, F_fitting.kp, b_fitting⟩, mo_ctrF⟩
  have D_renamed : DefW [PT2] l.prog w K mg base "renamed" 2 ["net", "wires"] wRenamed := ⟨⟨_, _, ok_renamed F_renamed T D_fitting D_named, m_renamed, F_renamed.kp, b_renamed⟩, mo_ctrF⟩
  have D_behind : DefW [PT2] l.prog w K mg base "behind" 2 ["one", "other"] wBehind := ⟨⟨_, _, ok_behind F_behind T D_fitting D_named, m_behind, F_behind.kp, b_behind⟩, mo_ctrF⟩
  have D_beside : DefW [PT2] l.prog w K mg base "beside" 2 ["one", "other"] wBeside := ⟨⟨_, _, ok_beside F_beside T D_fitting D_named, m_beside, F_beside.kp, b_beside⟩, mo_ctrF⟩
  have D_layers : DefW [PT2] l.prog w K mg base "layers" 1 ["net"] wLayers := ⟨⟨_, _, ok_layers F_layers T , m_layers, F_layers.kp, b_layers⟩, mo_layers⟩
  have D_depth : DefW [PT2] l.prog w K mg base "depth" 2 ["net"] wDepth := ⟨⟨_, _, ok_depth F_depth T D_layers, m_depth, F_depth.kp, b_depth⟩, mo_ctrF⟩
  have D_ends_from : DefW [PT2] l.prog w K mg base "ends_from" 1 ["net", "wire"] wEnds := ⟨⟨_, _, ok_ends_from F_ends_from T , m_ends_from, F_ends_from.kp, b_ends_from⟩, mo_ends⟩
  have D_is_full : DefW [PT2] l.prog w K mg base "is_full" 2 ["net"] wFull := ⟨⟨_, _, ok_is_full lk_is_full cc_is_full CK_is_full hM (by simp) TA_is_full.out T D_layers, m_is_full, F_is_full.kp, b_is_full⟩, mo_ctrF⟩
  have D_law_named_right : DefW [PT2] l.prog w K mg base "_law_named_right" 4 ["jar", "net"] wNamedR := ⟨⟨_, _, ok_law_named_right F_law_named_right T D_ends_from D_depth D_is_full D_layers D_renamed D_law_order, m_law_named_right, F_law_named_right.kp, b_law_named_right⟩, mo_namedR⟩
  have D_law_beside_right : DefW [PT2] l.prog w K mg base "_law_beside_right" 3 ["one", "other"] wBesR := ⟨⟨_, _, ok_law_beside_right F_law_beside_right T D_ends_from D_is_full D_depth D_layers D_beside, m_law_beside_right, F_law_beside_right.kp, b_law_beside_right⟩, mo_besR⟩
  have D_law_behind_right : DefW [PT2] l.prog w K mg base "_law_behind_right" 4 ["jar", "one", "other"] wBehR := ⟨⟨_, _, ok_law_behind_right F_law_behind_right T D_depth D_ends_from D_behind D_law_order, m_law_behind_right, F_law_behind_right.kp, b_law_behind_right⟩, mo_behR⟩
  exact ok_law F_law T D_law_behind_right D_law_beside_right D_law_named_right D_law_net D_law_jar
end L4
open PySem PySem.W PyProof.Rows
set_option maxRecDepth 100000 in
set_option maxHeartbeats 0 in
theorem PySem.Challenge.cw_turnfork_k34_whole_layers_named_and_put_holds : PySem.Challenge.rw_turnfork_k34_whole_layers_named_and_put.Holds := by
  w_on; o_law; k_head; (case hw => w_witness2)
  k_fill
  refine L4.walkW (l := PySem.Challenge.rw_turnfork_k34_whole_layers_named_and_put) (k := 5) ⟨rfl, by decide, by decide, rfl⟩ rfl rfl (fun w h Y => by first | exact PySem.W.kIn_of Y | exact PySem.W.km_in_of Y) ?F
  case F =>
    intro w mg fa h KX G hmg tabs
    refine' L4.all_mk KX G hmg tabs ?a0 ?l0 ?c0 ?k0 ?a1 ?l1 ?c1 ?k1 ?a2 ?l2 ?c2 ?k2 ?a3 ?l3 ?c3 ?k3 ?a4 ?l4 ?c4 ?k4 ?a5 ?l5 ?c5 ?k5 ?a6 ?l6 ?c6 ?k6 ?a7 ?l7 ?c7 ?k7 ?a8 ?l8 ?c8 ?k8 ?a9 ?l9 ?c9 ?k9 ?a10 ?l10 ?c10 ?k10 ?a11 ?l11 ?c11 ?k11 ?a12 ?l12 ?c12 ?k12 ?a13 ?l13 ?c13 ?k13 ?a14 ?l14 ?c14 ?k14 ?a15 ?l15 ?c15 ?k15 ?a16 ?l16 ?c16 ?k16 ?a17 ?l17 ?c17 ?k17 ?z_list ?z_tuple ?z_range ?z_int ?z_bool ?z_str ?z_len ?z_isinstance ?z_all ?z_zip ?z_enumerate ?z_max ?z_min ?z_sorted ?z_set ?z_repr ?z_sum ?z_any ?z_abs ?z_dict ?g_MOST_WIRES ?g_MOST_SWITCHES ?ec2 ?lc2 ?va2 ?vb2 ?vc2 ?vd2 ?ve2 ?vf2 ?vn2 ?vo2 ?vr2
    (case a0 => k_is); (case l0 => k_is); (case c0 => k_is); (case k0 => k_is); (case a1 => k_is); (case l1 => k_is)
    (case c1 => k_is); (case k1 => k_is); (case a2 => k_is); (case l2 => k_is); (case c2 => k_is); (case k2 => k_is)
    (case a3 => k_is); (case l3 => k_is); (case c3 => k_is); (case k3 => k_is); (case a4 => k_is); (case l4 => k_is)
    (case c4 => k_is); (case k4 => k_is); (case a5 => k_is); (case l5 => k_is); (case c5 => k_is); (case k5 => k_is)
    (case a6 => k_is); (case l6 => k_is); (case c6 => k_is); (case k6 => k_is); (case a7 => k_is); (case l7 => k_is)
    (case c7 => k_is); (case k7 => k_is); (case a8 => k_is); (case l8 => k_is); (case c8 => k_is); (case k8 => k_is)
    (case a9 => k_is); (case l9 => k_is); (case c9 => k_is); (case k9 => k_is); (case a10 => k_is); (case l10 => k_is)
    (case c10 => k_is); (case k10 => k_is); (case a11 => k_is); (case l11 => k_is); (case c11 => k_is); (case k11 => k_is)
    (case a12 => k_is); (case l12 => k_is); (case c12 => k_is); (case k12 => k_is); (case a13 => k_is); (case l13 => k_is)
    (case c13 => k_is); (case k13 => k_is); (case a14 => k_is); (case l14 => k_is); (case c14 => k_is); (case k14 => k_is)
    (case a15 => k_is); (case l15 => k_is); (case c15 => k_is); (case k15 => k_is); (case a16 => k_is); (case l16 => k_is)
    (case c16 => k_is); (case k16 => k_is); (case a17 => k_is); (case l17 => k_is); (case c17 => k_is); (case k17 => k_is)
    (case z_list => k_is); (case z_tuple => k_is); (case z_range => k_is); (case z_int => k_is); (case z_bool => k_is); (case z_str => k_is)
    (case z_len => k_is); (case z_isinstance => k_is); (case z_all => k_is); (case z_zip => k_is); (case z_enumerate => k_is); (case z_max => k_is)
    (case z_min => k_is); (case z_sorted => k_is); (case z_set => k_is); (case z_repr => k_is); (case z_sum => k_is); (case z_any => k_is)
    (case z_abs => k_is); (case z_dict => k_is); (case g_MOST_WIRES => k_is); (case g_MOST_SWITCHES => k_is)
    (case ec2 => exact rfl); (case lc2 => k_is)
    (case va2 => exact rfl)
    (case vb2 => exact rfl)
    (case vc2 => exact rfl)
    (case vd2 => exact rfl)
    (case ve2 => exact rfl)
    (case vf2 => exact rfl)
    (case vn2 => exact rfl)
    (case vo2 => exact rfl)
    (case vr2 => exact rfl)
