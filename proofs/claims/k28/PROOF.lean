import PyProof.Rows.All
import Wide.All
import OpenK.AllK
import Wide.FinOn
import PyProof.EqAt
import PyProof.EqKinds
import PyProof.TupleCall
import KE.BitLaws
import KE.KMinKey
import KE.KSortTup
import PyProof.ExcInit
import PyProof.ExcClass3
import PyProof.ExcBaseAll.ValueError
import OpenK.KOwn
import PyProof.InstStore
import PyProof.InstStoreFacts
import PyProof.NsDelKeeps
import PyProof.ExcAttrAll.ValueError
import KE.KIsAll
import PyProof.TupleOfStr
import PyProof.ListRange
import PyProof.DictCompW
import PyProof.Rows.SortIns
import KE.KSortKey
import KE.KEqDict
import KE.KDictList
import PySem.Challenge.RW_crestkeys_k28_sums_faults
set_option Elab.async false
set_option linter.all false
set_option maxRecDepth 100000
namespace L2
open PySem PySem.Spec PyProof.Rows
abbrev Key := Sum Int Str
def keyIs : Key → Value → Bool
  | .inl k, v => Value.isInt k v
  | .inr x, v => Value.isStrOf x v
def keyH (w : World) : Key → Int
  | .inl k => hashInt k
  | .inr x => hashStr w x
theorem keyIs_shape : ∀ {k : Key} {v : Value}, keyIs k v = true → (∃ i t, k = Sum.inl i ∧ v = Value.int i t) ∨ (∃ x t, k = Sum.inr x ∧ v = Value.str x t)
  | .inl i, v, h => by
    obtain ⟨t, e⟩ := Value.isInt_shape (k := i) (v := v) h
    exact .inl ⟨i, t, rfl, e⟩
  | .inr x, v, h => by
    obtain ⟨t, e⟩ := Value.isStrOf_shape (x := x) (v := v) h
    exact .inr ⟨x, t, rfl, e⟩
theorem keyIs_int (i : Int) (t : Tok) : keyIs (.inl i) (.int i t) = true := by simp [keyIs, Value.isInt]
theorem keyIs_str (x : Str) (t : Tok) : keyIs (.inr x) (.str x t) = true := by simp [keyIs, Value.isStrOf]
theorem key_ll (a b : Int) : decide ((Sum.inl a : Key) = Sum.inl b) = (a == b) := by
  by_cases e : a = b
  · subst e; simp
  · have h : ¬ (Sum.inl a : Key) = Sum.inl b := fun q => e (Sum.inl.inj q)
    rw [decide_eq_false h]
    exact (beq_eq_false_iff_ne.mpr e).symm
theorem key_rr (a b : Str) : decide ((Sum.inr a : Key) = Sum.inr b) = decide (a = b) := by
  by_cases e : a = b
  · subst e; simp
  · have h : ¬ (Sum.inr a : Key) = Sum.inr b := fun q => e (Sum.inr.inj q)
    rw [decide_eq_false h, decide_eq_false e]
theorem key_lr (a : Int) (b : Str) : decide ((Sum.inl a : Key) = Sum.inr b) = false := decide_eq_false (fun q => nomatch q)
theorem key_rl (a : Str) (b : Int) : decide ((Sum.inr a : Key) = Sum.inl b) = false := decide_eq_false (fun q => nomatch q)
def mixKind (prog : Program) (w : World) : PySem.KeyKind prog w Key where
  is := keyIs
  hash := keyH w
  inj := fun v a b ha hb => by
    rcases keyIs_shape ha with ⟨i, t, rfl, rfl⟩ | ⟨x, t, rfl, rfl⟩
    · rcases keyIs_shape hb with ⟨j, u, rfl, e⟩ | ⟨y, u, rfl, e⟩
      · injection e with e1 _; rw [e1]
      · exact nomatch e
    · rcases keyIs_shape hb with ⟨j, u, rfl, e⟩ | ⟨y, u, rfl, e⟩
      · exact nomatch e
      · injection e with e1 _; rw [e1]
  byValue := fun k v h => by
    rcases keyIs_shape h with ⟨i, t, rfl, rfl⟩ | ⟨x, t, rfl, rfl⟩ <;> rfl
  pyHash := fun hv h => by
    rcases keyIs_shape hv with ⟨i, t, rfl, rfl⟩ | ⟨x, t, rfl, rfl⟩
    · exact wpAny_pyHash_int h
    · exact wpAny_pyHash_str h
  eqBool := fun hu hv h => by
    rcases keyIs_shape hu with ⟨i, t, rfl, rfl⟩ | ⟨x, t, rfl, rfl⟩
    · rcases keyIs_shape hv with ⟨j, u, rfl, rfl⟩ | ⟨y, u, rfl, rfl⟩
      · rw [key_ll] at h; exact wpAny_eqBool_int h
      · rw [key_lr] at h; exact SeqAt.EqAt.int_str i t y u _ _ _ _ h
    · rcases keyIs_shape hv with ⟨j, u, rfl, rfl⟩ | ⟨y, u, rfl, rfl⟩
      · rw [key_rl] at h; exact SeqAt.EqAt.str_int x t j u _ _ _ _ h
      · rw [key_rr] at h; exact wpAny_eqBool_str h
  «strs» := fun k x t v h => by
    rcases keyIs_shape h with ⟨i, u, rfl, e⟩ | ⟨y, u, rfl, e⟩
    · exact nomatch e
    · injection e with e1 _
      subst e1
      cases v <;> rfl
theorem mixKind_int (prog : Program) (w : World) (i : Int) (t : Tok) : (mixKind prog w).is (.inl i) (.int i t) = true := keyIs_int i t
theorem mixKind_str (prog : Program) (w : World) (x : Str) (t : Tok) : (mixKind prog w).is (.inr x) (.str x t) = true := keyIs_str x t
end L2
namespace L2
open PySem PySem.Spec PyProof.Rows
inductive V where
  | non | bl (b : Bool) | int (i : Int) | str (x : Str) | byt (b : Array UInt8) | flt (b : UInt64) | ref (a : Addr) | ty (n : String)
  deriving DecidableEq
def RelV : V → Value → Prop
  | .non, u => u = Value.none
  | .bl b, u => u = Value.bool b
  | .int i, u => ∃ t, u = Value.int i t
  | .str x, u => ∃ t, u = Value.str x t
  | .byt b, u => ∃ t, u = Value.bytes b t
  | .flt b, u => ∃ t, u = Value.float b t
  | .ref a, u => u = Value.ref a
  | .ty n, u => u = Value.type n
abbrev Vals : List V → List Value → Prop := Paired RelV
theorem Vals.length {xs : List V} {us : List Value} (r : Vals xs us) : xs.length = us.length := Paired.length r
theorem Vals.get : ∀ {xs : List V} {us : List Value} {i : Nat} {x : V}, Vals xs us → xs[i]? = some x → ∃ u, us[i]? = some u ∧ RelV x u
  | _, _, _, _, .nil, e => by simp at e
  | _, _, 0, _, .cons r _, e => by simp at e; subst e; exact ⟨_, rfl, r⟩
  | _, _, i + 1, x, .cons _ t, e => by
    obtain ⟨u, h1, h2⟩ := Vals.get (i := i) (x := x) t (by simpa using e)
    exact ⟨u, by simpa using h1, h2⟩
theorem Vals.set {x : V} {u : Value} (r : RelV x u) : ∀ {xs : List V} {us : List Value} (i : Nat), Vals xs us → Vals (xs.set i x) (us.set i u)
  | _, _, _, .nil => .nil
  | _, _, 0, .cons _ t => .cons r t
  | _, _, i + 1, .cons q t => .cons q (Vals.set r i t)
theorem Vals.append : ∀ {xs ys : List V} {us ws : List Value}, Vals xs us → Vals ys ws → Vals (xs ++ ys) (us ++ ws)
  | _, _, _, _, .nil, s => s
  | _, _, _, _, .cons r t, s => .cons r (Vals.append t s)
theorem Vals.take : ∀ {xs : List V} {us : List Value} (n : Nat), Vals xs us → Vals (xs.take n) (us.take n)
  | _, _, 0, _ => .nil
  | _, _, _ + 1, .nil => .nil
  | _, _, n + 1, .cons r t => .cons r (Vals.take n t)
theorem Vals.drop : ∀ {xs : List V} {us : List Value} (n : Nat), Vals xs us → Vals (xs.drop n) (us.drop n)
  | _, _, 0, r => r
  | _, _, _ + 1, .nil => .nil
  | _, _, n + 1, .cons _ t => Vals.drop n t
def RelO : Option V → Option Value → Prop
  | some v, some u => RelV v u
  | none, none => True
  | _, _ => False
def KV {κ : Type} : List (κ × V) → List (κ × Value) → Prop := Paired fun (p : κ × V) (q : κ × Value) => p.1 = q.1 ∧ RelV p.2 q.2
def IsTupN (h : Heap) (a : Addr) (items : Array Value) : Prop := ∃ o, h.get? a = some o ∧ (o.cls, o.dict) = (Value.type "tuple", (none : Option Addr)) ∧ ∃ n, o.data = .seq items n
theorem IsTupN.t {h : Heap} {a : Addr} {items : Array Value} (x : IsTupN h a items) : IsTup h a items := by
  obtain ⟨o, h1, h2, h3⟩ := x
  exact ⟨o, h1, congrArg Prod.fst h2, h3⟩
theorem IsTupN.new (h : Heap) (vs : List Value) : IsTupN (h.push { cls := .type "tuple", data := .seq vs.toArray }) h.objs.size vs.toArray := ⟨_, Heap.get?_push_size h rfl, rfl, _, rfl⟩
def kV : Key → V
  | .inl i => .int i
  | .inr x => .str x
inductive HO where
  /-- a list -/
  | lst (xs : List V)
  /-- a tuple (never changes) -/
  | tup (xs : List V)
  /-- a dict whose keys are ints and texts; one whose keys are tuples of ints and texts (the empty one is both) -/
  | dK (kvs : List (Key × V)) | dT (kvs : List (List Key × V))
  /-- a set of ints: its members, its size -/
  | set (S : Int → Bool) (n : Nat)
  /-- an instance of the class at C, its dict at dx, its attributes -/
  | ins (C dx : Addr) (fs : List (Str × V))
  /-- the dict of the instance at x -/
  | own (x : Addr)
  /-- the dict of an exception -/
  | xd (fs : List (Str × V))
  /-- a bound method, f of x -/
  | met (f x : Addr)
  /-- a range object lo, lo + 1, .. below hi -/
  | rng (lo hi : Int)
  /-- a thing that is known to the object (the script; a dict while a loop walks it): read, never written while it is so -/
  | frz (o : Obj) (u : HO)
  /-- a code object's table -/
  | tbl (q : Str)
  /-- any other thing, by what is true of its one object (a def of one's own: SetO a S n := HO.ext fun h => ..) -/
  | ext (φ : Heap → Prop)
abbrev Hp := Addr → Option HO
def upd (H : Hp) (a : Addr) (o : HO) : Hp := fun b => if b = a then some o else H b
theorem upd_same {H : Hp} {a : Addr} {o : HO} : upd H a o a = some o := by unfold upd; rw [if_pos rfl]
theorem upd_ne {H : Hp} {a b : Addr} {o : HO} (h : b ≠ a) : upd H a o b = H b := by unfold upd; rw [if_neg h]
theorem ne_of {H : Hp} {a b : Addr} {o u : HO} (h : H a = some o) (h' : H b = some u) (d : o ≠ u) : a ≠ b := by
  intro e; subst e; rw [h] at h'; exact d (Option.some.inj h')
theorem ne_of_none {H : Hp} {a b : Addr} {o : HO} (h : H a = some o) (h' : H b = none) : a ≠ b := by
  intro e; subst e; rw [h] at h'; cases h'
section
variable (P : Program) (w : World)
def ObjOk (H : Hp) (h : Heap) (a : Addr) : HO → Prop
  | .lst xs => xs.length ≤ sizeLine ∧ ∃ (its : List Value) (n : Nat), Vals xs its ∧ h.get? a = some { cls := .type "list", data := .seq its.toArray n }
  | .tup xs => xs.length ≤ sizeLine ∧ ∃ its : List Value, Vals xs its ∧ IsTupN h a its.toArray
  | .dK kvs => kvs.length ≤ sizeLine ∧ (a == sysModules) = false ∧ ∃ vs, KV kvs vs ∧ h.DictOf (mixKind P w) a vs
  | .dT kvs => kvs.length ≤ sizeLine ∧ (a == sysModules) = false ∧ ∃ xs : List (List Key × Addr × Value),
      Paired (fun (p : List Key × V) (q : List Key × Addr × Value) => p.1 = q.1 ∧ H q.2.1 = some (.tup (p.1.map kV)) ∧ RelV p.2 q.2.2) kvs xs ∧
      ∃ o es ep, h.get? a = some o ∧ o.ExactDict ∧ o.data = .dict es ep ∧ es.toList = xs.map (entryOfKey (tupleKind (mixKind P w))) ∧ (xs.map (·.1)).Nodup
  | .set S n => h.SetOf (intKind P w) a S n
  | .ins C dx fs => H dx = some (.own a) ∧ fs.length ≤ 1000 ∧ dx ≠ a ∧ h.get? a = some (PySem.W.instObj C dx) ∧
      ∃ mA, h.Ns1 dx mA ∧ (∀ f, RelO (fs.lookup f) (mA f)) ∧ PySem.Within mA (fs.map (·.1))
  | .own _ => ∃ o, h.get? a = some o
  | .xd fs => ∃ mA, h.Ns1 a mA ∧ ∀ f, RelO (fs.lookup f) (mA f)
  | .rng lo hi => ∃ t u v, h.get? a = some { cls := .type "range", data := .fields #[.int lo t, .int hi u, .int 1 v] }
  | .frz o u => h.get? a = some o ∧ ObjOk H h a u
  | .tbl q => ∃ ps : Array Value, h.get? a = some { cls := .none, data := .fields ps } ∧ TriplesOk ps.toList ∧
      ∀ (pos : Pos) (v : Value), codeAmong pos ps.toList = some v → ∃ (c : Addr) (o : Obj) (vs : Array Value) (t : Tok), v = .ref c ∧ H c = some (.own a) ∧ h.get? c = some o ∧ o.data = .fields vs ∧ vs[1]? = some (.str q t)
  | .met f x => h.get? a = some (PySem.W.methodObj (.ref f) (.ref x))
  | .ext φ => φ h ∧ (∃ o, h.get? a = some o) ∧ ∀ h1 h2 : Heap, φ h1 → (∀ o, h1.get? a = some o → h2.get? a = some o) → φ h2
def HOk (H : Hp) (h : Heap) : Prop := ∀ a o, H a = some o → ObjOk P w H h a o
end
section
variable {P : Program} {w : World} {H H' : Hp} {h h' : Heap} {a : Addr} {o : HO}
theorem ObjOk.lt (x : ObjOk P w H h a o) : a < h.objs.size := by
  cases o with
  | lst xs => obtain ⟨_, _, _, _, e⟩ := x; exact Heap.lt_size e
  | tup xs => obtain ⟨_, _, _, p⟩ := x; exact p.t.lt
  | dK kvs => obtain ⟨_, _, _, _, o, _, _, e, _⟩ := x; exact Heap.lt_size e
  | dT kvs => obtain ⟨_, _, _, _, o, _, _, e, _⟩ := x; exact Heap.lt_size e
  | set S n => obtain ⟨o, _, _, _, e, _⟩ := x; exact Heap.lt_size e
  | ins C dx fs => obtain ⟨_, _, _, e, _⟩ := x; exact Heap.lt_size e
  | own y => obtain ⟨_, e⟩ := x; exact Heap.lt_size e
  | xd fs => obtain ⟨_, ⟨_, _, _, e, _⟩, _⟩ := x; exact Heap.lt_size e
  | rng lo hi => obtain ⟨_, _, _, e⟩ := x; exact Heap.lt_size e
  | frz ob u => obtain ⟨e, _⟩ := x; exact Heap.lt_size e
  | tbl q => obtain ⟨_, e, _⟩ := x; exact Heap.lt_size e
  | met f y => exact Heap.lt_size (show h.get? a = some _ from x)
  | ext φ => obtain ⟨_, ⟨_, e⟩, _⟩ := x; exact Heap.lt_size e
theorem Paired.mapP {α β : Type} {F G : α → β → Prop} : ∀ {l₁ : List α} {l₂ : List β}, Paired F l₁ l₂ → (∀ a b, F a b → G a b) → Paired G l₁ l₂
  | _, _, .nil, _ => .nil
  | _, _, .cons r t, f => .cons (f _ _ r) (Paired.mapP t f)
theorem ObjOk.stay (x : ObjOk P w H h a o) (k : ∀ b u, (b = a ∨ H b = some (.own a)) → h.get? b = some u → h'.get? b = some u)
    (ho : ∀ b, H b = some (.own a) → H' b = some (.own a)) (ht : ∀ b xs, H b = some (.tup xs) → H' b = some (.tup xs)) : ObjOk P w H' h' a o := by
  induction o with
  | lst xs => obtain ⟨z, its, n, r, e⟩ := x; exact ⟨z, its, n, r, k _ _ (.inl rfl) e⟩
  | tup xs => obtain ⟨z, its, r, ob, e, c⟩ := x; exact ⟨z, its, r, ob, k _ _ (.inl rfl) e, c⟩
  | dK kvs => obtain ⟨z, y, vs, r, ob, es, ep, e, c⟩ := x; exact ⟨z, y, vs, r, ob, es, ep, k _ _ (.inl rfl) e, c⟩
  | dT kvs =>
    obtain ⟨z, y, xs, r, ob, es, ep, e, c⟩ := x
    exact ⟨z, y, xs, Paired.mapP r fun p q z => ⟨z.1, ht _ _ z.2.1, z.2.2⟩, ob, es, ep, k _ _ (.inl rfl) e, c⟩
  | set S n => obtain ⟨ob, es, ep, t, e, c⟩ := x; exact ⟨ob, es, ep, t, k _ _ (.inl rfl) e, c⟩
  | ins C dx fs =>
    obtain ⟨d, z, ne, e, mA, ⟨od, es, ep, e2, c⟩, r⟩ := x
    exact ⟨ho _ d, z, ne, k _ _ (.inl rfl) e, mA, ⟨od, es, ep, k _ _ (.inr d) e2, c⟩, r⟩
  | own y => obtain ⟨ob, e⟩ := x; exact ⟨ob, k _ _ (.inl rfl) e⟩
  | xd fs => obtain ⟨mA, ⟨od, es, ep, e, c⟩, r⟩ := x; exact ⟨mA, ⟨od, es, ep, k _ _ (.inl rfl) e, c⟩, r⟩
  | rng lo hi => obtain ⟨t, u, v, e⟩ := x; exact ⟨t, u, v, k _ _ (.inl rfl) e⟩
  | frz ob u ih => obtain ⟨e, q⟩ := x; exact ⟨k _ _ (.inl rfl) e, ih q⟩
  | tbl q =>
    obtain ⟨ps, e, tr, r⟩ := x
    refine ⟨ps, k _ _ (.inl rfl) e, tr, fun pos v hv => ?_⟩
    obtain ⟨c, o, vs, t, e1, e2, e3, e4⟩ := r pos v hv
    exact ⟨c, o, vs, t, e1, ho _ e2, k _ _ (.inr e2) e3, e4⟩
  | met f y =>
    have e : h.get? a = some (PySem.W.methodObj (.ref f) (.ref y)) := x
    show h'.get? a = some (PySem.W.methodObj (.ref f) (.ref y))
    exact k a _ (.inl rfl) e
  | ext φ => obtain ⟨p, ⟨o, e⟩, st⟩ := x; exact ⟨st _ _ p fun o q => k _ _ (.inl rfl) q, ⟨o, k _ _ (.inl rfl) e⟩, st⟩
theorem HOk.lt (x : HOk P w H h) (e : H a = some o) : a < h.objs.size := (x a o e).lt
theorem HOk.fresh (x : HOk P w H h) (e : h.objs.size ≤ a) : H a = none := by
  cases q : H a with
  | none => rfl
  | some u => exact absurd (Nat.lt_of_lt_of_le (x.lt q) e) (Nat.lt_irrefl _)
theorem HOk.kept (x : HOk P w H h) (k : ∀ b u, h.get? b = some u → h'.get? b = some u) : HOk P w H h' := fun a o e =>
  (x a o e).stay (fun b u _ q => k b u q) (fun _ q => q) fun _ _ q => q
theorem HOk.laid (x : HOk P w H h) (k : ∀ b u, h.get? b = some u → h'.get? b = some u) (hp : h.objs.size ≤ a) (new : ObjOk P w (upd H a o) h' a o) : HOk P w (upd H a o) h' := fun b u e => by
  have hn := x.fresh hp
  by_cases hb : b = a
  · subst hb; rw [upd_same] at e; cases e; exact new
  · rw [upd_ne hb] at e
    exact (x b u e).stay (fun c v _ q => k c v q) (fun c q => by rw [upd_ne (ne_of_none q hn)]; exact q) fun c xs q => by rw [upd_ne (ne_of_none q hn)]; exact q
end
def Rd (H : Hp) (a : Addr) (u : HO) : Prop := H a = some u ∨ ∃ o, H a = some (.frz o u)
theorem Rd.of {H : Hp} {a : Addr} {u : HO} (h : H a = some u) : Rd H a u := .inl h
theorem Rd.ok {P : Program} {w : World} {H : Hp} {h : Heap} {a : Addr} {u : HO} (r : Rd H a u) (x : HOk P w H h) : ObjOk P w H h a u := by
  rcases r with r | ⟨o, r⟩
  · exact x a u r
  · obtain ⟨_, q⟩ := x a _ r
    exact q
def Mut : Option HO → Prop
  | some (.lst _) => True
  | some (.dK _) => True
  | some (.dT _) => True
  | some (.set _ _) => True
  | some (.ins _ _ _) => True
  | some (.ext _) => True
  | _ => False
section
variable {P : Program} {w : World} {H : Hp} {h h' : Heap} {x e : Addr} {o' : HO}
theorem HOk.write (ok : HOk P w H h) (mu : Mut (H x)) (he : e = x ∨ H e = some (.own x)) (k : ∀ b u, b ≠ e → h.get? b = some u → h'.get? b = some u) (heo : ∃ u, h'.get? e = some u)
    (new : ObjOk P w (upd H x o') h' x o') : HOk P w (upd H x o') h' := fun b u q => by
  have nown : ∀ c y, H c = some (.own y) → c ≠ x := fun c y r z => by subst z; rw [r] at mu; exact mu
  have ntup : ∀ c xs, H c = some (.tup xs) → c ≠ x := fun c xs r z => by subst z; rw [r] at mu; exact mu
  by_cases hb : b = x
  · subst hb; rw [upd_same] at q; cases q; exact new
  · rw [upd_ne hb] at q
    by_cases hbe : b = e
    · have q' : H b = some (.own x) := by
        rcases he with z | z
        · exact absurd (hbe.trans z) hb
        · rw [hbe]; exact z
      rw [q] at q'; cases q'
      obtain ⟨v, hv⟩ := heo
      exact ⟨v, by rw [hbe]; exact hv⟩
    · refine (ok b u q).stay (fun c v hc r => k c v ?_ r) (fun c r => by rw [upd_ne (nown c b r)]; exact r) fun c xs r => by rw [upd_ne (ntup c xs r)]; exact r
      rcases hc with rfl | hc
      · exact hbe
      · rintro rfl
        rcases he with z | z
        · exact nown c b hc z
        · rw [hc] at z; cases z; exact hb rfl
end
structure Un (fs ex : List Addr) (H H' : Hp) (h h' : Heap) : Prop where
  keep : ∀ b o, h.get? b = some o → H b = none → b ∉ fs → b ∉ ex → h'.get? b = some o
  slot : ∀ b o, h.get? b = some o → H b = none → b ∈ fs → b ∉ ex → ∃ sl, h'.get? b = some { o with slots := sl }
  free : ∀ b o, h.get? b = some o → H b = none → b ∉ ex → H' b = none
  there : ∀ b o, h.get? b = some o → b ∉ ex → ∃ o', h'.get? b = some o'
  tups : ∀ b xs, H b = some (.tup xs) → H' b = some (.tup xs)
  frzs : ∀ b o u, H b = some (.frz o u) → H' b = some (.frz o u)
  tbls : ∀ b q, H b = some (.tbl q) → H' b = some (.tbl q)
section
variable {fs fs' ex ex' : List Addr} {H H1 H2 : Hp} {h h1 h2 h' : Heap} {a x e : Addr} {o : HO}
theorem Un.any (u : Un fs ex H H1 h h1) {b : Addr} {ob : Obj} (q : h.get? b = some ob) (n : H b = none) (hx : b ∉ ex) : ∃ sl, h1.get? b = some { ob with slots := sl } := by
  by_cases hb : b ∈ fs
  · exact u.slot b ob q n hb hx
  · exact ⟨ob.slots, u.keep b ob q n hb hx⟩
theorem Un.trans (a : Un fs ex H H1 h h1) (b : Un fs ex H1 H2 h1 h2) : Un fs ex H H2 h h2 where
  keep := fun c ob q n hc hx => b.keep c ob (a.keep c ob q n hc hx) (a.free c ob q n hx) hc hx
  slot := fun c ob q n hc hx => by
    obtain ⟨sl, e1⟩ := a.slot c ob q n hc hx
    obtain ⟨sl', e2⟩ := b.slot c _ e1 (a.free c ob q n hx) hc hx
    exact ⟨sl', e2⟩
  free := fun c ob q n hx => by
    obtain ⟨o', e1⟩ := a.there c ob q hx
    exact b.free c o' e1 (a.free c ob q n hx) hx
  there := fun c ob q hx => by
    obtain ⟨o', e1⟩ := a.there c ob q hx
    exact b.there c o' e1 hx
  tups := fun c xs q => b.tups c xs (a.tups c xs q)
  frzs := fun c ob xs q => b.frzs c ob xs (a.frzs c ob xs q)
  tbls := fun c xs q => b.tbls c xs (a.tbls c xs q)
theorem Un.kept (k : ∀ b u, h.get? b = some u → h'.get? b = some u) : Un fs ex H H h h' :=
  ⟨fun b ob q _ _ _ => k b ob q, fun b ob q _ _ _ => ⟨ob.slots, k b ob q⟩, fun _ _ _ n _ => n, fun b ob q _ => ⟨ob, k b ob q⟩, fun _ _ q => q, fun _ _ _ q => q, fun _ _ q => q⟩
theorem Un.refl : Un fs ex H H h h := Un.kept fun _ _ q => q
theorem Un.laid (k : ∀ b u, h.get? b = some u → h'.get? b = some u) (hp : h.objs.size ≤ a) (hn : H a = none) : Un fs ex H (upd H a o) h h' where
  keep := fun b u q _ _ _ => k b u q
  slot := fun b u q _ _ _ => ⟨u.slots, k b u q⟩
  free := fun b u q n _ => by rw [upd_ne (Nat.ne_of_lt (Nat.lt_of_lt_of_le (Heap.lt_size q) hp))]; exact n
  there := fun b u q _ => ⟨u, k b u q⟩
  tups := fun b xs q => by rw [upd_ne (ne_of_none q hn)]; exact q
  frzs := fun b u xs q => by rw [upd_ne (ne_of_none q hn)]; exact q
  tbls := fun b ps q => by rw [upd_ne (ne_of_none q hn)]; exact q
theorem Un.write (mu : Mut (H x)) (he : e = x ∨ H e = some (.own x)) (k : ∀ b u, b ≠ e → h.get? b = some u → h'.get? b = some u) (heo : ∃ u, h'.get? e = some u) : Un fs ex H (upd H x o) h h' := by
  have hx : ∀ b, H b = none → b ≠ x := fun b n z => by subst z; rw [n] at mu; exact mu
  have hb : ∀ b, H b = none → b ≠ e := fun b n z => by
    subst z
    rcases he with r | r
    · exact hx b n r
    · rw [n] at r; cases r
  have hm : ∀ b u, H b = some u → ¬ Mut (some u) → b ≠ x := fun b u q nm z => by subst z; rw [q] at mu; exact nm mu
  refine ⟨fun b u q n _ _ => k b u (hb b n) q, fun b u q n _ _ => ⟨u.slots, k b u (hb b n) q⟩, fun b u q n _ => by rw [upd_ne (hx b n)]; exact n, fun b u q _ => ?_,
    fun b xs q => by rw [upd_ne (hm b _ q fun z => z)]; exact q, fun b u xs q => by rw [upd_ne (hm b _ q fun z => z)]; exact q, fun b ps q => by rw [upd_ne (hm b _ q fun z => z)]; exact q⟩
  by_cases hbe : b = e
  · subst hbe; exact heo
  · exact ⟨u, k b u hbe q⟩
theorem Un.mono (u : Un fs ex H H1 h h1) (hs : ∀ b ∈ fs, b ∈ fs') (hx : ∀ b ∈ ex, b ∈ ex') : Un fs' ex' H H1 h h1 :=
  ⟨fun b ob q n hb he => u.keep b ob q n (fun z => hb (hs b z)) fun z => he (hx b z), fun _ _ q n _ he => u.any q n fun z => he (hx _ z), fun b ob q n he => u.free b ob q n fun z => he (hx b z), fun b ob q he => u.there b ob q fun z => he (hx b z), u.tups, u.frzs, u.tbls⟩
end
def trk (h : Heap) (H : Hp) : List Addr := (List.range h.objs.size).filter fun a => (H a).isSome
def hidT (h : Heap) (H : Hp) : Heap := PySem.W.hideAll h (trk h H)
theorem hidT_size (h : Heap) (H : Hp) : (hidT h H).objs.size = h.objs.size := PySem.W.hideAll_size _ _
theorem hidT_get {h : Heap} {H : Hp} {b : Addr} {o : Obj} (e : h.get? b = some o) (n : H b = none) : (hidT h H).get? b = some o :=
  PySem.W.hideAll_get _ e fun hm => by
    have q : (H b).isSome = true := (List.mem_filter.mp hm).2
    rw [n] at q; simp at q
theorem of_hidT {h : Heap} {H : Hp} {b : Addr} {o : Obj} (e : (hidT h H).get? b = some o) : h.get? b = some o ∧ H b = none := by
  have e' : h.get? b = some o := PySem.W.of_hideAll (trk h H) e
  refine ⟨e', ?_⟩
  cases q : H b with
  | none => rfl
  | some x =>
    have hm : b ∈ trk h H := List.mem_filter.mpr ⟨List.mem_range.mpr (Heap.lt_size e'), by simp [q]⟩
    have z : (hidT h H).get? b = none := PySem.W.hideAll_none (trk h H) hm
    rw [z] at e; cases e
def allNews (g h : Heap) (L : Addr) : List (Addr × Obj) := (List.range h.objs.size).filterMap fun a => if a = L ∨ (g.get? a).isSome = true then none else (h.get? a).map fun o => (a, o)
def rest (g h : Heap) (L d : Addr) : List (Addr × Obj) := (allNews g h L).filter fun p => decide (p.1 ≠ d)
end L2
namespace L2
open PySem PySem.Spec PyProof.Rows
structure Mod (K : PySem.W.Frag) (mg : Str → Option Value) (base : Heap) : Prop where
  kin : K.In base
  glob : base.Ns mainGlobals mg
  blt : ∃ mb, base.Ns builtinsNs mb ∧ ∀ x : Str, x ≠ "__name__" → mb x = bootBuiltins x
  nolimit : base.NoLimit
  bmain : ∃ bm ob, mg "__builtins__" = some (.ref bm) ∧ bm ≠ builtinsNs ∧ base.get? bm = some ob ∧ ob.cls = .type "module" ∧ ob.dict = some builtinsNs ∧ ob.data = .plain
structure Cx where
  prog : Program
  w : World
  K : PySem.W.Frag
  mg : Str → Option Value
  base : Heap
  A : Around
  N : List Str
  s_0 : Shared
  H_0 : Hp
  env : Env
  outer : List Env
  stack : List Env
  ex : List Addr
  fn : Str → Bool
  calm : Bool
  hush : Bool
  pn : List (Addr × Obj)
  xe : Value → Shared → Prop
def frs (l : List Env) : List Addr := l.filterMap (·.frame)
abbrev Cx.fs (X : Cx) : List Addr := frs X.outer
def Vis (sc : Scope) (x : Str) : Prop := sc.names.lookup x = some .local ∨ sc.names.lookup x = some .cell ∨ sc.names.lookup x = some .free
def Loc (sc : Scope) (x : Str) : Prop := sc.names.lookup x = some .local ∨ sc.names.lookup x = some .cell
def Look (env : Env) (h : Heap) (m : Str → Option Value) (x : Str) (u : Value) : Prop :=
  (env.kindOf x = some .local ∧ m x = some u) ∨ ((env.kindOf x = some .cell ∨ env.kindOf x = some .free) ∧ ∃ c, env.cells.lookup x = some c ∧ h.IsCell c (some u))
def lamIn : Expr → Bool
  | .Call _ _ kws _ => kws.any fun k => match k.value with | .Lambda .. => true | _ => false
  | _ => false
def hasLam : FuncBody → Bool
  | .stmts ss => ss.any fun s => match s with
    | .Return (some e) _ => lamIn e
    | .Assign _ e _ => lamIn e
    | _ => false
  | .expr _ => false
def tabOf1 (K : PySem.W.Frag) (o : Obj) : Option (Addr × Addr × Str) := match o.data with
  | .func fd => if hasLam fd.body then (match fd.code with
    | .ref c => (match K.lookup c with
      | some ⟨_, _, .fields vs, _⟩ => (match (vs[11]? : Option Value) with
        | some (.ref P) => some (c, P, fd.qualname ++ ".<locals>." ++ "<lambda>")
        | _ => none)
      | _ => none)
    | _ => none) else none
  | _ => none
def tabsOf (K : PySem.W.Frag) : List (Addr × Addr × Str) := K.filterMap fun p => tabOf1 K p.2
def TabsOk (K : PySem.W.Frag) (H : Hp) : Prop := ∀ p ∈ tabsOf K, H p.2.1 = some (.tbl p.2.2)
theorem TabsOk.un {K : PySem.W.Frag} {fs ex : List Addr} {H H' : Hp} {h h' : Heap} (t : TabsOk K H) (u : Un fs ex H H' h h') : TabsOk K H' := fun p hp => u.tbls _ _ (t p hp)
def Hush (A : Around) (H : Hp) : Prop := A.handled = none ∨ ∃ e oe vs, A.handled = some (.ref e) ∧ H e = some (.frz oe (.own 0)) ∧ oe.data = .fields vs ∧ vs[2]? = some .none
structure Cx.Ok (X : Cx) : Prop where
  mod : Mod X.K X.mg X.base
  kind : X.env.scope.kind = .function
  glob : X.env.globals = mainGlobals
  blt : X.env.builtins = builtinsNs
  above : X.s_0.heap.objs.size ≤ X.env.locals
  inj : ∀ x y c, X.env.cells.lookup x = some c → X.env.cells.lookup y = some c → x = y
  has : ∀ x, (X.env.kindOf x = some .cell ∨ X.env.kindOf x = some .free) → ∃ c, X.env.cells.lookup x = some c
  cab : ∀ x c, X.fn x = true → X.env.cells.lookup x = some c → X.s_0.heap.objs.size ≤ c
  hd : X.calm = true → X.A.handled = none
  hh : X.hush = true → Hush X.A X.H_0
  tab : TabsOk X.K X.H_0
  frames : X.A.frames = some X.stack
  stk : X.stack = X.outer ∨ (X.stack = X.env :: X.outer ∧ X.env.frame = some X.env.locals)
  exf : ∀ b ∈ X.ex, b ≠ X.env.locals ∧ ∀ x c, X.env.cells.lookup x = some c → c ≠ b
  bs : ∀ b o, X.base.get? b = some o → X.s_0.heap.get? b = some o ∧ X.H_0 b = none
  bsz : X.base.objs.size ≤ X.s_0.heap.objs.size
  noex : ∀ b o, X.base.get? b = some o → b ∉ X.ex
  exfs : ∀ b ∈ X.ex, b ∉ X.fs
  funs : X.s_0.heap.FunFrames X.base X.outer
  frf : ∀ b ∈ X.fs, X.H_0 b = none
structure Inv (X : Cx) (pins : List (Addr × Obj)) (σ : List (Option V)) (H : Hp) (s : Shared) : Prop where
  ok : X.Ok
  os : s.os = X.s_0.os
  bare : AllBare s.gens
  base : Un X.fs X.ex X.H_0 H X.s_0.heap s.heap
  loc : ∃ m, s.heap.Ns X.env.locals m ∧ ∀ (i : Nat) (x : Str) (v : V), X.N[i]? = some x → σ[i]? = some (some v) → Vis X.env.scope x → ∃ u, RelV v u ∧ Look X.env s.heap m x u
  cell : ∀ x c, X.env.cells.lookup x = some c → ∃ v, s.heap.IsCell c v
  free : H X.env.locals = none
  freeC : ∀ x c, X.env.cells.lookup x = some c → H c = none
  pin : ∀ p ∈ X.pn ++ pins, s.heap.get? p.1 = some p.2 ∧ H p.1 = none ∧ p.1 ≠ X.env.locals ∧ p.1 ∉ X.fs ∧ ∀ v, p.2.data ≠ .cell v
  hok : HOk X.prog X.w H s.heap
  len : σ.length = X.N.length
section
variable {X : Cx} {pins : List (Addr × Obj)} {σ : List (Option V)} {H H' : Hp} {s : Shared} {h' : Heap}
theorem Inv.hush (I : Inv X pins σ H s) (h : X.hush = true) : Hush X.A H :=
  (I.ok.hh h).elim .inl fun ⟨e, oe, vs, a, b, c, d⟩ => .inr ⟨e, oe, vs, a, I.base.frzs _ _ _ b, c, d⟩
theorem Inv.tabs (I : Inv X pins σ H s) : TabsOk X.K H := I.ok.tab.un I.base
theorem Cx.Ok.nofr (ok : X.Ok) {b : Addr} {o : Obj} (e : X.base.get? b = some o) : b ∉ X.fs := fun hb => by
  have := (ok.funs.mem hb).1
  rw [e] at this; cases this
theorem Inv.bs (I : Inv X pins σ H s) : ∀ b o, X.base.get? b = some o → s.heap.get? b = some o ∧ H b = none := fun b o e =>
  ⟨I.base.keep b o (I.ok.bs b o e).1 (I.ok.bs b o e).2 (I.ok.nofr e) (I.ok.noex b o e), I.base.free b o (I.ok.bs b o e).1 (I.ok.bs b o e).2 (I.ok.noex b o e)⟩
theorem Inv.bk (I : Inv X pins σ H s) : ∀ b o, X.base.get? b = some o → s.heap.get? b = some o := fun b o e => (I.bs b o e).1
theorem Inv.mod (I : Inv X pins σ H s) : Mod X.K X.mg X.base := I.ok.mod
theorem Inv.kIn (I : Inv X pins σ H s) : X.K.In s.heap := I.ok.mod.kin.keeps I.bk
theorem Inv.fr (I : Inv X pins σ H s) : ∃ m, Fr X.base X.env.locals s.heap m :=
  let ⟨m, hn, _⟩ := I.loc
  ⟨m, hn, I.bk, Nat.le_trans I.ok.bsz I.ok.above⟩
theorem Inv.lt (I : Inv X pins σ H s) : X.env.locals < s.heap.objs.size := let ⟨_, hn, _⟩ := I.loc; hn.lt
theorem Inv.sz (I : Inv X pins σ H s) : X.s_0.heap.objs.size ≤ s.heap.objs.size := Nat.le_trans I.ok.above (Nat.le_of_lt I.lt)
theorem Inv.nofs (I : Inv X pins σ H s) {a : Addr} (h : s.heap.objs.size ≤ a) : a ∉ X.fs := fun hb => by
  obtain ⟨_, o, ho, _⟩ := I.ok.funs.mem hb
  exact absurd (Nat.lt_of_lt_of_le (Heap.lt_size ho) (Nat.le_trans I.sz h)) (Nat.lt_irrefl _)
theorem Inv.cne (I : Inv X pins σ H s) : ∀ x c, X.env.cells.lookup x = some c → c ≠ X.env.locals := fun x c e z => by
  obtain ⟨v, o, ho, hd⟩ := I.cell x c e
  obtain ⟨m, ⟨o', es, ep, ho', hd', _⟩, _⟩ := I.loc
  rw [z, ho'] at ho; cases ho; rw [hd'] at hd; cases hd
theorem Inv.funs (I : Inv X pins σ H s) : s.heap.FunFrames X.base X.outer := by
  have all : ∀ (l : List Env), (∀ b ∈ frs l, b ∈ X.fs) → X.s_0.heap.FunFrames X.base l → s.heap.FunFrames X.base l := by
    intro l
    induction l with
    | nil => intro _ _; trivial
    | cons env r ih =>
      intro hs hl
      obtain ⟨hk, ⟨L, o, hf, hn, ho, hd⟩, hr⟩ := hl
      have hL : L ∈ X.fs := hs L (by unfold frs; rw [List.filterMap_cons, hf]; exact List.mem_cons_self)
      obtain ⟨sl, e⟩ := I.base.slot L o ho (I.ok.frf L hL) hL fun z => I.ok.exfs L z hL
      exact ⟨hk, ⟨L, _, hf, hn, e, hd⟩, ih (fun b hb => hs b (by unfold frs; rw [List.filterMap_cons, hf]; exact List.mem_cons_of_mem _ hb)) hr⟩
  exact all X.outer (fun _ hb => hb) I.ok.funs
theorem Inv.stack (I : Inv X pins σ H s) : s.heap.FunFrames X.base X.stack := by
  rcases I.ok.stk with e | ⟨e, hf⟩
  · rw [e]; exact I.funs
  · rw [e]
    obtain ⟨m, hn, _⟩ := I.loc
    refine .cons (by rw [I.ok.kind]; decide) hf hn ?_ I.funs
    exact Heap.get?_none_of_le (Nat.le_trans I.ok.bsz I.ok.above)
theorem Inv.stkSub (I : Inv X pins σ H s) : ∀ b ∈ frs X.stack, b ∈ X.env.locals :: X.fs := fun b hb => by
  rcases I.ok.stk with e | ⟨e, hf⟩
  · rw [e] at hb; exact List.mem_cons_of_mem _ hb
  · rw [e] at hb
    unfold frs at hb
    rw [List.filterMap_cons, hf] at hb
    exact hb
theorem Inv.stkFree (I : Inv X pins σ H s) : ∀ b ∈ frs X.stack, H b = none := fun b hb => by
  rcases List.mem_cons.mp (I.stkSub b hb) with e | hb
  · rw [e]; exact I.free
  · obtain ⟨_, o, ho, _⟩ := I.ok.funs.mem hb
    exact I.base.free b o ho (I.ok.frf b hb) fun z => I.ok.exfs b z hb
theorem Inv.step {g' : Array GenState} {t' : Nat} {d' : Drawn} {ch : List Addr} (I : Inv X pins σ H s)
    (hch : ∀ b ∈ ch, (b ∈ X.ex ∨ X.s_0.heap.objs.size ≤ b) ∧ b ≠ X.env.locals ∧ (∀ x c, X.env.cells.lookup x = some c → c ≠ b) ∧ ∀ p ∈ X.pn ++ pins, p.1 ≠ b)
    (keep : ∀ b o, b ≠ X.env.locals → b ∉ X.fs → b ∉ ch → s.heap.get? b = some o → H b = none → h'.get? b = some o)
    (slot : ∀ b o, b ≠ X.env.locals → b ∈ X.fs → b ∉ ch → s.heap.get? b = some o → H b = none → ∃ sl, h'.get? b = some { o with slots := sl }) (free : ∀ b o, b ∉ ch → s.heap.get? b = some o → H b = none → H' b = none)
    (there : ∀ b o, b ∉ ch → s.heap.get? b = some o → ∃ o', h'.get? b = some o')
    (tups : ∀ b xs, H b = some (.tup xs) → H' b = some (.tup xs)) (frzs : ∀ b o u, H b = some (.frz o u) → H' b = some (.frz o u)) (tbls : ∀ b q, H b = some (.tbl q) → H' b = some (.tbl q))
    (ns : ∀ m, s.heap.Ns X.env.locals m → h'.Ns X.env.locals m) (hok : HOk X.prog X.w H' h') (hg : AllBare g') :
    Inv X pins σ H' { s with heap := h', gens := g', drawn := d', toks := t' } := by
  have neL : ∀ b o, X.s_0.heap.get? b = some o → b ≠ X.env.locals := fun b o e => Nat.ne_of_lt (Nat.lt_of_lt_of_le (Heap.lt_size e) I.ok.above)
  have neC : ∀ b o, X.s_0.heap.get? b = some o → b ∉ X.ex → b ∉ ch := fun b o e hx hb => by
    rcases (hch b hb).1 with z | z
    · exact hx z
    · exact absurd (Nat.lt_of_lt_of_le (Heap.lt_size e) z) (Nat.lt_irrefl _)
  have cellK : ∀ x c, X.env.cells.lookup x = some c → ∀ v, s.heap.IsCell c v → h'.IsCell c v := fun x c e v ⟨o, ho, hd⟩ => by
    have nch : c ∉ ch := fun z => (hch c z).2.2.1 x c e rfl
    by_cases hc : c ∈ X.fs
    · obtain ⟨sl, q⟩ := slot c o (I.cne x c e) hc nch ho (I.freeC x c e)
      exact ⟨_, q, hd⟩
    · exact ⟨o, keep c o (I.cne x c e) hc nch ho (I.freeC x c e), hd⟩
  refine ⟨I.ok, I.os, hg, ⟨fun b o e n hb hx => ?_, fun b o e n hb hx => ?_, fun b o e n hx => ?_, fun b o e hx => ?_, fun b xs e => tups b xs (I.base.tups b xs e), fun b o xs e => frzs b o xs (I.base.frzs b o xs e), fun b ps e => tbls b ps (I.base.tbls b ps e)⟩, ?_, fun x c e => ?_, ?_, fun x c e => ?_, fun p hp => ?_, hok, I.len⟩
  · exact keep b o (neL b o e) hb (neC b o e hx) (I.base.keep b o e n hb hx) (I.base.free b o e n hx)
  · obtain ⟨sl, e1⟩ := I.base.slot b o e n hb hx
    obtain ⟨sl', e2⟩ := slot b _ (neL b o e) hb (neC b o e hx) e1 (I.base.free b o e n hx)
    exact ⟨sl', e2⟩
  · obtain ⟨o', e1⟩ := I.base.there b o e hx
    exact free b o' (neC b o e hx) e1 (I.base.free b o e n hx)
  · obtain ⟨o', e1⟩ := I.base.there b o e hx
    exact there b o' (neC b o e hx) e1
  · obtain ⟨m, hn, hl⟩ := I.loc
    refine ⟨m, ns m hn, fun i x v e1 e2 e3 => ?_⟩
    obtain ⟨u, r, l⟩ := hl i x v e1 e2 e3
    refine ⟨u, r, ?_⟩
    rcases l with l | ⟨k, c, e, z⟩
    · exact .inl l
    · exact .inr ⟨k, c, e, cellK x c e _ z⟩
  · obtain ⟨v, z⟩ := I.cell x c e
    exact ⟨v, cellK x c e v z⟩
  · obtain ⟨m, ⟨o, _, _, ho, _⟩, _⟩ := I.loc
    exact free _ o (fun z => (hch _ z).2.1 rfl) ho I.free
  · obtain ⟨v, o, ho, hd⟩ := I.cell x c e
    exact free c o (fun z => (hch c z).2.2.1 x c e rfl) ho (I.freeC x c e)
  · obtain ⟨e, n, ne, nf, d⟩ := I.pin p hp
    have nch : p.1 ∉ ch := fun z => (hch p.1 z).2.2.2 p hp rfl
    exact ⟨keep p.1 p.2 ne nf nch e n, free p.1 p.2 nch e n, ne, nf, d⟩
theorem Inv.un {t' : Nat} (I : Inv X pins σ H s) (u : Un X.fs [] H H' s.heap h') (hok : HOk X.prog X.w H' h') : Inv X pins σ H' { s with heap := h', toks := t' } := by
  obtain ⟨m, ⟨o, es, ep, ho, r⟩, _⟩ := id I.loc
  obtain ⟨sl, hL⟩ := u.any ho I.free (by simp)
  exact I.step (g' := s.gens) (d' := s.drawn) (ch := []) (fun _ z => nomatch z) (fun b o _ hb _ e n => u.keep b o e n hb (by simp)) (fun b o _ hb _ e n => u.slot b o e n hb (by simp)) (fun b o _ e n => u.free b o e n (by simp)) (fun b o _ e => u.there b o e (by simp)) u.tups u.frzs u.tbls (fun m' hm => by
    obtain ⟨o', es', ep', ho', r'⟩ := hm
    rw [ho] at ho'; cases ho'
    exact ⟨_, es', ep', hL, r'⟩) hok I.bare
theorem Inv.call {g' : Array GenState} {t' : Nat} {d' : Drawn} {ch : List Addr} (I : Inv X pins σ H s) (u : Un (frs X.stack) ch H H' s.heap h') (hok : HOk X.prog X.w H' h') (hg : AllBare g')
    (hch : ∀ b ∈ ch, (b ∈ X.ex ∨ X.s_0.heap.objs.size ≤ b) ∧ b ≠ X.env.locals ∧ (∀ x c, X.env.cells.lookup x = some c → c ≠ b) ∧ ∀ p ∈ X.pn ++ pins, p.1 ≠ b) :
    Inv X pins σ H' { s with heap := h', gens := g', drawn := d', toks := t' } := by
  obtain ⟨m, ⟨o, es, ep, ho, r⟩, _⟩ := id I.loc
  obtain ⟨sl, hL⟩ := u.any ho I.free fun z => (hch _ z).2.1 rfl
  exact I.step (ch := ch) hch (fun b o hL hb hc e n => u.keep b o e n (fun z => (List.mem_cons.mp (I.stkSub b z)).elim hL hb) hc) (fun b o _ _ hc e n => u.any e n hc) (fun b o hc e n => u.free b o e n hc) (fun b o hc e => u.there b o e hc) u.tups u.frzs u.tbls (fun m' hm => by
    obtain ⟨o', es', ep', ho', r'⟩ := hm
    rw [ho] at ho'; cases ho'
    exact ⟨_, es', ep', hL, r'⟩) hok hg
theorem Inv.turned {t' : Nat} {it : Addr} (I : Inv X pins σ H s) (k : ∀ b o, b ≠ it → s.heap.get? b = some o → h'.get? b = some o) (hn : H it = none) (hL : it ≠ X.env.locals)
    (h1 : it ∈ X.ex ∨ X.s_0.heap.objs.size ≤ it) (h2 : ∀ x c, X.env.cells.lookup x = some c → c ≠ it) (h3 : ∀ p ∈ X.pn ++ pins, p.1 ≠ it) : Inv X pins σ H { s with heap := h', toks := t' } := by
  have nit : ∀ b u, H b = some u → b ≠ it := fun b u e z => by rw [z, hn] at e; cases e
  refine I.step (g' := s.gens) (d' := s.drawn) (ch := [it]) (fun b hb => ?_) (fun b o _ _ hc e _ => k b o (fun z => hc (by simp [z])) e) (fun b o _ _ hc e _ => ⟨o.slots, k b o (fun z => hc (by simp [z])) e⟩) (fun _ _ _ _ n => n)
    (fun b o hc e => ⟨o, k b o (fun z => hc (by simp [z])) e⟩) (fun _ _ e => e) (fun _ _ _ e => e) (fun _ _ e => e) (fun m hm => ?_) (fun b u e => ?_) I.bare
  · have e : b = it := by simpa using hb
    subst e
    exact ⟨h1, hL, h2, h3⟩
  · obtain ⟨o, es, ep, ho, r⟩ := hm
    exact ⟨o, es, ep, k _ o (Ne.symm hL) ho, r⟩
  · refine (I.hok b u e).stay (fun c v hc q => k c v ?_ q) (fun _ q => q) fun _ _ q => q
    rcases hc with z | z
    · rw [z]; exact nit b u e
    · exact nit c _ z
theorem Inv.tok (I : Inv X pins σ H s) (t : Nat) : Inv X pins σ H { s with toks := t } := I.un (h' := s.heap) (t' := t) Un.refl I.hok
theorem Inv.kept {t' : Nat} (I : Inv X pins σ H s) (k : ∀ b u, s.heap.get? b = some u → h'.get? b = some u) : Inv X pins σ H { s with heap := h', toks := t' } := I.un (Un.kept k) (I.hok.kept k)
theorem Inv.laid {a : Addr} {o : HO} {t' : Nat} (I : Inv X pins σ H s) (k : ∀ b u, s.heap.get? b = some u → h'.get? b = some u) (hp : s.heap.objs.size ≤ a) (new : ObjOk X.prog X.w (upd H a o) h' a o) :
    Inv X pins σ (upd H a o) { s with heap := h', toks := t' } := I.un (Un.laid k hp (I.hok.fresh hp)) (I.hok.laid k hp new)
theorem Inv.write {x e : Addr} {o : HO} {t' : Nat} (I : Inv X pins σ H s) (mu : Mut (H x)) (he : e = x ∨ H e = some (.own x)) (k : ∀ b u, b ≠ e → s.heap.get? b = some u → h'.get? b = some u) (heo : ∃ u, h'.get? e = some u)
    (new : ObjOk X.prog X.w (upd H x o) h' x o) : Inv X pins σ (upd H x o) { s with heap := h', toks := t' } := I.un (Un.write mu he k heo) (I.hok.write mu he k heo new)
theorem Inv.weak {σ' : List (Option V)} (I : Inv X pins σ H s) (hl : σ'.length = σ.length) (w : ∀ (i : Nat) v, σ'[i]? = some (some v) → σ[i]? = some (some v)) : Inv X pins σ' H s :=
  ⟨I.ok, I.os, I.bare, I.base, let ⟨m, hn, hl'⟩ := I.loc; ⟨m, hn, fun i x v e1 e2 e3 => hl' i x v e1 (w i v e2) e3⟩, I.cell, I.free, I.freeC, I.pin, I.hok, hl.trans I.len⟩
theorem Inv.pins_of {pins' : List (Addr × Obj)} (I : Inv X pins σ H s) (h : ∀ p ∈ pins', s.heap.get? p.1 = some p.2 ∧ H p.1 = none ∧ p.1 ≠ X.env.locals ∧ p.1 ∉ X.fs ∧ ∀ v, p.2.data ≠ .cell v) : Inv X pins' σ H s :=
  ⟨I.ok, I.os, I.bare, I.base, I.loc, I.cell, I.free, I.freeC, fun p hp => (List.mem_append.mp hp).elim (fun z => I.pin p (List.mem_append_left _ z)) (h p), I.hok, I.len⟩
theorem nodup_ix {N : List Str} (hN : N.Nodup) {i j : Nat} {x : Str} (a : N[i]? = some x) (b : N[j]? = some x) : i = j := by
  obtain ⟨h1, e1⟩ := List.getElem?_eq_some_iff.mp a
  obtain ⟨h2, e2⟩ := List.getElem?_eq_some_iff.mp b
  exact (List.getElem_inj hN).mp (e1.trans e2.symm)
theorem store_ok2 {M : Model} {A : Around} {E : Value → Shared → Prop} {i : Nat} {x : Str} {v : V} {u : Value} {Q : Unit → Shared → Prop} (I : Inv X pins σ H s) (hN : X.N.Nodup) (hi : X.N[i]? = some x) (hx : Loc X.env.scope x) (r : RelV v u)
    (h : ∀ s', Inv X pins (σ.set i (some v)) H s' → (∃ a, Heap.SameBut a s.heap s'.heap ∧ (a = X.env.locals ∨ X.env.cells.lookup x = some a)) → Q () s') (hf : X.fn x = true ∨ X.env.scope.names.lookup x = some .local := by first | exact .inl rfl | exact .inr rfl | assumption) : wpAny M A (storeName X.env x u) Q E s := by
  obtain ⟨m, hn, hl⟩ := id I.loc
  have hcls : (X.env.scope.kind == .class || (X.env.scope.kind == .module && X.env.locals != X.env.globals)) = false := by rw [I.ok.kind]; rfl
  have hiσ : i < σ.length := by rw [I.len]; exact (List.getElem?_eq_some_iff.mp hi).1
  have cne := I.cne
  have tracked : ∀ {a : Addr} {h' : Heap}, (∃ o, s.heap.get? a = some o ∧ H a = none) → Heap.SameBut a s.heap h' → HOk X.prog X.w H h' := fun {a h'} ha hs b ob e => by
    obtain ⟨_, _, hfree⟩ := ha
    refine (I.hok b ob e).stay (fun c w' hc q => (hs.2 c ?_).trans q) (fun _ q => q) fun _ _ q => q
    rintro rfl
    rcases hc with rfl | hc
    · rw [hfree] at e; cases e
    · rw [hfree] at hc; cases hc
  rcases hx with hk | hk
  · refine wpAny_storeName_local hk hn (fun h' hn' hs => ?_) hcls
    obtain ⟨oL, _, _, hoL, _⟩ := id hn
    refine h _ ⟨I.ok, I.os, I.bare, ⟨fun b o e n hb hx => ?_, fun b o e n hb hx => ?_, I.base.free, fun b o e hx => ?_, I.base.tups, I.base.frzs, I.base.tbls⟩, ⟨_, hn', fun j y v' e1 e2 e3 => ?_⟩, fun y c e => ?_, I.free, I.freeC, fun p hp => ?_, tracked ⟨oL, hoL, I.free⟩ hs, by simpa using I.len⟩ ⟨_, hs, .inl rfl⟩
    · exact (hs.2 b (Nat.ne_of_lt (Nat.lt_of_lt_of_le (Heap.lt_size e) I.ok.above))).trans (I.base.keep b o e n hb hx)
    · obtain ⟨sl, e1⟩ := I.base.slot b o e n hb hx
      exact ⟨sl, (hs.2 b (Nat.ne_of_lt (Nat.lt_of_lt_of_le (Heap.lt_size e) I.ok.above))).trans e1⟩
    · obtain ⟨o', e1⟩ := I.base.there b o e hx
      exact ⟨o', (hs.2 b (Nat.ne_of_lt (Nat.lt_of_lt_of_le (Heap.lt_size e) I.ok.above))).trans e1⟩
    · by_cases hj : j = i
      · subst hj
        rw [hi] at e1; cases e1
        rw [List.getElem?_set_self hiσ] at e2
        cases e2
        exact ⟨u, r, .inl ⟨hk, by simp⟩⟩
      · rw [List.getElem?_set_ne (Ne.symm hj)] at e2
        obtain ⟨u', r', q⟩ := hl j y v' e1 e2 e3
        refine ⟨u', r', ?_⟩
        rcases q with ⟨k, e⟩ | ⟨k, c, e, z⟩
        · refine .inl ⟨k, ?_⟩
          have : y ≠ x := fun e => hj (nodup_ix hN e1 (e ▸ hi))
          simp [this, e]
        · exact .inr ⟨k, c, e, z.sameBut hs (cne y c e)⟩
    · obtain ⟨w', z⟩ := I.cell y c e
      exact ⟨w', z.sameBut hs (cne y c e)⟩
    · obtain ⟨e, n, ne, nf, d⟩ := I.pin p hp
      exact ⟨(hs.2 p.1 ne).trans e, n, ne, nf, d⟩
  · have hfn : X.fn x = true := by
      rcases hf with z | z
      · exact z
      · rw [z] at hk; cases hk
    obtain ⟨c, hc⟩ := I.ok.has x (.inl hk)
    obtain ⟨w', z⟩ := I.cell x c hc
    refine wpAny_storeName_cell I.ok.kind hk hc z (fun h' hc' hs => ?_)
    obtain ⟨oc, hoc, hocd⟩ := id z
    refine h { s with heap := h' } ⟨I.ok, I.os, I.bare, ⟨fun b o e n hb hx => ?_, fun b o e n hb hx => ?_, I.base.free, fun b o e hx => ?_, I.base.tups, I.base.frzs, I.base.tbls⟩, ⟨m, hn.sameBut hs (Ne.symm (cne x c hc)), fun j y v' e1 e2 e3 => ?_⟩, fun y c' e => ?_, I.free, I.freeC, fun p hp => ?_, tracked ⟨oc, hoc, I.freeC x c hc⟩ hs, by simpa using I.len⟩ ⟨c, hs, .inr hc⟩
    · exact (hs.2 b (Nat.ne_of_lt (Nat.lt_of_lt_of_le (Heap.lt_size e) (I.ok.cab x c hfn hc)))).trans (I.base.keep b o e n hb hx)
    · obtain ⟨sl, e1⟩ := I.base.slot b o e n hb hx
      exact ⟨sl, (hs.2 b (Nat.ne_of_lt (Nat.lt_of_lt_of_le (Heap.lt_size e) (I.ok.cab x c hfn hc)))).trans e1⟩
    · obtain ⟨o', e1⟩ := I.base.there b o e hx
      exact ⟨o', (hs.2 b (Nat.ne_of_lt (Nat.lt_of_lt_of_le (Heap.lt_size e) (I.ok.cab x c hfn hc)))).trans e1⟩
    · by_cases hj : j = i
      · subst hj
        rw [hi] at e1; cases e1
        rw [List.getElem?_set_self hiσ] at e2
        cases e2
        exact ⟨u, r, .inr ⟨.inl hk, c, hc, hc'⟩⟩
      · rw [List.getElem?_set_ne (Ne.symm hj)] at e2
        obtain ⟨u', r', q⟩ := hl j y v' e1 e2 e3
        refine ⟨u', r', ?_⟩
        rcases q with q | ⟨k, c', e, z'⟩
        · exact .inl q
        · refine .inr ⟨k, c', e, z'.sameBut hs ?_⟩
          rintro rfl
          exact hj (nodup_ix hN e1 (I.ok.inj _ _ _ e hc ▸ hi))
    · by_cases hcc : c' = c
      · subst hcc; exact ⟨_, hc'⟩
      · obtain ⟨w2, z2⟩ := I.cell y c' e
        exact ⟨w2, z2.sameBut hs hcc⟩
    · obtain ⟨e, n, ne, nf, d⟩ := I.pin p hp
      refine ⟨(hs.2 p.1 ?_).trans e, n, ne, nf, d⟩
      intro q
      rw [q, hoc] at e
      have q' : oc = p.2 := Option.some.inj e
      exact d w' (by rw [← q']; exact hocd)
theorem store_ok {M : Model} {A : Around} {E : Value → Shared → Prop} {i : Nat} {x : Str} {v : V} {u : Value} {Q : Unit → Shared → Prop} (I : Inv X pins σ H s) (hN : X.N.Nodup) (hi : X.N[i]? = some x) (hx : Loc X.env.scope x) (r : RelV v u)
    (h : ∀ s', Inv X pins (σ.set i (some v)) H s' → Q () s') (hf : X.fn x = true ∨ X.env.scope.names.lookup x = some .local := by first | exact .inl rfl | exact .inr rfl | assumption) : wpAny M A (storeName X.env x u) Q E s :=
  store_ok2 I hN hi hx r (fun s' I' _ => h s' I') hf
theorem Inv.call' {s' : Shared} {ch : List Addr} (I : Inv X pins σ H s) (ho : s'.os = s.os) (u : Un (frs X.stack) ch H H' s.heap s'.heap) (hok : HOk X.prog X.w H' s'.heap) (hg : AllBare s'.gens)
    (hch : ∀ b ∈ ch, (b ∈ X.ex ∨ X.s_0.heap.objs.size ≤ b) ∧ b ≠ X.env.locals ∧ (∀ x c, X.env.cells.lookup x = some c → c ≠ b) ∧ ∀ p ∈ X.pn ++ pins, p.1 ≠ b) : Inv X pins σ H' s' := by
  obtain ⟨h', g', d', t', o'⟩ := s'
  have e : o' = s.os := ho
  subst e
  exact I.call (g' := g') (t' := t') (d' := d') u hok hg hch
end
abbrev XK := Value → Option Addr → Hp → Prop
abbrev St := List (Option V)
abbrev VK := V → Hp → Prop
abbrev TE := St → Hp → VK → Prop
abbrev TT := St → Hp → (Bool → Hp → Prop) → Prop
abbrev TA := St → Hp → (List V → Hp → Prop) → Prop
structure Ends where
  nx : St → Hp → Prop
  rt : VK
  bk : St → Hp → Prop := fun _ _ => False
  ct : St → Hp → Prop := fun _ _ => False
abbrev TS := Ends → St → Hp → Prop
def EP (X : Cx) (pins : List (Addr × Obj)) (σ : St) (Q : VK) (u : Value) (s' : Shared) : Prop := ∃ v H', Inv X pins σ H' s' ∧ RelV v u ∧ Q v H'
def TP (X : Cx) (pins : List (Addr × Obj)) (σ : St) (Q : Bool → Hp → Prop) (b : Bool) (s' : Shared) : Prop := ∃ H', Inv X pins σ H' s' ∧ Q b H'
def AP (X : Cx) (pins : List (Addr × Obj)) (σ : St) (Q : List V → Hp → Prop) (us : List Value) (s' : Shared) : Prop := ∃ vs H', Inv X pins σ H' s' ∧ Vals vs us ∧ Q vs H'
def SP (X : Cx) (pins : List (Addr × Obj)) (D : Ends) (f : Flow) (s' : Shared) : Prop :=
  match f with
  | .next => ∃ σ' H', Inv X pins σ' H' s' ∧ D.nx σ' H'
  | .brk => ∃ σ' H', Inv X pins σ' H' s' ∧ D.bk σ' H'
  | .cont => ∃ σ' H', Inv X pins σ' H' s' ∧ D.ct σ' H'
  | .ret u => ∃ v σ' H', Inv X pins σ' H' s' ∧ RelV v u ∧ D.rt v H'
def PE (X : Cx) (e : Expr) (t : TE) : Prop :=
  ∀ (pins : List (Addr × Obj)) (s : Shared) (σ : St) (H : Hp) (Q : VK), Inv X pins σ H s → t σ H Q → wpAny (model X.prog X.w) X.A (eval e X.env) (EP X pins σ Q) X.xe s
def PT (X : Cx) (e : Expr) (t : TT) : Prop :=
  ∀ (pins : List (Addr × Obj)) (s : Shared) (σ : St) (H : Hp) (Q : Bool → Hp → Prop), Inv X pins σ H s → t σ H Q → wpAny (model X.prog X.w) X.A (isTrue e X.env (eval e X.env)) (TP X pins σ Q) X.xe s
def PW (X : Cx) (e : Expr) (t : TT) : Prop :=
  ∀ (whole : Sem Value) (pins : List (Addr × Obj)) (s : Shared) (σ : St) (H : Hp) (Q : Bool → Hp → Prop), Inv X pins σ H s → t σ H Q → wpAny (model X.prog X.w) X.A (isTrue e X.env whole) (TP X pins σ Q) X.xe s
theorem PW.pt {X : Cx} {e : Expr} {t : TT} (h : PW X e t) : PT X e t := h _
def PA (X : Cx) (es : List Expr) (t : TA) : Prop :=
  ∀ (pos : Pos) (pins : List (Addr × Obj)) (s : Shared) (σ : St) (H : Hp) (Q : List V → Hp → Prop), Inv X pins σ H s → t σ H Q → wpAny (model X.prog X.w) X.A (spliced (backTo pos (starEach es X.env))) (AP X pins σ Q) X.xe s
def PS (X : Cx) (st : Stmt) (t : TS) : Prop :=
  ∀ (pins : List (Addr × Obj)) (s : Shared) (σ : St) (H : Hp) (D : Ends), Inv X pins σ H s → t D σ H → wpAny (model X.prog X.w) X.A (exec st X.env) (SP X pins D) X.xe s
def PSs (X : Cx) (st : List Stmt) (t : TS) : Prop :=
  ∀ (pins : List (Addr × Obj)) (s : Shared) (σ : St) (H : Hp) (D : Ends), Inv X pins σ H s → t D σ H → wpAny (model X.prog X.w) X.A (execs st X.env) (SP X pins D) X.xe s
theorem thn {α : Type} {t : Sem α} {Q Q' : α → Shared → Prop} {M : Model} {A : Around} {E : Value → Shared → Prop} {s : Shared} (h : wpAny M A t Q E s) (hQ : ∀ a s, Q a s → Q' a s) : wpAny M A t Q' E s := wpAny_mono h hQ fun _ _ x => x
end L2
namespace L2
open PySem PySem.Spec PyProof.Rows
section
variable {X : Cx}
theorem bin {a b : Expr} {ta tb : TE} (ha : PE X a ta) (hb : PE X b tb) {pins : List (Addr × Obj)} {s : Shared} {σ : St} {H : Hp} {R : V → V → Hp → Prop} (I : Inv X pins σ H s) (h : ta σ H fun x H1 => tb σ H1 fun y H2 => R x y H2)
    {α : Type} {Q : α → Shared → Prop} {f : Value → Value → Sem α}
    (hf : ∀ v u s2 x y H2, Inv X pins σ H2 s2 → RelV x v → RelV y u → R x y H2 → wpAny (model X.prog X.w) X.A (f v u) Q X.xe s2) :
    wpAny (model X.prog X.w) X.A (eval a X.env) (fun v s₁ => wpAny (model X.prog X.w) X.A (eval b X.env) (fun u s₂ => wpAny (model X.prog X.w) X.A (f v u) Q X.xe s₂) X.xe s₁) X.xe s := by
  refine thn (ha pins s σ H _ I h) fun v s1 ⟨x, H1, I1, r1, q1⟩ => ?_
  refine thn (hb pins s1 σ H1 _ I1 q1) fun u s2 ⟨y, H2, I2, r2, q2⟩ => ?_
  exact hf v u s2 x y H2 I2 r1 r2 q2
def tVar (i : Nat) : TE := fun σ H Q => ∃ v, σ[i]? = some (some v) ∧ Q v H
def tC (v : V) : TE := fun _ H Q => Q v H
theorem pe_var {i : Nat} {x : Str} {pos : Pos} (hN : X.N[i]? = some x) (hv : Vis X.env.scope x) (hd : (x == ("__debug__" : Str)) = false := by decide) (hcd : (x == ("__classdict__" : Str)) = false := by decide) : PE X (.Name x pos) (tVar i) := by
  intro pins s σ H Q I h
  obtain ⟨v, e, h⟩ := h
  obtain ⟨m, hn, hl⟩ := I.loc
  obtain ⟨u, r, l⟩ := hl i x v hN e hv
  have fin : EP X pins σ Q u s := ⟨v, H, I, r, h⟩
  rcases l with ⟨hk, hm⟩ | ⟨hk, c, hc, hcell⟩
  · exact wpAny_Name (wpAny_loadName_local I.ok.kind hk hn hm fin) hd
  · rcases hk with hk | hk
    · exact wpAny_Name (wpAny_loadName_cell I.ok.kind hk hc hcell fin) hd
    · exact wpAny_Name (wpAny_loadName_free I.ok.kind hk hc hcell fin hcd) hd
theorem pe_int {i j pos} : PE X (.Constant (.int i) j pos) (tC (.int i)) := fun _ _ _ H _ I h => wpAny_Constant_int ⟨.int i, H, I.tok _, ⟨_, rfl⟩, h⟩
theorem pe_bl {b j pos} : PE X (.Constant (.bool b) j pos) (tC (.bl b)) := fun _ _ _ H _ I h => Constant_bool ⟨.bl b, H, I, rfl, h⟩
theorem pe_non {j pos} : PE X (.Constant .none j pos) (tC .non) := fun _ _ _ H _ I h => Constant_none ⟨.non, H, I, rfl, h⟩
theorem pe_str {x j pos} : PE X (.Constant (.str x) j pos) (tC (.str x)) := fun _ _ _ H _ I h => Calls.Constant_str ⟨.str x, H, I.tok _, ⟨_, rfl⟩, h⟩
def Gl (X : Cx) (x : Str) : Prop := X.env.kindOf x = some .globalImplicit
theorem ld_glob {E : Value → Shared → Prop} {pins : List (Addr × Obj)} {s : Shared} {σ : St} {H : Hp} {x : Str} {u : Value} {pos : Pos} {Q : Value → Shared → Prop} (I : Inv X pins σ H s) (hg : Gl X x) (hm : X.mg x = some u) (h : Q u s)
    (hd : (x == ("__debug__" : Str)) = false := by decide) : wpAny (model X.prog X.w) X.A (eval (.Name x pos) X.env) Q E s :=
  Calls.Name_function_global I.ok.kind hg (Calls.loadGlobal_global (by rw [I.ok.glob]; exact I.mod.glob.keeps I.bk) hm h) hd
theorem ld_blt {E : Value → Shared → Prop} {pins : List (Addr × Obj)} {s : Shared} {σ : St} {H : Hp} {x : Str} {u : Value} {pos : Pos} {Q : Value → Shared → Prop} (I : Inv X pins σ H s) (hg : Gl X x) (hm : X.mg x = none) (hv : bootBuiltins x = some u) (h : Q u s)
    (hn : x ≠ "__name__" := by decide) (hd : (x == ("__debug__" : Str)) = false := by decide) : wpAny (model X.prog X.w) X.A (eval (.Name x pos) X.env) Q E s := by
  obtain ⟨mb, h1, h2⟩ := I.mod.blt
  exact Calls.Name_function_global I.ok.kind hg (Calls.loadGlobal_builtin (by rw [I.ok.glob]; exact I.mod.glob.keeps I.bk) hm (by rw [I.ok.blt]; exact h1.keeps I.bk) ((h2 x hn).trans hv) h) hd
theorem pe_glob {x : Str} {v : V} {u : Value} {pos : Pos} (hg : Gl X x) (hm : X.mg x = some u) (r : RelV v u) (hd : (x == ("__debug__" : Str)) = false := by decide) : PE X (.Name x pos) (tC v) :=
  fun _ _ _ H _ I h => ld_glob I hg hm ⟨v, H, I, r, h⟩ hd
theorem pe_bltn {x : Str} {v : V} {u : Value} {pos : Pos} (hg : Gl X x) (hm : X.mg x = none) (hv : bootBuiltins x = some u) (r : RelV v u) (hn : x ≠ "__name__" := by decide) (hd : (x == ("__debug__" : Str)) = false := by decide) : PE X (.Name x pos) (tC v) :=
  fun _ _ _ H _ I h => ld_blt I hg hm hv ⟨v, H, I, r, h⟩ hn hd
variable {a b : Expr} {ta tb : TE} {pos : Pos}
def PC (X : Cx) (op : CmpOp) (a b : Expr) (t : TE) : Prop :=
  ∀ (pins : List (Addr × Obj)) (s : Shared) (σ : St) (H : Hp) (Q : VK), Inv X pins σ H s → t σ H Q →
    wpAny (model X.prog X.w) X.A (eval a X.env) (fun v s₁ => wpAny (model X.prog X.w) X.A (eval b X.env) (fun u s₂ => wpAny (model X.prog X.w) X.A (compareOp op v u) (EP X pins σ Q) X.xe s₂) X.xe s₁) X.xe s
theorem nobehind (b : Expr) {op : CmpOp} (h : op ≠ .In) (h2 : op ≠ .NotIn) : behindInMarks op b = false := by
  have e1 : (op == CmpOp.In) = false := by cases op <;> first | rfl | exact absurd rfl h
  have e2 : (op == CmpOp.NotIn) = false := by cases op <;> first | rfl | exact absurd rfl h2
  cases b <;> simp [behindInMarks, e1, e2]
def tNotN (ta : TE) : TE := fun σ H Q => ta σ H fun x H1 => Q (.bl (!decide (x = .non))) H1
theorem RelV.none_iff {x : V} {v : Value} (r : RelV x v) : (v == Value.none) = decide (x = .non) := by
  cases x with
  | non => cases r; rfl
  | bl _ => cases r; rfl
  | int _ => obtain ⟨t, rfl⟩ := r; rfl
  | str _ => obtain ⟨t, rfl⟩ := r; rfl
  | byt _ => obtain ⟨t, rfl⟩ := r; rfl
  | flt _ => obtain ⟨t, rfl⟩ := r; rfl
  | ref _ => cases r; rfl
  | ty _ => cases r; rfl
theorem pc_notN {j pos'} (ha : PE X a ta) : PC X .IsNot a (.Constant .none j pos') (tNotN ta) := by
  intro pins s σ H Q I h
  refine thn (ha pins s σ H _ I h) fun v s1 ⟨x, H1, I1, r1, q1⟩ => ?_
  exact Constant_none (isnot_none_gen ⟨.bl _, H1, I1, by rw [r1.none_iff]; rfl, q1⟩)
def tB (t : TE) : TT := fun σ H Q => t σ H fun x H1 => ∃ c, x = .bl c ∧ Q c H1
theorem pt_cmp {op : CmpOp} {t : TE} (h : PC X op a b t) (h1 : behindInMarks op b = false := by first | exact nobehind _ (by decide) (by decide) | rfl) : PT X (.Compare a [op] [b] pos) (tB t) := by
  intro pins s σ H Q I hw
  refine wpAny_isTrue_Compare1 (thn (h pins s σ H _ I hw) fun v s1 h1 => thn h1 fun u s2 h2 => thn h2 fun c s3 ⟨x, H1, I1, r1, q1⟩ => ?_) h1
  obtain ⟨d, rfl, q⟩ := q1
  cases r1
  exact wpAny_truthy_bool ⟨H1, I1, q⟩
theorem pt_val {e : Expr} {t : TE} (h : PE X e t) (he : ∀ whole, isTrue e X.env whole = (do let v ← whole; standAt e.pos; holding [v] (truthy v)) := by intro _; rfl) : PT X e (tB t) := by
  intro pins s σ H Q I hw
  refine isTrue_plain (thn (h pins s σ H _ I hw) fun v s1 ⟨x, H1, I1, r1, q1⟩ => ?_) (he _)
  obtain ⟨d, rfl, q⟩ := q1
  cases r1
  exact wpAny_truthy_bool ⟨H1, I1, q⟩
variable {tA tB' : TT} {rest : List Expr}
def tAnd (t u : TT) : TT := fun σ H Q => t σ H fun c H1 => if c = true then u σ H1 Q else Q false H1
def tOr (t u : TT) : TT := fun σ H Q => t σ H fun c H1 => if c = true then Q true H1 else u σ H1 Q
def tNot (t : TT) : TT := fun σ H Q => t σ H fun c H1 => Q (!c) H1
theorem pw_and1 (ha : PT X a tA) : PW X (.BoolOp .And [a] pos) tA := by
  intro wh pins s σ H Q I h
  refine isTrue_and (thn (ha pins s σ H Q I h) fun c s1 e => ?_)
  cases c with
  | true => exact isTrue_and_nil e
  | false => exact e
theorem pw_or1 (ha : PT X a tA) : PW X (.BoolOp .Or [a] pos) tA := by
  intro wh pins s σ H Q I h
  refine isTrue_or (thn (ha pins s σ H Q I h) fun c s1 e => ?_)
  cases c with
  | false => exact isTrue_or_nil e
  | true => exact e
theorem pw_and (ha : PT X a tA) (hb : PW X (.BoolOp .And (b :: rest) pos) tB') : PW X (.BoolOp .And (a :: b :: rest) pos) (tAnd tA tB') := by
  intro wh pins s σ H Q I h
  refine isTrue_and (thn (ha pins s σ H _ I h) fun c s1 ⟨H1, I1, q1⟩ => ?_)
  cases c with
  | true => exact hb wh pins s1 σ H1 Q I1 q1
  | false => exact ⟨H1, I1, q1⟩
theorem pw_or (ha : PT X a tA) (hb : PW X (.BoolOp .Or (b :: rest) pos) tB') : PW X (.BoolOp .Or (a :: b :: rest) pos) (tOr tA tB') := by
  intro wh pins s σ H Q I h
  refine isTrue_or (thn (ha pins s σ H _ I h) fun c s1 ⟨H1, I1, q1⟩ => ?_)
  cases c with
  | true => exact ⟨H1, I1, q1⟩
  | false => exact hb wh pins s1 σ H1 Q I1 q1
theorem pt_not (ha : PT X a tA) : PT X (.UnaryOp .Not a pos) (tNot tA) := by
  intro pins s σ H Q I h
  exact isTrue_not (ha pins s σ H (fun c H1 => Q (!c) H1) I h)
def tAndV (ta tb : TE) : TE := fun σ H Q => ta σ H fun x H1 => ∃ c, x = .bl c ∧ if c = true then tb σ H1 Q else Q (.bl false) H1
def tOrV (ta tb : TE) : TE := fun σ H Q => ta σ H fun x H1 => ∃ c, x = .bl c ∧ if c = true then Q (.bl true) H1 else tb σ H1 Q
def tNotV (ta : TE) : TE := fun σ H Q => ta σ H fun x H1 => ∃ c, x = .bl c ∧ Q (.bl (!c)) H1
theorem pe_one {op} {t : TE} (h : PE X a t) : PE X (.BoolOp op [a] pos) t := fun pins s σ H Q I hw => BoolOp_one (h pins s σ H Q I hw)
theorem pe_and (ha : PE X a ta) (hb : PE X (.BoolOp .And (b :: rest) pos) tb) : PE X (.BoolOp .And (a :: b :: rest) pos) (tAndV ta tb) := by
  intro pins s σ H Q I h
  refine BoolOp_and (thn (ha pins s σ H _ I h) fun v s1 ⟨x, H1, I1, r1, q1⟩ => ?_)
  obtain ⟨c, rfl, q1⟩ := q1
  cases r1
  refine wpAny_truthy_bool ?_
  cases c with
  | true => exact hb pins s1 σ H1 Q I1 q1
  | false => exact ⟨.bl false, H1, I1, rfl, q1⟩
theorem pe_or (ha : PE X a ta) (hb : PE X (.BoolOp .Or (b :: rest) pos) tb) : PE X (.BoolOp .Or (a :: b :: rest) pos) (tOrV ta tb) := by
  intro pins s σ H Q I h
  refine BoolOp_or (thn (ha pins s σ H _ I h) fun v s1 ⟨x, H1, I1, r1, q1⟩ => ?_)
  obtain ⟨c, rfl, q1⟩ := q1
  cases r1
  refine wpAny_truthy_bool ?_
  cases c with
  | false => exact hb pins s1 σ H1 Q I1 q1
  | true => exact ⟨.bl true, H1, I1, rfl, q1⟩
theorem pe_not (ha : PE X a ta) : PE X (.UnaryOp .Not a pos) (tNotV ta) := by
  intro pins s σ H Q I h
  refine UnaryOp_ (thn (ha pins s σ H _ I h) fun v s1 ⟨x, H1, I1, r1, q1⟩ => ?_)
  obtain ⟨c, rfl, q1⟩ := q1
  cases r1
  exact not_of (wpAny_truthy_bool ⟨.bl (!c), H1, I1, rfl, q1⟩)
def tIf (t : TT) (ta tb : TE) : TE := fun σ H Q => t σ H fun c H1 => if c = true then ta σ H1 Q else tb σ H1 Q
theorem pe_ifExp {c : Expr} (hc : PT X c tA) (ha : PE X a ta) (hb : PE X b tb) : PE X (.IfExp c a b pos) (tIf tA ta tb) := by
  intro pins s σ H Q I h
  refine wpAny_IfExp (thn (hc pins s σ H _ I h) fun d s1 ⟨H1, I1, q1⟩ => ?_)
  cases d with
  | true => exact ha pins s1 σ H1 Q I1 q1
  | false => exact hb pins s1 σ H1 Q I1 q1
end
end L2
namespace L2
open PySem PySem.Spec PyProof.Rows
def SqL (K : PySem.W.Frag) (H : Hp) (a : Addr) (xs : List V) : Prop :=
  Rd H a (.lst xs) ∨
    ∃ (o : Obj) (its : Array Value) (n : Nat), K.lookup a = some o ∧ o.cls = .type "list" ∧ o.dict = none ∧ o.data = .seq its n ∧ its.size ≤ sizeLine ∧ Vals xs its.toList
def SqT (K : PySem.W.Frag) (H : Hp) (a : Addr) (xs : List V) : Prop :=
  Rd H a (.tup xs) ∨
    ∃ (o : Obj) (its : Array Value) (n : Nat), K.lookup a = some o ∧ (o.cls, o.dict) = (Value.type "tuple", (none : Option Addr)) ∧ o.data = .seq its n ∧ its.size ≤ sizeLine ∧ Vals xs its.toList
def absV : Value → Option V
  | .none => some .non
  | .bool b => some (.bl b)
  | .int i _ => some (.int i)
  | .str x _ => some (.str x)
  | .bytes b _ => some (.byt b)
  | .float b _ => some (.flt b)
  | .ref a => some (.ref a)
  | .type n => some (.ty n)
  | _ => none
theorem RelV.abs {x : V} {u : Value} (r : RelV x u) : absV u = some x := by
  cases x with
  | non => cases r; rfl
  | bl _ => cases r; rfl
  | int _ => obtain ⟨t, rfl⟩ := r; rfl
  | str _ => obtain ⟨t, rfl⟩ := r; rfl
  | byt _ => obtain ⟨t, rfl⟩ := r; rfl
  | flt _ => obtain ⟨t, rfl⟩ := r; rfl
  | ref _ => cases r; rfl
  | ty _ => cases r; rfl
theorem RelV.inj {x y : V} {u : Value} (r : RelV x u) (q : RelV y u) : x = y := Option.some.inj (r.abs.symm.trans q.abs)
theorem Vals.inj : ∀ {xs ys : List V} {us : List Value}, Vals xs us → Vals ys us → xs = ys
  | _, _, _, .nil, .nil => rfl
  | _, _, _, .cons r t, .cons r' t' => by rw [r.inj r', Vals.inj t t']
section
variable {X : Cx} {pins : List (Addr × Obj)} {σ : St} {H : Hp} {s : Shared} {a : Addr} {xs ys : List V}
theorem SqL.of {K : PySem.W.Frag} (h : H a = some (.lst xs)) : SqL K H a xs := .inl (.inl h)
theorem SqT.of {K : PySem.W.Frag} (h : H a = some (.tup xs)) : SqT K H a xs := .inl (.inl h)
theorem Inv.list (I : Inv X pins σ H s) (h : SqL X.K H a xs) : ∃ its : List Value, Vals xs its ∧ PlainL s.heap a its.toArray ∧ xs.length ≤ sizeLine := by
  rcases h with h | ⟨o, its, n, hk, hc, hd, hs, hz, r⟩
  · obtain ⟨z, its, n, r, e⟩ := h.ok I.hok
    exact ⟨its, r, ⟨_, n, e, rfl, rfl, rfl⟩, z⟩
  · refine ⟨its.toList, r, ⟨o, n, I.kIn a o hk, hc, hd, by simpa using hs⟩, ?_⟩
    have e := r.length
    simp only [Array.length_toList] at e
    omega
theorem Inv.tuple (I : Inv X pins σ H s) (h : SqT X.K H a xs) : ∃ its : List Value, Vals xs its ∧ IsTup s.heap a its.toArray ∧ xs.length ≤ sizeLine := by
  rcases h with h | ⟨o, its, n, hk, hc, hs, hz, r⟩
  · obtain ⟨z, its, r, p⟩ := h.ok I.hok
    exact ⟨its, r, p.t, z⟩
  · refine ⟨its.toList, r, ⟨o, I.kIn a o hk, congrArg Prod.fst hc, n, by simpa using hs⟩, ?_⟩
    have e := r.length
    simp only [Array.length_toList] at e
    omega
theorem Inv.list_inj (I : Inv X pins σ H s) (h : SqL X.K H a xs) (h' : SqL X.K H a ys) : xs = ys := by
  obtain ⟨its, r, ⟨o, n, e, _, _, d⟩, _⟩ := I.list h
  obtain ⟨its', r', ⟨o', n', e', _, _, d'⟩, _⟩ := I.list h'
  rw [e] at e'; cases e'
  rw [d] at d'
  injection d' with d1 _
  have : its = its' := by simpa using congrArg Array.toList d1
  subst this
  exact r.inj r'
theorem Inv.tuple_inj (I : Inv X pins σ H s) (h : SqT X.K H a xs) (h' : SqT X.K H a ys) : xs = ys := by
  obtain ⟨its, r, ⟨o, e, _, n, d⟩, _⟩ := I.tuple h
  obtain ⟨its', r', ⟨o', e', _, n', d'⟩, _⟩ := I.tuple h'
  rw [e] at e'; cases e'
  rw [d] at d'
  injection d' with d1 _
  have : its = its' := by simpa using congrArg Array.toList d1
  subst this
  exact r.inj r'
end
abbrev Cx.wish (X : Cx) (E : Value → Shared → Prop) : Cx := { X with xe := E }
abbrev Cx.nox (X : Cx) : Cx := X.wish fun _ _ => False
theorem Cx.Ok.wish {X : Cx} (ok : X.Ok) (E : Value → Shared → Prop) : (X.wish E).Ok :=
  ⟨ok.mod, ok.kind, ok.glob, ok.blt, ok.above, ok.inj, ok.has, ok.cab, ok.hd, ok.hh, ok.tab, ok.frames, ok.stk, ok.exf, ok.bs, ok.bsz, ok.noex, ok.exfs, ok.funs, ok.frf⟩
theorem Cx.Ok.unwish {X : Cx} {E : Value → Shared → Prop} (ok : (X.wish E).Ok) : X.Ok :=
  ⟨ok.mod, ok.kind, ok.glob, ok.blt, ok.above, ok.inj, ok.has, ok.cab, ok.hd, ok.hh, ok.tab, ok.frames, ok.stk, ok.exf, ok.bs, ok.bsz, ok.noex, ok.exfs, ok.funs, ok.frf⟩
section
variable {X : Cx} {pins : List (Addr × Obj)} {σ : St} {H : Hp} {s : Shared} {E : Value → Shared → Prop}
theorem Inv.wish (I : Inv X pins σ H s) (E : Value → Shared → Prop) : Inv (X.wish E) pins σ H s := ⟨I.ok.wish E, I.os, I.bare, I.base, I.loc, I.cell, I.free, I.freeC, I.pin, I.hok, I.len⟩
theorem Inv.unwish (I : Inv (X.wish E) pins σ H s) : Inv X pins σ H s := ⟨I.ok.unwish, I.os, I.bare, I.base, I.loc, I.cell, I.free, I.freeC, I.pin, I.hok, I.len⟩
theorem SP.unwish {D : Ends} {f : Flow} {s' : Shared} (h : SP (X.wish E) pins D f s') : SP X pins D f s' := by
  cases f with
  | next => obtain ⟨σ', H', I, q⟩ := h; exact ⟨σ', H', I.unwish, q⟩
  | brk => obtain ⟨σ', H', I, q⟩ := h; exact ⟨σ', H', I.unwish, q⟩
  | cont => obtain ⟨σ', H', I, q⟩ := h; exact ⟨σ', H', I.unwish, q⟩
  | ret u => obtain ⟨v, σ', H', I, r, q⟩ := h; exact ⟨v, σ', H', I.unwish, r, q⟩
theorem PE.nox {e : Expr} {t : TE} (h : PE X.nox e t) : PE X e t := fun pins s σ H Q I hw =>
  wpAny_mono (h pins s σ H Q (I.wish _) hw) (fun _ _ ⟨v, H', I', r, q⟩ => ⟨v, H', I'.unwish, r, q⟩) fun _ _ z => False.elim z
theorem PT.nox {e : Expr} {t : TT} (h : PT X.nox e t) : PT X e t := fun pins s σ H Q I hw =>
  wpAny_mono (h pins s σ H Q (I.wish _) hw) (fun _ _ ⟨H', I', q⟩ => ⟨H', I'.unwish, q⟩) fun _ _ z => False.elim z
theorem PSs.nox {st : List Stmt} {t : TS} (h : PSs X.nox st t) : PSs X st t := fun pins s σ H D I hw =>
  wpAny_mono (h pins s σ H D (I.wish _) hw) (fun _ _ q => q.unwish) fun _ _ z => False.elim z
end
section
variable {X : Cx} {st : Stmt} {rest : List Stmt} {t u : TS} {e : Expr} {te : TE} {pos : Pos}
def tNext : TS := fun D σ H => D.nx σ H
def tSeq (t u : TS) : TS := fun D σ H => t { D with nx := u D } σ H
theorem pss_nil : PSs X [] tNext := fun _ _ σ H _ I h => wpAny_execs_nil ⟨σ, H, I, h⟩
theorem pss_cons (h1 : PS X st t) (h2 : PSs X rest u) : PSs X (st :: rest) (tSeq t u) := by
  intro pins s σ H D I h
  refine wpAny_execs_cons (thn (h1 pins s σ H { D with nx := u D } I h) fun f s1 q => ?_)
  cases f with
  | next =>
    obtain ⟨σ', H', I', q⟩ := q
    exact h2 pins s1 σ' H' D I' q
  | ret v => exact q
  | brk => exact q
  | cont => exact q
theorem pss_one (h1 : PS X st t) : PSs X [st] t := by
  intro pins s σ H D I h
  refine wpAny_execs_cons (thn (h1 pins s σ H D I h) fun f s1 q => ?_)
  cases f with
  | next => exact wpAny_execs_nil q
  | ret v => exact q
  | brk => exact q
  | cont => exact q
theorem Inv.quiet {pins : List (Addr × Obj)} {σ : St} {H : Hp} {s : Shared} (I : Inv X pins σ H s) : interactive X.env = false := by simp [interactive, I.ok.kind]
def tDrop (te : TE) : TS := fun D σ H => te σ H fun _ H1 => D.nx σ H1
theorem ps_expr (he : PE X e te) (hs : swapsWith e none pos.line X.env = pure false := by rfl) : PS X (.Expr e pos) (tDrop te) := by
  intro pins s σ H D I h
  exact wpAny_Expr_any (thn (he pins s σ H _ I h) fun v s1 ⟨x, H1, I1, r1, q1⟩ => ⟨σ, H1, I1, q1⟩) I.quiet hs
def tRet (te : TE) : TS := fun D σ H => te σ H D.rt
theorem ps_ret (he : PE X e te) : PS X (.Return (some e) pos) (tRet te) := by
  intro pins s σ H D I h
  exact wpAny_Return_some (thn (he pins s σ H _ I h) fun v s1 ⟨x, H1, I1, r1, q1⟩ => ⟨x, σ, H1, I1, r1, q1⟩)
def tIfS (c : TT) (t u : TS) : TS := fun D σ H => c σ H fun b H1 => if b = true then t D σ H1 else u D σ H1
theorem ps_if {c : Expr} {a b : List Stmt} {tc : TT} (hc : PT X c tc) (ha : PSs X a t) (hb : PSs X b u) : PS X (.If c a b pos) (tIfS tc t u) := by
  intro pins s σ H D I h
  refine wpAny_If (thn (hc pins s σ H _ I h) fun d s1 ⟨H1, I1, q1⟩ => ?_)
  cases d with
  | true => exact ha pins s1 σ H1 D I1 q1
  | false => exact hb pins s1 σ H1 D I1 q1
end
abbrev TG := V → St → Hp → (St → Hp → Prop) → Prop
abbrev TGs := List V → St → Hp → (St → Hp → Prop) → Prop
def PG (X : Cx) (target : Expr) (t : TG) : Prop :=
  ∀ (pins : List (Addr × Obj)) (s : Shared) (σ : St) (H : Hp) (v : V) (u : Value) (Q : St → Hp → Prop), Inv X pins σ H s → RelV v u → t v σ H Q →
    wpAny (model X.prog X.w) X.A (assign target X.env u) (fun _ s' => ∃ σ' H', Inv X pins σ' H' s' ∧ Q σ' H') X.xe s
def PGs (X : Cx) (ts : List Expr) (t : TGs) : Prop :=
  ∀ (pins : List (Addr × Obj)) (s : Shared) (σ : St) (H : Hp) (vs : List V) (us : List Value) (Q : St → Hp → Prop), Inv X pins σ H s → Vals vs us → t vs σ H Q →
    wpAny (model X.prog X.w) X.A (assignInOrder ((assignEach ts X.env).map (·.2)) us) (fun _ s' => ∃ σ' H', Inv X pins σ' H' s' ∧ Q σ' H') X.xe s
abbrev TSet := V → V → V → Hp → (Hp → Prop) → Prop
def PSet (X : Cx) (t : TSet) : Prop :=
  ∀ (pins : List (Addr × Obj)) (s : Shared) (σ : St) (H : Hp) (o i v : V) (ov iv u : Value) (Q : Hp → Prop), Inv X pins σ H s → RelV o ov → RelV i iv → RelV v u → t o i v H Q →
    wpAny (model X.prog X.w) X.A (setItem ov iv u) (fun _ s' => ∃ H', Inv X pins σ H' s' ∧ Q H') X.xe s
section
variable {X : Cx} {pos : Pos}
def gName (i : Nat) : TG := fun v σ H Q => Q (σ.set i (some v)) H
theorem pg_name {i : Nat} {x : Str} (hN : X.N.Nodup) (hi : X.N[i]? = some x) (hx : Loc X.env.scope x) (hf : X.fn x = true ∨ X.env.scope.names.lookup x = some .local := by first | exact .inl rfl | exact .inr rfl | assumption) : PG X (.Name x pos) (gName i) := by
  intro pins s σ H v u Q I r h
  exact wpAny_assign_Name (store_ok I hN hi hx r (fun s' I' => ⟨_, H, I', h⟩) hf)
def gNil : TGs := fun vs σ H Q => vs = [] ∧ Q σ H
def gCons (t : TG) (u : TGs) : TGs := fun vs σ H Q => ∃ v r, vs = v :: r ∧ t v σ H fun σ' H' => u r σ' H' Q
theorem pgs_nil : PGs X [] gNil := by
  intro pins s σ H vs us Q I r h
  obtain ⟨e, h⟩ := h
  subst e
  cases r
  exact assignInOrder_nil ⟨σ, H, I, h⟩
theorem pgs_cons {e : Expr} {es : List Expr} {t : TG} {u : TGs} (h1 : PG X e t) (h2 : PGs X es u)
    (hs : (assignEach (e :: es) X.env).map (·.2) = assign e X.env :: (assignEach es X.env).map (·.2) := by rfl) : PGs X (e :: es) (gCons t u) := by
  intro pins s σ H vs us Q I r h
  obtain ⟨v, vr, e1, h⟩ := h
  subst e1
  cases r with
  | cons r rr =>
    rw [hs]
    refine assignInOrder_cons (thn (h1 pins s σ H _ _ _ I r h) fun _ s1 ⟨σ1, H1, I1, q1⟩ => ?_)
    exact h2 pins s1 σ1 H1 _ _ Q I1 rr q1
def gTup (K : PySem.W.Frag) (n : Nat) (t : TGs) : TG := fun v σ H Q => ∃ a xs, v = .ref a ∧ SqT K H a xs ∧ xs.length = n ∧ t xs σ H Q
theorem pg_tup {es : List Expr} {k : Nat} {t : TGs} {n : Nat} (hc : X.calm = true) (h : PGs X es t)
    (hn : (assignEach es X.env).length = n := by rfl) (hst : (assignEach es X.env).findIdx? (·.1) = none := by rfl) : PG X (.Tuple es k pos) (gTup X.K n t) := by
  intro pins s σ H v u Q I r hw
  obtain ⟨a, xs, e1, hq, hl, hw⟩ := hw
  subst e1
  cases r
  obtain ⟨its, rv, ht, hz⟩ := I.tuple hq
  refine assign_Tuple_tuple (I.ok.hd hc) ht (by simp [hn, ← hl, rv.length]) hst fun h' hx => ?_
  have I1 : Inv X pins σ H { s with heap := h' } := I.kept (t' := s.toks) fun b o e => hx b o (Nat.ne_of_lt (Heap.lt_size e)) e
  exact h pins _ σ H xs _ Q I1 (by simpa using rv) hw
def gSub (to ti : TE) (t : TSet) : TG := fun v σ H Q => to σ H fun o H1 => ti σ H1 fun i H2 => t o i v H2 fun H3 => Q σ H3
theorem pg_sub {o i : Expr} {to ti : TE} {t : TSet} (ho : PE X o to) (hi : PE X i ti) (hs : PSet X t)
    (ha : ∀ v, assign (.Subscript o i pos) X.env v = (do
      let ov ← holding [v] (eval o X.env)
      let iv ← holding [v, ov] (eval i X.env)
      standAt pos
      holding [v, ov, iv] (setItem ov iv v)
      release [v, ov, iv] []) := by intro _; rfl) : PG X (.Subscript o i pos) (gSub to ti t) := by
  intro pins s σ H v u Q I r h
  rw [ha]
  refine wpAny_bind (wpAny_holding (thn (ho pins s σ H _ I h) fun ov s1 ⟨x, H1, I1, r1, q1⟩ => ?_))
  refine wpAny_bind (wpAny_holding (thn (hi pins s1 σ H1 _ I1 q1) fun iv s2 ⟨y, H2, I2, r2, q2⟩ => ?_))
  refine wpAny_bind (wpAny_standAt (wpAny_bind (wpAny_holding (thn (hs pins s2 σ H2 x y v ov iv u _ I2 r1 r2 r q2) fun _ s3 ⟨H3, I3, q3⟩ => ?_))))
  exact wpAny_release ⟨σ, H3, I3, q3⟩
def tAsg (te : TE) (g : TG) : TS := fun D σ H => te σ H fun x H1 => g x σ H1 D.nx
theorem ps_asg {tg e : Expr} {te : TE} {g : TG} (he : PE X e te) (hg : PG X tg g) (hs : swapsWithSole [tg] e pos.line X.env = pure false := by rfl) (hw : swappedStores [tg] e X.env = pure none := by rfl)
    (h1 : (assignEach [tg] X.env).map (·.2) = [assign tg X.env] := by rfl) : PS X (.Assign [tg] e pos) (tAsg te g) := by
  intro pins s σ H D I h
  refine wpAny_Assign_stores (thn (he pins s σ H _ I h) fun v s1 ⟨x, H1, I1, r1, q1⟩ => ?_) hs hw
  rw [h1]
  exact thn (hg pins s1 σ H1 x v _ I1 r1 q1) fun _ s2 q => q
theorem ps_set {i : Nat} {x : Str} {e : Expr} {te : TE} {pos' : Pos} (hN : X.N.Nodup) (hi : X.N[i]? = some x) (hx : Loc X.env.scope x) (he : PE X e te) (hs : swapsWith e (some (.Name x pos')) pos.line X.env = pure false := by rfl) (hf : X.fn x = true ∨ X.env.scope.names.lookup x = some .local := by first | exact .inl rfl | exact .inr rfl | assumption) :
    PS X (.Assign [.Name x pos'] e pos) (tAsg te (gName i)) := by
  intro pins s σ H D I h
  refine wpAny_Assign_Name (thn (he pins s σ H _ I h) fun v s1 ⟨y, H1, I1, r1, q1⟩ => ?_) hs
  exact store_ok I1 hN hi hx r1 (fun s2 I2 => ⟨_, H1, I2, q1⟩) hf
end
section
variable {X : Cx} {pos : Pos}
def tWhile (c : TT) (tb : TS) : TS := fun D σ H => ∃ W : Nat → St → Hp → Prop, (∃ m, W m σ H) ∧ ∀ m σ H, W m σ H →
  c σ H fun b H1 => if b = true then ∃ N : St → Hp → Prop, (∀ σ' H', N σ' H' → ∃ m', m' < m ∧ W m' σ' H') ∧ tb { D with nx := N, ct := N, bk := D.nx } σ H1 else D.nx σ H1
theorem ps_while {c : Expr} {body : List Stmt} {tc : TT} {tb : TS} (hp : PassesOwn (model X.prog X.w) X.A X.env X.xe) (hc : PT X c tc) (hb : PSs X body tb) : PS X (.While c body [] pos) (tWhile tc tb) := by
  intro pins s σ H D I h
  obtain ⟨W, ⟨m0, w0⟩, turn⟩ := h
  refine wpAny_While (codeAny_whileLoop (fun n s' => ∃ σ' H', Inv X pins σ' H' s' ∧ W n σ' H') ?_ m0 ⟨σ, H, I, w0⟩)
  rintro n s1 ⟨σ1, H1, I1, w1⟩
  refine wpAny_passesOwn hp (thn (hc pins s1 σ1 H1 _ I1 (turn n σ1 H1 w1)) fun b s2 ⟨H2, I2, q2⟩ => ?_)
  cases b with
  | true =>
    obtain ⟨N, hN, q2⟩ := q2
    rw [if_pos rfl]
    refine wpAny_passesOwn hp (thn (hb pins s2 σ1 H2 _ I2 q2) fun f s3 q3 => ?_)
    cases f with
    | next =>
      obtain ⟨σ3, H3, I3, n3⟩ := q3
      obtain ⟨m', hm, w3⟩ := hN σ3 H3 n3
      exact ⟨m', hm, σ3, H3, I3, w3⟩
    | cont =>
      obtain ⟨σ3, H3, I3, n3⟩ := q3
      obtain ⟨m', hm, w3⟩ := hN σ3 H3 n3
      exact ⟨m', hm, σ3, H3, I3, w3⟩
    | brk => exact q3
    | ret v => exact q3
  | false =>
    rw [if_neg Bool.false_ne_true]
    exact wpAny_execs_nil ⟨σ1, H2, I2, q2⟩
end
structure It where
  go : Nat → Hp → Prop
  yld : Nat → Hp → V → Hp → Prop
  stop : Nat → Hp → Prop
def FpOk (X : Cx) (pins : List (Addr × Obj)) (H : Hp) (b : Addr) : Prop :=
  H b = none ∧ b ≠ X.env.locals ∧ b ∉ X.fs ∧ (b ∈ X.ex ∨ X.s_0.heap.objs.size ≤ b) ∧ (∀ x c, X.env.cells.lookup x = some c → c ≠ b) ∧ ∀ p ∈ X.pn ++ pins, p.1 ≠ b
theorem Inv.fpOk {X : Cx} {pins : List (Addr × Obj)} {σ : St} {H H' : Hp} {s : Shared} {b : Addr} (I : Inv X pins σ H s) (hb : s.heap.objs.size ≤ b) (hn : H' b = none) : FpOk X pins H' b := by
  refine ⟨hn, Nat.ne_of_gt (Nat.lt_of_lt_of_le I.lt hb), I.nofs hb, .inr (Nat.le_trans I.sz hb), fun x c e z => ?_, fun p hp z => ?_⟩
  · obtain ⟨v, q⟩ := I.cell x c e
    exact absurd (Nat.lt_of_lt_of_le q.lt (by rw [z]; exact hb)) (Nat.lt_irrefl _)
  · exact absurd (Nat.lt_of_lt_of_le (Heap.lt_size (I.pin p hp).1) (by rw [z]; exact hb)) (Nat.lt_irrefl _)
structure TurnC (C : Cx → Prop) (P : Program) (w : World) (K : PySem.W.Frag) (tg : Expr) (J : It) (fp : List Addr) (it : Addr) (tn : Nat → Heap → Prop) : Prop where
  mem : it ∈ fp
  obj : ∀ i h, tn i h → ∀ b ∈ fp, ∃ o, h.get? b = some o ∧ ∀ v, o.data ≠ .cell v
  keep : ∀ i h h', tn i h → (∀ b ∈ fp, ∀ o, h.get? b = some o → h'.get? b = some o) → tn i h'
  item : ∀ (X : Cx), X.prog = P → X.w = w → X.K = K → C X → ∀ (i : Nat) (pins : List (Addr × Obj)) (s : Shared) (σ : St) (H : Hp) (E : Value → Shared → Prop), Inv X pins σ H s → (∀ b ∈ fp, FpOk X pins H b) → tn i s.heap → J.go i H →
    wpAny (model P w) X.A (pyNext (.ref it)) (fun r s1 => ∃ u, r = some u ∧
      wpAny (model P w) X.A (letOwnedTupleGo tg (.ref it) u) (fun _ s2 => ∃ x H', Inv X pins σ H' s2 ∧ RelV x u ∧ J.yld i H x H' ∧ tn (i + 1) s2.heap ∧ ∀ b ∈ fp, H' b = none) E s1) E s
  done : ∀ (X : Cx), X.prog = P → X.w = w → X.K = K → C X → ∀ (i : Nat) (pins : List (Addr × Obj)) (s : Shared) (σ : St) (H : Hp) (E : Value → Shared → Prop), Inv X pins σ H s → (∀ b ∈ fp, FpOk X pins H b) → tn i s.heap → J.stop i H →
    wpAny (model P w) X.A (pyNext (.ref it)) (fun r s1 => r = none ∧ Inv X pins σ H s1) E s
  self : ∀ (A : Around) (i : Nat) (s : Shared) (Q : Value → Shared → Prop) (E : Value → Shared → Prop), tn i s.heap → Q (.ref it) s → wpAny (model P w) A (pyIter (.ref it)) Q E s
abbrev Turn (P : Program) (w : World) (K : PySem.W.Frag) (tg : Expr) (J : It) (fp : List Addr) (it : Addr) (tn : Nat → Heap → Prop) : Prop := TurnC (fun X => X.calm = true) P w K tg J fp it tn
abbrev TI := St → Hp → (It → Hp → Prop) → Prop
def PIEC (C : Cx → Prop) (X : Cx) (pins : List (Addr × Obj)) (σ : St) (tg : Expr) (R : It → Hp → Prop) (itv : Value) (s2 : Shared) : Prop :=
  ∃ (it : Addr) (fp : List Addr) (tn : Nat → Heap → Prop) (J : It) (H' : Hp), itv = .ref it ∧ Inv X pins σ H' s2 ∧ TurnC C X.prog X.w X.K tg J fp it tn ∧ tn 0 s2.heap ∧ (∀ b ∈ fp, FpOk X pins H' b) ∧ R J H'
abbrev PIE (X : Cx) (pins : List (Addr × Obj)) (σ : St) (tg : Expr) (R : It → Hp → Prop) (itv : Value) (s2 : Shared) : Prop := PIEC (fun X => X.calm = true) X pins σ tg R itv s2
def PIC (C : Cx → Prop) (X : Cx) (tg iter : Expr) (wi : TI) : Prop :=
  ∀ (pins : List (Addr × Obj)) (s : Shared) (σ : St) (H : Hp) (R : It → Hp → Prop), Inv X pins σ H s → wi σ H R →
    wpAny (model X.prog X.w) X.A (eval iter X.env) (fun v s1 => wpAny (model X.prog X.w) X.A (pyIter v) (PIEC C X pins σ tg R) X.xe s1) X.xe s
abbrev PI (X : Cx) (tg iter : Expr) (wi : TI) : Prop := PIC (fun X => X.calm = true) X tg iter wi
theorem go_of {M : Model} {A : Around} {E : Value → Shared → Prop} {s : Shared} {tg : Expr} {it : Addr} {u : Value} {o : Obj} {n : String} {vs : Array Value} {Q : Unit → Shared → Prop} (ho : s.heap.get? it = some o) (hc : o.cls = .type n) (hd : o.data = .fields vs)
    (hn : ["enumerate", "zip", "dict_itemiterator", "dict_reverseitemiterator", "odict_iterator", "itertools.zip_longest", "itertools.pairwise"].contains n = false) (hQ : Q () s) : wpAny M A (letOwnedTupleGo tg (.ref it) u) Q E s := by
  unfold letOwnedTupleGo
  cases tg <;> first
    | exact wpAny_pure hQ
    | (cases u <;> first
        | exact wpAny_pure hQ
        | (refine wpAny_bind (wpAny_load ho ?_)
           rw [hc, hd]
           show wpAny M A (if (["enumerate", "zip", "dict_itemiterator", "dict_reverseitemiterator", "odict_iterator", "itertools.zip_longest", "itertools.pairwise"].contains n && vs[0]? == some (rawInt _)) = true then _ else _) Q E s
           rw [if_neg (by intro h; rw [hn, Bool.false_and] at h; cases h)]
           exact wpAny_pure hQ))
def Itl (K : PySem.W.Frag) (a : Addr) : It :=
  ⟨fun i H => ∃ xs x, SqL K H a xs ∧ xs[i]? = some x, fun i H x H' => H' = H ∧ ∀ xs, SqL K H a xs → xs[i]? = some x, fun i H => ∃ xs, SqL K H a xs ∧ xs.length ≤ i⟩
def Itt (K : PySem.W.Frag) (a : Addr) : It :=
  ⟨fun i H => ∃ xs x, SqT K H a xs ∧ xs[i]? = some x, fun i H x H' => H' = H ∧ ∀ xs, SqT K H a xs → xs[i]? = some x, fun i H => ∃ xs, SqT K H a xs ∧ xs.length ≤ i⟩
def Itr (lo : Int) (n : Nat) : It := ⟨fun i _ => i < n, fun i H x H' => H' = H ∧ x = .int (lo + i), fun i _ => n ≤ i⟩
theorem turn_list {P : Program} {w : World} {K : PySem.W.Frag} {tg : Expr} (a it : Addr) : Turn P w K tg (Itl K a) [it] it (fun i h => h.IsListIter it a i) where
  mem := by simp
  obj := fun i h st b hb => by
    have e : b = it := by simpa using hb
    subst e
    obtain ⟨o, e, c, d⟩ := st
    exact ⟨o, e, fun v z => by rw [d] at z; cases z⟩
  keep := fun i h h' st k => st.at fun o e => k it (by simp) o e
  item := by
    intro X hP hw hK hc i pins s σ H E I hf st hg
    subst hP hw hK
    obtain ⟨xs, x, hq, hx⟩ := hg
    obtain ⟨its, rv, p, hz⟩ := I.list hq
    obtain ⟨u, hu, ru⟩ := rv.get hx
    obtain ⟨f0, f1, f2, f3, f4, f5⟩ := hf it (by simp)
    refine wpAny_pyNext_list_item st p.isList (x := u) (by simpa using hu) fun h' st' sb => ?_
    have I1 : Inv X pins σ H { s with heap := h' } := I.turned (t' := s.toks) (fun b o hb e => (sb.2 b hb).trans e) f0 f1 f3 f4 f5
    obtain ⟨o, e, c, d⟩ := id st'
    exact ⟨u, rfl, go_of (s := { s with heap := h' }) e c d (by decide) ⟨x, H, I1, ru, ⟨rfl, fun ys hy => by rw [I.list_inj hy hq]; exact hx⟩, st', fun b hb => (hf b hb).1⟩⟩
  done := by
    intro X hP hw hK hc i pins s σ H E I hf st hg
    subst hP hw hK
    obtain ⟨xs, hq, hx⟩ := hg
    obtain ⟨its, rv, p, hz⟩ := I.list hq
    obtain ⟨f0, f1, f2, f3, f4, f5⟩ := hf it (by simp)
    have hl := rv.length
    exact wpAny_pyNext_list_end (I.ok.hd hc) st p.isList (by simp; omega) fun h' eb => ⟨rfl, I.turned (t' := s.toks) (fun b o hb e => eb b o hb e) f0 f1 f3 f4 f5⟩
  self := fun _ _ _ _ _ st h => wpAny_pyIter_listiter st h
theorem turn_tuple {P : Program} {w : World} {K : PySem.W.Frag} {tg : Expr} (a it : Addr) : Turn P w K tg (Itt K a) [it] it (fun i h => h.IsTupleIter it a i) where
  mem := by simp
  obj := fun i h st b hb => by
    have e : b = it := by simpa using hb
    subst e
    obtain ⟨o, e, c, d⟩ := st
    exact ⟨o, e, fun v z => by rw [d] at z; cases z⟩
  keep := fun i h h' st k => st.at fun o e => k it (by simp) o e
  item := by
    intro X hP hw hK hc i pins s σ H E I hf st hg
    subst hP hw hK
    obtain ⟨xs, x, hq, hx⟩ := hg
    obtain ⟨its, rv, p, hz⟩ := I.tuple hq
    obtain ⟨u, hu, ru⟩ := rv.get hx
    obtain ⟨f0, f1, f2, f3, f4, f5⟩ := hf it (by simp)
    refine wpAny_pyNext_tuple_item st (show s.heap.IsTuple a its.toArray from p) (x := u) (by simpa using hu) fun h' st' sb => ?_
    have I1 : Inv X pins σ H { s with heap := h' } := I.turned (t' := s.toks) (fun b o hb e => (sb.2 b hb).trans e) f0 f1 f3 f4 f5
    obtain ⟨o, e, c, d⟩ := id st'
    exact ⟨u, rfl, go_of (s := { s with heap := h' }) e c d (by decide) ⟨x, H, I1, ru, ⟨rfl, fun ys hy => by rw [I.tuple_inj hy hq]; exact hx⟩, st', fun b hb => (hf b hb).1⟩⟩
  done := by
    intro X hP hw hK hc i pins s σ H E I hf st hg
    subst hP hw hK
    obtain ⟨xs, hq, hx⟩ := hg
    obtain ⟨its, rv, p, hz⟩ := I.tuple hq
    obtain ⟨f0, f1, f2, f3, f4, f5⟩ := hf it (by simp)
    have hl := rv.length
    exact wpAny_pyNext_tuple_end (I.ok.hd hc) st (show s.heap.IsTuple a its.toArray from p) (by simp; omega) fun h' eb => ⟨rfl, I.turned (t' := s.toks) (fun b o hb e => eb b o hb e) f0 f1 f3 f4 f5⟩
  self := fun _ _ _ _ _ st h => wpAny_pyIter_tupleiter st h
theorem turn_range {P : Program} {w : World} {K : PySem.W.Frag} {tg : Expr} (it : Addr) (lo : Int) (n : Nat) : Turn P w K tg (Itr lo n) [it] it (fun i h => IsRangeIter h it (lo + (i : Nat) * 1) ((n : Int) - (i : Nat)) 1) where
  mem := by simp
  obj := fun i h st b hb => by
    have e : b = it := by simpa using hb
    subst e
    exact ⟨_, st, fun v z => by
      have z' : Data.fields _ = Data.cell v := z
      cases z'⟩
  keep := fun i h h' st k => k it (by simp) _ st
  item := by
    intro X hP hw hK hc i pins s σ H E I hf st hg
    subst hP hw hK
    obtain ⟨f0, f1, f2, f3, f4, f5⟩ := hf it (by simp)
    have W := Walks.range (prog := X.prog) (w := X.w) (I.ok.hd hc) it lo 1 n
    refine W.item i s _ _ hg st fun v h' tk hv st' kk => ?_
    obtain ⟨t, rfl⟩ := hv
    have I1 : Inv X pins σ H { s with heap := h', toks := tk } := I.turned (fun b o hb e => kk b o (by simpa using hb) e) f0 f1 f3 f4 f5
    refine ⟨_, rfl, go_of (s := { s with heap := h', toks := tk }) (n := "range_iterator") st' rfl rfl (by decide) ⟨.int (lo + i), H, I1, ⟨t, ?_⟩, ⟨rfl, rfl⟩, st', fun b hb => (hf b hb).1⟩⟩
    rw [Int.mul_one]
  done := by
    intro X hP hw hK hc i pins s σ H E I hf st hg
    subst hP hw hK
    obtain ⟨f0, f1, f2, f3, f4, f5⟩ := hf it (by simp)
    exact wpAny_pyNext_range_end (I.ok.hd hc) st (by have : n ≤ i := hg; omega) fun h' eb => ⟨rfl, I.turned (t' := s.toks) (fun b o hb e => eb b o hb e) f0 f1 f3 f4 f5⟩
  self := fun _ _ _ _ _ st h => wpAny_pyIter_rangeiter st h
end L2
namespace L2
open PySem PySem.Spec PyProof.Rows
section
variable {X : Cx} {tg : Expr}
theorem range_it {pins : List (Addr × Obj)} {σ : St} {H : Hp} {s : Shared} {R : It → Hp → Prop} {E : Value → Shared → Prop} {lo hi : Int} {t u v : Tok} {tk : Nat} (I : Inv X pins σ H s) (h1 : -(2 ^ 62) ≤ lo) (h2 : lo < 2 ^ 62) (h3 : -(2 ^ 62) ≤ hi) (h4 : hi < 2 ^ 62)
    (q : R (Itr lo (hi - lo).toNat) H) : wpAny (model X.prog X.w) X.A (pyIter (.ref s.heap.objs.size)) (PIE X pins σ tg R) E { s with heap := s.heap.push { cls := .type "range", data := .fields #[.int lo t, .int hi u, .int 1 v] }, toks := tk } := by
  refine wpAny_pyIter_range (IsRange.new ..) (small_one h1 h2 h3 h4) ?_
  have I1 : Inv X pins σ H { s with heap := s.heap.push { cls := .type "range", data := .fields #[.int lo t, .int hi u, .int 1 v] }, toks := tk } := I.kept fun b o e => Heap.get?_push_of_some _ e
  refine ⟨(s.heap.push { cls := .type "range", data := .fields #[.int lo t, .int hi u, .int 1 v] }).objs.size, [(s.heap.push { cls := .type "range", data := .fields #[.int lo t, .int hi u, .int 1 v] }).objs.size], _, _, H, rfl,
    I1.kept (t' := tk) fun b o e => Heap.get?_push_of_some _ e, turn_range _ lo (hi - lo).toNat, ?_, fun b hb => ?_, q⟩
  · have e1 : lo + ((0 : Nat) : Int) * 1 = lo := by simp
    have e2 : (((hi - lo).toNat : Nat) : Int) - ((0 : Nat) : Int) = Builtin.Range.rangeSize lo hi 1 := by rw [rangeSize_one]; split <;> omega
    show IsRangeIter _ _ (lo + ((0 : Nat) : Int) * 1) ((((hi - lo).toNat : Nat) : Int) - ((0 : Nat) : Int)) 1
    rw [e1, e2]
    exact Heap.get?_push_size _ rfl
  · have e : b = (s.heap.push { cls := .type "range", data := .fields #[.int lo t, .int hi u, .int 1 v] }).objs.size := by simpa using hb
    subst e
    exact I1.fpOk (Nat.le_refl _) (I1.hok.fresh (Nat.le_refl _))
def iRng1 (ta : TA) : TI := fun σ H R => ta σ H fun vs H1 => ∃ j : Int, vs = [.int j] ∧ -(2 ^ 62) ≤ j ∧ j < 2 ^ 62 ∧ R (Itr 0 j.toNat) H1
theorem pi_range1 {a : Expr} {ta : TA} {p pos : Pos} (hg : Gl X "range") (hm : X.mg "range" = none) (ha : PA X [a] ta) (hs : starEach [a] X.env = [(false, eval a X.env)] := by rfl) : PI X tg (.Call (.Name "range" p) [a] [] pos) (iRng1 ta) := by
  intro pins s σ H R I h
  refine Call_ (ld_blt I hg hm boot_range (PyProof.Rows.callWith_type1 (thn (ha pos pins s σ H _ I h) fun us s1 ⟨vs, H1, I1, r1, q1⟩ => ?_) hs rfl))
  obtain ⟨j, e, q1, q2, q⟩ := q1
  subst e
  cases r1 with
  | cons r rr =>
    cases rr
    obtain ⟨t, rfl⟩ := r
    exact call_range_1 (range_it I1 (by omega) (by omega) q1 q2 (by simpa using q))
def tFor (wi : TI) (g : TG) (tb : TS) : TS := fun D σ H => wi σ H fun J H1 => ∃ W : Nat → Nat → St → Hp → Prop, (∃ m, W 0 m σ H1) ∧ ∀ i m σ H, W i m σ H →
  (J.stop i H ∧ D.nx σ H) ∨ (J.go i H ∧ ∃ N : St → Hp → Prop, (∀ σ' H', N σ' H' → ∃ m', m' < m ∧ W (i + 1) m' σ' H') ∧ ∀ x H', J.yld i H x H' → g x σ H' fun σ2 H2 => tb { D with nx := N, ct := N, bk := D.nx } σ2 H2)
def pinsAt (fp : List Addr) (h : Heap) : List (Addr × Obj) := fp.filterMap fun b => (h.get? b).map fun o => (b, o)
theorem mem_pinsAt {fp : List Addr} {h : Heap} {b : Addr} {o : Obj} (hb : b ∈ fp) (e : h.get? b = some o) : (b, o) ∈ pinsAt fp h := List.mem_filterMap.mpr ⟨b, hb, by rw [e]; rfl⟩
theorem of_pinsAt {fp : List Addr} {h : Heap} {p : Addr × Obj} (hp : p ∈ pinsAt fp h) : p.1 ∈ fp ∧ h.get? p.1 = some p.2 := by
  obtain ⟨b, hb, e⟩ := List.mem_filterMap.mp hp
  cases q : h.get? b with
  | none => rw [q] at e; cases e
  | some o =>
    rw [q] at e
    have e' : (b, o) = p := Option.some.inj e
    subst e'
    exact ⟨hb, q⟩
theorem Inv.pinned {pins : List (Addr × Obj)} {σ : St} {H : Hp} {s : Shared} {fp : List Addr} (I : Inv X pins σ H s) (hf : ∀ b ∈ fp, FpOk X pins H b) (ho : ∀ b ∈ fp, ∃ o, s.heap.get? b = some o ∧ ∀ v, o.data ≠ .cell v) : Inv X (pins ++ pinsAt fp s.heap) σ H s :=
  I.pins_of fun p hp => (List.mem_append.mp hp).elim (fun z => I.pin p (List.mem_append_right _ z)) fun z => by
    obtain ⟨hb, e⟩ := of_pinsAt z
    obtain ⟨f0, f1, f2, _⟩ := hf p.1 hb
    obtain ⟨o, e', d⟩ := ho p.1 hb
    rw [e] at e'; cases e'
    exact ⟨e, f0, f1, f2, d⟩
theorem Inv.unpinned {pins pl : List (Addr × Obj)} {σ : St} {H : Hp} {s : Shared} (I : Inv X (pins ++ pl) σ H s) : Inv X pins σ H s := I.pins_of fun p hp => I.pin p (List.mem_append_right _ (List.mem_append_left _ hp))
theorem ps_for {iter : Expr} {body : List Stmt} {wi : TI} {g : TG} {tb : TS} {pos : Pos} (hp : PassesOwn (model X.prog X.w) X.A X.env X.xe) (hc : X.calm = true) (hi : PI X tg iter wi) (hg : PG X tg g) (hb : PSs X body tb)
    (hs : ∀ x, foldedSetIterable iter X.env x = pure x := by intro _; rfl) : PS X (.For tg iter body [] pos) (tFor wi g tb) := by
  intro pins s σ H D I h
  refine wpAny_For (thn (hi pins s σ H _ I h) fun v s1 h1 => thn h1 fun itv s2 h2 => ?_) hs
  obtain ⟨it, fp, tn, J, H2, e, I2, T, st2, f2, W, ⟨m0, w0⟩, turn⟩ := h2
  subst e
  -- what stays true of the iterator's objects through the loop
  have stat : ∀ {H' : Hp}, (∀ b ∈ fp, H' b = none) → ∀ b ∈ fp, FpOk X pins H' b := fun hn b hb => ⟨hn b hb, (f2 b hb).2⟩
  refine codeAny_forLoop_any (fun n s' => ∃ i σ' H', Inv X pins σ' H' s' ∧ tn i s'.heap ∧ (∀ b ∈ fp, H' b = none) ∧ W i n σ' H') ?_ m0 ⟨0, σ, H2, I2, st2, fun b hb => (f2 b hb).1, w0⟩
  rintro n s3 ⟨i, σ3, H3, I3, st3, fr3, w3⟩
  rcases turn i n σ3 H3 w3 with ⟨stop, qn⟩ | ⟨go, N, hN, step⟩
  · refine wpAny_passesOwn hp (thn (T.done X rfl rfl rfl hc i pins s3 σ3 H3 X.xe I3 (stat fr3) st3 stop) fun r s4 ⟨hr, I4⟩ => ?_)
    subst hr
    exact wpAny_execs_nil ⟨σ3, H3, I4, qn⟩
  · refine wpAny_passesOwn hp (thn (T.item X rfl rfl rfl hc i pins s3 σ3 H3 X.xe I3 (stat fr3) st3 go) fun r s4 ⟨u, hr, h4⟩ => ?_)
    subst hr
    refine wpAny_passesOwn hp (thn h4 fun _ s5 ⟨x, H5, I5, r5, y5, st5, fr5⟩ => ?_)
    have I5' := I5.pinned (stat fr5) (T.obj _ _ st5)
    refine wpAny_passesOwn hp (thn (hg _ s5 σ3 H5 x u _ I5' r5 (step x H5 y5)) fun _ s6 ⟨σ6, H6, I6, q6⟩ => ?_)
    refine wpAny_passesOwn hp (thn (hb _ s6 σ6 H6 _ I6 q6) fun f s7 q7 => ?_)
    have again : ∀ {σ7 : St} {H7 : Hp}, Inv X (pins ++ pinsAt fp s5.heap) σ7 H7 s7 → N σ7 H7 → ∃ m, m < n ∧ ∃ i σ' H', Inv X pins σ' H' s7 ∧ tn i s7.heap ∧ (∀ b ∈ fp, H' b = none) ∧ W i m σ' H' := fun {σ7 H7} I7 n7 => by
      obtain ⟨m', hm, w7⟩ := hN σ7 H7 n7
      refine ⟨m', hm, i + 1, σ7, H7, I7.unpinned, T.keep _ _ _ st5 fun b hb o e => (I7.pin (b, o) (List.mem_append_right _ (List.mem_append_right _ (mem_pinsAt hb e)))).1, fun b hb => ?_, w7⟩
      obtain ⟨o, e, d⟩ := T.obj _ _ st5 b hb
      exact (I7.pin (b, o) (List.mem_append_right _ (List.mem_append_right _ (mem_pinsAt hb e)))).2.1
    cases f with
    | next => obtain ⟨σ7, H7, I7, n7⟩ := q7; exact again I7 n7
    | cont => obtain ⟨σ7, H7, I7, n7⟩ := q7; exact again I7 n7
    | brk => obtain ⟨σ7, H7, I7, q7⟩ := q7; exact ⟨σ7, H7, I7.unpinned, q7⟩
    | ret v => obtain ⟨x7, σ7, H7, I7, r7, q7⟩ := q7; exact ⟨x7, σ7, H7, I7.unpinned, r7, q7⟩
end
end L2
namespace L2
open PySem PySem.Spec PyProof.Rows
abbrev R2 := V → V → Hp → VK → Prop
def OpR (X : Cx) (f : Value → Value → Sem Value) (r : R2) : Prop :=
  ∀ (pins : List (Addr × Obj)) (s : Shared) (σ : St) (H : Hp) (x y : V) (v u : Value) (Q : VK), Inv X pins σ H s → RelV x v → RelV y u → r x y H Q →
    wpAny (model X.prog X.w) X.A (f v u) (EP X pins σ Q) X.xe s
def UnR (X : Cx) (f : Value → Sem Value) (r : V → Hp → VK → Prop) : Prop :=
  ∀ (pins : List (Addr × Obj)) (s : Shared) (σ : St) (H : Hp) (x : V) (v : Value) (Q : VK), Inv X pins σ H s → RelV x v → r x H Q →
    wpAny (model X.prog X.w) X.A (f v) (EP X pins σ Q) X.xe s
def CallR (X : Cx) (f : Value) (r : List V → Hp → VK → Prop) : Prop :=
  ∀ (pins : List (Addr × Obj)) (s : Shared) (σ : St) (H : Hp) (xs : List V) (us : List Value) (Q : VK), Inv X pins σ H s → Vals xs us → r xs H Q →
    wpAny (model X.prog X.w) X.A (call f us) (EP X pins σ Q) X.xe s
def tOp (r : R2) (ta tb : TE) : TE := fun σ H Q => ta σ H fun x H1 => tb σ H1 fun y H2 => r x y H2 Q
def tUn (r : V → Hp → VK → Prop) (ta : TE) : TE := fun σ H Q => ta σ H fun x H1 => r x H1 Q
def rI (C : Int → Int → Prop) (g : Int → Int → V) : R2 := fun x y H Q => ∃ i j, x = .int i ∧ y = .int j ∧ C i j ∧ Q (g i j) H
def rI0 (g : Int → Int → V) : R2 := fun x y H Q => ∃ i j, x = .int i ∧ y = .int j ∧ Q (g i j) H
def rU (g : Int → V) : V → Hp → VK → Prop := fun x H Q => ∃ i, x = .int i ∧ Q (g i) H
section
variable {X : Cx} {a b c : Expr} {ta tb tc : TE} {pos : Pos}
theorem binT (ha : PE X a ta) (hb : PE X b tb) {pins : List (Addr × Obj)} {s : Shared} {σ : St} {H : Hp} {R : V → V → Hp → Prop} (I : Inv X pins σ H s)
    (h : ta σ H fun x H1 => tb σ H1 fun y H2 => R x y H2) {Q : Value → Shared → Prop} {f : Value → Value → Sem Value}
    (hf : ∀ v u s2 x y H2, Inv X pins σ H2 s2 → RelV x v → RelV y u → R x y H2 → wpAny (model X.prog X.w) X.A (f v u) Q X.xe s2) :
    wpAny (model X.prog X.w) X.A (eval a X.env) (fun v s₁ => wpAny (model X.prog X.w) X.A (eval b X.env) (fun u s₂ => wpAny (model X.prog X.w) X.A (f v u) Q X.xe s₂) X.xe s₁) X.xe s := by
  refine thn (ha pins s σ H _ I h) fun v s1 ⟨x, H1, I1, r1, q1⟩ => ?_
  refine thn (hb pins s1 σ H1 _ I1 q1) fun u s2 ⟨y, H2, I2, r2, q2⟩ => ?_
  exact hf v u s2 x y H2 I2 r1 r2 q2
theorem pe_op {op : Operator} {r : R2} (ho : OpR X (binaryOp op) r) (ha : PE X a ta) (hb : PE X b tb) : PE X (.BinOp a op b pos) (tOp r ta tb) := by
  intro pins s σ H Q I h
  exact wpAny_BinOp (binT ha hb I h fun v u s2 x y H2 I2 rx ry q => ho pins s2 σ H2 x y v u Q I2 rx ry q)
theorem pe_un {op : UnaryOp} {r : V → Hp → VK → Prop} (ho : UnR X (unaryOp op) r) (ha : PE X a ta) : PE X (.UnaryOp op a pos) (tUn r ta) := by
  intro pins s σ H Q I h
  exact UnaryOp_ (thn (ha pins s σ H _ I h) fun v s1 ⟨x, H1, I1, r1, q1⟩ => ho pins s1 σ H1 x v Q I1 r1 q1)
theorem opI {f : Value → Value → Sem Value} {C : Int → Int → Prop} {g : Int → Int → Int}
    (rule : ∀ (i j : Int) (t u : Tok) (s : Shared) (Q : Value → Shared → Prop) (E : Value → Shared → Prop), C i j → Q (.int (g i j) s.toks) { s with toks := s.toks + 1 } → wpAny (model X.prog X.w) X.A (f (.int i t) (.int j u)) Q E s) :
    OpR X f (rI C fun i j => .int (g i j)) := by
  intro pins s σ H x y v u Q I rx ry h
  obtain ⟨i, j, rfl, rfl, hc, q⟩ := h
  obtain ⟨t, rfl⟩ := rx
  obtain ⟨t', rfl⟩ := ry
  exact rule i j t t' s _ _ hc ⟨.int (g i j), H, I.tok _, ⟨_, rfl⟩, q⟩
theorem opI0 {f : Value → Value → Sem Value} {g : Int → Int → Int}
    (rule : ∀ (i j : Int) (t u : Tok) (s : Shared) (Q : Value → Shared → Prop) (E : Value → Shared → Prop), Q (.int (g i j) s.toks) { s with toks := s.toks + 1 } → wpAny (model X.prog X.w) X.A (f (.int i t) (.int j u)) Q E s) :
    OpR X f (rI0 fun i j => .int (g i j)) := by
  intro pins s σ H x y v u Q I rx ry h
  obtain ⟨i, j, rfl, rfl, q⟩ := h
  obtain ⟨t, rfl⟩ := rx
  obtain ⟨t', rfl⟩ := ry
  exact rule i j t t' s _ _ ⟨.int (g i j), H, I.tok _, ⟨_, rfl⟩, q⟩
theorem opB0 {f : Value → Value → Sem Value} {g : Int → Int → Bool}
    (rule : ∀ (i j : Int) (t u : Tok) (s : Shared) (Q : Value → Shared → Prop) (E : Value → Shared → Prop), Q (.bool (g i j)) s → wpAny (model X.prog X.w) X.A (f (.int i t) (.int j u)) Q E s) :
    OpR X f (rI0 fun i j => .bl (g i j)) := by
  intro pins s σ H x y v u Q I rx ry h
  obtain ⟨i, j, rfl, rfl, q⟩ := h
  obtain ⟨t, rfl⟩ := rx
  obtain ⟨t', rfl⟩ := ry
  exact rule i j t t' s _ _ ⟨.bl (g i j), H, I, rfl, q⟩
def CDiv (i j : Int) : Prop := 0 < j ∧ j < 1073741824
def CMul (i j : Int) : Prop := (-(2 ^ 64) < i ∧ i < 2 ^ 64) ∨ (-(2 ^ 64) < j ∧ j < 2 ^ 64)
theorem CMul.ok {i j : Int} (h : CMul i j) : IntMulOk i j := by
  rcases h with ⟨h1, h2⟩ | ⟨h1, h2⟩
  · exact .of_left (intBits_le_64 h1 h2)
  · exact .of_right (intBits_le_64 h1 h2)
theorem op_add : OpR X (binaryOp .Add) (rI0 fun i j => .int (i + j)) := opI0 fun _ _ _ _ _ _ _ q => add_int q
theorem op_sub : OpR X (binaryOp .Sub) (rI0 fun i j => .int (i - j)) := opI0 fun _ _ _ _ _ _ _ q => sub_int q
theorem op_fdiv : OpR X (binaryOp .FloorDiv) (rI CDiv fun i j => .int (i / j)) := opI fun i j _ _ _ _ _ hc q => by
  have h1 : (0 : Int) < j := hc.1
  have h2 : j < 1073741824 := hc.2
  exact floordiv_int (by omega) (by rw [Int.fdiv_eq_ediv_of_nonneg i (by omega)]; exact q) (.inl (PyProof.noPylong_small (by omega)))
theorem op_mod : OpR X (binaryOp .Mod) (rI (fun _ j => 0 < j) fun i j => .int (i % j)) := opI fun i j _ _ _ _ _ hc q => by
  have h1 : (0 : Int) < j := hc
  exact mod_int' (by omega) (by rw [Int.fmod_eq_emod_of_nonneg i (by omega)]; exact q)
theorem unI {f : Value → Sem Value} {g : Int → Int}
    (rule : ∀ (i : Int) (t : Tok) (s : Shared) (Q : Value → Shared → Prop) (E : Value → Shared → Prop), Q (.int (g i) s.toks) { s with toks := s.toks + 1 } → wpAny (model X.prog X.w) X.A (f (.int i t)) Q E s) :
    UnR X f (rU fun i => .int (g i)) := by
  intro pins s σ H x v Q I rx h
  obtain ⟨i, rfl, q⟩ := h
  obtain ⟨t, rfl⟩ := rx
  exact rule i t s _ _ ⟨.int (g i), H, I.tok _, ⟨_, rfl⟩, q⟩
theorem un_neg : UnR X (unaryOp .USub) (rU fun i => .int (-i)) := unI fun _ _ _ _ _ q => neg_int q
end
section
variable {X : Cx} {a b c : Expr} {ta tb tc : TE} {pos : Pos}
theorem op_lt : OpR X (compareOp .Lt) (rI0 fun i j => .bl (decide (i < j))) := opB0 fun _ _ _ _ _ _ _ q => lt_int q
theorem op_gt : OpR X (compareOp .Gt) (rI0 fun i j => .bl (decide (j < i))) := opB0 fun _ _ _ _ _ _ _ q => gt_int q
theorem op_ge : OpR X (compareOp .GtE) (rI0 fun i j => .bl (decide (j ≤ i))) := opB0 fun _ _ _ _ _ _ _ q => ge_int q
theorem nomark (b : Expr) {op : CmpOp} (h : op ≠ .In := by decide) (h2 : op ≠ .NotIn := by decide) : behindInMarks op b = false := by
  have e1 : (op == CmpOp.In) = false := by cases op <;> first | rfl | exact absurd rfl h
  have e2 : (op == CmpOp.NotIn) = false := by cases op <;> first | rfl | exact absurd rfl h2
  cases b <;> simp [behindInMarks, e1, e2]
theorem pe_cmpR {op : CmpOp} {r : R2} (ho : OpR X (compareOp op) r) (ha : PE X a ta) (hb : PE X b tb) (hm : behindInMarks op b = false) : PE X (.Compare a [op] [b] pos) (tOp r ta tb) := by
  intro pins s σ H Q I h
  exact wpAny_Compare1 (binT ha hb I h fun v u s2 x y H2 I2 rx ry q => ho pins s2 σ H2 x y v u Q I2 rx ry q) hm
def tTest (t : TE) : TT := fun σ H Q => t σ H fun x H' => ∃ k, x = .bl k ∧ Q k H'
theorem pt_cmpR {op : CmpOp} {r : R2} (ho : OpR X (compareOp op) r) (ha : PE X a ta) (hb : PE X b tb) (hm : behindInMarks op b = false) : PT X (.Compare a [op] [b] pos) (tTest (tOp r ta tb)) := by
  intro pins s σ H Q I h
  refine wpAny_isTrue_Compare1 (thn (ha pins s σ H _ I h) fun v s1 ⟨x, H1, I1, r1, q1⟩ => thn (hb pins s1 σ H1 _ I1 q1) fun u s2 ⟨y, H2, I2, r2, q2⟩ =>
    thn (ho pins s2 σ H2 x y v u _ I2 r1 r2 q2) fun c s3 ⟨z, H3, I3, r3, k, e, q3⟩ => ?_) hm
  subst e
  cases r3
  exact wpAny_truthy_bool ⟨H3, I3, q3⟩
theorem line63 : (sizeLine : Nat) < 2 ^ 63 := by rw [sizeLine_eq]; decide
theorem op_add_str : OpR X (binaryOp .Add) (fun x y H Q => ∃ i j, x = .str i ∧ y = .str j ∧ i.length + j.length ≤ sizeLine ∧ Q (.str (i ++ j)) H) := by
  intro pins s σ H x y v u Q I rx ry h
  obtain ⟨i, j, rfl, rfl, hz, q⟩ := h
  obtain ⟨t, rfl⟩ := rx
  obtain ⟨t', rfl⟩ := ry
  exact add_str (fun t' tk => ⟨.str (i ++ j), H, I.tok _, ⟨_, rfl⟩, q⟩) hz
theorem vals1 {x : V} {us : List Value} (r : Vals [x] us) : ∃ u, us = [u] ∧ RelV x u := by
  cases r with
  | cons r1 r2 => cases r2; exact ⟨_, rfl, r1⟩
theorem vals2 {x y : V} {us : List Value} (r : Vals [x, y] us) : ∃ u w', us = [u, w'] ∧ RelV x u ∧ RelV y w' := by
  cases r with
  | cons r1 r2 =>
    cases r2 with
    | cons r3 r4 => cases r4; exact ⟨_, _, rfl, r1, r3⟩
theorem call_abs : CallR X (.builtin "abs") (fun xs H Q => ∃ i, xs = [.int i] ∧ Q (.int (if i < 0 then -i else i)) H) := by
  intro pins s σ H xs us Q I r h
  obtain ⟨i, rfl, q⟩ := h
  obtain ⟨u, rfl, t, rfl⟩ := vals1 r
  exact call_abs_int fun u tk => ⟨.int (if i < 0 then -i else i), H, I.tok _, ⟨_, rfl⟩, q⟩
theorem call_max2 (hc : X.calm = true) : CallR X (.builtin "max") (fun xs H Q => ∃ i j, xs = [.int i, .int j] ∧ Q (.int (if j > i then j else i)) H) := by
  intro pins s σ H xs us Q I r h
  obtain ⟨i, j, rfl, q⟩ := h
  obtain ⟨u, w', rfl, ⟨t, rfl⟩, ⟨t', rfl⟩⟩ := vals2 r
  refine max_two_ints (I.ok.hd hc) fun h' tk k => ⟨_, H, I.kept k, ?_, q⟩
  by_cases hj : j > i
  · rw [if_pos hj, if_pos hj]; exact ⟨_, rfl⟩
  · rw [if_neg hj, if_neg hj]; exact ⟨_, rfl⟩
theorem call_min2 (hc : X.calm = true) : CallR X (.builtin "min") (fun xs H Q => ∃ i j, xs = [.int i, .int j] ∧ Q (.int (if j < i then j else i)) H) := by
  intro pins s σ H xs us Q I r h
  obtain ⟨i, j, rfl, q⟩ := h
  obtain ⟨u, w', rfl, ⟨t, rfl⟩, ⟨t', rfl⟩⟩ := vals2 r
  refine min_two_ints (I.ok.hd hc) fun h' tk k => ⟨_, H, I.kept k, ?_, q⟩
  by_cases hj : j < i
  · rw [if_pos hj, if_pos hj]; exact ⟨_, rfl⟩
  · rw [if_neg hj, if_neg hj]; exact ⟨_, rfl⟩
theorem call_int1 : CallR X (.type "int") (fun xs H Q => (∃ i, xs = [.int i] ∧ Q (.int i) H) ∨ ∃ k, xs = [.bl k] ∧ Q (.int (if k then 1 else 0)) H) := by
  intro pins s σ H xs us Q I r h
  rcases h with ⟨i, rfl, q⟩ | ⟨k, rfl, q⟩
  · obtain ⟨u, rfl, t, rfl⟩ := vals1 r
    exact call_int_int ⟨.int i, H, I, ⟨_, rfl⟩, q⟩
  · obtain ⟨u, rfl, r1⟩ := vals1 r
    cases r1
    exact call_int_bool ⟨.int (if k then 1 else 0), H, I.tok _, ⟨_, rfl⟩, q⟩
end
end L2
namespace L2
open PySem PySem.Spec PyProof.Rows
structure ObjM (h : Heap) (x dx C : Addr) (mA : Str → Option Value) : Prop where
  obj : h.get? x = some (PySem.W.instObj C dx)
  ns : h.Ns1 dx mA
  ne : dx ≠ x
theorem lookIn_ns {h : Heap} {dx : Addr} {mA : Str → Option Value} (n : h.Ns1 dx mA) : ∃ od, h.get? dx = some od ∧ ∀ name, PySem.W.lookIn name od = some (mA name) := by
  obtain ⟨o, es, ep, ho, hd, hk, _, hm⟩ := n
  refine ⟨o, ho, fun name => ?_⟩
  have e := hm name
  unfold nsFind findBy at e
  rw [← Array.find?_toList] at e
  unfold PySem.W.lookIn
  rw [hd]
  dsimp only
  split
  · rename_i y q
    rw [q] at e
    exact congrArg some e
  · rename_i q
    rw [q] at e
    have a : es.toList.any (·.refKey) = false := by
      rw [List.any_eq_false]
      intro y hy
      obtain ⟨z, t, hkey⟩ := hk y (Array.mem_toList_iff.mp hy)
      simp [DictEntry.refKey, hkey]
    have a' : ¬ es.toList.any (·.refKey) = true := by rw [a]; exact Bool.false_ne_true
    rw [if_neg a']
    exact congrArg some e
theorem ObjM.look {h : Heap} {x dx C : Addr} {mA : Str → Option Value} (I : ObjM h x dx C mA) : ∃ od, PySem.W.InstAt h x (PySem.W.instObj C dx) C (some od) ∧ ∀ name, PySem.W.lookIn name od = some (mA name) :=
  let ⟨od, ho, hl⟩ := lookIn_ns I.ns
  ⟨od, ⟨I.obj, rfl, rfl, ho⟩, hl⟩
section
variable {prog : Program} {w : World} {A : Around} {E : Value → Shared → Prop} {s : Shared} {K : PySem.W.Frag} {x dx C f : Addr} {mA : Str → Option Value} {name : Str} {v : Value}
end
theorem RelO.some_of {v : V} {o : Option Value} (r : RelO (some v) o) : ∃ u, o = some u ∧ RelV v u := by
  cases o with
  | none => exact (show False from r).elim
  | some u => exact ⟨u, rfl, r⟩
theorem RelO.none_of {o : Option Value} (r : RelO none o) : o = none := by
  cases o with
  | none => rfl
  | some u => exact (show False from r).elim
section
variable {P : Program} {w : World} {H H' : Hp} {h h' : Heap} {a C dx : Addr} {fs fs' : List (Str × V)}
theorem ins_get (hok : HOk P w H h) (e : H a = some (.ins C dx fs)) : ∃ mA, ObjM h a dx C mA ∧ (∀ f, RelO (fs.lookup f) (mA f)) ∧ PySem.Within mA (fs.map (·.1)) ∧ fs.length ≤ 1000 ∧ H dx = some (.own a) := by
  obtain ⟨d, z, ne, ob, mA, n, r, q⟩ := (show ObjOk P w H h a (.ins C dx fs) from hok a _ e)
  exact ⟨mA, ⟨ob, n, ne⟩, r, q, z, d⟩
end
structure Cls (K : PySem.W.Frag) (C : Addr) : Prop where
  pg : PySem.W.plainGet K C Str.empty = true
  hd : PySem.W.hasDictIn K C = true
  po : PySem.W.plainOver K C = true
  sa : PySem.W.findIn K (.ref C) "__setattr__" = some (some (.builtin "object.__setattr__"))
theorem Cls.get {K : PySem.W.Frag} {C : Addr} (c : Cls K C) (f : Str) : PySem.W.plainGet K C f = true := c.pg
section
variable {X : Cx} {pins : List (Addr × Obj)} {σ : St} {H : Hp} {s : Shared} {a C dx : Addr} {fs : List (Str × V)} {f : Str} {v : V} {A : Around} {E : Value → Shared → Prop}
theorem Inv.made (I : Inv X pins σ H s) : Inv X pins σ (upd (upd H s.heap.objs.size (.own (s.heap.objs.size + 1))) (s.heap.objs.size + 1) (.ins C s.heap.objs.size []))
    { s with heap := (s.heap.push PySem.W.emptyDict).push (PySem.W.instObj C s.heap.objs.size) } := by
  have e1 : (s.heap.push PySem.W.emptyDict).get? s.heap.objs.size = some PySem.W.emptyDict := Heap.get?_push_size s.heap rfl
  have e2 : ((s.heap.push PySem.W.emptyDict).push (PySem.W.instObj C s.heap.objs.size)).get? (s.heap.objs.size + 1) = some (PySem.W.instObj C s.heap.objs.size) := by
    have := Heap.get?_push_size (s.heap.push PySem.W.emptyDict) (o := PySem.W.instObj C s.heap.objs.size) rfl
    rwa [Heap.size_push] at this
  have e3 : (s.heap.push PySem.W.emptyDict).Ns s.heap.objs.size (fun _ => none) := ⟨PySem.W.emptyDict, #[], _, e1, rfl, (fun e he => absurd he (by simp)), fun _ => rfl⟩
  have I1 := I.laid (a := s.heap.objs.size) (o := .own (s.heap.objs.size + 1)) (h' := s.heap.push PySem.W.emptyDict) (t' := s.toks) (fun b u q => Heap.get?_push_of_some _ q) (Nat.le_refl _) ⟨_, e1⟩
  refine I1.laid (a := s.heap.objs.size + 1) (o := .ins C s.heap.objs.size []) (t' := s.toks) (fun b u q => Heap.get?_push_of_some _ q) (Nat.le_of_eq (Heap.size_push _ _)) ?_
  have ne : s.heap.objs.size ≠ s.heap.objs.size + 1 := Nat.ne_of_lt (Nat.lt_succ_self _)
  refine ⟨by rw [upd_ne ne, upd_same], Nat.zero_le _, ne, e2, fun _ => none, (Heap.Ns1.of_empty e3).at fun o q => Heap.get?_push_of_some _ q, fun _ => True.intro, fun y hy => absurd rfl hy⟩
end
section
variable {X : Cx} {o e value : Expr} {f : Str} {pos pos' tpos : Pos} {ta tv : TE}
end
section
variable {X : Cx} {pins : List (Addr × Obj)} {σ : St} {H : Hp} {s : Shared} {A : Around} {E : Value → Shared → Prop} {Q : Value → Shared → Prop} {c : Value} {b : Bool}
inductive TyOf (K : PySem.W.Frag) (H : Hp) : V → Value → Prop where
  | non : TyOf K H .non (.type "NoneType")
  | bl (x : Bool) : TyOf K H (.bl x) (.type "bool")
  | int (i : Int) : TyOf K H (.int i) (.type "int")
  | str (x : Str) : TyOf K H (.str x) (.type "str")
  | flt (x : UInt64) : TyOf K H (.flt x) (.type "float")
  | lst {a : Addr} {xs : List V} (e : H a = some (.lst xs)) : TyOf K H (.ref a) (.type "list")
  | frz {a : Addr} {o : Obj} {xs : List V} (e : H a = some (.frz o (.lst xs))) : TyOf K H (.ref a) (.type "list")
  | tup {a : Addr} {xs : List V} (e : H a = some (.tup xs)) : TyOf K H (.ref a) (.type "tuple")
  | dK {a : Addr} {kvs : List (Key × V)} (e : H a = some (.dK kvs)) : TyOf K H (.ref a) (.type "dict")
  | dT {a : Addr} {kvs : List (List Key × V)} (e : H a = some (.dT kvs)) : TyOf K H (.ref a) (.type "dict")
  | ins {a C dx : Addr} {fs : List (Str × V)} (e : H a = some (.ins C dx fs)) (cl : Cls K C) (ha : PySem.W.findIn K (.ref C) "__class__" = some (some (.builtin "object.__class__")))
      (hn : PySem.W.specialIn K (.builtin "object.__class__") "__get__" = some (some (.builtin "getset_descriptor.__get__"))) (htk : PySem.W.takesIn K (.builtin "object.__class__") = some true)
      (hm : PySem.W.mroIn K C (.type "object") = some true) : TyOf K H (.ref a) (.ref C)
theorem isinst_ok {x : V} {u t : Value} (I : Inv X pins σ H s) (rx : RelV x u) (ty : TyOf X.K H x t) (e : PySem.W.kitOne X.K t c = some b) (h : ∀ tk, Q (.bool b) { s with toks := tk }) :
    wpAny (model X.prog X.w) A (call (.builtin "isinstance") [u, c]) Q E s := by
  cases ty with
  | non => cases (show u = Value.none from rx); exact PySem.W.kia_one PySem.W.kitx_none I.kIn True.intro e (fun z => nomatch z) h
  | bl y => cases (show u = Value.bool y from rx); exact PySem.W.kia_one PySem.W.kitx_bool I.kIn True.intro e (fun z => nomatch z) h
  | int i => obtain ⟨t, q⟩ := (show ∃ t, u = Value.int i t from rx); cases q; exact PySem.W.kia_one PySem.W.kitx_int I.kIn True.intro e (fun z => nomatch z) h
  | str y => obtain ⟨t, q⟩ := (show ∃ t, u = Value.str y t from rx); cases q; exact PySem.W.kia_one PySem.W.kitx_str I.kIn True.intro e (fun z => nomatch z) h
  | flt y => obtain ⟨t, q⟩ := (show ∃ t, u = Value.float y t from rx); cases q; exact PySem.W.kia_one PySem.W.kitx_float I.kIn True.intro e (fun z => nomatch z) h
  | @lst a xs ea =>
    cases (show u = Value.ref a from rx)
    obtain ⟨_, _, n, _, h1⟩ := (show ObjOk X.prog X.w H s.heap a (.lst xs) from I.hok a _ ea)
    exact PySem.W.kia_one PySem.W.kitx_list I.kIn ⟨_, h1, rfl⟩ e (fun z => nomatch z) h
  | @frz a ob xs ea =>
    cases (show u = Value.ref a from rx)
    obtain ⟨_, _, _, n, _, h1⟩ := (show ObjOk X.prog X.w H s.heap a (.frz ob (.lst xs)) from I.hok a _ ea)
    exact PySem.W.kia_one PySem.W.kitx_list I.kIn ⟨_, h1, rfl⟩ e (fun z => nomatch z) h
  | @tup a xs ea =>
    cases (show u = Value.ref a from rx)
    obtain ⟨_, _, _, p⟩ := (show ObjOk X.prog X.w H s.heap a (.tup xs) from I.hok a _ ea)
    obtain ⟨o, h1, h2, _⟩ := p
    exact PySem.W.kia_one PySem.W.kitx_tuple I.kIn ⟨o, h1, congrArg Prod.fst h2⟩ e (fun z => nomatch z) h
  | @dK a kvs ea =>
    cases (show u = Value.ref a from rx)
    obtain ⟨_, _, vs, _, p⟩ := (show ObjOk X.prog X.w H s.heap a (.dK kvs) from I.hok a _ ea)
    obtain ⟨o, es, ep, h1, h2, _⟩ := p
    exact PySem.W.kia_one PySem.W.kitx_dict I.kIn ⟨o, h1, h2.1⟩ e (fun z => nomatch z) h
  | @dT a kvs ea =>
    cases (show u = Value.ref a from rx)
    obtain ⟨_, _, xs, _, o, es, ep, h1, h2, _⟩ := (show ObjOk X.prog X.w H s.heap a (.dT kvs) from I.hok a _ ea)
    exact PySem.W.kia_one PySem.W.kitx_dict I.kIn ⟨o, h1, h2.1⟩ e (fun z => nomatch z) h
  | @ins a C dx fs ea cl ha hn htk hm =>
    cases (show u = Value.ref a from rx)
    obtain ⟨mA, O, _⟩ := ins_get I.hok ea
    obtain ⟨od, J, _⟩ := O.look
    exact PySem.W.kia_one (PySem.W.kitx_own (cl.get _) cl.hd ha hn htk hm) I.kIn J e (fun z => nomatch z) h
end
end L2
namespace L2
open PySem PySem.Spec PyProof.Rows
structure Room (k : Nat) (A : Around) : Prop where
  dp : A.depth + 3 * k + 5 < recursionLimit
  un : A.units + 16 * k + 200 < cLine
  gd : A.guards = some []
theorem Room.mono {j k : Nat} {A : Around} (r : Room k A) (h : j ≤ k) : Room j A := ⟨by have := r.dp; omega, by have := r.un; omega, r.gd⟩
theorem Room.deeper {k : Nat} {A : Around} (r : Room (k + 1) A) (env : Env) : Room k (A.deeper env) :=
  ⟨by have := r.dp; show A.depth + 1 + 3 * k + 5 < _; omega, by have := r.un; show A.units + 3 + 16 * k + 200 < _; omega, r.gd⟩
theorem Room.depth {k : Nat} {A : Around} (r : Room k A) : A.depth < recursionLimit := by have := r.dp; omega
theorem Room.units {k : Nat} {A : Around} (r : Room k A) : A.units + 64 < cLine := by have := r.un; omega
def tNil : TA := fun _ H Q => Q [] H
def tCons (ta : TE) (tr : TA) : TA := fun σ H Q => ta σ H fun x H1 => tr σ H1 fun xs H2 => Q (x :: xs) H2
section
variable {X : Cx} {e : Expr} {es : List Expr} {te : TE} {t : TA} {pos : Pos}
theorem pa_nil : PA X [] tNil := fun _ _ _ _ H Q I h => Calls.spliced_nil ⟨[], H, I, .nil, h⟩
theorem pa_cons (ha : PE X e te) (hr : PA X es t) (hs : starEach (e :: es) X.env = (false, eval e X.env) :: starEach es X.env := by rfl) : PA X (e :: es) (tCons te t) := by
  intro pos pins s σ H Q I h
  rw [hs]
  show wpAny _ _ (spliced ((false, eval e X.env) :: backTo pos (starEach es X.env))) _ _ s
  refine Calls.spliced_cons (thn (ha pins s σ H _ I h) fun u s1 ⟨x, H1, I1, r1, q1⟩ => ?_)
  exact thn (hr pos pins s1 σ H1 _ I1 q1) fun us s2 ⟨xs, H2, I2, r2, q2⟩ => ⟨x :: xs, H2, I2, .cons r1 r2, q2⟩
def tTup (t : TA) : TE := fun σ H Q => t σ H fun xs H1 => xs.length ≤ sizeLine ∧ ∀ p, H1 p = none → Q (.ref p) (upd H1 p (.tup xs))
def tLst (t : TA) : TE := fun σ H Q => t σ H fun xs H1 => xs.length ≤ sizeLine ∧ ∀ p, H1 p = none → Q (.ref p) (upd H1 p (.lst xs))
theorem pe_tup {x1} (h : PA X es t) : PE X (.Tuple es x1 pos) (tTup t) := by
  intro pins s σ H Q I hq
  refine wpAny_Tuple_spliced (thn (h pos pins s σ H _ I hq) fun us s1 ⟨xs, H1, I1, r, z, q⟩ => ⟨by rw [← r.length]; exact z, ?_⟩)
  have hf : H1 s1.heap.objs.size = none := I1.hok.fresh (Nat.le_refl _)
  refine ⟨.ref s1.heap.objs.size, upd H1 s1.heap.objs.size (.tup xs), I1.laid (t' := s1.toks) (fun b u e => Heap.get?_push_of_some _ e) (Nat.le_refl _) ?_, rfl, q _ hf⟩
  exact ⟨z, us, r, ⟨_, Heap.get?_push_size _ rfl, rfl, _, rfl⟩⟩
theorem pe_lst (h : PA X es t) : PE X (.List es pos) (tLst t) := by
  intro pins s σ H Q I hq
  refine wpAny_List_spliced (thn (h pos pins s σ H _ I hq) fun us s1 ⟨xs, H1, I1, r, z, q⟩ => ⟨by rw [← r.length]; exact z, ?_⟩)
  have hf : H1 s1.heap.objs.size = none := I1.hok.fresh (Nat.le_refl _)
  refine ⟨.ref s1.heap.objs.size, upd H1 s1.heap.objs.size (.lst xs), I1.laid (t' := s1.toks) (fun b u e => Heap.get?_push_of_some _ e) (Nat.le_refl _) ?_, rfl, q _ hf⟩
  exact ⟨z, us, 0, r, Heap.get?_push_size _ rfl⟩
end
abbrev Sp := List V → Hp → VK → XK → Prop
abbrev CXT := List Env → Hp → Shared → XK → Value → Shared → Prop
structure Env0 (P : Program) (w : World) (K : PySem.W.Frag) (mg : Str → Option Value) (base : Heap) (A : Around) (outer : List Env) (s : Shared) (H : Hp) : Prop where
  frames : A.frames = some outer
  mod : Mod K mg base
  bs : ∀ b o, base.get? b = some o → s.heap.get? b = some o ∧ H b = none
  bsz : base.objs.size ≤ s.heap.objs.size
  funs : s.heap.FunFrames base outer
  frf : ∀ b ∈ frs outer, H b = none
  hok : HOk P w H s.heap
  bare : AllBare s.gens
  tab : TabsOk K H
def CE (outer : List Env) (P : Program) (w : World) (H : Hp) (s : Shared) (Q : VK) (u : Value) (s' : Shared) : Prop :=
  ∃ v H', s'.os = s.os ∧ AllBare s'.gens ∧ Un (frs outer) [] H H' s.heap s'.heap ∧ HOk P w H' s'.heap ∧ RelV v u ∧ Q v H'
def CR (CX : CXT) (outer : List Env) (P : Program) (w : World) (H : Hp) (s : Shared) (Q : VK) (E : XK) (r : Result) (s' : Shared) : Prop :=
  match r with
  | .ok (.ret u) => CE outer P w H s Q u s'
  | .ok _ => False
  | .error e => CX outer H s E e s'
def CCb (b : Bool) (A : Around) (H : Hp) : Prop := (b = true → A.handled = none) ∧ Hush A H
def Qt (b : Bool) (X : Cx) : Prop := (b = true → X.calm = true) ∧ (X.calm = true ∨ X.hush = true)
theorem qt_any {b : Bool} {X : Cx} (h : X.calm = true) : Qt b X := ⟨fun _ => h, .inl h⟩
theorem qt_hush {X : Cx} (h : X.hush = true) : Qt false X := ⟨fun z => (nomatch z), .inr h⟩
theorem Qt.cc {b : Bool} {X : Cx} {pins : List (Addr × Obj)} {σ : St} {H : Hp} {s : Shared} (q : Qt b X) (I : Inv X pins σ H s) : CCb b X.A H := ⟨fun e => I.ok.hd (q.1 e), q.2.elim (fun c => .inl (I.ok.hd c)) fun h => I.hush h⟩
structure FnOkC (b : Bool) (P : Program) (w : World) (K : PySem.W.Frag) (mg : Str → Option Value) (base : Heap) (CX : CXT) (k : Nat) (f : Addr) (fd : FuncData) (ps : List Str) (sp : Sp) : Prop where
  len : ∀ vs H Q E, sp vs H Q E → vs.length = ps.length
  run : ∀ (A : Around) (outer : List Env) (s : Shared) (H : Hp) (args : Args) (us : List Value) (vs : List V) (Q : VK) (E : XK), Room k A → CCb b A H → Env0 P w K mg base A outer s H → BindsTo s fd args (ps.zip us) → Vals vs us → sp vs H Q E →
    codeAny (model P w) A (.call (.ref f) args) (CR CX outer P w H s Q E) s
abbrev FnOk (P : Program) (w : World) (K : PySem.W.Frag) (mg : Str → Option Value) (base : Heap) (CX : CXT) (k : Nat) (f : Addr) (fd : FuncData) (ps : List Str) (sp : Sp) : Prop := FnOkC true P w K mg base CX k f fd ps sp
theorem FnOkC.mono {b : Bool} {P : Program} {w : World} {K : PySem.W.Frag} {mg : Str → Option Value} {base : Heap} {CX : CXT} {j k : Nat} {f : Addr} {fd : FuncData} {ps : List Str} {sp : Sp} (F : FnOkC b P w K mg base CX j f fd ps sp) (h : j ≤ k) :
    FnOkC b P w K mg base CX k f fd ps sp := ⟨F.len, fun A outer s H args us vs Q E hr => F.run A outer s H args us vs Q E (hr.mono h)⟩
theorem FnOkC.imp {b : Bool} {P : Program} {w : World} {K : PySem.W.Frag} {mg : Str → Option Value} {base : Heap} {CX : CXT} {k : Nat} {f : Addr} {fd : FuncData} {ps : List Str} {sp sp' : Sp} (F : FnOkC b P w K mg base CX k f fd ps sp)
    (h : ∀ vs H Q E, sp' vs H Q E → sp vs H Q E) : FnOkC b P w K mg base CX k f fd ps sp' :=
  ⟨fun vs H Q E q => F.len vs H Q E (h _ _ _ _ q), fun A outer s H args us vs Q E hr hc he hb hv hs => F.run A outer s H args us vs Q E hr hc he hb hv (h _ _ _ _ hs)⟩
section
variable {X : Cx} {pins : List (Addr × Obj)} {σ : St} {H : Hp} {s s' : Shared}
theorem Inv.env0 (I : Inv X pins σ H s) : Env0 X.prog X.w X.K X.mg X.base X.A X.stack s H :=
  ⟨I.ok.frames, I.ok.mod, I.bs, Nat.le_trans I.ok.bsz I.sz, I.stack, I.stkFree, I.hok, I.bare, I.tabs⟩
theorem Inv.after {Q : VK} {u : Value} (I : Inv X pins σ H s) (h : CE X.stack X.prog X.w H s Q u s') : EP X pins σ Q u s' := by
  obtain ⟨v, H', os, bare, un, hok, r, q⟩ := h
  obtain ⟨hh, g, d, t, os'⟩ := s'
  obtain rfl : os' = s.os := os
  exact ⟨v, H', I.call (h' := hh) (g' := g) (d' := d) (t' := t) (ch := []) un hok bare (fun b z => absurd z (by simp)), r, q⟩
end
def tCall (sp : Sp) (dvs : List V) (E : XK) (t : TA) : TE := fun σ H Q => t σ H fun vs H1 => sp (vs ++ dvs) H1 Q E
def Binds (K : PySem.W.Frag) (fd : FuncData) (ps : List Str) (ds : List Value) : Prop :=
  ∀ (s : Shared) (us : List Value), K.In s.heap → (us ++ ds).length = ps.length → BindsTo s fd ⟨us, []⟩ (ps.zip (us ++ ds))
theorem Binds.all {K : PySem.W.Frag} {fd : FuncData} {ps : List Str} (h : ∀ us : List Value, us.length = ps.length → bindArgs fd ⟨us, []⟩ = pure (ps.zip us)) : Binds K fd ps [] := fun s us _ hl => by
  rw [List.append_nil] at hl ⊢
  exact .of_eq (h us hl)
def Passes (CX : CXT) (X : Cx) (E : XK) : Prop := ∀ (pins : List (Addr × Obj)) (σ : St) (H : Hp) (s : Shared) (e : Value) (s' : Shared), Inv X pins σ H s → CX X.stack H s E e s' → X.xe e s'
section
variable {X : Cx} {bq : Bool} {CX : CXT} {k : Nat} {f C : Addr} {fd : FuncData} {ps : List Str} {sp : Sp} {dvs : List V} {ds : List Value} {E : XK} {x m : Str} {p pos apos : Pos} {e o : Expr} {es : List Expr} {ta : TE} {t : TA}
theorem run_fn {pins : List (Addr × Obj)} {σ : St} {H : Hp} {s : Shared} {Q : VK} {us : List Value} {vs : List V} (F : FnOkC bq X.prog X.w X.K X.mg X.base CX k f fd ps sp) (hqt : Qt bq X) (hr : Room k X.A) (hb : Binds X.K fd ps ds) (hd : Vals dvs ds) (hx : Passes CX X E)
    (I : Inv X pins σ H s) (r : Vals vs us) (h : sp (vs ++ dvs) H Q E) : wpAny (model X.prog X.w) X.A (call (.ref f) us) (EP X pins σ Q) X.xe s := by
  have r2 : Vals (vs ++ dvs) (us ++ ds) := r.append hd
  have hl : (us ++ ds).length = ps.length := by rw [← r2.length]; exact F.len _ _ _ _ h
  refine wpAny_call (codeAny_mono (F.run X.A X.stack s H ⟨us, []⟩ (us ++ ds) (vs ++ dvs) Q E hr (hqt.cc I) I.env0 (hb s us I.kIn hl) r2 h) fun r s' hq => ?_)
  cases r with
  | error e => exact hx pins σ H s e s' I hq
  | ok fl =>
    cases fl with
    | ret u => exact I.after hq
    | next => exact False.elim hq
    | brk => exact False.elim hq
    | cont => exact False.elim hq
theorem pe_call (F : FnOkC bq X.prog X.w X.K X.mg X.base CX k f fd ps sp) (hqt : Qt bq X) (hr : Room k X.A) (hg : Gl X x) (hm : X.mg x = some (.ref f)) (hk : PySem.W.keepIn X.K (.ref f) = true) (hb : Binds X.K fd ps ds) (hd : Vals dvs ds) (hx : Passes CX X E)
    (ha : PA X (e :: es) t) (hdb : (x == ("__debug__" : Str)) = false := by decide) (he : starEach (e :: es) X.env = (false, eval e X.env) :: starEach es X.env := by rfl) (hpl : (backTo pos (starEach es X.env)).any (·.1) = false := by rfl) :
    PE X (.Call (.Name x p) (e :: es) [] pos) (tCall sp dvs E t) := by
  intro pins s σ H Q I h
  refine wpAny_Call_Name_kw (ld_glob I hg hm ?_ hdb)
  refine PySem.W.callWith_K (h₀ := X.base) I.ok.mod.kin hk (thn (ha pos pins s σ H _ I h) fun us s1 ⟨vs, H1, I1, r, q⟩ => ⟨I1.kIn, ?_⟩) he hpl
  exact run_fn F hqt hr hb hd hx I1 r q
end
section
variable {X : Cx} {bq : Bool} {CX : CXT} {k : Nat} {f C : Addr} {fd : FuncData} {ps ks : List Str} {sp : Sp} {E : XK} {x m : Str} {p pos apos kpos : Pos} {e o : Expr} {es : List Expr} {kws : List Keyword} {te ta : TE} {t tk : TA} {nm : Option Str}
variable {g : List Value → List Value → List Value} {gV : List V → List V → List V}
end
structure FnScope (N P : List Str) (sc : Scope) : Prop where
  kind : sc.kind = .function
  co : sc.isCoroutine = false
  gen : sc.isGenerator = false
  nd : N.Nodup
  pre : N.take P.length = P
  par : ∀ x ∈ P, sc.names.lookup x = some .local ∨ sc.names.lookup x = some .cell
  nofree : ∀ y ∈ sc.names, y.2 ≠ .free
theorem bindL_out {kindOf : Str → Option NameKind} {x : Str} : ∀ {binds : List (Str × Value)} {m : Str → Option Value}, (∀ v, (x, v) ∉ binds) → bindL kindOf binds m x = m x
  | [], _, _ => rfl
  | (n, v) :: r, m, h => by
    unfold bindL
    rw [bindL_out fun w hw => h w (List.mem_cons_of_mem _ hw)]
    split
    · have : x ≠ n := by rintro rfl; exact h v List.mem_cons_self
      simp [this]
    · rfl
theorem bindC_out {kindOf : Str → Option NameKind} {x : Str} : ∀ {binds : List (Str × Value)} {m : Str → Option Value}, (∀ v, (x, v) ∉ binds) → bindC kindOf binds m x = m x
  | [], _, _ => rfl
  | (n, v) :: r, m, h => by
    unfold bindC
    rw [bindC_out fun w hw => h w (List.mem_cons_of_mem _ hw)]
    split
    · rfl
    · have : x ≠ n := by rintro rfl; exact h v List.mem_cons_self
      simp [this]
theorem bindL_get {kindOf : Str → Option NameKind} {x : Str} {v : Value} : ∀ {P : List Str} {vs : List Value} {i : Nat} {m : Str → Option Value}, P.Nodup → P[i]? = some x → vs[i]? = some v → kindOf x = some .local →
    bindL kindOf (P.zip vs) m x = some v
  | [], _, _, _, _, h, _, _ => by simp at h
  | _ :: _, [], _, _, _, _, h, _ => by simp at h
  | p :: P, w :: vs, 0, m, nd, h1, h2, hk => by
    simp at h1 h2; subst h1; subst h2
    show bindL kindOf ((p, w) :: P.zip vs) m p = _
    unfold bindL
    rw [bindL_out fun v hv => (List.nodup_cons.mp nd).1 (List.of_mem_zip hv).1, if_pos hk]
    simp
  | p :: P, w :: vs, i + 1, m, nd, h1, h2, hk => by
    show bindL kindOf ((p, w) :: P.zip vs) m x = _
    unfold bindL
    exact bindL_get (i := i) (List.nodup_cons.mp nd).2 (by simpa using h1) (by simpa using h2) hk
theorem bindC_get {kindOf : Str → Option NameKind} {x : Str} {v : Value} : ∀ {P : List Str} {vs : List Value} {i : Nat} {m : Str → Option Value}, P.Nodup → P[i]? = some x → vs[i]? = some v → kindOf x ≠ some .local →
    bindC kindOf (P.zip vs) m x = some v
  | [], _, _, _, _, h, _, _ => by simp at h
  | _ :: _, [], _, _, _, _, h, _ => by simp at h
  | p :: P, w :: vs, 0, m, nd, h1, h2, hk => by
    simp at h1 h2; subst h1; subst h2
    show bindC kindOf ((p, w) :: P.zip vs) m p = _
    unfold bindC
    rw [bindC_out fun v hv => (List.nodup_cons.mp nd).1 (List.of_mem_zip hv).1, if_neg hk]
    simp
  | p :: P, w :: vs, i + 1, m, nd, h1, h2, hk => by
    show bindC kindOf ((p, w) :: P.zip vs) m x = _
    unfold bindC
    exact bindC_get (i := i) (List.nodup_cons.mp nd).2 (by simpa using h1) (by simpa using h2) hk
def start (N : List Str) (vs : List V) : St := vs.map some ++ List.replicate (N.length - vs.length) none
def cxOfB (cb : Bool) (CX : CXT) (P : Program) (w : World) (K : PySem.W.Frag) (mg : Str → Option Value) (base : Heap) (N : List Str) (qual : Str) (scope : Scope) (f : Addr) (cd : Value) (A : Around) (outer : List Env) (s : Shared) (H : Hp) (E : XK) : Cx where
  prog := P
  w := w
  K := K
  mg := mg
  base := base
  A := A.deeper (envOfC qual scope s.heap.objs.size f cd)
  N := N
  s_0 := s
  H_0 := H
  env := envOfC qual scope s.heap.objs.size f cd
  outer := outer
  stack := envOfC qual scope s.heap.objs.size f cd :: outer
  ex := []
  calm := cb
  hush := true
  fn := fun _ => true
  pn := []
  xe := fun e s' => wpAny (model P w) (A.deeper (envOfC qual scope s.heap.objs.size f cd)) (leaving (envOfC qual scope s.heap.objs.size f cd) e) (fun _ s'' => CX outer H s E e s'') (fun e' s'' => CX outer H s E e' s'') s'
theorem cell_has {sc : Scope} {n : Nat} {x : Str} (h : sc.names.lookup x = some .cell) : ∃ c, (cellsFrom n sc.names []).lookup x = some c := by
  have q := PySem.W.cellsFrom_some sc.names n [] (.inl h)
  exact Option.isSome_iff_exists.mp q
theorem inv_start {cb : Bool} {CX : CXT} {P : Program} {w : World} {K : PySem.W.Frag} {mg : Str → Option Value} {base : Heap} {N ps : List Str} {qual : Str} {scope : Scope} {f : Addr} {cd : Value} {A : Around} {outer : List Env} {s s1 : Shared} {H : Hp} {E : XK} {us : List Value} {vs : List V}
    (S : FnScope N ps scope) (hd : CCb cb A H) (e0 : Env0 P w K mg base A outer s H) (hl : vs.length = ps.length) (r : Vals vs us)
    (x : InCallC s s.heap.objs.size (bindL (envOfC qual scope s.heap.objs.size f cd).kindOf (ps.zip us) fun _ => none) (cellsFrom (s.heap.objs.size + 1) scope.names []) (bindC (envOfC qual scope s.heap.objs.size f cd).kindOf (ps.zip us) fun _ => none) s1) :
    Inv (cxOfB cb CX P w K mg base N qual scope f cd A outer s H E) [] (start N vs) H s1 := by
  have hpl : ps.length ≤ N.length := by have := congrArg List.length S.pre; rw [List.length_take] at this; omega
  obtain ⟨h1, tk, rfl, hk⟩ := x.done
  have noA : ∀ b : Addr, b ∉ (cxOfB cb CX P w K mg base N qual scope f cd A outer s H E).ex := fun b z => absurd (show b ∈ ([] : List Addr) from z) (by simp)
  refine ⟨⟨e0.mod, S.kind, rfl, rfl, Nat.le_refl _, fun y z c h1 h2 => ?_, fun y hy => ?_, fun y c _ h => ?_, hd.1, (fun _ => hd.2), e0.tab, Around.frames_deeper e0.frames, .inr ⟨rfl, rfl⟩, fun b z => absurd z (noA b), e0.bs, e0.bsz, fun b _ _ => noA b, fun b z => absurd z (noA b), e0.funs, e0.frf⟩,
    rfl, e0.bare, Un.kept hk, ⟨_, x.toInCall.ns, fun i y v h1 h2 h3 => ?_⟩, fun y c h => ⟨_, x.cell y c h⟩, e0.hok.fresh (Nat.le_refl _), fun y c h => ?_, fun p hp => absurd (show p ∈ ([] : List (Addr × Obj)) from hp) (by simp), e0.hok.kept hk, ?_⟩
  · exact name_of_addr x.apart (PySem.mem_of_lookup h1) (PySem.mem_of_lookup h2)
  · have hy : scope.names.lookup y = some .cell ∨ scope.names.lookup y = some .free := hy
    rcases hy with hy | hy
    · exact cell_has hy
    · exact absurd rfl (S.nofree _ (PySem.mem_of_lookup hy))
  · exact Nat.le_of_lt (x.above y c (PySem.mem_of_lookup h))
  · have hi : i < vs.length := by
      unfold start at h2
      by_cases hi : i < vs.length
      · exact hi
      · rw [List.getElem?_append_right (by simpa using hi)] at h2
        rw [List.getElem?_replicate] at h2
        split at h2 <;> cases h2
    have ha : vs[i]? = some v := by
      unfold start at h2
      rw [List.getElem?_append_left (by simpa using hi), List.getElem?_map] at h2
      cases e : vs[i]? with
      | none => rw [e] at h2; cases h2
      | some a => rw [e] at h2; cases h2; rfl
    obtain ⟨u, hu, rv⟩ := r.get ha
    have hp : ps[i]? = some y := by
      rw [← S.pre, List.getElem?_take_of_lt (by omega)]; exact h1
    have ndP : ps.Nodup := by rw [← S.pre]; exact S.nd.sublist (List.take_sublist _ _)
    refine ⟨u, rv, ?_⟩
    rcases S.par y (List.mem_of_getElem? hp) with k | k
    · exact .inl ⟨k, bindL_get ndP hp hu k⟩
    · obtain ⟨c, e⟩ := cell_has (n := s.heap.objs.size + 1) k
      refine .inr ⟨.inl k, c, e, ?_⟩
      have q := x.cell y c e
      rw [bindC_get ndP hp hu (by show scope.names.lookup y ≠ _; rw [k]; decide)] at q
      exact q
  · exact e0.hok.fresh (Nat.le_of_lt (x.above y c (PySem.mem_of_lookup h)))
  · unfold start
    show _ = N.length
    rw [List.length_append, List.length_map, List.length_replicate]
    omega
theorem fn_of {cb : Bool} {CX : CXT} {P : Program} {w : World} {K : PySem.W.Frag} {mg : Str → Option Value} {base : Heap} {k : Nat} {f : Addr} {name qual : Str} {params : Arguments} {body : List Stmt} {scope : Scope} {dV kV doc pm cdv ct oc : Value} {an od : Option Addr}
    {osl : Array (Option Value)} {N ps : List Str} {sp : Sp} (lk : K.lookup f = some ⟨oc, od, .func (PySem.W.fnOf name qual params body scope dV kV doc pm an cdv ct), osl⟩) (hcd : PySem.W.codeIn K cdv qual = true) (S : FnScope N ps scope)
    (len : ∀ vs H Q E, sp vs H Q E → vs.length = ps.length)
    (hbody : ∀ (A : Around) (outer : List Env) (s : Shared) (H : Hp) (vs : List V) (Q : VK) (E : XK), Room k (A.deeper (envOfC qual scope s.heap.objs.size f cdv)) → sp vs H Q E →
      ∃ t, PSs (cxOfB cb CX P w K mg base N qual scope f cdv A outer s H E) body t ∧ t { nx := fun _ H' => Q .non H', rt := Q } (start N vs) H) :
    FnOkC cb P w K mg base CX (k + 1) f (PySem.W.fnOf name qual params body scope dV kV doc pm an cdv ct) ps sp := by
  refine ⟨len, fun A outer s H args us vs Q E hr hcc e0 hb r hsp => ?_⟩
  have hl := len _ _ _ _ hsp
  have KX : K.In s.heap := e0.mod.kin.keeps fun b o e => (e0.bs b o e).1
  have lim : s.heap.NoLimit := e0.mod.nolimit.keeps fun b o e => (e0.bs b o e).1
  have hkind : ∀ y ∈ ps.zip us, scope.names.lookup y.1 = some .local ∨ (scope.names.lookup y.1 = some .cell ∧ ((cellsFrom (s.heap.objs.size + 1) scope.names []).lookup y.1).isSome = true) := fun ⟨n, v⟩ hy => by
    rcases S.par n (List.of_mem_zip hy).1 with q | q
    · exact .inl q
    · exact .inr ⟨q, PySem.W.cellsFrom_some _ _ _ (.inl q)⟩
  refine codeAny_call_function hr.depth (KX _ _ lk) rfl S.co S.gen rfl (PySem.W.codeRec_of KX hcd) (hb _ _ _ _ ?_)
  refine wpAny_newFunctionEnv_cells S.kind hkind fun env he s1 x => ?_
  subst he
  refine ⟨lim.keeps x.toInCall.keep, codeAny_func ?_⟩
  obtain ⟨t, ht, hq⟩ := hbody A outer s H vs Q E (hr.deeper _) hsp
  have I : Inv (cxOfB cb CX P w K mg base N qual scope f cdv A outer s H E) [] (start N vs) H s1 := inv_start S hcc e0 hl r x
  refine wpAny_mono (ht [] s1 (start N vs) H _ I hq) (fun fl s' hs => ?_) fun e s' hs => hs
  have fin : ∀ {σ' : St} {H' : Hp} {v : V} {u : Value}, Inv (cxOfB cb CX P w K mg base N qual scope f cdv A outer s H E) [] σ' H' s' → RelV v u → Q v H' → CE outer P w H s Q u s' :=
    fun {σ' H' v u} J rv q => ⟨v, H', J.os, J.bare, J.base, J.hok, rv, q⟩
  cases fl with
  | ret u =>
    obtain ⟨v, σ', H', J, rv, q⟩ := hs
    exact fin J rv q
  | next =>
    obtain ⟨σ', H', J, q⟩ := hs
    exact fin (v := V.non) (u := Value.none) J rfl q
  | brk =>
    obtain ⟨_, _, _, q⟩ := hs
    exact False.elim q
  | cont =>
    obtain ⟨_, _, _, q⟩ := hs
    exact False.elim q
end L2
namespace L2
open PySem PySem.Spec PyProof.Rows
section
variable {X : Cx} {x : Str} {p pos : Pos} {e : Expr} {es : List Expr} {t : TA} {id T : String} {r : List V → Hp → VK → Prop}
def tCB (r : List V → Hp → VK → Prop) (t : TA) : TE := fun σ H Q => t σ H fun vs H1 => r vs H1 Q
theorem pe_callB (hc : CallR X (.builtin id) r) (hg : Gl X x) (hm : X.mg x = none) (hv : bootBuiltins x = some (.builtin id)) (ha : PA X (e :: es) t) (hn : x ≠ "__name__" := by decide) (hdb : (x == ("__debug__" : Str)) = false := by decide)
    (he : starEach (e :: es) X.env = (false, eval e X.env) :: starEach es X.env := by rfl) (hpl : (backTo pos (starEach es X.env)).any (·.1) = false := by rfl) : PE X (.Call (.Name x p) (e :: es) [] pos) (tCB r t) := by
  intro pins s σ H Q I h
  refine wpAny_Call_Name_kw (ld_blt I hg hm hv ?_ hn hdb)
  exact PyProof.Rows.callWith_builtin1 (thn (ha pos pins s σ H _ I h) fun us s1 ⟨vs, H1, I1, r1, q1⟩ => hc pins s1 σ H1 vs us Q I1 r1 q1) he hpl
theorem pe_callTy (hc : CallR X (.type T) r) (hg : Gl X x) (hm : X.mg x = none) (hv : bootBuiltins x = some (.type T)) (ha : PA X (e :: es) t) (hn : x ≠ "__name__" := by decide) (hdb : (x == ("__debug__" : Str)) = false := by decide)
    (he : starEach (e :: es) X.env = (false, eval e X.env) :: starEach es X.env := by rfl) (hpl : (backTo pos (starEach es X.env)).any (·.1) = false := by rfl) : PE X (.Call (.Name x p) (e :: es) [] pos) (tCB r t) := by
  intro pins s σ H Q I h
  refine wpAny_Call_Name_kw (ld_blt I hg hm hv ?_ hn hdb)
  exact PyProof.Rows.callWith_type1 (thn (ha pos pins s σ H _ I h) fun us s1 ⟨vs, H1, I1, r1, q1⟩ => hc pins s1 σ H1 vs us Q I1 r1 q1) he hpl
end
end L2
namespace HT
open PySem PyProof.Rows
section
open PySem.SeqAt
open PySem.AutoSeq1 (wpAny_loadPart')
open PySem.MeetsSeq PySem.MeetsSeq2 PySem.MeetsSeq3
end
section
variable {prog : Program} {w : World} {A : Around} {E : Value → Shared → Prop} {s : Shared}
theorem cat_tup {t b : Addr} {vs ws : List Value} {Q : Value → Shared → Prop} (ht : IsTup s.heap t vs.toArray) (hb : IsTup s.heap b ws.toArray) (hv : vs ≠ [])
    (h1 : ws = [] → Q (.ref t) s) (h2 : ws ≠ [] → Q (.ref s.heap.objs.size) { s with heap := s.heap.push { cls := .type "tuple", data := .seq (vs ++ ws).toArray } })
    (hsz : vs.length + ws.length ≤ sizeLine) : wpAny (model prog w) A (binaryOp .Add (.ref t) (.ref b)) Q E s := by
  obtain ⟨⟨cls, dd, data, sl⟩, ho, hc, n, hd⟩ := id ht
  obtain ⟨⟨cls2, dd2, data2, sl2⟩, ho2, hc2, n2, hd2⟩ := id hb
  simp only at hc hd hc2 hd2
  subst hc hd hc2 hd2
  have e : vs.toArray ++ ws.toArray = (vs ++ ws).toArray := by simp
  by_cases hw : ws = []
  · exact concat_meets ⟨_, ho, rfl⟩ ⟨_, ho2, rfl⟩ noFill_tuple_add seq_tuple_add PySem.F.slot_tuple_add PySem.F.entry_tuple_add (PySem.F.args_tuple_add_2 _ _)
      (tuple_addW1 t b vs.toArray ws.toArray n n2 dd dd2 sl sl2 (by simpa using hv) (by simp [hw])) ⟨ho, ho2, h1 hw⟩
  · refine concat_meets ⟨_, ho, rfl⟩ ⟨_, ho2, rfl⟩ noFill_tuple_add seq_tuple_add PySem.F.slot_tuple_add PySem.F.entry_tuple_add (PySem.F.args_tuple_add_2 _ _)
      (tuple_addW2 t b vs.toArray ws.toArray n n2 dd dd2 sl sl2 (by simpa using hv) (by simpa using hw) (by rw [List.size_toArray, List.size_toArray]; exact hsz)) ⟨ho, ho2, ?_⟩
    rw [e]
    exact h2 hw
def sIx (n d : Nat) : Option Int → Nat
  | none => d
  | some v => if v < 0 then (v + (n : Int)).toNat else min v.toNat n
theorem sIx_le (n d : Nat) (hd : d ≤ n) (o : Option Int) : sIx n d o ≤ n := by
  cases o with
  | none => exact hd
  | some v =>
    show (if v < 0 then (v + (n : Int)).toNat else min v.toNat n) ≤ n
    by_cases hv : v < 0
    · rw [if_pos hv]; omega
    · rw [if_neg hv]; exact Nat.min_le_right _ _
theorem clip_eq (v : Int) (n d : Nat) : (if v < 0 then max (v + (n : Int)) 0 else min v (n : Int)) = ((sIx n d (some v) : Nat) : Int) := by
  show (if v < 0 then max (v + (n : Int)) 0 else min v (n : Int)) = (((if v < 0 then (v + (n : Int)).toNat else min v.toNat n) : Nat) : Int)
  by_cases hv : v < 0
  · simp only [if_pos hv]; omega
  · simp only [if_neg hv]; omega
theorem adjust_gen (lo hi : Option Int) (n : Nat) : Builtin.Slice.sliceAdjust lo hi 1 (n : Int) = (((sIx n 0 lo : Nat) : Int), ((sIx n n hi : Nat) : Int)) := by
  have h1 : ¬ ((1 : Int) < 0) := by omega
  unfold Builtin.Slice.sliceAdjust
  simp only [h1, if_false]
  refine Prod.ext ?_ ?_
  · cases lo with
    | none => rfl
    | some v => exact clip_eq v n 0
  · cases hi with
    | none => rfl
    | some v => exact clip_eq v n n
theorem places_gen (i j : Nat) : Builtin.Slice.slicePlaces (i : Int) (j : Int) 1 = j - i := by
  unfold Builtin.Slice.slicePlaces
  have h1 : (1 : Int) > 0 := by omega
  simp only [h1, if_true, Int.ediv_one]
  split <;> omega
theorem slicePart_ {v : Value} {o : Option Int} {Q : Option Int → Shared → Prop} (p : IsPart v o) (h : Q o s) : wpAny (model prog w) A (Builtin.Slice.slicePartIndex v) Q E s := by
  cases p with
  | none => exact slicePart_none h
  | int i t => exact slicePart_int h
theorem sliceApplied_gen {sl : Addr} {vl vu : Value} {lo hi : Option Int} {n : Nat} {Q : Int × Int × Nat → Shared → Prop} (hs : s.heap.IsSliceOf sl vl vu .none) (pl : IsPart vl lo) (pu : IsPart vu hi)
    (h : Q (((sIx n 0 lo : Nat) : Int), 1, sIx n n hi - sIx n 0 lo) s) : wpAny (model prog w) A (Builtin.Slice.sliceApplied (.ref sl) (pure (n : Int))) Q E s := by
  obtain ⟨os, hos, hcs, hds⟩ := id hs
  unfold Builtin.Slice.sliceApplied Builtin.Slice.sliceFields
  refine wpAny_bind (wpAny_bind (wpAny_field hos hds (x := vl) rfl (wpAny_bind (wpAny_field hos hds (x := vu) rfl (wpAny_bind (wpAny_field hos hds (x := .none) rfl (wpAny_pure ?_)))))))
  refine wpAny_bind (slicePart_none ?_)
  show wpAny _ _ (if ((1 : Int) == 0) = true then _ else _) _ _ s
  rw [if_neg (by decide)]
  refine wpAny_bind (slicePart_ pl (wpAny_bind (slicePart_ pu (wpAny_bind (wpAny_pure ?_)))))
  show wpAny _ _ (match Builtin.Slice.sliceAdjust lo hi 1 (n : Int) with | (lo, hi) => pure (lo, (1 : Int), Builtin.Slice.slicePlaces lo hi 1)) _ _ s
  rw [adjust_gen lo hi n]
  show wpAny _ _ (pure (((sIx n 0 lo : Nat) : Int), (1 : Int), Builtin.Slice.slicePlaces ((sIx n 0 lo : Nat) : Int) ((sIx n n hi : Nat) : Int) 1)) _ _ s
  rw [places_gen]
  exact wpAny_pure h
theorem pick_gen (xs : Array Value) (i k : Nat) : ((List.range k).filterMap fun (m : Nat) => xs[((i : Int) + (m : Int) * 1).toNat]?).toArray = ((xs.toList.drop i).take k).toArray := by
  have e : (fun (m : Nat) => xs[((i : Int) + (m : Int) * 1).toNat]?) = fun m => xs[i + m]? := by
    funext m
    have : ((i : Int) + (m : Int) * 1).toNat = i + m := by omega
    rw [this]
  rw [e]
  have := pick_run xs i k
  rw [List.filterMap_map] at this
  have e2 : ((fun x => xs[x]?) ∘ fun x => i + x) = fun m => xs[i + m]? := rfl
  rw [e2] at this
  rw [this]
theorem getItem_tuple_cut {t sl : Addr} {items : Array Value} {vl vu : Value} {lo hi : Option Int} {Q : Value → Shared → Prop} (ht : IsTup s.heap t items) (hs : s.heap.IsSliceOf sl vl vu .none) (pl : IsPart vl lo) (pu : IsPart vu hi)
    (hw : ¬ (sIx items.size 0 lo = 0 ∧ sIx items.size items.size hi = items.size))
    (h : Q (.ref s.heap.objs.size) { s with heap := s.heap.push { cls := .type "tuple", data := .seq ((items.toList.drop (sIx items.size 0 lo)).take (sIx items.size items.size hi - sIx items.size 0 lo)).toArray } })
    (hsz : items.size ≤ sizeLine) : wpAny (model prog w) A (getItem (.ref t) (.ref sl)) Q E s := by
  have htake : sizeOk (.seq ((items.toList.drop (sIx items.size 0 lo)).take (sIx items.size items.size hi - sIx items.size 0 lo)).toArray) := by
    show ((items.toList.drop (sIx items.size 0 lo)).take (sIx items.size items.size hi - sIx items.size 0 lo)).toArray.size ≤ sizeLine
    rw [List.size_toArray, List.length_take, List.length_drop, Array.length_toList]
    omega
  have hj : sIx items.size items.size hi ≤ items.size := sIx_le _ _ (Nat.le_refl _) hi
  obtain ⟨os, hos, hcs, hds⟩ := id hs
  have hTs : s.TypeIs (.ref sl) "slice" := ⟨os, hos, hcs⟩
  unfold getItem
  try with_reducible refine wpAny_holding ?_
  first | refine wpAny_bind (wpAny_pure ?_) | skip
  refine wpAny_bind (wpAny_sequenceKey ht.typeIs (by decide) ?_)
  refine wpAny_bind (wpAny_callSpecial?_slot (name := Str.ofString "__getitem__") ht.typeIs PyProof.Rows.slot_tuple_getitem
    (wpAny_call_entry PyProof.Rows.slot_tuple_getitem ht.typeIs entry_tuple_getitem ?_ (args_tuple_getitem _ _)))
  show wpAny _ _ (Builtin.Tuple.tupleItemsOf (.ref t) >>= _) _ _ s
  refine wpAny_bind (tupleItemsOf_ ht ?_)
  refine wpAny_bind (wpAny_typeOf hTs ?_)
  rw [if_pos (by decide)]
  refine wpAny_bind (sliceApplied_gen hs pl pu ?_)
  have hno : ¬ ((((sIx items.size 0 lo : Nat) : Int) == 0 && (1 : Int) == 1 && (sIx items.size items.size hi - sIx items.size 0 lo) == items.size) = true) := by
    intro q
    rw [Bool.and_eq_true, Bool.and_eq_true] at q
    have q1 : ((sIx items.size 0 lo : Nat) : Int) = 0 := eq_of_beq q.1.1
    have q2 : sIx items.size items.size hi - sIx items.size 0 lo = items.size := eq_of_beq q.2
    exact hw ⟨by omega, by omega⟩
  show wpAny _ _ (if (((sIx items.size 0 lo : Nat) : Int) == 0 && (1 : Int) == 1 && (sIx items.size items.size hi - sIx items.size 0 lo) == items.size) = true then _ else _) _ _ s
  rw [if_neg hno, pick_gen]
  first
    | exact wpAny_bind (m := Builtin.Tuple.tupleExact _) (wpAny_newObj_type (wpAny_pure ⟨_, rfl, wpAny_pure h⟩) htake)
    | exact wpAny_bind (m := Builtin.Tuple.tupleExact _) (wpAny_newObj_type (wpAny_bind (wpAny_pure (wpAny_pure ⟨_, rfl, wpAny_pure h⟩))) htake)
    | exact wpAny_bind (wpAny_bind (m := Builtin.Tuple.tupleExact _) (wpAny_newObj_type (wpAny_pure (wpAny_pure ⟨_, rfl, wpAny_pure h⟩)) htake))
    | exact wpAny_bind (wpAny_bind (m := Builtin.Tuple.tupleExact _) (wpAny_newObj_type (wpAny_pure ⟨_, rfl, wpAny_pure h⟩) htake))
end
end HT
namespace L2
open PySem PySem.Spec PyProof.Rows
abbrev TO := St → Hp → (Option Int → Hp → Prop) → Prop
def PO (X : Cx) (e : Option Expr) (t : TO) : Prop :=
  ∀ (pins : List (Addr × Obj)) (s : Shared) (σ : St) (H : Hp) (Q : Option Int → Hp → Prop), Inv X pins σ H s → t σ H Q →
    wpAny (model X.prog X.w) X.A (evalPart e X.env) (fun u s' => ∃ o H', Inv X pins σ H' s' ∧ IsPart u o ∧ Q o H') X.xe s
def tNoPart : TO := fun _ H Q => Q none H
def tPart (t : TE) : TO := fun σ H Q => t σ H fun x H1 => ∃ i, x = .int i ∧ Q (some i) H1
section
variable {X : Cx} {e : Expr} {te : TE} {lo hi : Option Expr} {tl th : TO} {pos p2 : Pos}
theorem po_none : PO X none tNoPart := by
  intro pins s σ H Q I h
  rw [evalPart_none]
  exact wpAny_pure ⟨none, H, I, .none, h⟩
theorem po_some (h : PE X e te) : PO X (some e) (tPart te) := by
  intro pins s σ H Q I hw
  rw [evalPart_some]
  refine thn (h pins s σ H _ I hw) fun u s1 ⟨x, H1, I1, r1, q1⟩ => ?_
  obtain ⟨i, rfl, q⟩ := q1
  obtain ⟨t, rfl⟩ := r1
  exact ⟨some i, H1, I1, .int i t, q⟩
def SlR (X : Cx) (r : V → Option Int → Option Int → Hp → VK → Prop) : Prop :=
  ∀ (pins : List (Addr × Obj)) (s : Shared) (σ : St) (H : Hp) (x : V) (v vl vu : Value) (lo hi : Option Int) (sl : Addr) (Q : VK), Inv X pins σ H s → RelV x v → s.heap.IsSliceOf sl vl vu .none → IsPart vl lo → IsPart vu hi → r x lo hi H Q →
    ∃ T id, typeLookup (.type T) "__getitem__" = pure (some (.builtin id)) ∧ s.TypeIs v T ∧ wpAny (model X.prog X.w) X.A (getItem v (.ref sl)) (EP X pins σ Q) X.xe s
def tSl (r : V → Option Int → Option Int → Hp → VK → Prop) (te : TE) (tl th : TO) : TE := fun σ H Q => te σ H fun x H1 => tl σ H1 fun l H2 => th σ H2 fun u H3 => r x l u H3 Q
theorem pe_slice {r : V → Option Int → Option Int → Hp → VK → Prop} (hr : SlR X r) (he : PE X e te) (hl : PO X lo tl) (hu : PO X hi th) : PE X (.Subscript e (.Slice lo hi none p2) pos) (tSl r te tl th) := by
  intro pins s σ H Q I h
  refine Subscript_ (thn (he pins s σ H _ I h) fun v s1 ⟨x, H1, I1, r1, q1⟩ => ?_)
  refine wpAny_Slice (thn (hl pins s1 σ H1 _ I1 q1) fun vl s2 ⟨l, H2, I2, pl, q2⟩ => thn (hu pins s2 σ H2 _ I2 q2) fun vu s3 ⟨u, H3, I3, pu, q3⟩ => ?_)
  rw [evalPart_none]
  refine wpAny_pure ?_
  have I4 : Inv X pins σ H3 { s3 with heap := s3.heap.push { cls := .type "slice", data := .fields #[vl, vu, .none] } } := I3.kept (t' := s3.toks) fun b ob q => Heap.get?_push_of_some _ q
  obtain ⟨T, id, hT, ht, hg⟩ := hr pins { s3 with heap := s3.heap.push { cls := .type "slice", data := .fields #[vl, vu, .none] } } σ H3 x v vl vu l u s3.heap.objs.size Q I4 r1 (Heap.IsSliceOf.new ..) pl pu q3
  show wpAny (model X.prog X.w) X.A (subscriptTail e (.Slice lo hi none p2) v (.ref s3.heap.objs.size)) (EP X pins σ Q) X.xe { s3 with heap := s3.heap.push { cls := .type "slice", data := .fields #[vl, vu, .none] } }
  exact tail_any (ops := [.ref s3.heap.objs.size, v]) ht hT hg (by with_unfolding_all rfl)
def cutV (xs : List V) (lo hi : Option Int) : List V := (xs.drop (HT.sIx xs.length 0 lo)).take (HT.sIx xs.length xs.length hi - HT.sIx xs.length 0 lo)
theorem cutV_length (xs : List V) (lo hi : Option Int) : (cutV xs lo hi).length ≤ xs.length := by
  unfold cutV
  rw [List.length_take, List.length_drop]
  omega
def rSlT (K : PySem.W.Frag) : V → Option Int → Option Int → Hp → VK → Prop := fun x lo hi H Q => ∃ a xs, x = .ref a ∧ SqT K H a xs ∧
  ¬ (HT.sIx xs.length 0 lo = 0 ∧ HT.sIx xs.length xs.length hi = xs.length) ∧ ∀ p, H p = none → Q (.ref p) (upd H p (.tup (cutV xs lo hi)))
theorem sl_tup : SlR X (rSlT X.K) := by
  intro pins s σ H x v vl vu lo hi sl Q I rx hs pl pu h
  obtain ⟨a, xs, rfl, hx, hw, q⟩ := h
  cases rx
  obtain ⟨its, r, ht, hz⟩ := I.tuple hx
  have hlen : its.toArray.size = xs.length := by rw [List.size_toArray]; exact r.length.symm
  refine ⟨"tuple", _, PyProof.Rows.slot_tuple_getitem.lookup, ht.typeIs, ?_⟩
  refine HT.getItem_tuple_cut ht hs pl pu (by rw [hlen]; exact hw) ?_ (by rw [hlen]; exact hz)
  rw [hlen]
  refine ⟨.ref s.heap.objs.size, _, I.laid (t' := s.toks) (o := .tup (cutV xs lo hi)) (fun b ob q => Heap.get?_push_of_some _ q) (Nat.le_refl _) ?_, rfl, q _ (I.hok.fresh (Nat.le_refl _))⟩
  exact ⟨Nat.le_trans (cutV_length xs lo hi) hz, _, (r.drop (HT.sIx xs.length 0 lo)).take (HT.sIx xs.length xs.length hi - HT.sIx xs.length 0 lo), IsTupN.new _ _⟩
def rCatT (K : PySem.W.Frag) : R2 := fun x y H Q => ∃ a b xs ys, x = .ref a ∧ y = .ref b ∧ SqT K H a xs ∧ SqT K H b ys ∧ xs ≠ [] ∧ xs.length + ys.length ≤ sizeLine ∧
  (ys = [] → Q (.ref a) H) ∧ (ys ≠ [] → ∀ p, H p = none → Q (.ref p) (upd H p (.tup (xs ++ ys))))
theorem Vals.nil_iff {xs : List V} {us : List Value} (r : Vals xs us) : us = [] ↔ xs = [] := by
  cases r with
  | nil => simp
  | cons _ _ => simp
theorem op_catT : OpR X (binaryOp .Add) (rCatT X.K) := by
  intro pins s σ H x y v u Q I rx ry h
  obtain ⟨a, b, xs, ys, rfl, rfl, ha, hb, hx, hz, q1, q2⟩ := h
  cases rx
  cases ry
  obtain ⟨its, r1, p1, _⟩ := I.tuple ha
  obtain ⟨its2, r2, p2, _⟩ := I.tuple hb
  refine HT.cat_tup p1 p2 (fun z => hx (r1.nil_iff.mp z)) (fun z => ⟨.ref a, H, I, rfl, q1 (r2.nil_iff.mp z)⟩) (fun z => ?_) (by rw [← r1.length, ← r2.length]; exact hz)
  refine ⟨.ref s.heap.objs.size, _, I.laid (t' := s.toks) (o := .tup (xs ++ ys)) (fun b ob q => Heap.get?_push_of_some _ q) (Nat.le_refl _) ?_, rfl, q2 (fun w => z (r2.nil_iff.mpr w)) _ (I.hok.fresh (Nat.le_refl _))⟩
  exact ⟨by rw [List.length_append]; exact hz, _, r1.append r2, IsTupN.new _ _⟩
end
end L2
namespace L2
open PySem PySem.Spec PyProof.Rows
def ixN (n : Nat) (i : Int) : Option Nat := if 0 ≤ i then (if i < n then some i.toNat else none) else if -(n : Int) ≤ i then some (i + n).toNat else none
def atI {α : Type} (xs : List α) (i : Int) : Option α := (ixN xs.length i).bind fun j => xs[j]?
theorem ixN_seq {n : Nat} {i : Int} {j : Nat} (h : ixN n i = some j) : seqIndex? i n = some j ∧ j < n ∧ -(n : Int) ≤ i ∧ i < n := by
  unfold ixN at h
  by_cases h0 : 0 ≤ i
  · rw [if_pos h0] at h
    by_cases h1 : i < n
    · rw [if_pos h1] at h
      have e : i.toNat = j := Option.some.inj h
      exact ⟨by rw [seqIndex_of h0 h1, e], by omega, by omega, h1⟩
    · rw [if_neg h1] at h; cases h
  · rw [if_neg h0] at h
    by_cases h1 : -(n : Int) ≤ i
    · rw [if_pos h1] at h
      have e : (i + n).toNat = j := Option.some.inj h
      exact ⟨by rw [seqIndex_neg (by omega) h1, e], by omega, h1, by omega⟩
    · rw [if_neg h1] at h; cases h
theorem atI_get {α : Type} {xs : List α} {i : Int} {v : α} (h : atI xs i = some v) : ∃ j, seqIndex? i xs.length = some j ∧ xs[j]? = some v ∧ j < xs.length ∧ -(xs.length : Int) ≤ i ∧ i < xs.length := by
  unfold atI at h
  cases e : ixN xs.length i with
  | none => rw [e] at h; cases h
  | some j =>
    rw [e] at h
    obtain ⟨h1, h2, h3, h4⟩ := ixN_seq e
    exact ⟨j, h1, h, h2, h3, h4⟩
def PlainIx (b : Expr) : Prop := ∀ o i, subscripted b false o i = operate [o, i] (getItem o i)
def IxR (X : Cx) (r : R2) : Prop :=
  ∀ (value slice : Expr) (pins : List (Addr × Obj)) (s : Shared) (σ : St) (H : Hp) (x y : V) (v u : Value) (Q : VK), Inv X pins σ H s → RelV x v → RelV y u → r x y H Q →
    subscripted slice false v u = operate [v, u] (getItem v u) → wpAny (model X.prog X.w) X.A (subscriptTail value slice v u) (EP X pins σ Q) X.xe s
def MtR (X : Cx) (id : String) (r : V → List V → Hp → VK → Prop) : Prop :=
  ∀ (pins : List (Addr × Obj)) (s : Shared) (σ : St) (H : Hp) (x : V) (xs : List V) (v : Value) (us : List Value) (Q : VK), Inv X pins σ H s → RelV x v → Vals xs us → r x xs H Q →
    wpAny (model X.prog X.w) X.A (call (.builtin id) (v :: us)) (EP X pins σ Q) X.xe s
section
variable {X : Cx} {a b : Expr} {ta tb : TE} {pos : Pos}
theorem IxR.or {r r' : R2} (h : IxR X r) (h' : IxR X r') : IxR X (fun x y H Q => r x y H Q ∨ r' x y H Q) := by
  intro value slice pins s σ H x y v u Q I rx ry q hs
  rcases q with q | q
  · exact h value slice pins s σ H x y v u Q I rx ry q hs
  · exact h' value slice pins s σ H x y v u Q I rx ry q hs
theorem pe_ix {r : R2} (hr : IxR X r) (ha : PE X a ta) (hb : PE X b tb) (hs : PlainIx b) : PE X (.Subscript a b pos) (tOp r ta tb) := by
  intro pins s σ H Q I h
  exact Subscript_ (binT ha hb I h fun v u s2 x y H2 I2 rx ry q => hr a b pins s2 σ H2 x y v u Q I2 rx ry q (hs _ _))
def rIxL (K : PySem.W.Frag) : R2 := fun x y H Q => ∃ p xs i v, x = .ref p ∧ y = .int i ∧ SqL K H p xs ∧ atI xs i = some v ∧ Q v H
def rIxT (K : PySem.W.Frag) : R2 := fun x y H Q => ∃ p xs i v, x = .ref p ∧ y = .int i ∧ SqT K H p xs ∧ atI xs i = some v ∧ Q v H
def rIxS : R2 := fun x y H Q => ∃ z i c, x = .str z ∧ y = .int i ∧ z.length ≤ sizeLine ∧ atI z.cps.toList i = some c ∧ Q (.str ⟨#[c]⟩) H
theorem ix_list : IxR X (rIxL X.K) := by
  intro value slice pins s σ H x y v u Q I rx ry h hs
  obtain ⟨p, xs, i, z, rfl, rfl, hq, he, q⟩ := h
  cases rx
  obtain ⟨t, rfl⟩ := ry
  obtain ⟨its, r, pl, hz⟩ := I.list hq
  obtain ⟨j, h1, h2, h3, h4, h5⟩ := atI_get he
  obtain ⟨w, ew, rw'⟩ := r.get h2
  have hl := r.length
  have hn := line63
  have fin : EP X pins σ Q w s := ⟨z, H, I, rw', q⟩
  by_cases h0 : 0 ≤ i
  · have hj : i.toNat = j := by
      rw [seqIndex_of h0 h5] at h1
      exact Option.some.inj h1
    exact item_listR pl.isList h0 (by omega) (by rw [hj]; simpa using ew) fin hs
  · have hj : (i + (its.toArray.size : Int)).toNat = j := by
      rw [seqIndex_neg (by omega) h4] at h1
      rw [List.size_toArray, ← hl]
      exact Option.some.inj h1
    exact subscriptTail_builtinR (x := w) pl.isList.typeIs slot_list_getitem.lookup
      (wpAny_getItem_list_neg (Q := fun r s' => r = w ∧ EP X pins σ Q r s') pl.isList (by omega) (by rw [List.size_toArray] <;> omega) (by omega) (by rw [hj]; simpa using ew) ⟨rfl, fin⟩) hs
theorem ix_tup : IxR X (rIxT X.K) := by
  intro value slice pins s σ H x y v u Q I rx ry h hs
  obtain ⟨p, xs, i, z, rfl, rfl, hq, he, q⟩ := h
  cases rx
  obtain ⟨t, rfl⟩ := ry
  obtain ⟨its, r, pl, hz⟩ := I.tuple hq
  obtain ⟨j, h1, h2, h3, h4, h5⟩ := atI_get he
  obtain ⟨w, ew, rw'⟩ := r.get h2
  have hl := r.length
  have hn := line63
  have fin : EP X pins σ Q w s := ⟨z, H, I, rw', q⟩
  exact subscriptTail_builtinR (x := w) pl.typeIs slot_tuple_getitem.lookup
    (getItem_tuple (j := j) (Q := fun r s' => r = w ∧ EP X pins σ Q r s') pl (by omega) (by omega) (by rw [List.size_toArray, ← hl]; exact h1) (by simpa using ew) ⟨rfl, fin⟩) hs
theorem ix_str : IxR X rIxS := by
  intro value slice pins s σ H x y v u Q I rx ry h hs
  obtain ⟨z, i, c, rfl, rfl, hz, he, q⟩ := h
  obtain ⟨t, rfl⟩ := rx
  obtain ⟨t', rfl⟩ := ry
  obtain ⟨j, h1, h2, h3, h4, h5⟩ := atI_get he
  have hl : z.cps.toList.length = z.length := by simp [Str.length]
  rw [hl] at h1 h4 h5
  have hn := line63
  exact tail_any (typeIs_str s z t) slot_str_getitem.lookup (getItem_str (c := c) (by
    have e1 : decide (i < -(2 ^ 63 : Int)) = false := decide_eq_false (by omega)
    have e2 : decide (i ≥ 2 ^ 63) = false := decide_eq_false (by omega)
    rw [e1, e2, Bool.or_false]) (by rw [h1]; simpa using h2) ⟨.str ⟨#[c]⟩, H, I.tok _, ⟨_, rfl⟩, q⟩) hs
def rIx (K : PySem.W.Frag) : R2 := fun x y H Q => rIxL K x y H Q ∨ rIxT K x y H Q ∨ rIxS x y H Q
theorem ix_seq : IxR X (rIx X.K) := ix_list.or (ix_tup.or ix_str)
theorem mapSeq_set (its : List Value) (n j : Nat) (u : Value) : Obj.mapSeq (·.setIfInBounds j u) { cls := .type "list", data := .seq its.toArray n } = { cls := .type "list", data := .seq (its.set j u).toArray n } := by
  simp [Obj.mapSeq]
theorem Inv.lst {pins : List (Addr × Obj)} {σ : St} {H : Hp} {s : Shared} {p : Addr} {xs : List V} (I : Inv X pins σ H s) (h : H p = some (.lst xs)) :
    ∃ (its : List Value) (n : Nat), Vals xs its ∧ s.heap.get? p = some { cls := .type "list", data := .seq its.toArray n } ∧ xs.length ≤ sizeLine := by
  obtain ⟨z, its, n, r, e⟩ := I.hok p _ h
  exact ⟨its, n, r, e, z⟩
theorem Inv.lstUpd {pins : List (Addr × Obj)} {σ : St} {H : Hp} {s : Shared} {p : Addr} {xs ys : List V} {its its' : List Value} {n n' : Nat} {f : Obj → Obj} (I : Inv X pins σ H s) (h : H p = some (.lst xs))
    (ho : s.heap.get? p = some { cls := .type "list", data := .seq its.toArray n }) (hf : f { cls := .type "list", data := .seq its.toArray n } = { cls := .type "list", data := .seq its'.toArray n' }) (r : Vals ys its') (hz : ys.length ≤ sizeLine) (t : Nat) :
    Inv X pins σ (upd H p (.lst ys)) { s with heap := s.heap.update p f, toks := t } := by
  have e : (s.heap.update p f).get? p = some { cls := .type "list", data := .seq its'.toArray n' } := by
    rw [Heap.get?_update_self f ho (by rw [hf] <;> rfl), hf]
  refine I.write (x := p) (e := p) (by rw [h]; trivial) (.inl rfl) (fun b u hb q => (Heap.get?_update_other _ _ (Ne.symm hb)).trans q) ⟨_, e⟩ ?_
  exact ⟨hz, its', n', r, e⟩
def rSetL : V → V → V → Hp → (Hp → Prop) → Prop := fun o i v H Q => ∃ p xs k j, o = .ref p ∧ i = .int k ∧ H p = some (.lst xs) ∧ ixN xs.length k = some j ∧ Q (upd H p (.lst (xs.set j v)))
theorem set_list : PSet X rSetL := by
  intro pins s σ H o i v ov iv u Q I ro ri rv h
  obtain ⟨p, xs, k, j, rfl, rfl, hp, hj, q⟩ := h
  cases ro
  obtain ⟨t, rfl⟩ := ri
  obtain ⟨its, n, r, ho, hz⟩ := I.lst hp
  obtain ⟨h1, h2, h3, h4⟩ := ixN_seq hj
  have hl := r.length
  have hn := line63
  have I' : Inv X pins σ (upd H p (.lst (xs.set j v))) { s with heap := s.heap.update p (Obj.mapSeq (·.setIfInBounds j u)) } :=
    I.lstUpd hp ho (mapSeq_set its n j u) (r.set rv j) (by rw [List.length_set]; exact hz) s.toks
  by_cases h0 : 0 ≤ k
  · have hk : k.toNat = j := by
      rw [seqIndex_of h0 h4] at h1
      exact Option.some.inj h1
    exact PySem.W.ki_setAt ho h0 (by omega) (by rw [List.size_toArray, ← hl]; exact h4) (by rw [hk]; exact ⟨_, I', q⟩)
  · have hk : (k + (its.toArray.size : Int)).toNat = j := by
      rw [seqIndex_neg (by omega) h3] at h1
      rw [List.size_toArray, ← hl]
      exact Option.some.inj h1
    exact PySem.W.ki_setBack ho (by omega) (by rw [List.size_toArray, ← hl]; exact h3) (by omega) (by rw [hk]; exact ⟨_, I', q⟩)
theorem slice_bounds (lo hi : Option Int) (n : Nat) : (sliceBounds lo hi none n).1 = ((HT.sIx n 0 lo : Nat) : Int) ∧ (sliceBounds lo hi none n).2.1 = ((HT.sIx n n hi : Nat) : Int) ∧ (sliceBounds lo hi none n).2.2 = 1 := by
  refine ⟨?_, ?_, rfl⟩
  · cases lo with
    | none => simp [sliceBounds, HT.sIx]
    | some i =>
      simp only [sliceBounds, HT.sIx, Option.getD_none, show (1 : Int) > 0 by decide, if_true]
      by_cases h : i < 0
      · simp only [h, if_true] <;> omega
      · simp only [h, if_false] <;> omega
  · cases hi with
    | none => simp [sliceBounds, HT.sIx]
    | some i =>
      simp only [sliceBounds, HT.sIx, Option.getD_none, show (1 : Int) > 0 by decide, if_true]
      by_cases h : i < 0
      · simp only [h, if_true] <;> omega
      · simp only [h, if_false] <;> omega
theorem slicePick_cut (its : List Value) (lo hi : Option Int) : slicePick its.toArray lo hi none = ((its.drop (HT.sIx its.length 0 lo)).take (HT.sIx its.length its.length hi - HT.sIx its.length 0 lo)).toArray := by
  obtain ⟨h1, h2, h3⟩ := slice_bounds lo hi its.toArray.size
  unfold slicePick
  rw [h1, h2, h3]
  simp only [sliceRange_one, pick_run, List.size_toArray] <;> rfl
def rSlL (K : PySem.W.Frag) : V → Option Int → Option Int → Hp → VK → Prop := fun x lo hi H Q => ∃ a xs, x = .ref a ∧ SqL K H a xs ∧ ∀ p, H p = none → Q (.ref p) (upd H p (.lst (cutV xs lo hi)))
theorem sl_list : SlR X (rSlL X.K) := by
  intro pins s σ H x v vl vu lo hi sl Q I rx hs pl pu h
  obtain ⟨a, xs, rfl, hx, q⟩ := h
  cases rx
  obtain ⟨its, r, ht, hz⟩ := I.list hx
  have hlen := r.length
  refine ⟨"list", _, slot_list_getitem.lookup, ht.isList.typeIs, ?_⟩
  refine wpAny_getItem_list_slice ht.isList hs pl pu .none (by simp) ?_ (by rw [List.size_toArray] <;> omega)
  rw [slicePick_cut, ← hlen]
  refine ⟨.ref s.heap.objs.size, _, I.laid (t' := s.toks) (o := .lst (cutV xs lo hi)) (fun b ob q => Heap.get?_push_of_some _ q) (Nat.le_refl _) ?_, rfl, q _ (I.hok.fresh (Nat.le_refl _))⟩
  exact ⟨Nat.le_trans (cutV_length xs lo hi) hz, _, 0, (r.drop (HT.sIx xs.length 0 lo)).take (HT.sIx xs.length xs.length hi - HT.sIx xs.length 0 lo), Heap.get?_push_size _ rfl⟩
def flatV : V → Bool
  | .non => true
  | .bl _ => true
  | .int _ => true
  | .str _ => true
  | _ => false
def eqV : V → V → Bool
  | .non, .non => true
  | .bl a, .bl b => a == b
  | .bl a, .int b => (if a then 1 else 0) == b
  | .int a, .bl b => a == (if b then 1 else 0)
  | .int a, .int b => a == b
  | .str a, .str b => a == b
  | _, _ => false
def inV (x : V) (xs : List V) : Bool := xs.any fun y => eqV y x
theorem call_len_seq : CallR X (.builtin "len") (fun xs H Q => ∃ p ys, xs = [.ref p] ∧ (SqL X.K H p ys ∨ SqT X.K H p ys) ∧ Q (.int ys.length) H) := by
  intro pins s σ H xs us Q I r h
  obtain ⟨p, ys, rfl, hq, q⟩ := h
  obtain ⟨u, rfl, rx⟩ := vals1 r
  cases rx
  have hn := line63
  rcases hq with hq | hq
  · obtain ⟨its, r', pl, hz⟩ := I.list hq
    have hlen := r'.length
    exact Calls.call_len_list pl.isList (by simp only [List.size_toArray] <;> omega) ⟨.int ys.length, H, I.tok _, ⟨s.toks + 1, by rw [List.size_toArray, hlen]⟩, q⟩
  · obtain ⟨its, r', pl, hz⟩ := I.tuple hq
    have hlen := r'.length
    exact len_tuple pl (by simp only [List.size_toArray] <;> omega) ⟨.int ys.length, H, I.tok _, ⟨s.toks + 1, by rw [List.size_toArray, hlen]⟩, q⟩
def tyV (K : PySem.W.Frag) (T : String) (x : V) (H : Hp) : Prop := match x with
  | .str _ => T = "str"
  | .int _ => T = "int"
  | .ref p => (T = "list" ∧ ∃ xs, SqL K H p xs) ∨ (T = "tuple" ∧ ∃ o, K.lookup p = some o ∧ o.cls = .type "tuple" ∧ o.dict = none) ∨
      (T = "dict" ∧ ((∃ kvs, H p = some (.dK kvs)) ∨ ∃ kvs, H p = some (.dT kvs))) ∨ (T = "set" ∧ ∃ S n, H p = some (.set S n))
  | _ => False
theorem tyV_is {pins : List (Addr × Obj)} {σ : St} {H : Hp} {s : Shared} {T : String} {x : V} {v : Value} (I : Inv X pins σ H s) (r : RelV x v) (ty : tyV X.K T x H) :
    s.TypeIs v T ∧ ∀ a, v = .ref a → ∃ ob, s.heap.get? a = some ob ∧ ob.dict = none := by
  cases x with
  | str z =>
    obtain ⟨t, rfl⟩ := r
    cases (show T = "str" from ty)
    exact ⟨typeIs_str s z t, fun _ e => nomatch e⟩
  | int i =>
    obtain ⟨t, rfl⟩ := r
    cases (show T = "int" from ty)
    exact ⟨typeIs_int s i t, fun _ e => nomatch e⟩
  | ref p =>
    cases r
    rcases ty with ⟨rfl, xs, hq⟩ | ⟨rfl, o, hk, hc, hd⟩ | ⟨rfl, hk⟩ | ⟨rfl, S, n, hk⟩
    · obtain ⟨its, _, pl, _⟩ := I.list hq
      refine ⟨pl.isList.typeIs, fun a e => ?_⟩
      cases e
      obtain ⟨o, n, e, c, hd, _⟩ := pl
      exact ⟨o, e, hd⟩
    · refine ⟨⟨o, I.kIn p o hk, hc⟩, fun a e => ?_⟩
      cases e
      exact ⟨o, I.kIn _ o hk, hd⟩
    · have z : ∃ o, s.heap.get? p = some o ∧ o.ExactDict := by
        rcases hk with ⟨kvs, hk⟩ | ⟨kvs, hk⟩
        · obtain ⟨_, _, _, _, o, _, _, e, ex, _⟩ := I.hok p _ hk
          exact ⟨o, e, ex⟩
        · obtain ⟨_, _, _, _, o, _, _, e, ex, _⟩ := I.hok p _ hk
          exact ⟨o, e, ex⟩
      obtain ⟨o, e, ex⟩ := z
      refine ⟨⟨o, e, ex.1⟩, fun a e2 => ?_⟩
      cases e2
      exact ⟨o, e, ex.2.1⟩
    · obtain ⟨o, _, _, _, e, ex, _⟩ := I.hok p _ hk
      refine ⟨⟨o, e, ex.1⟩, fun a e2 => ?_⟩
      cases e2
      exact ⟨o, e, ex.2.1⟩
  | _ => exact False.elim ty
def tBM (K : PySem.W.Frag) (T : String) (r : V → List V → Hp → VK → Prop) (to : TE) (t : TA) : TE := fun σ H Q => to σ H fun x H1 => tyV K T x H1 ∧ t σ H1 fun xs H2 => r x xs H2 Q
variable {o e : Expr} {es : List Expr} {to : TE} {t : TA} {name : Str} {apos cpos : Pos} {T id : String} {r : V → List V → Hp → VK → Prop}
theorem pe_bm (pa : PlainAttrs T) (slot : Slot T name id) (hty : typeOf (.builtin id) = pure (.type "method_descriptor")) (hm : MtR X id r) (ho : PE X o to) (ha : PA X (e :: es) t)
    (hbase : attributeBase o name X.env (eval o X.env) = eval o X.env := by rfl)
    (hfew : ((backTo cpos (starEach (e :: es) X.env)).all (fun x => !x.1) && (backToKw cpos (keywordEach [] X.env)).all (fun x => x.1.isSome)
      && decide ((e :: es).length + ([] : List Keyword).length + (if ([] : List Keyword).isEmpty then 0 else 1) < 30)) = true := by rfl)
    (hline : (apos.endLine == cpos.line) = true := by rfl) (hs : starEach (e :: es) X.env = (false, eval e X.env) :: starEach es X.env := by rfl) (hplain : (backTo cpos (starEach es X.env)).any (·.1) = false := by rfl) :
    PE X (.Call (.Attribute o name apos) (e :: es) [] cpos) (tBM X.K T r to t) := by
  intro pins s σ H Q I h
  refine wpAny_Call_method_late hbase hfew hline rfl (thn (ho pins s σ H _ I h) fun v s1 ⟨x, H1, I1, r1, ty, q1⟩ => ?_)
  obtain ⟨h1, h2⟩ := tyV_is I1 r1 ty
  refine ⟨T, id, pa, slot, hty, h1, h2, ?_⟩
  have hA := ha cpos pins s1 σ H1 _ I1 q1
  rw [hs] at hA ⊢
  refine Calls.callWith_builtin (by show (false || (backTo cpos (starEach es X.env)).any (·.1)) = false; rw [hplain] <;> rfl) (Calls.evalArgs_plain ?_)
  exact thn hA fun us s2 ⟨vs, H2, I2, r2, q2⟩ => hm pins s2 σ H2 x vs v us Q I2 r1 r2 q2
end
end L2
namespace L2
open PySem PySem.Spec PyProof.Rows
def MtM (X : Cx) (id : String) (r : V → List V → Hp → VK → Prop) : Prop :=
  ∀ (pins : List (Addr × Obj)) (s : Shared) (σ : St) (H : Hp) (x : V) (xs : List V) (v : Value) (us : List Value) (Q : VK), Inv X pins σ H s → RelV x v → Vals xs us → r x xs H Q →
    wpAny (model X.prog X.w) X.A (call (.builtin id) (v :: us)) (EP X pins σ Q) X.xe s
theorem Vals.one : ∀ {x : V} {us : List Value}, Vals [x] us → ∃ u, us = [u] ∧ RelV x u
  | _, _, .cons r .nil => ⟨_, rfl, r⟩
theorem Vals.two : ∀ {x y : V} {us : List Value}, Vals [x, y] us → ∃ u v, us = [u, v] ∧ RelV x u ∧ RelV y v
  | _, _, _, .cons r (.cons q .nil) => ⟨_, _, rfl, r, q⟩
theorem Vals.zero : ∀ {us : List Value}, Vals [] us → us = []
  | _, .nil => rfl
theorem Vals.rep {xs : List V} {us : List Value} (h : Vals xs us) : ∀ k : Nat, Vals (List.replicate k xs).flatten (List.replicate k us).flatten
  | 0 => .nil
  | k + 1 => by
    rw [List.replicate_succ, List.replicate_succ, List.flatten_cons, List.flatten_cons]
    exact Vals.append h (Vals.rep h k)
theorem foldl_rep (its : List Value) : ∀ (k : Nat) (acc : List Value),
    List.foldl (fun x1 x2 => x1 ++ x2) acc.toArray (List.replicate k its.toArray) = (acc ++ (List.replicate k its).flatten).toArray
  | 0, acc => by simp
  | k + 1, acc => by
    have e : acc.toArray ++ its.toArray = (acc ++ its).toArray := by simp
    have e2 : (acc ++ its) ++ (List.replicate k its).flatten = acc ++ (List.replicate (k + 1) its).flatten := by
      rw [List.replicate_succ, List.flatten_cons, List.append_assoc]
    rw [← e2, ← foldl_rep its k (acc ++ its), ← e, List.replicate_succ, List.foldl_cons]
section
variable {X : Cx} {pins : List (Addr × Obj)} {σ : St} {H : Hp} {s : Shared} {l b : Addr} {xs ys zs : List V}
theorem Inv.lset {its its' : List Value} {n : Nat} {f : Array Value → Array Value} {t' : Nat} (I : Inv X pins σ H s) (hH : H l = some (.lst xs))
    (e : s.heap.get? l = some { cls := .type "list", data := .seq its.toArray n }) (hf : f its.toArray = its'.toArray) (hv : Vals ys its') (hz : ys.length ≤ sizeLine) :
    Inv X pins σ (upd H l (.lst ys)) { s with heap := s.heap.update l (Obj.mapSeq f), toks := t' } := by
  have q := PySem.IsL.update e f
  rw [hf] at q
  refine I.write (x := l) (e := l) (by rw [hH]; exact trivial) (.inl rfl) (fun b' u hb hu => (Heap.get?_update_other s.heap (Obj.mapSeq f) (Ne.symm hb)).trans hu) ⟨_, q⟩ ?_
  exact ⟨hz, its', _, hv, q⟩
theorem Inv.lnew {its : List Value} {t' : Nat} (I : Inv X pins σ H s) (hv : Vals ys its) (hz : ys.length ≤ sizeLine) :
    Inv X pins σ (upd H s.heap.objs.size (.lst ys)) { s with heap := s.heap.push { cls := .type "list", data := .seq its.toArray }, toks := t' } :=
  I.laid (fun _ _ q => Heap.get?_push_of_some _ q) (Nat.le_refl _) ⟨hz, its, 0, hv, Heap.get?_push_size _ rfl⟩
theorem Inv.fresh (I : Inv X pins σ H s) : H s.heap.objs.size = none := I.hok.fresh (Nat.le_refl _)
theorem Inv.lstM (I : Inv X pins σ H s) (hH : H l = some (.lst xs)) : xs.length ≤ sizeLine ∧ ∃ (its : List Value) (n : Nat), Vals xs its ∧ xs.length = its.length ∧ s.heap.get? l = some { cls := .type "list", data := .seq its.toArray n } := by
  obtain ⟨z, its, n, r, e⟩ := I.hok l _ hH
  exact ⟨z, its, n, r, r.length, e⟩
theorem notLongL {n : Nat} (h : n ≤ sizeLine) : Builtin.List.listTooLong n = false := by
  unfold Builtin.List.listTooLong
  exact decide_eq_false (by omega)
end
section
variable {X : Cx}
def rAppend : V → List V → Hp → VK → Prop := fun x vs H Q => ∃ l xs y, x = .ref l ∧ vs = [y] ∧ H l = some (.lst xs) ∧ xs.length < sizeLine ∧ Q .non (upd H l (.lst (xs ++ [y])))
theorem mt_append : MtM X "list.append" rAppend := by
  intro pins s σ H x vs v us Q I rx rv h
  obtain ⟨l, xs, y, rfl, rfl, hH, hz, q⟩ := h
  cases rx
  obtain ⟨u, rfl, ru⟩ := rv.one
  obtain ⟨z, its, n, r, hl, e⟩ := I.lstM hH
  refine call_meets F.slot_list_append ⟨_, e, rfl⟩ F.entry_list_append (F.args_list_append_2 _ _) (PySem.list_append l its.toArray n u (by rw [List.size_toArray]; omega)) ⟨e, ?_⟩
  refine ⟨.non, _, I.lset (its' := its ++ [u]) hH e (by simp) (r.append (.cons ru .nil)) ?_, rfl, q⟩
  rw [List.length_append, List.length_singleton]
  omega
def rExtend : V → List V → Hp → VK → Prop := fun x vs H Q => ∃ l b xs zs, x = .ref l ∧ vs = [.ref b] ∧ H l = some (.lst xs) ∧ H b = some (.lst zs) ∧ xs.length + zs.length ≤ sizeLine ∧ Q .non (upd H l (.lst (xs ++ zs)))
theorem mt_extend : MtM X "list.extend" rExtend := by
  intro pins s σ H x vs v us Q I rx rv h
  obtain ⟨l, b, xs, zs, rfl, rfl, hH, hB, hz, q⟩ := h
  cases rx
  obtain ⟨u, rfl, ru⟩ := rv.one
  cases ru
  obtain ⟨z, its, n, r, hl, e⟩ := I.lstM hH
  obtain ⟨z2, its2, n2, r2, hl2, e2⟩ := I.lstM hB
  have hsz : its.toArray.size + its2.toArray.size ≤ sizeLine := by rw [List.size_toArray, List.size_toArray]; omega
  have hlong : ¬ (!its.toArray.isEmpty && Builtin.List.listTooLong (its.toArray.size + its2.toArray.size)) = true := by
    rw [notLongL hsz, Bool.and_false]
    exact Bool.false_ne_true
  refine call_meets F.slot_list_extend ⟨_, e, rfl⟩ F.entry_list_extend (F.args_list_extend_2 _ _)
    (AutoSeq1.list_extend_list_list_0 l its.toArray n b its2.toArray n2 hlong (by rw [List.size_toArray]; omega) (by omega)) ⟨e, e2, ?_⟩
  refine ⟨.non, _, I.lset (its' := its ++ its2) hH e (by simp) (r.append r2) ?_, rfl, q⟩
  rw [List.length_append]
  omega
theorem len_rep {α : Type} (xs : List α) (k : Nat) : (List.replicate k xs).flatten.length = k * xs.length := by
  induction k with
  | zero => simp
  | succ k ih => rw [List.replicate_succ, List.flatten_cons, List.length_append, ih, Nat.succ_mul, Nat.add_comm]
end
section
variable {prog : Program} {w : World} {A : Around} {E : Value → Shared → Prop} {s : Shared}
set_option maxRecDepth 100000 in
end
section
variable {X : Cx}
end
end L2
namespace L2
open PySem PySem.Spec PyProof.Rows
theorem Vals.ints : ∀ {ns : List Int} {us : List Value}, Vals (ns.map V.int) us → IntsAre us ns
  | [], us, h => by
    rw [List.map_nil] at h
    cases h
    exact IntsAre.nil
  | n :: ns, us, h => by
    rw [List.map_cons] at h
    cases h with
    | cons r t =>
      obtain ⟨k, rfl⟩ := r
      exact IntsAre.cons n k (Vals.ints t)
theorem vals_of_ints : ∀ {us : List Value} {ns : List Int}, IntsAre us ns → Vals (ns.map V.int) us
  | _, _, .nil => by rw [List.map_nil]; exact Paired.nil
  | _, _, .cons n t h => by rw [List.map_cons]; exact Paired.cons (show RelV (V.int n) (Value.int n t) from ⟨t, rfl⟩) (vals_of_ints h)
theorem Vals.ref1 {a : Addr} {us : List Value} (r : Vals [V.ref a] us) : us = [Value.ref a] := by
  cases r with
  | cons r t =>
    cases t
    cases r
    rfl
section
variable {prog : Program} {w : World} {A : Around} {E : Value → Shared → Prop} {s : Shared} {l : Addr} {its : List Value} {ns : List Int} {Q : Value → Shared → Prop}
theorem sum_raw (hh : A.handled = none) (hl : s.heap.IsList l its.toArray) (hi : IntsAre its ns)
    (h : ∀ h' tk t', (∀ b o, s.heap.get? b = some o → h'.get? b = some o) → Q (.int ns.sum t') { s with heap := h', toks := tk }) : wpAny (model prog w) A (call (.builtin "sum") [.ref l]) Q E s := by
  obtain ⟨xs, e⟩ := hi.allInts.items
  have hn : numsOf (intItems xs).toList = ns := by rw [← e]; exact hi.numsOf
  rw [nums_intItems] at hn
  rw [e] at hl
  refine PySem.sum_intListG hh hl fun h' tk t' hk => ?_
  have := h h' tk t' hk
  rw [preSum_eq, List.take_of_length_le (by simp), hn]; exact this
theorem max_raw (hh : A.handled = none) (hl : s.heap.IsList l its.toArray) (hi : IntsAre its ns) (hne : 0 < ns.length)
    (h : ∀ h' tk M t', (∀ b o, s.heap.get? b = some o → h'.get? b = some o) → M ∈ ns → (∀ a, a ∈ ns → a ≤ M) → Q (.int M t') { s with heap := h', toks := tk }) : wpAny (model prog w) A (call (.builtin "max") [.ref l]) Q E s := by
  obtain ⟨xs, e⟩ := hi.allInts.items
  have hn : numsOf (intItems xs).toList = ns := by rw [← e]; exact hi.numsOf
  rw [nums_intItems] at hn
  subst hn
  rw [e] at hl
  have hsz : 0 < xs.size := by simpa using hne
  refine PySem.max_intList hh hl hsz fun v h' tk hv hk => ?_
  obtain ⟨t, rfl⟩ := intItems_at hv
  obtain ⟨h1, h2⟩ := argBest_gt (numAt xs) (xs.size - 1)
  refine h h' tk _ t hk ?_ fun a ha => ?_
  · rw [numAt_eq]; exact PySem.getD_mem (by rw [List.length_map, Array.length_toList]; omega)
  · obtain ⟨j, hj, rfl⟩ := mem_getD ha
    rw [List.length_map, Array.length_toList] at hj
    rw [← numAt_eq]; exact h2 j (by omega)
theorem min_raw (hh : A.handled = none) (hl : s.heap.IsList l its.toArray) (hi : IntsAre its ns) (hne : 0 < ns.length)
    (h : ∀ h' tk M t', (∀ b o, s.heap.get? b = some o → h'.get? b = some o) → M ∈ ns → (∀ a, a ∈ ns → M ≤ a) → Q (.int M t') { s with heap := h', toks := tk }) : wpAny (model prog w) A (call (.builtin "min") [.ref l]) Q E s := by
  obtain ⟨xs, e⟩ := hi.allInts.items
  have hn : numsOf (intItems xs).toList = ns := by rw [← e]; exact hi.numsOf
  rw [nums_intItems] at hn
  subst hn
  rw [e] at hl
  have hsz : 0 < xs.size := by simpa using hne
  refine PySem.min_intList hh hl hsz fun v h' tk hv hk => ?_
  obtain ⟨t, rfl⟩ := intItems_at hv
  obtain ⟨h1, h2⟩ := argBest_lt (numAt xs) (xs.size - 1)
  refine h h' tk _ t hk ?_ fun a ha => ?_
  · rw [numAt_eq]; exact PySem.getD_mem (by rw [List.length_map, Array.length_toList]; omega)
  · obtain ⟨j, hj, rfl⟩ := mem_getD ha
    rw [List.length_map, Array.length_toList] at hj
    rw [← numAt_eq]; exact h2 j (by omega)
end
section
variable {X : Cx}
def rSum (K : PySem.W.Frag) : List V → Hp → VK → Prop := fun vs H Q => ∃ (a : Addr) (ns : List Int), vs = [V.ref a] ∧ SqL K H a (ns.map V.int) ∧ Q (.int ns.sum) H
def rMax (K : PySem.W.Frag) : List V → Hp → VK → Prop := fun vs H Q => ∃ (a : Addr) (ns : List Int), vs = [V.ref a] ∧ SqL K H a (ns.map V.int) ∧ 0 < ns.length ∧ ∀ m, m ∈ ns → (∀ y, y ∈ ns → y ≤ m) → Q (.int m) H
def rMin (K : PySem.W.Frag) : List V → Hp → VK → Prop := fun vs H Q => ∃ (a : Addr) (ns : List Int), vs = [V.ref a] ∧ SqL K H a (ns.map V.int) ∧ 0 < ns.length ∧ ∀ m, m ∈ ns → (∀ y, y ∈ ns → m ≤ y) → Q (.int m) H
theorem cr_sum (hc : X.calm = true) : CallR X (.builtin "sum") (rSum X.K) := by
  intro pins s σ H vs us Q I r h
  obtain ⟨a, ns, rfl, hs, q⟩ := h
  obtain ⟨its, rv, hl, _⟩ := I.list hs
  rw [Vals.ref1 r]
  exact sum_raw (I.ok.hd hc) hl.isList rv.ints fun h' tk t' hk => ⟨.int _, H, I.kept hk, ⟨_, rfl⟩, q⟩
theorem cr_max (hc : X.calm = true) : CallR X (.builtin "max") (rMax X.K) := by
  intro pins s σ H vs us Q I r h
  obtain ⟨a, ns, rfl, hs, hne, q⟩ := h
  obtain ⟨its, rv, hl, _⟩ := I.list hs
  rw [Vals.ref1 r]
  exact max_raw (I.ok.hd hc) hl.isList rv.ints hne fun h' tk m t' hk h1 h2 => ⟨.int _, H, I.kept hk, ⟨_, rfl⟩, q m h1 h2⟩
theorem cr_min (hc : X.calm = true) : CallR X (.builtin "min") (rMin X.K) := by
  intro pins s σ H vs us Q I r h
  obtain ⟨a, ns, rfl, hs, hne, q⟩ := h
  obtain ⟨its, rv, hl, _⟩ := I.list hs
  rw [Vals.ref1 r]
  exact min_raw (I.ok.hd hc) hl.isList rv.ints hne fun h' tk m t' hk h1 h2 => ⟨.int _, H, I.kept hk, ⟨_, rfl⟩, q m h1 h2⟩
def rSorted (K : PySem.W.Frag) : List V → Hp → VK → Prop := fun vs H Q => ∃ (a : Addr) (ns : List Int), vs = [V.ref a] ∧ SqL K H a (ns.map V.int) ∧ ns.length < 64 ∧
  ∀ (ns' : List Int) (p : Addr), ns'.Perm ns → ns'.Pairwise (· ≤ ·) → H p = none → Q (.ref p) (upd H p (.lst (ns'.map V.int)))
theorem small64 {n : Nat} (h : n < 64) : n ≤ sizeLine := by rw [sizeLine_eq]; omega
theorem cr_sorted : CallR X (.builtin "sorted") (rSorted X.K) := by
  intro pins s σ H vs us Q I r h
  obtain ⟨a, ns, rfl, hs, h64, q⟩ := h
  obtain ⟨its, rv, hl, _⟩ := I.list hs
  rw [Vals.ref1 r]
  have hi := rv.ints
  refine PyProof.Rows.sorted_ints hl.isList hi (by rw [hi.length]; exact h64) fun out ns' h1 h2 h3 => ?_
  obtain ⟨ep, he'⟩ := PyProof.Rows.sortedAll_at s.heap its out
  have hlen : (ns'.map V.int).length ≤ sizeLine := by rw [List.length_map, h2.length_eq]; exact small64 h64
  exact ⟨.ref _, upd H (s.heap.objs.size + 1) (.lst (ns'.map V.int)), I.laid (t' := s.toks) (fun _ _ => PyProof.Rows.sortedAll_old) (Nat.le_succ _) ⟨hlen, out.toList, ep, vals_of_ints h1, he'⟩, rfl, q ns' _ h2 h3 (I.hok.fresh (Nat.le_succ _))⟩
end
section
variable {X : Cx}
end
section
variable {X : Cx}
end
section
variable {X : Cx}
end
def keyP : Key → PyData
  | .inl i => .int i
  | .inr x => .str x
theorem key_reads {h : Heap} {k : Key} {u : Value} (e : keyIs k u = true) : Reads h u (keyP k) [] := by
  rcases keyIs_shape e with ⟨i, t, rfl, rfl⟩ | ⟨x, t, rfl, rfl⟩
  · exact .int i t
  · exact .str x t
theorem keys_reads {P : Program} {w : World} {h : Heap} : ∀ {es : List DictEntry} {vs : List (Key × Value)} {ws : List (Key × V)}, PySem.Pairs (mixKind P w) es vs → KV ws vs → ∃ as, ReadsAll h (es.map (·.key)) (ws.map fun p => keyP p.1) as
  | _, _, _, .nil, .nil => ⟨_, ReadsAll.nil⟩
  | _, _, _, .cons hk hv t, .cons g q => by
    obtain ⟨as, r⟩ := keys_reads (h := h) t q
    rw [List.map_cons, List.map_cons, g.1]
    exact ⟨_, ReadsAll.cons (key_reads hk) r⟩
theorem vals_pairs {P : Program} {w : World} : ∀ {es : List DictEntry} {vs : List (Key × Value)} {ws : List (Key × V)}, PySem.Pairs (mixKind P w) es vs → KV ws vs → Vals (ws.map Prod.snd) (es.map (·.val))
  | _, _, _, .nil, .nil => .nil
  | _, _, _, .cons hk hv t, .cons g q => .cons (by have z := g.2; rw [← hv] at z; exact z) (vals_pairs t q)
mutual
inductive Dp (K : PySem.W.Frag) (H : Hp) : V → PyData → Prop
  | non : Dp K H .non .none
  | bl (b : Bool) : Dp K H (.bl b) (.bool b)
  | int (i : Int) : Dp K H (.int i) (.int i)
  | str (x : Str) : Dp K H (.str x) (.str x)
  | lst {a : Addr} {xs : List V} {ds : List PyData} : SqL K H a xs → DpAll K H xs ds → Dp K H (.ref a) (.list ds)
  | tup {a : Addr} {xs : List V} {ds : List PyData} : SqT K H a xs → DpAll K H xs ds → Dp K H (.ref a) (.tuple ds)
  | dct {a : Addr} {o : Obj} {ws : List (Key × V)} {ps : List (PyData × PyData)} : H a = some (.frz o (.dK ws)) → DpAll K H (ws.map Prod.snd) (ps.map Prod.snd) → ps.map Prod.fst = (ws.map fun p => keyP p.1) → Dp K H (.ref a) (.dict ps)
inductive DpAll (K : PySem.W.Frag) (H : Hp) : List V → List PyData → Prop
  | nil : DpAll K H [] []
  | cons {v : V} {vs : List V} {d : PyData} {ds : List PyData} : Dp K H v d → DpAll K H vs ds → DpAll K H (v :: vs) (d :: ds)
end
section
variable {X : Cx} {pins : List (Addr × Obj)} {σ : St} {H : Hp} {s : Shared}
mutual
theorem Dp.reads' (I : Inv X pins σ H s) : ∀ {v : V} {d : PyData}, Dp X.K H v d → ∀ u : Value, RelV v u → ∃ as, Reads s.heap u d as
  | _, _, .non, u, r => by
    cases r
    exact ⟨_, Reads.none⟩
  | _, _, .bl b, u, r => by
    cases r
    exact ⟨_, Reads.bool b⟩
  | _, _, .int i, u, r => by
    obtain ⟨t, rfl⟩ := r
    exact ⟨_, Reads.int i t⟩
  | _, _, .str x, u, r => by
    obtain ⟨t, rfl⟩ := r
    exact ⟨_, Reads.str x t⟩
  | _, _, .lst hs ha, u, r => by
    cases r
    obtain ⟨its, rv, ⟨o, n, ho, hc, _, hd⟩, _⟩ := I.list hs
    obtain ⟨as, hr⟩ := Dp.readsAll' I ha its rv
    exact ⟨_, Reads.list ho hc hd hr⟩
  | _, _, .tup hs ha, u, r => by
    cases r
    obtain ⟨its, rv, ⟨o, ho, hc, n, hd⟩, _⟩ := I.tuple hs
    obtain ⟨as, hr⟩ := Dp.readsAll' I ha its rv
    exact ⟨_, Reads.tuple ho hc hd hr⟩
  | _, _, .dct hs ha hk, u, r => by
    cases r
    obtain ⟨hd, _, _, vs, kv, o', es, ep, ho, hx, hdt, _, pr, _⟩ := I.hok _ _ hs
    obtain ⟨as, r1⟩ := keys_reads (h := s.heap) pr kv
    obtain ⟨bs, r2⟩ := Dp.readsAll' I ha _ (vals_pairs pr kv)
    rw [← hk] at r1
    exact ⟨_, Reads.dict ho hx.1 hdt r1 r2⟩
theorem Dp.readsAll' (I : Inv X pins σ H s) : ∀ {vs : List V} {ds : List PyData}, DpAll X.K H vs ds → ∀ us : List Value, Vals vs us → ∃ as, ReadsAll s.heap us ds as
  | _, _, .nil, us, r => by
    cases r
    exact ⟨_, ReadsAll.nil⟩
  | _, _, .cons h1 h2, us, r => by
    cases r with
    | cons r1 r2 =>
      obtain ⟨as, q1⟩ := Dp.reads' I h1 _ r1
      obtain ⟨bs, q2⟩ := Dp.readsAll' I h2 _ r2
      exact ⟨_, ReadsAll.cons q1 q2⟩
end
theorem Dp.reads (I : Inv X pins σ H s) (d : PyData) (v : V) (u : Value) (h : Dp X.K H v d) (r : RelV v u) : ∃ as, Reads s.heap u d as := Dp.reads' I h u r
end
section
variable {X : Cx}
end
end L2
namespace L2
open PySem PySem.Spec PyProof.Rows
abbrev CellAt (h : Heap) (c : Addr) (v : Option Value) : Prop := h.IsCell c v
def relS (scope sc : Scope) : Scope :=
  { scope with names := scope.names.map fun (n, k) => if (k == .free && sc.kind == .function && sc.names.lookup n == some .cell) then (n, .cell) else (n, k) }
def cloFrom (cells : List (Str × Addr)) : List (Str × NameKind) → List (Str × Addr) → List (Str × Addr)
  | [], acc => acc
  | (n, k) :: r, acc => if k == .free then cloFrom cells r ((n, (cells.lookup n).getD 0) :: acc) else cloFrom cells r acc
theorem closure_loop (env : Env) (f : Str × NameKind → List (Str × Addr) → Sem (ForInStep (List (Str × Addr))))
    (hf : ∀ n k c, f (n, k) c = if k == .free then (do let a ← cellOf env n; pure (.yield ((n, a) :: c))) else pure (.yield c)) :
    ∀ (names : List (Str × NameKind)) (acc : List (Str × Addr)), (∀ y ∈ names, y.2 = .free → ∃ c, env.cells.lookup y.1 = some c) → forIn names acc f = pure (cloFrom env.cells names acc)
  | [], acc, _ => by rw [List.forIn_nil]; rfl
  | (n, k) :: r, acc, h => by
    rw [List.forIn_cons, hf]
    have ih := fun acc => closure_loop env f hf r acc fun y hy => h y (List.mem_cons_of_mem _ hy)
    unfold cloFrom
    by_cases hk : (k == NameKind.free) = true
    · rw [if_pos hk, if_pos hk]
      obtain ⟨c, hc⟩ := h (n, k) List.mem_cons_self (by simpa using hk)
      have e : cellOf env n = pure c := by unfold cellOf; rw [hc]
      rw [e]
      have e2 : (env.cells.lookup n).getD 0 = c := by rw [hc]; rfl
      rw [e2]
      exact ih _
    · rw [if_neg hk, if_neg hk]
      exact ih _
theorem closure_ok {scope : Scope} {env : Env} (h : ∀ y ∈ scope.names, y.2 = .free → ∃ c, env.cells.lookup y.1 = some c) : closureFor scope env = pure (cloFrom env.cells scope.names []) := by
  simp only [closureFor]
  rw [closure_loop env _ (fun n k c => rfl) scope.names [] h]
  rfl
theorem mem_lookup {α : Type} : ∀ {l : List (Str × α)} {n : Str} {c : α}, (n, c) ∈ l → ∃ c', l.lookup n = some c'
  | (k, v) :: r, n, c, h => by
    rw [List.lookup_cons]
    cases hb : n == k with
    | true => exact ⟨_, rfl⟩
    | false =>
      rcases List.mem_cons.mp h with e | h
      · cases e; simp at hb
      · exact mem_lookup h
theorem cloFrom_mem {cells : List (Str × Addr)} : ∀ {names : List (Str × NameKind)} {acc : List (Str × Addr)} {n : Str} {c : Addr}, (n, c) ∈ cloFrom cells names acc → (n, c) ∈ acc ∨ ((n, .free) ∈ names ∧ c = (cells.lookup n).getD 0)
  | [], _, _, _, h => .inl h
  | (m, k) :: r, acc, n, c, h => by
    unfold cloFrom at h
    split at h
    · rename_i hk
      have hk : k = .free := by simpa using hk
      rcases cloFrom_mem h with h | ⟨h1, h2⟩
      · rcases List.mem_cons.mp h with e | h
        · cases e; exact .inr ⟨hk ▸ List.mem_cons_self, rfl⟩
        · exact .inl h
      · exact .inr ⟨List.mem_cons_of_mem _ h1, h2⟩
    · rcases cloFrom_mem h with h | ⟨h1, h2⟩
      · exact .inl h
      · exact .inr ⟨List.mem_cons_of_mem _ h1, h2⟩
theorem cloFrom_acc {cells : List (Str × Addr)} : ∀ {names : List (Str × NameKind)} {acc : List (Str × Addr)} {p : Str × Addr}, p ∈ acc → p ∈ cloFrom cells names acc
  | [], _, _, h => h
  | (m, k) :: r, acc, p, h => by
    unfold cloFrom
    split
    · exact cloFrom_acc (List.mem_cons_of_mem _ h)
    · exact cloFrom_acc h
theorem cloFrom_has {cells : List (Str × Addr)} : ∀ {names : List (Str × NameKind)} {acc : List (Str × Addr)} {n : Str}, (n, .free) ∈ names → (n, (cells.lookup n).getD 0) ∈ cloFrom cells names acc
  | (m, k) :: r, acc, n, h => by
    unfold cloFrom
    rcases List.mem_cons.mp h with e | h
    · cases e
      exact cloFrom_acc List.mem_cons_self
    · split
      · exact cloFrom_has h
      · exact cloFrom_has h
theorem cells_mem : ∀ {names : List (Str × NameKind)} {h : Heap} {acc : List (Str × Addr)} {x : Str} {c : Addr}, (x, c) ∈ cellsFrom h.objs.size names acc →
    (x, c) ∈ acc ∨ ((x, .cell) ∈ names ∧ h.objs.size ≤ c ∧ CellAt (pushCells h names) c none)
  | [], _, _, _, _, h => .inl h
  | (n, k) :: r, h, acc, x, c, hm => by
    unfold cellsFrom at hm
    unfold pushCells
    split at hm
    · rename_i hk
      rw [if_pos hk]
      have hk : k = .cell := by simpa using hk
      rw [← Heap.size_push h { cls := .type "cell", data := .cell none }] at hm
      rcases cells_mem hm with hm | ⟨h1, h2, h3⟩
      · rcases List.mem_cons.mp hm with e | hm
        · cases e
          exact .inr ⟨hk ▸ List.mem_cons_self, Nat.le_refl _, _, pushCells_keeps r _ _ _ (Heap.get?_push_size _ rfl), rfl⟩
        · exact .inl hm
      · rw [Heap.size_push] at h2
        exact .inr ⟨List.mem_cons_of_mem _ h1, Nat.le_of_succ_le h2, h3⟩
    · rename_i hk
      rw [if_neg hk]
      rcases cells_mem hm with hm | ⟨h1, h2, h3⟩
      · exact .inl hm
      · exact .inr ⟨List.mem_cons_of_mem _ h1, h2, h3⟩
theorem cells_acc : ∀ {names : List (Str × NameKind)} {n : Nat} {acc : List (Str × Addr)} {p : Str × Addr}, p ∈ acc → p ∈ cellsFrom n names acc
  | [], _, _, _, h => h
  | (m, k) :: r, n, acc, p, h => by
    unfold cellsFrom
    split
    · exact cells_acc (List.mem_cons_of_mem _ h)
    · exact cells_acc h
theorem cells_has : ∀ {names : List (Str × NameKind)} {n : Nat} {acc : List (Str × Addr)} {x : Str}, (x, .cell) ∈ names → ∃ c, (x, c) ∈ cellsFrom n names acc
  | (m, k) :: r, n, acc, x, h => by
    unfold cellsFrom
    rcases List.mem_cons.mp h with e | h
    · cases e
      exact ⟨n, cells_acc List.mem_cons_self⟩
    · split
      · exact cells_has h
      · exact cells_has h
theorem cells_inj : ∀ {names : List (Str × NameKind)} {h : Heap} {acc : List (Str × Addr)} {x y : Str} {c : Addr}, (∀ p ∈ acc, p.2 < h.objs.size) → (∀ x y c, (x, c) ∈ acc → (y, c) ∈ acc → x = y) →
    (x, c) ∈ cellsFrom h.objs.size names acc → (y, c) ∈ cellsFrom h.objs.size names acc → x = y
  | [], _, _, _, _, _, _, hi, h1, h2 => hi _ _ _ h1 h2
  | (n, k) :: r, h, acc, x, y, c, hl, hi, h1, h2 => by
    unfold cellsFrom at h1 h2
    split at h1
    · rename_i hk
      rw [if_pos hk] at h2
      rw [← Heap.size_push h { cls := .type "cell", data := .cell none }] at h1 h2
      refine cells_inj (h := h.push _) (fun p hp => ?_) (fun x y c a b => ?_) h1 h2
      · rw [Heap.size_push]
        rcases List.mem_cons.mp hp with rfl | hp
        · exact Nat.lt_succ_self _
        · exact Nat.lt_succ_of_lt (hl p hp)
      · rcases List.mem_cons.mp a with e | a <;> rcases List.mem_cons.mp b with e' | b
        · cases e; cases e'; rfl
        · cases e; exact absurd (hl _ b) (Nat.lt_irrefl _)
        · cases e'; exact absurd (hl _ a) (Nat.lt_irrefl _)
        · exact hi _ _ _ a b
    · rename_i hk
      rw [if_neg hk] at h2
      exact cells_inj hl hi h1 h2
theorem newEnv_comp {M : Model} {A : Around} {E : Value → Shared → Prop} {s : Shared} {scope : Scope} {globals : Addr} {closure : List (Str × Addr)} {qual : Str} {func : Option Addr} {code : Value} {around : Env} {builtins : Addr} {Q : Env → Shared → Prop}
    (h : Q (newEnv scope s.heap.objs.size globals (cellsFrom (s.heap.objs.size + 1) scope.names closure) qual func code (some around) builtins)
      { s with heap := pushCells (s.heap.push { cls := .type "dict", data := .dict #[] }) scope.names }) :
    wpAny M A (newFunctionEnv scope globals closure [] qual func code (some around) builtins) Q E s := by
  simp only [newFunctionEnv, Option.isSome_some, if_true]
  refine wpAny_bind (wpAny_alloc ?_)
  refine wpAny_bind (wpAny_layCells _ (fun n k c => rfl) scope.names closure _ _ ?_)
  rw [show ({ s with heap := s.heap.push { cls := .type "dict", data := .dict #[] } } : Shared).heap.objs.size = s.heap.objs.size + 1 from Heap.size_push ..]
  rw [List.forIn_nil]
  exact wpAny_bind (wpAny_pure (wpAny_pure h))
theorem lookup_relS {sc : Scope} : ∀ {names : List (Str × NameKind)} {x : Str} {k : NameKind},
    (names.map fun (n, k) => if (k == NameKind.free && sc.kind == .function && sc.names.lookup n == some .cell) then (n, NameKind.cell) else (n, k)).lookup x = some k →
    ∃ k', names.lookup x = some k' ∧ (k = k' ∨ (k' = .free ∧ k = .cell))
  | [], _, _, h => by simp at h
  | (n, k₀) :: r, x, k, h => by
    have ih := @lookup_relS sc r x k
    have h' : List.lookup x ((if (k₀ == NameKind.free && sc.kind == .function && sc.names.lookup n == some .cell) = true then (n, NameKind.cell) else (n, k₀)) :: (r.map _)) = some k := h
    cases hx : x == n with
    | true =>
      simp only [List.lookup_cons, hx]
      by_cases hc : (k₀ == NameKind.free && sc.kind == .function && sc.names.lookup n == some .cell) = true
      · rw [if_pos hc] at h'
        simp only [List.lookup_cons, hx] at h'
        cases h'
        simp only [Bool.and_eq_true, beq_iff_eq] at hc
        exact ⟨k₀, rfl, .inr ⟨hc.1.1, rfl⟩⟩
      · rw [if_neg hc] at h'
        simp only [List.lookup_cons, hx] at h'
        cases h'
        exact ⟨_, rfl, .inl rfl⟩
    | false =>
      simp only [List.lookup_cons, hx]
      by_cases hc : (k₀ == NameKind.free && sc.kind == .function && sc.names.lookup n == some .cell) = true
      · rw [if_pos hc] at h'
        simp only [List.lookup_cons, hx] at h'
        exact ih h'
      · rw [if_neg hc] at h'
        simp only [List.lookup_cons, hx] at h'
        exact ih h'
structure BlkOk (N : List Str) (sc scope : Scope) (own : List (Str × Nat)) : Prop where
  kind : scope.kind = .function
  uniq : ∀ y ∈ scope.names, scope.names.lookup y.1 = some y.2
  ix : ∀ p ∈ own, N[p.2]? = some p.1
  free : ∀ y ∈ scope.names, y.2 = .free → sc.names.lookup y.1 = some .cell ∨ sc.names.lookup y.1 = some .free
  own : ∀ y ∈ scope.names, y.2 = .local ∨ y.2 = .cell → y.1 ∈ own.map (·.1) ∨ y.1 ∉ N
def wipe (σ : St) : List Nat → St
  | [] => σ
  | v :: vs => (wipe σ vs).set v none
theorem wipe_length (σ : St) : ∀ vs : List Nat, (wipe σ vs).length = σ.length
  | [] => rfl
  | v :: vs => by unfold wipe; rw [List.length_set, wipe_length σ vs]
theorem wipe_some {σ : St} {i : Nat} {x : V} : ∀ {vs : List Nat}, (wipe σ vs)[i]? = some (some x) → σ[i]? = some (some x) ∧ i ∉ vs
  | [], h => ⟨h, by simp⟩
  | v :: vs, h => by
    unfold wipe at h
    by_cases hi : v = i
    · subst hi
      by_cases hv : v < (wipe σ vs).length
      · rw [List.getElem?_set_self hv] at h; cases h
      · rw [List.getElem?_eq_none (by simpa using hv)] at h; cases h
    · rw [List.getElem?_set_ne hi] at h
      obtain ⟨h1, h2⟩ := wipe_some h
      exact ⟨h1, by simp only [List.mem_cons, not_or]; exact ⟨fun e => hi e.symm, h2⟩⟩
abbrev Cx.blk (X : Cx) (s : Shared) (H : Hp) (scope : Scope) (cenv : Env) (fp : List Addr) : Cx := { X with s_0 := s, H_0 := H, env := cenv, outer := X.stack, ex := fp, fn := fun x => scope.names.lookup x == some .cell, pn := [], xe := fun _ _ => False }
section
variable {X : Cx} {pins : List (Addr × Obj)} {σ : St} {H : Hp} {s : Shared}
theorem block_start {scope : Scope} {own : List (Str × Nat)} {fp : List Addr} (I : Inv X pins σ H s) (ok : BlkOk X.N X.env.scope scope own) (hN : X.N.Nodup) (hfp : ∀ b ∈ fp, FpOk X pins H b ∧ b < s.heap.objs.size) :
    Inv (X.blk s H scope (compEnvC scope (cellsFrom (s.heap.objs.size + 1) scope.names (cloFrom X.env.cells scope.names [])) s.heap.objs.size X.env) fp) [] (wipe σ (own.map (·.2))) H { s with heap := pushCells (s.heap.push { cls := .type "dict", data := .dict #[] }) scope.names } := by
  have hfree : ∀ y ∈ scope.names, y.2 = .free → ∃ c, X.env.cells.lookup y.1 = some c := fun y hy e => by
    rcases ok.free y hy e with k | k
    · exact I.ok.has _ (.inl k)
    · exact I.ok.has _ (.inr k)
  generalize hcenv : compEnvC scope (cellsFrom (s.heap.objs.size + 1) scope.names (cloFrom X.env.cells scope.names [])) s.heap.objs.size X.env = cenv
  have kp : ∀ b o, s.heap.get? b = some o → (pushCells (s.heap.push { cls := .type "dict", data := .dict #[] }) scope.names).get? b = some o := fun b o e => pushCells_keeps _ _ _ _ (Heap.get?_push_of_some _ e)
  have hL : cenv.locals = s.heap.objs.size := by rw [← hcenv]; rfl
  have hcl : cenv.cells = cellsFrom (s.heap.objs.size + 1) scope.names (cloFrom X.env.cells scope.names []) := by rw [← hcenv]; rfl
  have hsc : cenv.scope = relS scope X.env.scope := by rw [← hcenv]; rfl
  rw [← Heap.size_push s.heap { cls := .type "dict", data := .dict #[] }] at hcl
  have cm : ∀ {y c}, (y, c) ∈ cloFrom X.env.cells scope.names [] → X.env.cells.lookup y = some c ∧ c < s.heap.objs.size := fun {y c} hm => by
    rcases cloFrom_mem hm with hm | ⟨h1, rfl⟩
    · cases hm
    · obtain ⟨c, hc⟩ := hfree _ h1 rfl
      rw [hc]
      obtain ⟨w, z⟩ := I.cell _ _ hc
      exact ⟨rfl, z.lt⟩
  have mem : ∀ {y c}, cenv.cells.lookup y = some c → (X.env.cells.lookup y = some c ∧ c < s.heap.objs.size) ∨ (s.heap.objs.size + 1 ≤ c ∧ CellAt (pushCells (s.heap.push { cls := .type "dict", data := .dict #[] }) scope.names) c none) := fun {y c} e => by
    rw [hcl] at e
    rcases cells_mem (PySem.mem_of_lookup e) with hm | ⟨_, h2, h3⟩
    · exact .inl (cm hm)
    · rw [Heap.size_push] at h2; exact .inr ⟨h2, h3⟩
  have look : ∀ {y}, scope.names.lookup y = some .free → ∃ c, cenv.cells.lookup y = some c ∧ X.env.cells.lookup y = some c := fun {y} hl => by
    have hy : (y, NameKind.free) ∈ scope.names := PySem.mem_of_lookup hl
    obtain ⟨c', e'⟩ := mem_lookup (cells_acc (names := scope.names) (n := (s.heap.push { cls := .type "dict", data := .dict #[] }).objs.size) (cloFrom_has (cells := X.env.cells) (acc := []) hy))
    rw [← hcl] at e'
    refine ⟨c', e', ?_⟩
    rw [hcl] at e'
    rcases cells_mem (PySem.mem_of_lookup e') with hm | ⟨h1, _, _⟩
    · exact (cm hm).1
    · have := ok.uniq _ h1
      rw [hl] at this; cases this
  have okB : (X.blk s H scope cenv fp).Ok := by
    refine ⟨I.ok.mod, by show cenv.scope.kind = _; rw [hsc]; exact ok.kind, by show cenv.globals = _; rw [← hcenv]; exact I.ok.glob, by show cenv.builtins = _; rw [← hcenv]; exact I.ok.blt, by show s.heap.objs.size ≤ cenv.locals; rw [hL]; exact Nat.le_refl _,
      fun y z c e1 e2 => ?_, fun y hy => ?_, fun y c z e => ?_, I.ok.hd, (fun z => I.hush z), I.tabs, I.ok.frames, .inl rfl, fun b hb => ⟨?_, fun y c e z => ?_⟩, I.bs, Nat.le_trans I.ok.bsz I.sz, fun b o e hb => ?_, fun b hb z => ?_, I.stack, I.stkFree⟩
    · have e1 : cenv.cells.lookup y = some c := e1
      have e2 : cenv.cells.lookup z = some c := e2
      rw [hcl] at e1 e2
      refine cells_inj (fun p hp => ?_) (fun y z c a b => I.ok.inj y z c (cm a).1 (cm b).1) (PySem.mem_of_lookup e1) (PySem.mem_of_lookup e2)
      rw [Heap.size_push]
      exact Nat.lt_succ_of_lt (cm (y := p.1) (c := p.2) hp).2
    · show ∃ c, cenv.cells.lookup y = some c
      have key : ∀ k, cenv.kindOf y = some k → (k = .cell ∨ k = .free) → ∃ c, cenv.cells.lookup y = some c := fun k hk hk' => by
        unfold Env.kindOf at hk
        rw [hsc] at hk
        obtain ⟨k', e, r⟩ := lookup_relS hk
        have : k' = .cell ∨ k' = .free := by
          rcases r with rfl | ⟨rfl, _⟩
          · exact hk'
          · exact .inr rfl
        rcases this with rfl | rfl
        · obtain ⟨c, hm⟩ := cells_has (n := (s.heap.push { cls := .type "dict", data := .dict #[] }).objs.size) (acc := cloFrom X.env.cells scope.names []) (PySem.mem_of_lookup e)
          obtain ⟨c', e'⟩ := mem_lookup hm
          exact ⟨c', by rw [hcl]; exact e'⟩
        · obtain ⟨c, h1, _⟩ := look e
          exact ⟨c, h1⟩
      rcases hy with hy | hy
      · exact key _ hy (.inl rfl)
      · exact key _ hy (.inr rfl)
    · have z : (scope.names.lookup y == some NameKind.cell) = true := z
      have z : scope.names.lookup y = some .cell := by simpa using z
      have e : cenv.cells.lookup y = some c := e
      rw [hcl] at e
      rcases cells_mem (PySem.mem_of_lookup e) with hm | ⟨_, h2, _⟩
      · rcases cloFrom_mem hm with hm | ⟨h1, _⟩
        · cases hm
        · have q := ok.uniq _ h1
          rw [z] at q; cases q
      · rw [Heap.size_push] at h2
        exact Nat.le_of_succ_le h2
    · show b ≠ cenv.locals
      rw [hL]; exact Nat.ne_of_lt (hfp b hb).2
    · have e : cenv.cells.lookup y = some c := e
      rcases mem e with ⟨h1, _⟩ | ⟨h1, _⟩
      · exact (hfp b hb).1.2.2.2.2.1 y c h1 z
      · have h2 : s.heap.objs.size + 1 ≤ b := by rw [← z]; exact h1
        exact absurd (Nat.lt_of_lt_of_le (hfp b hb).2 (Nat.le_of_succ_le h2)) (Nat.lt_irrefl _)
    · rcases (hfp b hb).1.2.2.2.1 with z | z
      · exact I.ok.noex b o e z
      · exact absurd (Nat.lt_of_lt_of_le (Heap.lt_size e) (Nat.le_trans I.ok.bsz z)) (Nat.lt_irrefl _)
    · rcases List.mem_cons.mp (I.stkSub b z) with z | z
      · exact (hfp b hb).1.2.1 z
      · exact (hfp b hb).1.2.2.1 z
  refine ⟨okB, rfl, I.bare, Un.kept kp, ⟨fun _ => none, ?_, fun i y av e1 e2 e3 => ?_⟩, fun y c e => ?_, ?_, fun y c e => ?_, fun p hp => ?_, I.hok.kept kp, by rw [wipe_length]; exact I.len⟩
  · show Heap.Ns _ cenv.locals _
    rw [hL]
    exact Heap.Ns.keeps (Heap.Ns.new ..) fun b o e => pushCells_keeps _ _ _ _ e
  · obtain ⟨e2, hne⟩ := wipe_some e2
    have hfr : scope.names.lookup y = some .free ∧ (cenv.kindOf y = some .cell ∨ cenv.kindOf y = some .free) := by
      have key : ∀ k, cenv.scope.names.lookup y = some k → k = .local ∨ k = .cell ∨ k = .free → scope.names.lookup y = some .free ∧ (cenv.kindOf y = some .cell ∨ cenv.kindOf y = some .free) := fun k hk hk' => by
        have hk0 := hk
        rw [hsc] at hk
        obtain ⟨k', e, r⟩ := lookup_relS hk
        have no : ¬ (k' = .local ∨ k' = .cell) := fun hh => by
          rcases ok.own _ (PySem.mem_of_lookup e) hh with e' | e'
          · obtain ⟨p, hp, hpy⟩ := List.mem_map.mp e'
            have e3 := ok.ix p hp
            have : p.1 = y := hpy
            rw [this] at e3
            exact hne (List.mem_map.mpr ⟨p, hp, nodup_ix hN e3 e1⟩)
          · exact e' (List.mem_of_getElem? e1)
        rcases r with rfl | ⟨rfl, rfl⟩
        · rcases hk' with rfl | rfl | rfl
          · exact absurd (.inl rfl) no
          · exact absurd (.inr rfl) no
          · exact ⟨e, .inr hk0⟩
        · exact ⟨e, .inl hk0⟩
      have e3 : Vis cenv.scope y := e3
      rcases e3 with e3 | e3 | e3
      · exact key _ e3 (.inl rfl)
      · exact key _ e3 (.inr (.inl rfl))
      · exact key _ e3 (.inr (.inr rfl))
    obtain ⟨m, hn, hl⟩ := I.loc
    have hvis : Vis X.env.scope y := (ok.free _ (PySem.mem_of_lookup hfr.1) rfl).elim (fun k => .inr (.inl k)) (fun k => .inr (.inr k))
    obtain ⟨w, r, q⟩ := hl i y av e1 e2 hvis
    refine ⟨w, r, .inr ⟨hfr.2, ?_⟩⟩
    obtain ⟨c, h1, h2⟩ := look hfr.1
    rcases q with ⟨k, _⟩ | ⟨_, c', e', z⟩
    · have k : X.env.scope.names.lookup y = some .local := k
      rcases ok.free _ (PySem.mem_of_lookup hfr.1) rfl with k' | k' <;> rw [show X.env.scope.names.lookup y = _ from k'] at k <;> cases k
    · rw [h2] at e'; cases e'
      exact ⟨c, h1, z.keeps kp⟩
  · have e : cenv.cells.lookup y = some c := e
    rcases mem e with ⟨h1, _⟩ | ⟨_, z⟩
    · obtain ⟨w, z⟩ := I.cell y c h1
      exact ⟨w, z.keeps kp⟩
    · exact ⟨_, z⟩
  · show H cenv.locals = none
    rw [hL]; exact I.hok.fresh (Nat.le_refl _)
  · have e : cenv.cells.lookup y = some c := e
    rcases mem e with ⟨h1, _⟩ | ⟨h1, _⟩
    · exact I.freeC y c h1
    · exact I.hok.fresh (Nat.le_of_succ_le h1)
  · exact absurd (show p ∈ ([] : List (Addr × Obj)) ++ [] from hp) (by simp)
theorem app_ok {E : Value → Shared → Prop} {D : Addr} {xs : List V} {y : V} {v : Value} {Q : Value → Shared → Prop} (I : Inv X pins σ H s) (hD : H D = some (.lst xs)) (hz : xs.length < sizeLine) (r : RelV y v)
    (h : ∀ s', Inv X pins σ (upd H D (.lst (xs ++ [y]))) s' → Q .none s') : wpAny (model X.prog X.w) X.A (call (.builtin "list.append") [.ref D, v]) Q E s := by
  obtain ⟨hz', its, n, ri, e⟩ := I.hok D _ hD
  have hl := ri.length
  refine append_at (hsz := by rw [List.size_toArray]; omega) e fun h' sb ho' => ?_
  refine h { s with heap := h' } (I.write (t' := s.toks) (by rw [hD]; trivial) (.inl rfl) (fun b u hb q => (sb.2 b hb).trans q) ⟨_, ho'⟩ ⟨by rw [List.length_append]; exact hz, its ++ [v], n + 1, ri.append (.cons r .nil), ?_⟩)
  rw [ho']
  simp
def PTs (X : Cx) (ifs : List Expr) (t : TT) : Prop :=
  ∀ (pins : List (Addr × Obj)) (s : Shared) (σ : St) (H : Hp) (Q : Bool → Hp → Prop), Inv X pins σ H s → t σ H Q →
    wpAny (model X.prog X.w) X.A (forIn ifs true fun c r => if r = true then do let ok ← isTrue c X.env (eval c X.env); pure (ForInStep.yield ok) else pure (ForInStep.yield r)) (TP X pins σ Q) X.xe s
def tYes : TT := fun _ H Q => Q true H
theorem pts_nil : PTs X [] tYes := fun _ _ _ H _ I h => wpAny_tests_nil ⟨H, I, h⟩
theorem pts_one {c : Expr} {t : TT} (h : PT X c t) : PTs X [c] t := fun pins s σ H Q I hw => wpAny_tests_one (h pins s σ H Q I hw)
end
theorem thnF {α : Type} {t : Sem α} {Q Q' : α → Shared → Prop} {M : Model} {A : Around} {E : Value → Shared → Prop} {s : Shared} (h : wpAny M A t Q (fun _ _ => False) s) (hQ : ∀ a s, Q a s → Q' a s) : wpAny M A t Q' E s := wpAny_mono h hQ fun _ _ z => False.elim z
theorem compLoop_any {prog : Program} {w : World} {A : Around} {R : Result → Shared → Prop} {s : Shared} {elt target iter : Expr} {ifs : List Expr} {scope : Scope} {pos : Pos} {it acc : Value} {env : Env} (I : Nat → Shared → Prop)
    (turn : ∀ n s, I n s → wpAny (model prog w) A (pyNext it) (fun r s₁ => match r with
      | none => R (.ok .next) s₁
      | some v => wpAny (model prog w) A (letOwnedTupleGo target it v) (fun _ s₁' => wpAny (model prog w) A (assign target env v) (fun _ s₂ =>
          wpAny (model prog w) A (forIn ifs true fun c r => if r = true then do let ok ← isTrue c env (eval c env); pure (ForInStep.yield ok) else pure (ForInStep.yield r)) (fun ok s₃ =>
            if ok = true then wpAny (model prog w) A (eval elt env) (fun x s₄ =>
              wpAny (model prog w) A (call (.builtin "list.append") [acc, x]) (fun _ s₅ => ∃ m, m < n ∧ I m s₅) (notedBy (model prog w) A env fun e s' => R (.error e) s') s₄) (notedBy (model prog w) A env fun e s' => R (.error e) s') s₃
            else ∃ m, m < n ∧ I m s₃) (notedBy (model prog w) A env fun e s' => R (.error e) s') s₂) (notedBy (model prog w) A env fun e s' => R (.error e) s') s₁') (notedBy (model prog w) A env fun e s' => R (.error e) s') s₁) (notedBy (model prog w) A env fun e s' => R (.error e) s') s)
    (n : Nat) (h : I n s) :
    codeAny (model prog w) A (.compLoop (.ListComp elt [⟨target, iter, ifs, 0⟩] scope pos) 0 it acc env) R s := by
  refine codeAny_loop rfl I (fun n s hI => ?_) n h
  show wpAny _ A ((compTurn (.ListComp elt [⟨target, iter, ifs, 0⟩] scope pos) 0 it acc env).onRaise (fun x => do noteFrame x env; theTreesLotGoes x)) _ _ s
  refine wpAny_noted ?_
  rw [compTurn_list]
  refine wpAny_bind (wpAny_standAt (wpAny_bind (wpAny_mono (turn n s hI) (fun r s₁ h₁ => ?_) fun _ _ h' => h')))
  cases r with
  | none => exact wpAny_pure h₁
  | some v =>
    refine wpAny_bind (wpAny_mono h₁ (fun _ s₁' h₁' => ?_) fun _ _ h' => h')
    refine wpAny_bind (wpAny_mono h₁' (fun _ s₂ h₂ => wpAny_bind (wpAny_mono h₂ (fun ok s₃ h₃ => ?_) fun _ _ h' => h')) fun _ _ h' => h')
    cases ok with
    | false => exact wpAny_pure ⟨rfl, h₃⟩
    | true =>
      exact wpAny_bind (wpAny_bind (wpAny_mono h₃ (fun x s₄ h₄ => wpAny_bind (wpAny_mono h₄ (fun _ s₅ h₅ => wpAny_pure (wpAny_pure ⟨rfl, h₅⟩)) fun _ _ h' => h')) fun _ _ h' => h'))
section
variable {X : Cx}
def tLc (wi : TI) (g : TG) (tt : TT) (te : TE) (vs : List Nat) : TE := fun σ H Q => wi σ H fun J H1 => ∀ D, H1 D = none → ∃ W : Nat → Nat → Hp → Prop, (∃ m, W 0 m (upd H1 D (.lst []))) ∧ ∀ i m H, W i m H →
  (J.stop i H ∧ Q (.ref D) H) ∨ (J.go i H ∧ ∃ Nx : Hp → Prop, (∀ H', Nx H' → ∃ m', m' < m ∧ W (i + 1) m' H') ∧ ∀ x H', J.yld i H x H' → g x (wipe σ vs) H' fun σ2 H2 => wipe σ2 vs = wipe σ vs ∧ tt σ2 H2 fun b H3 =>
    if b = true then te σ2 H3 fun y H4 => ∃ acc, H4 D = some (.lst acc) ∧ acc.length < sizeLine ∧ Nx (upd H4 D (.lst (acc ++ [y]))) else Nx H3)
theorem lc_coreC {C0 : Cx → Prop} {pins : List (Addr × Obj)} {s : Shared} {σ : St} {H : Hp} {Q : VK} {elt tg iter : Expr} {ifs : List Expr} {scope : Scope} {own : List (Str × Nat)} {pos pos' : Pos} {wi : TI} {g : TG} {tt : TT} {te : TE} {use : Option (Value → Sem Unit)} {Qf : Value → Shared → Prop}
    (hc : ∀ s H ce fp, C0 (X.blk s H scope ce fp)) (hN : X.N.Nodup) (I : Inv X pins σ H s) (hi : PIC C0 X tg iter wi) (ok : BlkOk X.N X.env.scope scope own)
    (hg : ∀ (s : Shared) (H : Hp) (C : Addr) (cl : List (Str × Addr)) (fp : List Addr), PG (X.blk s H scope (compEnvC scope cl C X.env) fp) tg g) (ht : ∀ (s : Shared) (H : Hp) (C : Addr) (cl : List (Str × Addr)) (fp : List Addr), PTs (X.blk s H scope (compEnvC scope cl C X.env) fp) ifs tt)
    (he : ∀ (s : Shared) (H : Hp) (C : Addr) (cl : List (Str × Addr)) (fp : List Addr), PE (X.blk s H scope (compEnvC scope cl C X.env) fp) elt te) (hs : ∀ x, foldedSetIterable iter X.env x = pure x)
    (h : tLc wi g tt te (own.map (·.2)) σ H Q)
    (hRR : ∀ D C s' m H', Inv X pins σ H' s' → Q (.ref D) H' → s'.heap.Ns C m → FpOk X pins H' C → compPost (model X.prog X.w) X.A X.xe use Qf (.ref D) C (.ok .next) s') :
    wpAny (model X.prog X.w) X.A (comprehension (.ListComp elt [⟨tg, iter, ifs, 0⟩] scope pos) scope X.env pos' (newList []) false (eval iter X.env) use) Qf X.xe s := by
  have hfree : ∀ y ∈ scope.names, y.2 = .free → ∃ c, X.env.cells.lookup y.1 = some c := fun y hy e => by
    rcases ok.free y hy e with k | k
    · exact I.ok.has _ (.inl k)
    · exact I.ok.has _ (.inr k)
  refine wpAny_comprehension_free (use := use) rfl hs (closure_ok hfree) ok.kind (fun y hy e => by rw [ok.uniq y hy, e])
    (thn (hi pins s σ H _ I h) fun xv s1 hx => thn hx fun itv s2 h2 => ?_)
  obtain ⟨it, fp, tn, J, H2, e, I2, T, st2, f2, q⟩ := h2
  subst e
  refine wpAny_newObj_type (newEnv_comp ?_) (by show 0 ≤ sizeLine; decide)
  generalize hD : s2.heap.objs.size = D
  have hDn : H2 D = none := I2.hok.fresh (Nat.le_of_eq hD)
  obtain ⟨W, ⟨m0, w0⟩, turn⟩ := q D hDn
  -- the new list
  generalize hs3 : ({ s2 with heap := s2.heap.push { cls := .type "list", data := .seq ([] : List Value).toArray } } : Shared) = s3
  have I3 : Inv X pins σ (upd H2 D (.lst [])) s3 := by
    rw [← hs3]
    refine I2.laid (t' := s2.toks) (fun b o e => Heap.get?_push_of_some _ e) (Nat.le_of_eq hD) ⟨Nat.zero_le _, [], 0, .nil, ?_⟩
    rw [← hD]
    exact Heap.get?_push_size _ rfl
  have h3 : s3.heap = s2.heap.push { cls := .type "list", data := .seq ([] : List Value).toArray } := by rw [← hs3]
  have sz : ∀ b ∈ fp, b < s2.heap.objs.size := fun b hb => by
    obtain ⟨o, e, _⟩ := T.obj _ _ st2 b hb
    exact Heap.lt_size e
  have f3 : ∀ b ∈ fp, FpOk X pins (upd H2 D (.lst [])) b ∧ b < s3.heap.objs.size := fun b hb => by
    have hlt := sz b hb
    refine ⟨⟨?_, (f2 b hb).2⟩, by rw [h3, Heap.size_push]; exact Nat.lt_succ_of_lt hlt⟩
    rw [upd_ne (by rw [← hD]; exact Nat.ne_of_lt hlt)]
    exact (f2 b hb).1
  have st3 : tn 0 s3.heap := T.keep _ _ _ st2 fun b _ o e => by rw [h3]; exact Heap.get?_push_of_some _ e
  have I4 := block_start I3 ok hN f3
  have pg := hg s3 (upd H2 D (.lst [])) s3.heap.objs.size (cellsFrom (s3.heap.objs.size + 1) scope.names (cloFrom X.env.cells scope.names [])) fp
  have pt := ht s3 (upd H2 D (.lst [])) s3.heap.objs.size (cellsFrom (s3.heap.objs.size + 1) scope.names (cloFrom X.env.cells scope.names [])) fp
  have pe := he s3 (upd H2 D (.lst [])) s3.heap.objs.size (cellsFrom (s3.heap.objs.size + 1) scope.names (cloFrom X.env.cells scope.names [])) fp
  show codeAny _ _ (.compStart (.ListComp elt [⟨tg, iter, ifs, 0⟩] scope pos) 0 (.ref it) (.ref D) (compEnvC scope (cellsFrom (s3.heap.objs.size + 1) scope.names (cloFrom X.env.cells scope.names [])) s3.heap.objs.size X.env)) (compPost (model X.prog X.w) X.A X.xe use Qf (.ref D) s3.heap.objs.size) { s3 with heap := pushCells (s3.heap.push { cls := .type "dict", data := .dict #[] }) scope.names }
  have nfp : ∀ b ∈ fp, (upd H2 D (.lst [])) b = none := fun b hb => (f3 b hb).1.1
  generalize hce : compEnvC scope (cellsFrom (s3.heap.objs.size + 1) scope.names (cloFrom X.env.cells scope.names [])) s3.heap.objs.size X.env = ce at I4 pg pt pe ⊢
  have cL : ce.locals = s3.heap.objs.size := by subst hce; rfl
  generalize hH3 : upd H2 D (.lst []) = H3 at I3 I4 pg pt pe w0 nfp f3
  generalize hs4 : ({ s3 with heap := pushCells (s3.heap.push { cls := .type "dict", data := .dict #[] }) scope.names } : Shared) = s4 at I4 ⊢
  have st4 : tn 0 s4.heap := T.keep _ _ _ st3 fun b _ o e => by rw [← hs4]; exact pushCells_keeps _ _ _ _ (Heap.get?_push_of_some _ e)
  have stat : ∀ {σ' : St} {H' : Hp} {s' : Shared}, Inv (X.blk s3 H3 scope ce fp) [] σ' H' s' → (∀ b ∈ fp, H' b = none) → ∀ b ∈ fp, FpOk (X.blk s3 H3 scope ce fp) [] H' b := fun {σ' H' s'} I' hn b hb =>
    ⟨hn b hb, (I'.ok.exf b hb).1, I'.ok.exfs b hb, .inl hb, fun x c e => (I'.ok.exf b hb).2 x c e, fun p hp => absurd (show p ∈ ([] : List (Addr × Obj)) ++ [] from hp) (by simp)⟩
  have loop : codeAny (model X.prog X.w) X.A (.compLoop (.ListComp elt [⟨tg, iter, ifs, 0⟩] scope pos) 0 (.ref it) (.ref D) ce) (compPost (model X.prog X.w) X.A X.xe use Qf (.ref D) s3.heap.objs.size) s4 := by
    refine compLoop_any (fun n s' => ∃ i H', Inv (X.blk s3 H3 scope ce fp) [] (wipe σ (own.map (·.2))) H' s' ∧ tn i s'.heap ∧ (∀ b ∈ fp, H' b = none) ∧ W i n H') ?_ m0 ⟨0, H3, I4, st4, nfp, w0⟩
    rintro n s5 ⟨i, H5, I5, st5, n5, w5⟩
    rcases turn i n H5 w5 with ⟨stop, qq⟩ | ⟨go, Nx, hNx, step⟩
    · have td := T.done (X.blk s3 H3 scope ce fp) rfl rfl rfl (hc _ _ _ _) i [] s5 _ H5 (fun _ _ => False) I5 (stat I5 n5) st5 stop
      refine thnF td fun r s6 ⟨hr, I6⟩ => ?_
      subst hr
      -- back in the def's context
      have I7 : Inv X pins σ H5 s6 := I3.call' (ch := fp) I6.os I6.base I6.hok I6.bare fun b hb => ⟨(f3 b hb).1.2.2.2.1, (f3 b hb).1.2.1, (f3 b hb).1.2.2.2.2.1, (f3 b hb).1.2.2.2.2.2⟩
      have nC : H5 s3.heap.objs.size = none := by
        have z : H5 ce.locals = none := I6.free
        rw [cL] at z
        exact z
      obtain ⟨m, hn, _⟩ := I6.loc
      have hn : s6.heap.Ns ce.locals m := hn
      rw [cL] at hn
      exact hRR D s3.heap.objs.size s6 m H5 I7 qq hn (I3.fpOk (Nat.le_refl _) nC)
    · have ti := T.item (X.blk s3 H3 scope ce fp) rfl rfl rfl (hc _ _ _ _) i [] s5 _ H5 (fun _ _ => False) I5 (stat I5 n5) st5 go
      refine thnF ti fun r s6 ⟨u, hr, h6⟩ => ?_
      subst hr
      refine thnF h6 fun _ s7 ⟨x, H7, I7, r7, y7, st7, n7⟩ => ?_
      have I7' := I7.pinned (stat I7 n7) (T.obj _ _ st7)
      refine thnF (pg _ s7 _ H7 x u _ I7' r7 (step x H7 y7)) fun _ s8 ⟨σ8, H8, I8, hw8, q8⟩ => ?_
      refine thnF (pt _ s8 σ8 H8 _ I8 q8) fun b s9 ⟨H9, I9, q9⟩ => ?_
      -- the turn's end
      have fin : ∀ {s' : Shared} {H' : Hp}, Inv (X.blk s3 H3 scope ce fp) ([] ++ pinsAt fp s7.heap) σ8 H' s' → Nx H' → ∃ m, m < n ∧ ∃ i H', Inv (X.blk s3 H3 scope ce fp) [] (wipe σ (own.map (·.2))) H' s' ∧ tn i s'.heap ∧ (∀ b ∈ fp, H' b = none) ∧ W i m H' := fun {s' H'} I' nx => by
        obtain ⟨m', hm, w'⟩ := hNx H' nx
        have pin' : ∀ b ∈ fp, ∀ o, s7.heap.get? b = some o → s'.heap.get? b = some o ∧ H' b = none := fun b hb o e =>
          let z := I'.pin (b, o) (List.mem_append_right _ (List.mem_append_right _ (mem_pinsAt hb e)))
          ⟨z.1, z.2.1⟩
        have hl : (wipe σ (own.map (·.2))).length = σ8.length := by rw [← hw8, wipe_length]
        refine ⟨m', hm, i + 1, H', (I'.unpinned (pins := [])).weak hl (fun j v e => ?_), T.keep _ _ _ st7 fun b hb o e => (pin' b hb o e).1, fun b hb => ?_, w'⟩
        · rw [← hw8] at e
          exact (wipe_some e).1
        · obtain ⟨o, e, _⟩ := T.obj _ _ st7 b hb
          exact (pin' b hb o e).2
      cases b with
      | false =>
        simp only [Bool.false_eq_true, if_false] at q9 ⊢
        exact fin I9 q9
      | true =>
        simp only [if_true] at q9 ⊢
        refine thnF (pe _ s9 σ8 H9 _ I9 q9) fun z s10 ⟨yv, H10, I10, r10, acc, hD10, hz10, nx⟩ => ?_
        exact app_ok (X := X.blk s3 H3 scope ce fp) I10 hD10 hz10 r10 fun s11 I11 => fin I11 nx
  exact codeAny_compStart_list loop (T.self X.A 0 _ _ _ st4 loop)
theorem pe_lc {elt tg iter : Expr} {ifs : List Expr} {scope : Scope} {own : List (Str × Nat)} {pos : Pos} {wi : TI} {g : TG} {tt : TT} {te : TE} (hc : X.calm = true) (hN : X.N.Nodup) (hi : PI X tg iter wi) (ok : BlkOk X.N X.env.scope scope own)
    (hg : ∀ (s : Shared) (H : Hp) (C : Addr) (cl : List (Str × Addr)) (fp : List Addr), PG (X.blk s H scope (compEnvC scope cl C X.env) fp) tg g) (ht : ∀ (s : Shared) (H : Hp) (C : Addr) (cl : List (Str × Addr)) (fp : List Addr), PTs (X.blk s H scope (compEnvC scope cl C X.env) fp) ifs tt)
    (he : ∀ (s : Shared) (H : Hp) (C : Addr) (cl : List (Str × Addr)) (fp : List Addr), PE (X.blk s H scope (compEnvC scope cl C X.env) fp) elt te) (hs : ∀ x, foldedSetIterable iter X.env x = pure x := by intro _; rfl) :
    PE X (.ListComp elt [⟨tg, iter, ifs, 0⟩] scope pos) (tLc wi g tt te (own.map (·.2))) := by
  intro pins s σ H Q I h
  rw [eval_ListComp]
  refine lc_coreC (fun _ _ _ _ => hc) hN I hi ok hg ht he hs h fun D C s' m H' I' q hn f => ⟨m, hn, fun h'' sb => ?_⟩
  obtain ⟨f0, f1, f2, f3, f4, f5⟩ := f
  exact ⟨.ref D, H', I'.turned (t' := s'.toks) (fun b o hb e => (sb.2 b hb).trans e) f0 f1 f3 f4 f5, rfl, q⟩
theorem ps_setLc {i : Nat} {y : Str} {py : Pos} {elt tg iter : Expr} {ifs : List Expr} {scope : Scope} {own : List (Str × Nat)} {pos spos : Pos} {wi : TI} {g : TG} {tt : TT} {te : TE} (hc : X.calm = true) (hN : X.N.Nodup) (hy : X.N[i]? = some y) (hyl : X.env.scope.names.lookup y = some .local)
    (hsw : swapsWith (.ListComp elt [⟨tg, iter, ifs, 0⟩] scope pos) (some (.Name y py)) spos.line X.env = pure true) (hi : PI X tg iter wi) (ok : BlkOk X.N X.env.scope scope own)
    (hg : ∀ (s : Shared) (H : Hp) (C : Addr) (cl : List (Str × Addr)) (fp : List Addr), PG (X.blk s H scope (compEnvC scope cl C X.env) fp) tg g) (ht : ∀ (s : Shared) (H : Hp) (C : Addr) (cl : List (Str × Addr)) (fp : List Addr), PTs (X.blk s H scope (compEnvC scope cl C X.env) fp) ifs tt)
    (he : ∀ (s : Shared) (H : Hp) (C : Addr) (cl : List (Str × Addr)) (fp : List Addr), PE (X.blk s H scope (compEnvC scope cl C X.env) fp) elt te) (hs : ∀ x, foldedSetIterable iter X.env x = pure x := by intro _; rfl) :
    PS X (.Assign [.Name y py] (.ListComp elt [⟨tg, iter, ifs, 0⟩] scope pos) spos) (tAsg (tLc wi g tt te (own.map (·.2))) (gName i)) := by
  intro pins s σ H D I h
  rw [exec_Assign_Name_used _ _ _ _ hsw]
  refine wpAny_bind (wpAny_standAt (wpAny_bind ?_))
  show wpAny _ X.A (do let _ ← comprehension (.ListComp elt [⟨tg, iter, ifs, 0⟩] scope pos) scope X.env (firstIterPos [⟨tg, iter, ifs, 0⟩] pos) (newList []) false (eval iter X.env) (some (assign (.Name y py) X.env))) _ _ s
  have h : tLc wi g tt te (own.map (·.2)) σ H (fun x H1 => gName i x σ H1 D.nx) := h
  refine wpAny_bind (thn (lc_coreC (C0 := fun X => X.calm = true) (Qf := fun _ s' => SP X pins D .next s') (fun _ _ _ _ => hc) hN I hi ok hg ht he hs h fun L C s' m H' I' q hn f => ?_) fun _ s' hq => wpAny_pure (wpAny_pure hq))
  show wpAny _ _ (assign (.Name y py) X.env (.ref L)) _ _ _
  refine wpAny_assign_Name (store_ok2 (v := V.ref L) I' hN hy (.inl hyl) rfl (fun s2 I2 ⟨a, sb, ha⟩ => ?_) (.inr hyl))
  obtain ⟨f0, f1, f2, f3, f4, f5⟩ := f
  have haC : C ≠ a := by
    rcases ha with z | z
    · rw [z]; exact f1
    · exact fun e => f4 y a z e.symm
  refine ⟨m, hn.sameBut sb haC, fun h3 sb3 => ?_⟩
  exact ⟨_, H', I2.turned (t' := s2.toks) (fun b o hb e => (sb3.2 b hb).trans e) f0 f1 f3 f4 f5, q⟩
theorem sw_true {elt : Expr} {gs : List Comprehension} {scope : Scope} {pos py : Pos} {y : Str} {l : Nat} {env : Env} (hk : env.scope.kind = .function) (hy : env.scope.names.lookup y = some .local) (hl : (py.line == pos.line) = true)
    (ha : (scope.names.any fun (n, k) => n == y && (k == .local || k == .cell)) = false) : swapsWith (.ListComp elt gs scope pos) (some (.Name y py)) l env = pure true := by
  have ky : env.kindOf y = some .local := hy
  have hb : env.blockKind = .function := by unfold Env.blockKind; rw [hk]; rfl
  unfold swapsWith
  simp only [hb, ky, ha, Expr.pos, hl]
  rfl
end
def blkC (N : List Str) (sc scope : Scope) (own : List (Str × Nat)) : Bool :=
  (match scope.kind with | .function => true | _ => false) && (scope.names.all fun y => decide (scope.names.lookup y.1 = some y.2)) && (own.all fun p => decide (N[p.2]? = some p.1)) &&
    (scope.names.all fun y => match y.2 with
      | .free => (match sc.names.lookup y.1 with | some .cell => true | some .free => true | _ => false)
      | .local => decide (y.1 ∈ own.map (·.1)) || decide (y.1 ∉ N)
      | .cell => decide (y.1 ∈ own.map (·.1)) || decide (y.1 ∉ N)
      | _ => true)
theorem blkOk_by {N : List Str} {sc scope : Scope} {own : List (Str × Nat)} (h : blkC N sc scope own = true) : BlkOk N sc scope own := by
  unfold blkC at h
  simp only [Bool.and_eq_true, List.all_eq_true, decide_eq_true_eq] at h
  obtain ⟨⟨⟨h1, h2⟩, h3⟩, h4⟩ := h
  refine ⟨?_, h2, h3, fun y hy e => ?_, fun y hy e => ?_⟩
  · split at h1
    · assumption
    · cases h1
  · have q := h4 y hy
    simp only [e] at q
    split at q <;> first | exact .inl (by assumption) | exact .inr (by assumption) | cases q
  · have q := h4 y hy
    rcases e with e | e <;> (simp only [e, Bool.or_eq_true, decide_eq_true_eq] at q; exact q)
end L2
namespace L2
open PySem PySem.Spec PyProof.Rows
section
variable {prog : Program} {w : World} {A : Around} {R : Result → Shared → Prop} {s : Shared} {elt t0 i0 t1 i1 : Expr} {ifs0 ifs1 : List Expr} {scope : Scope} {pos : Pos} {it acc : Value} {env : Env}
end
section
variable {X : Cx}
end
end L2
namespace L2
open PySem PySem.Spec PyProof.Rows
section
variable {κ : Type} [DecidableEq κ]
def valV (kvs : List (κ × V)) (k : κ) : Option V := (kvs.find? fun kv => decide (kv.1 = k)).map (·.2)
def putK (kvs : List (κ × V)) (k : κ) (v : V) : List (κ × V) :=
  if (kvs.any fun kv => decide (kv.1 = k)) = true then kvs.map (fun kv => if kv.1 = k then (kv.1, v) else kv) else kvs ++ [(k, v)]
def dropK (kvs : List (κ × V)) (k : κ) : List (κ × V) := kvs.filter fun kv => decide (kv.1 ≠ k)
theorem valV_pos {p : κ × V} {r : List (κ × V)} {k : κ} (e : p.1 = k) : valV (p :: r) k = some p.2 := by simp [valV, List.find?_cons, e]
theorem valV_neg {p : κ × V} {r : List (κ × V)} {k : κ} (e : ¬ p.1 = k) : valV (p :: r) k = valV r k := by simp [valV, List.find?_cons, e]
theorem valV_any (k : κ) : ∀ kvs : List (κ × V), (kvs.any fun kv => decide (kv.1 = k)) = (valV kvs k).isSome
  | [] => rfl
  | p :: r => by
    rw [List.any_cons]
    by_cases e : p.1 = k
    · simp only [valV_pos e, decide_eq_true e, Bool.true_or, Option.isSome_some]
    · rw [valV_neg e, decide_eq_false e, Bool.false_or]; exact valV_any k r
theorem length_putK (kvs : List (κ × V)) (k : κ) (v : V) : (putK kvs k v).length ≤ kvs.length + 1 := by
  unfold putK
  split
  · rw [List.length_map]; omega
  · rw [List.length_append, List.length_cons, List.length_nil]; omega
theorem RelO.isSome_eq {o : Option V} {u : Option Value} (r : RelO o u) : o.isSome = u.isSome := by
  cases o with
  | none => cases u with
    | none => rfl
    | some _ => exact (show False from r).elim
  | some _ => cases u with
    | none => exact (show False from r).elim
    | some _ => rfl
theorem RelO.getD {o : Option V} {u : Option Value} {d : V} {d' : Value} (r : RelO o u) (rd : RelV d d') : RelV (o.getD d) (u.getD d') := by
  cases o with
  | none => cases u with
    | none => exact rd
    | some _ => exact (show False from r).elim
  | some _ => cases u with
    | none => exact (show False from r).elim
    | some _ => exact r
theorem KV.val {kvs : List (κ × V)} {vs : List (κ × Value)} (r : KV kvs vs) (k : κ) : RelO (valV kvs k) (valueAt vs k) := by
  unfold KV at r
  induction r with
  | nil => exact True.intro
  | @cons p q ps qs h t ih =>
    obtain ⟨h1, h2⟩ := h
    by_cases e : p.1 = k
    · have e' : q.1 = k := h1.symm.trans e
      have b : valueAt (q :: qs) k = some q.2 := by simp [valueAt, List.find?_cons, e']
      rw [valV_pos e, b]; exact h2
    · have e' : ¬ q.1 = k := fun z => e (h1.trans z)
      have b : valueAt (q :: qs) k = valueAt qs k := by simp [valueAt, List.find?_cons, e']
      rw [valV_neg e, b]; exact ih
theorem KV.any {kvs : List (κ × V)} {vs : List (κ × Value)} (r : KV kvs vs) (k : κ) : (kvs.any fun kv => decide (kv.1 = k)) = vs.any fun kv => decide (kv.1 = k) := by
  unfold KV at r
  induction r with
  | nil => rfl
  | cons h t ih => rw [List.any_cons, List.any_cons, ih, h.1]
theorem KV.repl {kvs : List (κ × V)} {vs : List (κ × Value)} (r : KV kvs vs) (k : κ) {y : V} {u : Value} (ry : RelV y u) :
    KV (kvs.map fun kv => if kv.1 = k then (kv.1, y) else kv) (vs.map fun kv => if kv.1 = k then (kv.1, u) else kv) := by
  unfold KV at r ⊢
  induction r with
  | nil => exact .nil
  | @cons p q ps qs h t ih =>
    rw [List.map_cons, List.map_cons]
    refine .cons ?_ ih
    obtain ⟨h1, h2⟩ := h
    by_cases e : p.1 = k
    · rw [if_pos e, if_pos (h1.symm.trans e)]; exact ⟨h1, ry⟩
    · rw [if_neg e, if_neg (fun z => e (h1.trans z))]; exact ⟨h1, h2⟩
theorem KV.put {kvs : List (κ × V)} {vs : List (κ × Value)} (r : KV kvs vs) (k : κ) {y : V} {u : Value} (ry : RelV y u) : KV (putK kvs k y) (stored vs k u) := by
  unfold putK stored
  rw [r.any k]
  by_cases e : (vs.any fun kv => decide (kv.1 = k)) = true
  · rw [if_pos e, if_pos e]; exact r.repl k ry
  · rw [if_neg e, if_neg e]; exact Paired.snoc r ⟨rfl, ry⟩
theorem KV.drop {kvs : List (κ × V)} {vs : List (κ × Value)} (r : KV kvs vs) (k : κ) : KV (dropK kvs k) (without vs k) := by
  unfold KV at r ⊢
  unfold dropK without
  induction r with
  | nil => exact .nil
  | @cons p q ps qs h t ih =>
    obtain ⟨h1, h2⟩ := h
    rw [List.filter_cons, List.filter_cons]
    by_cases e : p.1 = k
    · have a : ¬ decide (p.1 ≠ k) = true := by simp [e]
      have b : ¬ decide (q.1 ≠ k) = true := by simp [h1.symm.trans e]
      rw [if_neg a, if_neg b]; exact ih
    · have e' : ¬ q.1 = k := fun z => e (h1.trans z)
      have a : decide (p.1 ≠ k) = true := by simp [e]
      have b : decide (q.1 ≠ k) = true := by simp [e']
      rw [if_pos a, if_pos b]; exact .cons ⟨h1, h2⟩ ih
theorem KV.keys {kvs : List (κ × V)} {vs : List (κ × Value)} (r : KV kvs vs) : kvs.map (·.1) = vs.map (·.1) := by
  unfold KV at r
  induction r with
  | nil => rfl
  | cons h t ih => rw [List.map_cons, List.map_cons, ih, h.1]
theorem KV.length {kvs : List (κ × V)} {vs : List (κ × Value)} (r : KV kvs vs) : kvs.length = vs.length := Paired.length r
theorem dropK_le (kvs : List (κ × V)) (k : κ) : (dropK kvs k).length ≤ kvs.length := List.length_filter_le _ _
end
theorem kV_is {P : Program} {w : World} {k : Key} {u : Value} (r : RelV (kV k) u) : (mixKind P w).is k u = true := by
  cases k with
  | inl i => obtain ⟨t, e⟩ := (show ∃ t, u = Value.int i t from r); subst e; exact mixKind_int P w i t
  | inr x => obtain ⟨t, e⟩ := (show ∃ t, u = Value.str x t from r); subst e; exact mixKind_str P w x t
theorem items_are {P : Program} {w : World} : ∀ {ks : List Key} {us : List Value}, Vals (ks.map kV) us → ItemsAre (mixKind P w) ks us
  | [], _, r => by rw [List.map_nil] at r; cases r; exact .nil
  | k :: ks, _, r => by
    rw [List.map_cons] at r
    cases r with
    | cons h t => exact .cons (kV_is h) (items_are t)
abbrev KT (H : Hp) : List (List Key × V) → List (List Key × Addr × Value) → Prop := Paired fun p q => p.1 = q.1 ∧ H q.2.1 = some (.tup (p.1.map kV)) ∧ RelV p.2 q.2.2
theorem KT.val {H : Hp} {kvs : List (List Key × V)} {xs : List (List Key × Addr × Value)} (r : KT H kvs xs) (k : List Key) : RelO (valV kvs k) ((atKey xs k).map (·.2)) := by
  induction r with
  | nil => exact True.intro
  | @cons p q ps qs h t ih =>
    obtain ⟨h1, _, h2⟩ := h
    by_cases e : p.1 = k
    · have e' : q.1 = k := h1.symm.trans e
      have b : atKey (q :: qs) k = some q.2 := by simp [atKey, List.find?_cons, e']
      rw [valV_pos e, b]; exact h2
    · have e' : ¬ q.1 = k := fun z => e (h1.trans z)
      have b : atKey (q :: qs) k = atKey qs k := by simp [atKey, List.find?_cons, e']
      rw [valV_neg e, b]; exact ih
theorem KT.repl {H : Hp} {kvs : List (List Key × V)} {xs : List (List Key × Addr × Value)} (r : KT H kvs xs) (k : List Key) {y : V} {u : Value} (ry : RelV y u) :
    KT H (kvs.map fun kv => if kv.1 = k then (kv.1, y) else kv) (xs.map (putAt k u)) := by
  induction r with
  | nil => exact .nil
  | @cons p q ps qs h t ih =>
    rw [List.map_cons, List.map_cons]
    refine .cons ?_ ih
    obtain ⟨h1, h2, h3⟩ := h
    unfold putAt
    by_cases e : p.1 = k
    · rw [if_pos e, if_pos (h1.symm.trans e)]; exact ⟨h1, h2, ry⟩
    · rw [if_neg e, if_neg (fun z => e (h1.trans z))]; exact ⟨h1, h2, h3⟩
theorem KT.put {H : Hp} {kvs : List (List Key × V)} {xs : List (List Key × Addr × Value)} (r : KT H kvs xs) (k : List Key) {b : Addr} {y : V} {u : Value} (hb : H b = some (.tup (k.map kV))) (ry : RelV y u) :
    KT H (putK kvs k y) (storedH xs k b u) := by
  have e : (kvs.any fun kv => decide (kv.1 = k)) = (atKey xs k).isSome := by
    rw [valV_any, (r.val k).isSome_eq, Option.isSome_map]
  unfold putK storedH
  rw [e]
  by_cases q : (atKey xs k).isSome = true
  · rw [if_pos q, if_pos q]; exact r.repl k ry
  · rw [if_neg q, if_neg q]; exact Paired.snoc r ⟨rfl, hb, ry⟩
theorem KT.keeps {H H' : Hp} {kvs : List (List Key × V)} {xs : List (List Key × Addr × Value)} (r : KT H kvs xs) (ht : ∀ b ys, H b = some (.tup ys) → H' b = some (.tup ys)) : KT H' kvs xs :=
  Paired.mapP r fun _ _ z => ⟨z.1, ht _ _ z.2.1, z.2.2⟩
section
variable {P : Program} {w : World} {H : Hp} {h : Heap} {a : Addr}
theorem rd_of {u : HO} (ok : HOk P w H h) (e : Rd H a u) : ObjOk P w H h a u := e.ok ok
theorem dk_rd {kvs : List (Key × V)} (ok : HOk P w H h) (e : Rd H a (.dK kvs)) : kvs.length ≤ sizeLine ∧ (a == sysModules) = false ∧ ∃ vs, KV kvs vs ∧ h.DictOf (mixKind P w) a vs :=
  show ObjOk P w H h a (.dK kvs) from rd_of ok e
theorem dk_of {kvs : List (Key × V)} (ok : HOk P w H h) (e : H a = some (.dK kvs)) : kvs.length ≤ sizeLine ∧ (a == sysModules) = false ∧ ∃ vs, KV kvs vs ∧ h.DictOf (mixKind P w) a vs := dk_rd ok (.inl e)
theorem key_of {ks : List Key} (ok : HOk P w H h) (e : H a = some (.tup (ks.map kV))) : (tupleKind (mixKind P w)).is h ks a := by
  obtain ⟨_, its, r, o, h1, h2, n, h3⟩ := (show ObjOk P w H h a (.tup (ks.map kV)) from ok a _ e)
  exact ⟨o, its.toArray, n, h1, congrArg Prod.fst h2, h3, by simpa using items_are r⟩
theorem dt_rd {kvs : List (List Key × V)} (ok : HOk P w H h) (e : Rd H a (.dT kvs)) : kvs.length ≤ sizeLine ∧ (a == sysModules) = false ∧
    ∃ xs, KT H kvs xs ∧ h.DictOfH (tupleKind (mixKind P w)) a xs := by
  obtain ⟨z, y, xs, r, o, es, ep, h1, h2, h3, h4, h5⟩ := (show ObjOk P w H h a (.dT kvs) from rd_of ok e)
  refine ⟨z, y, xs, r, o, es, ep, h1, h2, h3, h4, fun x hx => ?_, h5⟩
  have all : ∀ {l : List (List Key × V)} {m : List (List Key × Addr × Value)}, KT H l m → ∀ x ∈ m, (tupleKind (mixKind P w)).is h x.1 x.2.1 := by
    intro l m q
    induction q with
    | nil => intro x hx; exact nomatch hx
    | @cons p q ps qs hq t ih =>
      intro x hx
      rcases List.mem_cons.mp hx with e | hx
      · subst e
        exact key_of ok (by rw [← hq.1]; exact hq.2.1)
      · exact ih x hx
  exact all r x hx
theorem dt_of {kvs : List (List Key × V)} (ok : HOk P w H h) (e : H a = some (.dT kvs)) : kvs.length ≤ sizeLine ∧ (a == sysModules) = false ∧
    ∃ xs, KT H kvs xs ∧ h.DictOfH (tupleKind (mixKind P w)) a xs := dt_rd ok (.inl e)
end
def DGet (H : Hp) (a : Addr) (y : V) (r : Option V) : Prop :=
  (∃ kvs k, Rd H a (.dK kvs) ∧ y = kV k ∧ r = valV kvs k) ∨ ∃ kvs k b, Rd H a (.dT kvs) ∧ y = .ref b ∧ H b = some (.tup (k.map kV)) ∧ r = valV kvs k
def DPut (H : Hp) (a : Addr) (y v : V) (H' : Hp) : Prop :=
  (∃ kvs k, H a = some (.dK kvs) ∧ y = kV k ∧ kvs.length < sizeLine ∧ H' = upd H a (.dK (putK kvs k v))) ∨
  ∃ kvs k b, H a = some (.dT kvs) ∧ y = .ref b ∧ H b = some (.tup (k.map kV)) ∧ kvs.length < sizeLine ∧ H' = upd H a (.dT (putK kvs k v))
theorem DGet.k {H : Hp} {a : Addr} {kvs : List (Key × V)} {k : Key} (e : H a = some (.dK kvs)) : DGet H a (kV k) (valV kvs k) := .inl ⟨kvs, k, .inl e, rfl, rfl⟩
theorem DGet.t {H : Hp} {a b : Addr} {kvs : List (List Key × V)} {k : List Key} (e : H a = some (.dT kvs)) (eb : H b = some (.tup (k.map kV))) : DGet H a (.ref b) (valV kvs k) := .inr ⟨kvs, k, b, .inl e, rfl, eb, rfl⟩
theorem DPut.k {H : Hp} {a : Addr} {kvs : List (Key × V)} {k : Key} {v : V} (e : H a = some (.dK kvs)) (hl : kvs.length < sizeLine) : DPut H a (kV k) v (upd H a (.dK (putK kvs k v))) := .inl ⟨kvs, k, e, rfl, hl, rfl⟩
theorem DPut.t {H : Hp} {a b : Addr} {kvs : List (List Key × V)} {k : List Key} {v : V} (e : H a = some (.dT kvs)) (eb : H b = some (.tup (k.map kV))) (hl : kvs.length < sizeLine) :
    DPut H a (.ref b) v (upd H a (.dT (putK kvs k v))) := .inr ⟨kvs, k, b, e, rfl, eb, hl, rfl⟩
section
variable {X : Cx} {pins : List (Addr × Obj)} {σ : St} {H : Hp} {s : Shared} {a : Addr} {y v : V} {u r : Value} {o : Option V} {A : Around} {E : Value → Shared → Prop}
theorem Inv.big (I : Inv X pins σ H s) : sysModules < s.heap.objs.size := by
  have h : mainGlobals < s.heap.objs.size := (I.mod.glob.keeps I.bk).lt
  exact Nat.lt_trans (by decide) h
theorem d_getItem {Q : Value → Shared → Prop} (hu : A.units + 1 < cLine) (I : Inv X pins σ H s) (g : DGet H a y (some v)) (ry : RelV y u) (h : ∀ w' s', Inv X pins σ H s' → RelV v w' → Q w' s') :
    wpAny (model X.prog X.w) A (getItem (.ref a) u) Q E s := by
  rcases g with ⟨kvs, k, e, ey, l⟩ | ⟨kvs, k, b, e, ey, eb, l⟩
  · subst ey
    obtain ⟨z, hd, vs, rel, dd⟩ := dk_rd I.hok e
    obtain ⟨w', hw, rw'⟩ := RelO.some_of (v := v) (o := valueAt vs k) (by rw [l]; exact rel.val k)
    exact wpAny_getItem_of (kV_is ry) dd.mapOf hw (h w' _ (I.tok _) rw')
  · subst ey
    cases (show u = Value.ref b from ry)
    obtain ⟨z, hd, xs, rel, dd⟩ := dt_rd I.hok e
    obtain ⟨w', hw, rw'⟩ := RelO.some_of (v := v) (o := (atKey xs k).map (·.2)) (by rw [l]; exact rel.val k)
    obtain ⟨p, hp, hp2⟩ := Option.map_eq_some_iff.mp hw
    refine wpAny_getItem_heap (tupleKind_room_in1 hu) (key_of I.hok eb) dd hp ?_
    rw [hp2]
    exact h w' _ (I.tok _) rw'
theorem d_in {Q : Value → Shared → Prop} (hu : A.units + 1 < cLine) (I : Inv X pins σ H s) (g : DGet H a y o) (ry : RelV y u) (h : ∀ s', Inv X pins σ H s' → Q (.bool o.isSome) s') :
    wpAny (model X.prog X.w) A (compareOp .In u (.ref a)) Q E s := by
  rcases g with ⟨kvs, k, e, ey, l⟩ | ⟨kvs, k, b, e, ey, eb, l⟩
  · subst ey
    obtain ⟨z, hd, vs, rel, dd⟩ := dk_rd I.hok e
    refine wpAny_in_of (kV_is ry) hd dd.mapOf ?_
    rw [← (rel.val k).isSome_eq, ← l]
    exact h _ (I.tok _)
  · subst ey
    cases (show u = Value.ref b from ry)
    obtain ⟨z, hd, xs, rel, dd⟩ := dt_rd I.hok e
    refine wpAny_in_heap (tupleKind_room_in1 hu) (key_of I.hok eb) hd dd ?_
    have q := (rel.val k).isSome_eq
    rw [Option.isSome_map] at q
    rw [← q, ← l]
    exact h _ (I.tok _)
theorem d_notIn {Q : Value → Shared → Prop} (hu : A.units + 1 < cLine) (I : Inv X pins σ H s) (g : DGet H a y o) (ry : RelV y u) (h : ∀ s', Inv X pins σ H s' → Q (.bool (!o.isSome)) s') :
    wpAny (model X.prog X.w) A (compareOp .NotIn u (.ref a)) Q E s := by
  rcases g with ⟨kvs, k, e, ey, l⟩ | ⟨kvs, k, b, e, ey, eb, l⟩
  · subst ey
    obtain ⟨z, hd, vs, rel, dd⟩ := dk_rd I.hok e
    refine wpAny_notIn_of (kV_is ry) hd dd.mapOf ?_
    rw [← (rel.val k).isSome_eq, ← l]
    exact h _ (I.tok _)
  · subst ey
    cases (show u = Value.ref b from ry)
    obtain ⟨z, hd, xs, rel, dd⟩ := dt_rd I.hok e
    refine wpAny_notIn_heap (tupleKind_room_in1 hu) (key_of I.hok eb) hd dd ?_
    have q := (rel.val k).isSome_eq
    rw [Option.isSome_map] at q
    rw [← q, ← l]
    exact h _ (I.tok _)
theorem d_write {h' : Heap} {t' : Nat} {ob : HO} (I : Inv X pins σ H s) (mu : Mut (H a)) (hs : Heap.SameBut a s.heap h') (he : ∃ q, h'.get? a = some q) (new : ObjOk X.prog X.w (upd H a ob) h' a ob) :
    Inv X pins σ (upd H a ob) { s with heap := h', toks := t' } :=
  I.write (x := a) (e := a) mu (.inl rfl) (fun b q hb z => (hs.2 b hb).trans z) he new
theorem dk_new {P : Program} {w : World} {H' : Hp} {h' : Heap} {kvs : List (Key × V)} {vs : List (Key × Value)} (z : kvs.length ≤ sizeLine) (hd : (a == sysModules) = false) (rel : KV kvs vs) (dd : h'.DictOf (mixKind P w) a vs) :
    ObjOk P w H' h' a (.dK kvs) := ⟨z, hd, vs, rel, dd⟩
theorem d_setItem {H' : Hp} {Q : Unit → Shared → Prop} (hu : A.units + 1 < cLine) (I : Inv X pins σ H s) (g : DPut H a y v H') (ry : RelV y u) (rv : RelV v r) (h : ∀ s', Inv X pins σ H' s' → Q () s') :
    wpAny (model X.prog X.w) A (setItem (.ref a) u r) Q E s := by
  rcases g with ⟨kvs, k, e, ey, l, eH⟩ | ⟨kvs, k, b, e, ey, eb, l, eH⟩
  · subst ey eH
    obtain ⟨z, hd, vs, rel, dd⟩ := dk_of I.hok e
    have hz : vs.length ≤ sizeLine := by rw [← rel.length]; exact z
    have hl : (putK kvs k v).length ≤ sizeLine := by have := length_putK kvs k v; omega
    refine wpAny_setItem_pairs (hsz := hz) (kV_is ry) dd fun h' dd' hs => h _ ?_
    have he : ∃ q, h'.get? a = some q := let ⟨q, _, _, hq, _⟩ := dd'; ⟨q, hq⟩
    exact d_write I (by rw [e]; exact True.intro) hs he (dk_new hl hd (rel.put k rv) dd')
  · subst ey eH
    cases (show u = Value.ref b from ry)
    obtain ⟨z, hd, xs, rel, dd⟩ := dt_of I.hok e
    have hz : xs.length ≤ sizeLine := by rw [← Paired.length rel]; exact z
    have hl : (putK kvs k v).length ≤ sizeLine := by have := length_putK kvs k v; omega
    refine wpAny_setItem_heap (hsz := hz) (tupleKind_room_in1 hu) (key_of I.hok eb) dd fun h' dd' hs => h _ ?_
    obtain ⟨q, es, ep, hq, h2, h3, h4, _, h5⟩ := dd'
    refine d_write I (by rw [e]; exact True.intro) hs ⟨q, hq⟩ ⟨hl, hd, _, (rel.put k eb rv).keeps fun c ys ec => ?_, q, es, ep, hq, h2, h3, h4, h5⟩
    rw [upd_ne (ne_of ec e (fun z => nomatch z))]
    exact ec
end
section
variable {X : Cx} {pins : List (Addr × Obj)} {σ : St} {H : Hp} {s : Shared} {a : Addr} {kvs : List (Key × V)} {k : Key} {u : Value} {A : Around} {E : Value → Shared → Prop}
theorem d_delItem {Q : Unit → Shared → Prop} (I : Inv X pins σ H s) (e : H a = some (.dK kvs)) (ry : RelV (kV k) u) (l : (valV kvs k).isSome = true) (h : ∀ s', Inv X pins σ (upd H a (.dK (dropK kvs k))) s' → Q () s') :
    wpAny (model X.prog X.w) A (delItem (.ref a) u) Q E s := by
  obtain ⟨z, hd, vs, rel, dd⟩ := dk_of I.hok e
  refine wpAny_delItem_slot dd.typeIs (by decide) PySem.F.slot_dict_delitem
    (call_meetsIn PySem.F.slot_dict_delitem dd.typeIs PySem.F.entry_dict_delitem (PySem.F.args_dict_delitem_2 _ _) (meets_dict_delitem_pairs (mixKind X.prog X.w) a (kV_is ry)) ⟨vs, dd, by rw [← rel.length]; exact z, by rw [← (rel.val k).isSome_eq]; exact l, fun h' dd' hs => h _ ?_⟩)
  have he : ∃ q, h'.get? a = some q := let ⟨q, _, _, hq, _⟩ := dd'; ⟨q, hq⟩
  exact d_write I (by rw [e]; exact True.intro) hs he (dk_new (Nat.le_trans (dropK_le kvs k) z) hd (rel.drop k) dd')
theorem d_pop {v : V} {more : List Value} {Q : Value → Shared → Prop} (I : Inv X pins σ H s) (e : H a = some (.dK kvs)) (ry : RelV (kV k) u) (l : valV kvs k = some v) (hm : more = [] ∨ ∃ x, more = [x])
    (h : ∀ w' s', Inv X pins σ (upd H a (.dK (dropK kvs k))) s' → RelV v w' → Q w' s') : wpAny (model X.prog X.w) A (call (.builtin "dict.pop") (.ref a :: u :: more)) Q E s := by
  obtain ⟨z, hd, vs, rel, dd⟩ := dk_of I.hok e
  obtain ⟨w', hw, rw'⟩ := RelO.some_of (v := v) (o := valueAt vs k) (by rw [← l]; exact rel.val k)
  have hp : (keyPart u).isSome = true := by
    cases k with
    | inl i => obtain ⟨t, q⟩ := (show ∃ t, u = Value.int i t from ry); subst q; rfl
    | inr x => obtain ⟨t, q⟩ := (show ∃ t, u = Value.str x t from ry); subst q; rfl
  have ha : argsOk "dict.pop" ⟨.ref a :: u :: more, []⟩ := by
    rcases hm with q | ⟨x, q⟩
    · subst q; exact PySem.F.args_dict_pop_2 _ _
    · subst q; exact PySem.F.args_dict_pop_3 _ _ _
  refine call_meetsIn PySem.F.slot_dict_pop dd.typeIs PySem.F.entry_dict_pop ha (meets_dict_pop_there (mixKind X.prog X.w) a (kV_is ry) more hm hp)
    ⟨vs, w', dd, by rw [← rel.length]; exact z, hw, fun h' dd' hs => h w' _ ?_ rw'⟩
  have he : ∃ q, h'.get? a = some q := let ⟨q, _, _, hq, _⟩ := dd'; ⟨q, hq⟩
  exact d_write I (by rw [e]; exact True.intro) hs he (dk_new (Nat.le_trans (dropK_le kvs k) z) hd (rel.drop k) dd')
theorem d_popD {r : Value} {Q : Value → Shared → Prop} (I : Inv X pins σ H s) (e : H a = some (.dK kvs)) (ry : RelV (kV k) u) (l : valV kvs k = none) (h : ∀ s', Inv X pins σ H s' → Q r s') :
    wpAny (model X.prog X.w) A (call (.builtin "dict.pop") [.ref a, u, r]) Q E s := by
  obtain ⟨z, hd, vs, rel, dd⟩ := dk_of I.hok e
  have hn : valueAt vs k = none := RelO.none_of (by rw [← l]; exact rel.val k)
  have hp : (keyPart u).isSome = true := by
    cases k with
    | inl i => obtain ⟨t, q⟩ := (show ∃ t, u = Value.int i t from ry); subst q; rfl
    | inr x => obtain ⟨t, q⟩ := (show ∃ t, u = Value.str x t from ry); subst q; rfl
  exact call_meetsIn PySem.F.slot_dict_pop dd.typeIs PySem.F.entry_dict_pop (PySem.F.args_dict_pop_3 _ _ _) (meets_dict_pop_default (mixKind X.prog X.w) a (kV_is ry) hd hp r) ⟨vs, dd, hn, h _ (I.tok _)⟩
end
def NoSl (i : Expr) : Prop := ∀ ov iv, subscripted i false ov iv = operate [ov, iv] (getItem ov iv)
theorem subD_of {prog : Program} {w : World} {A : Around} {E : Value → Shared → Prop} {s : Shared} {env : Env} {value slice : Expr} {pos : Pos} {T id : String} {Q : Value → Shared → Prop}
    (hl : typeLookup (.type T) "__getitem__" = pure (some (.builtin id))) (hs : NoSl slice)
    (h : wpAny (model prog w) A (eval value env) (fun o s₁ => wpAny (model prog w) A (eval slice env) (fun i s₂ => s₂.TypeIs o T ∧ wpAny (model prog w) A (getItem o i) Q E s₂) E s₁) E s) :
    wpAny (model prog w) A (eval (.Subscript value slice pos) env) Q E s := by
  refine Subscript_ (wpAny_mono h (fun o s₁ h₁ => wpAny_mono h₁ (fun i s₂ h₂ => ?_) fun _ _ x => x) fun _ _ x => x)
  obtain ⟨hT, h₂⟩ := h₂
  unfold subscriptTail
  refine wpAny_bind ?_
  rw [getitemInPython_of_ne hT.not_modules]
  refine wpAny_bind (wpAny_specialOf hT hl ?_)
  have fin : wpAny (model prog w) A (subscripted slice false o i) (fun r s₃ => wpAny (model prog w) A (letTemporaryGo value o r >>= fun _ => pure r) Q E s₃) E s₂ := by
    rw [hs o i]
    exact wpAny_operating (wpAny_mono h₂ (fun r s₃ h₃ => wpAny_bind (wpAny_letTemporaryGo (wpAny_pure h₃))) fun _ _ x => x)
  first
    | exact wpAny_pure (wpAny_bind fin)
    | exact wpAny_bind (wpAny_pure (wpAny_bind fin))
    | exact wpAny_bind fin
theorem dict_typeIs {X : Cx} {pins : List (Addr × Obj)} {σ : St} {H : Hp} {s : Shared} {a : Addr} {y : V} {o : Option V} (I : Inv X pins σ H s) (g : DGet H a y o) : s.TypeIs (.ref a) "dict" := by
  rcases g with ⟨kvs, k, e, _, _⟩ | ⟨kvs, k, b, e, _, _, _⟩
  · obtain ⟨_, _, vs, _, dd⟩ := dk_rd I.hok e
    exact dd.typeIs
  · obtain ⟨_, _, xs, _, dd⟩ := dt_rd I.hok e
    exact dd.typeIs
def tDGet (td ty : TE) : TE := fun σ H Q => td σ H fun x H1 => ty σ H1 fun y H2 => ∃ a v, x = .ref a ∧ DGet H2 a y (some v) ∧ Q v H2
def tDIn (ty td : TE) : TE := fun σ H Q => ty σ H fun y H1 => td σ H1 fun x H2 => ∃ a o, x = .ref a ∧ DGet H2 a y o ∧ Q (.bl o.isSome) H2
def tDNotIn (ty td : TE) : TE := fun σ H Q => ty σ H fun y H1 => td σ H1 fun x H2 => ∃ a o, x = .ref a ∧ DGet H2 a y o ∧ Q (.bl (!o.isSome)) H2
def sDPut (td ty tv : TE) : TS := fun D σ H => tv σ H fun v H1 => td σ H1 fun x H2 => ty σ H2 fun y H3 => ∃ a H4, x = .ref a ∧ DPut H3 a y v H4 ∧ D.nx σ H4
section
variable {X : Cx} {o i e value : Expr} {pos pos' tpos : Pos} {td ty tv : TE}
theorem pe_dget (hu : X.A.units + 1 < cLine) (ho : PE X o td) (hi : PE X i ty) (hs : NoSl i) : PE X (.Subscript o i pos) (tDGet td ty) := by
  intro pins s σ H Q I h
  refine subD_of PySem.F.slot_dict_getitem.lookup hs (thn (ho pins s σ H _ I h) fun u s1 ⟨x, H1, I1, rx, q1⟩ => thn (hi pins s1 σ H1 _ I1 q1) fun iv s2 ⟨y, H2, I2, ry, a, v, ex, g, q2⟩ => ?_)
  subst ex
  obtain rfl : u = Value.ref a := rx
  exact ⟨dict_typeIs I2 g, d_getItem hu I2 g ry fun w' s3 I3 rw' => ⟨v, H2, I3, rw', q2⟩⟩
theorem pc_din (hu : X.A.units + 1 < cLine) (hi : PE X i ty) (ho : PE X o td) : PC X .In i o (tDIn ty td) := by
  intro pins s σ H Q I h
  refine thn (hi pins s σ H _ I h) fun iv s1 ⟨y, H1, I1, ry, q1⟩ => thn (ho pins s1 σ H1 _ I1 q1) fun u s2 ⟨x, H2, I2, rx, a, ov, ex, g, q2⟩ => ?_
  subst ex
  obtain rfl : u = Value.ref a := rx
  exact d_in hu I2 g ry fun s3 I3 => ⟨.bl ov.isSome, H2, I3, rfl, q2⟩
theorem pc_dnotin (hu : X.A.units + 1 < cLine) (hi : PE X i ty) (ho : PE X o td) : PC X .NotIn i o (tDNotIn ty td) := by
  intro pins s σ H Q I h
  refine thn (hi pins s σ H _ I h) fun iv s1 ⟨y, H1, I1, ry, q1⟩ => thn (ho pins s1 σ H1 _ I1 q1) fun u s2 ⟨x, H2, I2, rx, a, ov, ex, g, q2⟩ => ?_
  subst ex
  obtain rfl : u = Value.ref a := rx
  exact d_notIn hu I2 g ry fun s3 I3 => ⟨.bl (!ov.isSome), H2, I3, rfl, q2⟩
theorem ps_dput (hu : X.A.units + 1 < cLine) (ho : PE X o td) (hi : PE X i ty) (hv : PE X value tv) (hs : swapsWith value (some (.Subscript o i pos')) pos.line X.env = pure false) :
    PS X (.Assign [.Subscript o i pos'] value pos) (sDPut td ty tv) := by
  intro pins s σ H D I h
  refine wpAny_Assign_Subscript (thn (hv pins s σ H _ I h) fun r s1 ⟨v, H1, I1, rv, q1⟩ => thn (ho pins s1 σ H1 _ I1 q1) fun u s2 ⟨x, H2, I2, rx, q2⟩ => thn (hi pins s2 σ H2 _ I2 q2) fun iv s3 ⟨y, H3, I3, ry, a, H4, ex, g, q3⟩ => ?_) hs
  subst ex
  obtain rfl : u = Value.ref a := rx
  exact d_setItem hu I3 g ry rv fun s4 I4 => ⟨σ, H4, I4, q3⟩
end
theorem dk_empty {P : Program} {w : World} {H : Hp} (h : Heap) (hb : sysModules < h.objs.size) : ObjOk P w H (h.push { cls := .type "dict", data := .dict #[] }) h.objs.size (.dK []) :=
  ⟨Nat.zero_le _, beq_eq_false_iff_ne.mpr (Ne.symm (Nat.ne_of_lt hb)), [], .nil, Heap.DictOf.new h⟩
def tDNewK : TE := fun _ H Q => ∀ p, H p = none → Q (.ref p) (upd H p (.dK []))
section
variable {X : Cx} {pos : Pos}
theorem pe_dnewK : PE X (.Dict [] [] pos) tDNewK := fun pins s σ H Q I h =>
  wpAny_Dict_empty ⟨.ref s.heap.objs.size, _, I.laid (a := s.heap.objs.size) (o := .dK []) (t' := s.toks) (fun _ _ q => Heap.get?_push_of_some _ q) (Nat.le_refl _) (dk_empty s.heap I.big), rfl, h _ (I.hok.fresh (Nat.le_refl _))⟩
end
structure M2 (X : Cx) (o : Expr) (m : Str) (apos : Pos) (e f : Expr) (cpos : Pos) : Prop where
  base : attributeBase o m X.env (eval o X.env) = eval o X.env
  few : ((backTo cpos (starEach [e, f] X.env)).all (fun x => !x.1) && (backToKw cpos (keywordEach [] X.env)).all (fun x => x.1.isSome)
    && decide (([e, f] : List Expr).length + ([] : List Keyword).length + (if ([] : List Keyword).isEmpty then 0 else 1) < 30)) = true
  line : (apos.endLine == cpos.line) = true
  trees : backTo cpos (starEach [e, f] X.env) = [(false, eval e X.env), (false, eval f X.env)]
def IsD (H : Hp) (a : Addr) : Prop := (∃ kvs, Rd H a (.dK kvs)) ∨ ∃ kvs, Rd H a (.dT kvs)
theorem isD_at {X : Cx} {pins : List (Addr × Obj)} {σ : St} {H : Hp} {s : Shared} {a : Addr} (I : Inv X pins σ H s) (d : IsD H a) :
    s.TypeIs (.ref a) "dict" ∧ (∀ b, Value.ref a = .ref b → ∃ ob, s.heap.get? b = some ob ∧ ob.dict = none) ∧ (a == sysModules) = false := by
  rcases d with ⟨kvs, e⟩ | ⟨kvs, e⟩
  · obtain ⟨_, hd, vs, _, dd⟩ := dk_rd I.hok e
    refine ⟨dd.typeIs, fun b q => ?_, hd⟩
    cases q
    obtain ⟨ob, _, _, h1, h2, _⟩ := dd
    exact ⟨ob, h1, h2.2.1⟩
  · obtain ⟨_, hd, xs, _, dd⟩ := dt_rd I.hok e
    refine ⟨dd.typeIs, fun b q => ?_, hd⟩
    cases q
    obtain ⟨ob, _, _, h1, h2, _⟩ := dd
    exact ⟨ob, h1, h2.2.1⟩
section
variable {X : Cx} {pins : List (Addr × Obj)} {σ : St} {H : Hp} {s : Shared} {a : Addr} {y d : V} {u r : Value} {o : Option V} {A : Around} {E : Value → Shared → Prop}
end
def tDPop2 (td ty tx : TE) : TE := fun σ H Q => td σ H fun x H1 => ∃ a, x = .ref a ∧ IsD H1 a ∧ ty σ H1 fun y H2 => tx σ H2 fun z H3 => ∃ kvs k, H3 a = some (.dK kvs) ∧ y = kV k ∧
  (∀ v, valV kvs k = some v → Q v (upd H3 a (.dK (dropK kvs k)))) ∧ (valV kvs k = none → Q z H3)
section
variable {X : Cx} {o e f : Expr} {apos cpos : Pos} {td ty tx : TE}
theorem pe_dpop2 (ho : PE X o td) (he : PE X e ty) (hf : PE X f tx) (m : M2 X o "pop" apos e f cpos) : PE X (.Call (.Attribute o "pop" apos) [e, f] [] cpos) (tDPop2 td ty tx) := by
  intro pins s σ H Q I h
  refine wpAny_Call_method m.base m.few m.line PySem.F.plainAttrs_dict PySem.F.slot_dict_pop PySem.F.type_dict_pop (thn (ho pins s σ H _ I h) fun u s1 ⟨x, H1, I1, rx, a, ex, d, q1⟩ => ?_)
  subst ex
  obtain rfl : u = Value.ref a := rx
  obtain ⟨t1, t2, _⟩ := isD_at I1 d
  refine ⟨t1, t2, ?_⟩
  rw [m.trees]
  refine Calls.callWith_builtin rfl (Calls.evalArgs_plain (Calls.spliced_cons (thn (he pins s1 σ H1 _ I1 q1) fun iv s2 ⟨y, H2, I2, ry, q2⟩ =>
    Calls.spliced_cons (thn (hf pins s2 σ H2 _ I2 q2) fun fv s3 ⟨z, H3, I3, rz, kvs, k, ea, ey, q3, q4⟩ => Calls.spliced_nil ?_))))
  subst ey
  cases l : valV kvs k with
  | some v => exact d_pop I3 ea ry l (.inr ⟨fv, rfl⟩) fun w' s4 I4 rw' => ⟨v, _, I4, rw', q3 v l⟩
  | none => exact d_popD I3 ea ry l fun s4 I4 => ⟨z, H3, I4, rz, q4 l⟩
end
section
variable {X : Cx} {pins : List (Addr × Obj)} {σ : St} {H : Hp} {s : Shared} {a : Addr} {kvs : List (Key × V)} {A : Around} {E : Value → Shared → Prop}
theorem d_copyOf {Q : Value → Shared → Prop} (I : Inv X pins σ H s) (e : Rd H a (.dK kvs)) (h : ∀ p s', H p = none → Inv X pins σ (upd H p (.dK kvs)) s' → Q (.ref p) s') : wpAny (model X.prog X.w) A (call (.type "dict") [.ref a]) Q E s := by
  obtain ⟨z, hd, vs, rel, dd⟩ := dk_rd I.hok e
  refine kt_call_dict hd dd (by rw [← rel.length]; exact z) fun h' dd' hs => ?_
  refine h _ _ (I.hok.fresh (Nat.le_refl _)) (I.laid (a := s.heap.objs.size) (o := .dK kvs) (t' := s.toks) (fun b q hq => ?_) (Nat.le_refl _) (dk_new z (beq_eq_false_iff_ne.mpr (Ne.symm (Nat.ne_of_lt I.big))) rel dd'))
  exact (hs.2 b (Nat.ne_of_lt (Heap.lt_size hq))).trans (Heap.get?_push_of_some _ hq)
end
section
variable {X : Cx} {pins : List (Addr × Obj)} {σ : St} {H : Hp} {s : Shared} {a : Addr} {y : V} {u : Value} {A : Around} {E : Value → Shared → Prop}
end
end L2
namespace L2
open PySem PySem.Spec PyProof.Rows
section
variable {prog : Program} {w : World} {A : Around} {E : Value → Shared → Prop}
end
section
variable {X : Cx}
end
end L2
namespace L2
open PySem PySem.Spec PyProof.Rows
section
variable {X : Cx} {pins : List (Addr × Obj)} {σ : St} {H : Hp} {s : Shared} {h' : Heap}
theorem Inv.lock {d : Addr} {u : HO} (I : Inv X pins σ H s) (h : H d = some u) (mu : Mut (some u)) : ∃ od, Inv X pins σ (upd H d (.frz od u)) s := by
  have x := I.hok d u h
  have ex : ∃ od, s.heap.get? d = some od := by
    cases u with
    | lst xs => obtain ⟨_, _, _, _, e⟩ := x; exact ⟨_, e⟩
    | dK kvs => obtain ⟨_, _, _, _, o, _, _, e, _⟩ := x; exact ⟨o, e⟩
    | dT kvs => obtain ⟨_, _, _, _, o, _, _, e, _⟩ := x; exact ⟨o, e⟩
    | set S n => obtain ⟨o, _, _, _, e, _⟩ := x; exact ⟨o, e⟩
    | ins C dx fs => obtain ⟨_, _, _, e, _⟩ := x; exact ⟨_, e⟩
    | ext φ => obtain ⟨_, ⟨_, e⟩, _⟩ := x; exact ⟨_, e⟩
    | _ => exact False.elim mu
  obtain ⟨od, e⟩ := ex
  have new : ObjOk X.prog X.w (upd H d (.frz od u)) s.heap d (.frz od u) := by
    refine ⟨e, x.stay (fun b v _ q => q) (fun b q => ?_) fun b xs q => ?_⟩
    · rw [upd_ne (fun z => by rw [z, h] at q; cases q; exact mu)]; exact q
    · rw [upd_ne (fun z => by rw [z, h] at q; cases q; exact mu)]; exact q
  exact ⟨od, I.write (x := d) (e := d) (t' := s.toks) (h' := s.heap) (by rw [h]; exact mu) (.inl rfl) (fun b v _ q => q) ⟨od, e⟩ new⟩
end
section
variable {X : Cx}
theorem pi_one {tg : Expr} {pins : List (Addr × Obj)} {σ : St} {H : Hp} {s : Shared} {R : It → Hp → Prop} {J : It} {tn : Nat → Heap → Prop} {tk : Nat} (I : Inv X pins σ H s) (o : Obj)
    (T : Turn X.prog X.w X.K tg J [s.heap.objs.size] s.heap.objs.size tn) (st : tn 0 (s.heap.push o)) (q : R J H) : PIE X pins σ tg R (.ref s.heap.objs.size) { s with heap := s.heap.push o, toks := tk } := by
  refine ⟨s.heap.objs.size, [s.heap.objs.size], tn, J, H, rfl, I.kept fun b ob e => Heap.get?_push_of_some _ e, T, st, fun b hb => ?_, q⟩
  have e : b = s.heap.objs.size := by simpa using hb
  subst e
  exact I.fpOk (Nat.le_refl _) (I.hok.fresh (Nat.le_refl _))
end
def RgC (i j c : Int) (n : Nat) : Prop := c ≠ 0 ∧ c.natAbs < 1073741824 ∧ Builtin.Range.small i j c = true ∧ Builtin.Range.rangeSize i j c = n
theorem RgC.neg {i j : Int} (ha : -(2 ^ 62) ≤ i) (ha' : i < 2 ^ 62) (hb : -(2 ^ 62) ≤ j) (hb' : j < 2 ^ 62) : RgC i j (-1) (i - j).toNat :=
  ⟨by decide, by decide, PySem.W.small_down ha ha' hb hb', PySem.W.rangeSize_downNat i j⟩
section
variable {X : Cx} {tg : Expr}
end
section
variable {X : Cx} {tg : Expr}
end
section
variable {prog : Program} {w : World} {A : Around} {E : Value → Shared → Prop} {s : Shared}
theorem iter_keys {d : Addr} {o : Obj} {es : Array DictEntry} {ep : Nat} {Q : Value → Shared → Prop} (hd : (d == sysModules) = false) (ho : s.heap.get? d = some o) (hc : o.ExactDict) (hdat : o.data = .dict es ep)
    (hQ : Q (.ref s.heap.objs.size) { s with heap := s.heap.push { cls := .type "dict_keyiterator", data := .fields #[.ref d, .int 0 0, .int es.size 0, .int ep 0] } }) :
    wpAny (model prog w) A (pyIter (.ref d)) Q E s := by
  have hT : s.TypeIs (.ref d) "dict" := ⟨o, ho, hc.1⟩
  refine wpAny_pyIter_slot hT F.slot_dict_iter (wpAny_call_entry F.slot_dict_iter hT F.entry_dict_iter ?_ (F.args_dict_iter_1 _))
  unfold Builtin.«dict.__iter__»
  refine wpAny_bind ?_
  unfold Builtin.Dict.dictSlotNone
  refine wpAny_bind (wpAny_notOrdered_dict hT ?_)
  show wpAny _ _ (pure (Value.ref d)) _ _ s
  refine wpAny_pure ?_
  show wpAny _ _ (Builtin.Dict.showsAll d >>= _) _ _ s
  unfold Builtin.Dict.showsAll
  rw [if_neg (by rw [hd]; exact Bool.false_ne_true)]
  refine wpAny_bind (wpAny_pure ?_)
  refine wpAny_bind (wpAny_dictEntries ho hdat ?_)
  refine wpAny_bind (wpAny_dictEpoch ho hdat ?_)
  refine wpAny_bind (wpAny_newObj_type (wpAny_pure ⟨_, rfl, "dict_keyiterator", _, ⟨_, Heap.get?_push_size _ rfl, rfl⟩, F.slot_dict_keyiterator_next.lookup, ?_⟩))
  simpa [rawInt] using hQ
theorem next_key_item {it d : Addr} {i n ep : Nat} {od : Obj} {es : Array DictEntry} {en : DictEntry} {Q : Option Value → Shared → Prop} (hit : s.heap.IsKeyIter it d i n ep) (hod : s.heap.get? d = some od) (hdd : od.data = .dict es ep)
    (hsz : es.size = n) (hx : es[i]? = some en) (hQ : ∀ h', h'.IsKeyIter it d (i + 1) n ep → Heap.SameBut it s.heap h' → Q (some en.key) { s with heap := h' }) : wpAny (model prog w) A (pyNext (.ref it)) Q E s := by
  obtain ⟨o, ho, hc, hd⟩ := id hit
  unfold pyNext
  refine wpAny_bind (wpAny_attempt (wpAny_callSpecial?_slot (name := Str.ofString "__next__") hit.typeIs F.slot_dict_keyiterator_next
    (wpAny_call_entry F.slot_dict_keyiterator_next hit.typeIs F.entry_dict_keyiterator_next ?_ (F.args_dict_keyiterator_next_1 _))))
  refine wpAny_bind (wpAny_pure ?_)
  refine wpAny_bind ?_
  refine wpAny_bind ?_
  first | refine wpAny_bind (wpAny_typeNameOfWhole_keyiter hit.typeIs (wpAny_pure ?_)) | refine wpAny_bind (wpAny_typeNameOf_keyiter hit.typeIs (wpAny_pure ?_))
  refine wpAny_bind (wpAny_fieldsOf ho hd ?_)
  have hown : Builtin.Dict_items.ownsTuple "dict_keyiterator" = false := by decide
  simp only [hown, Bool.false_eq_true, if_false]
  show wpAny _ _ (if (Value.ref d == Value.none) = true then _ else _) _ _ s
  rw [if_neg (show ¬ ((Value.ref d == Value.none) = true) from Bool.false_ne_true)]
  refine wpAny_bind (wpAny_pure ?_)
  refine wpAny_bind (wpAny_dictEntries hod hdd ?_)
  rw [if_neg (by rw [hsz]; simp)]
  refine wpAny_bind (wpAny_pure ?_)
  refine wpAny_bind (wpAny_dictEpoch hod hdd ?_)
  rw [if_neg (by simp)]
  refine wpAny_pure ?_
  obtain ⟨hlt', hen⟩ := Array.getElem?_eq_some_iff.mp hx
  simp only [show ¬ ((i : Int) < 0) from by omega, if_false, Int.toNat_natCast, Array.getElem?_eq_getElem hlt']
  refine wpAny_bind ?_
  first | refine wpAny_bind (wpAny_typeNameOfWhole_keyiter hit.typeIs (wpAny_pure ?_)) | refine wpAny_bind (wpAny_typeNameOf_keyiter hit.typeIs (wpAny_pure ?_))
  refine wpAny_bind (wpAny_isOneOf_keyiter hit.typeIs ?_)
  show wpAny _ _ (setField (.ref it) 1 (rawInt ((i : Int) + 1)) >>= _) _ _ s
  refine wpAny_bind (wpAny_setField ho hd (by simp) ?_)
  have hit' : (s.heap.update it (Obj.mapFields (·.setIfInBounds 1 (rawInt ((i : Int) + 1))))).IsKeyIter it d (i + 1) n ep :=
    ⟨_, Heap.get?_update_self _ ho (Obj.isFreed_of_fields (Obj.data_mapFields hd _)), (Obj.cls_mapFields ..).trans hc, by rw [Obj.data_mapFields hd]; simp [rawInt]⟩
  refine wpAny_bind (wpAny_holding ?_)
  refine wpAny_bind (wpAny_isOneOf_keyiter (s := { s with heap := s.heap.update it (Obj.mapFields (·.setIfInBounds 1 (rawInt ((i : Int) + 1)))) }) hit'.typeIs ?_)
  show wpAny _ _ (pure es[i].key) _ _ _
  rw [hen]
  exact wpAny_pure (wpAny_pure ⟨_, rfl, wpAny_pure (hQ _ hit' (Heap.SameBut.update ..))⟩)
theorem next_key_end {it d : Addr} {i n ep : Nat} {od : Obj} {es : Array DictEntry} {Q : Option Value → Shared → Prop} (hh : A.handled = none) (hit : s.heap.IsKeyIter it d i n ep) (hod : s.heap.get? d = some od) (hdd : od.data = .dict es ep)
    (hsz : es.size = n) (hge : n ≤ i) (hQ : ∀ h', Heap.ExtBut it s.heap h' → Q none { s with heap := h' }) : wpAny (model prog w) A (pyNext (.ref it)) Q E s := by
  obtain ⟨o, ho, hc, hd⟩ := id hit
  unfold pyNext
  refine wpAny_bind (wpAny_attempt (wpAny_callSpecial?_slot (name := Str.ofString "__next__") hit.typeIs F.slot_dict_keyiterator_next
    (wpAny_call_entry F.slot_dict_keyiterator_next hit.typeIs F.entry_dict_keyiterator_next ?_ (F.args_dict_keyiterator_next_1 _))))
  refine wpAny_bind (wpAny_pure ?_)
  refine wpAny_bind ?_
  refine wpAny_bind ?_
  first | refine wpAny_bind (wpAny_typeNameOfWhole_keyiter hit.typeIs (wpAny_pure ?_)) | refine wpAny_bind (wpAny_typeNameOf_keyiter hit.typeIs (wpAny_pure ?_))
  refine wpAny_bind (wpAny_fieldsOf ho hd ?_)
  have hown : Builtin.Dict_items.ownsTuple "dict_keyiterator" = false := by decide
  simp only [hown, Bool.false_eq_true, if_false]
  show wpAny _ _ (if (Value.ref d == Value.none) = true then _ else _) _ _ s
  rw [if_neg (show ¬ ((Value.ref d == Value.none) = true) from Bool.false_ne_true)]
  refine wpAny_bind (wpAny_pure ?_)
  refine wpAny_bind (wpAny_dictEntries hod hdd ?_)
  rw [if_neg (by rw [hsz]; simp)]
  refine wpAny_bind (wpAny_pure ?_)
  refine wpAny_bind (wpAny_dictEpoch hod hdd ?_)
  rw [if_neg (by simp)]
  refine wpAny_pure ?_
  have hge' : es.size ≤ i := by rw [hsz]; exact hge
  simp only [show ¬ ((i : Int) < 0) from by omega, if_false, Int.toNat_natCast, Array.getElem?_eq_none hge']
  refine wpAny_bind ?_
  first | refine wpAny_bind (wpAny_typeNameOfWhole_keyiter hit.typeIs (wpAny_pure ?_)) | refine wpAny_bind (wpAny_typeNameOf_keyiter hit.typeIs (wpAny_pure ?_))
  show wpAny _ _ (setField (.ref it) 0 .none >>= _) _ _ s
  refine wpAny_bind (wpAny_setField ho hd (by simp) ?_)
  show wpAny _ _ (newExc (.type "StopIteration") [] >>= _) _ _ _
  refine wpAny_bind ?_
  simp only [newExc, newTuple]
  refine wpAny_bind (wpAny_newObj_type ?_ (by size_fits))
  refine wpAny_bind (m := firstArgMember _ _) (wpAny_of_eq (a := Value.none) (by first | rfl | (simp only [firstArgMember]; rfl)) ?_)
  refine wpAny_newObj_type ?_ (by size_fits)
  simp only [raiseNew]
  refine wpAny_bind (wpAny_handled ?_)
  rw [show A.in1.handled = none from hh]
  refine wpAny_bind (wpAny_pure (wpAny_throw ?_))
  refine wpAny_bind (wpAny_isInstance (T := "StopIteration") (b := true) ⟨_, Heap.get?_push_size _ rfl, rfl⟩ isSubtype_stop ?_)
  exact wpAny_pure (hQ _ (((Heap.SameBut.update ..).extBut.push _).push _))
end
theorem kv_get {κ : Type} {kvs : List (κ × V)} {vs : List (κ × Value)} (h : KV kvs vs) : ∀ {i : Nat} {k : κ} {v : V}, kvs[i]? = some (k, v) → ∃ u, vs[i]? = some (k, u) ∧ RelV v u := by
  unfold KV at h
  induction h with
  | nil => intro i k v e; simp at e
  | @cons a b l₁ l₂ r t ih =>
    intro i k v e
    cases i with
    | zero =>
      simp only [List.getElem?_cons_zero, Option.some.injEq] at e
      subst e
      refine ⟨b.2, ?_, r.2⟩
      simp only [List.getElem?_cons_zero]
      exact congrArg some (Prod.ext r.1.symm rfl)
    | succ j =>
      simp only [List.getElem?_cons_succ] at e ⊢
      exact ih e
theorem paired_get {α β : Type} {G : α → β → Prop} {l₁ : List α} {l₂ : List β} (h : Paired G l₁ l₂) : ∀ {i : Nat} {a : α}, l₁[i]? = some a → ∃ b, l₂[i]? = some b ∧ G a b := by
  induction h with
  | nil => intro i a e; simp at e
  | @cons a b l₁ l₂ r t ih =>
    intro i a' e
    cases i with
    | zero =>
      simp only [List.getElem?_cons_zero, Option.some.injEq] at e
      subst e
      exact ⟨b, rfl, r⟩
    | succ j =>
      simp only [List.getElem?_cons_succ] at e ⊢
      exact ih e
theorem relV_key {k : Key} {u : Value} (h : keyIs k u = true) : RelV (kV k) u := by
  rcases keyIs_shape h with ⟨i, t, rfl, rfl⟩ | ⟨x, t, rfl, rfl⟩
  · exact ⟨t, rfl⟩
  · exact ⟨t, rfl⟩
section
variable {X : Cx} {pins : List (Addr × Obj)} {σ : St} {H : Hp} {s : Shared} {d : Addr} {o : Obj}
theorem Inv.frzK {kvs : List (Key × V)} (I : Inv X pins σ H s) (h : H d = some (.frz o (.dK kvs))) :
    (d == sysModules) = false ∧ s.heap.get? d = some o ∧ o.ExactDict ∧ ∃ (es : Array DictEntry) (ep : Nat) (vs : List (Key × Value)), o.data = .dict es ep ∧ es.size = kvs.length ∧ KV kvs vs ∧ s.heap.DictAt (mixKind X.prog X.w) d vs ep := by
  obtain ⟨hd, z, hs, vs, kv, o', es, ep, ho, hx, hdt, r⟩ := I.hok d _ h
  rw [hd] at ho
  cases ho
  refine ⟨hs, hd, hx, es, ep, vs, hdt, ?_, kv, o, es, hd, hx, hdt, r⟩
  have l1 := r.2.1.length
  have l2 : kvs.length = vs.length := Paired.length kv
  rw [Array.length_toList] at l1
  omega
theorem Inv.frzT {kvs : List (List Key × V)} (I : Inv X pins σ H s) (h : H d = some (.frz o (.dT kvs))) :
    (d == sysModules) = false ∧ s.heap.get? d = some o ∧ o.ExactDict ∧ ∃ (es : Array DictEntry) (ep : Nat), o.data = .dict es ep ∧ es.size = kvs.length ∧
      ∀ (i : Nat) (k : List Key) (v : V), kvs[i]? = some (k, v) → ∃ (en : DictEntry) (q : Addr), es[i]? = some en ∧ en.key = .ref q ∧ H q = some (.tup (k.map kV)) := by
  obtain ⟨hd, z, hs, xs, pr, o', es, ep, ho, hx, hdt, he, _⟩ := I.hok d _ h
  rw [hd] at ho
  cases ho
  refine ⟨hs, hd, hx, es, ep, hdt, ?_, fun i k v e => ?_⟩
  · have l1 : es.size = xs.length := size_of_entries he
    have l2 : kvs.length = xs.length := Paired.length pr
    omega
  · obtain ⟨b, hb, e1, e2, _⟩ := paired_get pr e
    have q := entry_at he i
    rw [hb] at q
    exact ⟨_, b.2.1, q, rfl, e2⟩
end
def Itk (d : Addr) (o : Obj) (kvs : List (Key × V)) : It :=
  ⟨fun i H => H d = some (.frz o (.dK kvs)) ∧ i < kvs.length, fun i H x H' => H' = H ∧ ∃ k v, kvs[i]? = some (k, v) ∧ x = kV k, fun i H => H d = some (.frz o (.dK kvs)) ∧ kvs.length ≤ i⟩
def Itkt (d : Addr) (o : Obj) (kvs : List (List Key × V)) : It :=
  ⟨fun i H => H d = some (.frz o (.dT kvs)) ∧ i < kvs.length, fun i H x H' => H' = H ∧ ∃ (k : List Key) (v : V) (q : Addr), kvs[i]? = some (k, v) ∧ x = .ref q ∧ H q = some (.tup (k.map kV)), fun i H => H d = some (.frz o (.dT kvs)) ∧ kvs.length ≤ i⟩
theorem dict_ep {o : Obj} {es es' : Array DictEntry} {ep ep' : Nat} (h : o.data = .dict es ep) (h' : o.data = .dict es' ep') : es' = es ∧ ep' = ep := by
  rw [h] at h'
  cases h'
  exact ⟨rfl, rfl⟩
section
variable {P : Program} {w : World} {K : PySem.W.Frag} {tg : Expr} {d : Addr} {o : Obj} {es : Array DictEntry} {ep : Nat}
theorem turn_keys {kvs : List (Key × V)} (it : Addr) (hod : o.data = .dict es ep) : Turn P w K tg (Itk d o kvs) [it] it (fun i h => h.IsKeyIter it d i kvs.length ep) where
  mem := by simp
  obj := fun i h st b hb => by
    have e : b = it := by simpa using hb
    subst e
    obtain ⟨oi, e, c, dd⟩ := st
    exact ⟨oi, e, fun v z => by rw [dd] at z; cases z⟩
  keep := fun i h h' st k => st.at fun oi e => k it (by simp) oi e
  item := by
    intro X hP hw hK hc i pins s σ H E I hf st hg
    subst hP hw hK
    obtain ⟨hd, hi⟩ := hg
    obtain ⟨f0, f1, f2, f3, f4, f5⟩ := hf it (by simp)
    obtain ⟨hs, hgd, hx, es', ep', vs, hdt, hsz, kv, hm⟩ := I.frzK hd
    obtain ⟨rfl, rfl⟩ := dict_ep hod hdt
    obtain ⟨⟨k, v⟩, hkv⟩ : ∃ p, kvs[i]? = some p := ⟨kvs[i], List.getElem?_eq_getElem hi⟩
    obtain ⟨u, hu, ru⟩ := kv_get kv hkv
    have hl : kvs.length = vs.length := Paired.length kv
    rw [hl] at st
    refine wpAny_pyNext_dict_item st hm hu fun key h' hkey st' sb => ?_
    have I1 : Inv X pins σ H { s with heap := h' } := I.turned (t' := s.toks) (fun b ob hb e => (sb.2 b hb).trans e) f0 f1 f3 f4 f5
    obtain ⟨oi, e, c, dd⟩ := id st'
    refine ⟨key, rfl, go_of (s := { s with heap := h' }) e c dd (by decide) ⟨kV k, H, I1, relV_key (show keyIs k key = true from hkey), ⟨rfl, k, v, hkv, rfl⟩, ?_, fun b hb => (hf b hb).1⟩⟩
    show h'.IsKeyIter it d (i + 1) kvs.length _
    rw [hl]
    exact st'
  done := by
    intro X hP hw hK hc i pins s σ H E I hf st hg
    subst hP hw hK
    obtain ⟨hd, hi⟩ := hg
    obtain ⟨f0, f1, f2, f3, f4, f5⟩ := hf it (by simp)
    obtain ⟨hs, hgd, hx, es', ep', vs, hdt, hsz, kv, hm⟩ := I.frzK hd
    obtain ⟨rfl, rfl⟩ := dict_ep hod hdt
    exact next_key_end (I.ok.hd hc) st hgd hdt hsz hi fun h' eb => ⟨rfl, I.turned (t' := s.toks) (fun b ob hb e => eb b ob hb e) f0 f1 f3 f4 f5⟩
  self := fun A i s Q E st h => wpAny_pyIter_keyiter st h
theorem turn_keysT {kvs : List (List Key × V)} (it : Addr) (hod : o.data = .dict es ep) : Turn P w K tg (Itkt d o kvs) [it] it (fun i h => h.IsKeyIter it d i kvs.length ep) where
  mem := by simp
  obj := fun i h st b hb => by
    have e : b = it := by simpa using hb
    subst e
    obtain ⟨oi, e, c, dd⟩ := st
    exact ⟨oi, e, fun v z => by rw [dd] at z; cases z⟩
  keep := fun i h h' st k => st.at fun oi e => k it (by simp) oi e
  item := by
    intro X hP hw hK hc i pins s σ H E I hf st hg
    subst hP hw hK
    obtain ⟨hd, hi⟩ := hg
    obtain ⟨f0, f1, f2, f3, f4, f5⟩ := hf it (by simp)
    obtain ⟨hs, hgd, hx, es', ep', hdt, hsz, ent⟩ := I.frzT hd
    obtain ⟨rfl, rfl⟩ := dict_ep hod hdt
    obtain ⟨⟨k, v⟩, hkv⟩ : ∃ p, kvs[i]? = some p := ⟨kvs[i], List.getElem?_eq_getElem hi⟩
    obtain ⟨en, q, hen, hkey, hq⟩ := ent i k v hkv
    refine next_key_item st hgd hdt hsz hen fun h' st' sb => ?_
    have I1 : Inv X pins σ H { s with heap := h' } := I.turned (t' := s.toks) (fun b ob hb e => (sb.2 b hb).trans e) f0 f1 f3 f4 f5
    obtain ⟨oi, e, c, dd⟩ := id st'
    exact ⟨en.key, rfl, go_of (s := { s with heap := h' }) e c dd (by decide) ⟨.ref q, H, I1, hkey, ⟨rfl, k, v, q, hkv, rfl, hq⟩, st', fun b hb => (hf b hb).1⟩⟩
  done := by
    intro X hP hw hK hc i pins s σ H E I hf st hg
    subst hP hw hK
    obtain ⟨hd, hi⟩ := hg
    obtain ⟨f0, f1, f2, f3, f4, f5⟩ := hf it (by simp)
    obtain ⟨hs, hgd, hx, es', ep', hdt, hsz, ent⟩ := I.frzT hd
    obtain ⟨rfl, rfl⟩ := dict_ep hod hdt
    exact next_key_end (I.ok.hd hc) st hgd hdt hsz hi fun h' eb => ⟨rfl, I.turned (t' := s.toks) (fun b ob hb e => eb b ob hb e) f0 f1 f3 f4 f5⟩
  self := fun A i s Q E st h => by
    refine wpAny_pyIter_slot st.typeIs F.slot_dict_keyiterator_iter (wpAny_call_entry F.slot_dict_keyiterator_iter st.typeIs F.entry_dict_keyiterator_iter ?_ (F.args_dict_keyiterator_iter_1 _))
    show wpAny _ _ (ret (.ref it)) _ _ s
    exact wpAny_pure ⟨_, rfl, "dict_keyiterator", _, st.typeIs, F.slot_dict_keyiterator_next.lookup, h⟩
end
def iKeys (td : TE) : TI := fun σ H R => td σ H fun x H1 => ∃ d o, x = .ref d ∧ ((∃ kvs, H1 d = some (.frz o (.dK kvs)) ∧ R (Itk d o kvs) H1) ∨ ∃ kvs, H1 d = some (.frz o (.dT kvs)) ∧ R (Itkt d o kvs) H1)
section
variable {X : Cx} {tg e : Expr} {td : TE} {apos cpos : Pos}
theorem pi_keys (he : PE X e td) : PI X tg e (iKeys td) := by
  intro pins s σ H R I h
  refine thn (he pins s σ H _ I h) fun u s1 ⟨x, H1, I1, rx, d, o, ex, q⟩ => ?_
  subst ex
  obtain rfl : u = Value.ref d := rx
  rcases q with ⟨kvs, hd, q⟩ | ⟨kvs, hd, q⟩
  · obtain ⟨hs, hgd, hx, es, ep, vs, hdt, hsz, kv, hm⟩ := I1.frzK hd
    refine iter_keys hs hgd hx hdt (pi_one (tk := s1.toks) I1 _ (turn_keys _ hdt) ⟨_, Heap.get?_push_size _ rfl, rfl, ?_⟩ q)
    rw [hsz] <;> rfl
  · obtain ⟨hs, hgd, hx, es, ep, hdt, hsz, ent⟩ := I1.frzT hd
    refine iter_keys hs hgd hx hdt (pi_one (tk := s1.toks) I1 _ (turn_keysT _ hdt) ⟨_, Heap.get?_push_size _ rfl, rfl, ?_⟩ q)
    rw [hsz] <;> rfl
end
end L2
section 
namespace Bits
open PySem PyProof.Rows
end Bits
end 
section 
namespace TL
open PySem PySem.Builtin PySem.Builtin.Str PySem.StrLaws
abbrev tl (x : Str) : List Nat := x.cps.toList
def pre (S l : List Nat) : Bool := l.take S.length == S
def spl (S : List Nat) : Nat → List Nat → List Nat → List (List Nat)
  | _, acc, [] => [acc]
  | 0, acc, c :: r => if pre S (c :: r) = true then acc :: spl S (S.length - 1) [] r else spl S 0 (acc ++ [c]) r
  | k + 1, acc, _ :: r => spl S k acc r
end TL
end 
namespace L2
open PySem PySem.Spec PyProof.Rows
section
variable {X : Cx} {pins : List (Addr × Obj)} {σ : St} {H : Hp} {s : Shared} {Q : VK}
end
section
variable {X : Cx}
end
section
variable {X : Cx} {o e : Expr} {to te : TE}
end
end L2
namespace L2
open PySem PySem.Spec PyProof.Rows
section
variable {X : Cx}
end
end L2
namespace Att
open PySem PySem.W PySem.Calls PyProof.Rows
theorem ints_of_wellAll {P : Params} {h : Heap} : ∀ (ns : List Int) (vs : List Value), WellAll P h vs (ns.map WData.int) → IntsAre vs ns := by
  intro ns
  induction ns with
  | nil =>
    intro vs w
    rw [List.map_nil] at w
    cases w
    exact .nil
  | cons n ns ih =>
    intro vs w
    rw [List.map_cons] at w
    cases w with
    | cons a b =>
      cases a
      exact .cons _ _ (ih _ b)
theorem script_of {l : OpenLaw} {n : Nat} (hn : l.most = some n) {P : Params} {h : Heap} {args : List WData} {vals : List Value}
    (hpre : l.row.toRowW.claim.pre args = true) (hwl : WellAll P h vals args) :
    ∃ a vs ns, vals = [Value.ref a] ∧ args = [WData.list (ns.map WData.int)] ∧ h.get? a = some { cls := .type "list", data := .seq vs.toArray } ∧ IntsAre vs ns ∧ ns.length ≤ n := by
  have hsh : WShape.hasAll [] args [.list .int] = true := (pre_splitW hpre).1
  have hc : l.pre.holds [] { args := args } = true := (pre_splitW hpre).2
  obtain ⟨d, r, rfl, h1, h2⟩ := hasAllW_cons hsh
  obtain rfl := hasAllW_nil h2
  obtain ⟨xs, rfl, h3⟩ := hasW_list h1
  obtain ⟨ns, rfl⟩ := items_int h3
  have hlen : ns.length ≤ n := by
    unfold OpenLaw.pre at hc
    have h4 : (WTm.not (.lt (.lit (.int (n : Int))) (.len (.arg 0)))).holds [] { args := [.list (ns.map .int)] } = true := by
      have h4 := (holds_andW hc).1
      rw [hn] at h4
      exact h4
    have h5 := condW_of h4 (w_not (w_lt w_lit (w_len_list (w_arg rfl))))
    rw [List.length_map] at h5
    refine Nat.le_of_not_lt fun q => ?_
    have q' : (n : Int) < ((ns.length : Nat) : Int) := by omega
    first
      | (rw [decide_eq_true q'] at h5; exact absurd h5 (by decide))
      | (simp at h5; omega)
  cases hwl with
  | cons w1 w2 =>
    cases w2
    cases w1 with
    | list ho hall => exact ⟨_, _, ns, rfl, rfl, ho, ints_of_wellAll ns _ hall, hlen⟩
theorem post_true (l : OpenLaw) (args : List WData) : l.row.toRowW.claim.post args (.bool true) args = true :=
  postW_of (r := l.row.toRowW) (X := (true == true))
    (show WShape.has [] (.bool true) .bool = true by first | rfl | decide | simp [WShape.has, WShape.arms, WShape.armsAll])
    (show (WTm.eq .res (.lit (.bool true))).value [] { args := args, res := some (.bool true), after := args } = some (.bool (true == true)) from w_eq_bool (w_res rfl) w_lit) rfl
theorem attach_call {l : OpenLaw} {n : Nat} {q : Program} {loose : List Str} {XP : (Str → Option Value) → Heap → Prop} {YP : World → Heap → Prop} {d : DefRec}
    (hn : l.most = some n) (hdf : d.params.defaults = [])
    (call : ∀ (w : World) (s₀ s₁ : Shared) (mg mb : Str → Option Value) (fa : Addr) (o : Obj) (pm cd doc : Value) (a : Addr) (vs : List Value) (ns : List Int),
      Ground q loose [] XP w s₀ mg mb s₁.heap → YP w s₁.heap →
      s₁.heap.get? fa = some o → o.data = .func (docDef d.name d.params d.body d.scope pm cd doc) → s₁.heap.CodeRec cd d.name → mg d.name = some (.ref fa) →
      s₁.heap.get? a = some { cls := .type "list", data := .seq vs.toArray } → IntsAre vs ns → ns.length ≤ n → s₁.gens = #[] →
      codeAny (model l.prog w) callerA (.call (.ref fa) ⟨[.ref a], []⟩) (fun r s' => r = .ok (.ret (.bool true)) ∧ OldK s₁.heap s'.heap ∧ s'.os = s₁.os ∧ AllBare s'.gens) s₁) :
    WalkO q loose XP YP l.row.toRowW d [] (fun f vs => PySem.call f vs) := by
  intro w s₀ s₁ mg mb G Y fa o pm cd doc dV kV ho hd hcd hD hmg hg args vals as hpre hlay hrd hwl hlo
  obtain rfl : dV = .none := Dflts.none hD hdf
  obtain rfl : kV = .none := Dflts.noKw hD
  obtain ⟨a, vs, ns, rfl, rfl, hobj, hints, hlen⟩ := script_of hn hpre hwl
  refine enter_call (codeAny_mono (call w s₀ s₁ mg mb fa o pm cd doc a vs ns G Y ho (fd_plain hd) hcd hmg hobj hints hlen hg) fun r s' hq => ?_)
  obtain ⟨rfl, h2, h3, h4⟩ := hq
  exact ⟨.inl ⟨.bool true, .bool true, [], rfl, fun _ => rfl, .bool true, post_true l _, fun _ => ⟨List.Pairwise.nil, fun _ hm => (nomatch hm)⟩⟩, h2, h3, h4⟩
section
variable {prog : Program} {w : World} {A : Around} {E : Value → Shared → Prop} {s : Shared} {K : Frag}
end
end Att
namespace L2
open PySem PySem.Spec PyProof.Rows
theorem vals_ints : ∀ {vs : List Value} {ns : List Int}, IntsAre vs ns → Vals (ns.map V.int) vs
  | _, _, .nil => .nil
  | _, _, .cons n t h => .cons ⟨t, rfl⟩ (vals_ints h)
def Only (H : Hp) : Prop := ∀ b, H b = none ∨ (∃ o xs, H b = some (.frz o (.lst xs))) ∨ ∃ q, H b = some (.tbl q)
def tabsGood (K : PySem.W.Frag) (ts : List Addr) : Bool :=
  (tabsOf K).all (fun t => ts.contains t.2.1 && PySem.W.codeHdIn K t.1 t.2.1) && PySem.W.noTabs K && (tabsOf K).all fun t => (tabsOf K).all fun u => !(t.2.1 == u.2.1) || t.2.2 == u.2.2
theorem law_call {P : Program} {w : World} {K : PySem.W.Frag} {mg mb : Str → Option Value} {CX : CXT} {k : Nat} {fa a : Addr} {fd : FuncData} {x : Str} {sp : Sp} {s₁ : Shared} {vs : List Value} {ns : List Int} {ts : List Addr}
    (hts : ∀ P ∈ ts, s₁.heap.get? P = some (PySem.W.tabObj #[])) (hgood : tabsGood K ts = true)
    (KX : K.In s₁.heap) (hns : s₁.heap.Ns mainGlobals mg) (hb : s₁.heap.Ns builtinsNs mb) (hbb : ∀ x : Str, x ≠ "__name__" → mb x = bootBuiltins x) (hlim : s₁.heap.NoLimit) (hbm : ∃ bm ob, mg "__builtins__" = some (.ref bm) ∧ bm ≠ builtinsNs ∧ s₁.heap.get? bm = some ob ∧ ob.cls = .type "module" ∧ ob.dict = some builtinsNs ∧ ob.data = .plain) (hg : s₁.gens = #[])
    (ha : s₁.heap.get? a = some { cls := .type "list", data := .seq vs.toArray }) (hi : IntsAre vs ns) (hl : ns.length ≤ sizeLine) (hr : Room k callerA)
    (F : ∀ base : Heap, K.In base → base.Ns mainGlobals mg → FnOk P w K mg base CX k fa fd [x] sp) (hbind : ∀ (s : Shared) (u : Value), BindsTo s fd ⟨[u], []⟩ [(x, u)])
    (hsp : ∀ H : Hp, Only H → SqL K H a (ns.map V.int) → sp [.ref a] H (fun v _ => v = .bl true) fun _ _ _ => False)
    (hCX : ∀ H e s', CX [] H s₁ (fun _ _ _ => False) e s' → False) :
    codeAny (model P w) callerA (.call (.ref fa) ⟨[.ref a], []⟩) (fun r s' => r = .ok (.ret (.bool true)) ∧ OldK s₁.heap s'.heap ∧ s'.os = s₁.os ∧ AllBare s'.gens) s₁ := by
  have rv := vals_ints hi
  have lenV := hi.length
  unfold tabsGood at hgood
  rw [Bool.and_eq_true, Bool.and_eq_true] at hgood
  obtain ⟨⟨hg1, hg2⟩, hg3⟩ := hgood
  have hg1 : ∀ t ∈ tabsOf K, t.2.1 ∈ ts ∧ PySem.W.codeHdIn K t.1 t.2.1 = true := fun t ht => by
    have z := List.all_eq_true.mp hg1 t ht
    rw [Bool.and_eq_true] at z
    exact ⟨List.contains_iff_mem.mp z.1, z.2⟩
  have hg3 : ∀ t ∈ tabsOf K, ∀ u ∈ tabsOf K, t.2.1 = u.2.1 → t.2.2 = u.2.2 := fun t ht u hu e => by
    have z := List.all_eq_true.mp (List.all_eq_true.mp hg3 t ht) u hu
    rw [e] at z
    simpa using z
  have tget : ∀ t ∈ tabsOf K, s₁.heap.get? t.2.1 = some (PySem.W.tabObj #[]) := fun t ht => hts _ (hg1 t ht).1
  have tK : ∀ b o, K.lookup b = some o → o ≠ PySem.W.tabObj #[] := fun b o e q => by
    have h2 := List.all_eq_true.mp hg2 (b, o) (PySem.W.mem_of_lookupK e)
    subst q
    exact absurd (show false = true from h2) Bool.false_ne_true
  -- the tables
  let T : Hp := fun b => ((tabsOf K).find? fun t => t.2.1 == b).map fun t => .tbl t.2.2
  have T_some : ∀ b u, T b = some u → ∃ t ∈ tabsOf K, t.2.1 = b ∧ u = .tbl t.2.2 := fun b u e => by
    have e' : ((tabsOf K).find? fun t => t.2.1 == b).map (fun t => HO.tbl t.2.2) = some u := e
    obtain ⟨t, h1, h2⟩ := Option.map_eq_some_iff.mp e'
    exact ⟨t, List.mem_of_find?_eq_some h1, by have := List.find?_some h1; simpa using this, h2.symm⟩
  have T_mem : ∀ t ∈ tabsOf K, T t.2.1 = some (.tbl t.2.2) := fun t ht => by
    cases e : (tabsOf K).find? fun u => u.2.1 == t.2.1 with
    | none => exact absurd (show (t.2.1 == t.2.1) = true by simp) (List.find?_eq_none.mp e t ht)
    | some u =>
      have e2 : u.2.1 = t.2.1 := by have := List.find?_some e; simpa using this
      have e3 := hg3 u (List.mem_of_find?_eq_some e) t ht e2
      show ((tabsOf K).find? fun u => u.2.1 == t.2.1).map (fun t => HO.tbl t.2.2) = _
      rw [e, Option.map_some, e3]
  have T_obj : ∀ b u, T b = some u → s₁.heap.get? b = some (PySem.W.tabObj #[]) := fun b u e => by
    obtain ⟨t, ht, rfl, _⟩ := T_some b u e
    exact tget t ht
  have T_a : T a = none := by
    cases e : T a with
    | none => rfl
    | some u =>
      have := T_obj a u e
      rw [ha] at this
      cases this
  have T_ok : ∀ (H : Hp) b u, T b = some u → ObjOk P w H s₁.heap b u := fun H b u e => by
    have e2 := T_obj b u e
    obtain ⟨t, ht, rfl, rfl⟩ := T_some b u e
    exact ⟨#[], e2, trivial, fun pos v hv => by cases hv⟩
  -- from an abstract heap in which nothing but the script and the tables may be tracked
  have core : ∀ H : Hp, Only H → SqL K H a (ns.map V.int) → HOk P w H s₁.heap → (∀ b, H b ≠ none → b = a ∨ H b = T b) → (∀ b, b ≠ a → H b = T b) → (H a ≠ none → K.lookup a = none) →
      codeAny (model P w) callerA (.call (.ref fa) ⟨[.ref a], []⟩) (fun r s' => r = .ok (.ret (.bool true)) ∧ OldK s₁.heap s'.heap ∧ s'.os = s₁.os ∧ AllBare s'.gens) s₁ := by
    intro H hO hS hok hA hT hK
    have base_of : ∀ {b : Addr} {o : Obj}, s₁.heap.get? b = some o → H b = none → (hidT s₁.heap H).get? b = some o := fun e n => hidT_get e n
    have noA : ∀ {b : Addr} {o : Obj} {es : Array DictEntry} {ep : Nat}, s₁.heap.get? b = some o → o.data = .dict es ep → H b = none := fun {b o es ep} e d => by
      cases q : H b with
      | none => rfl
      | some u =>
        rcases hA b (by rw [q]; simp) with e' | e'
        · subst e'
          rw [ha] at e; cases e
          have d' : Data.seq vs.toArray _ = Data.dict es ep := d
          cases d'
        · rw [q] at e'
          have := T_obj b u e'.symm
          rw [e] at this; cases this; cases d
    have nsK : ∀ {b : Addr} {m : Str → Option Value}, s₁.heap.Ns b m → (hidT s₁.heap H).Ns b m := fun {b m} ⟨o, es, ep, e, d, r⟩ => ⟨o, es, ep, base_of e (noA e d), d, r⟩
    have hKb : K.In (hidT s₁.heap H) := fun b o e => base_of (KX b o e) (by
      cases q : H b with
      | none => rfl
      | some u =>
        rcases hA b (by rw [q]; simp) with e' | e'
        · subst e'
          rw [hK (by rw [q]; simp)] at e; cases e
        · rw [q] at e'
          have := T_obj b u e'.symm
          rw [KX b o e] at this; cases this
          exact absurd rfl (tK b _ e))
    have hM : Mod K mg (hidT s₁.heap H) := ⟨hKb, nsK hns, ⟨mb, nsK hb, hbb⟩, let ⟨mc, h1, h2⟩ := hlim; ⟨mc, nsK h1, h2⟩, by
      obtain ⟨bm, ob, b1, b2, b3, b4, b5, b6⟩ := hbm
      refine ⟨bm, ob, b1, b2, base_of b3 ?_, b4, b5, b6⟩
      cases q : H bm with
      | none => rfl
      | some u =>
        rcases hA bm (by rw [q]; simp) with e' | e'
        · rw [e', ha] at b3; cases b3; exact absurd b4 (by simp)
        · rw [q] at e'
          have := T_obj bm u e'.symm
          rw [b3] at this; cases this; exact absurd b4 (by simp)⟩
    have hTab : TabsOk K H := fun t ht => by
      have e := T_mem t ht
      rw [hT _ (fun z => by rw [z, T_a] at e; cases e)]
      exact e
    have e0 : Env0 P w K mg (hidT s₁.heap H) callerA [] s₁ H := ⟨rfl, hM, fun b o e => of_hidT e, Nat.le_of_eq (hidT_size _ _), trivial, fun b hb => absurd (show b ∈ ([] : List Addr) from hb) (by simp), hok, .of_eq hg, hTab⟩
    refine codeAny_mono ((F _ hKb (nsK hns)).run callerA [] s₁ H ⟨[.ref a], []⟩ [.ref a] [.ref a] _ _ hr ⟨fun _ => rfl, .inl rfl⟩ e0 (hbind s₁ (.ref a)) (.cons rfl .nil) (hsp H hO hS)) fun r s' h => ?_
    cases r with
    | error e => exact (hCX H e s' h).elim
    | ok fl =>
      cases fl with
      | next => exact False.elim h
      | brk => exact False.elim h
      | cont => exact False.elim h
      | ret u =>
        obtain ⟨v, H', os, bare, un, hok', r', q⟩ := h
        have q' : v = .bl true := q
        subst q'
        obtain rfl : u = Value.bool true := r'
        refine ⟨rfl, ⟨fun b o e => ?_, fun b o e => un.there b o e (by simp)⟩, os, bare⟩
        cases q : H b with
        | none => exact .inl (un.keep b o e q (by intro z; exact absurd (show b ∈ ([] : List Addr) from z) (by simp)) (by simp))
        | some u =>
          by_cases hba : b = a
          · rcases hO b with z | ⟨ob, xs, z⟩ | ⟨qq, z⟩
            · rw [q] at z; cases z
            · have z2 := un.frzs b ob _ z
              obtain ⟨e1, _⟩ := hok b _ z
              obtain ⟨e2, _⟩ := hok' b _ z2
              rw [e] at e1; cases e1
              exact .inl e2
            · obtain ⟨ps, e1, _⟩ := hok b _ z
              rw [hba, ha] at e1
              cases e1
          · have eT := hT b hba
            rw [q] at eT
            obtain ⟨t, ht, rfl, rfl⟩ := T_some b u eT.symm
            obtain ⟨ps, e2, _⟩ := hok' _ _ (un.tbls _ _ q)
            rw [tget t ht] at e
            cases e
            have hd := PySem.W.codeHd_of_K KX (hg1 t ht).2
            exact .inr (.inl ⟨(hd.tab (tget t ht)).isCodeTable, rfl, #[], ps, rfl, by rw [Array.empty_append]; exact e2⟩)
  have outT : ∀ b, b ≠ a → (∀ u, T b = some u → ∃ q, u = .tbl q) := fun b _ u e => by
    obtain ⟨t, _, _, rfl⟩ := T_some b u e
    exact ⟨_, rfl⟩
  cases hk : K.lookup a with
  | some o =>
    -- the script is one of the module's own objects
    have e := KX a o hk
    rw [ha] at e
    cases e
    refine core T (fun b => ?_) (.inr ⟨_, vs.toArray, _, hk, rfl, rfl, rfl, by rw [List.size_toArray, lenV]; exact hl, by simpa using rv⟩) (fun b u z => T_ok T b u z) (fun b _ => .inr rfl) (fun _ _ => rfl) fun z => absurd T_a z
    cases q : T b with
    | none => exact .inl rfl
    | some u =>
      obtain ⟨t, _, _, rfl⟩ := T_some b u q
      exact .inr (.inr ⟨_, rfl⟩)
  | none =>
    refine core (fun b => if b = a then some (.frz { cls := .type "list", data := .seq vs.toArray } (.lst (ns.map V.int))) else T b) (fun b => ?_) (.inl (.inr ⟨{ cls := .type "list", data := .seq vs.toArray }, if_pos rfl⟩)) (fun b u z => ?_) (fun b z => ?_) (fun b hb => if_neg hb) fun _ => hk
    · by_cases hb : b = a
      · exact .inr (.inl ⟨_, _, if_pos hb⟩)
      · cases q : T b with
        | none => exact .inl ((if_neg hb).trans q)
        | some u =>
          obtain ⟨qq, rfl⟩ := outT b hb u q
          exact .inr (.inr ⟨qq, (if_neg hb).trans q⟩)
    · by_cases hb : b = a
      · have z' := (if_pos hb).symm.trans z
        cases z'
        subst hb
        exact ⟨ha, by rw [List.length_map]; exact hl, vs, _, rv, ha⟩
      · have z' := (if_neg hb).symm.trans z
        exact T_ok _ b u z'
    · by_cases hb : b = a
      · exact .inl hb
      · exact .inr (if_neg hb)
end L2
namespace L2
open PySem PySem.Spec PyProof.Rows
theorem walk_of (ts : List Addr) {l : PySem.W.OpenLaw} {n k : Nat} {q : Program} {loose : List Str} {XP : (Str → Option Value) → Heap → Prop} {YP : World → Heap → Prop} {d : DefRec} {K : Params → PySem.W.Frag} {CX : World → CXT} {sp : World → Sp} {x : Str}
    (hn : l.most = some n) (hn2 : n ≤ sizeLine) (hdf : d.params.defaults = []) (hr : Room k callerA)
    (hY : ∀ (w : World) (h : Heap), YP w h → (K w.params).In h) (hts : ∀ (w : World) (h : Heap), YP w h → ∀ P ∈ ts, h.get? P = some (PySem.W.tabObj #[])) (hgood : ∀ w : World, tabsGood (K w.params) ts = true)
    (F : ∀ (w : World) (mg : Str → Option Value) (fa : Addr) (h : Heap), (K w.params).In h → h.Ns mainGlobals mg → mg d.name = some (.ref fa) →
      ∃ fd : FuncData, (∀ (s : Shared) (u : Value), BindsTo s fd ⟨[u], []⟩ [(x, u)]) ∧
        ∀ base : Heap, (K w.params).In base → base.Ns mainGlobals mg → FnOk l.prog w (K w.params) mg base (CX w) k fa fd [x] (sp w))
    (hsp : ∀ (w : World) (H : Hp) (a : Addr) (ns : List Int), ns.length ≤ n → Only H → SqL (K w.params) H a (ns.map V.int) → sp w [.ref a] H (fun v _ => v = .bl true) fun _ _ _ => False)
    (hCX : ∀ (w : World) (H : Hp) (s : Shared) (e : Value) (s' : Shared), CX w [] H s (fun _ _ _ => False) e s' → False) :
    PySem.W.WalkO q loose XP YP l.row.toRowW d [] (fun f vs => PySem.call f vs) := by
  refine Att.attach_call hn hdf fun w s₀ s₁ mg mb fa o pm cd doc a vs ns G Y ho hd hcd hmg hobj hints hlen hg => ?_
  have KX := hY w _ Y
  obtain ⟨fd, hb, hF⟩ := F w mg fa _ KX G.T.g hmg
  exact law_call (hts w _ Y) (hgood w) KX G.T.g G.T.b G.T.builtins G.T.nolimit G.T.bmain hg hobj hints (Nat.le_trans hlen hn2) hr hF hb (fun H hO hS => hsp w H a ns hlen hO hS) fun H e s' => hCX w H s₁ e s'
end L2
namespace L2
open PySem PySem.Spec PyProof.Rows
def defArgs (s : Stmt) : Arguments := match s with
  | .FunctionDef _ a _ _ _ _ _ _ _ _ => a
  | _ => { posonlyargs := [], args := [], vararg := none, kwonlyargs := [], kw_defaults := [], kwarg := none, defaults := [] }
def defBody (s : Stmt) : List Stmt := match s with
  | .FunctionDef _ _ b _ _ _ _ _ _ _ => b
  | _ => []
def defScope (s : Stmt) : Scope := match s with
  | .FunctionDef _ _ _ _ _ _ sc _ _ _ => sc
  | _ => { kind := .function, names := [], isGenerator := false, isCoroutine := false }
abbrev CX0 : CXT := fun _ _ _ _ _ _ => False
abbrev E0 : XK := fun _ _ _ => False
theorem pass0 {X : Cx} : Passes CX0 X E0 := fun _ _ _ _ _ _ _ h => h.elim
structure Fun (K : PySem.W.Frag) (x qual : Str) (st : Stmt) (f : Addr) (fd : FuncData) : Prop where
  ex : ∃ (oc : Value) (od : Option Addr) (kV doc pm : Value) (an : Option Addr) (cdv ct : Value) (osl : Array (Option Value)),
    fd = PySem.W.fnOf x qual (defArgs st) (defBody st) (defScope st) .none kV doc pm an cdv ct ∧ K.lookup f = some ⟨oc, od, .func fd, osl⟩ ∧ PySem.W.codeIn K cdv qual = true
  kp : PySem.W.keepIn K (.ref f) = true
section
variable {P : Program} {w : World} {K : PySem.W.Frag} {mg : Str → Option Value} {base : Heap}
theorem Fun.ok {cb : Bool} {x qual : Str} {st : Stmt} {f : Addr} {fd : FuncData} {N ps : List Str} {k : Nat} {sp : Sp} (F : Fun K x qual st f fd) (S : FnScope N ps (defScope st)) (len : ∀ vs H Q E, sp vs H Q E → vs.length = ps.length)
    (hbody : ∀ (cdv : Value) (A : Around) (outer : List Env) (s : Shared) (H : Hp) (vs : List V) (Q : VK) (E : XK), Room k (A.deeper (envOfC qual (defScope st) s.heap.objs.size f cdv)) → sp vs H Q E →
      ∃ t, PSs (cxOfB cb CX0 P w K mg base N qual (defScope st) f cdv A outer s H E).nox (defBody st) t ∧ t { nx := fun _ H' => Q .non H', rt := Q } (start N vs) H) : FnOkC cb P w K mg base CX0 (k + 1) f fd ps sp := by
  obtain ⟨oc, od, kV, doc, pm, an, cdv, ct, osl, rfl, lk, hcd⟩ := F.ex
  refine fn_of lk hcd S len fun A outer s H vs Q E hr hsp => ?_
  obtain ⟨t, h, q⟩ := hbody cdv A outer s H vs Q E hr hsp
  exact ⟨t, h.nox, q⟩
theorem Fun.binds {x qual : Str} {st : Stmt} {f : Addr} {fd : FuncData} {ps : List Str} (F : Fun K x qual st f fd)
    (h : ∀ (kV doc pm : Value) (an : Option Addr) (cdv ct : Value) (us : List Value), us.length = ps.length → bindArgs (PySem.W.fnOf x qual (defArgs st) (defBody st) (defScope st) .none kV doc pm an cdv ct) ⟨us, []⟩ = pure (ps.zip us)) : Binds K fd ps [] := by
  obtain ⟨oc, od, kV, doc, pm, an, cdv, ct, osl, rfl, lk, hcd⟩ := F.ex
  exact .all (h kV doc pm an cdv ct)
theorem fun_mk {x qual : Str} {st : Stmt} {f : Addr} {oc : Value} {od an : Option Addr} {osl : Array (Option Value)} {kV doc pm cdv ct : Value} (l : K.lookup f = some ⟨oc, od, .func (PySem.W.fnOf x qual (defArgs st) (defBody st) (defScope st) .none kV doc pm an cdv ct), osl⟩)
    (c : PySem.W.codeIn K cdv qual = true) (k : PySem.W.keepIn K (.ref f) = true) : Fun K x qual st f (PySem.W.fnOf x qual (defArgs st) (defBody st) (defScope st) .none kV doc pm an cdv ct) := ⟨⟨oc, od, kV, doc, pm, an, cdv, ct, osl, rfl, l, c⟩, k⟩
end
theorem hu_of {A : Around} {k : Nat} (hr : Room k A) : A.units + 1 < cLine := Nat.lt_of_le_of_lt (Nat.add_le_add_left (by decide : 1 ≤ 64) _) hr.units
theorem small1000 {n : Nat} (h : n ≤ 1000) : n < sizeLine := Nat.lt_of_le_of_lt h (by decide)
section
variable {X : Cx}
theorem pv (i : Nat) {x : Str} {pos : Pos} (hN : X.N[i]? = some x := by rfl) (hv : Vis X.env.scope x := by first | exact Or.inl rfl | exact Or.inr (Or.inl rfl) | exact Or.inr (Or.inr rfl)) (hd : (x == ("__debug__" : Str)) = false := by decide)
    (hcd : (x == ("__classdict__" : Str)) = false := by decide) : PE X (.Name x pos) (tVar i) := pe_var hN hv hd hcd
end
theorem iteF {A B : Prop} (h : B) : if false = true then A else B := by
  rw [if_neg Bool.false_ne_true]
  exact h
theorem iteT {A B : Prop} (h : A) : if true = true then A else B := by
  rw [if_pos rfl]
  exact h
def Same (H H' : Hp) : Prop := ∀ b o, H b = some o → H' b = some o
theorem Same.refl (H : Hp) : Same H H := fun _ _ h => h
theorem Same.trans {H H1 H2 : Hp} (a : Same H H1) (b : Same H1 H2) : Same H H2 := fun c o h => b c o (a c o h)
theorem Same.free {H H' : Hp} (e : Same H H') {l : Addr} (h : H' l = Option.none) : H l = Option.none := by
  cases q : H l with
  | none => rfl
  | some o =>
    rw [e l o q] at h
    cases h
theorem Same.seq {K : PySem.W.Frag} {H H' : Hp} {a : Addr} {xs : List V} (e : Same H H') (h : SqL K H a xs) : SqL K H' a xs := by
  rcases h with (h | ⟨o, h⟩) | h
  · exact .inl (.inl (e _ _ h))
  · exact .inl (.inr ⟨o, e _ _ h⟩)
  · exact .inr h
section
variable {κ : Type} [DecidableEq κ]
end
theorem Same.made {H H1 : Hp} {x dx C : Addr} (nx : H x = Option.none) (nd : H dx = Option.none) (k : ∀ b o, (upd (upd H dx (.own x)) x (.ins C dx [])) b = some o → b ≠ x → H1 b = some o) : Same H H1 := fun b o e =>
  k b o (by rw [upd_ne (ne_of_none e nx), upd_ne (ne_of_none e nd)]; exact e) (ne_of_none e nx)
end L2
set_option Elab.async false
set_option linter.all false
set_option maxRecDepth 100000
namespace DL
open PySem L2
theorem sqT_same {K : PySem.W.Frag} {H H' : Hp} {a : Addr} {xs : List V} (e : Same H H') (h : SqT K H a xs) : SqT K H' a xs := by
  rcases h with (h | ⟨o, h⟩) | h
  · exact .inl (.inl (e _ _ h))
  · exact .inl (.inr ⟨o, e _ _ h⟩)
  · exact .inr h
mutual
theorem dpM {K : PySem.W.Frag} {H H' : Hp} (e : Same H H') : ∀ {v : V} {d : PyData}, Dp K H v d → Dp K H' v d
  | _, _, .non => .non
  | _, _, .bl b => .bl b
  | _, _, .int i => .int i
  | _, _, .str x => .str x
  | _, _, .lst h q => .lst (e.seq h) (dpAllM e q)
  | _, _, .tup h q => .tup (sqT_same e h) (dpAllM e q)
  | _, _, .dct h q k => .dct (e _ _ h) (dpAllM e q) k
theorem dpAllM {K : PySem.W.Frag} {H H' : Hp} (e : Same H H') : ∀ {vs : List V} {ds : List PyData}, DpAll K H vs ds → DpAll K H' vs ds
  | _, _, .nil => .nil
  | _, _, .cons h q => .cons (dpM e h) (dpAllM e q)
end
theorem DpAll.length {K : PySem.W.Frag} {H : Hp} : ∀ {vs : List V} {ds : List PyData}, DpAll K H vs ds → vs.length = ds.length
  | _, _, .nil => rfl
  | _, _, .cons _ q => congrArg (· + 1) (DpAll.length q)
theorem DpAll.get {K : PySem.W.Frag} {H : Hp} : ∀ {vs : List V} {ds : List PyData} {i : Nat} {d : PyData}, DpAll K H vs ds → ds[i]? = some d → ∃ v, vs[i]? = some v ∧ Dp K H v d
  | _, _, _, _, .nil, e => by simp at e
  | _, _, 0, _, .cons h _, e => by simp at e; subst e; exact ⟨_, rfl, h⟩
  | _, _, i + 1, d, .cons _ q, e => by
    obtain ⟨v, a, b⟩ := DpAll.get (i := i) (d := d) q (by simpa using e)
    exact ⟨v, by simpa using a, b⟩
theorem DpAll.app {K : PySem.W.Frag} {H : Hp} : ∀ {vs ws : List V} {ds es : List PyData}, DpAll K H vs ds → DpAll K H ws es → DpAll K H (vs ++ ws) (ds ++ es)
  | _, _, _, _, .nil, q => q
  | _, _, _, _, .cons h q, r => .cons h (DpAll.app q r)
theorem DpAll.set {K : PySem.W.Frag} {H : Hp} {v : V} {d : PyData} (h : Dp K H v d) : ∀ {vs : List V} {ds : List PyData} (i : Nat), DpAll K H vs ds → DpAll K H (vs.set i v) (ds.set i d)
  | _, _, _, .nil => .nil
  | _, _, 0, .cons _ q => .cons h q
  | _, _, i + 1, .cons g q => .cons g (DpAll.set h i q)
theorem DpAll.take {K : PySem.W.Frag} {H : Hp} : ∀ {vs : List V} {ds : List PyData} (n : Nat), DpAll K H vs ds → DpAll K H (vs.take n) (ds.take n)
  | _, _, 0, _ => .nil
  | _, _, _ + 1, .nil => .nil
  | _, _, n + 1, .cons h q => .cons h (DpAll.take n q)
theorem DpAll.drop {K : PySem.W.Frag} {H : Hp} : ∀ {vs : List V} {ds : List PyData} (n : Nat), DpAll K H vs ds → DpAll K H (vs.drop n) (ds.drop n)
  | _, _, 0, h => h
  | _, _, _ + 1, .nil => .nil
  | _, _, n + 1, .cons _ q => DpAll.drop n q
theorem DpAll.ints {K : PySem.W.Frag} {H : Hp} : ∀ {ns : List Int}, DpAll K H (ns.map V.int) (ns.map PyData.int)
  | [] => .nil
  | n :: _ => .cons (.int n) DpAll.ints
theorem DpAll.ints_inv {K : PySem.W.Frag} {H : Hp} : ∀ {vs : List V} {ns : List Int}, DpAll K H vs (ns.map PyData.int) → vs = ns.map V.int
  | _, [], .nil => rfl
  | _, n :: ns, .cons h q => by
    cases h
    rw [DpAll.ints_inv q]
    rfl
structure Xn where
  cls : Str
  args : List PyData
inductive OO where
  | lst (ds : List PyData)
  | dic (kvs : List (Key × PyData))
  | exc (z : Xn)
inductive R where
  | sh (d : PyData) | own (o : OO) | io (o : OO)
  /-- a new tuple; with true: a new list that nobody else holds -/
  | new (ps : List (PyData × Bool))
abbrev Rho := List (Option R)
abbrev DpKV (K : PySem.W.Frag) (F : Hp) : List (Key × V) → List (Key × PyData) → Prop := Paired fun p q => p.1 = q.1 ∧ Dp K F p.2 q.2
def XAt (K : PySem.W.Frag) (F : Hp) (cls : Value) (dx : Option Addr) (z : Xn) : Prop :=
  (∃ C, cls = .ref C ∧ PySem.W.nsIn K mainGlobals z.cls = some (some (.ref C))) ∧ match z.args with
    | [] => dx = none
    | [.str an, d] => ∃ a v, dx = some a ∧ F a = some (.xd [(an, v)]) ∧ Dp K F v d
    | _ => False
theorem XAt.mono {K : PySem.W.Frag} {F F' : Hp} {cls : Value} {dx : Option Addr} {z : Xn} (s : Same F F') (h : XAt K F cls dx z) : XAt K F' cls dx z := by
  obtain ⟨h1, h2⟩ := h
  refine ⟨h1, ?_⟩
  split at h2
  · exact h2
  · obtain ⟨a, v, e, f, d⟩ := h2
    exact ⟨a, v, e, s _ _ f, dpM s d⟩
  · exact h2.elim
def OOk (K : PySem.W.Frag) (F : Hp) : OO → HO → Prop
  | .exc z, ho => ∃ oe vs, ho = .frz oe (.own 0) ∧ oe.data = .fields vs ∧ XAt K F oe.cls oe.dict z
  | .lst ds, ho => ∃ vs, ho = .lst vs ∧ DpAll K F vs ds
  | .dic kvs, ho => ∃ ws, ho = .dK ws ∧ DpKV K F ws kvs
theorem pairedM {α β : Type} {r q : α → β → Prop} (h : ∀ a b, r a b → q a b) : ∀ {xs : List α} {ys : List β}, Paired r xs ys → Paired q xs ys
  | _, _, .nil => .nil
  | _, _, .cons a t => .cons (h _ _ a) (pairedM h t)
theorem ooM {K : PySem.W.Frag} {F F' : Hp} (e : Same F F') : ∀ {o : OO} {ho : HO}, OOk K F o ho → OOk K F' o ho
  | .lst _, _, ⟨vs, h, q⟩ => ⟨vs, h, dpAllM e q⟩
  | .dic _, _, ⟨ws, h, q⟩ => ⟨ws, h, pairedM (fun _ _ z => ⟨z.1, dpM e z.2⟩) q⟩
  | .exc _, _, ⟨oe, vs, h, q, x⟩ => ⟨oe, vs, h, q, x.mono e⟩
structure En where
  F0 : Hp
  Z : Hp
  io : List (Nat × Addr)
def Ow (ρ : Rho) (i : Nat) (o : OO) : Prop := ρ[i]? = some (some (R.own o)) ∨ ρ[i]? = some (some (R.io o))
structure J (K : PySem.W.Frag) (c : En) (F H : Hp) (σ : St) (ρ : Rho) : Prop where
  len : σ.length = ρ.length
  ff : Same c.F0 F
  fh : Same F H
  zh : Same c.Z H
  fz : ∀ b o, F b = some o → c.F0 b = some o ∨ c.Z b = none
  sh : ∀ (i : Nat) (d : PyData), ρ[i]? = some (some (R.sh d)) → ∃ v, σ[i]? = some (some v) ∧ Dp K F v d
  ow : ∀ (i : Nat) (o : OO), Ow ρ i o → ∃ a ho, σ[i]? = some (some (V.ref a)) ∧ H a = some ho ∧ OOk K F o ho ∧ F a = none ∧ c.Z a = none
  nd : ∀ (i j : Nat) (o o' : OO) (a : Addr), Ow ρ i o → Ow ρ j o' → σ[i]? = some (some (V.ref a)) → σ[j]? = some (some (V.ref a)) → i = j
  ios : ∀ p ∈ c.io, ∃ o, ρ[p.1]? = some (some (R.io o)) ∧ σ[p.1]? = some (some (V.ref p.2))
def Apart (σ : St) (ρ : Rho) (a : Addr) : Prop := ∀ (i : Nat) (o : OO), Ow ρ i o → σ[i]? ≠ some (some (V.ref a))
inductive NewP (K : PySem.W.Frag) (Z F : Hp) : List V → List (PyData × Bool) → Prop
  | nil : NewP K Z F [] []
  | dat {v : V} {vs : List V} {d : PyData} {ps : List (PyData × Bool)} (h : Dp K F v d) (t : NewP K Z F vs ps) : NewP K Z F (v :: vs) ((d, false) :: ps)
  | own {b : Addr} {ws : List V} {vs : List V} {ds : List PyData} {ps : List (PyData × Bool)} (h : F b = some (.lst ws)) (hz : Z b = none) (hd : DpAll K F ws ds)
      (ap : ∀ (k : Nat) (e : PyData), ps[k]? = some (e, true) → vs[k]? ≠ some (V.ref b)) (t : NewP K Z F vs ps) : NewP K Z F (.ref b :: vs) ((.list ds, true) :: ps)
theorem NewP.mono {K : PySem.W.Frag} {Z F F' : Hp} (s : Same F F') : ∀ {vs : List V} {ps : List (PyData × Bool)}, NewP K Z F vs ps → NewP K Z F' vs ps
  | _, _, .nil => .nil
  | _, _, .dat h t => .dat (dpM s h) (t.mono s)
  | _, _, .own h hz hd ap t => .own (s _ _ h) hz (dpAllM s hd) ap (t.mono s)
theorem NewP.zed {K : PySem.W.Frag} {Z Z' F : Hp} (s : ∀ b o, F b = some o → Z b = none → Z' b = none) : ∀ {vs : List V} {ps : List (PyData × Bool)}, NewP K Z F vs ps → NewP K Z' F vs ps
  | _, _, .nil => .nil
  | _, _, .dat h t => .dat h (t.zed s)
  | _, _, .own h hz hd ap t => .own h (s _ _ h hz) hd ap (t.zed s)
def RelR (K : PySem.W.Frag) (c : En) (F H : Hp) (σ : St) (ρ : Rho) (v : V) : R → Prop
  | .sh d => Dp K F v d
  | .own o => ∃ a ho, v = .ref a ∧ H a = some ho ∧ OOk K F o ho ∧ F a = none ∧ c.Z a = none ∧ Apart σ ρ a
  | .io _ => False
  | .new ps => ∃ t vs, v = .ref t ∧ F t = some (.tup vs) ∧ NewP K c.Z F vs ps
section
variable {K : PySem.W.Frag} {c : En} {F H : Hp} {σ : St} {ρ : Rho}
theorem same_new {H : Hp} {p : Addr} (h : H p = none) (o : HO) : Same H (upd H p o) := fun b u q => by rw [upd_ne (ne_of_none q h)]; exact q
theorem get_set {α : Type} {l : List α} {i j : Nat} {x : α} : (l.set i x)[j]? = if i = j then (if i < l.length then some x else none) else l[j]? := by
  rw [List.getElem?_set]
theorem ow_set {ρ : Rho} {i j : Nat} {x : Option R} {o : OO} (h : Ow (ρ.set i x) j o) : (i = j ∧ (x = some (.own o) ∨ x = some (.io o))) ∨ (i ≠ j ∧ Ow ρ j o) := by
  unfold Ow at h
  rw [get_set] at h
  by_cases e : i = j
  · refine .inl ⟨e, ?_⟩
    simp only [e, if_true] at h
    rcases h with h | h <;> (split at h <;> first | exact .inl (Option.some.inj h) | exact .inr (Option.some.inj h) | cases h)
  · rw [if_neg e] at h
    exact .inr ⟨e, h⟩
theorem J.lt (j : J K c F H σ ρ) {i : Nat} {o : OO} (h : Ow ρ i o) : i < ρ.length := by
  rcases h with h | h
  · exact (List.getElem?_eq_some_iff.mp h).1
  · exact (List.getElem?_eq_some_iff.mp h).1
theorem J.alloc (j : J K c F H σ ρ) {p : Addr} (hp : H p = none) (o : HO) : J K c F (upd H p o) σ ρ where
  len := j.len
  ff := j.ff
  fh := j.fh.trans (same_new hp o)
  zh := j.zh.trans (same_new hp o)
  fz := j.fz
  sh := j.sh
  ow := fun i q h => by
    obtain ⟨a, ho, h1, h2, h3⟩ := j.ow i q h
    exact ⟨a, ho, h1, by rw [upd_ne (ne_of_none h2 hp)]; exact h2, h3⟩
  nd := j.nd
  ios := j.ios
theorem J.zfree (j : J K c F H σ ρ) {p : Addr} (hp : H p = none) : c.Z p = none := j.zh.free hp
theorem J.ffree (j : J K c F H σ ρ) {p : Addr} (hp : H p = none) : F p = none := j.fh.free hp
theorem J.apart (j : J K c F H σ ρ) {p : Addr} (hp : H p = none) : Apart σ ρ p := fun i o h e => by
  obtain ⟨a, ho, h1, h2, _⟩ := j.ow i o h
  rw [h1] at e
  cases e
  rw [hp] at h2
  cases h2
theorem J.frz (j : J K c F H σ ρ) {p : Addr} {o : HO} (hp : H p = some o) (fp : F p = none) (zp : c.Z p = none) (ap : Apart σ ρ p) : J K c (upd F p o) H σ ρ where
  len := j.len
  ff := j.ff.trans (same_new fp o)
  fh := fun b u h => by
    by_cases e : b = p
    · subst e
      rw [upd_same] at h
      rw [hp]
      exact h
    · rw [upd_ne e] at h
      exact j.fh b u h
  zh := j.zh
  fz := fun b u h => by
    by_cases e : b = p
    · subst e
      exact .inr zp
    · rw [upd_ne e] at h
      exact j.fz b u h
  sh := fun i d h => by
    obtain ⟨v, h1, h2⟩ := j.sh i d h
    exact ⟨v, h1, dpM (same_new fp o) h2⟩
  ow := fun i q h => by
    obtain ⟨a, ho, h1, h2, h3, h4, h5⟩ := j.ow i q h
    have ne : a ≠ p := fun e => ap i q h (by rw [h1, e])
    exact ⟨a, ho, h1, h2, ooM (same_new fp o) h3, by rw [upd_ne ne]; exact h4, h5⟩
  nd := j.nd
  ios := j.ios
theorem J.drop (j : J K c F H σ ρ) {i : Nat} (hi : ∀ o, ρ[i]? ≠ some (some (R.io o))) : J K c F H σ (ρ.set i none) where
  len := by rw [List.length_set]; exact j.len
  ff := j.ff
  fh := j.fh
  zh := j.zh
  fz := j.fz
  sh := fun k d h => by
    rw [get_set] at h
    split at h
    · split at h <;> cases h
    · exact j.sh k d h
  ow := fun k q h => by
    rcases ow_set h with ⟨_, h | h⟩ | ⟨_, h⟩
    · cases h
    · cases h
    · exact j.ow k q h
  nd := fun k l o o' a h h' e e' => by
    rcases ow_set h with ⟨_, h | h⟩ | ⟨_, h⟩
    · cases h
    · cases h
    rcases ow_set h' with ⟨_, h' | h'⟩ | ⟨_, h'⟩
    · cases h'
    · cases h'
    exact j.nd k l o o' a h h' e e'
  ios := fun p hp => by
    obtain ⟨o, h1, h2⟩ := j.ios p hp
    have ne : i ≠ p.1 := fun e => hi o (by rw [e]; exact h1)
    exact ⟨o, by rw [get_set, if_neg ne]; exact h1, h2⟩
theorem J.assign (j : J K c F H σ ρ) {i : Nat} {v : V} {r : R} (hl : i < ρ.length) (hi : ∀ o, ρ[i]? ≠ some (some (R.io o))) (hv : RelR K c F H σ ρ v r) : J K c F H (σ.set i (some v)) (ρ.set i (some r)) where
  len := by rw [List.length_set, List.length_set]; exact j.len
  ff := j.ff
  fh := j.fh
  zh := j.zh
  fz := j.fz
  sh := fun k d h => by
    rw [get_set] at h
    rw [get_set]
    by_cases e : i = k
    · rw [if_pos e] at h
      rw [if_pos e, if_pos (by rw [j.len]; exact hl)]
      rw [if_pos hl] at h
      obtain rfl := Option.some.inj (Option.some.inj h)
      exact ⟨v, rfl, hv⟩
    · rw [if_neg e] at h
      rw [if_neg e]
      exact j.sh k d h
  ow := fun k q h => by
    rw [get_set]
    rcases ow_set h with ⟨e, h⟩ | ⟨e, h⟩
    · rw [if_pos e, if_pos (by rw [j.len]; exact hl)]
      rcases h with h | h
      · obtain rfl := Option.some.inj h
        obtain ⟨a, ho, rfl, h2, h3, h4, h5, _⟩ := hv
        exact ⟨a, ho, rfl, h2, h3, h4, h5⟩
      · obtain rfl := Option.some.inj h
        exact hv.elim
    · rw [if_neg e]
      exact j.ow k q h
  nd := fun k l o o' a h h' e e' => by
    rw [get_set] at e e'
    rcases ow_set h with ⟨z, w⟩ | ⟨z, w⟩
    · rcases ow_set h' with ⟨z', w'⟩ | ⟨z', w'⟩
      · exact z.symm.trans z'
      · rw [if_pos z, if_pos (by rw [j.len]; exact hl)] at e
        rw [if_neg z'] at e'
        have e := Option.some.inj (Option.some.inj e)
        rcases w with w | w
        · have w := Option.some.inj w
          rw [w] at hv
          obtain ⟨b, ho, hb, _, _, _, _, ap⟩ := hv
          rw [e] at hb
          cases hb
          exact (ap l o' w' e').elim
        · have w := Option.some.inj w
          rw [w] at hv
          exact hv.elim
    · rcases ow_set h' with ⟨z', w'⟩ | ⟨z', w'⟩
      · rw [if_neg z] at e
        rw [if_pos z', if_pos (by rw [j.len]; exact hl)] at e'
        have e' := Option.some.inj (Option.some.inj e')
        rcases w' with w' | w'
        · have w' := Option.some.inj w'
          rw [w'] at hv
          obtain ⟨b, ho, hb, _, _, _, _, ap⟩ := hv
          rw [e'] at hb
          cases hb
          exact (ap k o w e).elim
        · have w' := Option.some.inj w'
          rw [w'] at hv
          exact hv.elim
      · rw [if_neg z] at e
        rw [if_neg z'] at e'
        exact j.nd k l o o' a w w' e e'
  ios := fun p hp => by
    obtain ⟨o, h1, h2⟩ := j.ios p hp
    have ne : i ≠ p.1 := fun e => hi o (by rw [e]; exact h1)
    exact ⟨o, by rw [get_set, if_neg ne]; exact h1, by rw [get_set, if_neg ne]; exact h2⟩
def R.put (o : OO) : R → R
  | .own _ => .own o
  | .io _ => .io o
  | .sh d => .sh d
  | .new ps => .new ps
theorem J.put (j : J K c F H σ ρ) {i : Nat} {r : R} {o o' : OO} {a : Addr} {ho' : HO} (hr : ρ[i]? = some (some r)) (ho : r = .own o ∨ r = .io o) (ha : σ[i]? = some (some (V.ref a))) (hk : OOk K F o' ho') : J K c F (upd H a ho') σ (ρ.set i (some (r.put o'))) := by
  have hw : Ow ρ i o := by
    rcases ho with rfl | rfl
    · exact .inl hr
    · exact .inr hr
  have hl := j.lt hw
  obtain ⟨a1, ho1, h1, h2, h3, h4, h5⟩ := j.ow i o hw
  rw [ha] at h1
  cases h1
  have hp : (r.put o' = .own o' ∧ r = .own o) ∨ (r.put o' = .io o' ∧ r = .io o) := by
    rcases ho with rfl | rfl
    · exact .inl ⟨rfl, rfl⟩
    · exact .inr ⟨rfl, rfl⟩
  have back : ∀ {k q}, Ow (ρ.set i (some (r.put o'))) k q → (i = k ∧ q = o') ∨ (i ≠ k ∧ Ow ρ k q) := fun {k q} h => by
    rcases ow_set h with ⟨e, h | h⟩ | ⟨e, h⟩
    · refine .inl ⟨e, ?_⟩
      have h := Option.some.inj h
      rcases hp with ⟨z, _⟩ | ⟨z, _⟩ <;> rw [z] at h <;> cases h
      rfl
    · refine .inl ⟨e, ?_⟩
      have h := Option.some.inj h
      rcases hp with ⟨z, _⟩ | ⟨z, _⟩ <;> rw [z] at h <;> cases h
      rfl
    · exact .inr ⟨e, h⟩
  have fromO : ∀ {k q}, Ow (ρ.set i (some (r.put o'))) k q → ∃ q', Ow ρ k q' := fun {k q} h => by
    rcases back h with ⟨e, _⟩ | ⟨_, h⟩
    · exact ⟨o, e ▸ hw⟩
    · exact ⟨q, h⟩
  refine ⟨by rw [List.length_set]; exact j.len, j.ff, fun b u h => ?_, fun b u h => ?_, j.fz, fun k d h => ?_, fun k q h => ?_, fun k l q q' b h h' e e' => ?_, fun p hp' => ?_⟩
  · have ne : b ≠ a := fun e => by rw [e, h4] at h; cases h
    rw [upd_ne ne]
    exact j.fh b u h
  · have ne : b ≠ a := fun e => by rw [e, h5] at h; cases h
    rw [upd_ne ne]
    exact j.zh b u h
  · rw [get_set] at h
    by_cases e : i = k
    · rw [if_pos e, if_pos hl] at h
      have h := Option.some.inj (Option.some.inj h)
      rcases hp with ⟨z, _⟩ | ⟨z, _⟩ <;> rw [z] at h <;> cases h
    · rw [if_neg e] at h
      exact j.sh k d h
  · rcases back h with ⟨e, rfl⟩ | ⟨e, h⟩
    · subst e
      exact ⟨a, ho', ha, upd_same, hk, h4, h5⟩
    · obtain ⟨b, hb, g1, g2, g3⟩ := j.ow k q h
      have ne : b ≠ a := fun z => by
        subst z
        exact e (j.nd i k o q b hw h ha g1)
      exact ⟨b, hb, g1, by rw [upd_ne ne]; exact g2, g3⟩
  · obtain ⟨q1, h⟩ := fromO h
    obtain ⟨q2, h'⟩ := fromO h'
    exact j.nd k l q1 q2 b h h' e e'
  · obtain ⟨q, g1, g2⟩ := j.ios p hp'
    by_cases e : i = p.1
    · refine ⟨o', ?_, g2⟩
      rw [get_set, if_pos e, if_pos hl]
      rw [← e, hr] at g1
      cases g1
      rcases hp with ⟨z, z'⟩ | ⟨z, z'⟩
      · cases z'
      · rw [z]
    · exact ⟨q, by rw [get_set, if_neg e]; exact g1, g2⟩
end
end DL
set_option Elab.async false
set_option linter.all false
set_option maxRecDepth 100000
namespace DL
open PySem L2
abbrev KE := R → Rho → Prop
abbrev GE := Rho → KE → Prop
abbrev GT := Rho → (Bool → Rho → Prop) → Prop
def MonoE (G : GE) : Prop := ∀ ρ Q Q', (∀ r ρ', Q r ρ' → Q' r ρ') → G ρ Q → G ρ Q'
def MonoT (G : GT) : Prop := ∀ ρ Q Q', (∀ b ρ', Q b ρ' → Q' b ρ') → G ρ Q → G ρ Q'
def tDE (K : PySem.W.Frag) (G : GE) : TE := fun σ H Q => ∃ c F ρ, J K c F H σ ρ ∧ G ρ fun r ρ' => ∀ F' H' v, J K c F' H' σ ρ' → RelR K c F' H' σ ρ' v r → Q v H'
def tDT (K : PySem.W.Frag) (G : GT) : TT := fun σ H Q => ∃ c F ρ, J K c F H σ ρ ∧ G ρ fun b ρ' => ∀ F' H', J K c F' H' σ ρ' → Q b H'
structure DE (X : Cx) (e : Expr) (G : GE) : Prop where
  mono : MonoE G
  pe : PE X e (tDE X.K G)
structure DT (X : Cx) (e : Expr) (G : GT) : Prop where
  mono : MonoT G
  pt : PT X e (tDT X.K G)
structure DW (X : Cx) (e : Expr) (G : GT) : Prop where
  mono : MonoT G
  pw : PW X e (tDT X.K G)
theorem peI {X : Cx} {e : Expr} {t t' : TE} (h : PE X e t) (i : ∀ σ H Q, t' σ H Q → t σ H Q) : PE X e t' := fun pins s σ H Q I q => h pins s σ H Q I (i σ H Q q)
theorem ptI {X : Cx} {e : Expr} {t t' : TT} (h : PT X e t) (i : ∀ σ H Q, t' σ H Q → t σ H Q) : PT X e t' := fun pins s σ H Q I q => h pins s σ H Q I (i σ H Q q)
theorem pwI {X : Cx} {e : Expr} {t t' : TT} (h : PW X e t) (i : ∀ σ H Q, t' σ H Q → t σ H Q) : PW X e t' := fun w pins s σ H Q I q => h w pins s σ H Q I (i σ H Q q)
theorem J.anew {K : PySem.W.Frag} {c : En} {F H : Hp} {σ : St} {ρ : Rho} (j : J K c F H σ ρ) : J K ⟨F, c.Z, c.io⟩ F H σ ρ :=
  ⟨j.len, Same.refl _, j.fh, j.zh, fun _ _ h => .inl h, j.sh, j.ow, j.nd, j.ios⟩
theorem J.back {K : PySem.W.Frag} {c : En} {F1 F H H1 : Hp} {σ σ1 : St} {ρ ρ1 : Rho} (j1 : J K c F1 H1 σ1 ρ1) (j : J K ⟨F1, c.Z, c.io⟩ F H σ ρ) : J K c F H σ ρ :=
  ⟨j.len, j1.ff.trans j.ff, j.fh, j.zh, fun b o h => (j.fz b o h).elim (fun z => j1.fz b o z) .inr, j.sh, j.ow, j.nd, j.ios⟩
def R.dat : R → Option PyData
  | .sh d => some d
  | .own (.lst ds) => some (.list ds)
  | _ => none
theorem RelR.frz {K : PySem.W.Frag} {c : En} {F H : Hp} {σ : St} {ρ : Rho} {v : V} {r : R} {d : PyData} (j : J K c F H σ ρ) (h : RelR K c F H σ ρ v r) (e : r.dat = some d) : ∃ F', J K c F' H σ ρ ∧ Same F F' ∧ Dp K F' v d := by
  match r, h, e with
  | .sh _, h, e => cases e; exact ⟨F, j, Same.refl _, h⟩
  | .own (.lst ds), h, e =>
    cases e
    obtain ⟨a, ho, rfl, h2, ⟨vs, rfl, h3⟩, h4, h5, ap⟩ := h
    exact ⟨upd F a (.lst vs), j.frz h2 h4 h5 ap, same_new h4 _, .lst (SqL.of upd_same) (dpAllM (same_new h4 _) h3)⟩
  | .own (.dic _), _, e => cases e
  | .own (.exc _), _, e => cases e
  | .io _, _, e => cases e
  | .new _, _, e => cases e
def withD (r : R) (k : PyData → Prop) : Prop := match r.dat with
  | some d => k d
  | none => False
theorem withD_mono {r : R} {k k' : PyData → Prop} (h : ∀ d, k d → k' d) (q : withD r k) : withD r k' := by
  unfold withD at *
  split at q
  · exact h _ q
  · exact q
theorem withD_use {r : R} {k : PyData → Prop} (q : withD r k) : ∃ d, r.dat = some d ∧ k d := by
  unfold withD at q
  split at q
  · exact ⟨_, by assumption, q⟩
  · exact q.elim
section
variable {X : Cx}
def gVar (i : Nat) : GE := fun ρ Q => match ρ[i]? with
  | some (some (.sh d)) => Q (.sh d) ρ
  | some (some (.own (.lst ds))) => Q (.sh (.list ds)) (ρ.set i (some (.sh (.list ds))))
  | _ => False
theorem gVar_mono (i : Nat) : MonoE (gVar i) := fun ρ Q Q' h q => by
  unfold gVar at *
  split <;> simp_all
theorem de_var {i : Nat} {x : Str} {pos : Pos} (h : PE X (.Name x pos) (tVar i)) : DE X (.Name x pos) (gVar i) := ⟨gVar_mono i, peI h fun σ H Q ⟨c, F, ρ, j, q⟩ => by
  unfold gVar at q
  split at q
  · next d e =>
    obtain ⟨v, h1, h2⟩ := j.sh i d e
    exact ⟨v, h1, q F H v j h2⟩
  · next ds e =>
    obtain ⟨a, ho, h1, h2, ⟨vs, rfl, h3⟩, h4, h5⟩ := j.ow i _ (.inl e)
    have hl : i < ρ.length := (List.getElem?_eq_some_iff.mp e).1
    have hi : ∀ o, ρ[i]? ≠ some (some (R.io o)) := fun o z => by rw [e] at z; cases z
    have j1 := j.drop hi
    have ap : Apart σ (ρ.set i none) a := fun k o h z => by
      rcases ow_set h with ⟨_, w | w⟩ | ⟨ne, w⟩
      · cases w
      · cases w
      · exact ne (j.nd i k _ o a (.inl e) w h1 z)
    have j2 := j1.frz h2 h4 h5 ap
    have dp : Dp X.K (upd F a (.lst vs)) (.ref a) (.list ds) := .lst (SqL.of upd_same) (dpAllM (same_new h4 _) h3)
    have j3 := j2.assign (i := i) (v := .ref a) (r := .sh (.list ds)) (by rw [List.length_set]; exact hl) (fun o z => by rw [get_set, if_pos rfl, if_pos hl] at z; cases z) dp
    rw [List.set_set] at j3
    have es : σ.set i (some (.ref a)) = σ := by
      apply List.ext_getElem?
      intro k
      rw [get_set]
      by_cases z : i = k
      · rw [if_pos z, if_pos (by rw [j.len]; exact hl), ← z, h1]
      · rw [if_neg z]
    rw [es] at j3
    exact ⟨.ref a, h1, q _ H (.ref a) j3 dp⟩
  · exact q.elim⟩
def gC (d : PyData) : GE := fun ρ Q => Q (.sh d) ρ
theorem gC_mono (d : PyData) : MonoE (gC d) := fun ρ Q Q' h q => h _ _ q
theorem de_int {i : Int} {k : Nat} {pos : Pos} : DE X (.Constant (.int i) k pos) (gC (.int i)) := ⟨gC_mono _, peI pe_int fun σ H Q ⟨c, F, ρ, j, q⟩ => q F H _ j (.int i)⟩
theorem de_bl {b : Bool} {k : Nat} {pos : Pos} : DE X (.Constant (.bool b) k pos) (gC (.bool b)) := ⟨gC_mono _, peI pe_bl fun σ H Q ⟨c, F, ρ, j, q⟩ => q F H _ j (.bl b)⟩
theorem de_non {k : Nat} {pos : Pos} : DE X (.Constant .none k pos) (gC .none) := ⟨gC_mono _, peI pe_non fun σ H Q ⟨c, F, ρ, j, q⟩ => q F H _ j .non⟩
theorem de_str {x : Str} {k : Nat} {pos : Pos} : DE X (.Constant (.str x) k pos) (gC (.str x)) := ⟨gC_mono _, peI pe_str fun σ H Q ⟨c, F, ρ, j, q⟩ => q F H _ j (.str x)⟩
abbrev W2 := PyData → PyData → (R → Prop) → Prop
structure OpD (K : PySem.W.Frag) (r : R2) (W : W2) : Prop where
  mono : ∀ d e Q Q', (∀ x, Q x → Q' x) → W d e Q → W d e Q'
  ok : ∀ (c : En) (F H : Hp) (σ : St) (ρ : Rho) (x y : V) (d e : PyData) (Q : R → Prop) (Qv : VK), J K c F H σ ρ → Dp K F x d → Dp K F y e → W d e Q →
    (∀ z F' H' v, Q z → J K c F' H' σ ρ → RelR K c F' H' σ ρ v z → Qv v H') → r x y H Qv
def gBin (W : W2) (a b : GE) : GE := fun ρ Q => a ρ fun r1 ρ1 => withD r1 fun d => b ρ1 fun r2 ρ2 => withD r2 fun e => W d e fun z => Q z ρ2
theorem gBin_mono {W : W2} {a b : GE} (hW : ∀ d e Q Q', (∀ x, Q x → Q' x) → W d e Q → W d e Q') (ha : MonoE a) (hb : MonoE b) : MonoE (gBin W a b) := fun ρ Q Q' h q =>
  ha _ _ _ (fun _ _ z => withD_mono (fun _ z => hb _ _ _ (fun _ _ z => withD_mono (fun _ z => hW _ _ _ _ (fun _ z => h _ _ z) z) z) z) z) q
theorem tOp_of {r : R2} {W : W2} {a b : Expr} {Ga Gb : GE} (D : OpD X.K r W) (ha : DE X a Ga) (hb : DE X b Gb) (σ : St) (H : Hp) (Q : VK) (h : tDE X.K (gBin W Ga Gb) σ H Q) : tOp r (tDE X.K Ga) (tDE X.K Gb) σ H Q := by
  obtain ⟨c, F, ρ, j, q⟩ := h
  refine ⟨c, F, ρ, j, ha.mono _ _ _ (fun r1 ρ1 q1 F1 H1 v1 j1 v1r => ?_) q⟩
  obtain ⟨d, hd, q1⟩ := withD_use q1
  obtain ⟨F2, j2, s2, dp⟩ := v1r.frz j1 hd
  refine ⟨⟨F2, c.Z, c.io⟩, F2, ρ1, j2.anew, hb.mono _ _ _ (fun r2 ρ2 q2 F3 H3 v3 j3 v3r => ?_) q1⟩
  obtain ⟨e, he, q2⟩ := withD_use q2
  obtain ⟨F4, j4, s4, dp4⟩ := v3r.frz j3 he
  have s24 : Same F2 F4 := j4.ff
  have j5 : J X.K c F4 H3 σ ρ2 := j2.back j4
  exact D.ok c F4 H3 σ ρ2 v1 v3 d e _ _ j5 (dpM s24 dp) dp4 q2 fun z F' H' v hz j' vr => hz F' H' v j' vr
theorem de_bin {op : Operator} {r : R2} {W : W2} {a b : Expr} {Ga Gb : GE} {pos : Pos} (ho : OpR X (binaryOp op) r) (D : OpD X.K r W) (ha : DE X a Ga) (hb : DE X b Gb) : DE X (.BinOp a op b pos) (gBin W Ga Gb) :=
  ⟨gBin_mono D.mono ha.mono hb.mono, peI (pe_op ho ha.pe hb.pe) (tOp_of D ha hb)⟩
theorem de_cmp {op : CmpOp} {r : R2} {W : W2} {a b : Expr} {Ga Gb : GE} {pos : Pos} (ho : OpR X (compareOp op) r) (D : OpD X.K r W) (ha : DE X a Ga) (hb : DE X b Gb) (hm : behindInMarks op b = false) : DE X (.Compare a [op] [b] pos) (gBin W Ga Gb) :=
  ⟨gBin_mono D.mono ha.mono hb.mono, peI (pe_cmpR ho ha.pe hb.pe hm) (tOp_of D ha hb)⟩
theorem de_ixR {r : R2} {W : W2} {a b : Expr} {Ga Gb : GE} {pos : Pos} (hr : IxR X r) (D : OpD X.K r W) (ha : DE X a Ga) (hb : DE X b Gb) (hs : PlainIx b) : DE X (.Subscript a b pos) (gBin W Ga Gb) :=
  ⟨gBin_mono D.mono ha.mono hb.mono, peI (pe_ix hr ha.pe hb.pe hs) (tOp_of D ha hb)⟩
def rOr (r q : R2) : R2 := fun x y H Q => r x y H Q ∨ q x y H Q
theorem opr_or {f : Value → Value → Sem Value} {r q : R2} (h : OpR X f r) (k : OpR X f q) : OpR X f (rOr r q) := fun pins s σ H x y v u Q I rx ry z => z.elim (h pins s σ H x y v u Q I rx ry) (k pins s σ H x y v u Q I rx ry)
def wI (C : Int → Int → Prop) (g : Int → Int → PyData) : W2
  | .int i, .int j, Q => C i j ∧ Q (.sh (g i j))
  | _, _, _ => False
theorem wI_mono {C : Int → Int → Prop} {g : Int → Int → PyData} : ∀ d e Q Q', (∀ x, Q x → Q' x) → wI C g d e Q → wI C g d e Q' := fun d e Q Q' h q => by
  unfold wI at *
  split <;> simp_all
theorem wI_use {C : Int → Int → Prop} {g : Int → Int → PyData} {d e : PyData} {Q : R → Prop} (q : wI C g d e Q) : ∃ i j, d = .int i ∧ e = .int j ∧ C i j ∧ Q (.sh (g i j)) := by
  unfold wI at q
  split at q
  · exact ⟨_, _, rfl, rfl, q⟩
  · exact q.elim
inductive Flat : V → PyData → Prop
  | non : Flat .non .none
  | bl (b : Bool) : Flat (.bl b) (.bool b)
  | int (i : Int) : Flat (.int i) (.int i)
  | str (x : Str) : Flat (.str x) (.str x)
theorem Flat.dp {K : PySem.W.Frag} {F : Hp} {v : V} {d : PyData} (h : Flat v d) : Dp K F v d := by
  cases h
  · exact .non
  · exact .bl _
  · exact .int _
  · exact .str _
theorem opdI {K : PySem.W.Frag} {C : Int → Int → Prop} {g : Int → Int → V} {g' : Int → Int → PyData} (hg : ∀ i j, Flat (g i j) (g' i j)) : OpD K (rI C g) (wI C g') := ⟨wI_mono, fun c F H σ ρ x y d e Q Qv j hx hy q k => by
  obtain ⟨i, l, rfl, rfl, hc, q⟩ := wI_use q
  cases hx
  cases hy
  exact ⟨i, l, rfl, rfl, hc, k _ F H _ q j (hg i l).dp⟩⟩
theorem opdI0 {K : PySem.W.Frag} {g : Int → Int → V} {g' : Int → Int → PyData} (hg : ∀ i j, Flat (g i j) (g' i j)) : OpD K (rI0 g) (wI (fun _ _ => True) g') := ⟨wI_mono, fun c F H σ ρ x y d e Q Qv j hx hy q k => by
  obtain ⟨i, l, rfl, rfl, hc, q⟩ := wI_use q
  cases hx
  cases hy
  exact ⟨i, l, rfl, rfl, k _ F H _ q j (hg i l).dp⟩⟩
variable {a b : Expr} {Ga Gb : GE} {pos : Pos}
theorem de_sub (ha : DE X a Ga) (hb : DE X b Gb) : DE X (.BinOp a .Sub b pos) (gBin (wI (fun _ _ => True) fun i j => .int (i - j)) Ga Gb) := de_bin op_sub (opdI0 fun _ _ => .int _) ha hb
theorem de_fdiv (ha : DE X a Ga) (hb : DE X b Gb) : DE X (.BinOp a .FloorDiv b pos) (gBin (wI CDiv fun i j => .int (i / j)) Ga Gb) := de_bin op_fdiv (opdI fun _ _ => .int _) ha hb
theorem de_mod (ha : DE X a Ga) (hb : DE X b Gb) : DE X (.BinOp a .Mod b pos) (gBin (wI (fun _ j => 0 < j) fun i j => .int (i % j)) Ga Gb) := de_bin op_mod (opdI fun _ _ => .int _) ha hb
def CPowB (i j : Int) : Prop := 0 ≤ j ∧ (Builtin.Int.intBits i : Int) * j ≤ 2 ^ 27
theorem op_powB : OpR X (binaryOp .Pow) (rI CPowB fun i j => .int (i ^ j.toNat)) := opI fun _ _ _ _ _ _ _ hc q => PyProof.Rows.pow_int hc.1 hc.2 q
theorem de_pow (ha : DE X a Ga) (hb : DE X b Gb) : DE X (.BinOp a .Pow b pos) (gBin (wI CPowB fun i j => .int (i ^ j.toNat)) Ga Gb) := de_bin op_powB (opdI fun _ _ => .int _) ha hb
theorem de_gt (ha : DE X a Ga) (hb : DE X b Gb) : DE X (.Compare a [.Gt] [b] pos) (gBin (wI (fun _ _ => True) fun i j => .bool (decide (j < i))) Ga Gb) := de_cmp op_gt (opdI0 fun _ _ => .bl _) ha hb (nomark _)
theorem de_ge (ha : DE X a Ga) (hb : DE X b Gb) : DE X (.Compare a [.GtE] [b] pos) (gBin (wI (fun _ _ => True) fun i j => .bool (decide (j ≤ i))) Ga Gb) := de_cmp op_ge (opdI0 fun _ _ => .bl _) ha hb (nomark _)
def wAdd : W2
  | .int i, .int j, Q => Q (.sh (.int (i + j)))
  | .list xs, .list ys, Q => xs.length + ys.length ≤ 1000000 ∧ Q (.own (.lst (xs ++ ys)))
  | .str x, .str y, Q => x.length + y.length ≤ 1000000 ∧ Q (.sh (.str (x ++ y)))
  | _, _, _ => False
theorem wAdd_mono : ∀ d e Q Q', (∀ x, Q x → Q' x) → wAdd d e Q → wAdd d e Q' := fun d e Q Q' h q => by
  unfold wAdd at *
  split <;> simp_all
def rCatS (K : PySem.W.Frag) : R2 := fun x y H Q => ∃ l b xs zs, x = .ref l ∧ y = .ref b ∧ SqL K H l xs ∧ SqL K H b zs ∧ xs.length + zs.length ≤ sizeLine ∧ ∀ p, H p = none → Q (.ref p) (upd H p (.lst (xs ++ zs)))
theorem million : (1000000 : Nat) ≤ sizeLine := by decide
end
end DL
set_option Elab.async false
set_option linter.all false
set_option maxRecDepth 100000
namespace DL
open PySem L2
section
variable {X : Cx} {a b : Expr} {Ga Gb : GE} {pos : Pos}
theorem op_catS : OpR X (binaryOp .Add) (rCatS X.K) := by
  intro pins s σ H x y v u Q I rx ry h
  obtain ⟨l, b, xs, zs, rfl, rfl, hH, hB, hz, q⟩ := h
  cases rx
  cases ry
  obtain ⟨its, r, ⟨⟨cls, dd, data, sl⟩, n, ho, hc, hdd, hd⟩, z1⟩ := I.list hH
  obtain ⟨its2, r2, ⟨⟨cls2, dd2, data2, sl2⟩, n2, ho2, hc2, hdd2, hd2⟩, z2⟩ := I.list hB
  simp only at hc hd hc2 hd2
  subst hc hd hc2 hd2
  have l1 := r.length
  have l2 := r2.length
  refine PySem.concat_meets ⟨_, ho, rfl⟩ ⟨_, ho2, rfl⟩ noFill_list_add seq_list_add PySem.F.slot_list_add PySem.F.entry_list_add (PySem.F.args_list_add_2 _ _) (PyProof.Rows.list_addW l b its.toArray its2.toArray n n2 dd dd2 sl sl2 (by rw [List.size_toArray, List.size_toArray]; omega)) ⟨ho, ho2, ?_⟩
  have ea : its.toArray ++ its2.toArray = (its ++ its2).toArray := by simp
  rw [ea]
  exact ⟨.ref _, _, I.lnew (t' := s.toks) (r.append r2) (by rw [List.length_append]; omega), rfl, q _ I.fresh⟩
theorem dp_lst {K : PySem.W.Frag} {F : Hp} {v : V} {ds : List PyData} (h : Dp K F v (.list ds)) : ∃ a xs, v = .ref a ∧ SqL K F a xs ∧ DpAll K F xs ds := by
  cases h
  exact ⟨_, _, rfl, by assumption, by assumption⟩
theorem dp_tup {K : PySem.W.Frag} {F : Hp} {v : V} {ds : List PyData} (h : Dp K F v (.tuple ds)) : ∃ a xs, v = .ref a ∧ SqT K F a xs ∧ DpAll K F xs ds := by
  cases h
  exact ⟨_, _, rfl, by assumption, by assumption⟩
theorem relNew {K : PySem.W.Frag} {c : En} {F H : Hp} {σ : St} {ρ : Rho} {p : Addr} {o : OO} {ho : HO} (j : J K c F H σ ρ) (hp : H p = none) (h : OOk K F o ho) : RelR K c F (upd H p ho) σ ρ (.ref p) (.own o) :=
  ⟨p, ho, rfl, upd_same, h, j.ffree hp, j.zfree hp, j.apart hp⟩
theorem opdAdd {K : PySem.W.Frag} : OpD K (rOr (rI0 fun i j => .int (i + j)) (rOr (rCatS K) (fun x y H Q => ∃ i j, x = .str i ∧ y = .str j ∧ i.length + j.length ≤ sizeLine ∧ Q (.str (i ++ j)) H))) wAdd := ⟨wAdd_mono, fun c F H σ ρ x y d e Q Qv j hx hy q k => by
  unfold wAdd at q
  have hm := million
  split at q
  · cases hx
    cases hy
    exact .inl ⟨_, _, rfl, rfl, k _ F H _ q j (.int _)⟩
  · obtain ⟨l, xs, rfl, h1, a1⟩ := dp_lst hx
    obtain ⟨b, ys, rfl, h2, a2⟩ := dp_lst hy
    refine .inr (.inl ⟨l, b, xs, ys, rfl, rfl, j.fh.seq h1, j.fh.seq h2, by rw [DpAll.length a1, DpAll.length a2]; omega, fun p hp => ?_⟩)
    exact k _ F _ _ q.2 (j.alloc hp _) (relNew j hp ⟨_, rfl, DpAll.app a1 a2⟩)
  · cases hx
    cases hy
    exact .inr (.inr ⟨_, _, rfl, rfl, by omega, k _ F H _ q.2 j (.str _)⟩)
  · exact q.elim⟩
def rEqR (K : PySem.W.Frag) (neg : Bool) : R2 := fun x y H Q => ∃ d e, Dp K H x d ∧ Dp K H y e ∧ d.canLay0 = true ∧ e.canLay0 = true ∧ min d.depth e.depth < 200 ∧ Q (.bl (if neg then !PyData.eqv d e else PyData.eqv d e)) H
theorem op_eqR (hr : X.A.units + 200 < cLine) : OpR X (compareOp .Eq) (rEqR X.K false) := by
  intro pins s σ H x y v u Q I rx ry h
  obtain ⟨d, e, hd, he, s1, s2, z, q⟩ := h
  obtain ⟨as, r1⟩ := Dp.reads I d x v hd rx
  obtain ⟨bs, r2⟩ := Dp.reads I e y u he ry
  exact SeqAt.compareEq_reads r1 r2 s1 s2 (by omega) ⟨.bl _, H, I, rfl, q⟩
theorem op_neR (hr : X.A.units + 200 < cLine) : OpR X (compareOp .NotEq) (rEqR X.K true) := by
  intro pins s σ H x y v u Q I rx ry h
  obtain ⟨d, e, hd, he, s1, s2, z, q⟩ := h
  obtain ⟨as, r1⟩ := Dp.reads I d x v hd rx
  obtain ⟨bs, r2⟩ := Dp.reads I e y u he ry
  exact SeqAt.compareNe_reads r1 r2 s1 s2 (by omega) ⟨.bl _, H, I, rfl, q⟩
theorem u200 {k : Nat} {A : Around} (r : Room k A) : A.units + 200 < cLine := by have := r.un; omega
def wEq (neg : Bool) : W2 := fun d e Q => d.canLay0 = true ∧ e.canLay0 = true ∧ min d.depth e.depth < 200 ∧ Q (.sh (.bool (if neg then !PyData.eqv d e else PyData.eqv d e)))
theorem opdEq {K : PySem.W.Frag} {neg : Bool} : OpD K (rEqR K neg) (wEq neg) := ⟨fun d e Q Q' h q => ⟨q.1, q.2.1, q.2.2.1, h _ q.2.2.2⟩, fun c F H σ ρ x y d e Q Qv j hx hy q k =>
  ⟨d, e, dpM j.fh hx, dpM j.fh hy, q.1, q.2.1, q.2.2.1, k _ F H _ q.2.2.2 j (.bl _)⟩⟩
theorem de_eq {k : Nat} (hr : Room k X.A) (ha : DE X a Ga) (hb : DE X b Gb) : DE X (.Compare a [.Eq] [b] pos) (gBin (wEq false) Ga Gb) := de_cmp (op_eqR (u200 hr)) opdEq ha hb (nomark _)
def gIsN (neg : Bool) (a : GE) : GE := fun ρ Q => a ρ fun r ρ' => withD r fun d => Q (.sh (.bool (match d with | .none => !neg | _ => neg))) ρ'
theorem gIsN_mono {neg : Bool} {a : GE} (h : MonoE a) : MonoE (gIsN neg a) := fun _ _ _ hq q => h _ _ _ (fun _ _ z => withD_mono (fun _ z => hq _ _ z) z) q
theorem dp_non {K : PySem.W.Frag} {F : Hp} {v : V} {d : PyData} (h : Dp K F v d) : decide (v = .non) = (match d with | .none => true | _ => false) := by
  cases h <;> simp
def gNeg (a : GE) : GE := fun ρ Q => a ρ fun r ρ' => match r with | .sh (.int i) => Q (.sh (.int (-i))) ρ' | _ => False
theorem gNeg_mono {a : GE} (h : MonoE a) : MonoE (gNeg a) := fun _ _ _ hq q => h _ _ _ (fun r ρ' z => by split at z <;> first | exact hq _ _ z | exact z.elim) q
theorem de_neg (ha : DE X a Ga) : DE X (.UnaryOp .USub a pos) (gNeg Ga) := ⟨gNeg_mono ha.mono, peI (pe_un un_neg ha.pe) fun σ H Q ⟨c, F, ρ, j, q⟩ => by
  refine ⟨c, F, ρ, j, ha.mono _ _ _ (fun r1 ρ1 q1 F1 H1 v1 j1 v1r => ?_) q⟩
  split at q1
  · cases v1r
    exact ⟨_, rfl, q1 F1 H1 _ j1 (.int _)⟩
  · exact q1.elim⟩
def gNot (a : GE) : GE := fun ρ Q => a ρ fun r ρ' => match r with | .sh (.bool i) => Q (.sh (.bool (!i))) ρ' | _ => False
theorem gNot_mono {a : GE} (h : MonoE a) : MonoE (gNot a) := fun _ _ _ hq q => h _ _ _ (fun r ρ' z => by split at z <;> first | exact hq _ _ z | exact z.elim) q
theorem de_not (ha : DE X a Ga) : DE X (.UnaryOp .Not a pos) (gNot Ga) := ⟨gNot_mono ha.mono, peI (pe_not ha.pe) fun σ H Q ⟨c, F, ρ, j, q⟩ => by
  refine ⟨c, F, ρ, j, ha.mono _ _ _ (fun r1 ρ1 q1 F1 H1 v1 j1 v1r => ?_) q⟩
  split at q1
  · cases v1r
    exact ⟨_, rfl, q1 F1 H1 _ j1 (.bl _)⟩
  · exact q1.elim⟩
def gAndV (a b : GE) : GE := fun ρ Q => a ρ fun r ρ' => match r with | .sh (.bool true) => b ρ' Q | .sh (.bool false) => Q (.sh (.bool false)) ρ' | _ => False
theorem gAndV_mono {a b : GE} (h : MonoE a) (k : MonoE b) : MonoE (gAndV a b) := fun _ _ _ hq q => h _ _ _ (fun r ρ' z => by split at z <;> first | exact hq _ _ z | exact k _ _ _ hq z | exact z.elim) q
variable {rest : List Expr}
theorem de_one {op : BoolOp} (ha : DE X a Ga) : DE X (.BoolOp op [a] pos) Ga := ⟨ha.mono, pe_one ha.pe⟩
theorem de_and (ha : DE X a Ga) (hb : DE X (.BoolOp .And (b :: rest) pos) Gb) : DE X (.BoolOp .And (a :: b :: rest) pos) (gAndV Ga Gb) := ⟨gAndV_mono ha.mono hb.mono, peI (pe_and ha.pe hb.pe) fun σ H Q ⟨c, F, ρ, j, q⟩ => by
  refine ⟨c, F, ρ, j, ha.mono _ _ _ (fun r1 ρ1 q1 F1 H1 v1 j1 v1r => ?_) q⟩
  split at q1
  · cases v1r
    exact ⟨_, rfl, iteT ⟨c, F1, ρ1, j1, q1⟩⟩
  · cases v1r
    exact ⟨_, rfl, iteF (q1 F1 H1 _ j1 (.bl _))⟩
  · exact q1.elim⟩
def gB (a : GE) : GT := fun ρ Q => a ρ fun r ρ' => match r with | .sh (.bool i) => Q i ρ' | _ => False
theorem gB_mono {a : GE} (h : MonoE a) : MonoT (gB a) := fun _ _ _ hq q => h _ _ _ (fun r ρ' z => by split at z <;> first | exact hq _ _ z | exact z.elim) q
theorem dt_val {e : Expr} {G : GE} (h : DE X e G) (he : ∀ whole, isTrue e X.env whole = (do let v ← whole; standAt e.pos; holding [v] (truthy v)) := by intro _; rfl) : DT X e (gB G) := ⟨gB_mono h.mono, ptI (pt_val h.pe he) fun σ H Q ⟨c, F, ρ, j, q⟩ => by
  refine ⟨c, F, ρ, j, h.mono _ _ _ (fun r1 ρ1 q1 F1 H1 v1 j1 v1r => ?_) q⟩
  split at q1
  · cases v1r
    exact ⟨_, rfl, q1 F1 H1 j1⟩
  · exact q1.elim⟩
def gAnd (a b : GT) : GT := fun ρ Q => a ρ fun t ρ' => if t = true then b ρ' Q else Q false ρ'
def gOr (a b : GT) : GT := fun ρ Q => a ρ fun t ρ' => if t = true then Q true ρ' else b ρ' Q
def gNt (a : GT) : GT := fun ρ Q => a ρ fun t ρ' => Q (!t) ρ'
variable {Ta Tb : GT}
theorem gAnd_mono (h : MonoT Ta) (k : MonoT Tb) : MonoT (gAnd Ta Tb) := fun _ _ _ hq q => h _ _ _ (fun r ρ' z => by cases r <;> simp only [if_true, if_false, Bool.false_eq_true] at z ⊢ <;> first | exact hq _ _ z | exact k _ _ _ hq z) q
theorem gOr_mono (h : MonoT Ta) (k : MonoT Tb) : MonoT (gOr Ta Tb) := fun _ _ _ hq q => h _ _ _ (fun r ρ' z => by cases r <;> simp only [if_true, if_false, Bool.false_eq_true] at z ⊢ <;> first | exact hq _ _ z | exact k _ _ _ hq z) q
theorem gNt_mono (h : MonoT Ta) : MonoT (gNt Ta) := fun _ _ _ hq q => h _ _ _ (fun r ρ' z => hq _ _ z) q
theorem dt_w {e : Expr} {T : GT} (h : DW X e T) : DT X e T := ⟨h.mono, h.pw.pt⟩
theorem dw_and1 (ha : DT X a Ta) : DW X (.BoolOp .And [a] pos) Ta := ⟨ha.mono, pw_and1 ha.pt⟩
theorem dw_or1 (ha : DT X a Ta) : DW X (.BoolOp .Or [a] pos) Ta := ⟨ha.mono, pw_or1 ha.pt⟩
theorem dw_and (ha : DT X a Ta) (hb : DW X (.BoolOp .And (b :: rest) pos) Tb) : DW X (.BoolOp .And (a :: b :: rest) pos) (gAnd Ta Tb) := ⟨gAnd_mono ha.mono hb.mono, pwI (pw_and ha.pt hb.pw) fun σ H Q ⟨c, F, ρ, j, q⟩ => by
  refine ⟨c, F, ρ, j, ha.mono _ _ _ (fun t ρ1 q1 F1 H1 j1 => ?_) q⟩
  cases t
  · exact iteF (q1 F1 H1 j1)
  · exact iteT ⟨c, F1, ρ1, j1, q1⟩⟩
theorem dw_or (ha : DT X a Ta) (hb : DW X (.BoolOp .Or (b :: rest) pos) Tb) : DW X (.BoolOp .Or (a :: b :: rest) pos) (gOr Ta Tb) := ⟨gOr_mono ha.mono hb.mono, pwI (pw_or ha.pt hb.pw) fun σ H Q ⟨c, F, ρ, j, q⟩ => by
  refine ⟨c, F, ρ, j, ha.mono _ _ _ (fun t ρ1 q1 F1 H1 j1 => ?_) q⟩
  cases t
  · exact iteF ⟨c, F1, ρ1, j1, q1⟩
  · exact iteT (q1 F1 H1 j1)⟩
theorem dt_not (ha : DT X a Ta) : DT X (.UnaryOp .Not a pos) (gNt Ta) := ⟨gNt_mono ha.mono, ptI (pt_not ha.pt) fun σ H Q ⟨c, F, ρ, j, q⟩ => ⟨c, F, ρ, j, ha.mono _ _ _ (fun t ρ1 q1 F1 H1 j1 => q1 F1 H1 j1) q⟩⟩
def gIfE (t : GT) (a b : GE) : GE := fun ρ Q => t ρ fun k ρ' => if k = true then a ρ' Q else b ρ' Q
theorem gIfE_mono {t : GT} {a b : GE} (h : MonoT t) (ha : MonoE a) (hb : MonoE b) : MonoE (gIfE t a b) := fun _ _ _ hq q => h _ _ _ (fun r ρ' z => by cases r <;> simp only [if_true, if_false, Bool.false_eq_true] at z ⊢ <;> first | exact ha _ _ _ hq z | exact hb _ _ _ hq z) q
theorem de_ifE {t : Expr} (ht : DT X t Ta) (ha : DE X a Ga) (hb : DE X b Gb) : DE X (.IfExp t a b pos) (gIfE Ta Ga Gb) := ⟨gIfE_mono ht.mono ha.mono hb.mono, peI (pe_ifExp ht.pt ha.pe hb.pe) fun σ H Q ⟨c, F, ρ, j, q⟩ => by
  refine ⟨c, F, ρ, j, ht.mono _ _ _ (fun t ρ1 q1 F1 H1 j1 => ?_) q⟩
  cases t
  · exact iteF ⟨c, F1, ρ1, j1, q1⟩
  · exact iteT ⟨c, F1, ρ1, j1, q1⟩⟩
def wIx : W2
  | .tuple ds, .int i, Q => (match atI ds i with | some d => Q (.sh d) | none => False)
  | .list ds, .int i, Q => (match atI ds i with | some d => Q (.sh d) | none => False)
  | _, _, _ => False
theorem wIx_mono : ∀ d e Q Q', (∀ x, Q x → Q' x) → wIx d e Q → wIx d e Q' := fun d e Q Q' h q => by
  unfold wIx at *
  split <;> simp_all <;> split at q <;> simp_all
theorem dpAt {K : PySem.W.Frag} {F : Hp} {xs : List V} {ds : List PyData} {i : Int} {d : PyData} (h : DpAll K F xs ds) (e : atI ds i = some d) : ∃ v, atI xs i = some v ∧ Dp K F v d := by
  unfold atI at *
  rw [DpAll.length h]
  cases z : ixN ds.length i with
  | none => rw [z] at e; cases e
  | some k =>
    rw [z] at e
    exact DpAll.get h e
theorem opdIx {K : PySem.W.Frag} : OpD K (rIx K) wIx := ⟨wIx_mono, fun c F H σ ρ x y d e Q Qv j hx hy q k => by
  unfold wIx at q
  split at q
  · obtain ⟨l, xs, rfl, h1, a1⟩ := dp_tup hx
    cases hy
    split at q
    · next d' e' =>
      obtain ⟨v, hv, dv⟩ := dpAt a1 e'
      exact .inr (.inl ⟨l, xs, _, v, rfl, rfl, sqT_same j.fh h1, hv, k _ F H _ q j dv⟩)
    · exact q.elim
  · obtain ⟨l, xs, rfl, h1, a1⟩ := dp_lst hx
    cases hy
    split at q
    · next d' e' =>
      obtain ⟨v, hv, dv⟩ := dpAt a1 e'
      exact .inl ⟨l, xs, _, v, rfl, rfl, j.fh.seq h1, hv, k _ F H _ q j dv⟩
    · exact q.elim
  · exact q.elim⟩
theorem de_ix (ha : DE X a Ga) (hb : DE X b Gb) (hs : PlainIx b := by exact fun _ _ => rfl) : DE X (.Subscript a b pos) (gBin wIx Ga Gb) := de_ixR ix_seq opdIx ha hb hs
end
end DL
set_option Elab.async false
set_option linter.all false
set_option maxRecDepth 100000
namespace DL
open PySem L2
section
variable {X : Cx} {a b e : Expr} {es : List Expr} {Ga Gb : GE} {pos : Pos}
abbrev GA := Rho → (List PyData → Rho → Prop) → Prop
def MonoA (G : GA) : Prop := ∀ ρ Q Q', (∀ r ρ', Q r ρ' → Q' r ρ') → G ρ Q → G ρ Q'
def tDA (K : PySem.W.Frag) (G : GA) : TA := fun σ H Q => ∃ c F ρ, J K c F H σ ρ ∧ G ρ fun ds ρ' => ∀ F' H' vs, J K c F' H' σ ρ' → DpAll K F' vs ds → Q vs H'
structure DA (X : Cx) (es : List Expr) (G : GA) : Prop where
  mono : MonoA G
  pa : PA X es (tDA X.K G)
def gNil : GA := fun ρ Q => Q [] ρ
def gCons (a : GE) (t : GA) : GA := fun ρ Q => a ρ fun r ρ1 => withD r fun d => t ρ1 fun ds ρ2 => Q (d :: ds) ρ2
theorem paI {t t' : TA} (h : PA X es t) (i : ∀ σ H Q, t' σ H Q → t σ H Q) : PA X es t' := fun p pins s σ H Q I q => h p pins s σ H Q I (i σ H Q q)
theorem da_nil : DA X [] gNil := ⟨fun _ _ _ h q => h _ _ q, paI pa_nil fun σ H Q ⟨c, F, ρ, j, q⟩ => q F H [] j .nil⟩
theorem gCons_mono {a : GE} {t : GA} (h : MonoE a) (k : MonoA t) : MonoA (gCons a t) := fun _ _ _ hq q => h _ _ _ (fun _ _ z => withD_mono (fun _ z => k _ _ _ (fun _ _ z => hq _ _ z) z) z) q
theorem da_cons {t : GA} (ha : DE X e Ga) (ht : DA X es t) (hs : starEach (e :: es) X.env = (false, eval e X.env) :: starEach es X.env := by rfl) : DA X (e :: es) (gCons Ga t) := ⟨gCons_mono ha.mono ht.mono, paI (pa_cons ha.pe ht.pa hs) fun σ H Q ⟨c, F, ρ, j, q⟩ => by
  refine ⟨c, F, ρ, j, ha.mono _ _ _ (fun r1 ρ1 q1 F1 H1 v1 j1 v1r => ?_) q⟩
  obtain ⟨d, hd, q1⟩ := withD_use q1
  obtain ⟨F2, j2, s2, dp⟩ := v1r.frz j1 hd
  refine ⟨⟨F2, c.Z, c.io⟩, F2, ρ1, j2.anew, ht.mono _ _ _ (fun ds ρ2 q2 F3 H3 vs j3 a3 => ?_) q1⟩
  exact q2 F3 H3 (v1 :: vs) (j2.back j3) (.cons (dpM j3.ff dp) a3)⟩
def gLst (t : GA) : GE := fun ρ Q => t ρ fun ds ρ' => ds.length ≤ 1000 ∧ Q (.own (.lst ds)) ρ'
def gTup (t : GA) : GE := fun ρ Q => t ρ fun ds ρ' => ds.length ≤ 1000 ∧ Q (.sh (.tuple ds)) ρ'
theorem de_lst {t : GA} (h : DA X es t) : DE X (.List es pos) (gLst t) := ⟨fun _ _ _ hq q => h.mono _ _ _ (fun _ _ z => ⟨z.1, hq _ _ z.2⟩) q, peI (pe_lst h.pa) fun σ H Q ⟨c, F, ρ, j, q⟩ =>
  ⟨c, F, ρ, j, h.mono _ _ _ (fun ds ρ1 q1 F1 H1 vs j1 a1 => ⟨Nat.le_of_lt (small1000 (by rw [DpAll.length a1]; exact q1.1)), fun p hp => q1.2 F1 _ _ (j1.alloc hp _) (relNew j1 hp ⟨vs, rfl, a1⟩)⟩) q⟩⟩
theorem de_tup {t : GA} {k : Nat} (h : DA X es t) : DE X (.Tuple es k pos) (gTup t) := ⟨fun _ _ _ hq q => h.mono _ _ _ (fun _ _ z => ⟨z.1, hq _ _ z.2⟩) q, peI (pe_tup h.pa) fun σ H Q ⟨c, F, ρ, j, q⟩ =>
  ⟨c, F, ρ, j, h.mono _ _ _ (fun ds ρ1 q1 F1 H1 vs j1 a1 => ⟨Nat.le_of_lt (small1000 (by rw [DpAll.length a1]; exact q1.1)), fun p hp =>
    q1.2 _ _ _ ((j1.alloc hp _).frz upd_same (j1.ffree hp) (j1.zfree hp) (j1.apart hp)) (.tup (SqT.of upd_same) (dpAllM (same_new (j1.ffree hp) _) a1))⟩) q⟩⟩
abbrev WC := List PyData → (R → Prop) → Prop
structure CallD (K : PySem.W.Frag) (r : List V → Hp → VK → Prop) (W : WC) : Prop where
  mono : ∀ ds Q Q', (∀ x, Q x → Q' x) → W ds Q → W ds Q'
  ok : ∀ (c : En) (F H : Hp) (σ : St) (ρ : Rho) (vs : List V) (ds : List PyData) (Q : R → Prop) (Qv : VK), J K c F H σ ρ → DpAll K F vs ds → W ds Q →
    (∀ z F' H' v, Q z → J K c F' H' σ ρ → RelR K c F' H' σ ρ v z → Qv v H') → r vs H Qv
def gBlt (W : WC) (t : GA) : GE := fun ρ Q => t ρ fun ds ρ' => W ds fun z => Q z ρ'
theorem gBlt_mono {W : WC} {t : GA} (hW : ∀ ds Q Q', (∀ x, Q x → Q' x) → W ds Q → W ds Q') (h : MonoA t) : MonoE (gBlt W t) := fun _ _ _ hq q => h _ _ _ (fun _ _ z => hW _ _ _ (fun _ z => hq _ _ z) z) q
theorem tCB_of {r : List V → Hp → VK → Prop} {W : WC} {t : GA} (D : CallD X.K r W) (h : DA X es t) (σ : St) (H : Hp) (Q : VK) (z : tDE X.K (gBlt W t) σ H Q) : tCB r (tDA X.K t) σ H Q := by
  obtain ⟨c, F, ρ, j, q⟩ := z
  exact ⟨c, F, ρ, j, h.mono _ _ _ (fun ds ρ1 q1 F1 H1 vs j1 a1 => D.ok c F1 H1 σ ρ1 vs ds _ _ j1 a1 q1 fun z F' H' v hz j' vr => hz F' H' v j' vr) q⟩
theorem de_blt {x : Str} {id : String} {r : List V → Hp → VK → Prop} {W : WC} {t : GA} {p : Pos} (D : CallD X.K r W) (hc : CallR X (.builtin id) r) (hg : Gl X x) (hm : X.mg x = none) (hv : bootBuiltins x = some (.builtin id)) (h : DA X (e :: es) t) (hn : x ≠ "__name__" := by decide) (hdb : (x == ("__debug__" : Str)) = false := by decide)
    (he : starEach (e :: es) X.env = (false, eval e X.env) :: starEach es X.env := by rfl) (hpl : (backTo pos (starEach es X.env)).any (·.1) = false := by rfl) : DE X (.Call (.Name x p) (e :: es) [] pos) (gBlt W t) :=
  ⟨gBlt_mono D.mono h.mono, peI (pe_callB hc hg hm hv h.pa hn hdb he hpl) (tCB_of D h)⟩
theorem de_bty {x : Str} {T : String} {r : List V → Hp → VK → Prop} {W : WC} {t : GA} {p : Pos} (D : CallD X.K r W) (hc : CallR X (.type T) r) (hg : Gl X x) (hm : X.mg x = none) (hv : bootBuiltins x = some (.type T)) (h : DA X (e :: es) t) (hn : x ≠ "__name__" := by decide) (hdb : (x == ("__debug__" : Str)) = false := by decide)
    (he : starEach (e :: es) X.env = (false, eval e X.env) :: starEach es X.env := by rfl) (hpl : (backTo pos (starEach es X.env)).any (·.1) = false := by rfl) : DE X (.Call (.Name x p) (e :: es) [] pos) (gBlt W t) :=
  ⟨gBlt_mono D.mono h.mono, peI (pe_callTy hc hg hm hv h.pa hn hdb he hpl) (tCB_of D h)⟩
def wLen : WC
  | [.list ds], Q => Q (.sh (.int ds.length))
  | [.tuple ds], Q => Q (.sh (.int ds.length))
  | _, _ => False
def wI2 (g : Int → Int → Int) : WC
  | [.int i, .int j], Q => Q (.sh (.int (g i j)))
  | _, _ => False
theorem cd_I2 {K : PySem.W.Frag} {g : Int → Int → Int} : CallD K (fun xs H Q => ∃ i j, xs = [.int i, .int j] ∧ Q (.int (g i j)) H) (wI2 g) := ⟨fun ds Q Q' h q => by unfold wI2 at *; split <;> simp_all, fun c F H σ ρ vs ds Q Qv j a q k => by
  unfold wI2 at q
  split at q
  · cases a with | cons h t => cases t with | cons h' t' => cases t' with | nil =>
    cases h
    cases h'
    exact ⟨_, _, rfl, k _ F H _ q j (.int _)⟩
  · exact q.elim⟩
def wAbs : WC
  | [.int i], Q => Q (.sh (.int (if i < 0 then -i else i)))
  | _, _ => False
theorem cd_abs {K : PySem.W.Frag} : CallD K (fun xs H Q => ∃ i, xs = [.int i] ∧ Q (.int (if i < 0 then -i else i)) H) wAbs := ⟨fun ds Q Q' h q => by unfold wAbs at *; split <;> simp_all, fun c F H σ ρ vs ds Q Qv j a q k => by
  unfold wAbs at q
  split at q
  · cases a with | cons h t => cases t with | nil =>
    cases h
    exact ⟨_, rfl, k _ F H _ q j (.int _)⟩
  · exact q.elim⟩
def wInt : WC
  | [.int i], Q => Q (.sh (.int i))
  | [.bool b], Q => Q (.sh (.int (if b then 1 else 0)))
  | _, _ => False
theorem cd_int {K : PySem.W.Frag} : CallD K (fun xs H Q => (∃ i, xs = [.int i] ∧ Q (.int i) H) ∨ ∃ k, xs = [.bl k] ∧ Q (.int (if k then 1 else 0)) H) wInt := ⟨fun ds Q Q' h q => by unfold wInt at *; split <;> simp_all, fun c F H σ ρ vs ds Q Qv j a q k => by
  unfold wInt at q
  split at q
  · cases a with | cons h t => cases t with | nil =>
    cases h
    exact .inl ⟨_, rfl, k _ F H _ q j (.int _)⟩
  · cases a with | cons h t => cases t with | nil =>
    cases h
    exact .inr ⟨_, rfl, k _ F H _ q j (.int _)⟩
  · exact q.elim⟩
abbrev Ct := List PyData → (R → Prop) → Prop
def RelF (K : PySem.W.Frag) (H F' H' : Hp) (v : V) : R → Prop
  | .sh d => Dp K F' v d
  | .own o => ∃ a ho, v = .ref a ∧ H a = none ∧ H' a = some ho ∧ OOk K F' o ho ∧ F' a = none
  | .io _ => False
  | .new ps => ∃ t vs, v = .ref t ∧ F' t = some (.tup vs) ∧ NewP K H F' vs ps
def spD (K : PySem.W.Frag) (C : Ct) : Sp := fun vs H Q _ => ∃ F ds, Same F H ∧ DpAll K F vs ds ∧ C ds fun r => ∀ F' H' v, Same F F' → Same F' H' → (∀ b o, F' b = some o → F b = some o ∨ H b = none) → Same H H' → RelF K H F' H' v r → Q v H'
def gCall (C : Ct) (t : GA) : GE := fun ρ Q => t ρ fun ds ρ' => C ds fun r => Q r ρ'
def MonoC (C : Ct) : Prop := ∀ ds Q Q', (∀ r, Q r → Q' r) → C ds Q → C ds Q'
theorem J.called {K : PySem.W.Frag} {c : En} {F H F' H' : Hp} {σ : St} {ρ : Rho} (j : J K c F H σ ρ) (sf : Same F F') (sh : Same F' H') (gr : ∀ b o, F' b = some o → F b = some o ∨ H b = none) (s : Same H H') : J K c F' H' σ ρ :=
  by
  refine ⟨j.len, j.ff.trans sf, sh, j.zh.trans s, fun b o h => (gr b o h).elim (j.fz b o) fun z => .inr (j.zfree z), fun i d h => ?_, fun i o h => ?_, j.nd, j.ios⟩
  · obtain ⟨v, a, b⟩ := j.sh i d h
    exact ⟨v, a, dpM sf b⟩
  · obtain ⟨a, ho, h1, h2, h3, h4, h5⟩ := j.ow i o h
    refine ⟨a, ho, h1, s _ _ h2, ooM sf h3, ?_, h5⟩
    cases e : F' a with
    | none => rfl
    | some u =>
      rcases gr a u e with z | z
      · rw [h4] at z; cases z
      · rw [h2] at z; cases z
theorem RelF.rel {K : PySem.W.Frag} {c : En} {F H F' H' : Hp} {σ : St} {ρ : Rho} {v : V} : ∀ {r : R}, J K c F H σ ρ → RelF K H F' H' v r → RelR K c F' H' σ ρ v r
  | .sh _, _, h => h
  | .own _, j, ⟨a, ho, h1, h2, h3, h4, h5⟩ => ⟨a, ho, h1, h3, h4, h5, j.zfree h2, j.apart h2⟩
  | .io _, _, h => h.elim
  | .new _, j, ⟨t, vs, h1, h2, h3⟩ => ⟨t, vs, h1, h2, h3.zed fun _ _ _ z => j.zfree z⟩
theorem de_call {bq : Bool} {C : Ct} {k : Nat} {f : Addr} {fd : FuncData} {ps : List Str} {x : Str} {t : GA} {p : Pos} (M : MonoC C) (Fn : FnOkC bq X.prog X.w X.K X.mg X.base CX0 k f fd ps (spD X.K C)) (hqt : Qt bq X) (hr : Room k X.A) (hg : Gl X x) (hm : X.mg x = some (.ref f)) (hk : PySem.W.keepIn X.K (.ref f) = true) (hb : Binds X.K fd ps []) (ha : DA X (e :: es) t)
    (hdb : (x == ("__debug__" : Str)) = false := by decide) (he : starEach (e :: es) X.env = (false, eval e X.env) :: starEach es X.env := by rfl) (hpl : (backTo pos (starEach es X.env)).any (·.1) = false := by rfl) : DE X (.Call (.Name x p) (e :: es) [] pos) (gCall C t) :=
  ⟨fun _ _ _ hq q => ha.mono _ _ _ (fun _ _ z => M _ _ _ (fun _ z => hq _ _ z) z) q, peI (pe_call Fn hqt hr hg hm hk hb .nil pass0 ha.pa hdb he hpl) fun σ H Q ⟨c, F, ρ, j, q⟩ => by
    refine ⟨c, F, ρ, j, ha.mono _ _ _ (fun ds ρ1 q1 F1 H1 vs j1 a1 => ?_) q⟩
    show spD X.K C (vs ++ []) H1 Q E0
    rw [List.append_nil]
    exact ⟨F1, ds, j1.fh, a1, M _ _ _ (fun r hq F' H' v s1 s2 gr s3 rf => hq F' H' v (j1.called s1 s2 gr s3) (rf.rel j1)) q1⟩⟩
abbrev Cp := OO → List PyData → (R → OO → Prop) → Prop
def MonoP (C : Cp) : Prop := ∀ o ds Q Q', (∀ r o', Q r o' → Q' r o') → C o ds Q → C o ds Q'
def spP (K : PySem.W.Frag) (C : Cp) : Sp := fun vs H Q _ => ∃ F a ho o us ds, vs = .ref a :: us ∧ Same F H ∧ F a = none ∧ H a = some ho ∧ OOk K F o ho ∧ DpAll K F us ds ∧ C o ds fun r o' => ∀ F' H' v ho', Same F F' → Same F' H' → (∀ b u, F' b = some u → F b = some u ∨ H b = none) →
  (∀ b u, b ≠ a → H b = some u → H' b = some u) → H' a = some ho' → OOk K F' o' ho' → RelF K H F' H' v r → Q v H'
end
end DL
set_option Elab.async false
set_option linter.all false
set_option maxRecDepth 100000
namespace DL
open PySem L2
def ownAt (ρ : Rho) (i : Nat) (k : OO → (OO → R) → Prop) : Prop := match ρ[i]? with
  | some (some (.own o)) => k o .own
  | some (some (.io o)) => k o .io
  | _ => False
theorem ownAt_mono {ρ : Rho} {i : Nat} {k k' : OO → (OO → R) → Prop} (h : ∀ o w, k o w → k' o w) (q : ownAt ρ i k) : ownAt ρ i k' := by
  unfold ownAt at *
  split <;> simp_all
theorem ownAt_use {ρ : Rho} {i : Nat} {k : OO → (OO → R) → Prop} (q : ownAt ρ i k) : ∃ o w, (w = R.own ∨ w = R.io) ∧ ρ[i]? = some (some (w o)) ∧ Ow ρ i o ∧ k o w := by
  unfold ownAt at q
  split at q
  · next o e => exact ⟨o, R.own, .inl rfl, e, .inl e, q⟩
  · next o e => exact ⟨o, R.io, .inr rfl, e, .inr e, q⟩
  · exact q.elim
section
variable {K : PySem.W.Frag} {c : En} {F H : Hp} {σ : St} {ρ : Rho}
theorem J.putW (j : J K c F H σ ρ) {i : Nat} {w : OO → R} {o o' : OO} {a : Addr} {ho' : HO} (hw : w = R.own ∨ w = R.io) (hr : ρ[i]? = some (some (w o))) (ha : σ[i]? = some (some (V.ref a))) (hk : OOk K F o' ho') : J K c F (upd H a ho') σ (ρ.set i (some (w o'))) := by
  rcases hw with rfl | rfl
  · exact j.put hr (.inl rfl) ha hk
  · exact j.put hr (.inr rfl) ha hk
theorem J.chg (j : J K c F H σ ρ) {a : Addr} (fa : F a = none) (za : c.Z a = none) (ap : Apart σ ρ a) (o : HO) : J K c F (upd H a o) σ ρ where
  len := j.len
  ff := j.ff
  fh := fun b u h => by rw [upd_ne (fun e => by rw [e, fa] at h; cases h)]; exact j.fh b u h
  zh := fun b u h => by rw [upd_ne (fun e => by rw [e, za] at h; cases h)]; exact j.zh b u h
  fz := j.fz
  sh := j.sh
  ow := fun i q h => by
    obtain ⟨b, ho, h1, h2, h3⟩ := j.ow i q h
    exact ⟨b, ho, h1, by rw [upd_ne (fun e => ap i q h (by rw [h1, e]))]; exact h2, h3⟩
  nd := j.nd
  ios := j.ios
theorem upd_back {H : Hp} {a : Addr} {o u : HO} (h : H a = some o) : upd (upd H a u) a o = H := by
  funext b
  unfold upd
  by_cases e : b = a
  · rw [if_pos e, e, h]
  · rw [if_neg e, if_neg e]
theorem J.calledBut {F' H' : Hp} {a : Addr} {ho : HO} (j : J K c F H σ ρ) (ha : H a = some ho) (fa : F a = none) (sf : Same F F') (sh : Same F' H') (gr : ∀ b u, F' b = some u → F b = some u ∨ H b = none) (s : ∀ b u, b ≠ a → H b = some u → H' b = some u) : F' a = none ∧ J K c F' (upd H' a ho) σ ρ := by
  have fa' : F' a = none := by
    cases e : F' a with
    | none => rfl
    | some u =>
      rcases gr a u e with z | z
      · rw [fa] at z; cases z
      · rw [ha] at z; cases z
  refine ⟨fa', j.called sf (fun b u h => ?_) gr fun b u h => ?_⟩
  · rw [upd_ne (fun e => by rw [e, fa'] at h; cases h)]
    exact sh b u h
  · by_cases e : b = a
    · rw [e, upd_same, ← ha, ← e, h]
    · rw [upd_ne e]
      exact s b u e h
end
section
variable {X : Cx} {a b e : Expr} {es : List Expr} {Ga Gb : GE} {pos : Pos}
def gCallO (C : Cp) (i : Nat) (t : GA) : GE := fun ρ Q => ownAt ρ i fun _ _ => t ρ fun ds ρ1 => ownAt ρ1 i fun o w => C o ds fun r o' => Q r (ρ1.set i (some (w o')))
theorem gCallO_mono {C : Cp} {i : Nat} {t : GA} (M : MonoP C) (h : MonoA t) : MonoE (gCallO C i t) := fun _ _ _ hq q => ownAt_mono (fun _ _ z => h _ _ _ (fun _ _ z => ownAt_mono (fun _ _ z => M _ _ _ _ (fun _ _ z => hq _ _ z) z) z) z) q
theorem de_callO {bq : Bool} {C : Cp} {k : Nat} {f : Addr} {fd : FuncData} {ps : List Str} {x y : Str} {i : Nat} {t : GA} {p py : Pos} (M : MonoP C) (Fn : FnOkC bq X.prog X.w X.K X.mg X.base CX0 k f fd ps (spP X.K C)) (hqt : Qt bq X) (hr : Room k X.A) (hg : Gl X x) (hm : X.mg x = some (.ref f)) (hk : PySem.W.keepIn X.K (.ref f) = true) (hb : Binds X.K fd ps [])
    (hy : PE X (.Name y py) (tVar i)) (ha : DA X es t) (hs : starEach (.Name y py :: es) X.env = (false, eval (.Name y py) X.env) :: starEach es X.env := by rfl)
    (hdb : (x == ("__debug__" : Str)) = false := by decide) (hpl : (backTo pos (starEach es X.env)).any (·.1) = false := by rfl) : DE X (.Call (.Name x p) (.Name y py :: es) [] pos) (gCallO C i t) :=
  ⟨gCallO_mono M ha.mono, peI (pe_call Fn hqt hr hg hm hk hb .nil pass0 (pa_cons hy ha.pa hs) hdb hs hpl) fun σ H Q ⟨c, F, ρ, j, q⟩ => by
    obtain ⟨o0, w0, _, _, ow0, q⟩ := ownAt_use q
    obtain ⟨a0, ho0, hσ, _⟩ := j.ow i o0 ow0
    refine ⟨.ref a0, hσ, c, F, ρ, j, ha.mono _ _ _ (fun ds ρ1 q1 F1 H1 vs j1 a1 => ?_) q⟩
    show spP X.K C ((.ref a0 :: vs) ++ []) H1 Q E0
    rw [List.append_nil]
    obtain ⟨o, w, hw, hρ, ow, q1⟩ := ownAt_use q1
    obtain ⟨a2, ho, hσ2, h2, h3, h4, h5⟩ := j1.ow i o ow
    rw [hσ] at hσ2
    cases hσ2
    refine ⟨F1, a0, ho, o, vs, ds, rfl, j1.fh, h4, h2, h3, a1, M _ _ _ _ (fun r o' hq F' H' v ho' s1 s2 gr s3 ha' ok' rf => ?_) q1⟩
    obtain ⟨fa', j2⟩ := j1.calledBut h2 h4 s1 s2 gr s3
    have j3 := j2.putW hw hρ hσ ok'
    rw [upd_back ha'] at j3
    refine hq F' H' v j3 ?_
    match r, rf with
    | .sh d, rf => exact rf
    | .own q, ⟨b, hb', e1, e2, e3, e4, e5⟩ =>
      refine ⟨b, hb', e1, e3, e4, e5, j1.zfree e2, fun k o2 h z => ?_⟩
      have : ∃ o3, Ow ρ1 k o3 := by
        rcases ow_set h with ⟨e, _⟩ | ⟨_, h⟩
        · exact ⟨o, e ▸ ow⟩
        · exact ⟨o2, h⟩
      obtain ⟨o3, h⟩ := this
      exact j1.apart e2 k o3 h z
    | .io _, rf => exact rf.elim
    | .new _, ⟨t, vs, e1, e2, e3⟩ => exact ⟨t, vs, e1, e2, e3.zed fun _ _ _ z => j1.zfree z⟩⟩
def gLenO (i : Nat) : GE := fun ρ Q => ownAt ρ i fun o _ => match o with
  | .lst ds => Q (.sh (.int ds.length)) ρ
  | .dic kvs => Q (.sh (.int kvs.length)) ρ
  | .exc _ => False
theorem pairedLen {α β : Type} {r : α → β → Prop} : ∀ {xs : List α} {ys : List β}, Paired r xs ys → xs.length = ys.length
  | _, _, .nil => rfl
  | _, _, .cons _ t => congrArg (· + 1) (pairedLen t)
def gIxO (i : Nat) (b : GE) : GE := fun ρ Q => ownAt ρ i fun _ _ => b ρ fun r ρ1 => withD r fun d => ownAt ρ1 i fun o _ => match o, d with
  | .lst ds, .int k => (match atI ds k with | some x => Q (.sh x) ρ1 | none => False)
  | _, _ => False
structure MethD (K : PySem.W.Frag) (r : V → List V → Hp → VK → Prop) (W : Cp) : Prop where
  mono : MonoP W
  ok : ∀ (F H : Hp) (a : Addr) (xs vs : List V) (o : OO) (ds : List PyData) (Q : R → OO → Prop) (Qv : VK), H a = some (.lst xs) → Same F H → OOk K F o (.lst xs) → DpAll K F vs ds → W o ds Q →
    (∀ z o' v ys, Q (.sh z) o' → Dp K F v z → OOk K F o' (.lst ys) → Qv v (upd H a (.lst ys))) → r (.ref a) vs H Qv
def OO.isL : OO → Prop
  | .lst _ => True
  | .dic _ => False
  | .exc _ => False
def gMeth (W : Cp) (i : Nat) (t : GA) : GE := fun ρ Q => ownAt ρ i fun o0 _ => o0.isL ∧ t ρ fun ds ρ1 => ownAt ρ1 i fun o w => o.isL ∧ W o ds fun r o' => Q r (ρ1.set i (some (w o')))
theorem gMeth_mono {C : Cp} {i : Nat} {t : GA} (M : MonoP C) (h : MonoA t) : MonoE (gMeth C i t) := fun _ _ _ hq q => ownAt_mono (fun _ _ z => ⟨z.1, h _ _ _ (fun _ _ z => ownAt_mono (fun _ _ z => ⟨z.1, M _ _ _ _ (fun _ _ z => hq _ _ z) z.2⟩) z) z.2⟩) q
theorem isL_ho {K : PySem.W.Frag} {F : Hp} {ho : HO} : ∀ {o : OO}, o.isL → OOk K F o ho → ∃ xs, ho = .lst xs
  | .lst _, _, ⟨vs, e, _⟩ => ⟨vs, e⟩
theorem meth_of {r : V → List V → Hp → VK → Prop} {W : Cp} {i : Nat} {t : GA} (M : MethD X.K r W) (mt : MonoA t) (σ : St) (H : Hp) (Q : VK) (h : tDE X.K (gMeth W i t) σ H Q) : tBM X.K "list" r (tVar i) (tDA X.K t) σ H Q := by
  obtain ⟨c, F, ρ, j, q⟩ := h
  obtain ⟨o0, w0, hw0, hρ0, ow0, l0, q⟩ := ownAt_use q
  obtain ⟨a0, ho0, hσ, g2, g3, _⟩ := j.ow i o0 ow0
  obtain ⟨xs0, rfl⟩ := isL_ho l0 g3
  refine ⟨.ref a0, hσ, .inl ⟨rfl, _, SqL.of g2⟩, c, F, ρ, j, mt _ _ _ (fun ds ρ1 q1 F1 H1 vs j1 a1 => ?_) q⟩
  obtain ⟨o, w, hw, hρ, ow, l1, q1⟩ := ownAt_use q1
  obtain ⟨a2, ho, hσ2, h2, h3, h4, h5⟩ := j1.ow i o ow
  rw [hσ] at hσ2
  cases hσ2
  obtain ⟨xs, rfl⟩ := isL_ho l1 h3
  exact M.ok F1 H1 a0 xs vs o ds _ _ h2 j1.fh h3 a1 q1 fun z o' v ys hq dz ok' => hq F1 _ v (j1.putW hw hρ hσ ok') dz
theorem de_meth {id : String} {name : Str} {r : V → List V → Hp → VK → Prop} {W : Cp} {y : Str} {i : Nat} {t : GA} {py apos cpos : Pos} (M : MethD X.K r W) (slot : Slot "list" name id) (hty : typeOf (.builtin id) = pure (.type "method_descriptor")) (hm : MtR X id r) (hy : PE X (.Name y py) (tVar i)) (ha : DA X (e :: es) t)
    (hbase : attributeBase (.Name y py) name X.env (eval (.Name y py) X.env) = eval (.Name y py) X.env := by rfl)
    (hfew : ((backTo cpos (starEach (e :: es) X.env)).all (fun x => !x.1) && (backToKw cpos (keywordEach [] X.env)).all (fun x => x.1.isSome)
      && decide ((e :: es).length + ([] : List Keyword).length + (if ([] : List Keyword).isEmpty then 0 else 1) < 30)) = true := by rfl)
    (hline : (apos.endLine == cpos.line) = true := by rfl) (hs : starEach (e :: es) X.env = (false, eval e X.env) :: starEach es X.env := by rfl) (hplain : (backTo cpos (starEach es X.env)).any (·.1) = false := by rfl) :
    DE X (.Call (.Attribute (.Name y py) name apos) (e :: es) [] cpos) (gMeth W i t) :=
  ⟨gMeth_mono M.mono ha.mono, peI (pe_bm PySem.F.plainAttrs_list slot hty hm hy ha.pa hbase hfew hline hs hplain) (meth_of M ha.mono)⟩
def wAppend : Cp
  | .lst xs, [d], Q => xs.length < 1000000 ∧ Q (.sh .none) (.lst (xs ++ [d]))
  | _, _, _ => False
theorem md_append {K : PySem.W.Frag} : MethD K rAppend wAppend := ⟨fun o ds Q Q' h q => by unfold wAppend at *; split <;> simp_all, fun F H a xs vs o ds Q Qv hH fh ok al q k => by
  unfold wAppend at q
  have hm := million
  split at q
  · obtain ⟨ys, e, ax⟩ := ok
    cases e
    cases al with | cons h t => cases t with | nil =>
    have hl := DpAll.length ax
    exact ⟨a, _, _, rfl, rfl, hH, by omega, k _ _ _ _ q.2 .non ⟨_, rfl, DpAll.app ax (.cons h .nil)⟩⟩
  · exact q.elim⟩
end
end DL
set_option Elab.async false
set_option linter.all false
set_option maxRecDepth 100000
namespace DL
open PySem L2
structure Ek where
  nx : Rho → Prop
  rt : R → Rho → Prop
  bk : Rho → Prop := fun _ => False
  ct : Rho → Prop := fun _ => False
abbrev GS := Rho → Ek → Prop
structure Ek.Le (E E' : Ek) : Prop where
  nx : ∀ ρ, E.nx ρ → E'.nx ρ
  rt : ∀ r ρ, E.rt r ρ → E'.rt r ρ
  bk : ∀ ρ, E.bk ρ → E'.bk ρ
  ct : ∀ ρ, E.ct ρ → E'.ct ρ
def MonoS (G : GS) : Prop := ∀ ρ E E', E.Le E' → G ρ E → G ρ E'
def Ek.of (K : PySem.W.Frag) (c : En) (D : Ends) : Ek where
  nx := fun ρ' => ∀ F' H' σ', J K c F' H' σ' ρ' → D.nx σ' H'
  rt := fun r ρ' => ∀ F' H' σ' v, J K c F' H' σ' ρ' → RelR K c F' H' σ' ρ' v r → D.rt v H'
  bk := fun ρ' => ∀ F' H' σ', J K c F' H' σ' ρ' → D.bk σ' H'
  ct := fun ρ' => ∀ F' H' σ', J K c F' H' σ' ρ' → D.ct σ' H'
def tDS (K : PySem.W.Frag) (G : GS) : TS := fun D σ H => ∃ c F ρ, J K c F H σ ρ ∧ G ρ (Ek.of K c D)
structure DS (X : Cx) (st : Stmt) (G : GS) : Prop where
  mono : MonoS G
  ps : PS X st (tDS X.K G)
structure DSs (X : Cx) (st : List Stmt) (G : GS) : Prop where
  mono : MonoS G
  ps : PSs X st (tDS X.K G)
theorem psI {X : Cx} {e : Stmt} {t t' : TS} (h : PS X e t) (i : ∀ D σ H, t' D σ H → t D σ H) : PS X e t' := fun pins s σ H Q I q => h pins s σ H Q I (i Q σ H q)
theorem pssI {X : Cx} {e : List Stmt} {t t' : TS} (h : PSs X e t) (i : ∀ D σ H, t' D σ H → t D σ H) : PSs X e t' := fun pins s σ H Q I q => h pins s σ H Q I (i Q σ H q)
section
variable {X : Cx} {a b e : Expr} {es : List Expr} {Ga Gb : GE} {pos : Pos} {st : Stmt} {sts : List Stmt} {G G' : GS}
def gNext : GS := fun ρ E => E.nx ρ
def gSeq (G G' : GS) : GS := fun ρ E => G ρ { E with nx := fun ρ' => G' ρ' E }
theorem gNext_mono : MonoS gNext := fun _ _ _ h q => h.nx _ q
theorem gSeq_mono (h : MonoS G) (k : MonoS G') : MonoS (gSeq G G') := fun ρ E E' le q => h ρ { E with nx := fun ρ' => G' ρ' E } { E' with nx := fun ρ' => G' ρ' E' } ⟨fun _ z => k _ _ _ le z, le.rt, le.bk, le.ct⟩ q
theorem dss_nil : DSs X [] gNext := ⟨gNext_mono, pssI pss_nil fun D σ H ⟨c, F, ρ, j, q⟩ => q F H σ j⟩
theorem dss_one (h : DS X st G) : DSs X [st] G := ⟨h.mono, pss_one h.ps⟩
theorem dss_cons (h : DS X st G) (k : DSs X sts G') : DSs X (st :: sts) (gSeq G G') := ⟨gSeq_mono h.mono k.mono, pssI (pss_cons h.ps k.ps) fun D σ H ⟨c, F, ρ, j, q⟩ =>
  ⟨c, F, ρ, j, h.mono ρ { Ek.of X.K c D with nx := fun ρ' => G' ρ' (Ek.of X.K c D) } _ ⟨fun ρ' z F' H' σ' j' => ⟨c, F', ρ', j', z⟩, fun _ _ z => z, fun _ z => z, fun _ z => z⟩ q⟩⟩
def gRet (a : GE) : GS := fun ρ E => a ρ E.rt
theorem ds_ret (h : DE X e Ga) : DS X (.Return (some e) pos) (gRet Ga) := ⟨fun _ _ _ le q => h.mono _ _ _ le.rt q, psI (ps_ret h.pe) fun D σ H ⟨c, F, ρ, j, q⟩ => ⟨c, F, ρ, j, h.mono _ _ _ (fun r ρ' z F' H' v j' vr => z F' H' σ v j' vr) q⟩⟩
def gExp (a : GE) : GS := fun ρ E => a ρ fun _ ρ' => E.nx ρ'
theorem ds_expr (h : DE X e Ga) (hs : swapsWith e none pos.line X.env = pure false := by rfl) : DS X (.Expr e pos) (gExp Ga) := ⟨fun _ _ _ le q => h.mono _ _ _ (fun _ _ z => le.nx _ z) q, psI (ps_expr h.pe hs) fun D σ H ⟨c, F, ρ, j, q⟩ => ⟨c, F, ρ, j, h.mono _ _ _ (fun r ρ' z F' H' v j' vr => z F' H' σ j') q⟩⟩
def gIf (t : GT) (G G' : GS) : GS := fun ρ E => t ρ fun k ρ' => if k = true then G ρ' E else G' ρ' E
theorem ds_if {T : GT} {as bs : List Stmt} (ht : DT X a T) (h : DSs X as G) (k : DSs X bs G') : DS X (.If a as bs pos) (gIf T G G') := ⟨fun _ _ _ le q => ht.mono _ _ _ (fun b _ z => by
  cases b <;> simp only [if_true, if_false, Bool.false_eq_true] at z ⊢
  · exact k.mono _ _ _ le z
  · exact h.mono _ _ _ le z) q, psI (ps_if ht.pt h.ps k.ps) fun D σ H ⟨c, F, ρ, j, q⟩ => ⟨c, F, ρ, j, ht.mono _ _ _ (fun b ρ' z F' H' j' => by
  cases b
  · exact iteF ⟨c, F', ρ', j', z⟩
  · exact iteT ⟨c, F', ρ', j', z⟩) q⟩⟩
def OnlyAt (sl : List Nat) (σ σ' : St) : Prop := ∀ us : List Nat, (∀ v ∈ sl, v ∈ us) → wipe σ' us = wipe σ us
theorem wipe_set {σ : St} {i : Nat} {x : Option V} : ∀ {us : List Nat}, i ∈ us → wipe (σ.set i x) us = wipe σ us
  | [], h => by simp at h
  | u :: us, h => by
    unfold wipe
    by_cases e : i = u
    · subst e
      by_cases m : i ∈ us
      · rw [wipe_set m]
      · have : ∀ (vs : List Nat), i ∉ vs → wipe (σ.set i x) vs = (wipe σ vs).set i x := fun vs => by
          induction vs with
          | nil => intro _; rfl
          | cons v vs ih =>
            intro m
            unfold wipe
            rw [ih fun z => m (List.mem_cons_of_mem _ z), List.set_comm _ _ (fun e => m (by rw [e]; exact List.mem_cons_self))]
        rw [this us m, List.set_set]
    · rw [wipe_set ((List.mem_cons.mp h).resolve_left e)]
theorem onlyAt_set {σ : St} {i : Nat} {x : Option V} : OnlyAt [i] σ (σ.set i x) := fun us h => wipe_set (h i (by simp))
theorem OnlyAt.trans {sl sl' : List Nat} {σ σ' σ'' : St} (h : OnlyAt sl σ σ') (k : OnlyAt sl' σ' σ'') : OnlyAt (sl ++ sl') σ σ'' := fun us m => (k us fun v z => m v (List.mem_append.mpr (.inr z))).trans (h us fun v z => m v (List.mem_append.mpr (.inl z)))
abbrev GG := R → Rho → (Rho → Prop) → Prop
structure DG (X : Cx) (tg : Expr) (sl : List Nat) (G : GG) : Prop where
  mono : ∀ r ρ Q Q', (∀ ρ', Q ρ' → Q' ρ') → G r ρ Q → G r ρ Q'
  ex : ∃ g : TG, PG X tg g ∧ ∀ (c : En) (F H : Hp) (σ : St) (ρ : Rho) (v : V) (r : R) (Q : Rho → Prop) (Qv : St → Hp → Prop), J X.K c F H σ ρ → RelR X.K c F H σ ρ v r → G r ρ Q → (∀ F' σ' ρ', Q ρ' → J X.K c F' H σ' ρ' → OnlyAt sl σ σ' → Qv σ' H) → g v σ H Qv
def freeSlot (ρ : Rho) (i : Nat) : Prop := match ρ[i]? with
  | some (some (.io _)) => False
  | some _ => True
  | none => False
theorem freeSlot_use {ρ : Rho} {i : Nat} (h : freeSlot ρ i) : i < ρ.length ∧ ∀ o, ρ[i]? ≠ some (some (R.io o)) := by
  unfold freeSlot at h
  split at h
  · exact h.elim
  · next x ne e => exact ⟨(List.getElem?_eq_some_iff.mp e).1, fun o z => ne o (by rw [e] at z; exact Option.some.inj z)⟩
  · exact h.elim
def gN (i : Nat) : GG := fun r ρ Q => freeSlot ρ i ∧ Q (ρ.set i (some r))
theorem dg_name {i : Nat} {x : Str} (h : PG X (.Name x pos) (gName i)) : DG X (.Name x pos) [i] (gN i) := ⟨fun _ _ _ _ h q => ⟨q.1, h _ q.2⟩, gName i, h, fun c F H σ ρ v r Q Qv j vr q k => by
  obtain ⟨hl, hi⟩ := freeSlot_use q.1
  exact k F _ _ q.2 (j.assign hl hi vr) onlyAt_set⟩
abbrev GGs := List PyData → Rho → (Rho → Prop) → Prop
structure DGs (X : Cx) (tgs : List Expr) (sl : List Nat) (G : GGs) : Prop where
  mono : ∀ r ρ Q Q', (∀ ρ', Q ρ' → Q' ρ') → G r ρ Q → G r ρ Q'
  ex : ∃ g : TGs, PGs X tgs g ∧ ∀ (c : En) (F H : Hp) (σ : St) (ρ : Rho) (vs : List V) (ds : List PyData) (Q : Rho → Prop) (Qv : St → Hp → Prop), J X.K c F H σ ρ → DpAll X.K F vs ds → G ds ρ Q → (∀ F' σ' ρ', Q ρ' → J X.K c F' H σ' ρ' → OnlyAt sl σ σ' → Qv σ' H) → g vs σ H Qv
def gsNil : GGs := fun ds ρ Q => match ds with | [] => Q ρ | _ => False
def gsCons (g : GG) (t : GGs) : GGs := fun ds ρ Q => match ds with | d :: r => g (.sh d) ρ fun ρ' => t r ρ' Q | [] => False
theorem dgs_nil : DGs X [] [] gsNil := ⟨fun r _ _ _ h q => by unfold gsNil at *; split <;> simp_all, L2.gNil, pgs_nil, fun c F H σ ρ vs ds Q Qv j al q k => by
  unfold gsNil at q
  split at q
  · cases al
    exact ⟨rfl, k F σ ρ q j fun _ _ => rfl⟩
  · exact q.elim⟩
theorem dgs_cons {g : GG} {t : GGs} {sl sl' : List Nat} (h : DG X e sl g) (k : DGs X es sl' t) (hs : (assignEach (e :: es) X.env).map (·.2) = assign e X.env :: (assignEach es X.env).map (·.2) := by rfl) : DGs X (e :: es) (sl ++ sl') (gsCons g t) :=
  ⟨fun r _ _ _ hq q => by
    unfold gsCons at *
    split
    · exact h.mono _ _ _ _ (fun _ z => k.mono _ _ _ _ hq z) q
    · exact q, by
    obtain ⟨tg, p1, h1⟩ := h.ex
    obtain ⟨tt, p2, h2⟩ := k.ex
    refine ⟨L2.gCons tg tt, pgs_cons p1 p2 hs, fun c F H σ ρ vs ds Q Qv j al q kk => ?_⟩
    unfold gsCons at q
    split at q
    · cases al with | cons hv hr =>
      refine ⟨_, _, rfl, h1 ⟨F, c.Z, c.io⟩ F H σ ρ _ (.sh _) _ _ j.anew hv q fun F' σ' ρ' q' j' o' => ?_⟩
      exact h2 c F' H σ' ρ' _ _ _ _ (j.back j') (dpAllM j'.ff hr) q' fun F2 σ2 ρ2 q2 j2 o2 => kk F2 σ2 ρ2 q2 j2 (o'.trans o2)
    · exact q.elim⟩
def gAsg (a : GE) (g : GG) : GS := fun ρ E => a ρ fun r ρ' => g r ρ' E.nx
theorem ds_asg {tg : Expr} {g : GG} {sl : List Nat} (he : DE X e Ga) (hg : DG X tg sl g) (hs : swapsWithSole [tg] e pos.line X.env = pure false := by rfl) (hw : swappedStores [tg] e X.env = pure none := by rfl) (h1 : (assignEach [tg] X.env).map (·.2) = [assign tg X.env] := by rfl) : DS X (.Assign [tg] e pos) (gAsg Ga g) :=
  ⟨fun _ _ _ le q => he.mono _ _ _ (fun _ _ z => hg.mono _ _ _ _ le.nx z) q, by
    obtain ⟨tg, p, k⟩ := hg.ex
    exact psI (ps_asg he.pe p hs hw h1) fun D σ H ⟨c, F, ρ, j, q⟩ => ⟨c, F, ρ, j, he.mono _ _ _ (fun r ρ' z F' H' v j' vr => k c F' H' σ ρ' v r _ _ j' vr z fun F2 σ2 ρ2 q2 j2 _ => q2 F2 H' σ2 j2) q⟩⟩
theorem ds_set {i : Nat} {x : Str} {pos' : Pos} (hN : X.N.Nodup) (hi : X.N[i]? = some x) (hx : Loc X.env.scope x) (he : DE X e Ga) (hs : swapsWith e (some (.Name x pos')) pos.line X.env = pure false := by rfl) (hf : X.fn x = true ∨ X.env.scope.names.lookup x = some .local := by first | exact .inl rfl | exact .inr rfl | assumption) :
    DS X (.Assign [.Name x pos'] e pos) (gAsg Ga (gN i)) := ⟨fun _ _ _ le q => he.mono _ _ _ (fun _ _ z => ⟨z.1, le.nx _ z.2⟩) q, psI (ps_set hN hi hx he.pe hs hf) fun D σ H ⟨c, F, ρ, j, q⟩ =>
  ⟨c, F, ρ, j, he.mono _ _ _ (fun r ρ' z F' H' v j' vr => by
    obtain ⟨hl, hi⟩ := freeSlot_use z.1
    exact z.2 F' H' _ (j'.assign hl hi vr)) q⟩⟩
end
end DL
set_option Elab.async false
set_option linter.all false
set_option maxRecDepth 100000
namespace DL
open PySem L2
theorem MonoS.use {G : GS} {ρ : Rho} {E E' : Ek} (h : MonoS G) (q : G ρ E) (le : E.Le E') : G ρ E' := h ρ E E' le q
abbrev GI := Rho → (List PyData → Rho → Prop) → Prop
structure ItOk (K : PySem.W.Frag) (F Z : Hp) (I : It) (ds : List PyData) : Prop where
  go : ∀ i H, Same F H → Same Z H → i < ds.length → I.go i H
  yld : ∀ (i : Nat) (c : En) (F1 H1 : Hp) (σ : St) (ρ : Rho) (x : V) (H2 : Hp), J K c F1 H1 σ ρ → Same F F1 → Same Z H1 → I.yld i H1 x H2 → ∀ d, ds[i]? = some d → ∃ F2, J K c F2 H2 σ ρ ∧ Same F1 F2 ∧ Dp K F2 x d ∧ Same H1 H2
  stop : ∀ i H, Same F H → Same Z H → ds.length ≤ i → I.stop i H
structure DI (X : Cx) (tg iter : Expr) (G : GI) : Prop where
  mono : ∀ ρ Q Q', (∀ ds ρ', Q ds ρ' → Q' ds ρ') → G ρ Q → G ρ Q'
  ex : ∃ wi : TI, PI X tg iter wi ∧ ∀ (c : En) (F H : Hp) (σ : St) (ρ : Rho) (Q : List PyData → Rho → Prop) (R : It → Hp → Prop), J X.K c F H σ ρ → G ρ Q →
    (∀ ds ρ' F' H' I, Q ds ρ' → J X.K c F' H' σ ρ' → ItOk X.K F' c.Z I ds → R I H') → wi σ H R
section
variable {X : Cx} {tg a b e : Expr} {es : List Expr} {Ga Gb : GE} {pos : Pos}
theorem pi_seq {l : Expr} {tl : TE} (hl : PE X l tl) : PI X tg l (fun σ H R => tl σ H fun x H1 => ∃ a, x = .ref a ∧ (((∃ xs, SqL X.K H1 a xs) ∧ R (Itl X.K a) H1) ∨ ((∃ xs, SqT X.K H1 a xs) ∧ R (Itt X.K a) H1))) := by
  intro pins s σ H R I h
  refine thn (hl pins s σ H _ I h) fun v s1 ⟨x, H1, I1, r1, q1⟩ => ?_
  obtain ⟨a, e, q⟩ := q1
  subst e
  cases r1
  rcases q with ⟨⟨xs, hq⟩, q⟩ | ⟨⟨xs, hq⟩, q⟩
  · obtain ⟨its, rv, p, hz⟩ := I1.list hq
    refine wpAny_pyIter_list p.isList ?_
    refine ⟨s1.heap.objs.size, [s1.heap.objs.size], _, _, H1, rfl, I1.kept (t' := s1.toks) fun b o e => Heap.get?_push_of_some _ e, turn_list a _, ⟨_, Heap.get?_push_size _ rfl, rfl, rfl⟩, fun b hb => ?_, q⟩
    have e : b = s1.heap.objs.size := by simpa using hb
    subst e
    exact I1.fpOk (Nat.le_refl _) (I1.hok.fresh (Nat.le_refl _))
  · obtain ⟨its, rv, p, hz⟩ := I1.tuple hq
    refine wpAny_pyIter_tuple (show s1.heap.IsTuple a its.toArray from p) ?_
    refine ⟨s1.heap.objs.size, [s1.heap.objs.size], _, _, H1, rfl, I1.kept (t' := s1.toks) fun b o e => Heap.get?_push_of_some _ e, turn_tuple a _, ⟨_, Heap.get?_push_size _ rfl, rfl, rfl⟩, fun b hb => ?_, q⟩
    have e : b = s1.heap.objs.size := by simpa using hb
    subst e
    exact I1.fpOk (Nat.le_refl _) (I1.hok.fresh (Nat.le_refl _))
theorem it_lst {K : PySem.W.Frag} {F Z : Hp} {a : Addr} {xs : List V} {ds : List PyData} (h : SqL K F a xs) (al : DpAll K F xs ds) : ItOk K F Z (Itl K a) ds where
  go := fun i H s _ l => by
    have hl := DpAll.length al
    exact ⟨xs, xs[i], s.seq h, by simp [hl, l]⟩
  yld := fun i c F1 H1 σ ρ x H2 j s _ y d hd => by
    obtain ⟨rfl, y⟩ := y
    obtain ⟨v, hv, dv⟩ := DpAll.get al hd
    rw [y xs (j.fh.seq (s.seq h))] at hv
    cases hv
    exact ⟨F1, j, Same.refl _, dpM s dv, Same.refl _⟩
  stop := fun i H s _ l => ⟨xs, s.seq h, by rw [DpAll.length al]; exact l⟩
theorem it_tup {K : PySem.W.Frag} {F Z : Hp} {a : Addr} {xs : List V} {ds : List PyData} (h : SqT K F a xs) (al : DpAll K F xs ds) : ItOk K F Z (Itt K a) ds where
  go := fun i H s _ l => by
    have hl := DpAll.length al
    exact ⟨xs, xs[i], sqT_same s h, by simp [hl, l]⟩
  yld := fun i c F1 H1 σ ρ x H2 j s _ y d hd => by
    obtain ⟨rfl, y⟩ := y
    obtain ⟨v, hv, dv⟩ := DpAll.get al hd
    rw [y xs (sqT_same j.fh (sqT_same s h))] at hv
    cases hv
    exact ⟨F1, j, Same.refl _, dpM s dv, Same.refl _⟩
  stop := fun i H s _ l => ⟨xs, sqT_same s h, by rw [DpAll.length al]; exact l⟩
def giSeq (a : GE) : GI := fun ρ Q => a ρ fun r ρ' => withD r fun d => match d with
  | .list ds => Q ds ρ'
  | .tuple ds => Q ds ρ'
  | _ => False
theorem di_seq (h : DE X a Ga) : DI X tg a (giSeq Ga) := ⟨fun _ _ _ hq q => h.mono _ _ _ (fun _ _ z => withD_mono (fun d z => by cases d <;> first | exact hq _ _ z | exact z) z) q, _, pi_seq h.pe, fun c F H σ ρ Q R j q k => by
  refine ⟨c, F, ρ, j, h.mono _ _ _ (fun r ρ' z F' H' v j' vr => ?_) q⟩
  obtain ⟨d, hd, z⟩ := withD_use z
  obtain ⟨F2, j2, s2, dp⟩ := vr.frz j' hd
  split at z
  · obtain ⟨p, xs, rfl, h1, a1⟩ := dp_lst dp
    exact ⟨p, rfl, .inl ⟨⟨xs, j2.fh.seq h1⟩, k _ _ F2 H' _ z j2 (it_lst h1 a1)⟩⟩
  · obtain ⟨p, xs, rfl, h1, a1⟩ := dp_tup dp
    exact ⟨p, rfl, .inr ⟨⟨xs, sqT_same j2.fh h1⟩, k _ _ F2 H' _ z j2 (it_tup h1 a1)⟩⟩
  · exact z.elim⟩
def rangeD (lo : Int) (n : Nat) : List PyData := (List.range n).map fun (i : Nat) => .int (lo + i)
theorem rangeD_len (lo : Int) (n : Nat) : (rangeD lo n).length = n := by unfold rangeD; rw [List.length_map, List.length_range]
theorem it_rng {K : PySem.W.Frag} {F Z : Hp} {lo : Int} {n : Nat} : ItOk K F Z (Itr lo n) (rangeD lo n) where
  go := fun i H s _ l => by
    rw [rangeD_len] at l
    exact l
  yld := fun i c F1 H1 σ ρ x H2 j s _ y d hd => by
    obtain ⟨rfl, rfl⟩ := y
    unfold rangeD at hd
    rw [List.getElem?_map] at hd
    cases e : (List.range n)[i]? with
    | none => rw [e] at hd; cases hd
    | some k =>
      rw [e] at hd
      have : k = i := by
        have := List.getElem?_eq_some_iff.mp e
        obtain ⟨h1, h2⟩ := this
        simpa using h2.symm
      subst this
      obtain rfl := Option.some.inj hd
      exact ⟨F1, j, Same.refl _, .int _, Same.refl _⟩
  stop := fun i H s _ l => by
    rw [rangeD_len] at l
    exact l
def giRng1 (t : GA) : GI := fun ρ Q => t ρ fun ds ρ' => match ds with
  | [.int j] => j < 4611686018427387904 ∧ -4611686018427387904 ≤ j ∧ Q (rangeD 0 j.toNat) ρ'
  | _ => False
theorem di_rng1 {t : GA} {p : Pos} (hg : Gl X "range") (hm : X.mg "range" = none) (h : DA X [a] t) (hs : starEach [a] X.env = [(false, eval a X.env)] := by rfl) : DI X tg (.Call (.Name "range" p) [a] [] pos) (giRng1 t) :=
  ⟨fun _ _ _ hq q => h.mono _ _ _ (fun ds _ z => by split at z <;> first | exact ⟨z.1, z.2.1, hq _ _ z.2.2⟩ | exact z) q, _, pi_range1 hg hm h.pa hs, fun c F H σ ρ Q R j q k => by
    refine ⟨c, F, ρ, j, h.mono _ _ _ (fun ds ρ' z F' H' vs j' al => ?_) q⟩
    split at z
    · cases al with | cons h t => cases t with | nil =>
      cases h
      exact ⟨_, rfl, z.2.1, z.1, k _ _ F' H' _ z.2.2 j' it_rng⟩
    · exact z.elim⟩
def forW (g : GG) (G : GS) : List PyData → Rho → Ek → Prop
  | [], ρ, E => E.nx ρ
  | d :: ds, ρ, E => g (.sh d) ρ fun ρ' => G ρ' { nx := fun ρ2 => forW g G ds ρ2 E, ct := fun ρ2 => forW g G ds ρ2 E, bk := E.nx, rt := E.rt }
def gFor (i : GI) (g : GG) (G : GS) : GS := fun ρ E => i ρ fun ds ρ' => forW g G ds ρ' E
theorem forW_mono {g : GG} {G : GS} (hg : ∀ r ρ Q Q', (∀ ρ', Q ρ' → Q' ρ') → g r ρ Q → g r ρ Q') (hG : MonoS G) {E E' : Ek} (le : E.Le E') : ∀ ds ρ, forW g G ds ρ E → forW g G ds ρ E'
  | [], ρ, q => le.nx _ q
  | d :: ds, ρ, q => by
    refine hg _ _ _ _ ?_ q
    exact fun ρ' z => hG.use z ⟨fun ρ2 z => forW_mono hg hG le ds ρ2 z, le.rt, le.nx, fun ρ2 z => forW_mono hg hG le ds ρ2 z⟩
theorem ds_for {iter : Expr} {body : List Stmt} {i : GI} {g : GG} {sl : List Nat} {G : GS} (hc : X.calm = true) (hi : DI X tg iter i) (hg : DG X tg sl g) (hb : DSs X body G) (hp : PassesOwn (model X.prog X.w) X.A X.env X.xe) (hs : ∀ x, foldedSetIterable iter X.env x = pure x := by intro _; rfl) :
    DS X (.For tg iter body [] pos) (gFor i g G) := ⟨fun _ _ _ le q => hi.mono _ _ _ (fun ds ρ' z => forW_mono hg.mono hb.mono le ds ρ' z) q, by
  obtain ⟨wi, pi, hwi⟩ := hi.ex
  obtain ⟨tg', pg, hpg⟩ := hg.ex
  refine psI (ps_for hp hc pi pg hb.ps hs) fun D σ H ⟨c, F, ρ, j, q⟩ => ?_
  refine hwi c F H σ ρ _ _ j q fun ds ρ1 F1 H1 I q1 j1 ok => ?_
  refine ⟨fun n m σ' H' => m = ds.length - n ∧ n ≤ ds.length ∧ ∃ F' ρ', J X.K ⟨F1, c.Z, c.io⟩ F' H' σ' ρ' ∧ forW g G (ds.drop n) ρ' (Ek.of X.K c D), ⟨ds.length, rfl, Nat.zero_le _, F1, ρ1, j1.anew, q1⟩, ?_⟩
  rintro n m σ' H' ⟨rfl, hn, F', ρ', j', q'⟩
  have sF : Same F1 H' := j'.ff.trans j'.fh
  by_cases hlt : n < ds.length
  · rw [List.drop_eq_getElem_cons hlt] at q'
    refine .inr ⟨ok.go n H' sF j'.zh hlt, fun σ2 H2 => ∃ F' ρ', J X.K ⟨F1, c.Z, c.io⟩ F' H2 σ2 ρ' ∧ forW g G (ds.drop (n + 1)) ρ' (Ek.of X.K c D), fun σ2 H2 z => ⟨ds.length - (n + 1), by omega, rfl, hlt, z⟩, fun x H2 y => ?_⟩
    obtain ⟨F2, j2, s2, dp, _⟩ := ok.yld n _ F' H' σ' ρ' x H2 j' j'.ff j'.zh y _ (List.getElem?_eq_getElem hlt)
    refine hpg _ F2 H2 σ' ρ' x (.sh _) _ _ j2 dp q' fun F3 σ3 ρ3 q3 j3 _ => ?_
    refine ⟨⟨F1, c.Z, c.io⟩, F3, ρ3, j3, hb.mono.use q3 ⟨fun ρ4 z F4 H4 σ4 j4 => ⟨F4, ρ4, j4, z⟩, fun r ρ4 z F4 H4 σ4 v j4 vr => ?_, fun ρ4 z F4 H4 σ4 j4 => ?_, fun ρ4 z F4 H4 σ4 j4 => ⟨F4, ρ4, j4, z⟩⟩⟩
    · refine z F4 H4 σ4 v (j1.back j4) ?_
      cases r <;> exact vr
    · exact z F4 H4 σ4 (j1.back j4)
  · have e : n = ds.length := by omega
    subst e
    rw [List.drop_length] at q'
    exact .inl ⟨ok.stop _ H' sF j'.zh (Nat.le_refl _), q' F' H' σ' (j1.back j')⟩⟩
def whileW (t : GT) (G : GS) : Nat → Rho → Ek → Prop
  | 0, _, _ => False
  | n + 1, ρ, E => t ρ fun k ρ' => if k = true then G ρ' { nx := fun ρ2 => whileW t G n ρ2 E, ct := fun ρ2 => whileW t G n ρ2 E, bk := E.nx, rt := E.rt } else E.nx ρ'
def gWhile (t : GT) (G : GS) : GS := fun ρ E => ∃ n, whileW t G n ρ E
theorem whileW_mono {t : GT} {G : GS} (ht : MonoT t) (hG : MonoS G) {E E' : Ek} (le : E.Le E') : ∀ n ρ, whileW t G n ρ E → whileW t G n ρ E'
  | 0, _, q => q
  | n + 1, ρ, q => ht _ _ _ (fun b ρ' z => by
    cases b <;> simp only [if_true, if_false, Bool.false_eq_true] at z ⊢
    · exact le.nx _ z
    · exact hG.use z ⟨fun ρ2 z => whileW_mono ht hG le n ρ2 z, le.rt, le.nx, fun ρ2 z => whileW_mono ht hG le n ρ2 z⟩) q
theorem ds_while {t : Expr} {T : GT} {body : List Stmt} {G : GS} (hp : PassesOwn (model X.prog X.w) X.A X.env X.xe) (ht : DT X t T) (hb : DSs X body G) : DS X (.While t body [] pos) (gWhile T G) :=
  ⟨fun _ _ _ le ⟨n, q⟩ => ⟨n, whileW_mono ht.mono hb.mono le n _ q⟩, psI (ps_while hp ht.pt hb.ps) fun D σ H ⟨c, F, ρ, j, n, q⟩ => by
    refine ⟨fun m σ' H' => ∃ F' ρ', J X.K c F' H' σ' ρ' ∧ whileW T G m ρ' (Ek.of X.K c D), ⟨n, F, ρ, j, q⟩, ?_⟩
    rintro m σ' H' ⟨F', ρ', j', q'⟩
    cases m with
    | zero => exact q'.elim
    | succ m =>
      refine ⟨c, F', ρ', j', ht.mono _ _ _ (fun b ρ2 z F2 H2 j2 => ?_) q'⟩
      cases b
      · exact iteF (z F2 H2 σ' j2)
      · refine iteT ⟨fun σ2 H2 => ∃ F' ρ', J X.K c F' H2 σ2 ρ' ∧ whileW T G m ρ' (Ek.of X.K c D), fun σ2 H2 z => ⟨m, Nat.lt_succ_self _, z⟩, c, F2, ρ2, j2, ?_⟩
        exact hb.mono.use z ⟨fun ρ4 z F4 H4 σ4 j4 => ⟨F4, ρ4, j4, z⟩, fun r ρ4 z => z, fun ρ4 z => z, fun ρ4 z F4 H4 σ4 j4 => ⟨F4, ρ4, j4, z⟩⟩⟩
end
end DL
set_option Elab.async false
set_option linter.all false
set_option maxRecDepth 100000
namespace DL
open PySem L2
def wipeR (ρ : Rho) : List Nat → Rho
  | [] => ρ
  | v :: vs => (wipeR ρ vs).set v none
def restR (ρ' ρ : Rho) : List Nat → Rho
  | [] => ρ'
  | v :: vs => (restR ρ' ρ vs).set v (ρ[v]?.join)
def calmR (ρ : Rho) (vs : List Nat) : Prop := ∀ v ∈ vs, match ρ[v]? with
  | some (some (.own _)) => False
  | some (some (.io _)) => False
  | _ => True
theorem calmR_no {ρ : Rho} {vs : List Nat} (h : calmR ρ vs) {v : Nat} (m : v ∈ vs) : ∀ o, ¬ Ow ρ v o := fun o z => by
  have q := h v m
  rcases z with z | z <;> (rw [z] at q; exact q)
section
variable {K : PySem.W.Frag} {c : En} {F H : Hp} {σ : St} {ρ : Rho}
theorem wipe_get (σ : St) (vs : List Nat) (i : Nat) : (wipe σ vs)[i]? = if i ∈ vs ∧ i < σ.length then some none else σ[i]? := by
  induction vs with
  | nil => simp [wipe]
  | cons v vs ih =>
    unfold wipe
    rw [get_set, wipe_length, ih]
    by_cases e : v = i
    · subst e
      by_cases l : v < σ.length
      · simp [l]
      · simp [l, List.getElem?_eq_none (Nat.le_of_not_lt l)]
    · have e' : ¬ i = v := fun z => e z.symm
      simp [e, e']
theorem wipe_wipe (σ : St) (vs : List Nat) : L2.wipe (L2.wipe σ vs) vs = L2.wipe σ vs := by
  apply List.ext_getElem?
  intro i
  rw [wipe_get, wipe_length, wipe_get]
  split <;> rfl
theorem wipeR_get (ρ : Rho) (vs : List Nat) (i : Nat) : (wipeR ρ vs)[i]? = if i ∈ vs ∧ i < ρ.length then some none else ρ[i]? := by
  have len : ∀ us, (wipeR ρ us).length = ρ.length := fun us => by induction us with | nil => rfl | cons u us ih => unfold wipeR; rw [List.length_set, ih]
  induction vs with
  | nil => simp [wipeR]
  | cons v vs ih =>
    unfold wipeR
    rw [get_set, len, ih]
    by_cases e : v = i
    · subst e
      by_cases l : v < ρ.length
      · simp [l]
      · simp [l, List.getElem?_eq_none (Nat.le_of_not_lt l)]
    · have e' : ¬ i = v := fun z => e z.symm
      simp [e, e']
theorem wipeR_len (ρ : Rho) : ∀ us, (wipeR ρ us).length = ρ.length
  | [] => rfl
  | u :: us => by unfold wipeR; rw [List.length_set, wipeR_len ρ us]
theorem restR_len (ρ' ρ : Rho) : ∀ us, (restR ρ' ρ us).length = ρ'.length
  | [] => rfl
  | u :: us => by unfold restR; rw [List.length_set, restR_len ρ' ρ us]
theorem restR_get (ρ' ρ : Rho) (vs : List Nat) (i : Nat) : (restR ρ' ρ vs)[i]? = if i ∈ vs ∧ i < ρ'.length then some (ρ[i]?.join) else ρ'[i]? := by
  induction vs with
  | nil => simp [restR]
  | cons v vs ih =>
    unfold restR
    rw [get_set, restR_len, ih]
    by_cases e : v = i
    · subst e
      by_cases l : v < ρ'.length
      · simp [l]
      · simp [l, List.getElem?_eq_none (Nat.le_of_not_lt l)]
    · have e' : ¬ i = v := fun z => e z.symm
      simp [e, e']
theorem wipeR_some {vs : List Nat} {i : Nat} {r : R} (h : (wipeR ρ vs)[i]? = some (some r)) : i ∉ vs ∧ ρ[i]? = some (some r) := by
  rw [wipeR_get] at h
  by_cases z : i ∈ vs ∧ i < ρ.length
  · rw [if_pos z] at h; cases h
  · rw [if_neg z] at h
    exact ⟨fun m => z ⟨m, (List.getElem?_eq_some_iff.mp h).1⟩, h⟩
theorem J.wipe (j : J K c F H σ ρ) {vs : List Nat} (cm : calmR ρ vs) : J K c F H (L2.wipe σ vs) (wipeR ρ vs) := by
  have go : ∀ {i : Nat} {v : V}, i ∉ vs → σ[i]? = some (some v) → (L2.wipe σ vs)[i]? = some (some v) := fun {i v} m e => by rw [wipe_get, if_neg (fun z => m z.1)]; exact e
  have back : ∀ {i : Nat} {v : V}, (L2.wipe σ vs)[i]? = some (some v) → σ[i]? = some (some v) := fun {i v} e => (wipe_some e).1
  have ow : ∀ {i o}, Ow (wipeR ρ vs) i o → i ∉ vs ∧ Ow ρ i o := fun {i o} h => by
    rcases h with h | h
    · exact ⟨(wipeR_some h).1, .inl (wipeR_some h).2⟩
    · exact ⟨(wipeR_some h).1, .inr (wipeR_some h).2⟩
  refine ⟨by rw [wipe_length, wipeR_len]; exact j.len, j.ff, j.fh, j.zh, j.fz, fun i d h => ?_, fun i o h => ?_, fun i k o o' a h h' e e' => ?_, fun p hp => ?_⟩
  · obtain ⟨m, h⟩ := wipeR_some h
    obtain ⟨v, h1, h2⟩ := j.sh i d h
    exact ⟨v, go m h1, h2⟩
  · obtain ⟨m, h⟩ := ow h
    obtain ⟨a, ho, h1, h2⟩ := j.ow i o h
    exact ⟨a, ho, go m h1, h2⟩
  · exact j.nd i k o o' a (ow h).2 (ow h').2 (back e) (back e')
  · obtain ⟨o, h1, h2⟩ := j.ios p hp
    have m : p.1 ∉ vs := fun m => calmR_no cm m o (.inr h1)
    exact ⟨o, by rw [wipeR_get, if_neg (fun z => m z.1)]; exact h1, go m h2⟩
theorem J.unwipe {F' H' : Hp} {ρ' : Rho} (j : J K c F H σ ρ) {vs : List Nat} (cm : calmR ρ vs) (j' : J K ⟨F, c.Z, c.io⟩ F' H' (L2.wipe σ vs) ρ') : J K c F' H' σ (restR ρ' ρ vs) := by
  have j2 := j.back j'
  have hlen : ρ'.length = ρ.length := by rw [← j'.len, wipe_length, j.len]
  have back : ∀ {i : Nat} {v : V}, (L2.wipe σ vs)[i]? = some (some v) → σ[i]? = some (some v) ∧ i ∉ vs := fun {i v} e => wipe_some e
  have cs : ∀ {i r}, (restR ρ' ρ vs)[i]? = some (some r) → (i ∈ vs ∧ ρ[i]? = some (some r)) ∨ (i ∉ vs ∧ ρ'[i]? = some (some r)) := fun {i r} h => by
    rw [restR_get] at h
    by_cases m : i ∈ vs
    · by_cases l : i < ρ'.length
      · rw [if_pos ⟨m, l⟩] at h
        refine .inl ⟨m, ?_⟩
        have h := Option.some.inj h
        rw [Option.join_eq_some_iff] at h
        exact h
      · rw [if_neg (fun z => l z.2)] at h
        exact absurd (List.getElem?_eq_some_iff.mp h).1 l
    · rw [if_neg (fun z => m z.1)] at h
      exact .inr ⟨m, h⟩
  have ow : ∀ {i o}, Ow (restR ρ' ρ vs) i o → i ∉ vs ∧ Ow ρ' i o := fun {i o} h => by
    rcases h with h | h <;> rcases cs h with ⟨m, e⟩ | ⟨m, e⟩
    · exact (calmR_no cm m o (.inl e)).elim
    · exact ⟨m, .inl e⟩
    · exact (calmR_no cm m o (.inr e)).elim
    · exact ⟨m, .inr e⟩
  have up : ∀ {i : Nat} {v : V}, i ∉ vs → σ[i]? = some (some v) → (L2.wipe σ vs)[i]? = some (some v) := fun {i v} m e => by rw [wipe_get, if_neg (fun z => m z.1)]; exact e
  refine ⟨by rw [restR_len, hlen]; exact j.len, j2.ff, j2.fh, j2.zh, j2.fz, fun i d h => ?_, fun i o h => ?_, fun i k o o' a h h' e e' => ?_, fun p hp => ?_⟩
  · rcases cs h with ⟨m, e⟩ | ⟨m, e⟩
    · obtain ⟨v, h1, h2⟩ := j.sh i d e
      exact ⟨v, h1, dpM j'.ff h2⟩
    · obtain ⟨v, h1, h2⟩ := j'.sh i d e
      exact ⟨v, (back h1).1, h2⟩
  · obtain ⟨m, h⟩ := ow h
    obtain ⟨a, ho, h1, h2⟩ := j2.ow i o h
    exact ⟨a, ho, (back h1).1, h2⟩
  · exact j2.nd i k o o' a (ow h).2 (ow h').2 (up (ow h).1 e) (up (ow h').1 e')
  · obtain ⟨o, h1, h2⟩ := j2.ios p hp
    obtain ⟨h3, m⟩ := back h2
    exact ⟨o, by rw [restR_get, if_neg (fun z => m z.1)]; exact h1, h3⟩
end
section
variable {K : PySem.W.Frag} {c : En} {F H : Hp} {σ : St} {ρ : Rho}
theorem J.guard (j : J K c F H σ ρ) {D : Addr} {o : HO} (h : H D = some o) (f : F D = none) (ap : Apart σ ρ D) : J K ⟨c.F0, upd c.Z D o, c.io⟩ F H σ ρ where
  len := j.len
  ff := j.ff
  fh := j.fh
  zh := fun b u z => by
    by_cases e : b = D
    · have z : upd c.Z D o b = some u := z
      rw [e, upd_same] at z
      rw [e, h]
      exact z
    · have z : upd c.Z D o b = some u := z
      rw [upd_ne e] at z
      exact j.zh b u z
  fz := fun b u z => by
    have e : b ≠ D := fun e => by rw [e, f] at z; cases z
    rcases j.fz b u z with q | q
    · exact .inl q
    · exact .inr (by show upd c.Z D o b = none; rw [upd_ne e]; exact q)
  sh := j.sh
  ow := fun i q h' => by
    obtain ⟨a, ho, h1, h2, h3, h4, h5⟩ := j.ow i q h'
    exact ⟨a, ho, h1, h2, h3, h4, by show upd c.Z D o a = none; rw [upd_ne (fun e => ap i q h' (by rw [h1, e]))]; exact h5⟩
  nd := j.nd
  ios := j.ios
theorem J.unguard {F0 Z : Hp} {io : List (Nat × Addr)} {D : Addr} {o : HO} (j : J K ⟨F0, upd Z D o, io⟩ F H σ ρ) (zD : Z D = none) (fD : F0 D = none) : J K ⟨F0, Z, io⟩ F H σ ρ ∧ H D = some o ∧ F D = none ∧ Apart σ ρ D := by
  have hF : F D = none := by
    cases e : F D with
    | none => rfl
    | some u =>
      rcases j.fz D u e with q | q
      · have q : F0 D = some u := q
        rw [fD] at q; cases q
      · have q : upd Z D o D = none := q
        rw [upd_same] at q; cases q
  have zz : ∀ {a}, upd Z D o a = none → Z a = none ∧ a ≠ D := fun {a} q => by
    have e : a ≠ D := fun e => by rw [e, upd_same] at q; cases q
    rw [upd_ne e] at q
    exact ⟨q, e⟩
  refine ⟨⟨j.len, j.ff, j.fh, fun b u z => j.zh b u ?_, fun b u z => ?_, j.sh, fun i q h => ?_, j.nd, j.ios⟩, j.zh D o upd_same, hF, fun i q h e => ?_⟩
  · have e : b ≠ D := fun e => by
      have z : Z b = some u := z
      rw [e, zD] at z; cases z
    show upd Z D o b = some u
    rw [upd_ne e]
    exact z
  · rcases j.fz b u z with q | q
    · exact .inl q
    · exact .inr (zz q).1
  · obtain ⟨a, ho, h1, h2, h3, h4, h5⟩ := j.ow i q h
    exact ⟨a, ho, h1, h2, h3, h4, (zz h5).1⟩
  · obtain ⟨a, ho, h1, h2, h3, h4, h5⟩ := j.ow i q h
    rw [h1] at e
    cases e
    exact (zz h5).2 rfl
theorem J.reguard {F0 Z : Hp} {io : List (Nat × Addr)} {D : Addr} {o o' : HO} (j : J K ⟨F0, upd Z D o, io⟩ F H σ ρ) (zD : Z D = none) (fD : F0 D = none) : J K ⟨F0, upd Z D o', io⟩ F (upd H D o') σ ρ := by
  obtain ⟨j1, h1, h2, h3⟩ := j.unguard zD fD
  exact (j1.chg h2 zD h3 o').guard upd_same h2 h3
end
def lcW (vs : List Nat) (g : GG) (T : GT) (Ge : GE) : List PyData → List PyData → Rho → (List PyData → Rho → Prop) → Prop
  | [], acc, ρ, Q => Q acc ρ
  | d :: ds, acc, ρ, Q => g (.sh d) ρ fun ρ1 => T ρ1 fun k ρ2 => if k = true then Ge ρ2 fun r ρ3 => withD r fun y => acc.length < 1000000 ∧ calmR ρ3 vs ∧ lcW vs g T Ge ds (acc ++ [y]) (wipeR ρ3 vs) Q else calmR ρ2 vs ∧ lcW vs g T Ge ds acc (wipeR ρ2 vs) Q
def gLc (i : GI) (vs : List Nat) (g : GG) (T : GT) (Ge : GE) : GE := fun ρ Q => i ρ fun ds ρ1 => calmR ρ1 vs ∧ lcW vs g T Ge ds [] (wipeR ρ1 vs) fun acc ρ2 => Q (.own (.lst acc)) (restR ρ2 ρ1 vs)
theorem lcW_mono {vs : List Nat} {g : GG} {T : GT} {Ge : GE} (hg : ∀ r ρ Q Q', (∀ ρ', Q ρ' → Q' ρ') → g r ρ Q → g r ρ Q') (hT : MonoT T) (he : MonoE Ge) {Q Q' : List PyData → Rho → Prop} (h : ∀ a ρ, Q a ρ → Q' a ρ) : ∀ ds acc ρ, lcW vs g T Ge ds acc ρ Q → lcW vs g T Ge ds acc ρ Q'
  | [], acc, ρ, q => h _ _ q
  | d :: ds, acc, ρ, q => by
    refine hg _ _ _ _ ?_ q
    intro ρ1 q
    refine hT _ _ _ ?_ q
    intro k ρ2 q
    cases k <;> simp only [if_true, if_false, Bool.false_eq_true] at q ⊢
    · exact ⟨q.1, lcW_mono hg hT he h ds acc _ q.2⟩
    · refine he _ _ _ ?_ q
      intro r ρ3 q
      exact withD_mono (fun y z => ⟨z.1, z.2.1, lcW_mono hg hT he h ds _ _ z.2.2⟩) q
structure DTs (X : Cx) (es : List Expr) (T : GT) : Prop where
  mono : MonoT T
  pt : PTs X es (tDT X.K T)
section
variable {X : Cx} {tg a b e : Expr} {es : List Expr} {Ga Gb : GE} {pos : Pos}
theorem dts_one {T : GT} (h : DT X a T) : DTs X [a] T := ⟨h.mono, pts_one h.pt⟩
theorem tLc_core {vs : List Nat} {g : GG} {T : GT} {Ge : GE} {tg' : TG} (hK : MonoT T) (hE : MonoE Ge) {sl : List Nat} (hsl : ∀ v ∈ sl, v ∈ vs)
    (hpg : ∀ (c : En) (F H : Hp) (σ : St) (ρ : Rho) (v : V) (r : R) (Q : Rho → Prop) (Qv : St → Hp → Prop), J X.K c F H σ ρ → RelR X.K c F H σ ρ v r → g r ρ Q → (∀ F' σ' ρ', Q ρ' → J X.K c F' H σ' ρ' → OnlyAt sl σ σ' → Qv σ' H) → tg' v σ H Qv)
    {c : En} {F1 H1 : Hp} {σ : St} {ρ1 : Rho} {ds : List PyData} {I : It} {Q : VK} (j1 : J X.K c F1 H1 σ ρ1) (ok : ItOk X.K F1 c.Z I ds) (cm : calmR ρ1 vs)
    (q1 : lcW vs g T Ge ds [] (wipeR ρ1 vs) fun acc ρ2 => ∀ F' H' v, J X.K c F' H' σ (restR ρ2 ρ1 vs) → RelR X.K c F' H' σ (restR ρ2 ρ1 vs) v (.own (.lst acc)) → Q v H') (D : Addr) (hD : H1 D = none) :
    ∃ W : Nat → Nat → Hp → Prop, (∃ m, W 0 m (upd H1 D (.lst []))) ∧ ∀ i m H, W i m H →
      (I.stop i H ∧ Q (.ref D) H) ∨ (I.go i H ∧ ∃ Nx : Hp → Prop, (∀ H', Nx H' → ∃ m', m' < m ∧ W (i + 1) m' H') ∧ ∀ x H', I.yld i H x H' → tg' x (L2.wipe σ vs) H' fun σ2 H2 => L2.wipe σ2 vs = L2.wipe σ vs ∧ tDT X.K T σ2 H2 fun b H3 =>
        if b = true then tDE X.K Ge σ2 H3 fun y H4 => ∃ acc, H4 D = some (.lst acc) ∧ acc.length < sizeLine ∧ Nx (upd H4 D (.lst (acc ++ [y]))) else Nx H3) := by
  have zD : c.Z D = none := j1.zfree hD
  have f1D : F1 D = none := j1.ffree hD
  let P : Nat → Hp → Prop := fun n H' => n ≤ ds.length ∧ ∃ F' ρ' acc ys, J X.K ⟨F1, upd c.Z D (.lst ys), c.io⟩ F' H' (L2.wipe σ vs) ρ' ∧ DpAll X.K F' ys acc ∧ lcW vs g T Ge (ds.drop n) acc ρ' fun acc ρ2 => ∀ F' H' v, J X.K c F' H' σ (restR ρ2 ρ1 vs) → RelR X.K c F' H' σ (restR ρ2 ρ1 vs) v (.own (.lst acc)) → Q v H'
  have jw := (j1.wipe cm).anew
  refine ⟨fun n m H' => m = ds.length - n ∧ P n H', ⟨ds.length, rfl, Nat.zero_le _, F1, wipeR ρ1 vs, [], [], (jw.alloc hD _).guard upd_same f1D (jw.apart hD), .nil, q1⟩, ?_⟩
  rintro n m H' ⟨rfl, hn, F', ρ', acc, ys, j', ay, q'⟩
  have sF : Same F1 H' := j'.ff.trans j'.fh
  have zF : Same c.Z H' := (j'.unguard zD f1D).1.zh
  have f'D : F' D = none := (j'.unguard zD f1D).2.2.1
  by_cases hlt : n < ds.length
  · rw [List.drop_eq_getElem_cons hlt] at q'
    refine .inr ⟨ok.go n H' sF zF hlt, P (n + 1), fun H2 z => ⟨ds.length - (n + 1), by omega, rfl, z⟩, fun x H2 y => ?_⟩
    obtain ⟨F2, j2, s2, dp, _⟩ := ok.yld n ⟨F', upd c.Z D (.lst ys), c.io⟩ F' H' _ ρ' x H2 j'.anew j'.ff zF y _ (List.getElem?_eq_getElem hlt)
    refine hpg _ F2 H2 _ ρ' x (.sh _) _ _ j2 dp q' fun F3 σ3 ρ3 q3 j3 o3 => ?_
    have ew : L2.wipe σ3 vs = L2.wipe σ vs := by
      rw [o3 vs hsl]
      exact wipe_wipe σ vs
    refine ⟨ew, _, F3, ρ3, j3, hK _ _ _ (fun k ρ4 z F4 H4 j4 => ?_) q3⟩
    cases k <;> simp only [if_true, if_false, Bool.false_eq_true] at z ⊢
    · refine ⟨hlt, F4, wipeR ρ4 vs, acc, ys, ?_, dpAllM j4.ff ay, z.2⟩
      have j5 := (j'.back j4).wipe z.1
      rw [ew] at j5
      exact j5
    · refine ⟨_, F4, ρ4, j4, hE _ _ _ (fun r ρ5 z F5 H5 v j5 vr => ?_) z⟩
      obtain ⟨d, hd, hl, cm5, z⟩ := withD_use z
      obtain ⟨F6, j6, s6, dp6⟩ := vr.frz j5 hd
      have hm := million
      have hy := DpAll.length ay
      refine ⟨ys, (j6.unguard zD f'D).2.1, by omega, hlt, F6, wipeR ρ5 vs, acc ++ [d], ys ++ [v], ?_, DpAll.app (dpAllM j6.ff ay) (.cons dp6 .nil), z⟩
      have j7 := j6.reguard (o' := .lst (ys ++ [v])) zD f'D
      obtain ⟨ja, _, _, _⟩ := j'.unguard zD f1D
      have j8 : J X.K ⟨F1, upd c.Z D (.lst (ys ++ [v])), c.io⟩ F6 (upd H5 D (.lst (ys ++ [v]))) σ3 ρ5 :=
        ⟨j7.len, j'.ff.trans j7.ff, j7.fh, j7.zh, fun b o h => (j7.fz b o h).elim (fun w => (ja.fz b o w).elim .inl fun u => .inr (by
          show upd c.Z D _ b = none
          rw [upd_ne (fun e => by
            have w : F' b = some o := w
            rw [e, f'D] at w; cases w)]
          exact u)) .inr, j7.sh, j7.ow, j7.nd, j7.ios⟩
      have j9 := j8.wipe cm5
      rw [ew] at j9
      exact j9
  · have e : n = ds.length := by omega
    subst e
    rw [List.drop_length] at q'
    refine .inl ⟨ok.stop _ H' sF zF (Nat.le_refl _), ?_⟩
    obtain ⟨ja, hD', fD', ap⟩ := j'.unguard zD f1D
    have jb := j1.unwipe cm ja
    refine q' F' H' (.ref D) jb ⟨D, _, rfl, hD', ⟨ys, rfl, ay⟩, fD', zD, fun i o h e => ?_⟩
    obtain ⟨a, ho, h1, h2, h3, h4, h5⟩ := jb.ow i o h
    rw [h1] at e
    cases e
    have m : i ∉ vs ∧ Ow ρ' i o := by
      rcases h with h | h
      · rw [restR_get] at h
        by_cases m : i ∈ vs ∧ i < ρ'.length
        · rw [if_pos m] at h
          have h := Option.some.inj h
          rw [Option.join_eq_some_iff] at h
          exact (calmR_no cm m.1 o (.inl h)).elim
        · rw [if_neg m] at h
          exact ⟨fun z => m ⟨z, (List.getElem?_eq_some_iff.mp h).1⟩, .inl h⟩
      · rw [restR_get] at h
        by_cases m : i ∈ vs ∧ i < ρ'.length
        · rw [if_pos m] at h
          have h := Option.some.inj h
          rw [Option.join_eq_some_iff] at h
          exact (calmR_no cm m.1 o (.inr h)).elim
        · rw [if_neg m] at h
          exact ⟨fun z => m ⟨z, (List.getElem?_eq_some_iff.mp h).1⟩, .inr h⟩
    exact ap i o m.2 (by rw [wipe_get, if_neg (fun z => m.1 z.1)]; exact h1)
theorem tLc_of {i : GI} {vs : List Nat} {g : GG} {T : GT} {Ge : GE} {tg' : TG} {wi : TI} (hK : MonoT T) (hE : MonoE Ge)
    (hgm : ∀ r ρ Q Q', (∀ ρ', Q ρ' → Q' ρ') → g r ρ Q → g r ρ Q') {sl : List Nat} (hsl : ∀ v ∈ sl, v ∈ vs)
    (hwi : ∀ (c : En) (F H : Hp) (σ : St) (ρ : Rho) (Q : List PyData → Rho → Prop) (R : It → Hp → Prop), J X.K c F H σ ρ → i ρ Q → (∀ ds ρ' F' H' I, Q ds ρ' → J X.K c F' H' σ ρ' → ItOk X.K F' c.Z I ds → R I H') → wi σ H R)
    (hpg : ∀ (c : En) (F H : Hp) (σ : St) (ρ : Rho) (v : V) (r : R) (Q : Rho → Prop) (Qv : St → Hp → Prop), J X.K c F H σ ρ → RelR X.K c F H σ ρ v r → g r ρ Q → (∀ F' σ' ρ', Q ρ' → J X.K c F' H σ' ρ' → OnlyAt sl σ σ' → Qv σ' H) → tg' v σ H Qv)
    (σ : St) (H : Hp) (Q : VK) (h : tDE X.K (gLc i vs g T Ge) σ H Q) : tLc wi tg' (tDT X.K T) (tDE X.K Ge) vs σ H Q := by
  obtain ⟨c, F, ρ, j, q⟩ := h
  refine hwi c F H σ ρ _ _ j q fun ds ρ1 F1 H1 I q1 j1 ok => tLc_core hK hE hsl hpg j1 ok q1.1 q1.2
variable {elt iter : Expr} {ifs : List Expr} {scope : Scope} {own : List (Str × Nat)} {i : GI} {g : GG} {T : GT} {Ge : GE} {sl : List Nat} {tg' : TG}
structure DGB (X : Cx) (scope : Scope) (tg : Expr) (sl : List Nat) (G : GG) : Prop where
  mono : ∀ r ρ Q Q', (∀ ρ', Q ρ' → Q' ρ') → G r ρ Q → G r ρ Q'
  ex : ∃ g : TG, (∀ (s : Shared) (H : Hp) (C : Addr) (cl : List (Str × Addr)) (fp : List Addr), PG (X.blk s H scope (compEnvC scope cl C X.env) fp) tg g) ∧ ∀ (c : En) (F H : Hp) (σ : St) (ρ : Rho) (v : V) (r : R) (Q : Rho → Prop) (Qv : St → Hp → Prop), J X.K c F H σ ρ → RelR X.K c F H σ ρ v r → G r ρ Q → (∀ F' σ' ρ', Q ρ' → J X.K c F' H σ' ρ' → OnlyAt sl σ σ' → Qv σ' H) → g v σ H Qv
theorem dgb_name {k : Nat} {x : Str} (h : ∀ (s : Shared) (H : Hp) (C : Addr) (cl : List (Str × Addr)) (fp : List Addr), PG (X.blk s H scope (compEnvC scope cl C X.env) fp) (.Name x pos) (gName k)) : DGB X scope (.Name x pos) [k] (gN k) := ⟨fun _ _ _ _ h q => ⟨q.1, h _ q.2⟩, gName k, h, fun c F H σ ρ v r Q Qv j vr q k => by
  obtain ⟨hl, hi⟩ := freeSlot_use q.1
  exact k F _ _ q.2 (j.assign hl hi vr) onlyAt_set⟩
theorem de_lc (hc : X.calm = true) (hN : X.N.Nodup) (hi : DI X tg iter i) (ok : BlkOk X.N X.env.scope scope own) (hg : DGB X scope tg sl g) (hsl : ∀ v ∈ sl, v ∈ own.map (·.2))
    (ht : ∀ (s : Shared) (H : Hp) (C : Addr) (cl : List (Str × Addr)) (fp : List Addr), DTs (X.blk s H scope (compEnvC scope cl C X.env) fp) ifs T)
    (he : ∀ (s : Shared) (H : Hp) (C : Addr) (cl : List (Str × Addr)) (fp : List Addr), DE (X.blk s H scope (compEnvC scope cl C X.env) fp) elt Ge) (hs : ∀ x, foldedSetIterable iter X.env x = pure x := by intro _; rfl) :
    DE X (.ListComp elt [⟨tg, iter, ifs, 0⟩] scope pos) (gLc i (own.map (·.2)) g T Ge) := by
  obtain ⟨wi, pi, hwi⟩ := hi.ex
  obtain ⟨tg', pg, hpg⟩ := hg.ex
  have mT : MonoT T := (ht {} (fun _ => none) 0 [] []).mono
  have mE : MonoE Ge := (he {} (fun _ => none) 0 [] []).mono
  refine ⟨fun _ _ _ hq q => hi.mono _ _ _ (fun ds ρ z => ⟨z.1, lcW_mono hg.mono mT mE (fun a ρ2 z => hq _ _ z) ds [] _ z.2⟩) q, ?_⟩
  exact peI (pe_lc (tt := tDT X.K T) (te := tDE X.K Ge) hc hN pi ok pg (fun s H C cl fp => (ht s H C cl fp).pt) (fun s H C cl fp => (he s H C cl fp).pe) hs) (tLc_of mT mE hg.mono hsl hwi hpg)
theorem ds_setLc {k : Nat} {y : Str} {py spos : Pos} (hc : X.calm = true) (hN : X.N.Nodup) (hy : X.N[k]? = some y) (hyl : X.env.scope.names.lookup y = some .local)
    (hsw : swapsWith (.ListComp elt [⟨tg, iter, ifs, 0⟩] scope pos) (some (.Name y py)) spos.line X.env = pure true) (hi : DI X tg iter i) (ok : BlkOk X.N X.env.scope scope own) (hg : DGB X scope tg sl g) (hsl : ∀ v ∈ sl, v ∈ own.map (·.2))
    (ht : ∀ (s : Shared) (H : Hp) (C : Addr) (cl : List (Str × Addr)) (fp : List Addr), DTs (X.blk s H scope (compEnvC scope cl C X.env) fp) ifs T)
    (he : ∀ (s : Shared) (H : Hp) (C : Addr) (cl : List (Str × Addr)) (fp : List Addr), DE (X.blk s H scope (compEnvC scope cl C X.env) fp) elt Ge) (hs : ∀ x, foldedSetIterable iter X.env x = pure x := by intro _; rfl) :
    DS X (.Assign [.Name y py] (.ListComp elt [⟨tg, iter, ifs, 0⟩] scope pos) spos) (gAsg (gLc i (own.map (·.2)) g T Ge) (gN k)) := by
  obtain ⟨wi, pi, hwi⟩ := hi.ex
  obtain ⟨tg', pg, hpg⟩ := hg.ex
  have mT : MonoT T := (ht {} (fun _ => none) 0 [] []).mono
  have mE : MonoE Ge := (he {} (fun _ => none) 0 [] []).mono
  have mL : MonoE (gLc i (own.map (·.2)) g T Ge) := fun _ _ _ hq q => hi.mono _ _ _ (fun ds ρ z => ⟨z.1, lcW_mono hg.mono mT mE (fun a ρ2 z => hq _ _ z) ds [] _ z.2⟩) q
  refine ⟨fun _ _ _ le q => mL _ _ _ (fun _ _ z => ⟨z.1, le.nx _ z.2⟩) q, ?_⟩
  refine psI (ps_setLc (tt := tDT X.K T) (te := tDE X.K Ge) hc hN hy hyl hsw pi ok pg (fun s H C cl fp => (ht s H C cl fp).pt) (fun s H C cl fp => (he s H C cl fp).pe) hs) fun D σ H ⟨c, F, ρ, j, q⟩ => ?_
  refine tLc_of mT mE hg.mono hsl hwi hpg σ H _ ⟨c, F, ρ, j, mL _ _ _ (fun r ρ' z F' H' v j' vr => ?_) q⟩
  obtain ⟨hl, hi⟩ := freeSlot_use z.1
  exact z.2 F' H' _ (j'.assign hl hi vr)
end
end DL
set_option Elab.async false
set_option linter.all false
set_option maxRecDepth 100000
namespace DL
open PySem PyProof.Rows L2
def rho0 (n : Nat) (rs : List R) : Rho := rs.map some ++ List.replicate (n - rs.length) none
section
variable {P : Program} {w : World} {K : PySem.W.Frag} {mg : Str → Option Value} {base : Heap}
theorem start_get {N : List Str} {vs : List V} {i : Nat} {v : V} (h : vs[i]? = some v) : (L2.start N vs)[i]? = some (some v) := by
  unfold L2.start
  have hl : i < vs.length := (List.getElem?_eq_some_iff.mp h).1
  rw [List.getElem?_append_left (by rw [List.length_map]; exact hl), List.getElem?_map, h]
  rfl
theorem rho0_get {n : Nat} {rs : List R} {i : Nat} {r : R} (h : (rho0 n rs)[i]? = some (some r)) : rs[i]? = some r := by
  unfold rho0 at h
  by_cases hl : i < rs.length
  · rw [List.getElem?_append_left (by rw [List.length_map]; exact hl), List.getElem?_map] at h
    cases e : rs[i]? with
    | none => rw [e] at h; cases h
    | some r' => rw [e] at h; exact Option.some.inj h
  · rw [List.getElem?_append_right (by rw [List.length_map]; omega)] at h
    rw [List.getElem?_replicate] at h
    split at h <;> cases h
theorem start_len {N : List Str} {vs : List V} (h : vs.length ≤ N.length) : (L2.start N vs).length = N.length := by
  unfold L2.start
  rw [List.length_append, List.length_map, List.length_replicate]
  omega
theorem rho0_len {n : Nat} {rs : List R} (h : rs.length ≤ n) : (rho0 n rs).length = n := by
  unfold rho0
  rw [List.length_append, List.length_map, List.length_replicate]
  omega
theorem okD {cb : Bool} {x qual : Str} {st : Stmt} {f : Addr} {fd : FuncData} {N ps : List Str} {k : Nat} {C : Ct} (Fn : Fun K x qual st f fd) (S : FnScope N ps (defScope st)) (hN : ps.length ≤ N.length) (len : ∀ ds Q, C ds Q → ds.length = ps.length)
    (hb : ∀ (cdv : Value) (A : Around) (outer : List Env) (s : Shared) (H : Hp) (E : XK), Room k (A.deeper (envOfC qual (defScope st) s.heap.objs.size f cdv)) →
      ∃ G, DSs (cxOfB cb CX0 P w K mg base N qual (defScope st) f cdv A outer s H E).nox (defBody st) G ∧ ∀ ds Q, C ds Q → G (rho0 N.length (ds.map R.sh)) { nx := fun _ => Q (.sh .none), rt := fun r _ => Q r }) : FnOkC cb P w K mg base CX0 (k + 1) f fd ps (spD K C) := by
  refine Fn.ok S (fun vs H Q E h => ?_) (fun cdv A outer s H vs Q E hr h => ?_)
  · obtain ⟨F, ds, _, al, c⟩ := h
    rw [DpAll.length al]
    exact len _ _ c
  · obtain ⟨F, ds, fh, al, c⟩ := h
    obtain ⟨G, hG, q⟩ := hb cdv A outer s H E hr
    have hl := len _ _ c
    have hv := DpAll.length al
    have j : J K ⟨F, H, []⟩ F H (L2.start N vs) (rho0 N.length (ds.map R.sh)) := by
      refine ⟨?_, Same.refl _, fh, Same.refl _, fun _ _ z => .inl z, fun i d z => ?_, fun i o z => ?_, fun i j o o' a z => ?_, fun p hp => ?_⟩
      · rw [start_len (by omega), rho0_len (by rw [List.length_map]; omega)]
      · have z := rho0_get z
        rw [List.getElem?_map] at z
        cases e : ds[i]? with
        | none => rw [e] at z; cases z
        | some d' =>
          rw [e] at z
          cases z
          obtain ⟨v, h1, h2⟩ := DpAll.get al e
          exact ⟨v, start_get h1, h2⟩
      · rcases z with z | z
        all_goals
          have z := rho0_get z
          rw [List.getElem?_map] at z
          cases e : ds[i]? with
          | none => rw [e] at z; cases z
          | some d' => rw [e] at z; cases z
      · rcases z with z | z
        all_goals
          have z := rho0_get z
          rw [List.getElem?_map] at z
          cases e : ds[i]? with
          | none => rw [e] at z; cases z
          | some d' => rw [e] at z; cases z
      · cases hp
    refine ⟨_, hG.ps, ⟨F, H, []⟩, F, _, j, hG.mono.use (q ds _ c) ⟨fun ρ' z F' H' σ' j' => ?_, fun r ρ' z F' H' σ' v j' vr => ?_, fun _ z => z.elim, fun _ z => z.elim⟩⟩
    · exact z F' H' .non j'.ff j'.fh j'.fz j'.zh .non
    · refine z F' H' v j'.ff j'.fh j'.fz j'.zh ?_
      match r, vr with
      | .sh d, vr => exact vr
      | .own o, ⟨a, ho, h1, h2, h3, h4, h5, _⟩ => exact ⟨a, ho, h1, h5, h2, h3, h4⟩
      | .io _, vr => exact vr.elim
      | .new _, ⟨t, vs, h1, h2, h3⟩ => exact ⟨t, vs, h1, h2, h3⟩
def endP (Q : R → OO → Prop) (r : R) (ρ : Rho) : Prop := match (ρ[0]? : Option (Option R)) with
  | some (some (R.io o)) => Q r o
  | _ => False
theorem endP_use {Q : R → OO → Prop} {r : R} {ρ : Rho} (h : endP Q r ρ) : ∃ o, ρ[0]? = some (some (R.io o)) ∧ Q r o := by
  unfold endP at h
  split at h
  · exact ⟨_, by assumption, h⟩
  · exact h.elim
theorem okP {cb : Bool} {x qual : Str} {st : Stmt} {f : Addr} {fd : FuncData} {N ps : List Str} {k : Nat} {C : Cp} (Fn : Fun K x qual st f fd) (S : FnScope N ps (defScope st)) (hN : ps.length ≤ N.length) (len : ∀ o ds Q, C o ds Q → ds.length + 1 = ps.length)
    (hb : ∀ (cdv : Value) (A : Around) (outer : List Env) (s : Shared) (H : Hp) (E : XK), Room k (A.deeper (envOfC qual (defScope st) s.heap.objs.size f cdv)) →
      ∃ G, DSs (cxOfB cb CX0 P w K mg base N qual (defScope st) f cdv A outer s H E).nox (defBody st) G ∧ ∀ o ds Q, C o ds Q → G (rho0 N.length (.io o :: ds.map R.sh)) { nx := endP Q (.sh .none), rt := endP Q }) : FnOkC cb P w K mg base CX0 (k + 1) f fd ps (spP K C) := by
  refine Fn.ok S (fun vs H Q E h => ?_) (fun cdv A outer s H vs Q E hr h => ?_)
  · obtain ⟨F, a, ho, o, us, ds, rfl, _, _, _, _, al, c⟩ := h
    rw [List.length_cons, DpAll.length al]
    exact len _ _ _ c
  · obtain ⟨F, a, ho, o, us, ds, rfl, fh, fa, ha, hok, al, c⟩ := h
    obtain ⟨G, hG, q⟩ := hb cdv A outer s H E hr
    have hl := len _ _ _ c
    have hv := DpAll.length al
    let Z : Hp := fun b => if b = a then none else H b
    have Za : Z a = none := if_pos rfl
    have Zn : ∀ {b}, b ≠ a → Z b = H b := fun {b} e => if_neg e
    have g0 : ∀ {i r}, (rho0 N.length (R.io o :: ds.map R.sh))[i]? = some (some r) → (i = 0 ∧ r = .io o) ∨ ∃ m d, i = m + 1 ∧ ds[m]? = some d ∧ r = .sh d := fun {i r} z => by
      have z := rho0_get z
      cases i with
      | zero => exact .inl ⟨rfl, (Option.some.inj z).symm⟩
      | succ m =>
        rw [List.getElem?_cons_succ, List.getElem?_map] at z
        cases e : ds[m]? with
        | none => rw [e] at z; cases z
        | some d => rw [e] at z; exact .inr ⟨m, d, rfl, e, (Option.some.inj z).symm⟩
    have r0 : (rho0 N.length (R.io o :: ds.map R.sh))[0]? = some (some (.io o)) := rfl
    have own0 : ∀ {i q}, Ow (rho0 N.length (R.io o :: ds.map R.sh)) i q → i = 0 ∧ q = o := fun {i q} z => by
      rcases z with z | z <;> rcases g0 z with ⟨e, z⟩ | ⟨m, d, _, _, z⟩ <;> cases z
      exact ⟨e, rfl⟩
    have j : J K ⟨F, Z, [(0, a)]⟩ F H (L2.start N (.ref a :: us)) (rho0 N.length (R.io o :: ds.map R.sh)) := by
      refine ⟨?_, Same.refl _, fh, fun b u z => ?_, fun _ _ z => .inl z, fun i d z => ?_, fun i q z => ?_, fun i j q q' b z z' _ _ => ?_, fun p hp => ?_⟩
      · rw [start_len (by rw [List.length_cons]; omega), rho0_len (by rw [List.length_cons, List.length_map]; omega)]
      · by_cases e : b = a
        · have z : Z b = some u := z
          rw [e, Za] at z; cases z
        · have z : Z b = some u := z
          rw [Zn e] at z; exact z
      · rcases g0 z with ⟨_, z⟩ | ⟨m, d', rfl, e, z⟩
        · cases z
        · cases z
          obtain ⟨v, h1, h2⟩ := DpAll.get al e
          exact ⟨v, start_get (by rw [List.getElem?_cons_succ]; exact h1), h2⟩
      · obtain ⟨rfl, rfl⟩ := own0 z
        exact ⟨a, ho, rfl, ha, hok, fa, Za⟩
      · rw [(own0 z).1, (own0 z').1]
      · cases List.mem_singleton.mp hp
        exact ⟨o, r0, rfl⟩
    have fin : ∀ (ρ' : Rho) (F' H' : Hp) (σ' : L2.St) (o' : OO), J K ⟨F, Z, [(0, a)]⟩ F' H' σ' ρ' → ρ'[0]? = some (some (R.io o')) → ∃ ho', H' a = some ho' ∧ OOk K F' o' ho' ∧ (∀ b u, F' b = some u → F b = some u ∨ H b = none) ∧ (∀ b u, b ≠ a → H b = some u → H' b = some u) ∧ σ'[0]? = some (some (V.ref a)) ∧ F' a = none := fun ρ' F' H' σ' o' j' e => by
      obtain ⟨o2, e2, s2⟩ := j'.ios (0, a) (by simp)
      have s2 : σ'[0]? = some (some (V.ref a)) := s2
      obtain ⟨b, ho', h1, h2, h3, h4, h5⟩ := j'.ow 0 o' (.inr e)
      rw [s2] at h1
      cases h1
      refine ⟨ho', h2, h3, fun b u q => (j'.fz b u q).imp id fun w => ?_, fun b u ne q => j'.zh b u (by show Z b = some u; rw [Zn ne]; exact q), s2, h4⟩
      have w : Z b = none := w
      by_cases ne : b = a
      · rw [ne, h4] at q; cases q
      · rw [Zn ne] at w; exact w
    refine ⟨_, hG.ps, ⟨F, Z, [(0, a)]⟩, F, _, j, hG.mono.use (q o ds _ c) ⟨fun ρ' z F' H' σ' j' => ?_, fun r ρ' z F' H' σ' v j' vr => ?_, fun _ z => z.elim, fun _ z => z.elim⟩⟩
    · obtain ⟨o', e, z⟩ := endP_use (Q := fun r o' => ∀ (F' H' : Hp) (v : V) (ho' : HO), Same F F' → Same F' H' → (∀ b u, F' b = some u → F b = some u ∨ H b = none) → (∀ b u, b ≠ a → H b = some u → H' b = some u) → H' a = some ho' → OOk K F' o' ho' → RelF K H F' H' v r → Q v H') z
      obtain ⟨ho', h2, h3, gr, s3, _, _⟩ := fin ρ' F' H' σ' o' j' e
      exact z F' H' _ ho' j'.ff j'.fh gr s3 h2 h3 .non
    · obtain ⟨o', e, z⟩ := endP_use (Q := fun r o' => ∀ (F' H' : Hp) (v : V) (ho' : HO), Same F F' → Same F' H' → (∀ b u, F' b = some u → F b = some u ∨ H b = none) → (∀ b u, b ≠ a → H b = some u → H' b = some u) → H' a = some ho' → OOk K F' o' ho' → RelF K H F' H' v r → Q v H') z
      obtain ⟨ho', h2, h3, gr, s3, s2, h4⟩ := fin ρ' F' H' σ' o' j' e
      refine z F' H' _ ho' j'.ff j'.fh gr s3 h2 h3 ?_
      match r, vr with
      | .sh d, vr => exact vr
      | .own q, ⟨b, hb, g1, g2, g3, g4, g5, ap⟩ =>
        refine ⟨b, hb, g1, ?_, g2, g3, g4⟩
        have w : Z b = none := g5
        have ne : b ≠ a := fun e' => ap 0 o' (.inr e) (by rw [s2, e'])
        rw [Zn ne] at w; exact w
      | .io _, vr => exact vr.elim
      | .new _, ⟨t, vs, g1, g2, g3⟩ =>
        refine ⟨t, vs, g1, g2, g3.zed fun b o fb w => ?_⟩
        have w : Z b = none := w
        have ne : b ≠ a := fun e' => by
          obtain ⟨a1, _, w1, _, _, w4, _⟩ := j'.ow 0 o' (.inr e)
          rw [s2] at w1
          cases w1
          rw [e', w4] at fb
          cases fb
        rw [Zn ne] at w; exact w
end
end DL
set_option Elab.async false
set_option linter.all false
set_option maxRecDepth 100000
namespace DL
open PySem L2
section
variable {X : Cx} {tg a b e : Expr} {es : List Expr} {Ga Gb : GE} {pos : Pos}
def gLstT (K : PySem.W.Frag) (n : Nat) (t : TGs) : TG := fun v σ H Q => ∃ a xs, v = .ref a ∧ (SqL K H a xs ∨ SqT K H a xs) ∧ xs.length = n ∧ t xs σ H Q
theorem pg_seq {k : Nat} {t : TGs} {n : Nat} (hc : X.calm = true) (h : PGs X es t)
    (hn : (assignEach es X.env).length = n := by rfl) (hst : (assignEach es X.env).findIdx? (·.1) = none := by rfl) : PG X (.Tuple es k pos) (gLstT X.K n t) := by
  intro pins s σ H v u Q I r hw
  obtain ⟨a, xs, e1, hq, hl, hw⟩ := hw
  rcases hq with hq | hq
  · subst e1
    cases r
    obtain ⟨its, rv, p, hz⟩ := I.list hq
    rw [PyProof.Rows.assign_Tuple]
    refine wpAny_bind (wpAny_standAt ?_)
    unfold unpack
    have e2 : (assignEach es X.env).length = its.toArray.size := by simp [hn, ← hl, rv.length]
    rw [e2, hst]
    refine wpAny_bind (wpAny_holding (PySem.W.kun_itemsOf (I.ok.hd hc) p.isList fun h' hx => ?_))
    have I1 : Inv X pins σ H { s with heap := h' } := I.kept (t' := s.toks) fun b o e => hx b o (Nat.ne_of_lt (Heap.lt_size e)) e
    exact h pins _ σ H xs _ Q I1 (by simpa using rv) hw
  · exact pg_tup hc h hn hst pins s σ H v u Q I r ⟨a, xs, e1, hq, hl, hw⟩
def gT2 (n : Nat) (t : GGs) : GG := fun r ρ Q => withD r fun d => match d with
  | .tuple ds => ds.length = n ∧ t ds ρ Q
  | .list ds => ds.length = n ∧ t ds ρ Q
  | _ => False
theorem dg_seq {t : GGs} {k n : Nat} {sl : List Nat} (hc : X.calm = true) (h : DGs X es sl t) (hn : (assignEach es X.env).length = n := by rfl) (hst : (assignEach es X.env).findIdx? (·.1) = none := by rfl) : DG X (.Tuple es k pos) sl (gT2 n t) :=
  ⟨fun r _ _ _ hq q => withD_mono (fun d z => by
    split at z
    · exact ⟨z.1, h.mono _ _ _ _ hq z.2⟩
    · exact ⟨z.1, h.mono _ _ _ _ hq z.2⟩
    · exact z) q, by
    obtain ⟨tt, p2, h2⟩ := h.ex
    refine ⟨gLstT X.K n tt, pg_seq hc p2 hn hst, fun c F H σ ρ v r Q Qv j vr q kk => ?_⟩
    obtain ⟨d, hd, q⟩ := withD_use q
    obtain ⟨F2, j2, s2, dp⟩ := vr.frz j hd
    split at q
    · obtain ⟨p, xs, rfl, h1, a1⟩ := dp_tup dp
      exact ⟨p, xs, rfl, .inr (sqT_same j2.fh h1), by rw [DpAll.length a1]; exact q.1, h2 c F2 H σ ρ _ _ _ _ j2 a1 q.2 kk⟩
    · obtain ⟨p, xs, rfl, h1, a1⟩ := dp_lst dp
      exact ⟨p, xs, rfl, .inl (j2.fh.seq h1), by rw [DpAll.length a1]; exact q.1, h2 c F2 H σ ρ _ _ _ _ j2 a1 q.2 kk⟩
    · exact q.elim⟩
def gSetIx (i : Nat) (a b : GE) : GS := fun ρ E => a ρ fun r ρ1 => withD r fun d => ownAt ρ1 i fun _ _ => b ρ1 fun r2 ρ2 => withD r2 fun k => ownAt ρ2 i fun o w => match o, k with
  | .lst ds, .int n => (match ixN ds.length n with | some m => E.nx (ρ2.set i (some (w (.lst (ds.set m d))))) | none => False)
  | _, _ => False
theorem ds_setIx {y : Str} {i : Nat} {py tpos : Pos} (ha : DE X a Ga) (hy : PE X (.Name y py) (tVar i)) (hb : DE X b Gb)
    (hs : swapsWithSole [.Subscript (.Name y py) b tpos] a pos.line X.env = pure false := by rfl) (hw : swappedStores [.Subscript (.Name y py) b tpos] a X.env = pure none := by rfl) (h1 : (assignEach [.Subscript (.Name y py) b tpos] X.env).map (·.2) = [assign (.Subscript (.Name y py) b tpos) X.env] := by rfl)
    (h2 : ∀ v, assign (.Subscript (.Name y py) b tpos) X.env v = (do
      let ov ← holding [v] (eval (.Name y py) X.env)
      let iv ← holding [v, ov] (eval b X.env)
      standAt tpos
      holding [v, ov, iv] (setItem ov iv v)
      release [v, ov, iv] []) := by intro _; rfl) : DS X (.Assign [.Subscript (.Name y py) b tpos] a pos) (gSetIx i Ga Gb) :=
  ⟨fun _ _ _ le q => ha.mono _ _ _ (fun _ _ z => withD_mono (fun _ z => ownAt_mono (fun _ _ z => hb.mono _ _ _ (fun _ _ z => withD_mono (fun _ z => ownAt_mono (fun _ _ z => by
    split at z
    · split at z
      · exact le.nx _ z
      · exact z
    · exact z) z) z) z) z) z) q, psI (ps_asg ha.pe (pg_sub hy hb.pe set_list h2) hs hw h1) fun D σ H ⟨c, F, ρ, j, q⟩ => by
    refine ⟨c, F, ρ, j, ha.mono _ _ _ (fun r1 ρ1 q1 F1 H1 v1 j1 v1r => ?_) q⟩
    obtain ⟨d, hd, q1⟩ := withD_use q1
    obtain ⟨F2, j2, s2, dp⟩ := v1r.frz j1 hd
    obtain ⟨o0, w0, _, _, ow0, q1⟩ := ownAt_use q1
    obtain ⟨a0, ho0, hσ, _⟩ := j2.ow i o0 ow0
    refine ⟨.ref a0, hσ, ⟨F2, c.Z, c.io⟩, F2, ρ1, j2.anew, hb.mono _ _ _ (fun r3 ρ3 q3 F3 H3 v3 j3 v3r => ?_) q1⟩
    obtain ⟨k, hk, q3⟩ := withD_use q3
    obtain ⟨F4, j4, s4, dp4⟩ := v3r.frz j3 hk
    obtain ⟨o, w, hw, hρ, ow, q3⟩ := ownAt_use q3
    obtain ⟨a4, ho, hσ4, g2, g3, _⟩ := j4.ow i o ow
    rw [hσ] at hσ4
    cases hσ4
    split at q3
    · obtain ⟨vs, rfl, al⟩ := g3
      cases dp4
      split at q3
      · next m em =>
        have j5 := (j2.back j4).putW hw hρ hσ (o' := .lst (List.set _ m d)) ⟨_, rfl, DpAll.set (dpM j4.ff dp) m al⟩
        exact ⟨a0, vs, _, m, rfl, rfl, g2, by rw [DpAll.length al]; exact em, q3 F4 _ σ j5⟩
      · exact q3.elim
    · exact q3.elim⟩
def gDict0 : GE := fun ρ Q => Q (.own (.dic [])) ρ
theorem de_dict0 : DE X (.Dict [] [] pos) gDict0 := ⟨fun _ _ _ h q => h _ _ q, peI pe_dnewK fun σ H Q ⟨c, F, ρ, j, q⟩ p hp => q F _ _ (j.alloc hp _) (relNew j hp ⟨[], rfl, .nil⟩)⟩
def keyD : PyData → Option Key
  | .int i => some (.inl i)
  | .str x => some (.inr x)
  | _ => none
def hasK (kvs : List (Key × PyData)) (k : Key) : Bool := kvs.any fun p => decide (p.1 = k)
def setK (kvs : List (Key × PyData)) (k : Key) (v : PyData) : List (Key × PyData) := if hasK kvs k then kvs.map (fun p => if p.1 = k then (p.1, v) else p) else kvs ++ [(k, v)]
theorem keyD_v {K : PySem.W.Frag} {F : Hp} {v : V} {d : PyData} {k : Key} (h : Dp K F v d) (e : keyD d = some k) : v = kV k := by
  cases h <;> first | (cases e; rfl) | cases e
theorem paired_find {K : PySem.W.Frag} {F : Hp} {k : Key} : ∀ {ws : List (Key × V)} {kvs : List (Key × PyData)}, DpKV K F ws kvs → (valV ws k).isSome = hasK kvs k
  | _, _, .nil => rfl
  | _, _, .cons (a := p) (b := q) h t => by
    have ih := paired_find (k := k) t
    unfold valV hasK at *
    rw [List.find?_cons, List.any_cons]
    obtain ⟨h1, _⟩ := h
    by_cases e : q.1 = k
    · rw [decide_eq_true (h1.trans e), decide_eq_true e]
      rfl
    · rw [decide_eq_false (fun z => e (h1.symm.trans z)), decide_eq_false e]
      simpa using ih
theorem paired_map {α β γ δ : Type} {r : α → β → Prop} {q : γ → δ → Prop} {f : α → γ} {g : β → δ} (h : ∀ a b, r a b → q (f a) (g b)) : ∀ {xs : List α} {ys : List β}, Paired r xs ys → Paired q (xs.map f) (ys.map g)
  | _, _, .nil => .nil
  | _, _, .cons a t => .cons (h _ _ a) (paired_map h t)
theorem paired_app {α β : Type} {r : α → β → Prop} : ∀ {xs xs' : List α} {ys ys' : List β}, Paired r xs ys → Paired r xs' ys' → Paired r (xs ++ xs') (ys ++ ys')
  | _, _, _, _, .nil, q => q
  | _, _, _, _, .cons a t, q => .cons a (paired_app t q)
theorem paired_put {K : PySem.W.Frag} {F : Hp} {k : Key} {v : V} {d : PyData} {ws : List (Key × V)} {kvs : List (Key × PyData)} (h : DpKV K F ws kvs) (hv : Dp K F v d) : DpKV K F (putK ws k v) (setK kvs k d) := by
  unfold putK setK
  have e : (ws.any fun kv => decide (kv.1 = k)) = hasK kvs k := by rw [valV_any, paired_find h]
  rw [e]
  split
  · refine paired_map (fun p q z => ?_) h
    obtain ⟨z1, z2⟩ := z
    by_cases e : q.1 = k
    · rw [if_pos (z1.trans e), if_pos e]
      first | exact ⟨z1, hv⟩ | exact ⟨e.symm, hv⟩ | exact ⟨rfl, hv⟩
    · rw [if_neg (fun w => e (z1.symm.trans w)), if_neg e]
      exact ⟨z1, z2⟩
  · exact paired_app h (.cons ⟨rfl, hv⟩ .nil)
end
end DL
set_option Elab.async false
set_option linter.all false
set_option maxRecDepth 100000
namespace DL
open PySem L2
section
variable {X : Cx} {tg a b e : Expr} {es : List Expr} {Ga Gb : GE} {pos : Pos}
def gInD (neg : Bool) (i : Nat) (a : GE) : GE := fun ρ Q => a ρ fun r ρ1 => withD r fun d => ownAt ρ1 i fun o _ => match o, keyD d with
  | .dic kvs, some k => Q (.sh (.bool (if neg then !hasK kvs k else hasK kvs k))) ρ1
  | _, _ => False
theorem gInD_mono {neg : Bool} {i : Nat} {a : GE} (h : MonoE a) : MonoE (gInD neg i a) := fun _ _ _ hq q => h _ _ _ (fun _ _ z => withD_mono (fun _ z => ownAt_mono (fun _ _ z => by split at z <;> first | exact hq _ _ z | exact z) z) z) q
theorem inD_of {neg : Bool} {i : Nat} {σ : St} {H : Hp} {Q : VK} (ha : DE X a Ga) (h : tDE X.K (gInD neg i Ga) σ H Q) : tDE X.K Ga σ H fun y H1 => tVar i σ H1 fun x H2 => ∃ a o, x = .ref a ∧ DGet H2 a y o ∧ Q (.bl (if neg then !o.isSome else o.isSome)) H2 := by
  obtain ⟨c, F, ρ, j, q⟩ := h
  refine ⟨c, F, ρ, j, ha.mono _ _ _ (fun r1 ρ1 q1 F1 H1 v1 j1 v1r => ?_) q⟩
  obtain ⟨d, hd, q1⟩ := withD_use q1
  obtain ⟨F2, j2, s2, dp⟩ := v1r.frz j1 hd
  obtain ⟨o, w, hw, hρ, ow, q1⟩ := ownAt_use q1
  obtain ⟨a4, ho, hσ, g2, g3, _⟩ := j2.ow i o ow
  split at q1
  · next kvs k hk =>
    obtain ⟨ws, rfl, al⟩ := g3
    have ev := keyD_v dp hk
    subst ev
    refine ⟨.ref a4, hσ, a4, _, rfl, DGet.k g2, ?_⟩
    rw [paired_find al]
    exact q1 F2 H1 _ j2 (.bl _)
  · exact q1.elim
def gPutD (i : Nat) (a b : GE) : GS := fun ρ E => a ρ fun r ρ1 => withD r fun d => ownAt ρ1 i fun _ _ => b ρ1 fun r2 ρ2 => withD r2 fun kd => ownAt ρ2 i fun o w => match o, keyD kd with
  | .dic kvs, some k => kvs.length < 1000000 ∧ E.nx (ρ2.set i (some (w (.dic (setK kvs k d)))))
  | _, _ => False
theorem ds_putD {y : Str} {i : Nat} {py tpos : Pos} (hu : X.A.units + 1 < cLine) (ha : DE X a Ga) (hy : PE X (.Name y py) (tVar i)) (hb : DE X b Gb) (hs : swapsWith a (some (.Subscript (.Name y py) b tpos)) pos.line X.env = pure false := by rfl) : DS X (.Assign [.Subscript (.Name y py) b tpos] a pos) (gPutD i Ga Gb) :=
  ⟨fun _ _ _ le q => ha.mono _ _ _ (fun _ _ z => withD_mono (fun _ z => ownAt_mono (fun _ _ z => hb.mono _ _ _ (fun _ _ z => withD_mono (fun _ z => ownAt_mono (fun _ _ z => by
    split at z
    · exact ⟨z.1, le.nx _ z.2⟩
    · exact z) z) z) z) z) z) q, psI (ps_dput hu hy hb.pe ha.pe hs) fun D σ H ⟨c, F, ρ, j, q⟩ => by
    refine ⟨c, F, ρ, j, ha.mono _ _ _ (fun r1 ρ1 q1 F1 H1 v1 j1 v1r => ?_) q⟩
    obtain ⟨d, hd, q1⟩ := withD_use q1
    obtain ⟨F2, j2, s2, dp⟩ := v1r.frz j1 hd
    obtain ⟨o0, w0, _, _, ow0, q1⟩ := ownAt_use q1
    obtain ⟨a0, ho0, hσ, _⟩ := j2.ow i o0 ow0
    refine ⟨.ref a0, hσ, ⟨F2, c.Z, c.io⟩, F2, ρ1, j2.anew, hb.mono _ _ _ (fun r3 ρ3 q3 F3 H3 v3 j3 v3r => ?_) q1⟩
    obtain ⟨kd, hk, q3⟩ := withD_use q3
    obtain ⟨F4, j4, s4, dp4⟩ := v3r.frz j3 hk
    obtain ⟨o, w, hw, hρ, ow, q3⟩ := ownAt_use q3
    obtain ⟨a4, ho, hσ4, g2, g3, _⟩ := j4.ow i o ow
    rw [hσ] at hσ4
    cases hσ4
    split at q3
    · next kvs k ek =>
      obtain ⟨ws, rfl, al⟩ := g3
      have ev := keyD_v dp4 ek
      subst ev
      have hm := million
      have hl := pairedLen al
      have j5 := (j2.back j4).putW hw hρ hσ (o' := .dic (setK kvs k d)) ⟨_, rfl, paired_put al (dpM j4.ff dp)⟩
      exact ⟨a0, _, rfl, DPut.k g2 (by omega), q3.2 F4 _ σ j5⟩
    · exact q3.elim⟩
section
variable {elt : Expr} {ifs : List Expr} {scope : Scope} {own : List (Str × Nat)} {i : Nat} {g : GG} {T : GT} {Ge : GE} {sl : List Nat} {y : Str} {py : Pos}
end
abbrev GO := Rho → (Option Int → Rho → Prop) → Prop
structure DO (X : Cx) (e : Option Expr) (G : GO) : Prop where
  mono : ∀ ρ Q Q', (∀ r ρ', Q r ρ' → Q' r ρ') → G ρ Q → G ρ Q'
  po : PO X e (fun σ H Q => ∃ c F ρ, J X.K c F H σ ρ ∧ G ρ fun r ρ' => ∀ F' H', J X.K c F' H' σ ρ' → Q r H')
def goN : GO := fun ρ Q => Q none ρ
def goS (a : GE) : GO := fun ρ Q => a ρ fun r ρ' => match r with | .sh (.int i) => Q (some i) ρ' | _ => False
theorem poI {e : Option Expr} {t t' : TO} (h : PO X e t) (i : ∀ σ H Q, t' σ H Q → t σ H Q) : PO X e t' := fun pins s σ H Q I q => h pins s σ H Q I (i σ H Q q)
theorem do_none : DO X none goN := ⟨fun _ _ _ h q => h _ _ q, poI po_none fun σ H Q ⟨c, F, ρ, j, q⟩ => q F H j⟩
theorem do_some (h : DE X a Ga) : DO X (some a) (goS Ga) := ⟨fun _ _ _ hq q => h.mono _ _ _ (fun _ _ z => by split at z <;> first | exact hq _ _ z | exact z) q, poI (po_some h.pe) fun σ H Q ⟨c, F, ρ, j, q⟩ => ⟨c, F, ρ, j, h.mono _ _ _ (fun r ρ1 z F1 H1 v j1 vr => by
  split at z
  · cases vr
    exact ⟨_, rfl, z F1 H1 j1⟩
  · exact z.elim) q⟩⟩
def cutD (ds : List PyData) (lo hi : Option Int) : List PyData := (ds.drop (HT.sIx ds.length 0 lo)).take (HT.sIx ds.length ds.length hi - HT.sIx ds.length 0 lo)
def gSl (a : GE) (l u : GO) : GE := fun ρ Q => a ρ fun r ρ1 => withD r fun d => l ρ1 fun lo ρ2 => u ρ2 fun hi ρ3 => match d with
  | .list ds => Q (.own (.lst (cutD ds lo hi))) ρ3
  | _ => False
def intsOf : List PyData → Option (List Int)
  | [] => some []
  | .int i :: ds => (intsOf ds).map (i :: ·)
  | _ => none
theorem intsOf_eq : ∀ {ds : List PyData} {ns : List Int}, intsOf ds = some ns → ds = ns.map PyData.int
  | [], _, h => by cases h; rfl
  | .int i :: ds, ns, h => by
    unfold intsOf at h
    cases e : intsOf ds with
    | none => rw [e] at h; cases h
    | some ms =>
      rw [e] at h
      cases h
      rw [intsOf_eq e]
      rfl
  | .none :: _, _, h => by cases h
  | .bool _ :: _, _, h => by cases h
  | .str _ :: _, _, h => by cases h
  | .list _ :: _, _, h => by cases h
  | .tuple _ :: _, _, h => by cases h
  | .dict _ :: _, _, h => by cases h
def wMinL : WC
  | [.list ds], Q => (match intsOf ds with | some ns => 0 < ns.length ∧ ∀ m, m ∈ ns → (∀ y, y ∈ ns → m ≤ y) → Q (.sh (.int m)) | none => False)
  | _, _ => False
def wMaxL : WC
  | [.list ds], Q => (match intsOf ds with | some ns => 0 < ns.length ∧ ∀ m, m ∈ ns → (∀ y, y ∈ ns → y ≤ m) → Q (.sh (.int m)) | none => False)
  | _, _ => False
theorem cd_minL {K : PySem.W.Frag} : CallD K (rMin K) wMinL := ⟨fun ds Q Q' h q => by
  unfold wMinL at *
  split at q
  · split at q
    · exact ⟨q.1, fun m a b => h _ (q.2 m a b)⟩
    · exact q
  · exact q, fun c F H σ ρ vs ds Q Qv j a q k => by
  unfold wMinL at q
  split at q
  · split at q
    · next ns en =>
      cases a with | cons h t => cases t with | nil =>
      obtain ⟨l, xs, rfl, h1, a1⟩ := dp_lst h
      rw [intsOf_eq en] at a1
      rw [DpAll.ints_inv a1] at h1
      exact ⟨l, ns, rfl, j.fh.seq h1, q.1, fun m ha hb => k _ F H _ (q.2 m ha hb) j (.int _)⟩
    · exact q.elim
  · exact q.elim⟩
theorem cd_maxL {K : PySem.W.Frag} : CallD K (rMax K) wMaxL := ⟨fun ds Q Q' h q => by
  unfold wMaxL at *
  split at q
  · split at q
    · exact ⟨q.1, fun m a b => h _ (q.2 m a b)⟩
    · exact q
  · exact q, fun c F H σ ρ vs ds Q Qv j a q k => by
  unfold wMaxL at q
  split at q
  · split at q
    · next ns en =>
      cases a with | cons h t => cases t with | nil =>
      obtain ⟨l, xs, rfl, h1, a1⟩ := dp_lst h
      rw [intsOf_eq en] at a1
      rw [DpAll.ints_inv a1] at h1
      exact ⟨l, ns, rfl, j.fh.seq h1, q.1, fun m ha hb => k _ F H _ (q.2 m ha hb) j (.int _)⟩
    · exact q.elim
  · exact q.elim⟩
end
end DL
set_option Elab.async false
set_option linter.all false
set_option maxRecDepth 100000
namespace DL
open PySem PyProof.Rows L2
abbrev wLt : W2 := wI (fun _ _ => True) fun i j => .bool (decide (i < j))
abbrev wGt : W2 := wI (fun _ _ => True) fun i j => .bool (decide (j < i))
section
variable {X : Cx} {tg a b c e : Expr} {es : List Expr} {Ga Gb Gc : GE} {pos : Pos}
variable {p : Pos} {t : GA}
abbrev wMin2 : WC := wI2 fun i j => if j < i then j else i
abbrev wMax2 : WC := wI2 fun i j => if j > i then j else i
theorem de_min2 (hcm : X.calm = true) (hg : Gl X "min") (hm : X.mg "min" = none) (h : DA X [a, b] t) (he : starEach [a, b] X.env = (false, eval a X.env) :: starEach [b] X.env := by rfl) (hpl : (backTo pos (starEach [b] X.env)).any (·.1) = false := by rfl) : DE X (.Call (.Name "min" p) [a, b] [] pos) (gBlt wMin2 t) := de_blt cd_I2 (call_min2 hcm) hg hm (by decide +kernel) h (by decide) (by decide) he hpl
theorem de_max2 (hcm : X.calm = true) (hg : Gl X "max") (hm : X.mg "max" = none) (h : DA X [a, b] t) (he : starEach [a, b] X.env = (false, eval a X.env) :: starEach [b] X.env := by rfl) (hpl : (backTo pos (starEach [b] X.env)).any (·.1) = false := by rfl) : DE X (.Call (.Name "max" p) [a, b] [] pos) (gBlt wMax2 t) := de_blt cd_I2 (call_max2 hcm) hg hm (by decide +kernel) h (by decide) (by decide) he hpl
theorem de_minL (hcm : X.calm = true) (hg : Gl X "min") (hm : X.mg "min" = none) (h : DA X [a] t) (he : starEach [a] X.env = [(false, eval a X.env)] := by rfl) (hpl : (backTo pos (starEach [] X.env)).any (·.1) = false := by rfl) : DE X (.Call (.Name "min" p) [a] [] pos) (gBlt wMinL t) := de_blt cd_minL (cr_min hcm) hg hm (by decide +kernel) h (by decide) (by decide) he hpl
theorem de_abs (hg : Gl X "abs") (hm : X.mg "abs" = none) (h : DA X [a] t) (he : starEach [a] X.env = [(false, eval a X.env)] := by rfl) (hpl : (backTo pos (starEach [] X.env)).any (·.1) = false := by rfl) : DE X (.Call (.Name "abs" p) [a] [] pos) (gBlt wAbs t) := de_blt cd_abs call_abs hg hm (by decide +kernel) h (by decide) (by decide) he hpl
theorem de_intB (hg : Gl X "int") (hm : X.mg "int" = none) (h : DA X [a] t) (he : starEach [a] X.env = [(false, eval a X.env)] := by rfl) (hpl : (backTo pos (starEach [] X.env)).any (·.1) = false := by rfl) : DE X (.Call (.Name "int" p) [a] [] pos) (gBlt wInt t) := de_bty cd_int call_int1 hg hm (by decide +kernel) h (by decide) (by decide) he hpl
variable {y : Str} {i : Nat} {py apos cpos : Pos}
theorem de_append (hy : PE X (.Name y py) (tVar i)) (ha : DA X [a] t) (hbase : attributeBase (.Name y py) "append" X.env (eval (.Name y py) X.env) = eval (.Name y py) X.env := by rfl)
    (hfew : ((backTo cpos (starEach [a] X.env)).all (fun x => !x.1) && (backToKw cpos (keywordEach [] X.env)).all (fun x => x.1.isSome) && decide ([a].length + ([] : List Keyword).length + (if ([] : List Keyword).isEmpty then 0 else 1) < 30)) = true := by rfl)
    (hline : (apos.endLine == cpos.line) = true := by rfl) (hs : starEach [a] X.env = [(false, eval a X.env)] := by rfl) (hplain : (backTo cpos (starEach [] X.env)).any (·.1) = false := by rfl) : DE X (.Call (.Attribute (.Name y py) "append" apos) [a] [] cpos) (gMeth wAppend i t) :=
  de_meth md_append PySem.F.slot_list_append PySem.F.type_list_append mt_append hy ha hbase hfew hline hs hplain
end
def Df (K : PySem.W.Frag) (mg : Str → Option Value) (x : Str) (st : Stmt) (ps : List Str) : Prop := ∃ f fd, Fun K x x st f fd ∧ mg x = some (.ref f) ∧ Binds K fd ps []
structure CalB (b : Bool) (P : Program) (w : World) (K : PySem.W.Frag) (mg : Str → Option Value) (base : Heap) (k : Nat) (x : Str) (ps : List Str) (sp : Sp) : Prop where
  ex : ∃ f fd, FnOkC b P w K mg base CX0 k f fd ps sp ∧ mg x = some (.ref f) ∧ PySem.W.keepIn K (.ref f) = true ∧ Binds K fd ps []
abbrev Cal (P : Program) (w : World) (K : PySem.W.Frag) (mg : Str → Option Value) (base : Heap) (k : Nat) (x : Str) (ps : List Str) (sp : Sp) : Prop := CalB true P w K mg base k x ps sp
section
variable {cb : Bool} {P : Program} {w : World} {K : PySem.W.Frag} {mg : Str → Option Value} {base : Heap} {x : Str} {st : Stmt} {ps N : List Str} {k : Nat}
theorem calD {C : Ct} (D : Df K mg x st ps) (S : FnScope N ps (defScope st)) (hN : ps.length ≤ N.length) (len : ∀ ds Q, C ds Q → ds.length = ps.length) {G : GS}
    (hb : ∀ (f : Addr) (cdv : Value) (A : Around) (outer : List Env) (s : Shared) (H : Hp) (E : XK), Room k (A.deeper (envOfC x (defScope st) s.heap.objs.size f cdv)) → DSs (cxOfB cb CX0 P w K mg base N x (defScope st) f cdv A outer s H E).nox (defBody st) G)
    (r : ∀ ds Q, C ds Q → G (rho0 N.length (ds.map R.sh)) { nx := fun _ => Q (.sh .none), rt := fun r _ => Q r }) : CalB cb P w K mg base (k + 1) x ps (spD K C) := by
  obtain ⟨f, fd, Fn, hm, hbd⟩ := D
  exact ⟨f, fd, okD Fn S hN len fun cdv A outer s H E hr => ⟨G, hb f cdv A outer s H E hr, r⟩, hm, Fn.kp, hbd⟩
theorem calP {C : Cp} (D : Df K mg x st ps) (S : FnScope N ps (defScope st)) (hN : ps.length ≤ N.length) (len : ∀ o ds Q, C o ds Q → ds.length + 1 = ps.length) {G : GS}
    (hb : ∀ (f : Addr) (cdv : Value) (A : Around) (outer : List Env) (s : Shared) (H : Hp) (E : XK), Room k (A.deeper (envOfC x (defScope st) s.heap.objs.size f cdv)) → DSs (cxOfB cb CX0 P w K mg base N x (defScope st) f cdv A outer s H E).nox (defBody st) G)
    (r : ∀ o ds Q, C o ds Q → G (rho0 N.length (.io o :: ds.map R.sh)) { nx := endP Q (.sh .none), rt := endP Q }) : CalB cb P w K mg base (k + 1) x ps (spP K C) := by
  obtain ⟨f, fd, Fn, hm, hbd⟩ := D
  exact ⟨f, fd, okP Fn S hN len fun cdv A outer s H E hr => ⟨G, hb f cdv A outer s H E hr, r⟩, hm, Fn.kp, hbd⟩
theorem calNo {C : Ct} (D : Df K mg x st ps) (no : ∀ ds Q, ¬ C ds Q) : CalB cb P w K mg base k x ps (spD K C) := by
  obtain ⟨f, fd, Fn, hm, hbd⟩ := D
  have no' : ∀ vs H Q E, ¬ spD K C vs H Q E := fun vs H Q E ⟨F, ds, _, _, z⟩ => no _ _ z
  exact ⟨f, fd, ⟨fun vs H Q E h => absurd h (no' vs H Q E), fun A outer s H args us vs Q E _ _ _ _ _ h => absurd h (no' vs H Q E)⟩, hm, Fn.kp, hbd⟩
theorem calNoP {C : Cp} (D : Df K mg x st ps) (no : ∀ o ds Q, ¬ C o ds Q) : CalB cb P w K mg base k x ps (spP K C) := by
  obtain ⟨f, fd, Fn, hm, hbd⟩ := D
  have no' : ∀ vs H Q E, ¬ spP K C vs H Q E := fun vs H Q E ⟨F, a, ho, o, us, ds, _, _, _, _, _, _, z⟩ => no _ _ _ z
  exact ⟨f, fd, ⟨fun vs H Q E h => absurd h (no' vs H Q E), fun A outer s H args us vs Q E _ _ _ _ _ h => absurd h (no' vs H Q E)⟩, hm, Fn.kp, hbd⟩
end
section
variable {X : Cx} {a e : Expr} {es : List Expr} {Ga : GE} {pos p py : Pos} {x y : Str} {ps : List Str} {k k' i : Nat} {t : GA}
theorem de_callC {bq : Bool} {C : Ct} (M : MonoC C) (hqt : Qt bq X) (cal : CalB bq X.prog X.w X.K X.mg X.base k x ps (spD X.K C)) (hr : Room k' X.A) (hk : k ≤ k') (hg : Gl X x) (ha : DA X (e :: es) t) (hdb : (x == ("__debug__" : Str)) = false := by decide) (he : starEach (e :: es) X.env = (false, eval e X.env) :: starEach es X.env := by rfl) (hpl : (backTo pos (starEach es X.env)).any (·.1) = false := by rfl) : DE X (.Call (.Name x p) (e :: es) [] pos) (gCall C t) := by
  obtain ⟨f, fd, Fn, hm, kp, hb⟩ := cal.ex
  exact de_call M Fn hqt (hr.mono hk) hg hm kp hb ha hdb he hpl
theorem de_callCO {bq : Bool} {C : Cp} (M : MonoP C) (hqt : Qt bq X) (cal : CalB bq X.prog X.w X.K X.mg X.base k x ps (spP X.K C)) (hr : Room k' X.A) (hk : k ≤ k') (hg : Gl X x) (hy : PE X (.Name y py) (tVar i)) (ha : DA X es t) (hs : starEach (.Name y py :: es) X.env = (false, eval (.Name y py) X.env) :: starEach es X.env := by rfl)
    (hdb : (x == ("__debug__" : Str)) = false := by decide) (hpl : (backTo pos (starEach es X.env)).any (·.1) = false := by rfl) : DE X (.Call (.Name x p) (.Name y py :: es) [] pos) (gCallO C i t) := by
  obtain ⟨f, fd, Fn, hm, kp, hb⟩ := cal.ex
  exact de_callO M Fn hqt (hr.mono hk) hg hm kp hb hy ha hs hdb hpl
end
end DL
set_option Elab.async false
set_option linter.all false
set_option maxRecDepth 100000
namespace DL
open PySem L2
section
variable {X : Cx} {tg a b c e : Expr} {es : List Expr} {Ga Gb Gc : GE} {pos : Pos}
theorem tTest_of {t : TE} {G : GE} (hG : MonoE G) (h : ∀ σ H Q, tDE X.K G σ H Q → t σ H Q) (σ : St) (H : Hp) (Q : Bool → Hp → Prop) (z : tDT X.K (gB G) σ H Q) : t σ H fun x H' => ∃ k, x = .bl k ∧ Q k H' := by
  refine h σ H _ ?_
  obtain ⟨c, F, ρ, j, q⟩ := z
  refine ⟨c, F, ρ, j, hG _ _ _ (fun r1 ρ1 q1 F1 H1 v1 j1 v1r => ?_) q⟩
  split at q1
  · cases v1r
    exact ⟨_, rfl, q1 F1 H1 j1⟩
  · exact q1.elim
theorem dt_cmpR {op : CmpOp} {r : R2} {W : W2} (ho : OpR X (compareOp op) r) (D : OpD X.K r W) (ha : DE X a Ga) (hb : DE X b Gb) (hm : behindInMarks op b = false) : DT X (.Compare a [op] [b] pos) (gB (gBin W Ga Gb)) :=
  ⟨gB_mono (gBin_mono D.mono ha.mono hb.mono), ptI (pt_cmpR ho ha.pe hb.pe hm) (tTest_of (gBin_mono D.mono ha.mono hb.mono) (tOp_of D ha hb))⟩
theorem dt_lt (ha : DE X a Ga) (hb : DE X b Gb) : DT X (.Compare a [.Lt] [b] pos) (gB (gBin wLt Ga Gb)) := dt_cmpR op_lt (opdI0 fun _ _ => .bl _) ha hb (nomark _)
theorem dt_gt (ha : DE X a Ga) (hb : DE X b Gb) : DT X (.Compare a [.Gt] [b] pos) (gB (gBin wGt Ga Gb)) := dt_cmpR op_gt (opdI0 fun _ _ => .bl _) ha hb (nomark _)
theorem dt_eq {k : Nat} (hr : Room k X.A) (ha : DE X a Ga) (hb : DE X b Gb) : DT X (.Compare a [.Eq] [b] pos) (gB (gBin (wEq false) Ga Gb)) := dt_cmpR (op_eqR (u200 hr)) opdEq ha hb (nomark _)
theorem dt_ne {k : Nat} (hr : Room k X.A) (ha : DE X a Ga) (hb : DE X b Gb) : DT X (.Compare a [.NotEq] [b] pos) (gB (gBin (wEq true) Ga Gb)) := dt_cmpR (op_neR (u200 hr)) opdEq ha hb (nomark _)
theorem dt_notN {k : Nat} {p' : Pos} (ha : DE X a Ga) : DT X (.Compare a [.IsNot] [.Constant .none k p'] pos) (gB (gIsN true Ga)) := ⟨gB_mono (gIsN_mono ha.mono), ptI (pt_cmp (pc_notN ha.pe)) (tTest_of (X := X) (gIsN_mono ha.mono) fun σ H Q ⟨c, F, ρ, j, q⟩ => by
  refine ⟨c, F, ρ, j, ha.mono _ _ _ (fun r1 ρ1 q1 F1 H1 v1 j1 v1r => ?_) q⟩
  obtain ⟨d, hd, q1⟩ := withD_use q1
  obtain ⟨F2, j2, s2, dp⟩ := v1r.frz j1 hd
  have := q1 F2 H1 (.bl (!decide (v1 = .non))) j2 (by rw [dp_non dp]; cases d <;> exact .bl _)
  exact this)⟩
theorem dt_inD {y : Str} {i : Nat} {py : Pos} (hu : X.A.units + 1 < cLine) (ha : DE X a Ga) (hy : PE X (.Name y py) (tVar i)) (h1 : behindInMarks .In (.Name y py) = false := by rfl) : DT X (.Compare a [.In] [.Name y py] pos) (gB (gInD false i Ga)) :=
  ⟨gB_mono (gInD_mono ha.mono), ptI (pt_cmp (pc_din hu ha.pe hy) h1) (tTest_of (gInD_mono ha.mono) fun σ H Q h => inD_of ha h)⟩
end
end DL
set_option Elab.async false
set_option linter.all false
set_option maxRecDepth 100000
namespace DL
open PySem L2
section
variable {X : Cx} {tg a b c e : Expr} {es : List Expr} {Ga Gb Gc : GE} {pos : Pos}
def rInR (K : PySem.W.Frag) (neg : Bool) : R2 := fun x y H Q => ∃ d ds, Dp K H x d ∧ (Dp K H y (.list ds) ∨ Dp K H y (.tuple ds)) ∧ d.canLay0 = true ∧ PyData.canLayAll0 ds = true ∧ min (PyData.depthAll ds) d.depth < 190 ∧ Q (.bl (if neg then !(ds.any fun y => PyData.eqv y d) else ds.any fun y => PyData.eqv y d)) H
theorem op_inR (hr : X.A.units + 200 < cLine) : OpR X (compareOp .In) (rInR X.K false) := by
  intro pins s σ H x y v u Q I rx ry h
  obtain ⟨d, ds, hd, he, s1, s2, z, q⟩ := h
  obtain ⟨as, r1⟩ := Dp.reads I d x v hd rx
  rcases he with he | he
  · obtain ⟨bs, r2⟩ := Dp.reads I _ y u he ry
    exact SeqAt.in_list_reads r2 r1 s2 s1 (by omega) ⟨.bl _, H, I, rfl, q⟩
  · obtain ⟨bs, r2⟩ := Dp.reads I _ y u he ry
    exact SeqAt.in_tuple_reads r2 r1 s2 s1 (by omega) ⟨.bl _, H, I, rfl, q⟩
theorem op_notInR (hr : X.A.units + 200 < cLine) : OpR X (compareOp .NotIn) (rInR X.K true) := by
  intro pins s σ H x y v u Q I rx ry h
  obtain ⟨d, ds, hd, he, s1, s2, z, q⟩ := h
  obtain ⟨as, r1⟩ := Dp.reads I d x v hd rx
  rcases he with he | he
  · obtain ⟨bs, r2⟩ := Dp.reads I _ y u he ry
    exact SeqAt.notIn_list_reads r2 r1 s2 s1 (by omega) ⟨.bl _, H, I, rfl, q⟩
  · obtain ⟨bs, r2⟩ := Dp.reads I _ y u he ry
    exact SeqAt.notIn_tuple_reads r2 r1 s2 s1 (by omega) ⟨.bl _, H, I, rfl, q⟩
def inW (neg : Bool) (d : PyData) (ds : List PyData) (Q : R → Prop) : Prop := d.canLay0 = true ∧ PyData.canLayAll0 ds = true ∧ min (PyData.depthAll ds) d.depth < 190 ∧ Q (.sh (.bool (if neg then !(ds.any fun y => PyData.eqv y d) else ds.any fun y => PyData.eqv y d)))
def wIn (neg : Bool) : W2 := fun d e Q => match e with
  | .list ds => inW neg d ds Q
  | .tuple ds => inW neg d ds Q
  | _ => False
theorem opdIn {K : PySem.W.Frag} {neg : Bool} : OpD K (rInR K neg) (wIn neg) := ⟨fun d e Q Q' h q => by
  unfold wIn at *
  split at q
  · exact ⟨q.1, q.2.1, q.2.2.1, h _ q.2.2.2⟩
  · exact ⟨q.1, q.2.1, q.2.2.1, h _ q.2.2.2⟩
  · exact q, fun c F H σ ρ x y d e Q Qv j hx hy q k => by
  unfold wIn at q
  split at q
  · exact ⟨d, _, dpM j.fh hx, .inl (dpM j.fh hy), q.1, q.2.1, q.2.2.1, k _ F H _ q.2.2.2 j (.bl _)⟩
  · exact ⟨d, _, dpM j.fh hx, .inr (dpM j.fh hy), q.1, q.2.1, q.2.2.1, k _ F H _ q.2.2.2 j (.bl _)⟩
  · exact q.elim⟩
theorem dt_inL {k : Nat} (hr : Room k X.A) (ha : DE X a Ga) (hb : DE X b Gb) (hm : behindInMarks .In b = false := by rfl) : DT X (.Compare a [.In] [b] pos) (gB (gBin (wIn false) Ga Gb)) := dt_cmpR (op_inR (u200 hr)) opdIn ha hb hm
theorem dt_notInL {k : Nat} (hr : Room k X.A) (ha : DE X a Ga) (hb : DE X b Gb) (hm : behindInMarks .NotIn b = false := by rfl) : DT X (.Compare a [.NotIn] [b] pos) (gB (gBin (wIn true) Ga Gb)) := dt_cmpR (op_notInR (u200 hr)) opdIn ha hb hm
def gAugadd (i : Nat) (a : GE) : GS := fun ρ E => (match ρ[i]? with
  | some (some (.sh (.int m))) => a ρ fun r ρ1 => (match r with | .sh (.int n) => freeSlot ρ1 i ∧ E.nx (ρ1.set i (some (.sh (.int (m + n))))) | _ => False)
  | _ => False)
def seqAt (ρ : Rho) (i : Nat) (k : List PyData → Prop) : Prop := match ρ[i]? with
  | some (some (.own (.lst ds))) => k ds
  | some (some (.io (.lst ds))) => k ds
  | some (some (.sh (.list ds))) => k ds
  | some (some (.sh (.tuple ds))) => k ds
  | _ => False
theorem seqAt_mono {ρ : Rho} {i : Nat} {k k' : List PyData → Prop} (h : ∀ ds, k ds → k' ds) (q : seqAt ρ i k) : seqAt ρ i k' := by
  unfold seqAt at *
  split <;> simp_all
theorem seqAt_use {K : PySem.W.Frag} {c : En} {F H : Hp} {σ : St} {ρ : Rho} {i : Nat} {k : List PyData → Prop} (j : J K c F H σ ρ) (q : seqAt ρ i k) : ∃ a xs ds, σ[i]? = some (some (V.ref a)) ∧ (SqL K H a xs ∨ SqT K H a xs) ∧ DpAll K F xs ds ∧ k ds := by
  unfold seqAt at q
  split at q
  · next ds e =>
    obtain ⟨a, ho, h1, h2, ⟨vs, rfl, h3⟩, _⟩ := j.ow i _ (.inl e)
    exact ⟨a, vs, ds, h1, .inl (SqL.of h2), h3, q⟩
  · next ds e =>
    obtain ⟨a, ho, h1, h2, ⟨vs, rfl, h3⟩, _⟩ := j.ow i _ (.inr e)
    exact ⟨a, vs, ds, h1, .inl (SqL.of h2), h3, q⟩
  · next ds e =>
    obtain ⟨v, h1, h2⟩ := j.sh i _ e
    obtain ⟨a, xs, rfl, h3, h4⟩ := dp_lst h2
    exact ⟨a, xs, ds, h1, .inl (j.fh.seq h3), h4, q⟩
  · next ds e =>
    obtain ⟨v, h1, h2⟩ := j.sh i _ e
    obtain ⟨a, xs, rfl, h3, h4⟩ := dp_tup h2
    exact ⟨a, xs, ds, h1, .inr (sqT_same j.fh h3), h4, q⟩
  · exact q.elim
def gIxU (i : Nat) (b : GE) : GE := fun ρ Q => seqAt ρ i fun _ => b ρ fun r ρ1 => withD r fun d => seqAt ρ1 i fun ds => match d with
  | .int k => (match atI ds k with | some x => Q (.sh x) ρ1 | none => False)
  | _ => False
theorem de_ixU {y : Str} {i : Nat} {py : Pos} (hy : PE X (.Name y py) (tVar i)) (hb : DE X b Gb) (hs : PlainIx b := by exact fun _ _ => rfl) : DE X (.Subscript (.Name y py) b pos) (gIxU i Gb) :=
  ⟨fun _ _ _ hq q => seqAt_mono (fun _ z => hb.mono _ _ _ (fun _ _ z => withD_mono (fun _ z => seqAt_mono (fun _ z => by
    split at z
    · split at z
      · exact hq _ _ z
      · exact z
    · exact z) z) z) z) q, peI (pe_ix ix_seq hy hb.pe hs) fun σ H Q ⟨c, F, ρ, j, q⟩ => by
    obtain ⟨a0, _, _, hσ, _, _, q⟩ := seqAt_use j q
    refine ⟨.ref a0, hσ, c, F, ρ, j, hb.mono _ _ _ (fun r ρ1 q1 F1 H1 v1 j1 v1r => ?_) q⟩
    obtain ⟨d, hd, q1⟩ := withD_use q1
    obtain ⟨F2, j2, s2, dp⟩ := v1r.frz j1 hd
    obtain ⟨a2, xs, ds, hσ2, sq, al, q1⟩ := seqAt_use j2 q1
    rw [hσ] at hσ2
    cases hσ2
    split at q1
    · cases dp
      split at q1
      · next e' =>
        obtain ⟨v, hv, dv⟩ := dpAt al e'
        rcases sq with sq | sq
        · exact .inl ⟨a0, xs, _, v, rfl, rfl, sq, hv, q1 F2 H1 v j2 dv⟩
        · exact .inr (.inl ⟨a0, xs, _, v, rfl, rfl, sq, hv, q1 F2 H1 v j2 dv⟩)
      · exact q1.elim
    · exact q1.elim⟩
def gLenU (i : Nat) : GE := fun ρ Q => seqAt ρ i fun ds => Q (.sh (.int ds.length)) ρ
theorem de_lenU {y : Str} {i : Nat} {p py : Pos} (hg : Gl X "len") (hm : X.mg "len" = none) (hy : PE X (.Name y py) (tVar i)) (hs : starEach [.Name y py] X.env = [(false, eval (.Name y py) X.env)] := by rfl) (hpl : (backTo pos (starEach [] X.env)).any (·.1) = false := by rfl) :
    DE X (.Call (.Name "len" p) [.Name y py] [] pos) (gLenU i) :=
  ⟨fun _ _ _ hq q => seqAt_mono (fun _ z => hq _ _ z) q, peI (pe_callB call_len_seq hg hm PySem.boot_len (pa_cons hy pa_nil hs) (by decide) (by decide) hs hpl) fun σ H Q ⟨c, F, ρ, j, q⟩ => by
    obtain ⟨a0, xs, ds, hσ, sq, al, q⟩ := seqAt_use j q
    exact ⟨.ref a0, hσ, a0, xs, rfl, sq, by rw [DpAll.length al]; exact q F H _ j (.int _)⟩⟩
end
end DL
set_option Elab.async false
set_option linter.all false
namespace DL
open PySem L2
theorem rangeD_cons (lo : Int) (n : Nat) : rangeD lo (n + 1) = .int lo :: rangeD (lo + 1) n := by
  unfold rangeD
  rw [List.range_succ_eq_map, List.map_cons, List.map_map]
  congr 1
  · simp
  · apply List.map_congr_left
    intro a _
    simp only [Function.comp]
    congr 1
    omega
theorem cutD_to {ds : List PyData} {i : Int} (h0 : 0 ≤ i) (h1 : i ≤ ds.length) : cutD ds none (some i) = ds.take i.toNat := by
  unfold cutD
  have e : HT.sIx ds.length ds.length (some i) = i.toNat := by
    simp only [HT.sIx]
    first | (rw [if_neg (by omega)]; omega) | (split <;> omega) | omega
  have e0 : HT.sIx ds.length 0 none = 0 := rfl
  rw [e, e0, List.drop_zero, Nat.sub_zero]
theorem cutD_from {ds : List PyData} {i : Int} (h0 : 0 ≤ i) (h1 : i ≤ ds.length) : cutD ds (some i) none = ds.drop i.toNat := by
  unfold cutD
  have e : HT.sIx ds.length 0 (some i) = i.toNat := by
    simp only [HT.sIx]
    first | (rw [if_neg (by omega)]; omega) | (split <;> omega) | omega
  have e0 : HT.sIx ds.length ds.length none = ds.length := rfl
  rw [e, e0, List.take_of_length_le (by rw [List.length_drop]; omega)]
theorem at0 {α : Type} (a : α) (l : List α) : atI (a :: l) 0 = some a := by
  simp [atI, ixN]
theorem at1 {α : Type} (a b : α) (l : List α) : atI (a :: b :: l) 1 = some b := by
  simp [atI, ixN]
  rw [if_pos (by omega)]
  rfl
theorem at2 {α : Type} (a b c : α) (l : List α) : atI (a :: b :: c :: l) 2 = some c := by
  simp [atI, ixN]
  rw [if_pos (by omega)]
  rfl
theorem at3 {α : Type} (a b c d : α) (l : List α) : atI (a :: b :: c :: d :: l) 3 = some d := by
  simp [atI, ixN]
  rw [if_pos (by omega)]
  rfl
theorem at4 {α : Type} (a b c d e : α) (l : List α) : atI (a :: b :: c :: d :: e :: l) 4 = some e := by
  simp [atI, ixN]
  rw [if_pos (by omega)]
  rfl
theorem at5 {α : Type} (a b c d e f : α) (l : List α) : atI (a :: b :: c :: d :: e :: f :: l) 5 = some f := by
  simp [atI, ixN]
  rw [if_pos (by omega)]
  rfl
theorem at_ge {α : Type} {xs : List α} {z : Int} {x : α} (h0 : 0 ≤ z) (h : xs[z.toNat]? = some x) : atI xs z = some x := by
  have hl : z.toNat < xs.length := (List.getElem?_eq_some_iff.mp h).1
  unfold atI ixN
  rw [if_pos h0, if_pos (by omega)]
  exact h
theorem at_last {α : Type} {xs : List α} {x : α} (h : xs.getLast? = some x) : atI xs (-1) = some x := by
  cases xs with
  | nil => cases h
  | cons a l =>
    unfold atI ixN
    rw [if_neg (by omega), if_pos (by rw [List.length_cons]; omega)]
    rw [List.getLast?_eq_getElem?] at h
    have e : (-1 + ((a :: l).length : Int)).toNat = (a :: l).length - 1 := by rw [List.length_cons]; omega
    rw [e]
    exact h
abbrev RdD (G : GS) (n : Nat) (C : Ct) : Prop := ∀ ds Q, C ds Q → G (rho0 n (ds.map R.sh)) { nx := fun _ => Q (.sh .none), rt := fun r _ => Q r }
abbrev RdP (G : GS) (n : Nat) (C : Cp) : Prop := ∀ o ds Q, C o ds Q → G (rho0 n (.io o :: ds.map R.sh)) { nx := endP Q (.sh .none), rt := endP Q }
section
variable {X : Cx} {a b : Expr} {Ga Gb : GE} {pos : Pos}
end
end DL
set_option Elab.async false
set_option linter.all false
set_option maxRecDepth 100000
namespace DL
open PySem L2
section
def wSum : WC := fun ds Q => ∃ ns : List Int, ds = [.list (ns.map .int)] ∧ Q (.sh (.int ns.sum))
theorem cd_sum {K : PySem.W.Frag} : CallD K (rSum K) wSum := ⟨fun ds Q Q' h ⟨ns, e, q⟩ => ⟨ns, e, h _ q⟩, fun c F H σ ρ vs ds Q Qv j a ⟨ns, e, q⟩ k => by
  subst e
  cases a with | cons h t => cases t with | nil =>
  obtain ⟨l, xs, rfl, h1, a1⟩ := dp_lst h
  rw [DpAll.ints_inv a1] at h1
  exact ⟨l, ns, rfl, j.fh.seq h1, k _ F H _ q j (.int _)⟩⟩
variable {X : Cx} {a : Expr} {p pos : Pos} {t : GA}
theorem de_sum (hcm : X.calm = true) (hg : Gl X "sum") (hm : X.mg "sum" = none) (h : DA X [a] t) (he : starEach [a] X.env = [(false, eval a X.env)] := by rfl) (hpl : (backTo pos (starEach [] X.env)).any (·.1) = false := by rfl) : DE X (.Call (.Name "sum" p) [a] [] pos) (gBlt wSum t) := de_blt cd_sum (cr_sum hcm) hg hm (by decide +kernel) h (by decide) (by decide) he hpl
end
end DL
set_option Elab.async false
set_option linter.all false
set_option maxRecDepth 100000
namespace DL
open PySem PyProof.Rows L2
section
variable {X : Cx} {a b : Expr} {Ga Gb : GE} {pos : Pos}
def rCatT0 (K : PySem.W.Frag) : R2 := fun x y H Q => ∃ a b ys, x = .ref a ∧ y = .ref b ∧ SqT K H a [] ∧ SqT K H b ys ∧ Q (.ref b) H
theorem op_catT0 : OpR X (binaryOp .Add) (rCatT0 X.K) := by
  intro pins s σ H x y v u Q I rx ry h
  obtain ⟨a, b, ys, rfl, rfl, ha, hb, q⟩ := h
  cases rx
  cases ry
  obtain ⟨its, r1, p1, _⟩ := I.tuple ha
  obtain ⟨its2, r2, p2, _⟩ := I.tuple hb
  cases r1
  obtain ⟨⟨cls, dd, data, sl⟩, ho, hc, n, hd⟩ := id p1
  obtain ⟨⟨cls2, dd2, data2, sl2⟩, ho2, hc2, n2, hd2⟩ := id p2
  simp only at hc hd hc2 hd2
  subst hc hd hc2 hd2
  exact concat_meets ⟨_, ho, rfl⟩ ⟨_, ho2, rfl⟩ noFill_tuple_add seq_tuple_add PySem.F.slot_tuple_add PySem.F.entry_tuple_add (PySem.F.args_tuple_add_2 _ _)
      (tuple_addW0 a b _ its2.toArray n n2 dd dd2 sl sl2 (by simp)) ⟨ho, ho2, .ref b, H, I, rfl, q⟩
def wAddT : W2
  | .tuple xs, .tuple ys, Q => xs.length + ys.length ≤ 1000000 ∧ Q (.sh (.tuple (xs ++ ys)))
  | _, _, _ => False
theorem opdAddT {K : PySem.W.Frag} : OpD K (rOr (rCatT K) (rCatT0 K)) wAddT := ⟨fun d e Q Q' h q => by unfold wAddT at *; split <;> simp_all, fun c F H σ ρ x y d e Q Qv j hx hy q k => by
  unfold wAddT at q
  have hm := million
  split at q
  · next xs ys =>
    obtain ⟨l, us, rfl, h1, a1⟩ := dp_tup hx
    obtain ⟨b, ws, rfl, h2, a2⟩ := dp_tup hy
    have l1 := DpAll.length a1
    have l2 := DpAll.length a2
    by_cases e1 : us = []
    · subst e1
      cases a1
      exact .inr ⟨l, b, ws, rfl, rfl, sqT_same j.fh h1, sqT_same j.fh h2, k (.sh (.tuple ys)) F H (.ref b) (by simpa using q.2) j hy⟩
    · refine .inl ⟨l, b, us, ws, rfl, rfl, sqT_same j.fh h1, sqT_same j.fh h2, e1, by omega, fun e2 => ?_, fun e2 p hp => ?_⟩
      · subst e2
        cases a2
        exact k (.sh (.tuple xs)) F H (.ref l) (by simpa using q.2) j hx
      · exact k _ _ _ _ q.2 ((j.alloc hp _).frz upd_same (j.ffree hp) (j.zfree hp) (j.apart hp)) (.tup (SqT.of upd_same) (dpAllM (same_new (j.ffree hp) _) (DpAll.app a1 a2)))
  · exact q.elim⟩
def wAddA : W2 := fun d e Q => wAdd d e Q ∨ wAddT d e Q
theorem de_addA (ha : DE X a Ga) (hb : DE X b Gb) : DE X (.BinOp a .Add b pos) (gBin wAddA Ga Gb) :=
  de_bin (opr_or (opr_or op_add (opr_or op_catS op_add_str)) (opr_or op_catT op_catT0)) ⟨fun d e Q Q' h q => q.imp (fun q => wAdd_mono d e Q Q' h q) (fun q => (opdAddT (K := X.K)).mono d e Q Q' h q), fun c F H σ ρ x y d e Q Qv j hx hy q k => q.imp (fun q => opdAdd.ok c F H σ ρ x y d e Q Qv j hx hy q k) fun q => opdAddT.ok c F H σ ρ x y d e Q Qv j hx hy q k⟩ ha hb
theorem getItem_tuple_whole {prog : Program} {w : World} {A : Around} {E : Value → Shared → Prop} {s : Shared} {t sl : Addr} {items : Array Value} {vl vu : Value} {lo hi : Option Int} {Q : Value → Shared → Prop} (ht : IsTup s.heap t items) (hs : s.heap.IsSliceOf sl vl vu .none) (pl : IsPart vl lo) (pu : IsPart vu hi)
    (hw : HT.sIx items.size 0 lo = 0 ∧ HT.sIx items.size items.size hi = items.size) (h : Q (.ref t) s) : wpAny (model prog w) A (getItem (.ref t) (.ref sl)) Q E s := by
  obtain ⟨os, hos, hcs, hds⟩ := id hs
  have hTs : s.TypeIs (.ref sl) "slice" := ⟨os, hos, hcs⟩
  unfold getItem
  try with_reducible refine wpAny_holding ?_
  first | refine wpAny_bind (wpAny_pure ?_) | skip
  refine wpAny_bind (wpAny_sequenceKey ht.typeIs (by decide) ?_)
  refine wpAny_bind (wpAny_callSpecial?_slot (name := Str.ofString "__getitem__") ht.typeIs PyProof.Rows.slot_tuple_getitem
    (wpAny_call_entry PyProof.Rows.slot_tuple_getitem ht.typeIs entry_tuple_getitem ?_ (args_tuple_getitem _ _)))
  show wpAny _ _ (Builtin.Tuple.tupleItemsOf (.ref t) >>= _) _ _ s
  refine wpAny_bind (tupleItemsOf_ ht ?_)
  refine wpAny_bind (wpAny_typeOf hTs ?_)
  rw [if_pos (by decide)]
  refine wpAny_bind (HT.sliceApplied_gen hs pl pu ?_)
  have hyes : (((HT.sIx items.size 0 lo : Nat) : Int) == 0 && (1 : Int) == 1 && (HT.sIx items.size items.size hi - HT.sIx items.size 0 lo) == items.size) = true := by
    rw [hw.1, hw.2]
    simp
  show wpAny _ _ (if (((HT.sIx items.size 0 lo : Nat) : Int) == 0 && (1 : Int) == 1 && (HT.sIx items.size items.size hi - HT.sIx items.size 0 lo) == items.size) = true then _ else _) _ _ s
  rw [if_pos hyes]
  refine wpAny_bind (wpAny_bind (wpAny_typeOf ht.typeIs (wpAny_pure ?_)))
  rw [if_pos (by decide)]
  first
    | exact wpAny_pure ⟨_, rfl, wpAny_pure h⟩
    | exact wpAny_bind (wpAny_pure (wpAny_pure ⟨_, rfl, wpAny_pure h⟩))
    | exact wpAny_bind (wpAny_rule (wpAny_pure ⟨_, rfl, wpAny_pure h⟩))
def rSlA (K : PySem.W.Frag) : V → Option Int → Option Int → Hp → VK → Prop := fun x lo hi H Q => rSlL K x lo hi H Q ∨ ∃ a xs, x = .ref a ∧ SqT K H a xs ∧ (cutV xs lo hi = xs → Q (.ref a) H) ∧ ∀ p, H p = none → Q (.ref p) (upd H p (.tup (cutV xs lo hi)))
theorem cut_whole {xs : List V} {lo hi : Option Int} (h : HT.sIx xs.length 0 lo = 0 ∧ HT.sIx xs.length xs.length hi = xs.length) : cutV xs lo hi = xs := by
  unfold cutV
  rw [h.1, h.2]
  simp
theorem sl_all : SlR X (rSlA X.K) := by
  intro pins s σ H x v vl vu lo hi sl Q I rx hs pl pu h
  rcases h with h | ⟨a, xs, rfl, hx, q1, q2⟩
  · exact sl_list pins s σ H x v vl vu lo hi sl Q I rx hs pl pu h
  · by_cases hw : HT.sIx xs.length 0 lo = 0 ∧ HT.sIx xs.length xs.length hi = xs.length
    · cases rx
      obtain ⟨its, r, ht, hz⟩ := I.tuple hx
      have hlen : its.toArray.size = xs.length := by rw [List.size_toArray]; exact r.length.symm
      refine ⟨"tuple", _, PyProof.Rows.slot_tuple_getitem.lookup, ht.typeIs, ?_⟩
      exact getItem_tuple_whole ht hs pl pu (by rw [hlen]; exact hw) ⟨.ref a, H, I, rfl, q1 (cut_whole hw)⟩
    · exact sl_tup pins s σ H (.ref a) v vl vu lo hi sl Q I rx hs pl pu ⟨a, xs, rfl, hx, hw, q2⟩
def gSlA (a : GE) (l u : GO) : GE := fun ρ Q => a ρ fun r ρ1 => withD r fun d => l ρ1 fun lo ρ2 => u ρ2 fun hi ρ3 => match d with
  | .list ds => Q (.own (.lst (cutD ds lo hi))) ρ3
  | .tuple ds => Q (.sh (.tuple (cutD ds lo hi))) ρ3
  | _ => False
theorem de_slA {lo hi : Option Expr} {l u : GO} {p2 : Pos} (ha : DE X a Ga) (hl : DO X lo l) (hu : DO X hi u) : DE X (.Subscript a (.Slice lo hi none p2) pos) (gSlA Ga l u) :=
  ⟨fun _ _ _ hq q => ha.mono _ _ _ (fun _ _ z => withD_mono (fun _ z => hl.mono _ _ _ (fun _ _ z => hu.mono _ _ _ (fun _ _ z => by split at z <;> first | exact hq _ _ z | exact z) z) z) z) q, peI (pe_slice sl_all ha.pe hl.po hu.po) fun σ H Q ⟨c, F, ρ, j, q⟩ => by
    refine ⟨c, F, ρ, j, ha.mono _ _ _ (fun r1 ρ1 q1 F1 H1 v1 j1 v1r => ?_) q⟩
    obtain ⟨d, hd, q1⟩ := withD_use q1
    obtain ⟨F2, j2, s2, dp⟩ := v1r.frz j1 hd
    refine ⟨⟨F2, c.Z, c.io⟩, F2, ρ1, j2.anew, hl.mono _ _ _ (fun lo ρ3 q3 F3 H3 j3 => ?_) q1⟩
    refine ⟨⟨F2, c.Z, c.io⟩, F3, ρ3, j3, hu.mono _ _ _ (fun hi ρ4 q4 F4 H4 j4 => ?_) q3⟩
    split at q4
    · obtain ⟨p, xs, rfl, h1, a1⟩ := dp_lst dp
      have j5 := j2.back j4
      refine .inl ⟨p, xs, rfl, (j4.ff.trans j4.fh).seq h1, fun q hq => ?_⟩
      refine q4 F4 _ _ (j5.alloc hq _) (relNew j5 hq ⟨_, rfl, ?_⟩)
      unfold cutV cutD
      rw [DpAll.length a1]
      exact DpAll.take _ (DpAll.drop _ (dpAllM j4.ff a1))
    · next ds =>
      obtain ⟨p, xs, rfl, h1, a1⟩ := dp_tup dp
      have j5 := j2.back j4
      have a4 : DpAll X.K F4 (cutV xs lo hi) (cutD ds lo hi) := by
        unfold cutV cutD
        rw [DpAll.length a1]
        exact DpAll.take _ (DpAll.drop _ (dpAllM j4.ff a1))
      refine .inr ⟨p, xs, rfl, sqT_same (j4.ff.trans j4.fh) h1, fun e => ?_, fun q hq => ?_⟩
      · rw [e] at a4
        exact q4 F4 H4 _ j5 (.tup (sqT_same j4.ff h1) a4)
      · exact q4 _ _ _ ((j5.alloc hq _).frz upd_same (j5.ffree hq) (j5.zfree hq) (j5.apart hq)) (.tup (SqT.of upd_same) (dpAllM (same_new (j5.ffree hq) _) a4))
    · exact q4.elim⟩
theorem noFill_tuple_mul : fillsNumberSlot (.type "tuple") "mul" = pure false :=
  PySem.fillsNumberSlot_seq (id := "tuple.__mul__") (r := some (.builtin "tuple.__rmul__")) F.slot_tuple_mul.lookup (by decide +kernel) F.slot_tuple_rmul.lookup (by decide +kernel)
theorem repeat_tuple : seqRepeat? (.type "tuple") = pure (some (.builtin "tuple.__mul__")) := by
  unfold seqRepeat?
  rw [PySem.seqSlot_of (T := "tuple") (name := "__mul__") (id := "tuple.__mul__") F.slot_tuple_mul.lookup (by decide +kernel), PySem.seqSlot_of (T := "tuple") (name := "__rmul__") (id := "tuple.__rmul__") F.slot_tuple_rmul.lookup (by decide +kernel)]
  rfl
theorem int_rmul_tuple (a : Int) (t : Tok) (l : Addr) (items : Array Value) (n : Nat) (dd : Option Addr) (sl : Array (Option Value)) :
    Meets (Builtin.«int.__rmul__» ⟨[.int a t, .ref l], []⟩) (fun _ R s => s.heap.get? l = some { cls := .type "tuple", dict := dd, data := .seq items n, slots := sl } ∧ R (.ok (.ret Value.notImplemented)) s) :=
  .of_wp fun prog w A R s h => by obtain ⟨hp, g, d, tk, os⟩ := s; obtain ⟨hl, h⟩ := h; wp_walk; exact ⟨_, rfl, h⟩
theorem tuple_mulW (l : Addr) (items : Array Value) (n : Nat) (dd : Option Addr) (sl : Array (Option Value)) (x : Int) (u : Tok) (hc0 : ¬(decide (x < -2 ^ 63) || decide (x ≥ 2 ^ 63)) = true) (hc1 : ¬(items.isEmpty || x == 1) = true) (hc2 : ¬(decide (x ≤ 0) || items.isEmpty) = true) (hc3 : ¬(items.size : Int) * x > (2 ^ 63 - 1) / 8) (hc4 : ¬Builtin.Tuple.tupleTooMany ((items.size : Int) * x) = true)
    (hsz : (List.foldl (fun x1 x2 => x1 ++ x2) #[] (List.replicate x.toNat items)).size ≤ sizeLine) :
    Meets (Builtin.«tuple.__mul__» ⟨[.ref l, .int x u], []⟩) (fun _ R s => s.heap.get? l = some { cls := .type "tuple", dict := dd, data := .seq items n, slots := sl } ∧ R (.ok (.ret (Value.ref s.heap.objs.size))) { s with heap := s.heap.push { cls := Value.type "tuple", data := Data.seq (List.foldl (fun x1 x2 => x1 ++ x2) #[] (List.replicate x.toNat items)) }, toks := s.toks }) :=
  .of_wp fun prog w A R s h => by
    obtain ⟨hp, g, d, tk, os⟩ := s; obtain ⟨hl, h⟩ := h
    have f1 := AutoSeq1.idx_int
    wp_walk using wpAny_loadPart' hl
    rw [if_neg hc0]
    refine wpAny_bind (tupleItemsOf_ ⟨_, hl, rfl, n, rfl⟩ ?_)
    dsimp only
    rw [if_neg hc1, if_neg hc2, if_neg hc3, if_neg hc4]
    exact wpAny_bind (m := Builtin.Tuple.tupleExact _) (wpAny_newObj_type (wpAny_pure ⟨_, rfl, h⟩) hsz)
def rRepT (K : PySem.W.Frag) : R2 := fun x y H Q => ∃ l k xs, x = .ref l ∧ y = .int k ∧ SqT K H l xs ∧ xs ≠ [] ∧ 2 ≤ k ∧ xs.length * k.toNat ≤ 1000000 ∧ ∀ p, H p = none → Q (.ref p) (upd H p (.tup (List.replicate k.toNat xs).flatten))
theorem op_repT : OpR X (binaryOp .Mult) (rRepT X.K) := by
  intro pins s σ H x y v u Q I rx ry h
  obtain ⟨l, k, xs, rfl, rfl, hH, hne, h2, hz, q⟩ := h
  cases rx
  obtain ⟨t, rfl⟩ := (show ∃ t, u = Value.int k t from ry)
  obtain ⟨its, r, p1, z⟩ := I.tuple hH
  obtain ⟨⟨cls, dd, data, sl⟩, ho, hc, n, hd⟩ := id p1
  simp only at hc hd
  subst hc hd
  have hl := r.length
  have hm := million
  have hline : sizeLine = 16777216 := sizeLine_eq
  have hpos : 0 < its.length := by
    rw [← hl]
    exact List.length_pos_iff.mpr hne
  have hk : (k.toNat : Int) = k := by omega
  have hsz : (its.toArray.size : Int) * k ≤ 1000000 := by
    rw [List.size_toArray, ← hl, ← hk, ← Int.natCast_mul]
    omega
  have hk2 : k ≤ 1000000 := by
    have : (1 : Int) * k ≤ (its.toArray.size : Int) * k := Int.mul_le_mul_of_nonneg_right (by rw [List.size_toArray]; omega) (by omega)
    omega
  have f0 : List.foldl (fun x1 x2 => x1 ++ x2) #[] (List.replicate k.toNat its.toArray) = (List.replicate k.toNat its).flatten.toArray := by
    have := foldl_rep its k.toNat []
    rw [List.nil_append] at this
    exact this
  have hlen : (List.replicate k.toNat its).flatten.length ≤ 1000000 := by
    rw [len_rep, ← hl, Nat.mul_comm]
    exact hz
  have e1 : its.toArray.isEmpty = false := by
    cases its with
    | nil => simp at hpos
    | cons a b => rfl
  have hp63 : (2 : Int) ^ 63 = 9223372036854775808 := by decide
  refine wpAny_binaryOp_repeat_ref (T := "tuple") (U := "int") (by decide) ⟨_, ho, rfl⟩ (fun s' => typeIs_int s' k t) noFill_tuple_mul F.fills_int_mul F.slot_int_rmul repeat_tuple F.slot_int_index.lookup
    (call_meets F.slot_int_rmul (typeIs_int s k t) F.entry_int_rmul (F.args_int_rmul_2 _ _) (int_rmul_tuple k t l its.toArray n dd sl)
      ⟨ho, rfl, ⟨_, ho, rfl⟩, call_meets F.slot_tuple_mul ⟨_, ho, rfl⟩ F.entry_tuple_mul (F.args_tuple_mul_2 _ _) (tuple_mulW l its.toArray n dd sl k t (by simp; omega) (by rw [e1]; simp; omega) (by rw [e1]; simp; omega) (by omega) (by unfold Builtin.Tuple.tupleTooMany; rw [decide_eq_true_iff]; omega) (by rw [f0, List.size_toArray]; omega)) ⟨ho, ?_⟩⟩)
  rw [f0]
  refine ⟨.ref s.heap.objs.size, _, I.laid (t' := s.toks) (o := .tup (List.replicate k.toNat xs).flatten) (fun b ob q => Heap.get?_push_of_some _ q) (Nat.le_refl _) ?_, rfl, q _ (I.hok.fresh (Nat.le_refl _))⟩
  exact ⟨by rw [len_rep, Nat.mul_comm]; omega, _, r.rep k.toNat, IsTupN.new _ _⟩
end
end DL
set_option Elab.async false
set_option linter.all false
set_option maxRecDepth 100000
namespace DX
open PySem L2 DL
inductive Re (α β : Type) where
  | ok (a : α) (b : β)
  | ex (x : Xn) (b : β)
  | bad
section
variable {α β γ δ : Type}
def Re.bind (x : Re α β) (k : α → β → Re γ β) : Re γ β := match x with
  | .ok a b => k a b
  | .ex e b => .ex e b
  | .bad => .bad
@[simp ↓] theorem Re.bind_ok (a : α) (b : β) (k : α → β → Re γ β) : (Re.ok a b).bind k = k a b := Eq.trans rfl rfl
theorem Re.bind_inv {x : Re α β} {k : α → β → Re γ β} {c : γ} {b' : β} (h : x.bind k = .ok c b') : ∃ a b, x = .ok a b ∧ k a b = .ok c b' := by
  cases x with
  | ok a b => exact ⟨a, b, rfl, h⟩
  | ex e b => cases h
  | bad => cases h
def gd (c : Prop) [Decidable c] (x : Option α) : Option α := if c then x else none
theorem gd_ok {c : Prop} [Decidable c] (h : c) (x : Option α) : gd c x = x := if_pos h
@[simp ↓] theorem gd_true {h : Decidable True} (x : Option α) : @gd α True h x = x := if_pos trivial
theorem gd_inv {c : Prop} [Decidable c] {x : Option α} {y : α} (h : gd c x = some y) : c ∧ x = some y := by
  unfold gd at h
  split at h
  · exact ⟨by assumption, h⟩
  · cases h
def gr (c : Prop) [Decidable c] (x : Re α β) : Re α β := if c then x else .bad
theorem gr_ok {c : Prop} [Decidable c] (h : c) (x : Re α β) : gr c x = x := if_pos h
@[simp ↓] theorem gr_true {h : Decidable True} (x : Re α β) : @gr α β True h x = x := if_pos trivial
theorem gr_inv {c : Prop} [Decidable c] {x : Re α β} {y : α} {z : β} (h : gr c x = .ok y z) : c ∧ x = .ok y z := by
  unfold gr at h
  split at h
  · exact ⟨by assumption, h⟩
  · cases h
def ofO (x : Option α) (b : β) : Re α β := match x with | some a => .ok a b | none => .bad
@[simp ↓] theorem ofO_some (a : α) (b : β) : ofO (some a) b = .ok a b := Eq.trans rfl rfl
theorem ofO_inv {x : Option α} {b b' : β} {a : α} (h : ofO x b = .ok a b') : x = some a ∧ b' = b := by
  cases x with
  | some y => cases h; exact ⟨rfl, rfl⟩
  | none => cases h
def withX (r : R) (k : PyData → Re α β) : Re α β := match r.dat with | some d => k d | none => .bad
@[simp ↓] theorem withX_sh (d : PyData) (k : PyData → Re α β) : withX (.sh d) k = k d := Eq.trans rfl rfl
@[simp ↓] theorem withX_own (ds : List PyData) (k : PyData → Re α β) : withX (.own (.lst ds)) k = k (.list ds) := Eq.trans rfl rfl
theorem withX_inv {r : R} {k : PyData → Re α β} {c : α} {b : β} (h : withX r k = .ok c b) : ∃ d, r.dat = some d ∧ k d = .ok c b := by
  unfold withX at h
  split at h
  · exact ⟨_, by assumption, h⟩
  · cases h
theorem withD_mk {r : R} {k : PyData → Prop} {d : PyData} (h : r.dat = some d) (q : k d) : withD r k := by
  unfold withD
  rw [h]
  exact q
end
abbrev XX (α : Type) := Rho → Re α Rho
abbrev XE := XX R
abbrev XT := XX Bool
abbrev XA := XX (List PyData)
def toG {α : Type} (x : XX α) : Rho → (α → Rho → Prop) → Prop := fun ρ Q => ∃ a ρ', x ρ = .ok a ρ' ∧ Q a ρ'
theorem toG_mono {α : Type} (x : XX α) : ∀ ρ (Q Q' : α → Rho → Prop), (∀ r ρ', Q r ρ' → Q' r ρ') → toG x ρ Q → toG x ρ Q' := fun _ _ _ h ⟨a, ρ', e, q⟩ => ⟨a, ρ', e, h _ _ q⟩
abbrev EX (X : Cx) (e : Expr) (x : XE) : Prop := DE X e (toG x)
abbrev TX (X : Cx) (e : Expr) (x : XT) : Prop := DT X e (toG x)
abbrev WX (X : Cx) (e : Expr) (x : XT) : Prop := DW X e (toG x)
abbrev AX (X : Cx) (e : List Expr) (x : XA) : Prop := DA X e (toG x)
abbrev OX (X : Cx) (e : Option Expr) (x : XX (Option Int)) : Prop := DO X e (toG x)
section
variable {X : Cx} {a b c e : Expr} {es rest : List Expr} {pos p : Pos}
theorem deI {G G' : GE} (h : DE X e G) (m : MonoE G') (i : ∀ ρ Q, G' ρ Q → G ρ Q) : DE X e G' := ⟨m, peI h.pe fun σ H Q ⟨c, F, ρ, j, q⟩ => ⟨c, F, ρ, j, i _ _ q⟩⟩
theorem dtI {G G' : GT} (h : DT X e G) (m : MonoT G') (i : ∀ ρ Q, G' ρ Q → G ρ Q) : DT X e G' := ⟨m, ptI h.pt fun σ H Q ⟨c, F, ρ, j, q⟩ => ⟨c, F, ρ, j, i _ _ q⟩⟩
theorem dwI {G G' : GT} (h : DW X e G) (m : MonoT G') (i : ∀ ρ Q, G' ρ Q → G ρ Q) : DW X e G' := ⟨m, pwI h.pw fun σ H Q ⟨c, F, ρ, j, q⟩ => ⟨c, F, ρ, j, i _ _ q⟩⟩
theorem daI {G G' : GA} (h : DA X es G) (m : MonoA G') (i : ∀ ρ Q, G' ρ Q → G ρ Q) : DA X es G' := ⟨m, paI h.pa fun σ H Q ⟨c, F, ρ, j, q⟩ => ⟨c, F, ρ, j, i _ _ q⟩⟩
theorem exI {G : GE} {x : XE} (h : DE X e G) (i : ∀ ρ Q r ρ', x ρ = .ok r ρ' → Q r ρ' → G ρ Q) : EX X e x := deI h (toG_mono x) fun ρ Q ⟨r, ρ', e, q⟩ => i ρ Q r ρ' e q
theorem txI {G : GT} {x : XT} (h : DT X e G) (i : ∀ ρ Q r ρ', x ρ = .ok r ρ' → Q r ρ' → G ρ Q) : TX X e x := dtI h (toG_mono x) fun ρ Q ⟨r, ρ', e, q⟩ => i ρ Q r ρ' e q
theorem wxI {G : GT} {x : XT} (h : DW X e G) (i : ∀ ρ Q r ρ', x ρ = .ok r ρ' → Q r ρ' → G ρ Q) : WX X e x := dwI h (toG_mono x) fun ρ Q ⟨r, ρ', e, q⟩ => i ρ Q r ρ' e q
theorem axI {G : GA} {x : XA} (h : DA X es G) (i : ∀ ρ Q r ρ', x ρ = .ok r ρ' → Q r ρ' → G ρ Q) : AX X es x := daI h (toG_mono x) fun ρ Q ⟨r, ρ', e, q⟩ => i ρ Q r ρ' e q
def varX (s : Option (Option R)) (i : Nat) (ρ : Rho) : Re R Rho := match s with
  | some (some (.sh d)) => .ok (.sh d) ρ
  | some (some (.own (.lst ds))) => .ok (.sh (.list ds)) (ρ.set i (some (.sh (.list ds))))
  | _ => .bad
@[simp ↓] theorem varX_sh (d : PyData) (i : Nat) (ρ : Rho) : varX (some (some (.sh d))) i ρ = .ok (.sh d) ρ := Eq.trans rfl rfl
@[simp ↓] theorem varX_own (ds : List PyData) (i : Nat) (ρ : Rho) : varX (some (some (.own (.lst ds)))) i ρ = .ok (.sh (.list ds)) (ρ.set i (some (.sh (.list ds)))) := Eq.trans rfl rfl
def xVar (i : Nat) : XE := fun ρ => varX ρ[i]? i ρ
theorem xe_var {i : Nat} {x : Str} (h : PE X (.Name x pos) (tVar i)) : EX X (.Name x pos) (xVar i) := exI (de_var h) fun ρ Q r ρ' e q => by
  have go : ∀ s, ρ[i]? = s → varX s i ρ = .ok r ρ' → gVar i ρ Q := by
    intro s hs e
    unfold gVar
    rw [hs]
    match s, e with
    | some (some (.sh d)), e => cases e; exact q
    | some (some (.own (.lst ds))), e => cases e; exact q
    | some (some (.own (.dic ds))), e => cases e
    | some (some (.own (.exc ds))), e => cases e
    | some (some (.io o)), e => cases e
    | some (some (.new o)), e => cases e
    | some none, e => cases e
    | none, e => cases e
  exact go _ rfl e
def xC (d : PyData) : XE := fun ρ => .ok (.sh d) ρ
theorem xc_of {d : PyData} (h : DE X e (gC d)) : EX X e (xC d) := exI h fun ρ Q r ρ' e q => by cases e; exact q
theorem xe_int {i : Int} {k : Nat} : EX X (.Constant (.int i) k pos) (xC (.int i)) := xc_of de_int
theorem xe_bl {i : Bool} {k : Nat} : EX X (.Constant (.bool i) k pos) (xC (.bool i)) := xc_of de_bl
theorem xe_non {k : Nat} : EX X (.Constant .none k pos) (xC .none) := xc_of de_non
theorem xe_str {x : Str} {k : Nat} : EX X (.Constant (.str x) k pos) (xC (.str x)) := xc_of de_str
abbrev V2 := PyData → PyData → Option R
def xBin (w : V2) (a b : XE) : XE := fun ρ => (a ρ).bind fun r1 ρ1 => withX r1 fun d => (b ρ1).bind fun r2 ρ2 => withX r2 fun e => ofO (w d e) ρ2
def Lw (w : V2) (W : W2) : Prop := ∀ d e z Q, w d e = some z → Q z → W d e Q
theorem im_bin {w : V2} {W : W2} {a b : XE} (h : Lw w W) (ρ : Rho) (Q : KE) (r : R) (ρ' : Rho) (e : xBin w a b ρ = .ok r ρ') (q : Q r ρ') : gBin W (toG a) (toG b) ρ Q := by
  obtain ⟨r1, ρ1, e1, e⟩ := Re.bind_inv e
  obtain ⟨d, hd, e⟩ := withX_inv e
  obtain ⟨r2, ρ2, e2, e⟩ := Re.bind_inv e
  obtain ⟨d2, hd2, e⟩ := withX_inv e
  obtain ⟨e', rfl⟩ := ofO_inv e
  exact ⟨r1, ρ1, e1, withD_mk hd ⟨r2, _, e2, withD_mk hd2 (h _ _ _ _ e' q)⟩⟩
instance (i j : Int) : Decidable (CMul i j) := by unfold CMul; infer_instance
instance (i j : Int) : Decidable (CDiv i j) := by unfold CDiv; infer_instance
instance (i j : Int) : Decidable (CPowB i j) := by unfold CPowB; infer_instance
def vI (C : Int → Int → Prop) [∀ i j, Decidable (C i j)] (g : Int → Int → PyData) : V2
  | .int i, .int j => gd (C i j) (some (.sh (g i j)))
  | _, _ => none
theorem lw_I {C : Int → Int → Prop} [∀ i j, Decidable (C i j)] {g : Int → Int → PyData} : Lw (vI C g) (wI C g) := fun d e z Q h q => by
  unfold vI at h
  split at h
  · obtain ⟨c, h⟩ := gd_inv h
    cases h
    exact ⟨c, q⟩
  · cases h
@[simp ↓] theorem vI_int (C : Int → Int → Prop) [∀ i j, Decidable (C i j)] (g : Int → Int → PyData) (i j : Int) : vI C g (.int i) (.int j) = gd (C i j) (some (.sh (g i j))) := Eq.trans rfl rfl
abbrev vSub : V2 := vI (fun _ _ => True) fun i j => .int (i - j)
abbrev vDiv : V2 := vI CDiv fun i j => .int (i / j)
abbrev vMod : V2 := vI (fun _ j => 0 < j) fun i j => .int (i % j)
def vPow : V2 := vI CPowB fun i j => .int (i ^ j.toNat)
theorem lw_pow : Lw vPow (wI CPowB fun i j => .int (i ^ j.toNat)) := lw_I
theorem pow_ok {i j : Int} (h : CPowB i j) : vPow (.int i) (.int j) = some (.sh (.int (i ^ j.toNat))) := by rw [vPow, vI_int, gd_ok h]
abbrev vLt : V2 := vI (fun _ _ => True) fun i j => .bool (decide (i < j))
abbrev vGt : V2 := vI (fun _ _ => True) fun i j => .bool (decide (j < i))
abbrev vGe : V2 := vI (fun _ _ => True) fun i j => .bool (decide (j ≤ i))
def vAdd : V2
  | .int i, .int j => some (.sh (.int (i + j)))
  | .list xs, .list ys => gd (xs.length + ys.length ≤ 1000000) (some (.own (.lst (xs ++ ys))))
  | .str x, .str y => gd (x.length + y.length ≤ 1000000) (some (.sh (.str (x ++ y))))
  | .tuple xs, .tuple ys => gd (xs.length + ys.length ≤ 1000000) (some (.sh (.tuple (xs ++ ys))))
  | _, _ => none
@[simp ↓] theorem vAdd_tuple (xs ys : List PyData) : vAdd (.tuple xs) (.tuple ys) = gd (xs.length + ys.length ≤ 1000000) (some (.sh (.tuple (xs ++ ys)))) := Eq.trans rfl rfl
@[simp ↓] theorem vAdd_int (i j : Int) : vAdd (.int i) (.int j) = some (.sh (.int (i + j))) := Eq.trans rfl rfl
@[simp ↓] theorem vAdd_list (xs ys : List PyData) : vAdd (.list xs) (.list ys) = gd (xs.length + ys.length ≤ 1000000) (some (.own (.lst (xs ++ ys)))) := Eq.trans rfl rfl
theorem lw_add : Lw vAdd wAddA := fun d e z Q h q => by
  unfold vAdd at h
  split at h
  · cases h; exact .inl q
  · obtain ⟨c, h⟩ := gd_inv h; cases h; exact .inl ⟨c, q⟩
  · obtain ⟨c, h⟩ := gd_inv h; cases h; exact .inl ⟨c, q⟩
  · obtain ⟨c, h⟩ := gd_inv h; cases h; exact .inr ⟨c, q⟩
  · cases h
def vEq (neg : Bool) : V2 := fun d e => gd (d.canLay0 = true ∧ e.canLay0 = true ∧ min d.depth e.depth < 200) (some (.sh (.bool (if neg then !PyData.eqv d e else PyData.eqv d e))))
theorem lw_eq {neg : Bool} : Lw (vEq neg) (wEq neg) := fun d e z Q h q => by
  obtain ⟨c, h⟩ := gd_inv h
  cases h
  exact ⟨c.1, c.2.1, c.2.2, q⟩
def inV (neg : Bool) (d : PyData) (ds : List PyData) : Option R := gd (d.canLay0 = true ∧ PyData.canLayAll0 ds = true ∧ min (PyData.depthAll ds) d.depth < 190) (some (.sh (.bool (if neg then !(ds.any fun y => PyData.eqv y d) else ds.any fun y => PyData.eqv y d))))
def vIn (neg : Bool) : V2
  | d, .list ds => inV neg d ds
  | d, .tuple ds => inV neg d ds
  | _, _ => none
@[simp ↓] theorem vIn_list (neg : Bool) (d : PyData) (ds : List PyData) : vIn neg d (.list ds) = inV neg d ds := Eq.trans rfl rfl
@[simp ↓] theorem vIn_tuple (neg : Bool) (d : PyData) (ds : List PyData) : vIn neg d (.tuple ds) = inV neg d ds := Eq.trans rfl rfl
theorem inV_inv {neg : Bool} {d : PyData} {ds : List PyData} {z : R} {Q : R → Prop} (h : inV neg d ds = some z) (q : Q z) : inW neg d ds Q := by
  obtain ⟨c, h⟩ := gd_inv h
  cases h
  exact ⟨c.1, c.2.1, c.2.2, q⟩
theorem lw_in {neg : Bool} : Lw (vIn neg) (wIn neg) := fun d e z Q h q => by
  unfold vIn at h
  split at h
  · exact inV_inv h q
  · exact inV_inv h q
  · cases h
def ixX (ds : List PyData) (i : Int) : Option R := (atI ds i).map .sh
def vIx : V2
  | .tuple ds, .int i => ixX ds i
  | .list ds, .int i => ixX ds i
  | _, _ => none
@[simp ↓] theorem vIx_tuple (ds : List PyData) (i : Int) : vIx (.tuple ds) (.int i) = ixX ds i := Eq.trans rfl rfl
theorem ixX_inv {ds : List PyData} {i : Int} {z : R} (h : ixX ds i = some z) : ∃ d, atI ds i = some d ∧ z = .sh d := by
  unfold ixX at h
  cases e : atI ds i with
  | none => rw [e] at h; cases h
  | some d => rw [e] at h; cases h; exact ⟨d, rfl, rfl⟩
theorem lw_ix : Lw vIx wIx := fun d e z Q h q => by
  unfold vIx at h
  split at h
  · obtain ⟨d, h9, rfl⟩ := ixX_inv h
    show (match atI _ _ with | some d => Q (.sh d) | none => False)
    rw [h9]; exact q
  · obtain ⟨d, h9, rfl⟩ := ixX_inv h
    show (match atI _ _ with | some d => Q (.sh d) | none => False)
    rw [h9]; exact q
  · cases h
variable {xa xb xc : XE}
theorem xe_add (ha : EX X a xa) (hb : EX X b xb) : EX X (.BinOp a .Add b pos) (xBin vAdd xa xb) := exI (de_addA ha hb) (im_bin lw_add)
theorem xe_sub (ha : EX X a xa) (hb : EX X b xb) : EX X (.BinOp a .Sub b pos) (xBin vSub xa xb) := exI (de_sub ha hb) (im_bin lw_I)
theorem xe_fdiv (ha : EX X a xa) (hb : EX X b xb) : EX X (.BinOp a .FloorDiv b pos) (xBin vDiv xa xb) := exI (de_fdiv ha hb) (im_bin lw_I)
theorem xe_mod (ha : EX X a xa) (hb : EX X b xb) : EX X (.BinOp a .Mod b pos) (xBin vMod xa xb) := exI (de_mod ha hb) (im_bin lw_I)
theorem xe_pow (ha : EX X a xa) (hb : EX X b xb) : EX X (.BinOp a .Pow b pos) (xBin vPow xa xb) := exI (de_pow ha hb) (im_bin lw_pow)
theorem xe_gt (ha : EX X a xa) (hb : EX X b xb) : EX X (.Compare a [.Gt] [b] pos) (xBin vGt xa xb) := exI (de_gt ha hb) (im_bin lw_I)
theorem xe_ge (ha : EX X a xa) (hb : EX X b xb) : EX X (.Compare a [.GtE] [b] pos) (xBin vGe xa xb) := exI (de_ge ha hb) (im_bin lw_I)
theorem xe_eq {k : Nat} (hr : Room k X.A) (ha : EX X a xa) (hb : EX X b xb) : EX X (.Compare a [.Eq] [b] pos) (xBin (vEq false) xa xb) := exI (de_eq hr ha hb) (im_bin lw_eq)
theorem xe_ix (ha : EX X a xa) (hb : EX X b xb) (hs : PlainIx b := by exact fun _ _ => rfl) : EX X (.Subscript a b pos) (xBin vIx xa xb) := exI (de_ix ha hb hs) (im_bin lw_ix)
def xUn (w : PyData → Option R) (a : XE) : XE := fun ρ => (a ρ).bind fun r1 ρ1 => withX r1 fun d => ofO (w d) ρ1
theorem xUn_inv {w : PyData → Option R} {a : XE} {ρ ρ' : Rho} {r : R} (e : xUn w a ρ = .ok r ρ') : ∃ r1 d, a ρ = .ok r1 ρ' ∧ r1.dat = some d ∧ w d = some r := by
  obtain ⟨r1, ρ1, e1, e⟩ := Re.bind_inv e
  obtain ⟨d, hd, e⟩ := withX_inv e
  obtain ⟨e', rfl⟩ := ofO_inv e
  exact ⟨r1, d, e1, hd, e'⟩
def vIsN (neg : Bool) (d : PyData) : Option R := some (.sh (.bool (match d with | .none => !neg | _ => neg)))
@[simp ↓] theorem vIsN_none (neg : Bool) : vIsN neg .none = some (.sh (.bool (!neg))) := Eq.trans rfl rfl
def shX {α β : Type} (r : R) (k : PyData → Re α β) : Re α β := match r with | .sh d => k d | _ => .bad
@[simp ↓] theorem shX_sh {α β : Type} (d : PyData) (k : PyData → Re α β) : shX (.sh d) k = k d := Eq.trans rfl rfl
theorem shX_inv {α β : Type} {r : R} {k : PyData → Re α β} {c : α} {b : β} (h : shX r k = .ok c b) : ∃ d, r = .sh d ∧ k d = .ok c b := by
  unfold shX at h
  split at h
  · exact ⟨_, rfl, h⟩
  · cases h
def xSh (w : PyData → Option R) (a : XE) : XE := fun ρ => (a ρ).bind fun r1 ρ1 => shX r1 fun d => ofO (w d) ρ1
theorem xSh_inv {w : PyData → Option R} {a : XE} {ρ ρ' : Rho} {r : R} (e : xSh w a ρ = .ok r ρ') : ∃ d, a ρ = .ok (.sh d) ρ' ∧ w d = some r := by
  obtain ⟨r1, ρ1, e1, e⟩ := Re.bind_inv e
  obtain ⟨d, er, e'⟩ := shX_inv e
  subst er
  obtain ⟨e2, e3⟩ := ofO_inv e'
  subst e3
  exact ⟨d, e1, e2⟩
def vNeg : PyData → Option R | .int i => some (.sh (.int (-i))) | _ => none
def vNot : PyData → Option R | .bool i => some (.sh (.bool (!i))) | _ => none
@[simp ↓] theorem vNeg_int (i : Int) : vNeg (.int i) = some (.sh (.int (-i))) := Eq.trans rfl rfl
@[simp ↓] theorem vNot_bool (i : Bool) : vNot (.bool i) = some (.sh (.bool (!i))) := Eq.trans rfl rfl
theorem xe_neg (ha : EX X a xa) : EX X (.UnaryOp .USub a pos) (xSh vNeg xa) := exI (de_neg ha) fun ρ Q r ρ' e q => by
  obtain ⟨d, e1, e⟩ := xSh_inv e
  unfold vNeg at e
  split at e
  · cases e; exact ⟨_, ρ', e1, q⟩
  · cases e
theorem xe_not (ha : EX X a xa) : EX X (.UnaryOp .Not a pos) (xSh vNot xa) := exI (de_not ha) fun ρ Q r ρ' e q => by
  obtain ⟨d, e1, e⟩ := xSh_inv e
  unfold vNot at e
  split at e
  · cases e; exact ⟨_, ρ', e1, q⟩
  · cases e
def blX {α β : Type} (r : R) (k : Bool → Re α β) : Re α β := match r with | .sh (.bool b) => k b | _ => .bad
@[simp ↓] theorem blX_b {α β : Type} (d : Bool) (k : Bool → Re α β) : blX (.sh (.bool d)) k = k d := Eq.trans rfl rfl
theorem blX_inv {α β : Type} {r : R} {k : Bool → Re α β} {c : α} {b : β} (h : blX r k = .ok c b) : ∃ d, r = .sh (.bool d) ∧ k d = .ok c b := by
  unfold blX at h
  split at h
  · exact ⟨_, rfl, h⟩
  · cases h
def iteX {α : Type} (b : Bool) (x y : α) : α := match b with | true => x | false => y
@[simp ↓] theorem iteX_true {α : Type} (x y : α) : iteX true x y = x := Eq.trans rfl rfl
@[simp ↓] theorem iteX_false {α : Type} (x y : α) : iteX false x y = y := Eq.trans rfl rfl
def xAndV (a b : XE) : XE := fun ρ => (a ρ).bind fun r ρ' => blX r fun t => iteX t (b ρ') (.ok (.sh (.bool false)) ρ')
theorem xe_one {op : BoolOp} (ha : EX X a xa) : EX X (.BoolOp op [a] pos) xa := de_one ha
theorem xe_and (ha : EX X a xa) (hb : EX X (.BoolOp .And (b :: rest) pos) xb) : EX X (.BoolOp .And (a :: b :: rest) pos) (xAndV xa xb) := exI (de_and ha hb) fun ρ Q r ρ' e q => by
  obtain ⟨r1, ρ1, e1, e⟩ := Re.bind_inv e
  obtain ⟨t, rfl, e⟩ := blX_inv e
  cases t
  · cases e; exact ⟨_, _, e1, q⟩
  · exact ⟨_, _, e1, _, _, e, q⟩
def xB (a : XE) : XT := fun ρ => (a ρ).bind fun r ρ' => blX r fun t => .ok t ρ'
theorem im_B {G : GE} (hG : ∀ ρ Q r ρ', xa ρ = .ok r ρ' → Q r ρ' → G ρ Q) (ρ : Rho) (Q : Bool → Rho → Prop) (t : Bool) (ρ' : Rho) (e : xB xa ρ = .ok t ρ') (q : Q t ρ') : gB G ρ Q := by
  obtain ⟨r1, ρ1, e1, e⟩ := Re.bind_inv e
  obtain ⟨t, rfl, e⟩ := blX_inv e
  cases e
  exact hG ρ _ _ _ e1 q
theorem im_id (ρ : Rho) (Q : KE) (r : R) (ρ' : Rho) (e : xa ρ = .ok r ρ') (q : Q r ρ') : toG xa ρ Q := ⟨r, ρ', e, q⟩
theorem tx_val (h : EX X e xa) (he : ∀ whole, isTrue e X.env whole = (do let v ← whole; standAt e.pos; holding [v] (truthy v)) := by intro _; rfl) : TX X e (xB xa) := txI (dt_val h he) (im_B im_id)
variable {ta tb : XT}
def xAnd (a b : XT) : XT := fun ρ => (a ρ).bind fun t ρ' => iteX t (b ρ') (.ok false ρ')
def xOr (a b : XT) : XT := fun ρ => (a ρ).bind fun t ρ' => iteX t (.ok true ρ') (b ρ')
def xNt (a : XT) : XT := fun ρ => (a ρ).bind fun t ρ' => .ok (!t) ρ'
theorem tx_w {T : XT} (h : WX X e T) : TX X e T := dt_w h
theorem wx_and1 (ha : TX X a ta) : WX X (.BoolOp .And [a] pos) ta := dw_and1 ha
theorem wx_or1 (ha : TX X a ta) : WX X (.BoolOp .Or [a] pos) ta := dw_or1 ha
theorem wx_and (ha : TX X a ta) (hb : WX X (.BoolOp .And (b :: rest) pos) tb) : WX X (.BoolOp .And (a :: b :: rest) pos) (xAnd ta tb) := wxI (dw_and ha hb) fun ρ Q r ρ' e q => by
  obtain ⟨t, ρ1, e1, e⟩ := Re.bind_inv e
  refine ⟨t, ρ1, e1, ?_⟩
  cases t
  · cases e; simpa using q
  · simpa using ⟨_, _, e, q⟩
theorem wx_or (ha : TX X a ta) (hb : WX X (.BoolOp .Or (b :: rest) pos) tb) : WX X (.BoolOp .Or (a :: b :: rest) pos) (xOr ta tb) := wxI (dw_or ha hb) fun ρ Q r ρ' e q => by
  obtain ⟨t, ρ1, e1, e⟩ := Re.bind_inv e
  refine ⟨t, ρ1, e1, ?_⟩
  cases t
  · simpa using ⟨_, _, e, q⟩
  · cases e; simpa using q
theorem tx_not (ha : TX X a ta) : TX X (.UnaryOp .Not a pos) (xNt ta) := txI (dt_not ha) fun ρ Q r ρ' e q => by
  obtain ⟨t, ρ1, e1, e⟩ := Re.bind_inv e
  cases e
  exact ⟨t, _, e1, q⟩
def xIfE (t : XT) (a b : XE) : XE := fun ρ => (t ρ).bind fun k ρ' => iteX k (a ρ') (b ρ')
theorem xe_ifE {t : Expr} (ht : TX X t ta) (ha : EX X a xa) (hb : EX X b xb) : EX X (.IfExp t a b pos) (xIfE ta xa xb) := exI (de_ifE ht ha hb) fun ρ Q r ρ' e q => by
  obtain ⟨t, ρ1, e1, e⟩ := Re.bind_inv e
  refine ⟨t, ρ1, e1, ?_⟩
  cases t
  · simpa using ⟨_, _, e, q⟩
  · simpa using ⟨_, _, e, q⟩
theorem tx_lt (ha : EX X a xa) (hb : EX X b xb) : TX X (.Compare a [.Lt] [b] pos) (xB (xBin vLt xa xb)) := txI (dt_lt ha hb) (im_B (im_bin lw_I))
theorem tx_gt (ha : EX X a xa) (hb : EX X b xb) : TX X (.Compare a [.Gt] [b] pos) (xB (xBin vGt xa xb)) := txI (dt_gt ha hb) (im_B (im_bin lw_I))
theorem tx_eq {k : Nat} (hr : Room k X.A) (ha : EX X a xa) (hb : EX X b xb) : TX X (.Compare a [.Eq] [b] pos) (xB (xBin (vEq false) xa xb)) := txI (dt_eq hr ha hb) (im_B (im_bin lw_eq))
theorem tx_ne {k : Nat} (hr : Room k X.A) (ha : EX X a xa) (hb : EX X b xb) : TX X (.Compare a [.NotEq] [b] pos) (xB (xBin (vEq true) xa xb)) := txI (dt_ne hr ha hb) (im_B (im_bin lw_eq))
theorem tx_inL {k : Nat} (hr : Room k X.A) (ha : EX X a xa) (hb : EX X b xb) (hm : behindInMarks .In b = false := by rfl) : TX X (.Compare a [.In] [b] pos) (xB (xBin (vIn false) xa xb)) := txI (dt_inL hr ha hb hm) (im_B (im_bin lw_in))
theorem tx_notInL {k : Nat} (hr : Room k X.A) (ha : EX X a xa) (hb : EX X b xb) (hm : behindInMarks .NotIn b = false := by rfl) : TX X (.Compare a [.NotIn] [b] pos) (xB (xBin (vIn true) xa xb)) := txI (dt_notInL hr ha hb hm) (im_B (im_bin lw_in))
theorem im_isN {neg : Bool} (ρ : Rho) (Q : KE) (r : R) (ρ' : Rho) (e : xUn (vIsN neg) xa ρ = .ok r ρ') (q : Q r ρ') : gIsN neg (toG xa) ρ Q := by
  obtain ⟨r1, d, e1, hd, e⟩ := xUn_inv e
  cases e
  exact ⟨r1, ρ', e1, withD_mk hd q⟩
theorem tx_notN {k : Nat} {p' : Pos} (ha : EX X a xa) : TX X (.Compare a [.IsNot] [.Constant .none k p'] pos) (xB (xUn (vIsN true) xa)) := txI (dt_notN ha) (im_B im_isN)
def xNil : XA := fun ρ => .ok [] ρ
def xCons (a : XE) (t : XA) : XA := fun ρ => (a ρ).bind fun r ρ1 => withX r fun d => (t ρ1).bind fun ds ρ2 => .ok (d :: ds) ρ2
theorem ax_nil : AX X [] xNil := axI da_nil fun ρ Q r ρ' e q => by cases e; exact q
theorem ax_cons {t : XA} (ha : EX X e xa) (ht : AX X es t) (hs : starEach (e :: es) X.env = (false, eval e X.env) :: starEach es X.env := by rfl) : AX X (e :: es) (xCons xa t) := axI (da_cons ha ht hs) fun ρ Q r ρ' e q => by
  obtain ⟨r1, ρ1, e1, e⟩ := Re.bind_inv e
  obtain ⟨d, hd, e⟩ := withX_inv e
  obtain ⟨ds, ρ2, e2, e⟩ := Re.bind_inv e
  cases e
  exact ⟨r1, ρ1, e1, withD_mk hd ⟨ds, _, e2, q⟩⟩
def xLst (t : XA) : XE := fun ρ => (t ρ).bind fun ds ρ' => gr (ds.length ≤ 1000) (.ok (.own (.lst ds)) ρ')
def xTup (t : XA) : XE := fun ρ => (t ρ).bind fun ds ρ' => gr (ds.length ≤ 1000) (.ok (.sh (.tuple ds)) ρ')
theorem xe_lst {t : XA} (h : AX X es t) : EX X (.List es pos) (xLst t) := exI (de_lst h) fun ρ Q r ρ' e q => by
  obtain ⟨ds, ρ1, e1, e⟩ := Re.bind_inv e
  obtain ⟨c, e⟩ := gr_inv e
  cases e
  exact ⟨_, _, e1, c, q⟩
theorem xe_tup {t : XA} {k : Nat} (h : AX X es t) : EX X (.Tuple es k pos) (xTup t) := exI (de_tup h) fun ρ Q r ρ' e q => by
  obtain ⟨ds, ρ1, e1, e⟩ := Re.bind_inv e
  obtain ⟨c, e⟩ := gr_inv e
  cases e
  exact ⟨_, _, e1, c, q⟩
end
end DX
set_option Elab.async false
set_option linter.all false
set_option maxRecDepth 100000
namespace DX
open PySem L2 DL
abbrev VC := List PyData → Option R
def Lc (v : VC) (W : WC) : Prop := ∀ ds z Q, v ds = some z → Q z → W ds Q
def xBlt (v : VC) (t : XA) : XE := fun ρ => (t ρ).bind fun ds ρ' => ofO (v ds) ρ'
theorem im_blt {v : VC} {W : WC} {t : XA} (h : Lc v W) (ρ : Rho) (Q : KE) (r : R) (ρ' : Rho) (e : xBlt v t ρ = .ok r ρ') (q : Q r ρ') : gBlt W (toG t) ρ Q := by
  obtain ⟨ds, ρ1, e1, e2⟩ := Re.bind_inv e
  obtain ⟨e3, e4⟩ := ofO_inv e2
  subst e4
  exact ⟨ds, _, e1, h _ _ _ e3 q⟩
def vLen : VC
  | [.list ds] => some (.sh (.int ds.length))
  | [.tuple ds] => some (.sh (.int ds.length))
  | _ => none
def vI2 (g : Int → Int → Int) : VC
  | [.int i, .int j] => some (.sh (.int (g i j)))
  | _ => none
@[simp ↓] theorem vI2_int (g : Int → Int → Int) (i j : Int) : vI2 g [.int i, .int j] = some (.sh (.int (g i j))) := Eq.trans rfl rfl
theorem lc_I2 {g : Int → Int → Int} : Lc (vI2 g) (wI2 g) := fun ds z Q h q => by
  unfold vI2 at h
  split at h
  · cases h; exact q
  · cases h
abbrev vMin2 : VC := vI2 fun i j => if j < i then j else i
abbrev vMax2 : VC := vI2 fun i j => if j > i then j else i
def vAbs : VC
  | [.int i] => some (.sh (.int (if i < 0 then -i else i)))
  | _ => none
@[simp ↓] theorem vAbs_int (i : Int) : vAbs [.int i] = some (.sh (.int (if i < 0 then -i else i))) := Eq.trans rfl rfl
theorem lc_abs : Lc vAbs wAbs := fun ds z Q h q => by
  unfold vAbs at h
  split at h
  · cases h; exact q
  · cases h
def vInt : VC
  | [.int i] => some (.sh (.int i))
  | [.bool b] => some (.sh (.int (if b then 1 else 0)))
  | _ => none
@[simp ↓] theorem vInt_bool (b : Bool) : vInt [.bool b] = some (.sh (.int (if b then 1 else 0))) := Eq.trans rfl rfl
theorem lc_int : Lc vInt wInt := fun ds z Q h q => by
  unfold vInt at h
  split at h
  · cases h; exact q
  · cases h; exact q
  · cases h
def strX (d : PyData) : Option R := gd (d.showable = true ∧ d.hasDict = false ∧ d.depth < 190 ∧ d.shown.length ≤ 1000000) (some (.sh (.str d.shown)))
@[simp] theorem intsOf_map (bs : List Int) : intsOf (bs.map PyData.int) = some bs := by
  induction bs with
  | nil => rfl
  | cons b bs ih => rw [List.map_cons]; unfold intsOf; rw [ih]; rfl
@[simp] theorem intsOf_mapf {α : Type} (f : α → Int) (bs : List α) : intsOf (bs.map fun x => PyData.int (f x)) = some (bs.map f) := by
  rw [← intsOf_map, List.map_map]; rfl
def vSum : VC
  | [.list ds] => (intsOf ds).map fun ns => .sh (.int ns.sum)
  | _ => none
@[simp ↓] theorem vSum_list (ds : List PyData) : vSum [.list ds] = (intsOf ds).map fun ns => .sh (.int ns.sum) := Eq.trans rfl rfl
theorem lc_sum : Lc vSum wSum := fun ds z Q h q => by
  unfold vSum at h
  split at h
  · next ds =>
    cases e : intsOf ds with
    | none => rw [e] at h; cases h
    | some ns => rw [e] at h; cases h; exact ⟨ns, by rw [intsOf_eq e], q⟩
  · cases h
def minOf : List Int → Int
  | [] => 0
  | a :: l => l.foldl (fun x y => if y < x then y else x) a
def maxOf : List Int → Int
  | [] => 0
  | a :: l => l.foldl (fun x y => if x < y then y else x) a
theorem foldl_min : ∀ (l : List Int) (a m : Int), m ∈ a :: l → (∀ y ∈ a :: l, m ≤ y) → l.foldl (fun x y => if y < x then y else x) a = m
  | [], a, m, h, _ => (List.mem_singleton.mp h).symm
  | b :: l, a, m, h, k => by
    rw [List.foldl_cons]
    have ha := k a (by simp)
    have hb := k b (by simp)
    refine foldl_min l _ m ?_ fun y hy => ?_
    · rcases List.mem_cons.mp h with rfl | h
      · rw [if_neg (by omega)]; simp
      · rcases List.mem_cons.mp h with rfl | h
        · by_cases z : m < a
          · rw [if_pos z]; simp
          · rw [if_neg z, List.mem_cons]; left; omega
        · simp [h]
    · rcases List.mem_cons.mp hy with rfl | hy
      · split <;> assumption
      · exact k y (by simp [hy])
theorem foldl_max : ∀ (l : List Int) (a m : Int), m ∈ a :: l → (∀ y ∈ a :: l, y ≤ m) → l.foldl (fun x y => if x < y then y else x) a = m
  | [], a, m, h, _ => (List.mem_singleton.mp h).symm
  | b :: l, a, m, h, k => by
    rw [List.foldl_cons]
    have ha := k a (by simp)
    have hb := k b (by simp)
    refine foldl_max l _ m ?_ fun y hy => ?_
    · rcases List.mem_cons.mp h with rfl | h
      · rw [if_neg (by omega)]; simp
      · rcases List.mem_cons.mp h with rfl | h
        · by_cases z : a < m
          · rw [if_pos z]; simp
          · rw [if_neg z, List.mem_cons]; left; omega
        · simp [h]
    · rcases List.mem_cons.mp hy with rfl | hy
      · split <;> assumption
      · exact k y (by simp [hy])
theorem minOf_eq {l : List Int} {m : Int} (h : m ∈ l) (k : ∀ y ∈ l, m ≤ y) : minOf l = m := by
  cases l with
  | nil => cases h
  | cons a l => exact foldl_min l a m h k
theorem maxOf_eq {l : List Int} {m : Int} (h : m ∈ l) (k : ∀ y ∈ l, y ≤ m) : maxOf l = m := by
  cases l with
  | nil => cases h
  | cons a l => exact foldl_max l a m h k
def vMinL : VC
  | [.list ds] => (intsOf ds).bind fun ns => gd (0 < ns.length) (some (.sh (.int (minOf ns))))
  | _ => none
@[simp ↓] theorem vMinL_list (ds : List PyData) : vMinL [.list ds] = (intsOf ds).bind fun ns => gd (0 < ns.length) (some (.sh (.int (minOf ns)))) := Eq.trans rfl rfl
theorem lc_minL : Lc vMinL wMinL := fun ds z Q h q => by
  unfold vMinL at h
  split at h
  · next ds =>
    cases e : intsOf ds with
    | none => rw [e] at h; cases h
    | some ns =>
      rw [e] at h
      obtain ⟨c, h⟩ := gd_inv h
      cases h
      show (match intsOf ds with | some ns => 0 < ns.length ∧ ∀ m, m ∈ ns → (∀ y, y ∈ ns → m ≤ y) → Q (.sh (.int m)) | none => False)
      rw [e]
      exact ⟨c, fun m h1 h2 => by rw [← minOf_eq h1 h2]; exact q⟩
  · cases h
section
variable {X : Cx} {a b c e : Expr} {es rest : List Expr} {pos p : Pos} {t : XA}
theorem xe_min2 (hcm : X.calm = true) (hg : Gl X "min") (hm : X.mg "min" = none) (h : AX X [a, b] t) (he : starEach [a, b] X.env = (false, eval a X.env) :: starEach [b] X.env := by rfl) (hpl : (backTo pos (starEach [b] X.env)).any (·.1) = false := by rfl) : EX X (.Call (.Name "min" p) [a, b] [] pos) (xBlt vMin2 t) := exI (de_min2 hcm hg hm h he hpl) (im_blt lc_I2)
theorem xe_max2 (hcm : X.calm = true) (hg : Gl X "max") (hm : X.mg "max" = none) (h : AX X [a, b] t) (he : starEach [a, b] X.env = (false, eval a X.env) :: starEach [b] X.env := by rfl) (hpl : (backTo pos (starEach [b] X.env)).any (·.1) = false := by rfl) : EX X (.Call (.Name "max" p) [a, b] [] pos) (xBlt vMax2 t) := exI (de_max2 hcm hg hm h he hpl) (im_blt lc_I2)
theorem xe_minL (hcm : X.calm = true) (hg : Gl X "min") (hm : X.mg "min" = none) (h : AX X [a] t) (he : starEach [a] X.env = [(false, eval a X.env)] := by rfl) (hpl : (backTo pos (starEach [] X.env)).any (·.1) = false := by rfl) : EX X (.Call (.Name "min" p) [a] [] pos) (xBlt vMinL t) := exI (de_minL hcm hg hm h he hpl) (im_blt lc_minL)
theorem xe_abs (hg : Gl X "abs") (hm : X.mg "abs" = none) (h : AX X [a] t) (he : starEach [a] X.env = [(false, eval a X.env)] := by rfl) (hpl : (backTo pos (starEach [] X.env)).any (·.1) = false := by rfl) : EX X (.Call (.Name "abs" p) [a] [] pos) (xBlt vAbs t) := exI (de_abs hg hm h he hpl) (im_blt lc_abs)
theorem xe_intB (hg : Gl X "int") (hm : X.mg "int" = none) (h : AX X [a] t) (he : starEach [a] X.env = [(false, eval a X.env)] := by rfl) (hpl : (backTo pos (starEach [] X.env)).any (·.1) = false := by rfl) : EX X (.Call (.Name "int" p) [a] [] pos) (xBlt vInt t) := exI (de_intB hg hm h he hpl) (im_blt lc_int)
theorem xe_sum (hcm : X.calm = true) (hg : Gl X "sum") (hm : X.mg "sum" = none) (h : AX X [a] t) (he : starEach [a] X.env = [(false, eval a X.env)] := by rfl) (hpl : (backTo pos (starEach [] X.env)).any (·.1) = false := by rfl) : EX X (.Call (.Name "sum" p) [a] [] pos) (xBlt vSum t) := exI (de_sum hcm hg hm h he hpl) (im_blt lc_sum)
end
section
variable {α β : Type}
def ownX (s : Option (Option R)) (k : OO → (OO → R) → Re α β) : Re α β := match s with
  | some (some (.own o)) => k o .own
  | some (some (.io o)) => k o .io
  | _ => .bad
@[simp ↓] theorem ownX_own (o : OO) (k : OO → (OO → R) → Re α β) : ownX (some (some (.own o))) k = k o .own := Eq.trans rfl rfl
@[simp ↓] theorem ownX_io (o : OO) (k : OO → (OO → R) → Re α β) : ownX (some (some (.io o))) k = k o .io := Eq.trans rfl rfl
theorem ownX_inv {ρ : Rho} {i : Nat} {k : OO → (OO → R) → Re α β} {a : α} {b : β} (h : ownX ρ[i]? k = .ok a b) : ∃ o w, k o w = .ok a b ∧ ∀ K : OO → (OO → R) → Prop, K o w → ownAt ρ i K := by
  unfold ownX at h
  split at h
  · next o e => exact ⟨o, _, h, fun K q => by unfold ownAt; rw [e]; exact q⟩
  · next o e => exact ⟨o, _, h, fun K q => by unfold ownAt; rw [e]; exact q⟩
  · cases h
def lstX (o : OO) (k : List PyData → Re α β) : Re α β := match o with | .lst ds => k ds | _ => .bad
@[simp ↓] theorem lstX_lst (ds : List PyData) (k : List PyData → Re α β) : lstX (.lst ds) k = k ds := Eq.trans rfl rfl
theorem lstX_inv {o : OO} {k : List PyData → Re α β} {a : α} {b : β} (h : lstX o k = .ok a b) : ∃ ds, o = .lst ds ∧ k ds = .ok a b := by
  unfold lstX at h
  split at h
  · exact ⟨_, rfl, h⟩
  · cases h
def dicX (o : OO) (k : List (Key × PyData) → Re α β) : Re α β := match o with | .dic ds => k ds | _ => .bad
@[simp ↓] theorem dicX_dic (ds : List (Key × PyData)) (k : List (Key × PyData) → Re α β) : dicX (.dic ds) k = k ds := Eq.trans rfl rfl
theorem dicX_inv {o : OO} {k : List (Key × PyData) → Re α β} {a : α} {b : β} (h : dicX o k = .ok a b) : ∃ ds, o = .dic ds ∧ k ds = .ok a b := by
  unfold dicX at h
  split at h
  · exact ⟨_, rfl, h⟩
  · cases h
def seqX (s : Option (Option R)) (k : List PyData → Re α β) : Re α β := match s with
  | some (some (.own (.lst ds))) => k ds
  | some (some (.io (.lst ds))) => k ds
  | some (some (.sh (.list ds))) => k ds
  | some (some (.sh (.tuple ds))) => k ds
  | _ => .bad
@[simp ↓] theorem seqX_own (ds : List PyData) (k : List PyData → Re α β) : seqX (some (some (.own (.lst ds)))) k = k ds := Eq.trans rfl rfl
@[simp ↓] theorem seqX_io (ds : List PyData) (k : List PyData → Re α β) : seqX (some (some (.io (.lst ds)))) k = k ds := Eq.trans rfl rfl
@[simp ↓] theorem seqX_list (ds : List PyData) (k : List PyData → Re α β) : seqX (some (some (.sh (.list ds)))) k = k ds := Eq.trans rfl rfl
@[simp ↓] theorem seqX_tuple (ds : List PyData) (k : List PyData → Re α β) : seqX (some (some (.sh (.tuple ds)))) k = k ds := Eq.trans rfl rfl
theorem seqX_inv {ρ : Rho} {i : Nat} {k : List PyData → Re α β} {a : α} {b : β} (h : seqX ρ[i]? k = .ok a b) : ∃ ds, k ds = .ok a b ∧ ∀ K : List PyData → Prop, K ds → seqAt ρ i K := by
  unfold seqX at h
  split at h
  all_goals first | (next o e => exact ⟨o, h, fun K q => by unfold seqAt; rw [e]; exact q⟩) | cases h
def intX (d : PyData) (k : Int → Re α β) : Re α β := match d with | .int i => k i | _ => .bad
@[simp ↓] theorem intX_int (i : Int) (k : Int → Re α β) : intX (.int i) k = k i := Eq.trans rfl rfl
theorem intX_inv {d : PyData} {k : Int → Re α β} {a : α} {b : β} (h : intX d k = .ok a b) : ∃ i, d = .int i ∧ k i = .ok a b := by
  unfold intX at h
  split at h
  · exact ⟨_, rfl, h⟩
  · cases h
end
def xIxU (i : Nat) (b : XE) : XE := fun ρ => seqX ρ[i]? fun _ => (b ρ).bind fun r ρ1 => withX r fun d => seqX ρ1[i]? fun ds => intX d fun k => ofO (ixX ds k) ρ1
def xLenU (i : Nat) : XE := fun ρ => seqX ρ[i]? fun ds => .ok (.sh (.int ds.length)) ρ
section
variable {X : Cx} {a b c e : Expr} {es rest : List Expr} {pos p py : Pos} {t : XA} {y : Str} {i : Nat} {xa xb : XE}
theorem xe_ixU (hy : PE X (.Name y py) (tVar i)) (hb : EX X b xb) (hs : PlainIx b := by exact fun _ _ => rfl) : EX X (.Subscript (.Name y py) b pos) (xIxU i xb) := exI (de_ixU hy hb hs) fun ρ Q r ρ' e q => by
  obtain ⟨ds, f1, k1⟩ := seqX_inv e
  obtain ⟨r1, ρ1, e1, f2⟩ := Re.bind_inv f1
  obtain ⟨d, hd, f3⟩ := withX_inv f2
  obtain ⟨ds2, f4, k2⟩ := seqX_inv f3
  obtain ⟨k, hk, f5⟩ := intX_inv f4
  subst hk
  obtain ⟨f6, f7⟩ := ofO_inv f5
  subst f7
  obtain ⟨z, f8, f9⟩ := ixX_inv f6
  subst f9
  exact k1 _ ⟨r1, _, e1, withD_mk hd (k2 _ (by simp only [f8]; exact q))⟩
theorem xe_lenU (hg : Gl X "len") (hm : X.mg "len" = none) (hy : PE X (.Name y py) (tVar i)) (hs : starEach [.Name y py] X.env = [(false, eval (.Name y py) X.env)] := by rfl) (hpl : (backTo pos (starEach [] X.env)).any (·.1) = false := by rfl) :
    EX X (.Call (.Name "len" p) [.Name y py] [] pos) (xLenU i) := exI (de_lenU hg hm hy hs hpl) fun ρ Q r ρ' e q => by
  obtain ⟨ds, f1, k1⟩ := seqX_inv e
  cases f1
  exact k1 _ q
abbrev VM := List PyData → List PyData → Option (R × List PyData)
def Lm (v : VM) (W : Cp) : Prop := ∀ xs ds z ys Q, v xs ds = some (z, ys) → Q z (.lst ys) → W (.lst xs) ds Q
def xMeth (v : VM) (i : Nat) (t : XA) : XE := fun ρ => ownX ρ[i]? fun o _ => lstX o fun _ => (t ρ).bind fun ds ρ1 => ownX ρ1[i]? fun o w => lstX o fun xs => (ofO (v xs ds) ρ1).bind fun z ρ1 => .ok z.1 (ρ1.set i (some (w (.lst z.2))))
theorem im_meth {v : VM} {W : Cp} {i : Nat} {t : XA} (h : Lm v W) (ρ : Rho) (Q : KE) (r : R) (ρ' : Rho) (e : xMeth v i t ρ = .ok r ρ') (q : Q r ρ') : gMeth W i (toG t) ρ Q := by
  obtain ⟨o, w, f1, k1⟩ := ownX_inv e
  obtain ⟨ds, ho, f2⟩ := lstX_inv f1
  subst ho
  obtain ⟨vs, ρ1, e1, f3⟩ := Re.bind_inv f2
  obtain ⟨o2, w2, f4, k2⟩ := ownX_inv f3
  obtain ⟨xs, ho, f5⟩ := lstX_inv f4
  subst ho
  obtain ⟨z, ρ2, f6, f7⟩ := Re.bind_inv f5
  obtain ⟨f8, f9⟩ := ofO_inv f6
  subst f9
  cases f7
  exact k1 _ ⟨trivial, vs, _, e1, k2 _ ⟨trivial, h _ _ _ _ _ f8 q⟩⟩
def vAppend : VM := fun xs ds => match ds with | [d] => gd (xs.length < 1000000) (some (.sh .none, xs ++ [d])) | _ => none
@[simp ↓] theorem vAppend_one (xs : List PyData) (d : PyData) : vAppend xs [d] = gd (xs.length < 1000000) (some (.sh .none, xs ++ [d])) := Eq.trans rfl rfl
theorem lm_append : Lm vAppend wAppend := fun xs ds z ys Q h q => by
  unfold vAppend at h
  split at h
  · obtain ⟨c, h⟩ := gd_inv h; cases h; exact ⟨c, q⟩
  · cases h
variable {apos cpos : Pos}
theorem xe_append (hy : PE X (.Name y py) (tVar i)) (ha : AX X [a] t) (hbase : attributeBase (.Name y py) "append" X.env (eval (.Name y py) X.env) = eval (.Name y py) X.env := by rfl)
    (hfew : ((backTo cpos (starEach [a] X.env)).all (fun x => !x.1) && (backToKw cpos (keywordEach [] X.env)).all (fun x => x.1.isSome) && decide ([a].length + ([] : List Keyword).length + (if ([] : List Keyword).isEmpty then 0 else 1) < 30)) = true := by rfl)
    (hline : (apos.endLine == cpos.line) = true := by rfl) (hs : starEach [a] X.env = [(false, eval a X.env)] := by rfl) (hplain : (backTo cpos (starEach [] X.env)).any (·.1) = false := by rfl) : EX X (.Call (.Attribute (.Name y py) "append" apos) [a] [] cpos) (xMeth vAppend i t) :=
  exI (de_append hy ha hbase hfew hline hs hplain) (im_meth lm_append)
def xoN : XX (Option Int) := fun ρ => .ok none ρ
def xoS (a : XE) : XX (Option Int) := fun ρ => (a ρ).bind fun r ρ' => shX r fun d => intX d fun i => .ok (some i) ρ'
theorem oxI {e : Option Expr} {G : GO} {x : XX (Option Int)} (h : DO X e G) (i : ∀ ρ Q r ρ', x ρ = .ok r ρ' → Q r ρ' → G ρ Q) : OX X e x := ⟨toG_mono x, poI h.po fun σ H Q ⟨c, F, ρ, j, a, ρ', e, q⟩ => ⟨c, F, ρ, j, i _ _ _ _ e q⟩⟩
theorem ox_none : OX X none xoN := oxI do_none fun ρ Q r ρ' e q => by cases e; exact q
theorem ox_some (h : EX X a xa) : OX X (some a) (xoS xa) := oxI (do_some h) fun ρ Q r ρ' e q => by
  obtain ⟨r1, ρ1, e1, f1⟩ := Re.bind_inv e
  obtain ⟨d, hd, f2⟩ := shX_inv f1
  subst hd
  obtain ⟨k, hk, f3⟩ := intX_inv f2
  subst hk
  cases f3
  exact ⟨_, _, e1, q⟩
def cutX (d : PyData) (lo hi : Option Int) : Option R := match d with
  | .list ds => some (.own (.lst (cutD ds lo hi)))
  | .tuple ds => some (.sh (.tuple (cutD ds lo hi)))
  | _ => none
@[simp ↓] theorem cutX_list (ds : List PyData) (lo hi : Option Int) : cutX (.list ds) lo hi = some (.own (.lst (cutD ds lo hi))) := Eq.trans rfl rfl
@[simp ↓] theorem cutX_tuple (ds : List PyData) (lo hi : Option Int) : cutX (.tuple ds) lo hi = some (.sh (.tuple (cutD ds lo hi))) := Eq.trans rfl rfl
def xSl (a : XE) (l u : XX (Option Int)) : XE := fun ρ => (a ρ).bind fun r ρ1 => withX r fun d => (l ρ1).bind fun lo ρ2 => (u ρ2).bind fun hi ρ3 => ofO (cutX d lo hi) ρ3
theorem xe_slL {lo hi : Option Expr} {l u : XX (Option Int)} {p2 : Pos} (ha : EX X a xa) (hl : OX X lo l) (hu : OX X hi u) : EX X (.Subscript a (.Slice lo hi none p2) pos) (xSl xa l u) := exI (de_slA ha hl hu) fun ρ Q r ρ' e q => by
  obtain ⟨r1, ρ1, e1, f1⟩ := Re.bind_inv e
  obtain ⟨d, hd, f2⟩ := withX_inv f1
  obtain ⟨lo, ρ2, e2, f3⟩ := Re.bind_inv f2
  obtain ⟨hi, ρ3, e3, f4⟩ := Re.bind_inv f3
  obtain ⟨f5, f6⟩ := ofO_inv f4
  subst f6
  refine ⟨_, _, e1, withD_mk hd ⟨_, _, e2, _, _, e3, ?_⟩⟩
  cases d with
  | list ds => cases f5; exact q
  | tuple ds => cases f5; exact q
  | _ => cases f5
abbrev Fn := List PyData → Re R Unit
abbrev Fp := OO → List PyData → Re R OO
def Re.at {α β : Type} (x : Re α Unit) (b : β) : Re α β := match x with | .ok a _ => .ok a b | .ex e _ => .ex e b | .bad => .bad
@[simp ↓] theorem Re.at_ok {α β : Type} (a : α) (u : Unit) (b : β) : (Re.ok a u).at b = .ok a b := Eq.trans rfl rfl
theorem Re.at_inv {α β : Type} {x : Re α Unit} {a : α} {b b' : β} (h : x.at b = .ok a b') : x = .ok a () ∧ b' = b := by
  cases x with
  | ok a u => cases h; exact ⟨rfl, rfl⟩
  | ex e u => cases h
  | bad => cases h
def cD (f : Fn) : Ct := fun ds Q => ∃ r, f ds = .ok r () ∧ Q r
theorem cD_mono {f : Fn} : MonoC (cD f) := fun _ _ _ h ⟨r, e, q⟩ => ⟨r, e, h _ q⟩
def cP (f : Fp) : Cp := fun o ds Q => ∃ r o', f o ds = .ok r o' ∧ Q r o'
theorem cP_mono {f : Fp} : MonoP (cP f) := fun _ _ _ _ h ⟨r, o, e, q⟩ => ⟨r, o, e, h _ _ q⟩
def xCall (f : Fn) (t : XA) : XE := fun ρ => (t ρ).bind fun ds ρ' => (f ds).at ρ'
def Re.put (x : Re R OO) (ρ : Rho) (i : Nat) (w : OO → R) : Re R Rho := match x with | .ok r o => .ok r (ρ.set i (some (w o))) | .ex e o => .ex e (ρ.set i (some (w o))) | .bad => .bad
@[simp ↓] theorem Re.put_ok (r : R) (o : OO) (ρ : Rho) (i : Nat) (w : OO → R) : (Re.ok r o).put ρ i w = .ok r (ρ.set i (some (w o))) := Eq.trans rfl rfl
theorem Re.put_inv {x : Re R OO} {ρ ρ' : Rho} {i : Nat} {w : OO → R} {r : R} (h : x.put ρ i w = .ok r ρ') : ∃ o, x = .ok r o ∧ ρ' = ρ.set i (some (w o)) := by
  cases x with
  | ok a u => cases h; exact ⟨_, rfl, rfl⟩
  | ex e u => cases h
  | bad => cases h
def xCallO (f : Fp) (i : Nat) (t : XA) : XE := fun ρ => ownX ρ[i]? fun _ _ => (t ρ).bind fun ds ρ1 => ownX ρ1[i]? fun o w => (f o ds).put ρ1 i w
def Re.drop {α β γ : Type} (x : Re α β) (b : γ) : Re α γ := match x with | .ok a _ => .ok a b | .ex e _ => .ex e b | .bad => .bad
def owX {α β : Type} (r : R) (k : OO → Re α β) : Re α β := match r with | .own o => k o | _ => .bad
@[simp ↓] theorem owX_own {α β : Type} (o : OO) (k : OO → Re α β) : owX (.own o) k = k o := Eq.trans rfl rfl
theorem owX_inv {α β : Type} {r : R} {k : OO → Re α β} {a : α} {b : β} (h : owX r k = .ok a b) : ∃ o, r = .own o ∧ k o = .ok a b := by
  unfold owX at h
  split at h
  · exact ⟨_, rfl, h⟩
  · cases h
variable {x : Str} {ps : List Str} {k k' : Nat}
theorem xe_callC {bq : Bool} {f : Fn} (cal : CalB bq X.prog X.w X.K X.mg X.base k x ps (spD X.K (cD f))) (hr : Room k' X.A) (hk : k ≤ k') (hg : Gl X x) (ha : AX X (e :: es) t) (hdb : (x == ("__debug__" : Str)) = false := by decide) (he : starEach (e :: es) X.env = (false, eval e X.env) :: starEach es X.env := by rfl) (hpl : (backTo pos (starEach es X.env)).any (·.1) = false := by rfl) (hqt : Qt bq X := by first | exact qt_any rfl | exact qt_hush rfl) : EX X (.Call (.Name x p) (e :: es) [] pos) (xCall f t) :=
  exI (de_callC cD_mono hqt cal hr hk hg ha hdb he hpl) fun ρ Q r ρ' e q => by
  obtain ⟨ds, ρ1, e1, f1⟩ := Re.bind_inv e
  obtain ⟨f2, f3⟩ := Re.at_inv f1
  subst f3
  exact ⟨ds, _, e1, r, f2, q⟩
theorem xe_callCO {bq : Bool} {f : Fp} (cal : CalB bq X.prog X.w X.K X.mg X.base k x ps (spP X.K (cP f))) (hr : Room k' X.A) (hk : k ≤ k') (hg : Gl X x) (hy : PE X (.Name y py) (tVar i)) (ha : AX X es t) (hs : starEach (.Name y py :: es) X.env = (false, eval (.Name y py) X.env) :: starEach es X.env := by rfl)
    (hdb : (x == ("__debug__" : Str)) = false := by decide) (hpl : (backTo pos (starEach es X.env)).any (·.1) = false := by rfl) (hqt : Qt bq X := by first | exact qt_any rfl | exact qt_hush rfl) : EX X (.Call (.Name x p) (.Name y py :: es) [] pos) (xCallO f i t) :=
  exI (de_callCO cP_mono hqt cal hr hk hg hy ha hs hdb hpl) fun ρ Q r ρ' e q => by
  obtain ⟨o, w, f1, k1⟩ := ownX_inv e
  obtain ⟨ds, ρ1, e1, f2⟩ := Re.bind_inv f1
  obtain ⟨o2, w2, f3, k2⟩ := ownX_inv f2
  obtain ⟨o3, f4, f5⟩ := Re.put_inv f3
  subst f5
  exact k1 _ ⟨ds, ρ1, e1, k2 _ ⟨r, o3, f4, q⟩⟩
def xDict0 : XE := fun ρ => .ok (.own (.dic [])) ρ
theorem xe_dict0 : EX X (.Dict [] [] pos) xDict0 := exI de_dict0 fun ρ Q r ρ' e q => by cases e; exact q
def keyX {α β : Type} (d : PyData) (k : Key → Re α β) : Re α β := match keyD d with | some z => k z | none => .bad
@[simp ↓] theorem keyX_int {α β : Type} (i : Int) (k : Key → Re α β) : keyX (.int i) k = k (.inl i) := Eq.trans rfl rfl
theorem keyX_inv {α β : Type} {d : PyData} {k : Key → Re α β} {a : α} {b : β} (h : keyX d k = .ok a b) : ∃ z, keyD d = some z ∧ k z = .ok a b := by
  unfold keyX at h
  split at h
  · exact ⟨_, by assumption, h⟩
  · cases h
def xInD (neg : Bool) (i : Nat) (a : XE) : XE := fun ρ => (a ρ).bind fun r ρ1 => withX r fun d => ownX ρ1[i]? fun o _ => dicX o fun kvs => keyX d fun k => .ok (.sh (.bool (if neg then !hasK kvs k else hasK kvs k))) ρ1
theorem im_inD {neg : Bool} (ρ : Rho) (Q : KE) (r : R) (ρ' : Rho) (e : xInD neg i xa ρ = .ok r ρ') (q : Q r ρ') : gInD neg i (toG xa) ρ Q := by
  obtain ⟨r1, ρ1, e1, f1⟩ := Re.bind_inv e
  obtain ⟨d, hd, f2⟩ := withX_inv f1
  obtain ⟨o, w, f3, k1⟩ := ownX_inv f2
  obtain ⟨kvs, ho, f4⟩ := dicX_inv f3
  subst ho
  obtain ⟨z, hz, f5⟩ := keyX_inv f4
  cases f5
  exact ⟨r1, _, e1, withD_mk hd (k1 _ (by simp only [hz]; exact q))⟩
theorem tx_inD (hu : X.A.units + 1 < cLine) (ha : EX X a xa) (hy : PE X (.Name y py) (tVar i)) (h1 : behindInMarks .In (.Name y py) = false := by rfl) : TX X (.Compare a [.In] [.Name y py] pos) (xB (xInD false i xa)) := txI (dt_inD hu ha hy h1) (im_B im_inD)
end
end DX
set_option Elab.async false
set_option linter.all false
set_option maxRecDepth 100000
namespace DX
open PySem L2 DL
inductive Ou where
  | nx (ρ : Rho) | rt (r : R) (ρ : Rho) | bk (ρ : Rho) | ct (ρ : Rho) | ex (x : Xn) (ρ : Rho) | bad
abbrev XS := Rho → Ou
def toS (x : XS) : GS := fun ρ E => match x ρ with
  | .nx ρ' => E.nx ρ'
  | .rt r ρ' => E.rt r ρ'
  | .bk ρ' => E.bk ρ'
  | .ct ρ' => E.ct ρ'
  | .ex _ _ => False
  | .bad => False
theorem toS_mono (x : XS) : MonoS (toS x) := fun ρ E E' le q => by
  unfold toS at *
  split <;> simp_all
  · exact le.nx _ q
  · exact le.rt _ _ q
  · exact le.bk _ q
  · exact le.ct _ q
def Re.to {α : Type} (x : Re α Rho) (k : α → Rho → Ou) : Ou := match x with | .ok a ρ => k a ρ | .ex e ρ => .ex e ρ | .bad => .bad
@[simp ↓] theorem Re.to_ok {α : Type} (a : α) (ρ : Rho) (k : α → Rho → Ou) : (Re.ok a ρ).to k = k a ρ := Eq.trans rfl rfl
theorem to_toS {α : Type} {x : XX α} {k : α → XS} {ρ : Rho} {E : Ek} (h : toS (fun ρ => (x ρ).to fun a => k a) ρ E) : toG x ρ fun a ρ' => toS (k a) ρ' E := by
  unfold toS at h
  cases e : x ρ with
  | ok a ρ' => simp only [e, Re.to] at h; exact ⟨a, ρ', e, h⟩
  | ex z ρ' => simp only [e, Re.to] at h
  | bad => simp only [e, Re.to] at h
def Ou.seq (o : Ou) (k : XS) : Ou := match o with | .nx ρ => k ρ | o => o
@[simp ↓] theorem Ou.seq_nx (ρ : Rho) (k : XS) : (Ou.nx ρ).seq k = k ρ := Eq.trans rfl rfl
@[simp ↓] theorem Ou.seq_rt (r : R) (ρ : Rho) (k : XS) : (Ou.rt r ρ).seq k = .rt r ρ := Eq.trans rfl rfl
def Ou.loop (o : Ou) (k : XS) : Ou := match o with | .nx ρ => k ρ | .ct ρ => k ρ | .bk ρ => .nx ρ | o => o
@[simp ↓] theorem Ou.loop_nx (ρ : Rho) (k : XS) : (Ou.nx ρ).loop k = k ρ := Eq.trans rfl rfl
@[simp ↓] theorem Ou.loop_rt (r : R) (ρ : Rho) (k : XS) : (Ou.rt r ρ).loop k = .rt r ρ := Eq.trans rfl rfl
abbrev SX (X : Cx) (st : Stmt) (x : XS) : Prop := DS X st (toS x)
abbrev SXs (X : Cx) (st : List Stmt) (x : XS) : Prop := DSs X st (toS x)
abbrev XG := R → Rho → Option Rho
abbrev XGs := List PyData → Rho → Option Rho
def toGG {α : Type} (x : α → Rho → Option Rho) : α → Rho → (Rho → Prop) → Prop := fun r ρ Q => ∃ ρ', x r ρ = some ρ' ∧ Q ρ'
theorem toGG_mono {α : Type} (x : α → Rho → Option Rho) : ∀ r ρ (Q Q' : Rho → Prop), (∀ ρ', Q ρ' → Q' ρ') → toGG x r ρ Q → toGG x r ρ Q' := fun _ _ _ _ h ⟨ρ', e, q⟩ => ⟨ρ', e, h _ q⟩
abbrev GX (X : Cx) (tg : Expr) (sl : List Nat) (x : XG) : Prop := DG X tg sl (toGG x)
abbrev GXs (X : Cx) (tg : List Expr) (sl : List Nat) (x : XGs) : Prop := DGs X tg sl (toGG x)
def opX (x : Option Rho) (k : XS) : Ou := match x with | some ρ => k ρ | none => .bad
@[simp ↓] theorem opX_some (ρ : Rho) (k : XS) : opX (some ρ) k = k ρ := Eq.trans rfl rfl
def freeX (s : Option (Option R)) (x : Option Rho) : Option Rho := match s with
  | some (some (.io _)) => none
  | some _ => x
  | none => none
@[simp ↓] theorem freeX_none (x : Option Rho) : freeX (some none) x = x := Eq.trans rfl rfl
@[simp ↓] theorem freeX_sh (d : PyData) (x : Option Rho) : freeX (some (some (.sh d))) x = x := Eq.trans rfl rfl
theorem freeX_inv {ρ ρ' : Rho} {i : Nat} {x : Option Rho} (h : freeX ρ[i]? x = some ρ') : freeSlot ρ i ∧ x = some ρ' := by
  have go : ∀ s, ρ[i]? = s → freeX s x = some ρ' → freeSlot ρ i ∧ x = some ρ' := by
    intro s hs h
    unfold freeSlot
    rw [hs]
    match s, h with
    | some (some (.io o)), h => cases h
    | some (some (.sh d)), h => exact ⟨trivial, h⟩
    | some (some (.own o)), h => exact ⟨trivial, h⟩
    | some (some (.new o)), h => exact ⟨trivial, h⟩
    | some none, h => exact ⟨trivial, h⟩
    | none, h => cases h
  exact go _ rfl h
def xN (i : Nat) : XG := fun r ρ => freeX ρ[i]? (some (ρ.set i (some r)))
theorem im_N {i : Nat} (r : R) (ρ : Rho) (Q : Rho → Prop) (h : toGG (xN i) r ρ Q) : gN i r ρ Q := by
  obtain ⟨ρ', e, q⟩ := h
  obtain ⟨f, e⟩ := freeX_inv e
  cases e
  exact ⟨f, q⟩
section
variable {X : Cx} {a b c e tg : Expr} {es rest : List Expr} {pos p py : Pos} {t : XA} {y : Str} {i : Nat} {xa xb : XE} {st : Stmt} {sts : List Stmt} {x x' : XS}
theorem dsI {G : GS} (h : DS X st G) (i : ∀ ρ E, toS x ρ E → G ρ E) : SX X st x := ⟨toS_mono x, psI h.ps fun D σ H ⟨c, F, ρ, j, q⟩ => ⟨c, F, ρ, j, i _ _ q⟩⟩
theorem dssI {G : GS} (h : DSs X sts G) (i : ∀ ρ E, toS x ρ E → G ρ E) : SXs X sts x := ⟨toS_mono x, pssI h.ps fun D σ H ⟨c, F, ρ, j, q⟩ => ⟨c, F, ρ, j, i _ _ q⟩⟩
theorem dgI {G : GG} {sl : List Nat} {x : XG} (h : DG X tg sl G) (i : ∀ r ρ Q, toGG x r ρ Q → G r ρ Q) : GX X tg sl x := ⟨toGG_mono x, by
  obtain ⟨g, p, k⟩ := h.ex
  exact ⟨g, p, fun c F H σ ρ v r Q Qv j vr q kk => k c F H σ ρ v r Q Qv j vr (i _ _ _ q) kk⟩⟩
theorem dgsI {G : GGs} {sl : List Nat} {x : XGs} (h : DGs X es sl G) (i : ∀ r ρ Q, toGG x r ρ Q → G r ρ Q) : GXs X es sl x := ⟨toGG_mono x, by
  obtain ⟨g, p, k⟩ := h.ex
  exact ⟨g, p, fun c F H σ ρ v r Q Qv j vr q kk => k c F H σ ρ v r Q Qv j vr (i _ _ _ q) kk⟩⟩
def xNext : XS := fun ρ => .nx ρ
def xSeq (x y : XS) : XS := fun ρ => (x ρ).seq y
theorem seq_toS {ρ : Rho} {E : Ek} (h : toS (xSeq x x') ρ E) : toS x ρ { E with nx := fun ρ' => toS x' ρ' E } := by
  unfold toS xSeq at h
  unfold toS
  cases e : x ρ with
  | nx ρ' => simp only [e, Ou.seq] at h ⊢; exact h
  | rt r ρ' => simp only [e, Ou.seq] at h ⊢; exact h
  | bk ρ' => simp only [e, Ou.seq] at h ⊢; exact h
  | ct ρ' => simp only [e, Ou.seq] at h ⊢; exact h
  | ex z ρ' => simp only [e, Ou.seq] at h
  | bad => simp only [e, Ou.seq] at h
theorem sxs_nil : SXs X [] xNext := dssI dss_nil fun ρ E h => h
theorem sxs_one (h : SX X st x) : SXs X [st] x := dss_one h
theorem sxs_cons (h : SX X st x) (k : SXs X sts x') : SXs X (st :: sts) (xSeq x x') := dssI (dss_cons h k) fun ρ E h => seq_toS h
def xRet (a : XE) : XS := fun ρ => (a ρ).to fun r ρ' => .rt r ρ'
theorem sx_ret (h : EX X e xa) : SX X (.Return (some e) pos) (xRet xa) := dsI (ds_ret h) fun ρ E h => to_toS (k := fun r ρ' => .rt r ρ') h
def xExp (a : XE) : XS := fun ρ => (a ρ).to fun _ ρ' => .nx ρ'
theorem sx_expr (h : EX X e xa) (hs : swapsWith e none pos.line X.env = pure false := by rfl) : SX X (.Expr e pos) (xExp xa) := dsI (ds_expr h hs) fun ρ E h => to_toS (k := fun r ρ' => .nx ρ') h
def xIf (t : XT) (x y : XS) : XS := fun ρ => (t ρ).to fun k ρ' => iteX k (x ρ') (y ρ')
theorem sx_if {T : XT} {as bs : List Stmt} (ht : TX X a T) (h : SXs X as x) (k : SXs X bs x') : SX X (.If a as bs pos) (xIf T x x') := dsI (ds_if ht h k) fun ρ E h => by
  obtain ⟨b, ρ', e, q⟩ := to_toS (k := fun k ρ' => iteX k (x ρ') (x' ρ')) h
  refine ⟨b, ρ', e, ?_⟩
  cases b
  · simpa using q
  · simpa using q
theorem gx_name {x : Str} (h : PG X (.Name x pos) (gName i)) : GX X (.Name x pos) [i] (xN i) := dgI (dg_name h) im_N
def xsNil : XGs := fun ds ρ => match ds with | [] => some ρ | _ => none
def xsCons (g : XG) (t : XGs) : XGs := fun ds ρ => match ds with | d :: r => (g (.sh d) ρ).bind fun ρ' => t r ρ' | [] => none
@[simp ↓] theorem xsNil_nil (ρ : Rho) : xsNil [] ρ = some ρ := Eq.trans rfl rfl
@[simp ↓] theorem xsCons_cons (g : XG) (t : XGs) (d : PyData) (r : List PyData) (ρ : Rho) : xsCons g t (d :: r) ρ = (g (.sh d) ρ).bind fun ρ' => t r ρ' := Eq.trans rfl rfl
theorem gxs_nil : GXs X [] [] xsNil := dgsI dgs_nil fun r ρ Q ⟨ρ', e, q⟩ => by
  cases r with
  | nil => cases e; exact q
  | cons d r => cases e
theorem gxs_cons {g : XG} {t : XGs} {sl sl' : List Nat} (h : GX X e sl g) (k : GXs X es sl' t) (hs : (assignEach (e :: es) X.env).map (·.2) = assign e X.env :: (assignEach es X.env).map (·.2) := by rfl) : GXs X (e :: es) (sl ++ sl') (xsCons g t) := dgsI (dgs_cons h k hs) fun r ρ Q ⟨ρ', e, q⟩ => by
  cases r with
  | nil => cases e
  | cons d r =>
    rw [xsCons_cons] at e
    cases e1 : g (.sh d) ρ with
    | none => rw [e1] at e; cases e
    | some ρ1 => rw [e1] at e; exact ⟨ρ1, e1, ρ', e, q⟩
def tupX (n : Nat) (d : PyData) (k : List PyData → Option Rho) : Option Rho := match d with
  | .tuple ds => gd (ds.length = n) (k ds)
  | .list ds => gd (ds.length = n) (k ds)
  | _ => none
@[simp ↓] theorem tupX_tuple (n : Nat) (ds : List PyData) (k : List PyData → Option Rho) : tupX n (.tuple ds) k = gd (ds.length = n) (k ds) := Eq.trans rfl rfl
def xT2 (n : Nat) (t : XGs) : XG := fun r ρ => match r.dat with
  | some d => tupX n d fun ds => t ds ρ
  | none => none
@[simp ↓] theorem xT2_sh (n : Nat) (t : XGs) (d : PyData) (ρ : Rho) : xT2 n t (.sh d) ρ = tupX n d fun ds => t ds ρ := Eq.trans rfl rfl
theorem gx_seq {t : XGs} {k n : Nat} {sl : List Nat} (hc : X.calm = true) (h : GXs X es sl t) (hn : (assignEach es X.env).length = n := by rfl) (hst : (assignEach es X.env).findIdx? (·.1) = none := by rfl) : GX X (.Tuple es k pos) sl (xT2 n t) := dgI (dg_seq hc h hn hst) fun r ρ Q ⟨ρ', e, q⟩ => by
  unfold xT2 at e
  split at e
  · next d hd =>
    refine withD_mk hd ?_
    unfold tupX at e
    split at e
    · obtain ⟨c, e⟩ := gd_inv e; exact ⟨c, ρ', e, q⟩
    · obtain ⟨c, e⟩ := gd_inv e; exact ⟨c, ρ', e, q⟩
    · cases e
  · cases e
def xAsg (a : XE) (g : XG) : XS := fun ρ => (a ρ).to fun r ρ' => opX (g r ρ') .nx
theorem opX_toS {o : Option Rho} {E : Ek} {ρ : Rho} (h : toS (fun _ => opX o .nx) ρ E) : ∃ ρ', o = some ρ' ∧ E.nx ρ' := by
  unfold toS at h
  cases o with
  | none => exact h.elim
  | some z => exact ⟨z, rfl, h⟩
theorem sx_asg {g : XG} {sl : List Nat} (he : EX X e xa) (hg : GX X tg sl g) (hs : swapsWithSole [tg] e pos.line X.env = pure false := by rfl) (hw : swappedStores [tg] e X.env = pure none := by rfl) (h1 : (assignEach [tg] X.env).map (·.2) = [assign tg X.env] := by rfl) : SX X (.Assign [tg] e pos) (xAsg xa g) := dsI (ds_asg he hg hs hw h1) fun ρ E h => by
  obtain ⟨r, ρ', e, q⟩ := to_toS (k := fun r ρ' => opX (g r ρ') .nx) h
  obtain ⟨ρ2, e2, q⟩ := opX_toS (ρ := ρ') q
  exact ⟨r, ρ', e, ρ2, e2, q⟩
theorem im_asgN {k : Nat} (ρ : Rho) (E : Ek) (h : toS (xAsg xa (xN k)) ρ E) : gAsg (toG xa) (gN k) ρ E := by
  obtain ⟨r, ρ', e, q⟩ := to_toS (k := fun r ρ' => opX (xN k r ρ') .nx) h
  obtain ⟨ρ2, e2, q⟩ := opX_toS (ρ := ρ') q
  exact ⟨r, ρ', e, im_N _ _ _ ⟨ρ2, e2, q⟩⟩
theorem sx_set {x : Str} {pos' : Pos} (hN : X.N.Nodup) (hi : X.N[i]? = some x) (hx : Loc X.env.scope x) (he : EX X e xa) (hs : swapsWith e (some (.Name x pos')) pos.line X.env = pure false := by rfl) (hf : X.fn x = true ∨ X.env.scope.names.lookup x = some .local := by first | exact .inl rfl | exact .inr rfl | assumption) :
    SX X (.Assign [.Name x pos'] e pos) (xAsg xa (xN i)) := dsI (ds_set hN hi hx he hs hf) im_asgN
def xSetIx (i : Nat) (a b : XE) : XE := fun ρ => (a ρ).bind fun r ρ1 => withX r fun d => ownX ρ1[i]? fun _ _ => (b ρ1).bind fun r2 ρ2 => withX r2 fun k => ownX ρ2[i]? fun o w => lstX o fun ds => intX k fun n => (ofO (ixN ds.length n) ρ2).bind fun m ρ2 => .ok (.sh .none) (ρ2.set i (some (w (.lst (ds.set m d)))))
theorem sx_setIx {tpos : Pos} (ha : EX X a xa) (hy : PE X (.Name y py) (tVar i)) (hb : EX X b xb)
    (hs : swapsWithSole [.Subscript (.Name y py) b tpos] a pos.line X.env = pure false := by rfl) (hw : swappedStores [.Subscript (.Name y py) b tpos] a X.env = pure none := by rfl) (h1 : (assignEach [.Subscript (.Name y py) b tpos] X.env).map (·.2) = [assign (.Subscript (.Name y py) b tpos) X.env] := by rfl)
    (h2 : ∀ v, assign (.Subscript (.Name y py) b tpos) X.env v = (do
      let ov ← holding [v] (eval (.Name y py) X.env)
      let iv ← holding [v, ov] (eval b X.env)
      standAt tpos
      holding [v, ov, iv] (setItem ov iv v)
      release [v, ov, iv] []) := by intro _; rfl) : SX X (.Assign [.Subscript (.Name y py) b tpos] a pos) (xExp (xSetIx i xa xb)) := dsI (ds_setIx ha hy hb hs hw h1 h2) fun ρ E h => by
  obtain ⟨r, ρ', e, q⟩ := to_toS (k := fun r ρ' => .nx ρ') h
  obtain ⟨r1, ρ1, e1, f1⟩ := Re.bind_inv e
  obtain ⟨d, hd, f2⟩ := withX_inv f1
  obtain ⟨o, w, f3, k1⟩ := ownX_inv f2
  obtain ⟨r2, ρ2, e2, f4⟩ := Re.bind_inv f3
  obtain ⟨k, hk, f5⟩ := withX_inv f4
  obtain ⟨o2, w2, f6, k2⟩ := ownX_inv f5
  obtain ⟨ds, ho, f7⟩ := lstX_inv f6
  subst ho
  obtain ⟨n, hn, f8⟩ := intX_inv f7
  subst hn
  obtain ⟨m, ρ3, f9, g1⟩ := Re.bind_inv f8
  obtain ⟨g2, g3⟩ := ofO_inv f9
  subst g3
  cases g1
  exact ⟨r1, ρ1, e1, withD_mk hd (k1 _ ⟨r2, _, e2, withD_mk hk (k2 _ (by simp only [g2]; exact q))⟩)⟩
def xPutD (i : Nat) (a b : XE) : XE := fun ρ => (a ρ).bind fun r ρ1 => withX r fun d => ownX ρ1[i]? fun _ _ => (b ρ1).bind fun r2 ρ2 => withX r2 fun kd => ownX ρ2[i]? fun o w => dicX o fun kvs => keyX kd fun k => gr (kvs.length < 1000000) (.ok (.sh .none) (ρ2.set i (some (w (.dic (setK kvs k d))))))
theorem sx_putD {tpos : Pos} (hu : X.A.units + 1 < cLine) (ha : EX X a xa) (hy : PE X (.Name y py) (tVar i)) (hb : EX X b xb) (hs : swapsWith a (some (.Subscript (.Name y py) b tpos)) pos.line X.env = pure false := by rfl) : SX X (.Assign [.Subscript (.Name y py) b tpos] a pos) (xExp (xPutD i xa xb)) := dsI (ds_putD hu ha hy hb hs) fun ρ E h => by
  obtain ⟨r, ρ', e, q⟩ := to_toS (k := fun r ρ' => .nx ρ') h
  obtain ⟨r1, ρ1, e1, f1⟩ := Re.bind_inv e
  obtain ⟨d, hd, f2⟩ := withX_inv f1
  obtain ⟨o, w, f3, k1⟩ := ownX_inv f2
  obtain ⟨r2, ρ2, e2, f4⟩ := Re.bind_inv f3
  obtain ⟨k, hk, f5⟩ := withX_inv f4
  obtain ⟨o2, w2, f6, k2⟩ := ownX_inv f5
  obtain ⟨ds, ho, f7⟩ := dicX_inv f6
  subst ho
  obtain ⟨n, hn, f8⟩ := keyX_inv f7
  obtain ⟨cc, f9⟩ := gr_inv f8
  cases f9
  exact ⟨r1, ρ1, e1, withD_mk hd (k1 _ ⟨r2, _, e2, withD_mk hk (k2 _ (by simp only [hn]; exact ⟨cc, q⟩))⟩)⟩
end
end DX
set_option Elab.async false
set_option linter.all false
set_option maxRecDepth 100000
namespace DX
open PySem L2 DL
abbrev IX (X : Cx) (tg iter : Expr) (x : XA) : Prop := DI X tg iter (toG x)
def sqX {α β : Type} (d : PyData) (k : List PyData → Re α β) : Re α β := match d with | .list ds => k ds | .tuple ds => k ds | _ => .bad
@[simp ↓] theorem sqX_list {α β : Type} (ds : List PyData) (k : List PyData → Re α β) : sqX (.list ds) k = k ds := Eq.trans rfl rfl
@[simp ↓] theorem sqX_tuple {α β : Type} (ds : List PyData) (k : List PyData → Re α β) : sqX (.tuple ds) k = k ds := Eq.trans rfl rfl
def rng1 (ds : List PyData) : Option (List PyData) := match ds with
  | [.int j] => gd (j < 4611686018427387904 ∧ -4611686018427387904 ≤ j) (some (rangeD 0 j.toNat))
  | _ => none
@[simp ↓] theorem rng1_int (j : Int) : rng1 [.int j] = gd (j < 4611686018427387904 ∧ -4611686018427387904 ≤ j) (some (rangeD 0 j.toNat)) := Eq.trans rfl rfl
def xiSeq (a : XE) : XA := fun ρ => (a ρ).bind fun r ρ' => withX r fun d => sqX d fun ds => .ok ds ρ'
def xiOf (v : List PyData → Option (List PyData)) (t : XA) : XA := fun ρ => (t ρ).bind fun ds ρ' => ofO (v ds) ρ'
theorem xiOf_inv {v : List PyData → Option (List PyData)} {t : XA} {ρ ρ' : Rho} {r : List PyData} (e : xiOf v t ρ = .ok r ρ') : ∃ ds, t ρ = .ok ds ρ' ∧ v ds = some r := by
  obtain ⟨ds, ρ1, e1, f1⟩ := Re.bind_inv e
  obtain ⟨f2, f3⟩ := ofO_inv f1
  subst f3
  exact ⟨ds, e1, f2⟩
section
variable {X : Cx} {a b c e tg iter : Expr} {es rest : List Expr} {pos p py : Pos} {t : XA} {y : Str} {i : Nat} {xa xb : XE} {st : Stmt} {sts : List Stmt} {x x' : XS}
theorem diI {G : GI} {x : XA} (h : DI X tg iter G) (i : ∀ ρ Q r ρ', x ρ = .ok r ρ' → Q r ρ' → G ρ Q) : IX X tg iter x := ⟨toG_mono x, by
  obtain ⟨wi, p, k⟩ := h.ex
  exact ⟨wi, p, fun c F H σ ρ Q R j ⟨r, ρ', e, q⟩ kk => k c F H σ ρ Q R j (i _ _ _ _ e q) kk⟩⟩
theorem ix_seq (h : EX X a xa) : IX X tg a (xiSeq xa) := diI (di_seq h) fun ρ Q r ρ' e q => by
  obtain ⟨r1, ρ1, e1, f1⟩ := Re.bind_inv e
  obtain ⟨d, hd, f2⟩ := withX_inv f1
  refine ⟨r1, ρ1, e1, withD_mk hd ?_⟩
  cases d with
  | list ds => cases f2; exact q
  | tuple ds => cases f2; exact q
  | _ => cases f2
theorem ix_rng1 (hg : Gl X "range") (hm : X.mg "range" = none) (h : AX X [a] t) (hs : starEach [a] X.env = [(false, eval a X.env)] := by rfl) : IX X tg (.Call (.Name "range" p) [a] [] pos) (xiOf rng1 t) := diI (di_rng1 hg hm h hs) fun ρ Q r ρ' e q => by
  obtain ⟨ds, e1, f1⟩ := xiOf_inv e
  refine ⟨ds, ρ', e1, ?_⟩
  unfold rng1 at f1
  split at f1
  · obtain ⟨cc, f2⟩ := gd_inv f1
    cases f2
    exact ⟨cc.1, cc.2, q⟩
  · cases f1
def forX (g : XG) (b : XS) : List PyData → Rho → Ou
  | [], ρ => .nx ρ
  | d :: ds, ρ => opX (g (.sh d) ρ) fun ρ1 => (b ρ1).loop (forX g b ds)
theorem forX_cons (g : XG) (b : XS) (d : PyData) (ds : List PyData) (ρ : Rho) : forX g b (d :: ds) ρ = opX (g (.sh d) ρ) fun ρ1 => (b ρ1).loop (forX g b ds) := rfl
def xFor (i : XA) (g : XG) (b : XS) : XS := fun ρ => (i ρ).to fun ds ρ' => forX g b ds ρ'
theorem opX_toS' {o : Option Rho} {k : XS} {E : Ek} {ρ : Rho} (h : toS (fun _ => opX o k) ρ E) : ∃ ρ', o = some ρ' ∧ toS k ρ' E := by
  unfold toS at h
  cases o with
  | none => exact h.elim
  | some z => exact ⟨z, rfl, h⟩
theorem loop_toS {x k : XS} {ρ : Rho} {E : Ek} (h : toS (fun ρ => (x ρ).loop k) ρ E) : toS x ρ { nx := fun ρ2 => toS k ρ2 E, ct := fun ρ2 => toS k ρ2 E, bk := E.nx, rt := E.rt } := by
  unfold toS at h
  unfold toS
  cases e : x ρ with
  | nx ρ' => simp only [e, Ou.loop] at h ⊢; exact h
  | rt r ρ' => simp only [e, Ou.loop] at h ⊢; exact h
  | bk ρ' => simp only [e, Ou.loop] at h ⊢; exact h
  | ct ρ' => simp only [e, Ou.loop] at h ⊢; exact h
  | ex z ρ' => simp only [e, Ou.loop] at h
  | bad => simp only [e, Ou.loop] at h
theorem forW_of {g : XG} {b : XS} {E : Ek} : ∀ ds ρ, toS (forX g b ds) ρ E → forW (toGG g) (toS b) ds ρ E
  | [], ρ, h => h
  | d :: ds, ρ, h => by
    obtain ⟨ρ1, e1, q⟩ := opX_toS' (o := g (.sh d) ρ) (k := fun ρ1 => (b ρ1).loop (forX g b ds)) (ρ := ρ) h
    refine ⟨ρ1, e1, (toS_mono b).use (loop_toS q) ⟨fun ρ2 z => forW_of ds ρ2 z, fun _ _ z => z, fun _ z => z, fun ρ2 z => forW_of ds ρ2 z⟩⟩
theorem sx_for {body : List Stmt} {i : XA} {g : XG} {sl : List Nat} (hc : X.calm = true) (hi : IX X tg iter i) (hg : GX X tg sl g) (hb : SXs X body x) (hp : PassesOwn (model X.prog X.w) X.A X.env X.xe) (hs : ∀ x, foldedSetIterable iter X.env x = pure x := by intro _; rfl) :
    SX X (.For tg iter body [] pos) (xFor i g x) := dsI (ds_for hc hi hg hb hp hs) fun ρ E h => by
  obtain ⟨ds, ρ', e, q⟩ := to_toS (x := i) (k := fun ds ρ' => forX g x ds ρ') h
  exact ⟨ds, ρ', e, forW_of ds ρ' q⟩
def whileX (t : XT) (b : XS) : Nat → Rho → Ou
  | 0, _ => .bad
  | n + 1, ρ => (t ρ).to fun k ρ1 => iteX k ((b ρ1).loop (whileX t b n)) (.nx ρ1)
theorem whileX_succ (t : XT) (b : XS) (n : Nat) (ρ : Rho) : whileX t b (n + 1) ρ = (t ρ).to fun k ρ1 => iteX k ((b ρ1).loop (whileX t b n)) (.nx ρ1) := rfl
def xWhile (t : XT) (b : XS) : XS := fun ρ => whileX t b 1000000 ρ
theorem whileW_of {t : XT} {b : XS} {E : Ek} : ∀ n ρ, toS (whileX t b n) ρ E → whileW (toG t) (toS b) n ρ E
  | 0, ρ, h => h
  | n + 1, ρ, h => by
    obtain ⟨k, ρ1, e1, q⟩ := to_toS (x := t) (k := fun k ρ1 => iteX k ((b ρ1).loop (whileX t b n)) (.nx ρ1)) h
    refine ⟨k, ρ1, e1, ?_⟩
    cases k
    · simp only [Bool.false_eq_true, if_false]
      exact q
    · simp only [if_true]
      exact (toS_mono b).use (loop_toS q) ⟨fun ρ2 z => whileW_of n ρ2 z, fun _ _ z => z, fun _ z => z, fun ρ2 z => whileW_of n ρ2 z⟩
theorem Ou.loop_mono {o : Ou} {k k' : XS} (hk : ∀ ρ, k ρ ≠ .bad → k' ρ = k ρ) (h : o.loop k ≠ .bad) : o.loop k' = o.loop k := by
  cases o with
  | nx ρ => exact hk ρ h
  | ct ρ => exact hk ρ h
  | _ => rfl
theorem whileX_add {t : XT} {b : XS} : ∀ (n m : Nat) (ρ : Rho), whileX t b n ρ ≠ .bad → whileX t b (n + m) ρ = whileX t b n ρ
  | 0, _, _, h => (h rfl).elim
  | n + 1, m, ρ, h => by
    have e : n + 1 + m = (n + m) + 1 := by omega
    rw [e, whileX_succ, whileX_succ]
    rw [whileX_succ] at h
    cases z : t ρ with
    | ok k ρ1 =>
      rw [z] at h
      cases k with
      | true => exact Ou.loop_mono (fun ρ q => whileX_add n m ρ q) h
      | false => rfl
    | ex _ _ => rfl
    | bad => rfl
theorem xWhile_eq {t : XT} {b : XS} {ρ : Rho} {o : Ou} (n : Nat) (hn : n ≤ 1000000) (h : whileX t b n ρ = o) (ho : o ≠ .bad) : xWhile t b ρ = o := by
  have e : 1000000 = n + (1000000 - n) := by omega
  unfold xWhile
  rw [e, whileX_add n _ ρ (by rw [h]; exact ho), h]
theorem sx_while {t : Expr} {T : XT} {body : List Stmt} (hp : PassesOwn (model X.prog X.w) X.A X.env X.xe) (ht : TX X t T) (hb : SXs X body x) : SX X (.While t body [] pos) (xWhile T x) := dsI (ds_while hp ht hb) fun ρ E h => ⟨1000000, whileW_of _ ρ h⟩
def calmX (ρ : Rho) : List Nat → Bool
  | [] => true
  | v :: vs => (match ρ[v]? with | some (some (.own _)) => false | some (some (.io _)) => false | _ => true) && calmX ρ vs
theorem calmX_inv {ρ : Rho} : ∀ {vs : List Nat}, calmX ρ vs = true → calmR ρ vs
  | [], _ => fun v h => by cases h
  | v :: vs, h => fun u hu => by
    unfold calmX at h
    rw [Bool.and_eq_true] at h
    rcases List.mem_cons.mp hu with e | hu
    · have h1 := h.1
      rw [← e] at h1
      generalize ρ[u]? = s at h1
      match s, h1 with
      | some (some (.own _)), h1 => cases h1
      | some (some (.io _)), h1 => cases h1
      | some (some (.sh _)), _ => trivial
      | some (some (.new _)), _ => trivial
      | some none, _ => trivial
      | none, _ => trivial
    · exact calmX_inv h.2 u hu
def opE {α : Type} (x : Option Rho) (k : Rho → Re α Rho) : Re α Rho := match x with | some ρ => k ρ | none => .bad
@[simp ↓] theorem opE_some {α : Type} (ρ : Rho) (k : Rho → Re α Rho) : opE (some ρ) k = k ρ := Eq.trans rfl rfl
theorem opE_inv {α : Type} {x : Option Rho} {k : Rho → Re α Rho} {a : α} {ρ' : Rho} (h : opE x k = .ok a ρ') : ∃ ρ, x = some ρ ∧ k ρ = .ok a ρ' := by
  cases x with
  | none => cases h
  | some ρ => exact ⟨ρ, rfl, h⟩
def turnX (vs : List Nat) (g : XG) (T : XT) (e : XE) (d : PyData) (ρ : Rho) : Re (Option PyData) Rho :=
  opE (g (.sh d) ρ) fun ρ1 => (T ρ1).bind fun k ρ2 => iteX k ((e ρ2).bind fun r ρ3 => withX r fun y => gr (calmX ρ3 vs = true) (.ok (some y) (wipeR ρ3 vs))) (gr (calmX ρ2 vs = true) (.ok none (wipeR ρ2 vs)))
def lcX (vs : List Nat) (g : XG) (T : XT) (e : XE) : List PyData → List PyData → Rho → Re (List PyData) Rho
  | [], acc, ρ => .ok acc ρ
  | d :: ds, acc, ρ => (turnX vs g T e d ρ).bind fun o ρ' => match o with
    | some y => gr (acc.length < 1000000) (lcX vs g T e ds (acc ++ [y]) ρ')
    | none => lcX vs g T e ds acc ρ'
theorem lcW_of {vs : List Nat} {g : XG} {T : XT} {e : XE} : ∀ (ds acc : List PyData) (ρ : Rho) (acc' : List PyData) (ρ' : Rho) (Q : List PyData → Rho → Prop), lcX vs g T e ds acc ρ = .ok acc' ρ' → Q acc' ρ' → lcW vs (toGG g) (toG T) (toG e) ds acc ρ Q
  | [], acc, ρ, acc', ρ', Q, h, q => by cases h; exact q
  | d :: ds, acc, ρ, acc', ρ', Q, h, q => by
    obtain ⟨o, ρ2, e1, f1⟩ := Re.bind_inv h
    obtain ⟨ρ3, e2, f2⟩ := opE_inv e1
    obtain ⟨k, ρ4, e3, f3⟩ := Re.bind_inv f2
    refine ⟨ρ3, e2, k, ρ4, e3, ?_⟩
    cases k
    · obtain ⟨c1, f4⟩ := gr_inv (x := .ok none (wipeR ρ4 vs)) f3
      cases f4
      simp only [Bool.false_eq_true, if_false]
      exact ⟨calmX_inv c1, lcW_of ds acc _ acc' ρ' Q f1 q⟩
    · obtain ⟨r, ρ5, e5, f4⟩ := Re.bind_inv (x := e ρ4) f3
      obtain ⟨y, hy, f5⟩ := withX_inv f4
      obtain ⟨c1, f6⟩ := gr_inv f5
      cases f6
      obtain ⟨c2, f7⟩ := gr_inv (x := lcX vs g T e ds (acc ++ [y]) (wipeR ρ5 vs)) f1
      simp only [if_true]
      exact ⟨r, ρ5, e5, withD_mk hy ⟨c2, calmX_inv c1, lcW_of ds _ _ acc' ρ' Q f7 q⟩⟩
def xLc (i : XA) (vs : List Nat) (g : XG) (T : XT) (e : XE) : XE := fun ρ => (i ρ).bind fun ds ρ1 => gr (calmX ρ1 vs = true) ((lcX vs g T e ds [] (wipeR ρ1 vs)).bind fun acc ρ2 => .ok (.own (.lst acc)) (restR ρ2 ρ1 vs))
theorem im_lc {i : XA} {vs : List Nat} {g : XG} {T : XT} {e : XE} (ρ : Rho) (Q : KE) (r : R) (ρ' : Rho) (h : xLc i vs g T e ρ = .ok r ρ') (q : Q r ρ') : gLc (toG i) vs (toGG g) (toG T) (toG e) ρ Q := by
  obtain ⟨ds, ρ1, e1, f1⟩ := Re.bind_inv h
  obtain ⟨c1, f2⟩ := gr_inv f1
  obtain ⟨acc, ρ2, e2, f3⟩ := Re.bind_inv f2
  cases f3
  exact ⟨ds, ρ1, e1, calmX_inv c1, lcW_of ds [] _ acc ρ2 _ e2 q⟩
abbrev GBX (X : Cx) (scope : Scope) (tg : Expr) (sl : List Nat) (x : XG) : Prop := DGB X scope tg sl (toGG x)
theorem dgbI {scope : Scope} {G : GG} {sl : List Nat} {x : XG} (h : DGB X scope tg sl G) (i : ∀ r ρ Q, toGG x r ρ Q → G r ρ Q) : GBX X scope tg sl x := ⟨toGG_mono x, by
  obtain ⟨g, p, k⟩ := h.ex
  exact ⟨g, p, fun c F H σ ρ v r Q Qv j vr q kk => k c F H σ ρ v r Q Qv j vr (i _ _ _ q) kk⟩⟩
theorem gbx_name {scope : Scope} {k : Nat} {x : Str} (h : ∀ (s : Shared) (H : Hp) (C : Addr) (cl : List (Str × Addr)) (fp : List Addr), PG (X.blk s H scope (compEnvC scope cl C X.env) fp) (.Name x pos) (gName k)) : GBX X scope (.Name x pos) [k] (xN k) := dgbI (dgb_name h) im_N
def xYes : XT := fun ρ => .ok true ρ
abbrev TXs (X : Cx) (es : List Expr) (x : XT) : Prop := DTs X es (toG x)
theorem txs_nil : TXs X [] xYes := ⟨toG_mono _, fun pins s σ H Q I ⟨c, F, ρ, j, a, ρ', e, q⟩ => by cases e; exact pts_nil pins s σ H Q I (q F H j)⟩
theorem txs_one {T : XT} (h : TX X a T) : TXs X [a] T := dts_one h
section
variable {elt iter : Expr} {ifs : List Expr} {scope : Scope} {own : List (Str × Nat)} {i : XA} {g : XG} {T : XT} {xe : XE} {sl : List Nat}
theorem xe_lc (hc : X.calm = true) (hN : X.N.Nodup) (hi : IX X tg iter i) (ok : BlkOk X.N X.env.scope scope own) (hg : GBX X scope tg sl g) (hsl : ∀ v ∈ sl, v ∈ own.map (·.2))
    (ht : ∀ (s : Shared) (H : Hp) (C : Addr) (cl : List (Str × Addr)) (fp : List Addr), TXs (X.blk s H scope (compEnvC scope cl C X.env) fp) ifs T)
    (he : ∀ (s : Shared) (H : Hp) (C : Addr) (cl : List (Str × Addr)) (fp : List Addr), EX (X.blk s H scope (compEnvC scope cl C X.env) fp) elt xe) (hs : ∀ x, foldedSetIterable iter X.env x = pure x := by intro _; rfl) :
    EX X (.ListComp elt [⟨tg, iter, ifs, 0⟩] scope pos) (xLc i (own.map (·.2)) g T xe) := exI (de_lc hc hN hi ok hg hsl ht he hs) im_lc
theorem sx_setLc {k : Nat} {y : Str} {py spos : Pos} (hc : X.calm = true) (hN : X.N.Nodup) (hy : X.N[k]? = some y) (hyl : X.env.scope.names.lookup y = some .local)
    (hsw : swapsWith (.ListComp elt [⟨tg, iter, ifs, 0⟩] scope pos) (some (.Name y py)) spos.line X.env = pure true) (hi : IX X tg iter i) (ok : BlkOk X.N X.env.scope scope own) (hg : GBX X scope tg sl g) (hsl : ∀ v ∈ sl, v ∈ own.map (·.2))
    (ht : ∀ (s : Shared) (H : Hp) (C : Addr) (cl : List (Str × Addr)) (fp : List Addr), TXs (X.blk s H scope (compEnvC scope cl C X.env) fp) ifs T)
    (he : ∀ (s : Shared) (H : Hp) (C : Addr) (cl : List (Str × Addr)) (fp : List Addr), EX (X.blk s H scope (compEnvC scope cl C X.env) fp) elt xe) (hs : ∀ x, foldedSetIterable iter X.env x = pure x := by intro _; rfl) :
    SX X (.Assign [.Name y py] (.ListComp elt [⟨tg, iter, ifs, 0⟩] scope pos) spos) (xAsg (xLc i (own.map (·.2)) g T xe) (xN k)) := dsI (ds_setLc hc hN hy hyl hsw hi ok hg hsl ht he hs) fun ρ E h => by
  obtain ⟨r, ρ', e, q⟩ := im_asgN ρ E h
  exact im_lc ρ _ r ρ' e q
end
def Ou.fin (o : Ou) : Re R Unit := match o with | .nx _ => .ok (.sh .none) () | .rt r _ => .ok r () | .ex e _ => .ex e () | _ => .bad
@[simp ↓] theorem Ou.fin_rt (r : R) (ρ : Rho) : (Ou.rt r ρ).fin = .ok r () := Eq.trans rfl rfl
def Ou.finP (o : Ou) : Re R OO := match o with
  | .nx ρ => (match (ρ[0]? : Option (Option R)) with | some (some (.io o)) => .ok (.sh .none) o | _ => .bad)
  | .rt r ρ => (match (ρ[0]? : Option (Option R)) with | some (some (.io o)) => .ok r o | _ => .bad)
  | .ex e ρ => (match (ρ[0]? : Option (Option R)) with | some (some (.io o)) => .ex e o | _ => .bad)
  | _ => .bad
@[simp ↓] theorem Ou.finP_rt (r : R) (o : OO) (ρ : Rho) : (Ou.rt r (some (.io o) :: ρ)).finP = .ok r o := Eq.trans rfl rfl
def runD (m n : Nat) (x : XS) : Fn := fun ds => if ds.length = m then (x (rho0 n (ds.map R.sh))).fin else .bad
def runP (m n : Nat) (x : XS) : Fp := fun o ds => if ds.length + 1 = m then (x (rho0 n (.io o :: ds.map R.sh))).finP else .bad
theorem rd_x {m n : Nat} {x : XS} : RdD (toS x) n (cD (runD m n x)) := fun ds Q ⟨r, e, q⟩ => by
  unfold runD at e
  split at e
  · unfold toS
    unfold Ou.fin at e
    split at e <;> rename_i h <;> first | (rw [h]; cases e; exact q) | cases e
  · cases e
theorem rp_x {m n : Nat} {x : XS} : RdP (toS x) n (cP (runP m n x)) := fun o ds Q ⟨r, o', e, q⟩ => by
  unfold runP at e
  split at e
  · unfold toS
    unfold Ou.finP at e
    split at e <;> rename_i h <;> first | (rw [h]; split at e <;> first | (rename_i h2; cases e; show endP Q _ _; unfold endP; rw [h2]; exact q) | cases e) | cases e
  · cases e
theorem runD_eq {m n : Nat} (x : XS) (ds : List PyData) (ρ : Rho) (h : ds.length = m) (e : rho0 n (ds.map R.sh) = ρ) : runD m n x ds = (x ρ).fin := by
  subst e
  exact if_pos h
theorem runP_eq {m n : Nat} (x : XS) (o : OO) (ds : List PyData) (ρ : Rho) (h : ds.length + 1 = m) (e : rho0 n (.io o :: ds.map R.sh) = ρ) : runP m n x o ds = (x ρ).finP := by
  subst e
  exact if_pos h
theorem len_x {m n : Nat} {x : XS} (ds : List PyData) (Q : R → Prop) (h : cD (runD m n x) ds Q) : ds.length = m := by
  obtain ⟨r, e, _⟩ := h
  unfold runD at e
  split at e
  · assumption
  · cases e
theorem lenp_x {m n : Nat} {x : XS} (o : OO) (ds : List PyData) (Q : R → OO → Prop) (h : cP (runP m n x) o ds Q) : ds.length + 1 = m := by
  obtain ⟨r, o', e, _⟩ := h
  unfold runP at e
  split at e
  · assumption
  · cases e
end
section
open PyProof.Rows
variable {cb : Bool} {P : Program} {w : World} {K : PySem.W.Frag} {mg : Str → Option Value} {base : Heap} {x : Str} {st : Stmt} {ps N : List Str} {k : Nat}
theorem calX {xs : XS} {m n : Nat} (D : Df K mg x st ps) (S : FnScope N ps (defScope st)) (hN : ps.length ≤ N.length)
    (hb : ∀ (f : Addr) (cdv : Value) (A : Around) (outer : List Env) (s : Shared) (H : Hp) (E : XK), Room k (A.deeper (envOfC x (defScope st) s.heap.objs.size f cdv)) → SXs (cxOfB cb CX0 P w K mg base N x (defScope st) f cdv A outer s H E).nox (defBody st) xs) (em : ps.length = m := by rfl) (en : N.length = n := by rfl) : CalB cb P w K mg base (k + 1) x ps (spD K (cD (runD m n xs))) := by
  subst em en
  exact calD D S hN len_x hb rd_x
theorem calXP {xs : XS} {m n : Nat} (D : Df K mg x st ps) (S : FnScope N ps (defScope st)) (hN : ps.length ≤ N.length)
    (hb : ∀ (f : Addr) (cdv : Value) (A : Around) (outer : List Env) (s : Shared) (H : Hp) (E : XK), Room k (A.deeper (envOfC x (defScope st) s.heap.objs.size f cdv)) → SXs (cxOfB cb CX0 P w K mg base N x (defScope st) f cdv A outer s H E).nox (defBody st) xs) (em : ps.length = m := by rfl) (en : N.length = n := by rfl) : CalB cb P w K mg base (k + 1) x ps (spP K (cP (runP m n xs))) := by
  subst em en
  exact calP D S hN lenp_x hb rp_x
theorem calX0 (D : Df K mg x st ps) : CalB cb P w K mg base k x ps (spD K (cD fun _ => .bad)) := calNo D fun ds Q ⟨r, e, _⟩ => by cases e
theorem calXP0 (D : Df K mg x st ps) : CalB cb P w K mg base k x ps (spP K (cP fun _ _ => .bad)) := calNoP D fun o ds Q ⟨r, o', e, _⟩ => by cases e
end
end DX
set_option Elab.async false
set_option linter.all false
set_option maxRecDepth 100000
namespace DX
open PySem PyProof.Rows L2 DL
def subT (t n : String) : Bool := t == n || (t == "bool" && n == "int")
def isK (n : String) : Bool := n == "int" || n == "bool" || n == "str" || n == "list" || n == "tuple" || n == "dict"
def isTy (n : String) : Bool := n == "NoneType" || n == "int" || n == "bool" || n == "str" || n == "list" || n == "tuple" || n == "dict"
theorem kit_tab (K : PySem.W.Frag) {t n : String} (ht : isTy t = true) (hn : isK n = true) : PySem.W.kitOne K (.type t) (.type n) = some (subT t n) := by
  unfold isTy at ht
  unfold isK at hn
  simp only [Bool.or_eq_true, beq_iff_eq] at ht hn
  rcases ht with (((((rfl | rfl) | rfl) | rfl) | rfl) | rfl) | rfl <;> rcases hn with ((((rfl | rfl) | rfl) | rfl) | rfl) | rfl <;> kernel_rfl
def tyD : PyData → String
  | .none => "NoneType"
  | .bool _ => "bool"
  | .int _ => "int"
  | .str _ => "str"
  | .list _ => "list"
  | .tuple _ => "tuple"
  | .dict _ => "dict"
theorem isTy_tyD (d : PyData) : isTy (tyD d) = true := by cases d <;> rfl
def tyO : OO → String | .lst _ => "list" | .dic _ => "dict" | .exc _ => "list"
def noX : R → Bool | .own (.exc _) => false | .io (.exc _) => false | .new _ => false | _ => true
def tyR : R → String
  | .sh d => tyD d
  | .own o => tyO o
  | .io o => tyO o
  | .new _ => "tuple"
theorem isTy_tyR (r : R) : isTy (tyR r) = true := by
  cases r with
  | sh d => exact isTy_tyD d
  | own o => cases o <;> rfl
  | io o => cases o <;> rfl
  | new ps => rfl
inductive HasTy (K : PySem.W.Frag) (H : Hp) : V → String → Prop
  | non : HasTy K H .non "NoneType"
  | bl (b : Bool) : HasTy K H (.bl b) "bool"
  | int (i : Int) : HasTy K H (.int i) "int"
  | str (x : Str) : HasTy K H (.str x) "str"
  | lst {a : Addr} {xs : List V} (h : SqL K H a xs) : HasTy K H (.ref a) "list"
  | tup {a : Addr} {xs : List V} (h : SqT K H a xs) : HasTy K H (.ref a) "tuple"
  | dic {a : Addr} {kvs : List (Key × V)} (h : H a = some (.dK kvs)) : HasTy K H (.ref a) "dict"
  | dicF {a : Addr} {o : Obj} {kvs : List (Key × V)} (h : H a = some (.frz o (.dK kvs))) : HasTy K H (.ref a) "dict"
theorem HasTy.of {K : PySem.W.Frag} {F H : Hp} {v : V} {d : PyData} (h : Dp K F v d) (s : Same F H) : HasTy K H v (tyD d) := by
  cases h with
  | non => exact .non
  | bl b => exact .bl b
  | int i => exact .int i
  | str x => exact .str x
  | lst h q => exact .lst (s.seq h)
  | tup h q => exact .tup (sqT_same s h)
  | dct h q k => exact .dicF (s _ _ h)
theorem HasTy.ofO {K : PySem.W.Frag} {F H : Hp} {a : Addr} {o : OO} {ho : HO} (h : H a = some ho) (k : OOk K F o ho) (n : noX (.own o) = true) : HasTy K H (.ref a) (tyO o) := by
  cases o with
  | exc z => cases n
  | lst ds => obtain ⟨vs, rfl, _⟩ := k; exact .lst (SqL.of h)
  | dic ds => obtain ⟨vs, rfl, _⟩ := k; exact .dic h
theorem HasTy.ofR {K : PySem.W.Frag} {c : En} {F H : Hp} {σ : L2.St} {ρ : Rho} {v : V} {r : R} (j : J K c F H σ ρ) (h : RelR K c F H σ ρ v r) (n : noX r = true) : HasTy K H v (tyR r) := by
  cases r with
  | sh d => exact HasTy.of h j.fh
  | own o => obtain ⟨a, ho, rfl, h2, h3, _⟩ := h; exact HasTy.ofO h2 h3 n
  | io o => exact h.elim
  | new ps => cases n
def rIsi (K : PySem.W.Frag) : List V → Hp → VK → Prop := fun xs H Q => ∃ x t n, xs = [x, .ty n] ∧ HasTy K H x t ∧ isTy t = true ∧ isK n = true ∧ Q (.bl (subT t n)) H
theorem call_isi {X : Cx} : CallR X (.builtin "isinstance") (rIsi X.K) := by
  intro pins s σ H xs us Q I r h
  obtain ⟨x, t, n, rfl, ht, h1, h2, q⟩ := h
  obtain ⟨u, w, rfl, ru, rw'⟩ := r.two
  cases (show w = Value.type n from rw')
  have e := kit_tab X.K h1 h2
  have fin : ∀ tk, EP X pins σ Q (.bool (subT t n)) { s with toks := tk } := fun tk => ⟨.bl _, H, I.tok tk, rfl, q⟩
  cases ht with
  | non => exact isinst_ok I ru (t := .type "NoneType") .non e fin
  | bl y => exact isinst_ok I ru (t := .type "bool") (.bl y) e fin
  | int y => exact isinst_ok I ru (t := .type "int") (.int y) e fin
  | str y => exact isinst_ok I ru (t := .type "str") (.str y) e fin
  | lst hl =>
    cases (show u = Value.ref _ from ru)
    obtain ⟨its, rv, ⟨o, m, ho, hc, _⟩, _⟩ := I.list hl
    exact PySem.W.kia_one PySem.W.kitx_list I.kIn ⟨o, ho, hc⟩ e (fun z => nomatch z) fin
  | tup hl =>
    cases (show u = Value.ref _ from ru)
    obtain ⟨its, rv, ⟨o, ho, hc, _⟩, _⟩ := I.tuple hl
    exact PySem.W.kia_one PySem.W.kitx_tuple I.kIn ⟨o, ho, hc⟩ e (fun z => nomatch z) fin
  | dic hl => exact isinst_ok I ru (t := .type "dict") (.dK hl) e fin
  | @dicF a o kvs hl =>
    cases ru
    obtain ⟨_, ho, hx, _⟩ := I.frzK hl
    exact PySem.W.kia_one PySem.W.kitx_dict I.kIn ⟨o, ho, hx.1⟩ e (fun z => nomatch z) fin
def slotTy {α β : Type} (s : Option (Option R)) (k : String → Re α β) : Re α β := match s with | some (some (.own (.exc _))) => .bad | some (some (.io (.exc _))) => .bad | some (some (.new _)) => .bad | some (some r) => k (tyR r) | _ => .bad
@[simp ↓] theorem slotTy_sh {α β : Type} (d : PyData) (k : String → Re α β) : slotTy (some (some (.sh d))) k = k (tyD d) := Eq.trans rfl rfl
theorem slotTy_inv {α β : Type} {s : Option (Option R)} {k : String → Re α β} {a : α} {b : β} (h : slotTy s k = .ok a b) : ∃ r, s = some (some r) ∧ noX r = true ∧ k (tyR r) = .ok a b := by
  match s, h with
  | some (some (.sh d)), h => exact ⟨_, rfl, rfl, h⟩
  | some (some (.own (.lst d))), h => exact ⟨_, rfl, rfl, h⟩
  | some (some (.own (.dic d))), h => exact ⟨_, rfl, rfl, h⟩
  | some (some (.own (.exc d))), h => cases h
  | some (some (.io (.lst d))), h => exact ⟨_, rfl, rfl, h⟩
  | some (some (.io (.dic d))), h => exact ⟨_, rfl, rfl, h⟩
  | some (some (.io (.exc d))), h => cases h
  | some (some (.new d)), h => cases h
  | some none, h => cases h
  | none, h => cases h
def xIsi (n : String) (a : XE) : XE := fun ρ => (a ρ).bind fun r ρ' => slotTy (some (some r)) fun t => .ok (.sh (.bool (subT t n))) ρ'
def xIsiN (n : String) (i : Nat) : XE := fun ρ => slotTy ρ[i]? fun t => .ok (.sh (.bool (subT t n))) ρ
section
variable {X : Cx} {a b c e tg iter : Expr} {es rest : List Expr} {pos p p2 py : Pos} {t : XA} {y : Str} {i : Nat} {xa xb : XE} {n : String} {x : Str}
theorem xe_isi (hg : Gl X "isinstance") (hm : X.mg "isinstance" = none) (hg2 : Gl X x) (hm2 : X.mg x = none) (hv : bootBuiltins x = some (.type n)) (hn : isK n = true) (ha : EX X a xa) (hn2 : x ≠ "__name__" := by decide) (hd2 : (x == ("__debug__" : Str)) = false := by decide)
    (he : starEach [a, .Name x p2] X.env = (false, eval a X.env) :: starEach [.Name x p2] X.env := by rfl) (hs : starEach [.Name x p2] X.env = [(false, eval (.Name x p2) X.env)] := by rfl) (hpl : (backTo pos (starEach [.Name x p2] X.env)).any (·.1) = false := by rfl) : EX X (.Call (.Name "isinstance" p) [a, .Name x p2] [] pos) (xIsi n xa) :=
  ⟨toG_mono _, peI (pe_callB call_isi hg hm (by decide +kernel) (pa_cons ha.pe (pa_cons (pe_bltn (v := .ty n) hg2 hm2 hv rfl hn2 hd2) pa_nil hs) he) (by decide) (by decide) he hpl) fun σ H Q ⟨c, F, ρ, j, r, ρ', e, q⟩ => by
    obtain ⟨r1, ρ1, e1, f1⟩ := Re.bind_inv e
    obtain ⟨r2, e2, n2, f2⟩ := slotTy_inv f1
    cases e2
    cases f2
    exact ⟨c, F, ρ, j, r1, _, e1, fun F' H' v j' vr => ⟨v, tyR r1, n, rfl, HasTy.ofR j' vr n2, isTy_tyR r1, hn, q F' H' _ j' (.bl _)⟩⟩⟩
theorem xe_isiN (hg : Gl X "isinstance") (hm : X.mg "isinstance" = none) (hg2 : Gl X x) (hm2 : X.mg x = none) (hv : bootBuiltins x = some (.type n)) (hn : isK n = true) (hy : PE X (.Name y py) (tVar i)) (hn2 : x ≠ "__name__" := by decide) (hd2 : (x == ("__debug__" : Str)) = false := by decide)
    (he : starEach [.Name y py, .Name x p2] X.env = (false, eval (.Name y py) X.env) :: starEach [.Name x p2] X.env := by rfl) (hs : starEach [.Name x p2] X.env = [(false, eval (.Name x p2) X.env)] := by rfl) (hpl : (backTo pos (starEach [.Name x p2] X.env)).any (·.1) = false := by rfl) : EX X (.Call (.Name "isinstance" p) [.Name y py, .Name x p2] [] pos) (xIsiN n i) :=
  ⟨toG_mono _, peI (pe_callB call_isi hg hm (by decide +kernel) (pa_cons hy (pa_cons (pe_bltn (v := .ty n) hg2 hm2 hv rfl hn2 hd2) pa_nil hs) he) (by decide) (by decide) he hpl) fun σ H Q ⟨c, F, ρ, j, r, ρ', e, q⟩ => by
    unfold xIsiN at e
    obtain ⟨r1, h1, n1, e⟩ := slotTy_inv e
    · cases e
      have go : ∃ v, σ[i]? = some (some v) ∧ HasTy X.K H v (tyR r1) := by
        cases r1 with
        | sh d => obtain ⟨v, g1, g2⟩ := j.sh i d h1; exact ⟨v, g1, HasTy.of g2 j.fh⟩
        | own o => obtain ⟨a, ho, g1, g2, g3, _⟩ := j.ow i o (.inl h1); exact ⟨_, g1, HasTy.ofO g2 g3 n1⟩
        | io o => obtain ⟨a, ho, g1, g2, g3, _⟩ := j.ow i o (.inr h1); exact ⟨_, g1, HasTy.ofO g2 g3 (by cases o <;> first | rfl | cases n1)⟩
        | new ps => cases n1
      obtain ⟨v, g1, g2⟩ := go
      exact ⟨v, g1, v, tyR r1, n, rfl, g2, isTy_tyR r1, hn, q F H _ j (.bl _)⟩⟩
def rRevL (K : PySem.W.Frag) : V → Hp → VK → Prop := fun x H Q => ∃ a xs, x = .ref a ∧ SqL K H a xs ∧ ∀ p, H p = none → Q (.ref p) (upd H p (.lst xs.reverse))
theorem Vals.rev {xs : List V} {us : List Value} (r : Vals xs us) : Vals xs.reverse us.reverse := by
  induction r with
  | nil => exact .nil
  | cons h t ih => rw [List.reverse_cons, List.reverse_cons]; exact L2.Vals.append ih (.cons h .nil)
theorem pe_rev {te : TE} {k : Nat} {p3 p4 p5 : Pos} (he : PE X e te) : PE X (.Subscript e (.Slice none none (some (.UnaryOp .USub (.Constant (.int 1) k p3) p4)) p5) pos) (fun σ H Q => te σ H fun x H1 => rRevL X.K x H1 Q) := by
  intro pins s σ H Q I h
  refine Subscript_ (thn (he pins s σ H _ I h) fun v s1 ⟨x, H1, I1, r1, q1⟩ => ?_)
  refine wpAny_Slice ?_
  rw [evalPart_none]
  refine wpAny_pure ?_
  refine wpAny_pure ?_
  have hp : PO X (some (.UnaryOp .USub (.Constant (.int 1) k p3) p4)) _ := po_some (pe_un un_neg pe_int)
  refine thn (hp pins s1 σ H1 (fun o H2 => o = some (-1) ∧ H2 = H1) I1 ⟨1, rfl, -1, rfl, rfl, rfl⟩) fun vk s3 ⟨o, H3, I3, pk, ho⟩ => ?_
  obtain ⟨rfl, rfl⟩ := ho
  obtain ⟨a, xs, rfl, hx, q⟩ := q1
  cases r1
  have I4 : Inv X pins σ H3 { s3 with heap := s3.heap.push { cls := .type "slice", data := .fields #[.none, .none, vk] } } := I3.kept (t' := s3.toks) fun b ob q => Heap.get?_push_of_some _ q
  obtain ⟨its, r, ht, hz⟩ := I4.list hx
  have hlen := r.length
  have hg : wpAny (model X.prog X.w) X.A (getItem (.ref a) (.ref s3.heap.objs.size)) (EP X pins σ Q) X.xe { s3 with heap := s3.heap.push { cls := .type "slice", data := .fields #[.none, .none, vk] } } := by
    refine wpAny_getItem_list_slice ht.isList (Heap.IsSliceOf.new ..) .none .none pk (by decide) ?_ (by rw [List.size_toArray] <;> omega)
    rw [PySem.W.krv_pick]
    refine ⟨.ref _, _, I4.laid (t' := s3.toks) (o := .lst xs.reverse) (fun b ob q => Heap.get?_push_of_some _ q) (Nat.le_refl _) ?_, rfl, q _ (I4.hok.fresh (Nat.le_refl _))⟩
    refine ⟨by rw [List.length_reverse]; exact hz, its.reverse, 0, Vals.rev r, ?_⟩
    have e9 : its.toArray.toList.reverse.toArray = its.reverse.toArray := by simp
    rw [e9]
    exact Heap.get?_push_size _ rfl
  show wpAny (model X.prog X.w) X.A (subscriptTail e (.Slice none none (some (.UnaryOp .USub (.Constant (.int 1) k p3) p4)) p5) (.ref a) (.ref s3.heap.objs.size)) (EP X pins σ Q) X.xe { s3 with heap := s3.heap.push { cls := .type "slice", data := .fields #[.none, .none, vk] } }
  exact tail_any (ops := [.ref a, .ref s3.heap.objs.size]) ht.isList.typeIs slot_list_getitem.lookup hg (by with_unfolding_all rfl)
theorem sliceApplied_rev {prog : Program} {w : World} {A : Around} {E : Value → Shared → Prop} {s : Shared} {sl : Addr} {tk : Tok} {n : Nat} {Q : Int × Int × Nat → Shared → Prop} (hs : s.heap.IsSliceOf sl .none .none (.int (-1) tk))
    (h : Q ((n : Int) - 1, -1, n) s) : wpAny (model prog w) A (Builtin.Slice.sliceApplied (.ref sl) (pure (n : Int))) Q E s := by
  obtain ⟨os, hos, hcs, hds⟩ := id hs
  unfold Builtin.Slice.sliceApplied Builtin.Slice.sliceFields
  refine wpAny_bind (wpAny_bind (wpAny_field hos hds (x := .none) rfl (wpAny_bind (wpAny_field hos hds (x := .none) rfl (wpAny_bind (wpAny_field hos hds (x := .int (-1) tk) rfl (wpAny_pure ?_)))))))
  refine wpAny_bind (slicePart_int ?_)
  show wpAny _ _ (if ((-1 : Int) == 0) = true then _ else _) _ _ s
  rw [if_neg (by decide)]
  refine wpAny_bind (slicePart_none (wpAny_bind (slicePart_none (wpAny_bind (wpAny_pure ?_)))))
  show wpAny _ _ (match Builtin.Slice.sliceAdjust none none (-1) (n : Int) with | (lo, hi) => pure (lo, (-1 : Int), Builtin.Slice.slicePlaces lo hi (-1))) _ _ s
  have e1 : Builtin.Slice.sliceAdjust none none (-1) (n : Int) = ((n : Int) - 1, -1) := by
    unfold Builtin.Slice.sliceAdjust
    rfl
  rw [e1]
  show wpAny _ _ (pure ((n : Int) - 1, (-1 : Int), Builtin.Slice.slicePlaces ((n : Int) - 1) (-1) (-1))) _ _ s
  have e2 : Builtin.Slice.slicePlaces ((n : Int) - 1) (-1) (-1) = n := by
    unfold Builtin.Slice.slicePlaces
    rw [if_neg (by decide)]
    by_cases h : (n : Int) - 1 > -1
    · rw [if_pos h, show (- -1 : Int) = 1 by decide, Int.ediv_one]
      omega
    · rw [if_neg h]
      omega
  rw [e2]
  exact wpAny_pure h
theorem fm_congr {α β : Type} {f g : α → Option β} : ∀ {l : List α}, (∀ x ∈ l, f x = g x) → l.filterMap f = l.filterMap g
  | [], _ => rfl
  | x :: l, h => by
    rw [List.filterMap_cons, List.filterMap_cons, h x (by simp), fm_congr fun y hy => h y (by simp [hy])]
theorem pick_rev (xs : Array Value) : ((List.range xs.size).filterMap fun (m : Nat) => xs[((xs.size : Int) - 1 + (m : Int) * -1).toNat]?).toArray = xs.toList.reverse.toArray := by
  have e : ((List.range xs.size).filterMap fun (m : Nat) => xs[((xs.size : Int) - 1 + (m : Int) * -1).toNat]?) = ((List.range xs.size).map fun k => xs.size - 1 - k).filterMap (xs[·]?) := by
    rw [List.filterMap_map]
    apply fm_congr
    intro k hk
    have := List.mem_range.mp hk
    have e : ((xs.size : Int) - 1 + (k : Int) * -1).toNat = xs.size - 1 - k := by omega
    rw [e]
    rfl
  rw [e, PySem.W.krv_range, List.filterMap_reverse, PySem.W.krv_all]
theorem getItem_tuple_rev {prog : Program} {w : World} {A : Around} {E : Value → Shared → Prop} {s : Shared} {t sl : Addr} {items : Array Value} {tk : Tok} {Q : Value → Shared → Prop} (ht : IsTup s.heap t items) (hs : s.heap.IsSliceOf sl .none .none (.int (-1) tk))
    (h : Q (.ref s.heap.objs.size) { s with heap := s.heap.push { cls := .type "tuple", data := .seq items.toList.reverse.toArray } })
    (hsz : items.size ≤ sizeLine) : wpAny (model prog w) A (getItem (.ref t) (.ref sl)) Q E s := by
  have htake : sizeOk (.seq items.toList.reverse.toArray) := by
    show items.toList.reverse.toArray.size ≤ sizeLine
    rw [List.size_toArray, List.length_reverse, Array.length_toList]
    omega
  obtain ⟨os, hos, hcs, hds⟩ := id hs
  have hTs : s.TypeIs (.ref sl) "slice" := ⟨os, hos, hcs⟩
  unfold getItem
  try with_reducible refine wpAny_holding ?_
  first | refine wpAny_bind (wpAny_pure ?_) | skip
  refine wpAny_bind (wpAny_sequenceKey ht.typeIs (by decide) ?_)
  refine wpAny_bind (wpAny_callSpecial?_slot (name := Str.ofString "__getitem__") ht.typeIs PyProof.Rows.slot_tuple_getitem
    (wpAny_call_entry PyProof.Rows.slot_tuple_getitem ht.typeIs entry_tuple_getitem ?_ (args_tuple_getitem _ _)))
  show wpAny _ _ (Builtin.Tuple.tupleItemsOf (.ref t) >>= _) _ _ s
  refine wpAny_bind (tupleItemsOf_ ht ?_)
  refine wpAny_bind (wpAny_typeOf hTs ?_)
  rw [if_pos (by decide)]
  refine wpAny_bind (sliceApplied_rev hs ?_)
  have hno : ¬ ((((items.size : Int) - 1) == 0 && (-1 : Int) == 1 && items.size == items.size) = true) := by
    intro q
    rw [Bool.and_eq_true, Bool.and_eq_true] at q
    exact absurd q.1.2 (by decide)
  show wpAny _ _ (if (((items.size : Int) - 1) == 0 && (-1 : Int) == 1 && items.size == items.size) = true then _ else _) _ _ s
  rw [if_neg hno, pick_rev]
  first
    | exact wpAny_bind (m := Builtin.Tuple.tupleExact _) (wpAny_newObj_type (wpAny_pure ⟨_, rfl, wpAny_pure h⟩) htake)
    | exact wpAny_bind (m := Builtin.Tuple.tupleExact _) (wpAny_newObj_type (wpAny_bind (wpAny_pure (wpAny_pure ⟨_, rfl, wpAny_pure h⟩))) htake)
    | exact wpAny_bind (wpAny_bind (m := Builtin.Tuple.tupleExact _) (wpAny_newObj_type (wpAny_pure (wpAny_pure ⟨_, rfl, wpAny_pure h⟩)) htake))
    | exact wpAny_bind (wpAny_bind (m := Builtin.Tuple.tupleExact _) (wpAny_newObj_type (wpAny_pure ⟨_, rfl, wpAny_pure h⟩) htake))
def rRev (K : PySem.W.Frag) : V → Hp → VK → Prop := fun x H Q => rRevL K x H Q ∨ ∃ a xs, x = .ref a ∧ SqT K H a xs ∧ ∀ p, H p = none → Q (.ref p) (upd H p (.tup xs.reverse))
theorem pe_revT {te : TE} {k : Nat} {p3 p4 p5 : Pos} (he : PE X e te) : PE X (.Subscript e (.Slice none none (some (.UnaryOp .USub (.Constant (.int 1) k p3) p4)) p5) pos) (fun σ H Q => te σ H fun x H1 => rRev X.K x H1 Q) := by
  intro pins s σ H Q I h
  refine Subscript_ (thn (he pins s σ H _ I h) fun v s1 ⟨x, H1, I1, r1, q1⟩ => ?_)
  refine wpAny_Slice ?_
  rw [evalPart_none]
  refine wpAny_pure ?_
  refine wpAny_pure ?_
  have hp : PO X (some (.UnaryOp .USub (.Constant (.int 1) k p3) p4)) _ := po_some (pe_un un_neg pe_int)
  refine thn (hp pins s1 σ H1 (fun o H2 => o = some (-1) ∧ H2 = H1) I1 ⟨1, rfl, -1, rfl, rfl, rfl⟩) fun vk s3 ⟨o, H3, I3, pk, ho⟩ => ?_
  obtain ⟨rfl, rfl⟩ := ho
  have I4 : Inv X pins σ H3 { s3 with heap := s3.heap.push { cls := .type "slice", data := .fields #[.none, .none, vk] } } := I3.kept (t' := s3.toks) fun b ob q => Heap.get?_push_of_some _ q
  rcases q1 with ⟨a, xs, rfl, hx, q⟩ | ⟨a, xs, rfl, hx, q⟩
  · cases r1
    obtain ⟨its, r, ht, hz⟩ := I4.list hx
    have hlen := r.length
    have hg : wpAny (model X.prog X.w) X.A (getItem (.ref a) (.ref s3.heap.objs.size)) (EP X pins σ Q) X.xe { s3 with heap := s3.heap.push { cls := .type "slice", data := .fields #[.none, .none, vk] } } := by
      refine wpAny_getItem_list_slice ht.isList (Heap.IsSliceOf.new ..) .none .none pk (by decide) ?_ (by rw [List.size_toArray] <;> omega)
      rw [PySem.W.krv_pick]
      refine ⟨.ref _, _, I4.laid (t' := s3.toks) (o := .lst xs.reverse) (fun b ob q => Heap.get?_push_of_some _ q) (Nat.le_refl _) ?_, rfl, q _ (I4.hok.fresh (Nat.le_refl _))⟩
      refine ⟨by rw [List.length_reverse]; exact hz, its.reverse, 0, Vals.rev r, ?_⟩
      have e9 : its.toArray.toList.reverse.toArray = its.reverse.toArray := by simp
      rw [e9]
      exact Heap.get?_push_size _ rfl
    show wpAny (model X.prog X.w) X.A (subscriptTail e (.Slice none none (some (.UnaryOp .USub (.Constant (.int 1) k p3) p4)) p5) (.ref a) (.ref s3.heap.objs.size)) (EP X pins σ Q) X.xe { s3 with heap := s3.heap.push { cls := .type "slice", data := .fields #[.none, .none, vk] } }
    exact tail_any (ops := [.ref a, .ref s3.heap.objs.size]) ht.isList.typeIs slot_list_getitem.lookup hg (by with_unfolding_all rfl)
  · cases r1
    obtain ⟨its, r, ht, hz⟩ := I4.tuple hx
    have hlen := r.length
    cases pk with | int _ tk =>
    have hg : wpAny (model X.prog X.w) X.A (getItem (.ref a) (.ref s3.heap.objs.size)) (EP X pins σ Q) X.xe { s3 with heap := s3.heap.push { cls := .type "slice", data := .fields #[.none, .none, .int (-1) tk] } } := by
      refine getItem_tuple_rev ht (Heap.IsSliceOf.new ..) ?_ (by rw [List.size_toArray] <;> omega)
      refine ⟨.ref _, _, I4.laid (t' := s3.toks) (o := .tup xs.reverse) (fun b ob q => Heap.get?_push_of_some _ q) (Nat.le_refl _) ?_, rfl, q _ (I4.hok.fresh (Nat.le_refl _))⟩
      have e9 : its.toArray.toList.reverse.toArray = its.reverse.toArray := by simp
      rw [e9]
      exact ⟨by rw [List.length_reverse]; exact hz, its.reverse, Vals.rev r, IsTupN.new _ _⟩
    show wpAny (model X.prog X.w) X.A (subscriptTail e (.Slice none none (some (.UnaryOp .USub (.Constant (.int 1) k p3) p4)) p5) (.ref a) (.ref s3.heap.objs.size)) (EP X pins σ Q) X.xe { s3 with heap := s3.heap.push { cls := .type "slice", data := .fields #[.none, .none, .int (-1) tk] } }
    exact tail_any (ops := [.ref a, .ref s3.heap.objs.size]) ht.typeIs PyProof.Rows.slot_tuple_getitem.lookup hg (by with_unfolding_all rfl)
theorem DpAll.rev {K : PySem.W.Frag} {H : Hp} {vs : List V} {ds : List PyData} (h : DpAll K H vs ds) : DpAll K H vs.reverse ds.reverse := by
  match vs, ds, h with
  | _, _, .nil => exact .nil
  | _, _, .cons h q => rw [List.reverse_cons, List.reverse_cons]; exact DL.DpAll.app (DpAll.rev q) (.cons h .nil)
def vRev : PyData → Option R
  | .list ds => some (.own (.lst ds.reverse))
  | .tuple ds => some (.sh (.tuple ds.reverse))
  | _ => none
@[simp ↓] theorem vRev_list (ds : List PyData) : vRev (.list ds) = some (.own (.lst ds.reverse)) := Eq.trans rfl rfl
theorem xe_rev {k : Nat} {p3 p4 p5 : Pos} (ha : EX X a xa) : EX X (.Subscript a (.Slice none none (some (.UnaryOp .USub (.Constant (.int 1) k p3) p4)) p5) pos) (xUn vRev xa) := ⟨toG_mono _, peI (pe_revT ha.pe) fun σ H Q ⟨c, F, ρ, j, r, ρ', e, q⟩ => by
  obtain ⟨r1, d, e1, hd, e2⟩ := xUn_inv e
  refine ⟨c, F, ρ, j, r1, ρ', e1, fun F1 H1 v1 j1 v1r => ?_⟩
  obtain ⟨F2, j2, s2, dp⟩ := v1r.frz j1 hd
  cases d with
  | list ds =>
    cases e2
    obtain ⟨l, xs, rfl, h1, a1⟩ := dp_lst dp
    exact .inl ⟨l, xs, rfl, j2.fh.seq h1, fun p hp => q F2 _ _ (j2.alloc hp _) (relNew j2 hp ⟨_, rfl, DpAll.rev a1⟩)⟩
  | tuple ds =>
    cases e2
    obtain ⟨l, xs, rfl, h1, a1⟩ := dp_tup dp
    exact .inr ⟨l, xs, rfl, sqT_same j2.fh h1, fun p hp => q _ _ _ ((j2.alloc hp _).frz upd_same (j2.ffree hp) (j2.zfree hp) (j2.apart hp)) (.tup (SqT.of upd_same) (dpAllM (same_new (j2.ffree hp) _) (DpAll.rev a1)))⟩
  | _ => cases e2⟩
end
end DX
set_option Elab.async false
set_option linter.all false
set_option maxRecDepth 100000
namespace DX
open PySem PyProof.Rows L2 DL
instance (i j : Int) : Decidable (IntMulOk i j) := by unfold IntMulOk; infer_instance
theorem mulOk_l {i j : Int} (h1 : -(2 ^ 64) < i) (h2 : i < 2 ^ 64) : IntMulOk i j := CMul.ok (.inl ⟨h1, h2⟩)
theorem mulOk_r {i j : Int} (h1 : -(2 ^ 64) < j) (h2 : j < 2 ^ 64) : IntMulOk i j := CMul.ok (.inr ⟨h1, h2⟩)
section
variable {X : Cx} {a b c e tg iter : Expr} {es rest : List Expr} {pos p p2 py : Pos} {t : XA} {y : Str} {i : Nat} {xa xb : XE} {n : String} {x : Str}
theorem op_mulB : OpR X (binaryOp .Mult) (rI IntMulOk fun i j => .int (i * j)) := opI fun _ _ _ _ _ _ _ hc q => mul_int q hc
def vMulB : V2
  | .int i, .int j => gd (IntMulOk i j) (some (.sh (.int (i * j))))
  | .tuple ds, .int k => gd (0 < ds.length ∧ 2 ≤ k ∧ ds.length * k.toNat ≤ 1000000) (some (.sh (.tuple (List.replicate k.toNat ds).flatten)))
  | _, _ => none
@[simp ↓] theorem vMulB_int (i j : Int) : vMulB (.int i) (.int j) = gd (IntMulOk i j) (some (.sh (.int (i * j)))) := Eq.trans rfl rfl
def wOf (v : V2) : W2 := fun d e Q => ∃ z, v d e = some z ∧ Q z
theorem lw_of {v : V2} : Lw v (wOf v) := fun d e z Q h q => ⟨z, h, q⟩
theorem DpAll.rep {K : PySem.W.Frag} {H : Hp} {vs : List V} {ds : List PyData} (h : DpAll K H vs ds) : ∀ k : Nat, DpAll K H (List.replicate k vs).flatten (List.replicate k ds).flatten
  | 0 => .nil
  | k + 1 => by
    rw [List.replicate_succ, List.replicate_succ, List.flatten_cons, List.flatten_cons]
    exact DL.DpAll.app h (DpAll.rep h k)
theorem opdMul {K : PySem.W.Frag} : OpD K (rOr (rI IntMulOk fun i j => .int (i * j)) (rRepT K)) (wOf vMulB) := ⟨fun d e Q Q' h ⟨z, a, q⟩ => ⟨z, a, h _ q⟩, fun c F H σ ρ x y d e Q Qv j hx hy ⟨z, hz, q⟩ k => by
  cases d with
  | int i =>
    cases e with
    | int l =>
      obtain ⟨c1, h1⟩ := gd_inv (c := IntMulOk i l) hz
      cases h1
      cases hx
      cases hy
      exact .inl ⟨i, l, rfl, rfl, c1, k _ F H _ q j (.int _)⟩
    | _ => cases hz
  | tuple ds =>
    cases e with
    | int l =>
      obtain ⟨⟨c1, c2, c3⟩, h1⟩ := gd_inv (c := 0 < ds.length ∧ 2 ≤ l ∧ ds.length * l.toNat ≤ 1000000) hz
      cases h1
      cases hy
      obtain ⟨a, xs, rfl, h1, a1⟩ := dp_tup hx
      have l1 := DpAll.length a1
      refine .inr ⟨a, l, xs, rfl, rfl, sqT_same j.fh h1, fun z => by rw [z] at l1; simp at l1; omega, c2, by rw [l1]; exact c3, fun p hp => ?_⟩
      exact k _ _ _ _ q ((j.alloc hp _).frz upd_same (j.ffree hp) (j.zfree hp) (j.apart hp)) (.tup (SqT.of upd_same) (dpAllM (same_new (j.ffree hp) _) (DpAll.rep a1 _)))
    | _ => cases hz
  | _ => cases hz⟩
theorem xe_mulB (ha : EX X a xa) (hb : EX X b xb) : EX X (.BinOp a .Mult b pos) (xBin vMulB xa xb) := exI (de_bin (opr_or op_mulB op_repT) opdMul ha hb) (im_bin lw_of)
variable {apos cpos : Pos}
def xExtend (i : Nat) (a : XE) : XE := fun ρ => ownX ρ[i]? fun o _ => lstX o fun _ => (a ρ).bind fun r ρ1 => owX r fun o2 => lstX o2 fun zs => ownX ρ1[i]? fun o w => lstX o fun xs => gr (xs.length + zs.length ≤ 1000000) (.ok (.sh .none) (ρ1.set i (some (w (.lst (xs ++ zs))))))
theorem xe_extend (hy : PE X (.Name y py) (tVar i)) (ha : EX X a xa) (hbase : attributeBase (.Name y py) "extend" X.env (eval (.Name y py) X.env) = eval (.Name y py) X.env := by rfl)
    (hfew : ((backTo cpos (starEach [a] X.env)).all (fun x => !x.1) && (backToKw cpos (keywordEach [] X.env)).all (fun x => x.1.isSome) && decide ([a].length + ([] : List Keyword).length + (if ([] : List Keyword).isEmpty then 0 else 1) < 30)) = true := by rfl)
    (hline : (apos.endLine == cpos.line) = true := by rfl) (hs : starEach [a] X.env = [(false, eval a X.env)] := by rfl) (hplain : (backTo cpos (starEach [] X.env)).any (·.1) = false := by rfl) : EX X (.Call (.Attribute (.Name y py) "extend" apos) [a] [] cpos) (xExtend i xa) :=
  ⟨toG_mono _, peI (pe_bm PySem.F.plainAttrs_list PySem.F.slot_list_extend PySem.F.type_list_extend mt_extend hy (pa_cons ha.pe pa_nil hs) hbase hfew hline hs hplain) fun σ H Q ⟨c, F, ρ, j, r, ρ', e, q⟩ => by
    obtain ⟨o, w, f1, k1⟩ := ownX_inv e
    obtain ⟨ds, ho, f2⟩ := lstX_inv f1
    subst ho
    obtain ⟨o0, w0, hw0, hρ0, ow0, q0⟩ := ownAt_use (k1 (fun o _ => o = .lst ds) rfl)
    subst q0
    obtain ⟨a0, ho0, hσ, g2, g3, _⟩ := j.ow i _ ow0
    obtain ⟨xs0, rfl⟩ := isL_ho (o := .lst ds) trivial g3
    refine ⟨.ref a0, hσ, .inl ⟨rfl, _, SqL.of g2⟩, ?_⟩
    obtain ⟨r1, ρ1, e1, f3⟩ := Re.bind_inv f2
    obtain ⟨o2, ho2, f4⟩ := owX_inv f3
    subst ho2
    obtain ⟨zs, hz, f5⟩ := lstX_inv f4
    subst hz
    obtain ⟨o3, w3, f6, k3⟩ := ownX_inv f5
    obtain ⟨xs, hx, f7⟩ := lstX_inv f6
    subst hx
    obtain ⟨c1, f8⟩ := gr_inv f7
    cases f8
    refine ⟨c, F, ρ, j, _, _, e1, fun F1 H1 v1 j1 v1r => ?_⟩
    obtain ⟨b, hob, rfl, hb1, ⟨us, rfl, ab⟩, hb3, hb4, ap⟩ := v1r
    obtain ⟨o4, w4, hw4, hρ4, ow4, q4⟩ := ownAt_use (k3 (fun o w => o = .lst xs ∧ w = w3) ⟨rfl, rfl⟩)
    obtain ⟨rfl, rfl⟩ := q4
    obtain ⟨a2, ho2, hσ2, h2, ⟨vs, rfl, av⟩, h4, h5⟩ := j1.ow i _ ow4
    rw [hσ] at hσ2
    cases hσ2
    have hm := million
    have l1 := DpAll.length av
    have l2 := DpAll.length ab
    refine ⟨a0, b, vs, us, rfl, rfl, h2, hb1, by omega, ?_⟩
    exact q F1 _ _ (j1.putW hw4 hρ4 hσ ⟨_, rfl, DL.DpAll.app av ab⟩) .non⟩
end
end DX
set_option Elab.async false
set_option linter.all false
set_option maxRecDepth 100000
namespace DX
open PySem L2 DL
@[simp ↓] theorem xVar_at (i : Nat) (ρ : Rho) : xVar i ρ = varX ρ[i]? i ρ := Eq.trans rfl rfl
@[simp ↓] theorem xC_at (d : PyData) (ρ : Rho) : xC d ρ = .ok (.sh d) ρ := Eq.trans rfl rfl
@[simp ↓] theorem xBin_at (w : V2) (a b : XE) (ρ : Rho) : xBin w a b ρ = (a ρ).bind fun r1 ρ1 => withX r1 fun d => (b ρ1).bind fun r2 ρ2 => withX r2 fun e => ofO (w d e) ρ2 := Eq.trans rfl rfl
@[simp ↓] theorem xUn_at (w : PyData → Option R) (a : XE) (ρ : Rho) : xUn w a ρ = (a ρ).bind fun r1 ρ1 => withX r1 fun d => ofO (w d) ρ1 := Eq.trans rfl rfl
@[simp ↓] theorem xSh_at (w : PyData → Option R) (a : XE) (ρ : Rho) : xSh w a ρ = (a ρ).bind fun r1 ρ1 => shX r1 fun d => ofO (w d) ρ1 := Eq.trans rfl rfl
@[simp ↓] theorem xAndV_at (a b : XE) (ρ : Rho) : xAndV a b ρ = (a ρ).bind fun r ρ' => blX r fun t => iteX t (b ρ') (.ok (.sh (.bool false)) ρ') := Eq.trans rfl rfl
@[simp ↓] theorem xB_at (a : XE) (ρ : Rho) : xB a ρ = (a ρ).bind fun r ρ' => blX r fun t => .ok t ρ' := Eq.trans rfl rfl
@[simp ↓] theorem xAnd_at (a b : XT) (ρ : Rho) : xAnd a b ρ = (a ρ).bind fun t ρ' => iteX t (b ρ') (.ok false ρ') := Eq.trans rfl rfl
@[simp ↓] theorem xOr_at (a b : XT) (ρ : Rho) : xOr a b ρ = (a ρ).bind fun t ρ' => iteX t (.ok true ρ') (b ρ') := Eq.trans rfl rfl
@[simp ↓] theorem xNt_at (a : XT) (ρ : Rho) : xNt a ρ = (a ρ).bind fun t ρ' => .ok (!t) ρ' := Eq.trans rfl rfl
@[simp ↓] theorem xIfE_at (t : XT) (a b : XE) (ρ : Rho) : xIfE t a b ρ = (t ρ).bind fun k ρ' => iteX k (a ρ') (b ρ') := Eq.trans rfl rfl
@[simp ↓] theorem xNil_at  (ρ : Rho) : xNil  ρ = .ok [] ρ := Eq.trans rfl rfl
@[simp ↓] theorem xCons_at (a : XE) (t : XA) (ρ : Rho) : xCons a t ρ = (a ρ).bind fun r ρ1 => withX r fun d => (t ρ1).bind fun ds ρ2 => .ok (d :: ds) ρ2 := Eq.trans rfl rfl
@[simp ↓] theorem xLst_at (t : XA) (ρ : Rho) : xLst t ρ = (t ρ).bind fun ds ρ' => gr (ds.length ≤ 1000) (.ok (.own (.lst ds)) ρ') := Eq.trans rfl rfl
@[simp ↓] theorem xTup_at (t : XA) (ρ : Rho) : xTup t ρ = (t ρ).bind fun ds ρ' => gr (ds.length ≤ 1000) (.ok (.sh (.tuple ds)) ρ') := Eq.trans rfl rfl
@[simp ↓] theorem xBlt_at (v : VC) (t : XA) (ρ : Rho) : xBlt v t ρ = (t ρ).bind fun ds ρ' => ofO (v ds) ρ' := Eq.trans rfl rfl
@[simp ↓] theorem xIxU_at (i : Nat) (b : XE) (ρ : Rho) : xIxU i b ρ = seqX ρ[i]? fun _ => (b ρ).bind fun r ρ1 => withX r fun d => seqX ρ1[i]? fun ds => intX d fun k => ofO (ixX ds k) ρ1 := Eq.trans rfl rfl
@[simp ↓] theorem xLenU_at (i : Nat) (ρ : Rho) : xLenU i ρ = seqX ρ[i]? fun ds => .ok (.sh (.int ds.length)) ρ := Eq.trans rfl rfl
@[simp ↓] theorem xMeth_at (v : VM) (i : Nat) (t : XA) (ρ : Rho) : xMeth v i t ρ = ownX ρ[i]? fun o _ => lstX o fun _ => (t ρ).bind fun ds ρ1 => ownX ρ1[i]? fun o w => lstX o fun xs => (ofO (v xs ds) ρ1).bind fun z ρ1 => .ok z.1 (ρ1.set i (some (w (.lst z.2)))) := Eq.trans rfl rfl
@[simp ↓] theorem xoN_at  (ρ : Rho) : xoN  ρ = .ok none ρ := Eq.trans rfl rfl
@[simp ↓] theorem xoS_at (a : XE) (ρ : Rho) : xoS a ρ = (a ρ).bind fun r ρ' => shX r fun d => intX d fun i => .ok (some i) ρ' := Eq.trans rfl rfl
@[simp ↓] theorem xSl_at (a : XE) (l u : XX (Option Int)) (ρ : Rho) : xSl a l u ρ = (a ρ).bind fun r ρ1 => withX r fun d => (l ρ1).bind fun lo ρ2 => (u ρ2).bind fun hi ρ3 => ofO (cutX d lo hi) ρ3 := Eq.trans rfl rfl
@[simp ↓] theorem xCall_at (f : Fn) (t : XA) (ρ : Rho) : xCall f t ρ = (t ρ).bind fun ds ρ' => (f ds).at ρ' := Eq.trans rfl rfl
@[simp ↓] theorem xCallO_at (f : Fp) (i : Nat) (t : XA) (ρ : Rho) : xCallO f i t ρ = ownX ρ[i]? fun _ _ => (t ρ).bind fun ds ρ1 => ownX ρ1[i]? fun o w => (f o ds).put ρ1 i w := Eq.trans rfl rfl
@[simp ↓] theorem xDict0_at  (ρ : Rho) : xDict0  ρ = .ok (.own (.dic [])) ρ := Eq.trans rfl rfl
@[simp ↓] theorem xInD_at (neg : Bool) (i : Nat) (a : XE) (ρ : Rho) : xInD neg i a ρ = (a ρ).bind fun r ρ1 => withX r fun d => ownX ρ1[i]? fun o _ => dicX o fun kvs => keyX d fun k => .ok (.sh (.bool (if neg then !hasK kvs k else hasK kvs k))) ρ1 := Eq.trans rfl rfl
@[simp ↓] theorem xNext_at  (ρ : Rho) : xNext  ρ = .nx ρ := Eq.trans rfl rfl
@[simp ↓] theorem xSeq_at (x y : XS) (ρ : Rho) : xSeq x y ρ = (x ρ).seq y := Eq.trans rfl rfl
@[simp ↓] theorem xRet_at (a : XE) (ρ : Rho) : xRet a ρ = (a ρ).to fun r ρ' => .rt r ρ' := Eq.trans rfl rfl
@[simp ↓] theorem xExp_at (a : XE) (ρ : Rho) : xExp a ρ = (a ρ).to fun _ ρ' => .nx ρ' := Eq.trans rfl rfl
@[simp ↓] theorem xIf_at (t : XT) (x y : XS) (ρ : Rho) : xIf t x y ρ = (t ρ).to fun k ρ' => iteX k (x ρ') (y ρ') := Eq.trans rfl rfl
@[simp ↓] theorem xN_at (i : Nat) (r : R) (ρ : Rho) : xN i r ρ = freeX ρ[i]? (some (ρ.set i (some r))) := Eq.trans rfl rfl
@[simp ↓] theorem xAsg_at (a : XE) (g : XG) (ρ : Rho) : xAsg a g ρ = (a ρ).to fun r ρ' => opX (g r ρ') .nx := Eq.trans rfl rfl
@[simp ↓] theorem xSetIx_at (i : Nat) (a b : XE) (ρ : Rho) : xSetIx i a b ρ = (a ρ).bind fun r ρ1 => withX r fun d => ownX ρ1[i]? fun _ _ => (b ρ1).bind fun r2 ρ2 => withX r2 fun k => ownX ρ2[i]? fun o w => lstX o fun ds => intX k fun n => (ofO (ixN ds.length n) ρ2).bind fun m ρ2 => .ok (.sh .none) (ρ2.set i (some (w (.lst (ds.set m d))))) := Eq.trans rfl rfl
@[simp ↓] theorem xPutD_at (i : Nat) (a b : XE) (ρ : Rho) : xPutD i a b ρ = (a ρ).bind fun r ρ1 => withX r fun d => ownX ρ1[i]? fun _ _ => (b ρ1).bind fun r2 ρ2 => withX r2 fun kd => ownX ρ2[i]? fun o w => dicX o fun kvs => keyX kd fun k => gr (kvs.length < 1000000) (.ok (.sh .none) (ρ2.set i (some (w (.dic (setK kvs k d)))))) := Eq.trans rfl rfl
@[simp ↓] theorem xiSeq_at (a : XE) (ρ : Rho) : xiSeq a ρ = (a ρ).bind fun r ρ' => withX r fun d => sqX d fun ds => .ok ds ρ' := Eq.trans rfl rfl
@[simp ↓] theorem xiOf_at (v : List PyData → Option (List PyData)) (t : XA) (ρ : Rho) : xiOf v t ρ = (t ρ).bind fun ds ρ' => ofO (v ds) ρ' := Eq.trans rfl rfl
@[simp ↓] theorem xFor_at (i : XA) (g : XG) (b : XS) (ρ : Rho) : xFor i g b ρ = (i ρ).to fun ds ρ' => forX g b ds ρ' := Eq.trans rfl rfl
@[simp ↓] theorem xLc_at (i : XA) (vs : List Nat) (g : XG) (T : XT) (e : XE) (ρ : Rho) : xLc i vs g T e ρ = (i ρ).bind fun ds ρ1 => gr (calmX ρ1 vs = true) ((lcX vs g T e ds [] (wipeR ρ1 vs)).bind fun acc ρ2 => .ok (.own (.lst acc)) (restR ρ2 ρ1 vs)) := Eq.trans rfl rfl
@[simp ↓] theorem xYes_at  (ρ : Rho) : xYes  ρ = .ok true ρ := Eq.trans rfl rfl
@[simp ↓] theorem xIsiN_at (n : String) (i : Nat) (ρ : Rho) : xIsiN n i ρ = slotTy ρ[i]? fun t => .ok (.sh (.bool (subT t n))) ρ := Eq.trans rfl rfl
@[simp ↓] theorem xExtend_at (i : Nat) (a : XE) (ρ : Rho) : xExtend i a ρ = ownX ρ[i]? fun o _ => lstX o fun _ => (a ρ).bind fun r ρ1 => owX r fun o2 => lstX o2 fun zs => ownX ρ1[i]? fun o w => lstX o fun xs => gr (xs.length + zs.length ≤ 1000000) (.ok (.sh .none) (ρ1.set i (some (w (.lst (xs ++ zs)))))) := Eq.trans rfl rfl
@[simp ↓] theorem rho_get0 (a : Option R) (l : Rho) : (a :: l : Rho)[0]? = some a := Eq.trans rfl rfl
@[simp ↓] theorem rho_getS (a : Option R) (l : Rho) (n : Nat) : (a :: l : Rho)[n + 1]? = l[n]? := Eq.trans rfl rfl
@[simp ↓] theorem rho_set0 (a b : Option R) (l : Rho) : (a :: l : Rho).set 0 b = b :: l := Eq.trans rfl rfl
@[simp ↓] theorem rho_setS (a b : Option R) (l : Rho) (n : Nat) : (a :: l : Rho).set (n + 1) b = a :: l.set n b := Eq.trans rfl rfl
@[simp] theorem ixX_0 (a : PyData) (l : List PyData) : ixX (a :: l) 0 = some (.sh a) := by unfold ixX; rw [at0]; rfl
@[simp] theorem ixX_1 (a b : PyData) (l : List PyData) : ixX (a :: b :: l) 1 = some (.sh b) := by unfold ixX; rw [at1]; rfl
@[simp] theorem ixX_2 (a b c : PyData) (l : List PyData) : ixX (a :: b :: c :: l) 2 = some (.sh c) := by unfold ixX; rw [at2]; rfl
@[simp] theorem ixX_3 (a b c d : PyData) (l : List PyData) : ixX (a :: b :: c :: d :: l) 3 = some (.sh d) := by unfold ixX; rw [at3]; rfl
@[simp] theorem ixX_4 (a b c d e : PyData) (l : List PyData) : ixX (a :: b :: c :: d :: e :: l) 4 = some (.sh e) := by unfold ixX; rw [at4]; rfl
@[simp] theorem ixX_5 (a b c d e f : PyData) (l : List PyData) : ixX (a :: b :: c :: d :: e :: f :: l) 5 = some (.sh f) := by unfold ixX; rw [at5]; rfl
@[simp] theorem ixN_0 (n : Nat) : ixN (n + 1) 0 = some 0 := by simp [ixN]
@[simp] theorem ixN_1 (n : Nat) : ixN (n + 1 + 1) 1 = some 1 := by simp [ixN]; omega
theorem ixX_of {ds : List PyData} {i : Int} {d : PyData} (h0 : 0 ≤ i) (h : ds[i.toNat]? = some d) : ixX ds i = some (.sh d) := by unfold ixX; rw [at_ge h0 h]; rfl
theorem ixX_last {ds : List PyData} {d : PyData} (h : ds.getLast? = some d) : ixX ds (-1) = some (.sh d) := by unfold ixX; rw [at_last h]; rfl
theorem ixX_map {α : Type} {f : α → PyData} {xs : List α} {i : Int} {x : α} (h0 : 0 ≤ i) (h : xs[i.toNat]? = some x) : ixX (xs.map f) i = some (.sh (f x)) := ixX_of h0 (by rw [List.getElem?_map, h]; rfl)
@[simp ↓] theorem calmX_nil (ρ : Rho) : calmX ρ [] = true := Eq.trans rfl rfl
theorem lcX_map {α : Type} {vs : List Nat} {g : XG} {T : XT} {e : XE} {enc : α → PyData} {f : α → Option PyData} {ρ : Rho} : ∀ (xs : List α) (acc : List PyData), (∀ x ∈ xs, turnX vs g T e (enc x) ρ = .ok (f x) ρ) → acc.length + xs.length ≤ 1000000 →
    lcX vs g T e (xs.map enc) acc ρ = .ok (acc ++ xs.filterMap f) ρ
  | [], acc, _, _ => by simp [lcX]
  | x :: xs, acc, h, hl => by
    rw [List.length_cons] at hl
    have ih := fun acc => lcX_map xs acc (fun y hy => h y (List.mem_cons_of_mem _ hy))
    rw [List.map_cons, lcX, h x List.mem_cons_self, Re.bind_ok, List.filterMap_cons]
    cases e : f x with
    | none => simp only; rw [ih acc (by omega)]
    | some y =>
      simp only
      rw [gr_ok (by omega), ih _ (by rw [List.length_append, List.length_cons, List.length_nil]; omega)]
      simp
theorem lcX_all {α : Type} {vs : List Nat} {g : XG} {T : XT} {e : XE} {enc f : α → PyData} {ρ : Rho} (xs : List α) (acc : List PyData) (h : ∀ x ∈ xs, turnX vs g T e (enc x) ρ = .ok (some (f x)) ρ) (hl : acc.length + xs.length ≤ 1000000) :
    lcX vs g T e (xs.map enc) acc ρ = .ok (acc ++ xs.map f) ρ := by
  rw [lcX_map xs acc h hl]
  congr 2
  induction xs with
  | nil => rfl
  | cons x xs ih => rw [List.filterMap_cons, List.map_cons]; simp
theorem lcX_filter {α : Type} {vs : List Nat} {g : XG} {T : XT} {e : XE} {enc f : α → PyData} {q : α → Bool} {ρ : Rho} (xs : List α) (acc : List PyData) (h : ∀ x ∈ xs, turnX vs g T e (enc x) ρ = .ok (if q x = true then some (f x) else none) ρ) (hl : acc.length + xs.length ≤ 1000000) :
    lcX vs g T e (xs.map enc) acc ρ = .ok (acc ++ (xs.filter q).map f) ρ := by
  rw [lcX_map xs acc h hl]
  congr 2
  clear h hl
  induction xs with
  | nil => rfl
  | cons x xs ih =>
    rw [List.filterMap_cons]
    cases hq : q x with
    | true => rw [List.filter_cons_of_pos hq]; simp [hq, ih]
    | false => rw [List.filter_cons_of_neg (by rw [hq]; decide)]; simp [hq, ih]
theorem forX_inv {α : Type} {g : XG} {b : XS} {enc : α → PyData} (P : List α → Rho → Prop) (h : ∀ x xs ρ, P (x :: xs) ρ → ∃ ρ1 ρ2, g (.sh (enc x)) ρ = some ρ1 ∧ (b ρ1 = .nx ρ2 ∨ b ρ1 = .ct ρ2) ∧ P xs ρ2) : ∀ (xs : List α) (ρ : Rho), P xs ρ → ∃ ρ', forX g b (xs.map enc) ρ = .nx ρ' ∧ P [] ρ'
  | [], ρ, p => ⟨ρ, rfl, p⟩
  | x :: xs, ρ, p => by
    obtain ⟨ρ1, ρ2, h1, h2, h3⟩ := h x xs ρ p
    obtain ⟨ρ', e, p'⟩ := forX_inv P h xs ρ2 h3
    refine ⟨ρ', ?_, p'⟩
    rw [List.map_cons, forX_cons, h1, opX_some]
    rcases h2 with h2 | h2 <;> (rw [h2]; exact e)
theorem rangeD_map0 (n : Nat) : rangeD 0 n = (List.range n).map fun (i : Nat) => PyData.int i := by
  unfold rangeD
  apply List.map_congr_left
  intro k _
  simp
end DX
set_option Elab.async false
set_option linter.all false
set_option maxRecDepth 100000
namespace DL
open PySem PyProof.Rows L2
section
variable {X : Cx} {a b : Expr} {Ga Gb : GE} {pos : Pos}
theorem callr_or {f : Value} {r1 r2 : List V → Hp → VK → Prop} (h1 : CallR X f r1) (h2 : CallR X f r2) : CallR X f (fun vs H Q => r1 vs H Q ∨ r2 vs H Q) := by
  intro pins s σ H vs us Q I r h
  rcases h with h | h
  · exact h1 _ _ _ _ _ _ _ I r h
  · exact h2 _ _ _ _ _ _ _ I r h
theorem calld_or {K : PySem.W.Frag} {r1 r2 : List V → Hp → VK → Prop} {W1 W2 : WC} (h1 : CallD K r1 W1) (h2 : CallD K r2 W2) : CallD K (fun vs H Q => r1 vs H Q ∨ r2 vs H Q) (fun ds Q => W1 ds Q ∨ W2 ds Q) :=
  ⟨fun ds Q Q' h q => q.imp (h1.mono ds Q Q' h) (h2.mono ds Q Q' h), fun c F H σ ρ vs ds Q Qv j a q k => q.imp (fun q => h1.ok c F H σ ρ vs ds Q Qv j a q k) (fun q => h2.ok c F H σ ρ vs ds Q Qv j a q k)⟩
def wStrI : WC
  | [.int i], Q => -1000000000000000000000000000000 < i ∧ i < 1000000000000000000000000000000 ∧ Q (.sh (.str (toString i)))
  | _, _ => False
section
variable {prog : Program} {w : World} {A : Around} {E : Value → Shared → Prop} {s : Shared} {l : Addr} {xs : Array (Int × Tok)}
theorem iter_tupleW {its : Array Value} {Q : Value → Shared → Prop} (hl : s.heap.IsTuple l its)
    (h : ∀ s₂ : Shared, s₂ = { s with heap := s.heap.push { cls := .type "tuple_iterator", data := .fields #[.ref l, .int 0 0] } } →
      (s₂.heap.IsTupleIter s.heap.objs.size l 0 ∧ s₂.heap.IsTuple l its) → (∀ b ∈ [s.heap.objs.size, l], b < s₂.heap.objs.size) → l ≠ s.heap.objs.size → Q (.ref s.heap.objs.size) s₂) :
    wpAny (model prog w) A (pyIter (.ref l)) Q E s := by
  have hlt : l < s.heap.objs.size := by obtain ⟨_, e, _⟩ := hl; exact Heap.lt_size e
  refine wpAny_pyIter_tuple hl (h _ rfl ⟨⟨_, Heap.get?_push_size _ rfl, rfl, rfl⟩, hl.push _⟩ (fun b hb => ?_) (Nat.ne_of_lt hlt))
  show b < (s.heap.push _).objs.size
  rw [Heap.size_push]
  rcases List.mem_cons.mp hb with rfl | hb
  · exact Nat.lt_succ_self _
  · rcases List.mem_cons.mp hb with rfl | hb
    · exact Nat.lt_succ_of_lt hlt
    · cases hb
theorem old_keptT {h' : Heap} (hk : ∀ b o, b ∉ [s.heap.objs.size] → (s.heap.push { cls := .type "tuple_iterator", data := .fields #[.ref l, .int 0 0] }).get? b = some o → h'.get? b = some o) :
    ∀ b o, s.heap.get? b = some o → h'.get? b = some o := fun b o e => by
  refine hk b o (fun hm => ?_) (Heap.get?_push_of_some _ e)
  rcases List.mem_cons.mp hm with e1 | hm
  · exact absurd (e1 ▸ Heap.lt_size e) (Nat.lt_irrefl _)
  · cases hm
theorem max_intTuple {Q : Value → Shared → Prop} (hh : A.handled = none) (hl : s.heap.IsTuple l (intItems xs)) (hne : 0 < xs.size)
    (h : ∀ v h' tk, (intItems xs)[argBest (fun i j => decide (numAt xs i > numAt xs j)) (xs.size - 1)]? = some v → (∀ b o, s.heap.get? b = some o → h'.get? b = some o) → Q v { s with heap := h', toks := tk }) :
    wpAny (model prog w) A (call (.builtin "max") [.ref l]) Q E s := by
  refine call_max_walk (iter_tupleW hl fun s₂ e st hfp hlI => ?_)
  subst e
  refine ⟨_, _, _, _, _, _, _, rfl, Walks.tuple (A := A.in1) hh _ l hlI (intItems xs), st, hfp, by simpa [intItems] using hne, CmpOf.ints_gt (numAt xs) (fun _ _ => intItems_at), fun v h' tk hP hk => ?_⟩
  exact h v h' tk (by simpa [intItems] using hP) (old_keptT hk)
theorem max_rawT {its : List Value} {ns : List Int} {Q : Value → Shared → Prop} (hh : A.handled = none) (hl : s.heap.IsTuple l its.toArray) (hi : IntsAre its ns) (hne : 0 < ns.length)
    (h : ∀ h' tk M t', (∀ b o, s.heap.get? b = some o → h'.get? b = some o) → M ∈ ns → (∀ a, a ∈ ns → a ≤ M) → Q (.int M t') { s with heap := h', toks := tk }) : wpAny (model prog w) A (call (.builtin "max") [.ref l]) Q E s := by
  obtain ⟨xs, e⟩ := hi.allInts.items
  have hn : numsOf (intItems xs).toList = ns := by rw [← e]; exact hi.numsOf
  rw [nums_intItems] at hn
  subst hn
  rw [e] at hl
  have hsz : 0 < xs.size := by simpa using hne
  refine max_intTuple hh hl hsz fun v h' tk hv hk => ?_
  obtain ⟨t, rfl⟩ := intItems_at hv
  obtain ⟨h1, h2⟩ := argBest_gt (numAt xs) (xs.size - 1)
  refine h h' tk _ t hk ?_ fun a ha => ?_
  · rw [numAt_eq]; exact PySem.getD_mem (by rw [List.length_map, Array.length_toList]; omega)
  · obtain ⟨j, hj, rfl⟩ := mem_getD ha
    rw [List.length_map, Array.length_toList] at hj
    rw [← numAt_eq]; exact h2 j (by omega)
end
def rMaxT (K : PySem.W.Frag) : List V → Hp → VK → Prop := fun vs H Q => ∃ (a : Addr) (ns : List Int), vs = [V.ref a] ∧ SqT K H a (ns.map V.int) ∧ 0 < ns.length ∧ ∀ m, m ∈ ns → (∀ y, y ∈ ns → y ≤ m) → Q (.int m) H
theorem cr_maxT (hc : X.calm = true) : CallR X (.builtin "max") (rMaxT X.K) := by
  intro pins s σ H vs us Q I r h
  obtain ⟨a, ns, rfl, hs, hne, q⟩ := h
  obtain ⟨its, rv, hl, _⟩ := I.tuple hs
  rw [Vals.ref1 r]
  exact max_rawT (I.ok.hd hc) hl rv.ints hne fun h' tk m t' hk h1 h2 => ⟨.int _, H, I.kept hk, ⟨_, rfl⟩, q m h1 h2⟩
def wMaxT : WC
  | [.tuple ds], Q => (match intsOf ds with | some ns => 0 < ns.length ∧ ∀ m, m ∈ ns → (∀ y, y ∈ ns → y ≤ m) → Q (.sh (.int m)) | none => False)
  | _, _ => False
theorem cd_maxT {K : PySem.W.Frag} : CallD K (rMaxT K) wMaxT := ⟨fun ds Q Q' h q => by
  unfold wMaxT at *
  split at q
  · split at q
    · exact ⟨q.1, fun m a b => h _ (q.2 m a b)⟩
    · exact q
  · exact q, fun c F H σ ρ vs ds Q Qv j a q k => by
  unfold wMaxT at q
  split at q
  · split at q
    · next ns en =>
      cases a with | cons h t => cases t with | nil =>
      obtain ⟨l, xs, rfl, h1, a1⟩ := dp_tup h
      rw [intsOf_eq en] at a1
      rw [DpAll.ints_inv a1] at h1
      exact ⟨l, ns, rfl, sqT_same j.fh h1, q.1, fun m ha hb => k _ F H _ (q.2 m ha hb) j (.int _)⟩
    · exact q.elim
  · exact q.elim⟩
theorem de_maxA {t : GA} {p : Pos} (hcm : X.calm = true) (hg : Gl X "max") (hm : X.mg "max" = none) (h : DA X [a] t) (he : starEach [a] X.env = [(false, eval a X.env)] := by rfl) (hpl : (backTo pos (starEach [] X.env)).any (·.1) = false := by rfl) : DE X (.Call (.Name "max" p) [a] [] pos) (gBlt (fun ds Q => wMaxL ds Q ∨ wMaxT ds Q) t) := de_blt (calld_or cd_maxL cd_maxT) (callr_or (cr_max hcm) (cr_maxT hcm)) hg hm (by decide +kernel) h (by decide) (by decide) he hpl
end
end DL
set_option Elab.async false
set_option linter.all false
set_option maxRecDepth 100000
namespace DX
open PySem PyProof.Rows L2 DL
section
variable {X : Cx} {a b : Expr} {pos p : Pos} {t : XA}
def vStrB : VC
  | [.int i] => gd (-1000000000000000000000000000000 < i ∧ i < 1000000000000000000000000000000) (some (.sh (.str (toString i))))
  | [.list ds] => strX (.list ds)
  | [.tuple ds] => strX (.tuple ds)
  | _ => none
def vMaxA : VC
  | [.list ds] => (intsOf ds).bind fun ns => gd (0 < ns.length) (some (.sh (.int (maxOf ns))))
  | [.tuple ds] => (intsOf ds).bind fun ns => gd (0 < ns.length) (some (.sh (.int (maxOf ns))))
  | _ => none
@[simp ↓] theorem vMaxA_list (ds : List PyData) : vMaxA [.list ds] = (intsOf ds).bind fun ns => gd (0 < ns.length) (some (.sh (.int (maxOf ns)))) := Eq.trans rfl rfl
theorem lc_maxA : Lc vMaxA (fun ds Q => wMaxL ds Q ∨ wMaxT ds Q) := fun ds z Q h q => by
  unfold vMaxA at h
  split at h
  · next ds =>
    cases e : intsOf ds with
    | none => rw [e] at h; cases h
    | some ns =>
      rw [e] at h
      obtain ⟨c, h⟩ := gd_inv h
      cases h
      refine .inl ?_
      show (match intsOf ds with | some ns => 0 < ns.length ∧ ∀ m, m ∈ ns → (∀ y, y ∈ ns → y ≤ m) → Q (.sh (.int m)) | none => False)
      rw [e]
      exact ⟨c, fun m h1 h2 => by rw [← maxOf_eq h1 h2]; exact q⟩
  · next ds =>
    cases e : intsOf ds with
    | none => rw [e] at h; cases h
    | some ns =>
      rw [e] at h
      obtain ⟨c, h⟩ := gd_inv h
      cases h
      refine .inr ?_
      show (match intsOf ds with | some ns => 0 < ns.length ∧ ∀ m, m ∈ ns → (∀ y, y ∈ ns → y ≤ m) → Q (.sh (.int m)) | none => False)
      rw [e]
      exact ⟨c, fun m h1 h2 => by rw [← maxOf_eq h1 h2]; exact q⟩
  · cases h
theorem xe_maxA (hcm : X.calm = true) (hg : Gl X "max") (hm : X.mg "max" = none) (h : AX X [a] t) (he : starEach [a] X.env = [(false, eval a X.env)] := by rfl) (hpl : (backTo pos (starEach [] X.env)).any (·.1) = false := by rfl) : EX X (.Call (.Name "max" p) [a] [] pos) (xBlt vMaxA t) := exI (de_maxA hcm hg hm h he hpl) (im_blt lc_maxA)
end
end DX
set_option Elab.async false
set_option linter.all false
set_option maxRecDepth 100000
namespace DL
open PySem PyProof.Rows L2
section
variable {X : Cx} {a b e : Expr} {pos : Pos}
def rI3 (f : Int → Int → Int → Int) : List V → Hp → VK → Prop := fun xs H Q => ∃ i j k, xs = [.int i, .int j, .int k] ∧ Q (.int (f i j k)) H
def max3 (i j k : Int) : Int := if j > i then (if k > j then k else j) else (if k > i then k else i)
theorem vals3 {x y z : V} {us : List Value} (r : Vals [x, y, z] us) : ∃ u v w, us = [u, v, w] ∧ RelV x u ∧ RelV y v ∧ RelV z w := by
  cases r with | cons h1 r => cases r with | cons h2 r => cases r with | cons h3 r => cases r with | nil => exact ⟨_, _, _, rfl, h1, h2, h3⟩
theorem call_max3 (hc : X.calm = true) : CallR X (.builtin "max") (rI3 max3) := by
  intro pins s σ H xs us Q I r h
  obtain ⟨i, j, k, rfl, q⟩ := h
  obtain ⟨u, v, w, rfl, ⟨t1, rfl⟩, ⟨t2, rfl⟩, ⟨t3, rfl⟩⟩ := vals3 r
  refine max_three_ints (I.ok.hd hc) fun h' tk hk => ⟨.int (max3 i j k), H, I.kept hk, ?_, q⟩
  unfold max3
  split <;> split <;> exact ⟨_, rfl⟩
def wI3 (f : Int → Int → Int → Int) : WC
  | [.int i, .int j, .int k], Q => Q (.sh (.int (f i j k)))
  | _, _ => False
theorem cd_I3 {K : PySem.W.Frag} {f : Int → Int → Int → Int} : CallD K (rI3 f) (wI3 f) := ⟨fun ds Q Q' h q => by
  unfold wI3 at *
  split at q
  · exact h _ q
  · exact q, fun c F H σ ρ vs ds Q Qv j a q k => by
  unfold wI3 at q
  split at q
  · cases a with | cons h1 t => cases t with | cons h2 t => cases t with | cons h3 t => cases t with | nil =>
    cases h1; cases h2; cases h3
    exact ⟨_, _, _, rfl, k _ F H _ q j (.int _)⟩
  · exact q.elim⟩
theorem de_max3 {t : GA} {p : Pos} (hcm : X.calm = true) (hg : Gl X "max") (hm : X.mg "max" = none) (h : DA X [a, b, e] t) (he : starEach [a, b, e] X.env = (false, eval a X.env) :: starEach [b, e] X.env := by rfl) (hpl : (backTo pos (starEach [b, e] X.env)).any (·.1) = false := by rfl) : DE X (.Call (.Name "max" p) [a, b, e] [] pos) (gBlt (wI3 max3) t) := de_blt cd_I3 (call_max3 hcm) hg hm (by decide +kernel) h (by decide) (by decide) he hpl
end
end DL
set_option Elab.async false
set_option linter.all false
set_option maxRecDepth 100000
namespace DX
open PySem PyProof.Rows L2 DL
section
variable {X : Cx} {a b e : Expr} {pos p : Pos} {t : XA}
def vI3 (f : Int → Int → Int → Int) : VC
  | [.int i, .int j, .int k] => some (.sh (.int (f i j k)))
  | _ => none
abbrev vMax3 : VC := vI3 max3
@[simp ↓] theorem vI3_int (f : Int → Int → Int → Int) (i j k : Int) : vI3 f [.int i, .int j, .int k] = some (.sh (.int (f i j k))) := Eq.trans rfl rfl
theorem lc_I3 {f : Int → Int → Int → Int} : Lc (vI3 f) (wI3 f) := fun ds z Q h q => by
  unfold vI3 at h
  split at h
  · cases h; exact q
  · cases h
theorem xe_max3 (hcm : X.calm = true) (hg : Gl X "max") (hm : X.mg "max" = none) (h : AX X [a, b, e] t) (he : starEach [a, b, e] X.env = (false, eval a X.env) :: starEach [b, e] X.env := by rfl) (hpl : (backTo pos (starEach [b, e] X.env)).any (·.1) = false := by rfl) : EX X (.Call (.Name "max" p) [a, b, e] [] pos) (xBlt vMax3 t) := exI (de_max3 hcm hg hm h he hpl) (im_blt lc_I3)
end
end DX
set_option Elab.async false
set_option linter.all false
set_option maxRecDepth 100000
namespace DL
open PySem PyProof.Rows L2
section
variable {X : Cx}
def GlT (K : PySem.W.Frag) (mg : Str → Option Value) (x : Str) (ns : List Int) : Prop := ∃ (a : Addr) (o : Obj) (its : Array Value) (n : Nat), mg x = some (.ref a) ∧ K.lookup a = some o ∧ (o.cls, o.dict) = (Value.type "tuple", (none : Option Addr)) ∧ o.data = .seq its n ∧ its.size ≤ sizeLine ∧ Vals (ns.map V.int) its.toList
theorem dpInts {K : PySem.W.Frag} {F : Hp} : ∀ ns : List Int, DpAll K F (ns.map V.int) (ns.map .int)
  | [] => .nil
  | i :: ns => .cons (.int i) (dpInts ns)
theorem de_globT {x : Str} {ns : List Int} {pos : Pos} (hg : Gl X x) (hm : GlT X.K X.mg x ns) (hd : (x == ("__debug__" : Str)) = false := by decide) : DE X (.Name x pos) (gC (.tuple (ns.map .int))) := by
  obtain ⟨a, o, its, n, h1, h2, h3, h4, h5, h6⟩ := hm
  exact ⟨gC_mono _, peI (pe_glob (v := .ref a) hg h1 rfl hd) fun σ H Q ⟨c, F, ρ, j, q⟩ => q F H _ j (.tup (.inr ⟨o, its, n, h2, h3, h4, h5, h6⟩) (dpInts ns))⟩
theorem glT_mk {K : PySem.W.Frag} {mg : Str → Option Value} {x : Str} {ns : List Int} {a : Addr} {its : Array Value} {n : Nat} {sl : Array (Option Value)} (h : mg x = some (.ref a)) (l : K.lookup a = some ⟨.type "tuple", none, .seq its n, sl⟩) (hz : its.size ≤ 1000) (v : Vals (ns.map V.int) its.toList) : GlT K mg x ns :=
  ⟨a, _, its, n, h, l, rfl, rfl, by have : sizeLine = 16777216 := sizeLine_eq; omega, v⟩
end
end DL
set_option Elab.async false
set_option linter.all false
set_option maxRecDepth 100000
namespace DX
open PySem PyProof.Rows L2 DL
section
variable {X : Cx} {pos : Pos}
theorem xe_globT {x : Str} {ns : List Int} (hg : Gl X x) (hm : GlT X.K X.mg x ns) (hd : (x == ("__debug__" : Str)) = false := by decide) : EX X (.Name x pos) (xC (.tuple (ns.map .int))) := xc_of (de_globT hg hm hd)
end
end DX
set_option Elab.async false
set_option linter.all false
set_option maxRecDepth 100000
namespace DL
open PySem PyProof.Rows L2
section
variable {prog : Program} {w : World} {A : Around} {R : Result → Shared → Prop} {J0 : Addr} {fp wr : List Addr} {n : Nat} {P : Nat → Value → Prop} {St : Nat → Heap → Prop}
end
section
variable {prog : Program} {w : World} {A : Around} {E : Value → Shared → Prop} {s : Shared} {l : Addr}
end
section
variable {prog : Program} {w : World} {A : Around} {R : Result → Shared → Prop} {J0 : Addr} {fp wr : List Addr} {n : Nat} {P : Nat → Value → Prop} {St : Nat → Heap → Prop}
end
section
variable {prog : Program} {w : World} {A : Around} {E : Value → Shared → Prop} {s : Shared} {l : Addr}
end
section
variable {X : Cx} {a b e : Expr} {es : List Expr} {pos p kp : Pos} {id : String} {x : Str}
def CDivW (i j : Int) : Prop := 0 < j ∧ j.natAbs.log2 < 9000
end
end DL
set_option Elab.async false
set_option linter.all false
set_option maxRecDepth 100000
namespace DX
open PySem PyProof.Rows L2 DL
section
variable {X : Cx} {a b e : Expr} {pos p kp : Pos} {xa xb : XE}
instance (i j : Int) : Decidable (CDivW i j) := by unfold CDivW; infer_instance
end
end DX
set_option Elab.async false
set_option linter.all false
set_option maxRecDepth 100000
namespace DL
open PySem L2
section
variable {K : PySem.W.Frag} {c : En} {F F' H H' : Hp} {σ : L2.St} {ρ : Rho}
open Classical in
open Classical in
end
section
variable {X : Cx} {e : Expr}
end
end DL
set_option Elab.async false
set_option linter.all false
set_option maxRecDepth 100000
namespace DX
open PySem PyProof.Rows L2 DL
section
variable {X : Cx} {e : Expr} {xa : XE} {ta : XT}
end
end DX
set_option Elab.async false
set_option linter.all false
set_option maxRecDepth 100000
namespace DL
open PySem PyProof.Rows L2
section
variable {X : Cx} {a b e o : Expr} {Ga Gb : GE} {pos : Pos}
end
theorem sw_cell {elt : Expr} {gs : List Comprehension} {scope : Scope} {pos py : Pos} {y : Str} {l : Nat} {env : Env} (hy : env.scope.names.lookup y = some .cell) : swapsWith (.ListComp elt gs scope pos) (some (.Name y py)) l env = pure false := by
  have ky : env.kindOf y = some .cell := hy
  unfold swapsWith
  simp only [ky]
  have e : ((some NameKind.cell : Option NameKind) == some .local) = false := rfl
  simp only [e, Bool.and_false, Bool.false_and]
end DL
set_option Elab.async false
set_option linter.all false
set_option maxRecDepth 100000
namespace DX
open PySem PyProof.Rows L2 DL
section
variable {X : Cx} {a b : Expr} {pos : Pos} {xa xb : XE}
end
end DX
set_option Elab.async false
set_option linter.all false
set_option maxRecDepth 100000
namespace DL
open PySem L2
section
variable {X : Cx} {tg tg1 a b e : Expr} {es : List Expr} {Ga Gb : GE} {pos : Pos}
variable {elt iter iter1 : Expr} {ifs ifs1 : List Expr} {scope : Scope} {own : List (Str × Nat)} {vs1 : List Nat} {i i1 : GI} {g g1 : GG} {T T1 : GT} {Ge : GE} {sl sl1 : List Nat}
end
end DL
set_option Elab.async false
set_option linter.all false
set_option maxRecDepth 100000
namespace DX
open PySem PyProof.Rows L2 DL
section
variable {X : Cx} {a b tg tg1 : Expr} {pos p : Pos} {scope : Scope} {t : XA}
variable {elt iter iter1 : Expr} {ifs ifs1 : List Expr} {own : List (Str × Nat)} {vs1 : List Nat} {i i1 : XA} {g g1 : XG} {T T1 : XT} {xe : XE} {sl sl1 : List Nat}
end
section
variable {X : Cx} {a b : Expr} {pos py : Pos} {y : Str} {i : Nat} {xa xb : XE}
end
end DX
set_option Elab.async false
set_option linter.all false
set_option maxRecDepth 100000
set_option maxHeartbeats 1000000
namespace PF
open PySem PySem.W PyProof.Rows
section
variable {α β : Type}
def ask (lt : Nat → Nat → Bool) : KasT α → α
  | .ret a => a
  | .ask i j k => ask lt (k (lt i j))
theorem ask_bind (lt : Nat → Nat → Bool) (f : α → KasT β) : ∀ t : KasT α, ask lt (t.bind f) = ask lt (f (ask lt t))
  | .ret _ => rfl
  | .ask i j k => ask_bind lt f (k (lt i j))
end
variable (r : Nat → Int)
abbrev rlt : Nat → Nat → Bool := fun i j => decide (r i < r j)
def ky (p : Array Nat) (i : Nat) : Int := r (p.getD i 0)
def Up (p : Array Nat) (k : Nat) : Prop := ∀ i j, i ≤ j → j < k → ky r p i ≤ ky r p j
def Down (p : Array Nat) (k : Nat) : Prop := ∀ i j, i ≤ j → j < k → ky r p j ≤ ky r p i
variable {r}
theorem ky_congr {p q : Array Nat} {i j : Nat} (h : p[i]? = q[j]?) : ky r p i = ky r q j := by
  unfold ky
  rw [Array.getD_eq_getD_getElem?, Array.getD_eq_getD_getElem?, h]
theorem ky_rev {p : Array Nat} {i j : Nat} (hj : j ≤ p.size) (k : Nat) : ky r (kas_rev p i j) k = if i ≤ k ∧ k < j then ky r p (i + j - 1 - k) else ky r p k := by
  have h := getElem?_mirror_all (xs := p) (i := i) hj k
  split
  · next c => exact ky_congr (by unfold kas_rev; rw [h, if_pos c])
  · next c => exact ky_congr (by unfold kas_rev; rw [h, if_neg c])
theorem ky_rev_eq {p : Array Nat} {i j : Nat} (hj : j ≤ p.size) (e : ∀ k, i ≤ k → k < j → ky r p k = ky r p (j - 1)) (k : Nat) : ky r (kas_rev p i j) k = ky r p k := by
  rw [ky_rev hj]
  split
  · rw [e k (by omega) (by omega), e _ (by omega) (by omega)]
  · rfl
theorem rev_perm (p : Array Nat) (i j : Nat) : (kas_rev p i j).Perm p := mirror_perm _ _ _ _
theorem Up.more {p : Array Nat} {n : Nat} (h : Up r p n) (h1 : 1 ≤ n) (hn : ¬ ky r p n < ky r p (n - 1)) : Up r p (n + 1) := by
  intro i j hij hj
  by_cases e : j = n
  · subst e
    by_cases e2 : i = j
    · subst e2; omega
    · have := h i (j - 1) (by omega) (by omega)
      omega
  · exact h i j hij (by omega)
theorem Down.more {p : Array Nat} {n : Nat} (h : Down r p n) (h1 : 1 ≤ n) (hn : ky r p n ≤ ky r p (n - 1)) : Down r p (n + 1) := by
  intro i j hij hj
  by_cases e : j = n
  · subst e
    by_cases e2 : i = j
    · subst e2; omega
    · have := h i (j - 1) (by omega) (by omega)
      omega
  · exact h i j hij (by omega)
theorem asc_ok {p : Array Nat} : ∀ (f n : Nat), 1 ≤ n → Up r p n → n ≤ ask (rlt r) (kas_asc p f n) ∧ ask (rlt r) (kas_asc p f n) ≤ n + f ∧ Up r p (ask (rlt r) (kas_asc p f n)) ∧ (ask (rlt r) (kas_asc p f n) < n + f → ky r p (ask (rlt r) (kas_asc p f n)) < ky r p (ask (rlt r) (kas_asc p f n) - 1))
  | 0, n, h1, h => ⟨Nat.le_refl _, Nat.le_refl _, h, fun z => absurd z (Nat.lt_irrefl _)⟩
  | f + 1, n, h1, h => by
    by_cases c : ky r p n < ky r p (n - 1)
    · have e : ask (rlt r) (kas_asc p (f + 1) n) = n := by
        show ask (rlt r) (if decide (ky r p n < ky r p (n - 1)) = true then .ret n else kas_asc p f (n + 1)) = n
        rw [if_pos (decide_eq_true c)]
        rfl
      rw [e]
      exact ⟨Nat.le_refl _, by omega, h, fun _ => c⟩
    · have e : ask (rlt r) (kas_asc p (f + 1) n) = ask (rlt r) (kas_asc p f (n + 1)) := by
        show ask (rlt r) (if decide (ky r p n < ky r p (n - 1)) = true then .ret n else kas_asc p f (n + 1)) = _
        rw [if_neg (fun z => c (of_decide_eq_true z))]
      rw [e]
      obtain ⟨a, b, d, g⟩ := asc_ok (p := p) f (n + 1) (by omega) (h.more h1 c)
      exact ⟨by omega, by omega, d, fun z => g (by omega)⟩
structure DOk (r : Nat → Int) (p0 p : Array Nat) (n q : Nat) : Prop where
  perm : p.Perm p0
  down : Down r p n
  le : q + 1 ≤ n
  eq : ∀ k, n - (q + 1) ≤ k → k < n → ky r p k = ky r p (n - 1)
theorem DOk.turn {p0 p : Array Nat} {n q : Nat} (h : DOk r p0 p n q) (hn : n ≤ p0.size) : DOk r p0 (kas_rev p (n - (q + 1)) n) n q := by
  have hs : n ≤ p.size := by rw [h.perm.size_eq]; exact hn
  have kk := ky_rev_eq (r := r) (p := p) (i := n - (q + 1)) (j := n) hs h.eq
  exact ⟨(rev_perm _ _ _).trans h.perm, fun i j a b => by rw [kk, kk]; exact h.down i j a b, h.le, fun k a b => by rw [kk, kk]; exact h.eq k a b⟩
theorem DOk.zero {p0 p : Array Nat} {n q : Nat} (h : DOk r p0 p n q) : DOk r p0 p n 0 := ⟨h.perm, h.down, by have := h.le; omega, fun k a b => by rw [show k = n - 1 by omega]⟩
theorem desc_ok {p0 : Array Nat} : ∀ (f : Nat) (p : Array Nat) (n q : Nat), n + f ≤ p0.size → DOk r p0 p n q → ∃ p' n' q', ask (rlt r) (kas_desc f p n q) = (p', n', q') ∧ n ≤ n' ∧ n' ≤ n + f ∧ DOk r p0 p' n' q'
  | 0, p, n, q, hn, h => ⟨p, n, q, rfl, Nat.le_refl _, Nat.le_refl _, h⟩
  | f + 1, p, n, q, hn, h => by
    have hl := h.le
    have u : ask (rlt r) (kas_desc (f + 1) p n q) = ask (rlt r) (if decide (ky r p n < ky r p (n - 1)) = true then (if q > 0 then kas_desc f (kas_rev p (n - (q + 1)) n) (n + 1) 0 else kas_desc f p (n + 1) 0) else .ask (p.getD (n - 1) 0) (p.getD n 0) fun d => if d = true then .ret (p, n, q) else kas_desc f p (n + 1) (q + 1)) := rfl
    rw [u]
    by_cases c : ky r p n < ky r p (n - 1)
    · rw [if_pos (decide_eq_true c)]
      have go : ∀ p1 : Array Nat, DOk r p0 p1 n q → (∀ k, ky r p1 k = ky r p k) → ∃ p' n' q', ask (rlt r) (kas_desc f p1 (n + 1) 0) = (p', n', q') ∧ n ≤ n' ∧ n' ≤ n + (f + 1) ∧ DOk r p0 p' n' q' := fun p1 h1 kk => by
        have d2 : DOk r p0 p1 (n + 1) 0 := ⟨h1.perm, h1.down.more (by omega) (by rw [kk, kk]; omega), by omega, fun k a b => by rw [show k = n + 1 - 1 by omega]⟩
        obtain ⟨p', n', q', e, a, b, d⟩ := desc_ok f p1 (n + 1) 0 (by omega) d2
        exact ⟨p', n', q', e, by omega, by omega, d⟩
      by_cases q0 : q > 0
      · rw [if_pos q0]
        exact go _ (h.turn (by omega)) fun k => ky_rev_eq (by rw [h.perm.size_eq]; omega) h.eq k
      · rw [if_neg q0]
        exact go p h fun _ => rfl
    · rw [if_neg (fun z => c (of_decide_eq_true z))]
      show ∃ p' n' q', ask (rlt r) (if decide (ky r p (n - 1) < ky r p n) = true then .ret (p, n, q) else kas_desc f p (n + 1) (q + 1)) = (p', n', q') ∧ _
      by_cases d : ky r p (n - 1) < ky r p n
      · rw [if_pos (decide_eq_true d)]
        exact ⟨p, n, q, rfl, Nat.le_refl _, by omega, h⟩
      · rw [if_neg (fun z => d (of_decide_eq_true z))]
        have d2 : DOk r p0 p (n + 1) (q + 1) := ⟨h.perm, h.down.more (by omega) (by omega), by omega, fun k a b => by
          by_cases e : k = n
          · rw [show n + 1 - 1 = n by omega, e]
          · rw [show n + 1 - 1 = n by omega, h.eq k (by omega) (by omega)]; omega⟩
        obtain ⟨p', n', q', e, a, b, d⟩ := desc_ok f p (n + 1) (q + 1) (by omega) d2
        exact ⟨p', n', q', e, by omega, by omega, d⟩
theorem Down.rev {p : Array Nat} {n : Nat} (h : Down r p n) (hn : n ≤ p.size) : Up r (kas_rev p 0 n) n := by
  intro i j hij hj
  rw [ky_rev hn, ky_rev hn, if_pos ⟨Nat.zero_le _, by omega⟩, if_pos ⟨Nat.zero_le _, hj⟩]
  exact h _ _ (by omega) (by omega)
structure UOk (r : Nat → Int) (p0 p : Array Nat) (n : Nat) : Prop where
  perm : p.Perm p0
  up : Up r p n
theorem tail_ok {p0 p : Array Nat} {n nrem q : Nat} (hm : nrem ≤ p0.size) (h1 : 1 ≤ n) (hn : n ≤ nrem) (h : DOk r p0 p n q) : ∃ p' n', ask (rlt r) (kas_tail3 n nrem p) = (n', p') ∧ 1 ≤ n' ∧ n' ≤ nrem ∧ UOk r p0 p' n' := by
  have hs : n ≤ p.size := by rw [h.perm.size_eq]; omega
  have u := h.down.rev hs
  obtain ⟨a, b, c, _⟩ := asc_ok (r := r) (p := kas_rev p 0 n) (nrem - n) n h1 u
  refine ⟨kas_rev p 0 n, _, ?_, by omega, by omega, (rev_perm _ _ _).trans h.perm, c⟩
  unfold kas_tail3
  rw [ask_bind]
  rfl
theorem descPart_ok {p0 p : Array Nat} {n nrem : Nat} (hm : nrem ≤ p0.size) (h1 : 1 ≤ n) (hn : n + 1 ≤ nrem) (hp : p.Perm p0) (h : Down r p n) (hd : ky r p n < ky r p (n - 1)) : ∃ p' n', ask (rlt r) (kas_descPart n nrem p) = (n', p') ∧ 1 ≤ n' ∧ n' ≤ nrem ∧ UOk r p0 p' n' := by
  have d0 : DOk r p0 p (n + 1) 0 := ⟨hp, h.more h1 (by omega), by omega, fun k a b => by rw [show k = n + 1 - 1 by omega]⟩
  obtain ⟨p1, n1, q1, e, a, b, d⟩ := desc_ok (r := r) (nrem - (n + 1)) p (n + 1) 0 (by omega) d0
  unfold kas_descPart
  rw [ask_bind, e]
  show ∃ p' n', ask (rlt r) (if q1 > 0 then kas_tail3 n1 nrem (kas_rev p1 (n1 - (q1 + 1)) n1) else kas_tail3 n1 nrem p1) = (n', p') ∧ _
  by_cases q0 : q1 > 0
  · rw [if_pos q0]
    exact tail_ok hm (by omega) (by omega) (d.turn (by omega))
  · rw [if_neg q0]
    exact tail_ok hm (by omega) (by omega) d
theorem count_ok {p0 p : Array Nat} {nrem : Nat} (hm : nrem ≤ p0.size) (h1 : 1 ≤ nrem) (hp : p.Perm p0) : ∃ p' n', ask (rlt r) (kas_count nrem p) = (n', p') ∧ 1 ≤ n' ∧ n' ≤ nrem ∧ UOk r p0 p' n' := by
  have u1 : Up r p 1 := fun i j a b => by rw [show i = j by omega]; omega
  obtain ⟨a, b, c, d⟩ := asc_ok (r := r) (p := p) (nrem - 1) 1 (Nat.le_refl _) u1
  unfold kas_count
  rw [ask_bind]
  generalize ask (rlt r) (kas_asc p (nrem - 1) 1) = n at a b c d
  by_cases e : n = nrem
  · subst e
    rw [if_pos (by simp)]
    exact ⟨p, n, rfl, h1, Nat.le_refl _, hp, c⟩
  · rw [if_neg (by simpa using e)]
    have dd := d (by omega)
    by_cases n1 : n > 1
    · rw [if_pos n1]
      show ∃ p' n', ask (rlt r) (if decide (ky r p 0 < ky r p (n - 1)) = true then .ret (n, p) else kas_descPart n nrem (kas_rev p 0 n)) = (n', p') ∧ _
      by_cases z : ky r p 0 < ky r p (n - 1)
      · rw [if_pos (decide_eq_true z)]
        exact ⟨p, n, rfl, by omega, by omega, hp, c⟩
      · rw [if_neg (fun y => z (of_decide_eq_true y))]
        have hs : n ≤ p.size := by rw [hp.size_eq]; omega
        have eq : ∀ k, 0 ≤ k → k < n → ky r p k = ky r p (n - 1) := fun k _ hk => by
          have x1 := c 0 k (Nat.zero_le _) hk
          have x2 := c k (n - 1) (by omega) (by omega)
          omega
        have kk := ky_rev_eq (r := r) hs eq
        refine descPart_ok hm a (by omega) ((rev_perm _ _ _).trans hp) (fun i j x y => ?_) (by rw [kk, kk]; exact dd)
        rw [kk, kk, eq i (Nat.zero_le _) (by omega), eq j (Nat.zero_le _) y]
        exact Int.le_refl _
    · rw [if_neg n1]
      obtain rfl : n = 1 := by omega
      exact descPart_ok hm a (by omega) hp (fun i j x y => by rw [show i = j by omega]; omega) dd
theorem place_ok {p : Array Nat} {k : Nat} (h : Up r p k) : ∀ (f l m : Nat), l ≤ m → m ≤ k → m - l ≤ f → (∀ i, i < l → ky r p i ≤ ky r p k) → (∀ i, m ≤ i → i < k → ky r p k < ky r p i) →
    ∃ x, ask (rlt r) (kas_place p k f l m) = x ∧ x ≤ k ∧ (∀ i, i < x → ky r p i ≤ ky r p k) ∧ ∀ i, x ≤ i → i < k → ky r p k < ky r p i
  | 0, l, m, a, b, c, lo, hi => ⟨l, rfl, by omega, lo, fun i x y => hi i (by omega) y⟩
  | f + 1, l, m, a, b, c, lo, hi => by
    by_cases g : l ≥ m
    · refine ⟨l, ?_, by omega, lo, fun i x y => hi i (by omega) y⟩
      unfold kas_place
      rw [if_pos g]
      rfl
    · have e : ask (rlt r) (kas_place p k (f + 1) l m) = ask (rlt r) (if decide (ky r p k < ky r p ((l + m) / 2)) = true then kas_place p k f l ((l + m) / 2) else kas_place p k f ((l + m) / 2 + 1) m) := by
        rw [kas_place, if_neg g]
        rfl
      rw [e]
      by_cases z : ky r p k < ky r p ((l + m) / 2)
      · rw [if_pos (decide_eq_true z)]
        exact place_ok h f l ((l + m) / 2) (by omega) (by omega) (by omega) lo fun i x y => by
          have := h ((l + m) / 2) i x y
          omega
      · rw [if_neg (fun y => z (of_decide_eq_true y))]
        exact place_ok h f ((l + m) / 2 + 1) m (by omega) (by omega) (by omega) (fun i x => by
          have := h i ((l + m) / 2) (by omega) (by omega)
          omega) hi
theorem ky_bubble {p : Array Nat} {k d : Nat} (hk : k < p.size) (hd : d ≤ k) (i : Nat) : ky r (bubble p k d) i = if i = k - d then ky r p k else if k - d < i ∧ i ≤ k then ky r p (i - 1) else ky r p i := by
  have h := getElem?_bubble (xs := p) hk d hd i
  split
  · next c => exact ky_congr (by rw [h, if_pos c])
  · next c =>
    split
    · next c2 => exact ky_congr (by rw [h, if_neg c, if_pos c2])
    · next c2 => exact ky_congr (by rw [h, if_neg c, if_neg c2])
theorem ins_ok {p : Array Nat} {k x : Nat} (hk : k < p.size) (h : Up r p k) (hx : x ≤ k) (lo : ∀ i, i < x → ky r p i ≤ ky r p k) (hi : ∀ i, x ≤ i → i < k → ky r p k < ky r p i) : Up r (bubble p k (k - x)) (k + 1) := by
  intro i j hij hj
  rw [ky_bubble hk (by omega), ky_bubble hk (by omega), show k - (k - x) = x by omega]
  by_cases e1 : i = x
  · rw [if_pos e1]
    by_cases e2 : j = x
    · rw [if_pos e2]; exact Int.le_refl _
    · rw [if_neg e2, if_pos ⟨by omega, by omega⟩]
      have := hi (j - 1) (by omega) (by omega)
      omega
  · rw [if_neg e1]
    by_cases c1 : x < i ∧ i ≤ k
    · rw [if_pos c1, if_neg (by omega), if_pos ⟨by omega, by omega⟩]
      exact h _ _ (by omega) (by omega)
    · rw [if_neg c1]
      by_cases e2 : j = x
      · rw [if_pos e2]
        exact lo i (by omega)
      · rw [if_neg e2]
        by_cases c2 : x < j ∧ j ≤ k
        · rw [if_pos c2]
          exact h _ _ (by omega) (by omega)
        · rw [if_neg c2]
          exact h _ _ hij (by omega)
theorem bin_ok {p0 : Array Nat} : ∀ (f : Nat) (p : Array Nat) (k : Nat), k + f ≤ p0.size → UOk r p0 p k → UOk r p0 (ask (rlt r) (kas_bin f p k)) (k + f)
  | 0, p, k, _, h => h
  | f + 1, p, k, hk, h => by
    have hs : k < p.size := by rw [h.perm.size_eq]; omega
    obtain ⟨x, e, a, lo, hi⟩ := place_ok h.up k 0 k (Nat.zero_le _) (Nat.le_refl _) (by omega) (fun i hi => by omega) (fun i a b => by omega)
    rw [kas_bin, ask_bind, e, show k + (f + 1) = k + 1 + f by omega]
    exact bin_ok f _ (k + 1) (by omega) ⟨(bubble_perm _ _ _).trans h.perm, ins_ok hs h.up a lo hi⟩
theorem sort_ok {n : Nat} (h1 : 1 ≤ n) : UOk r (List.range n).toArray (ask (rlt r) (kas_sort n)) n := by
  have hz : (List.range n).toArray.size = n := by simp
  obtain ⟨p, m, e, a, b, h⟩ := count_ok (r := r) (p0 := (List.range n).toArray) (p := (List.range n).toArray) (nrem := n) (by omega) h1 (Array.Perm.refl _)
  unfold kas_sort
  rw [ask_bind, e]
  show UOk r _ (ask (rlt r) (if m < n then kas_bin (n - max m 1) p (max m 1) else .ret p)) n
  by_cases c : m < n
  · rw [if_pos c, show max m 1 = m by omega]
    have := bin_ok (r := r) (n - m) p m (by omega) h
    rw [show m + (n - m) = n by omega] at this
    exact this
  · rw [if_neg c]
    obtain rfl : m = n := by omega
    exact h
end PF
set_option Elab.async false
set_option linter.all false
set_option maxRecDepth 100000
set_option maxHeartbeats 1000000
namespace PF
open PySem PySem.W PyProof.Rows
inductive Fv : Value → PyData → Prop
  | int (a : Int) (t : Tok) : Fv (.int a t) (.int a)
  | str (a : Str) (t : Tok) : Fv (.str a t) (.str a)
def eqF : PyData → PyData → Option Bool
  | .int a, .int b => some (a == b)
  | .str a, .str b => some (decide (a = b))
  | _, _ => none
def ltF : PyData → PyData → Option Bool
  | .int a, .int b => some (decide (a < b))
  | .str a, .str b => some (decide (a.cps.toList < b.cps.toList))
  | _, _ => none
def lexF (fin : Bool) : List PyData → List PyData → Option Bool
  | x :: xs, y :: ys => (eqF x y).bind fun e => if e = true then lexF fin xs ys else ltF x y
  | _, _ => some fin
inductive FvAll : List Value → List PyData → Prop
  | nil : FvAll [] []
  | cons {v : Value} {d : PyData} {vs : List Value} {ds : List PyData} (h : Fv v d) (t : FvAll vs ds) : FvAll (v :: vs) (d :: ds)
variable {prog : Program} {w : World} {A : Around} {E : Value → Shared → Prop} {s : Shared} {b fin : Bool} {Q : Bool → Shared → Prop}
theorem eqF_ok {p q : Value} {d e : PyData} {c : Bool} (hp : Fv p d) (hq : Fv q e) (h : eqF d e = some c) (k : Q c s) : wpAny (model prog w) A (eqBool p q) Q E s := by
  cases hp with
  | int a t => cases hq with
    | int a' t' => cases h; exact wpAny_eqBool_int k
    | str => cases h
  | str a t => cases hq with
    | int => cases h
    | str a' t' => cases h; exact wpAny_eqBool_str k
theorem ltF_ok {p q : Value} {d e : PyData} {c o : Bool} (hp : Fv p d) (hq : Fv q e) (h : ltF d e = some c) (k : Q c s) : wpAny (model prog w) A (oneLt' o p q) Q E s := by
  cases hp with
  | int a t => cases hq with
    | int a' t' =>
      cases h
      cases o with
      | true => exact oneLt_int k
      | false => exact kat_one _ _ (PyProof.Rows.lt_int k)
    | str => cases h
  | str a t => cases hq with
    | int => cases h
    | str a' t' =>
      cases h
      cases o with
      | true => exact oneLt_str k
      | false => exact kat_one _ _ (PyProof.Rows.lt_str k)
theorem lex_ok : ∀ {vs us : List Value} {ds es : List PyData} {c : Bool} (i : Nat), FvAll vs ds → FvAll us es → lexF fin ds es = some c → Q c s → KatLex prog w A b fin Q (vs.zip us) i s
  | [], us, ds, es, c, i, hv, hu, h, k => by
    cases hv
    rw [List.zip_nil_left]
    unfold lexF at h
    cases h
    exact kat_nil k
  | v :: vs, [], ds, es, c, i, hv, hu, h, k => by
    cases hu
    cases hv
    rw [List.zip_nil_right]
    unfold lexF at h
    cases h
    exact kat_nil k
  | v :: vs, u :: us, ds, es, c, i, hv, hu, h, k => by
    cases hv with
    | cons a t => cases hu with
      | cons a' t' =>
        rw [List.zip_cons_cons]
        rw [lexF] at h
        cases e : eqF _ _ with
        | none => rw [e] at h; cases h
        | some x =>
          rw [e] at h
          refine kat_cons (eqF_ok a a' e ?_)
          cases x with
          | true =>
            rw [Option.bind_some, if_pos rfl] at h
            exact kat_yes (lex_ok (i + 1) t t' h k)
          | false =>
            rw [Option.bind_some, if_neg (by simp)] at h
            exact kat_no (ltF_ok a a' h k)
end PF
set_option Elab.async false
set_option linter.all false
set_option maxRecDepth 100000
set_option maxHeartbeats 1000000
namespace PF
open PySem PySem.W PyProof.Rows PySem.Calls
def In (n : Nat) {α : Type} : KasT α → (α → Prop) → Prop
  | .ret a, P => P a
  | .ask i j k, P => i < n ∧ j < n ∧ ∀ b, In n (k b) P
section
variable {n : Nat} {α β : Type}
theorem In.bind {P : β → Prop} {f : α → KasT β} : ∀ t : KasT α, In n t (fun a => In n (f a) P) → In n (t.bind f) P
  | .ret _, h => h
  | .ask _ _ k, h => ⟨h.1, h.2.1, fun b => In.bind (k b) (h.2.2 b)⟩
theorem In.mono {P P' : α → Prop} (q : ∀ a, P a → P' a) : ∀ t : KasT α, In n t P → In n t P'
  | .ret _, h => q _ h
  | .ask _ _ k, h => ⟨h.1, h.2.1, fun b => In.mono q (k b) (h.2.2 b)⟩
theorem In.ite {P : α → Prop} {c : Prop} [Decidable c] {t u : KasT α} (h1 : In n t P) (h2 : In n u P) : In n (if c then t else u) P := by
  split
  · exact h1
  · exact h2
end
structure Lo (n : Nat) (p : Array Nat) : Prop where
  pos : 0 < n
  all : ∀ x, x ∈ p.toList → x < n
section
variable {n : Nat}
theorem Lo.get {p : Array Nat} (h : Lo n p) (i : Nat) : p.getD i 0 < n := by
  rw [Array.getD_eq_getD_getElem?]
  cases e : p[i]? with
  | none => exact h.pos
  | some x => exact h.all _ (Array.mem_def.mp (Array.mem_of_getElem? e))
theorem Lo.perm {p q : Array Nat} (h : Lo n p) (e : q.Perm p) : Lo n q := ⟨h.pos, fun x hx => h.all x ((Array.perm_iff_toList_perm.mp e).subset hx)⟩
theorem Lo.rev {p : Array Nat} (h : Lo n p) (i j : Nat) : Lo n (kas_rev p i j) := h.perm (rev_perm p i j)
theorem in_asc {p : Array Nat} (h : Lo n p) : ∀ f m, In n (kas_asc p f m) fun _ => True
  | 0, m => trivial
  | f + 1, m => ⟨h.get _, h.get _, fun b => In.ite trivial (in_asc h f (m + 1))⟩
theorem in_desc : ∀ f (p : Array Nat) m q, Lo n p → In n (kas_desc f p m q) fun r => Lo n r.1
  | 0, p, m, q, h => h
  | f + 1, p, m, q, h => ⟨h.get _, h.get _, fun b => In.ite (In.ite (in_desc f _ _ _ (h.rev _ _)) (in_desc f _ _ _ h)) ⟨h.get _, h.get _, fun d => In.ite h (in_desc f _ _ _ h)⟩⟩
theorem in_tail {p : Array Nat} (h : Lo n p) (m r : Nat) : In n (kas_tail3 m r p) fun z => Lo n z.2 :=
  In.bind _ (In.mono (fun _ _ => h.rev _ _) _ (in_asc (h.rev _ _) _ _))
theorem in_descPart {p : Array Nat} (h : Lo n p) (m r : Nat) : In n (kas_descPart m r p) fun z => Lo n z.2 :=
  In.bind _ (In.mono (fun _ z => In.ite (in_tail (z.rev _ _) _ _) (in_tail z _ _)) _ (in_desc _ _ _ _ h))
theorem in_count {p : Array Nat} (h : Lo n p) (r : Nat) : In n (kas_count r p) fun z => Lo n z.2 := by
  refine In.bind _ (In.mono (P := fun _ => True) (fun m _ => ?_) _ (in_asc h _ _))
  have r0 : In n (KasT.ret (m, p)) fun z : Nat × Array Nat => Lo n z.2 := h
  exact In.ite r0 (In.ite ⟨h.get _, h.get _, fun d => In.ite r0 (in_descPart (h.rev _ _) _ _)⟩ (in_descPart h _ _))
theorem in_place {p : Array Nat} (h : Lo n p) (k : Nat) : ∀ f l r, In n (kas_place p k f l r) fun _ => True
  | 0, l, r => trivial
  | f + 1, l, r => by
    rw [kas_place]
    exact In.ite trivial ⟨h.get _, h.get _, fun d => In.ite (in_place h k f _ _) (in_place h k f _ _)⟩
theorem in_bin : ∀ f (p : Array Nat) k, Lo n p → In n (kas_bin f p k) fun _ => True
  | 0, p, k, h => trivial
  | f + 1, p, k, h => In.bind _ (In.mono (fun l _ => in_bin f _ _ (h.perm (bubble_perm _ _ _))) _ (in_place h k _ _ _))
theorem in_sort (h : 0 < n) : In n (kas_sort n) fun _ => True := by
  have h0 : Lo n (List.toArray (List.range n)) := ⟨h, fun x hx => by simpa using hx⟩
  exact In.bind _ (In.mono (fun r z => In.ite (u := .ret r.2) (in_bin _ _ _ z) trivial) _ (in_count h0 n))
end
theorem kas_detN {α : Type} {n : Nat} {cmp : Nat → Nat → (Bool → Shared → Prop) → Shared → Prop} {lt : Nat → Nat → Bool} {s : Shared} {Q : α → Shared → Prop} (h : ∀ i j (C : Bool → Shared → Prop), i < n → j < n → C (lt i j) s → cmp i j C s) :
    ∀ t : KasT α, In n t (fun _ => True) → Q (ask lt t) s → t.kasWp cmp Q s
  | .ret _, _, q => q
  | .ask i j k, z, q => h i j _ z.1 z.2.1 (kas_detN h (k (lt i j)) (z.2.2 _) q)
def outOf (lt : Nat → Nat → Bool) (us : List Value) : List Value := if us.length < 2 then us else (ask lt (kas_sort us.length)).toList.map fun i => us.getD i .none
section
variable {prog : Program} {w : World} {A : Around} {E : Value → Shared → Prop} {s : Shared}
structure Answers (prog : Program) (w : World) (A : Around) (s : Shared) (us : List Value) (κ : SortKind) (lt : Nat → Nat → Bool) : Prop where
  kind : 2 ≤ us.length → ∀ (g : Heap) (Q : SortKind → Shared → Prop), (∀ b o, s.heap.get? b = some o → g.get? b = some o) → Q κ { s with heap := g } → wpAny (model prog w) A (keyKind' us.toArray) Q (fun _ _ => False) { s with heap := g }
  less : 2 ≤ us.length → ∀ (g : Heap) (i j : Nat) (C : Bool → Shared → Prop), (∀ b o, s.heap.get? b = some o → g.get? b = some o) → i < us.length → j < us.length → C (lt i j) { s with heap := g } → kas_ask prog w A κ us i j C { s with heap := g }
theorem sort_det {us : List Value} {κ : SortKind} {lt : Nat → Nat → Bool} {g0 : Heap} {at0 : Addr} {c0 : Nat} {P : PySem.Fin → Shared → Prop} (hs : ∀ b o, s.heap.get? b = some o → g0.get? b = some o) (new : s.heap.get? at0 = none)
    (it : g0.get? at0 = some (seqObj "list" us.toArray c0)) (h64 : us.length < 64) (an : Answers prog w A s us κ lt)
    (fin : P (.done (.ret .none)) { s with heap := sortedHeap g0 at0 us (outOf lt us).toArray }) :
    wpAny (model prog w) A (Builtin.«list.sort» ⟨[.ref at0], []⟩) P E { s with heap := g0 } := by
  have hlt : at0 < g0.objs.size := Heap.lt_size it
  have big : us.length ≤ sizeLine := by rw [sizeLine_eq]; omega
  rw [list_sort_plain]
  refine wpAny_bind (listItems_at it rfl (wpAny_bind (listUpdate_at it rfl ?_ (by rw [List.size_toArray]; exact big) (Nat.zero_le _))))
  obtain ⟨c1, it1⟩ : ∃ c, (g0.update at0 (Obj.mapSeq fun _ => (#[] : Array Value))).get? at0 = some (seqObj "list" #[] c) := ⟨_, get?_update_seq it fun _ => #[]⟩
  refine wpAny_bind (seqEpoch_at it1 rfl (wpAny_bind (wpAny_newTuple (wpAny_bind (wpAny_newList (wpAny_holding ?_) (Nat.zero_le _))) (by show us.length ≤ _; exact big))))
  have it2 : (((g0.update at0 (Obj.mapSeq fun _ => (#[] : Array Value))).push (seqObj "tuple" us.toArray 0)).push (seqObj "list" #[] 0)).get? at0 = some (seqObj "list" #[] c1) :=
    Heap.get?_push_of_some _ (Heap.get?_push_of_some _ it1)
  have hs2 : ∀ b o, s.heap.get? b = some o → (((g0.update at0 (Obj.mapSeq fun _ => (#[] : Array Value))).push (seqObj "tuple" us.toArray 0)).push (seqObj "list" #[] 0)).get? b = some o := fun b o e => by
    refine Heap.get?_push_of_some _ (Heap.get?_push_of_some _ ?_)
    rw [Heap.get?_update_ne _ _ _ _ (fun z => by rw [z, new] at e; cases e)]
    exact hs b o e
  show wpAny (model prog w) A _ P E { s with heap := ((g0.update at0 (Obj.mapSeq fun _ => (#[] : Array Value))).push (seqObj "tuple" us.toArray 0)).push (seqObj "list" #[] 0) }
  dsimp only
  have sz : us.toArray.size = us.length := List.size_toArray
  by_cases few : us.length < 2
  · rw [if_pos (by rw [sz]; exact few), if_pos (by rw [sz]; exact few)]
    refine wpAny_bind (wpAny_pure ?_)
    rw [StateT.run_pure]
    refine wpAny_bind (wpAny_pure ?_)
    dsimp only
    have eo : (arrOf (SortSt.mk' general' (us.toArray.zip us.toArray) #[] 7 none)).map (·.2) = (outOf lt us).toArray := by
      show (us.toArray.zip us.toArray).map (·.2) = _
      unfold outOf
      rw [if_pos few]
      apply Array.toList_inj.mp
      rw [Array.toList_map, Array.toList_zip]
      exact List.map_snd_zip (Nat.le_refl _)
    rw [eo]
    refine wpAny_bind (seqEpoch_at it2 rfl (wpAny_bind (listUpdate_at it2 rfl ?_ (Nat.zero_le _) (by unfold outOf; rw [if_pos few, sz]; exact Nat.le_succ_of_le big))))
    simp only [bne_self_eq_false, Bool.false_eq_true, if_false]
    exact wpAny_pure fin
  · have two : 2 ≤ us.length := by omega
    rw [if_neg (by rw [sz]; exact few), if_neg (by rw [sz]; exact few)]
    refine wpAny_bind (wpAny_mono (an.kind two _ (fun κ' s' => κ' = κ ∧ s' = { s with heap := ((g0.update at0 (Obj.mapSeq fun _ => (#[] : Array Value))).push (seqObj "tuple" us.toArray 0)).push (seqObj "list" #[] 0) }) hs2 ⟨rfl, rfl⟩) (fun κ' s' hk => ?_) fun _ _ x => x.elim)
    obtain ⟨rfl, rfl⟩ := hk
    refine wpAny_bind (wpAny_mono (kat_run (Q := fun st s' => (arrOf st).map (·.2) = (outOf lt us).toArray ∧ (outOf lt us).length = us.length ∧ failedOf st = none ∧ s' = { s with heap := ((g0.update at0 (Obj.mapSeq fun _ => (#[] : Array Value))).push (seqObj "tuple" us.toArray 0)).push (seqObj "list" #[] 0) })
      (G := fun p s' => p = ask lt (kas_sort us.length) ∧ s' = { s with heap := ((g0.update at0 (Obj.mapSeq fun _ => (#[] : Array Value))).push (seqObj "tuple" us.toArray 0)).push (seqObj "list" #[] 0) })
      rfl two h64 (fun p st s' a1 a2 a3 a4 => ⟨?_, ?_, a3, a4.2⟩) (kas_detN (fun i j C hi hj q => an.less two _ i j C hs2 hi hj q) _ (in_sort (by omega)) ⟨rfl, rfl⟩)) ?_ fun _ _ e => e)
    · rw [kat_snds rfl a2, a4.1]
      unfold outOf
      rw [if_neg few]
    · unfold outOf
      rw [if_neg few, List.length_map, Array.length_toList, ← a4.1, a1]
    · rintro ⟨⟨⟩, st⟩ s' ⟨h1, h3, h2, rfl⟩
      dsimp only
      rw [h1]
      have so : (outOf lt us).toArray.size ≤ sizeLine := by rw [List.size_toArray, h3]; exact big
      refine wpAny_bind (seqEpoch_at it2 rfl (wpAny_bind (listUpdate_at it2 rfl ?_ (Nat.zero_le _) (Nat.le_succ_of_le so))))
      rw [h2]
      simp only [bne_self_eq_false, Bool.false_eq_true, if_false]
      exact wpAny_pure fin
theorem sorted_det {us : List Value} {κ : SortKind} {lt : Nat → Nat → Bool} {l : Addr} {Q : Value → Shared → Prop} (hl : s.heap.IsList l us.toArray) (h64 : us.length < 64) (an : Answers prog w A.in1.in1 s us κ lt)
    (fin : Q (.ref (s.heap.objs.size + 1)) { s with heap := sortedAll s.heap us (outOf lt us).toArray }) : wpAny (model prog w) A (call (.builtin "sorted") [.ref l]) Q E s := by
  have big : us.length ≤ sizeLine := by rw [sizeLine_eq]; omega
  refine Calls.call_function_entry kind_sorted plain_sorted entry_sorted (args_sorted1 _) ?_
  unfold Builtin.«sorted»
  refine wpAny_bind (m := checkCount "sorted" 1 1 _) (wpAny_pure (wpAny_bind (collect_list hl (wpAny_bind (wpAny_newList ?_ big)) big)))
  have z1 : ((s.heap.push (seqObj "list" #[] 0)).update s.heap.objs.size (Obj.mapSeq (· ++ us.toArray))).objs.size = s.heap.objs.size + 1 := by rw [Heap.size_update, size_push']
  have z2 : (((s.heap.push (seqObj "list" #[] 0)).update s.heap.objs.size (Obj.mapSeq (· ++ us.toArray))).push (seqObj "list" us.toArray 0)).get? (s.heap.objs.size + 1) = some (seqObj "list" us.toArray 0) := by
    rw [← z1]; exact Heap.get?_push_size _ rfl
  have z3 : ∀ b o, s.heap.get? b = some o → (((s.heap.push (seqObj "list" #[] 0)).update s.heap.objs.size (Obj.mapSeq (· ++ us.toArray))).push (seqObj "list" us.toArray 0)).get? b = some o := fun b o e => by
    have lt1 : b < s.heap.objs.size := Heap.lt_size e
    refine Heap.get?_push_of_some _ ?_
    rw [Heap.get?_update_ne _ _ _ _ (Nat.ne_of_lt lt1)]
    exact Heap.get?_push_of_some _ e
  show wpAny _ _ _ _ _ { s with heap := ((s.heap.push (seqObj "list" #[] 0)).update s.heap.objs.size (Obj.mapSeq (· ++ us.toArray))).push (seqObj "list" us.toArray 0) }
  rw [z1]
  exact wpAny_bind (wpAny_holding (wpAny_call_entry slot_list_sort ⟨_, z2, rfl⟩ entry_list_sort (sort_det z3 (Heap.get?_none_of_le (Nat.le_succ _)) z2 h64 an ⟨_, rfl, wpAny_pure ⟨_, rfl, fin⟩⟩) (args_list_sort _)))
end
end PF
set_option Elab.async false
set_option linter.all false
set_option maxRecDepth 100000
namespace DL
open PySem PyProof.Rows L2 PF PySem.W
theorem getD_at {α : Type} {l : List α} {i : Nat} {d : α} (h : i < l.length) : l.getD i d = l[i] := by simp [h]
def lexL : List Int → List Int → Bool
  | [], [] => false
  | [], _ :: _ => true
  | _ :: _, [] => false
  | a :: as, b :: bs => if a = b then lexL as bs else decide (a < b)
theorem lexL_irr : ∀ a, lexL a a = false
  | [] => rfl
  | a :: as => by rw [lexL, if_pos rfl]; exact lexL_irr as
theorem lexL_trans : ∀ a b c, lexL a b = true → lexL b c = true → lexL a c = true
  | [], [], _, h, _ => by cases h
  | [], _ :: _, [], _, h => by cases h
  | [], _ :: _, _ :: _, _, _ => rfl
  | _ :: _, [], _, h, _ => by cases h
  | _ :: _, _ :: _, [], _, h => by cases h
  | a :: as, b :: bs, c :: cs, h, k => by
    rw [lexL] at h k ⊢
    by_cases e1 : a = b
    · subst e1
      rw [if_pos rfl] at h
      by_cases e2 : a = c
      · rw [if_pos e2] at k ⊢; exact lexL_trans as bs cs h k
      · rw [if_neg e2] at k ⊢; exact k
    · rw [if_neg e1] at h
      have h' := of_decide_eq_true h
      by_cases e2 : b = c
      · subst e2; rw [if_neg e1]; exact h
      · rw [if_neg e2] at k
        have k' := of_decide_eq_true k
        rw [if_neg (by omega)]
        exact decide_eq_true (by omega)
theorem lexL_tri : ∀ a b, lexL a b = false → lexL b a = false → a = b
  | [], [], _, _ => rfl
  | [], _ :: _, h, _ => by cases h
  | _ :: _, [], _, h => by cases h
  | a :: as, b :: bs, h, k => by
    rw [lexL] at h k
    by_cases e : a = b
    · subst e
      rw [if_pos rfl] at h k
      rw [lexL_tri as bs h k]
    · rw [if_neg e] at h
      rw [if_neg (Ne.symm e)] at k
      have h' := of_decide_eq_false h
      have k' := of_decide_eq_false k
      omega
theorem lexL_ntrans (a b c : List Int) (h : lexL a b = false) (k : lexL b c = false) : lexL a c = false := by
  cases e : lexL a c with
  | false => rfl
  | true =>
    cases e2 : lexL b a with
    | true => rw [lexL_trans b a c e2 e] at k; exact k
    | false => obtain rfl := lexL_tri a b h e2; rw [e] at k; exact k
theorem lexF_lexL : ∀ a b : List Int, lexF (decide (a.length < b.length)) (a.map PyData.int) (b.map PyData.int) = some (lexL a b)
  | [], [] => rfl
  | [], _ :: _ => rfl
  | _ :: _, [] => rfl
  | a :: as, b :: bs => by
    have ih := lexF_lexL as bs
    have e : decide ((a :: as).length < (b :: bs).length) = decide (as.length < bs.length) := by simp
    rw [e, List.map_cons, List.map_cons, lexF, lexL]
    show (some (a == b)).bind _ = _
    rw [Option.bind_some]
    by_cases h : a = b
    · rw [if_pos h, if_pos (by simp [h]), ih]
    · rw [if_neg h, if_neg (by simp [h])]; rfl
theorem countP_lt' {α : Type} {p q : α → Bool} : ∀ l : List α, (∀ x, x ∈ l → p x = true → q x = true) → (∃ x, x ∈ l ∧ q x = true ∧ p x = false) → l.countP p < l.countP q
  | [], _, h => by obtain ⟨x, hx, _⟩ := h; cases hx
  | y :: l, h, k => by
    have hl : ∀ x, x ∈ l → p x = true → q x = true := fun x hx => h x (.tail _ hx)
    have le : l.countP p ≤ l.countP q := List.countP_mono_left hl
    obtain ⟨x, hx, q1, p1⟩ := k
    rw [List.countP_cons, List.countP_cons]
    cases hx with
    | head => rw [q1, p1]; simp; omega
    | tail _ hx =>
      have ih := countP_lt' l hl ⟨x, hx, q1, p1⟩
      have := h y (.head _)
      cases e1 : p y with
      | true => rw [this e1]; simp; exact ih
      | false => cases q y <;> simp <;> omega
def rankOf (ts : List (List Int)) (i : Nat) : Int := (ts.countP fun t => lexL t (ts.getD i []) : Nat)
theorem rank_lt {ts : List (List Int)} {i j : Nat} (hi : i < ts.length) : rlt (rankOf ts) i j = lexL (ts.getD i []) (ts.getD j []) := by
  unfold rlt rankOf
  cases e : lexL (ts.getD i []) (ts.getD j []) with
  | true =>
    refine decide_eq_true ?_
    have := countP_lt' (p := fun t => lexL t (ts.getD i [])) (q := fun t => lexL t (ts.getD j [])) ts (fun x _ h => lexL_trans _ _ _ h e) ⟨ts.getD i [], by rw [getD_at hi]; exact List.getElem_mem hi, e, lexL_irr _⟩
    omega
  | false =>
    refine decide_eq_false ?_
    have : ts.countP (fun t => lexL t (ts.getD j [])) ≤ ts.countP (fun t => lexL t (ts.getD i [])) := List.countP_mono_left fun x _ h => by
      cases e2 : lexL x (ts.getD i []) with
      | true => rfl
      | false => rw [lexL_ntrans x _ _ e2 e] at h; exact h
    omega
theorem sort_perm {β : Type} {z : List β} {d : β} {key : β → List Int} (h1 : 1 ≤ z.length) :
    ((ask (rlt (rankOf (z.map key))) (kas_sort z.length)).toList.map fun i => z.getD i d).Perm z ∧ (((ask (rlt (rankOf (z.map key))) (kas_sort z.length)).toList.map fun i => z.getD i d).Pairwise fun x y => lexL (key y) (key x) = false) ∧ ∀ i, i ∈ (ask (rlt (rankOf (z.map key))) (kas_sort z.length)).toList → i < z.length := by
  have ok := sort_ok (r := rankOf (z.map key)) h1
  have pm := Array.perm_iff_toList_perm.mp ok.perm
  have er : (List.range z.length).map (fun i => z.getD i d) = z := by
    apply List.ext_getElem
    · simp
    · intro i a b
      simp only [List.length_map, List.length_range] at a
      simp [a]
  refine ⟨?_, ?_, fun i hi => by have := pm.subset hi; rw [List.toList_toArray] at this; exact List.mem_range.mp this⟩
  · have := pm.map (fun i => z.getD i d)
    rw [List.toList_toArray] at this
    exact this.trans (by rw [er])
  · have len : (ask (rlt (rankOf (z.map key))) (kas_sort z.length)).size = z.length := by rw [ok.perm.size_eq]; simp
    rw [List.pairwise_iff_getElem]
    intro i j hi hj hij
    simp only [List.length_map, Array.length_toList, len] at hi hj
    have bd : ∀ k (hk : k < z.length), (ask (rlt (rankOf (z.map key))) (kas_sort z.length))[k]'(by rw [len]; exact hk) < z.length := fun k hk => by
      have : (ask (rlt (rankOf (z.map key))) (kas_sort z.length))[k]'(by rw [len]; exact hk) ∈ (List.range z.length) := by
        have := pm.subset (Array.mem_def.mp (Array.getElem_mem (by rw [len]; exact hk)))
        simpa using this
      simpa using this
    have up := ok.up i j (Nat.le_of_lt hij) hj
    unfold ky at up
    rw [Array.getD_eq_getD_getElem?, Array.getD_eq_getD_getElem?, Array.getElem?_eq_getElem (by rw [len]; exact hi), Array.getElem?_eq_getElem (by rw [len]; exact hj)] at up
    have rl := rank_lt (ts := z.map key) (i := (ask (rlt (rankOf (z.map key))) (kas_sort z.length))[j]'(by rw [len]; exact hj)) (j := (ask (rlt (rankOf (z.map key))) (kas_sort z.length))[i]'(by rw [len]; exact hi)) (by rw [List.length_map]; exact bd j hj)
    have nl : rlt (rankOf (z.map key)) ((ask (rlt (rankOf (z.map key))) (kas_sort z.length))[j]'(by rw [len]; exact hj)) ((ask (rlt (rankOf (z.map key))) (kas_sort z.length))[i]'(by rw [len]; exact hi)) = false := decide_eq_false (by
      simp only [Option.getD_some] at up
      omega)
    rw [nl] at rl
    have g1 := bd i hi
    have g2 := bd j hj
    simp only [List.getElem_map, Array.getElem_toList]
    rw [getD_at g1, getD_at g2]
    rw [getD_at (by rw [List.length_map]; exact g2), getD_at (by rw [List.length_map]; exact g1), List.getElem_map, List.getElem_map] at rl
    exact rl.symm
theorem vals_refs : ∀ {z : List (Addr × List Int)} {us : List Value}, Vals (z.map fun p => V.ref p.1) us → us = z.map fun p => Value.ref p.1
  | [], _, .nil => rfl
  | p :: z, _, .cons r t => by
    cases r
    rw [vals_refs t]
    rfl
theorem vals_refs' : ∀ z : List (Addr × List Int), Vals (z.map fun p => V.ref p.1) (z.map fun p => Value.ref p.1)
  | [] => .nil
  | p :: z => .cons rfl (vals_refs' z)
theorem fv_ints : ∀ {t : List Int} {us : List Value}, Vals (t.map V.int) us → FvAll us (t.map PyData.int)
  | [], _, .nil => .nil
  | i :: t, _, .cons r q => by
    obtain ⟨k, rfl⟩ := r
    exact .cons (.int _ _) (fv_ints q)
def TupAt (h : Heap) (p : Addr × List Int) : Prop := ∃ (o : Obj) (us : List Value) (n : Nat), h.get? p.1 = some o ∧ o.cls = .type "tuple" ∧ o.data = .seq us.toArray n ∧ Vals (p.2.map V.int) us
theorem tups_firsts {h : Heap} : ∀ z : List (Addr × List Int), (∀ p, p ∈ z → p.2 ≠ [] ∧ TupAt h p) → ∃ fs, KatTups h (z.map fun p => Value.ref p.1) fs ∧ fs.length = z.length ∧ ∀ v, v ∈ fs → ∃ i t, v = Value.int i t
  | [], _ => ⟨[], KatTups.nil, rfl, fun _ h => by cases h⟩
  | p :: z, h => by
    obtain ⟨fs, k, l, q⟩ := tups_firsts z fun p hp => h p (.tail _ hp)
    obtain ⟨ne, o, us, n, ho, hc, hd, rv⟩ := h p (.head _)
    obtain ⟨a, ts⟩ := p
    cases ts with
    | nil => exact absurd rfl ne
    | cons i ts =>
      cases rv with
      | cons r t =>
      obtain ⟨m, rfl⟩ := r
      refine ⟨.int i m :: fs, KatTups.cons ho hc hd rfl k, by simp [l], fun v hv => ?_⟩
      cases hv with
      | head => exact ⟨i, m, rfl⟩
      | tail _ hv => exact q v hv
section
variable {prog : Program} {w : World} {A : Around} {s : Shared}
theorem tup_answers {z : List (Addr × List Int)} (h : ∀ p, p ∈ z → p.2 ≠ [] ∧ TupAt s.heap p) : Answers prog w A s (z.map fun p => Value.ref p.1) (tuples' true) (rlt (rankOf (z.map (·.2)))) := by
  refine ⟨fun two g Q hg q => ?_, fun two g i j C hg hi hj q => ?_⟩
  · obtain ⟨fs, k, l, q2⟩ := tups_firsts (h := g) z fun p hp => by
      obtain ⟨ne, o, us, n, ho, hc, hd, rv⟩ := h p hp
      exact ⟨ne, o, us, n, hg _ _ ho, hc, hd, rv⟩
    rw [List.length_map] at two
    exact kat_kind (s := { s with heap := g }) (T := .type "int") k (by omega) (fun v hv => by obtain ⟨i, t, rfl⟩ := q2 v hv; exact Looks.of_pure rfl) rfl q
  · rw [List.length_map] at hi hj
    unfold kas_ask
    have g1 : (z.map fun p => Value.ref p.1).getD i Value.none = .ref z[i].1 := by rw [getD_at (by rw [List.length_map]; exact hi), List.getElem_map]
    have g2 : (z.map fun p => Value.ref p.1).getD j Value.none = .ref z[j].1 := by rw [getD_at (by rw [List.length_map]; exact hj), List.getElem_map]
    rw [g1, g2]
    obtain ⟨_, o1, us1, n1, ho1, _, hd1, rv1⟩ := h z[i] (List.getElem_mem hi)
    obtain ⟨_, o2, us2, n2, ho2, _, hd2, rv2⟩ := h z[j] (List.getElem_mem hj)
    refine kat_lt (s := { s with heap := g }) (hg _ _ ho1) hd1 (hg _ _ ho2) hd2 ?_
    have e1 : us1.toArray.size = z[i].2.length := by rw [List.size_toArray, ← rv1.length, List.length_map]
    have e2 : us2.toArray.size = z[j].2.length := by rw [List.size_toArray, ← rv2.length, List.length_map]
    rw [e1, e2]
    refine lex_ok 0 (fv_ints rv1) (fv_ints rv2) (lexF_lexL _ _) ?_
    rw [rank_lt (by rw [List.length_map]; exact hi), getD_at (by rw [List.length_map]; exact hi), getD_at (by rw [List.length_map]; exact hj), List.getElem_map, List.getElem_map] at q
    exact q
end
theorem pw_few {α : Type} {R : α → α → Prop} : ∀ z : List α, z.length < 2 → z.Pairwise R
  | [], _ => .nil
  | [x], _ => List.pairwise_singleton _ _
  | _ :: _ :: _, h => by simp at h; omega
theorem sort_out (q : Array Nat) (z : List (Addr × List Int)) (d : Addr × List Int) (h : ∀ i, i ∈ q.toList → i < z.length) : (q.toList.map fun i => (z.map fun p => Value.ref p.1).getD i Value.none) = (q.toList.map fun i => z.getD i d).map fun p => Value.ref p.1 := by
  rw [List.map_map]
  refine List.map_congr_left fun i hi => ?_
  show List.getD (z.map fun p => Value.ref p.1) i Value.none = Value.ref (z.getD i d).1
  rw [getD_at (by rw [List.length_map]; exact h i hi), getD_at (h i hi), List.getElem_map]
theorem sort_key : ∀ z : List (Addr × List Int), ∃ z' : List (Addr × List Int), z'.Perm z ∧ (z'.Pairwise fun x y => lexL y.2 x.2 = false) ∧ outOf (rlt (rankOf (z.map (·.2)))) (z.map fun p => Value.ref p.1) = z'.map fun p => Value.ref p.1
  | [] => ⟨[], .refl _, .nil, by unfold outOf; rw [if_pos (by decide)]⟩
  | x0 :: z0 => by
    unfold outOf
    by_cases few : (x0 :: z0).length < 2
    · rw [if_pos (by rw [List.length_map]; exact few)]
      exact ⟨x0 :: z0, .refl _, pw_few _ few, rfl⟩
    · rw [if_neg (by rw [List.length_map]; exact few)]
      obtain ⟨p1, p2, p3⟩ := sort_perm (z := x0 :: z0) (d := x0) (key := (·.2)) (Nat.succ_le_succ (Nat.zero_le _))
      refine ⟨_, p1, p2, ?_⟩
      rw [List.length_map]
      exact sort_out _ _ _ p3
section
variable {X : Cx} {a : Expr} {pos : Pos}
def rSortT (K : PySem.W.Frag) : List V → Hp → VK → Prop := fun vs H Q => ∃ (a : Addr) (z : List (Addr × List Int)), vs = [V.ref a] ∧ SqL K H a (z.map fun p => V.ref p.1) ∧ (∀ p, p ∈ z → p.2 ≠ [] ∧ SqT K H p.1 (p.2.map V.int)) ∧ z.length < 64 ∧
  ∀ (z' : List (Addr × List Int)) (p : Addr), z'.Perm z → (z'.Pairwise fun x y => lexL y.2 x.2 = false) → H p = none → Q (.ref p) (upd H p (.lst (z'.map fun p => V.ref p.1)))
theorem cr_sortT : CallR X (.builtin "sorted") (rSortT X.K) := by
  intro pins s σ H vs us Q I r h
  obtain ⟨a, z, rfl, hs, ht, h64, q⟩ := h
  obtain ⟨its, rv, hl, _⟩ := I.list hs
  rw [Vals.ref1 r]
  obtain rfl := vals_refs rv
  have tp : ∀ p, p ∈ z → p.2 ≠ [] ∧ TupAt s.heap p := fun p hp => by
    obtain ⟨us, r2, ⟨o, ho, hc, n, hd⟩, _⟩ := I.tuple (ht p hp).2
    exact ⟨(ht p hp).1, o, us, n, ho, hc, hd, r2⟩
  obtain ⟨z', pm, pw, eo⟩ := sort_key z
  refine sorted_det hl.isList (by rw [List.length_map]; exact h64) (tup_answers tp) ?_
  rw [eo]
  obtain ⟨ep, he'⟩ := PyProof.Rows.sortedAll_at s.heap (z.map fun p => Value.ref p.1) (z'.map fun p => Value.ref p.1).toArray
  have hlen : (z'.map fun p => V.ref p.1).length ≤ sizeLine := by rw [List.length_map, pm.length_eq]; exact small64 h64
  exact ⟨.ref _, upd H (s.heap.objs.size + 1) (.lst (z'.map fun p => V.ref p.1)), I.laid (t' := s.toks) (fun _ _ => PyProof.Rows.sortedAll_old) (Nat.le_succ _) ⟨hlen, z'.map fun p => Value.ref p.1, ep, vals_refs' z', he'⟩, rfl, q z' _ pm pw (I.hok.fresh (Nat.le_succ _))⟩
abbrev tupD (t : List Int) : PyData := .tuple (t.map PyData.int)
def tupsOf : List PyData → Option (List (List Int))
  | [] => some []
  | .tuple es :: ds => (intsOf es).bind fun t => (tupsOf ds).map (t :: ·)
  | _ => none
theorem tupsOf_eq : ∀ {ds : List PyData} {ts : List (List Int)}, tupsOf ds = some ts → ds = ts.map tupD
  | [], _, h => by cases h; rfl
  | .tuple es :: ds, ts, h => by
    unfold tupsOf at h
    cases e : intsOf es with
    | none => rw [e] at h; cases h
    | some t =>
      rw [e, Option.bind_some] at h
      cases e2 : tupsOf ds with
      | none => rw [e2] at h; cases h
      | some ts2 =>
        rw [e2] at h
        cases h
        rw [tupsOf_eq e2, intsOf_eq e]
        rfl
  | .none :: _, _, h | .bool _ :: _, _, h | .int _ :: _, _, h | .str _ :: _, _, h | .list _ :: _, _, h | .dict _ :: _, _, h => by cases h
theorem dp_tups {K : PySem.W.Frag} {F : Hp} : ∀ {xs : List V} {ts : List (List Int)}, DpAll K F xs (ts.map tupD) → ∃ z : List (Addr × List Int), xs = z.map (fun p => V.ref p.1) ∧ z.map (·.2) = ts ∧ ∀ p, p ∈ z → SqT K F p.1 (p.2.map V.int)
  | _, [], .nil => ⟨[], rfl, rfl, fun _ h => by cases h⟩
  | _, t :: ts, .cons h q => by
    obtain ⟨z, rfl, e2, e3⟩ := dp_tups q
    obtain ⟨l, ys, rfl, h1, a1⟩ := dp_tup h
    rw [DpAll.ints_inv a1] at h1
    refine ⟨(l, t) :: z, rfl, by rw [List.map_cons, e2], fun p hp => ?_⟩
    cases hp with
    | head => exact h1
    | tail _ hp => exact e3 p hp
theorem tups_dp {K : PySem.W.Frag} {F : Hp} : ∀ z : List (Addr × List Int), (∀ p, p ∈ z → SqT K F p.1 (p.2.map V.int)) → DpAll K F (z.map fun p => V.ref p.1) ((z.map (·.2)).map tupD)
  | [], _ => .nil
  | p :: z, h => .cons (.tup (h p (.head _)) DpAll.ints) (tups_dp z fun q hq => h q (.tail _ hq))
def wSortT : WC
  | [.list ds], Q => (match tupsOf ds with | some ts => ts.length < 64 ∧ (∀ t, t ∈ ts → t ≠ []) ∧ ∀ ts' : List (List Int), ts'.Perm ts → (ts'.Pairwise fun x y => lexL y x = false) → Q (.own (.lst (ts'.map tupD))) | none => False)
  | _, _ => False
def wSortI : WC
  | [.list ds], Q => (match intsOf ds with | some ns => ns.length < 64 ∧ ∀ ns' : List Int, ns'.Perm ns → ns'.Pairwise (· ≤ ·) → Q (.own (.lst (ns'.map PyData.int))) | none => False)
  | _, _ => False
theorem cd_sortT {K : PySem.W.Frag} : CallD K (rSortT K) wSortT := ⟨fun ds Q Q' h q => by
  unfold wSortT at *
  split at q
  · split at q
    · exact ⟨q.1, q.2.1, fun ts a b => h _ (q.2.2 ts a b)⟩
    · exact q
  · exact q, fun c F H σ ρ vs ds Q Qv j a q k => by
  unfold wSortT at q
  split at q
  · split at q
    · next ts en =>
      cases a with | cons h t => cases t with | nil =>
      obtain ⟨l, xs, rfl, h1, a1⟩ := dp_lst h
      rw [tupsOf_eq en] at a1
      obtain ⟨z, rfl, e2, e3⟩ := dp_tups a1
      subst e2
      refine ⟨l, z, rfl, j.fh.seq h1, fun p hp => ⟨q.2.1 _ (List.mem_map_of_mem hp), sqT_same j.fh (e3 p hp)⟩, by simpa using q.1, fun z' p pm pw hp => ?_⟩
      exact k _ F _ _ (q.2.2 (z'.map (·.2)) (pm.map _) (by rw [List.pairwise_map]; exact pw)) (j.alloc hp _) (relNew j hp ⟨_, rfl, tups_dp z' fun p hp => e3 p (pm.subset hp)⟩)
    · exact q.elim
  · exact q.elim⟩
theorem cd_sortI {K : PySem.W.Frag} : CallD K (rSorted K) wSortI := ⟨fun ds Q Q' h q => by
  unfold wSortI at *
  split at q
  · split at q
    · exact ⟨q.1, fun ts a b => h _ (q.2 ts a b)⟩
    · exact q
  · exact q, fun c F H σ ρ vs ds Q Qv j a q k => by
  unfold wSortI at q
  split at q
  · split at q
    · next ns en =>
      cases a with | cons h t => cases t with | nil =>
      obtain ⟨l, xs, rfl, h1, a1⟩ := dp_lst h
      rw [intsOf_eq en] at a1
      rw [DpAll.ints_inv a1] at h1
      exact ⟨l, ns, rfl, j.fh.seq h1, q.1, fun ns' p pm pw hp => k _ F _ _ (q.2 ns' pm pw) (j.alloc hp _) (relNew j hp ⟨_, rfl, DpAll.ints⟩)⟩
    · exact q.elim
  · exact q.elim⟩
theorem de_sorted {t : GA} {p : Pos} (hg : Gl X "sorted") (hm : X.mg "sorted" = none) (h : DA X [a] t) (he : starEach [a] X.env = [(false, eval a X.env)] := by rfl) (hpl : (backTo pos (starEach [] X.env)).any (·.1) = false := by rfl) : DE X (.Call (.Name "sorted" p) [a] [] pos) (gBlt (fun ds Q => wSortI ds Q ∨ wSortT ds Q) t) := de_blt (calld_or cd_sortI cd_sortT) (callr_or cr_sorted cr_sortT) hg hm (by decide +kernel) h (by decide) (by decide) he hpl
end
end DL
set_option Elab.async false
set_option linter.all false
set_option maxRecDepth 100000
namespace DX
open PySem PyProof.Rows L2 DL
section
variable {X : Cx} {a : Expr} {pos p : Pos} {t : XA}
def sortI (ns : List Int) : List Int := ns.mergeSort fun a b => decide (a ≤ b)
def sortT (ts : List (List Int)) : List (List Int) := ts.mergeSort fun a b => !lexL b a
theorem sortI_perm (ns : List Int) : (sortI ns).Perm ns := List.mergeSort_perm _ _
theorem sortT_perm (ts : List (List Int)) : (sortT ts).Perm ts := List.mergeSort_perm _ _
theorem sortI_up (ns : List Int) : (sortI ns).Pairwise (· ≤ ·) := by
  have := List.pairwise_mergeSort (le := fun a b : Int => decide (a ≤ b)) (fun a b c h k => decide_eq_true (Int.le_trans (of_decide_eq_true h) (of_decide_eq_true k))) (fun a b => by simp; omega) ns
  exact this.imp fun h => of_decide_eq_true h
theorem sortT_up (ts : List (List Int)) : (sortT ts).Pairwise fun x y => lexL y x = false := by
  have := List.pairwise_mergeSort (le := fun a b : List Int => !lexL b a) (fun a b c h k => by
    simp only [Bool.not_eq_true'] at *
    exact lexL_ntrans _ _ _ k h) (fun a b => by
    cases e : lexL a b with
    | false => simp
    | true =>
      cases e2 : lexL b a with
      | false => simp
      | true => exact absurd (lexL_trans _ _ _ e e2) (by rw [lexL_irr]; simp)) ts
  exact this.imp fun h => by simpa using h
theorem sortI_eq {ns ns' : List Int} (h : ns'.Perm ns) (k : ns'.Pairwise (· ≤ ·)) : ns' = sortI ns :=
  (h.trans (sortI_perm ns).symm).eq_of_pairwise (fun a b _ _ x y => Int.le_antisymm x y) k (sortI_up ns)
theorem sortT_eq {ts ts' : List (List Int)} (h : ts'.Perm ts) (k : ts'.Pairwise fun x y => lexL y x = false) : ts' = sortT ts :=
  (h.trans (sortT_perm ts).symm).eq_of_pairwise (fun a b _ _ x y => lexL_tri _ _ y x) k (sortT_up ts)
instance (ts : List (List Int)) : Decidable (∀ t, t ∈ ts → t ≠ []) := inferInstanceAs (Decidable (∀ t ∈ ts, t ≠ []))
def vSorted : VC
  | [.list ds] => match intsOf ds with
    | some ns => gd (ns.length < 64) (some (.own (.lst ((sortI ns).map PyData.int))))
    | none => (tupsOf ds).bind fun ts => gd (ts.length < 64 ∧ ∀ t, t ∈ ts → t ≠ []) (some (.own (.lst ((sortT ts).map tupD))))
  | _ => none
theorem vSorted_ints {ns : List Int} (h : ns.length < 64) : vSorted [.list (ns.map PyData.int)] = some (.own (.lst ((sortI ns).map PyData.int))) := by
  unfold vSorted
  dsimp only
  rw [intsOf_map]
  dsimp only
  rw [gd_ok h]
theorem lc_sorted : Lc vSorted (fun ds Q => wSortI ds Q ∨ wSortT ds Q) := fun ds z Q h q => by
  unfold vSorted at h
  split at h
  · next ds =>
    cases e : intsOf ds with
    | some ns =>
      rw [e] at h
      obtain ⟨c, h⟩ := gd_inv h
      cases h
      refine .inl ?_
      show (match intsOf ds with | some ns => ns.length < 64 ∧ ∀ ns' : List Int, ns'.Perm ns → ns'.Pairwise (· ≤ ·) → Q (.own (.lst (ns'.map PyData.int))) | none => False)
      rw [e]
      exact ⟨c, fun ns' h1 h2 => by rw [sortI_eq h1 h2]; exact q⟩
    | none =>
      rw [e] at h
      dsimp only at h
      cases e2 : tupsOf ds with
      | none => rw [e2] at h; cases h
      | some ts =>
        rw [e2, Option.bind_some] at h
        obtain ⟨c, h⟩ := gd_inv h
        cases h
        refine .inr ?_
        show (match tupsOf ds with | some ts => ts.length < 64 ∧ (∀ t, t ∈ ts → t ≠ []) ∧ ∀ ts' : List (List Int), ts'.Perm ts → (ts'.Pairwise fun x y => lexL y x = false) → Q (.own (.lst (ts'.map tupD))) | none => False)
        rw [e2]
        exact ⟨c.1, c.2, fun ts' h1 h2 => by rw [sortT_eq h1 h2]; exact q⟩
  · cases h
theorem xe_sorted (hg : Gl X "sorted") (hm : X.mg "sorted" = none) (h : AX X [a] t) (he : starEach [a] X.env = [(false, eval a X.env)] := by rfl) (hpl : (backTo pos (starEach [] X.env)).any (·.1) = false := by rfl) : EX X (.Call (.Name "sorted" p) [a] [] pos) (xBlt vSorted t) := exI (de_sorted hg hm h he hpl) (im_blt lc_sorted)
end
end DX
set_option Elab.async false
set_option linter.all false
set_option maxRecDepth 100000
namespace DL
open PySem PyProof.Rows L2
section
variable {X : Cx} {pins : List (Addr × Obj)} {σ : L2.St} {H : Hp} {s : Shared} {a : Addr} {xs : List V}
end
section
variable {X : Cx}
variable {o e : Expr} {to : TE} {t : TA} {apos cpos : Pos}
end
end DL
set_option Elab.async false
set_option linter.all false
set_option maxRecDepth 100000
namespace DX
open PySem PyProof.Rows L2 DL
section
variable {X : Cx} {o e : Expr} {apos cpos : Pos} {xa xb : XE}
end
end DX
set_option Elab.async false
set_option linter.all false
set_option maxRecDepth 100000
namespace DL
open PySem PyProof.Rows L2
section
variable {X : Cx} {a : Expr} {pos pos2 p p2 : Pos} {t : GA}
end
end DL
namespace DX
open PySem PyProof.Rows L2 DL
section
variable {X : Cx} {a : Expr} {pos pos2 p p2 : Pos} {t : XA}
end
end DX
set_option Elab.async false
set_option linter.all false
set_option maxRecDepth 100000
namespace DL
open PySem PyProof.Rows L2
section
variable {X : Cx} {a b b1 b2 : Expr} {Ga Gb Gb1 Gb2 : GE} {pos : Pos} {i : Nat}
end
end DL
namespace DX
open PySem PyProof.Rows L2 DL
section
variable {X : Cx} {a b b1 b2 : Expr} {xa xb1 xb2 : XE} {pos : Pos} {i : Nat}
end
end DX
set_option Elab.async false
set_option linter.all false
set_option maxRecDepth 100000
namespace DL
open PySem PyProof.Rows L2
section
variable {prog : Program} {w : World} {A : Around} {E : Value → Shared → Prop} {s : Shared}
end
end DL
namespace DX
open PySem PyProof.Rows L2 DL
section
variable {X : Cx} {a b : Expr} {pos p : Pos} {t : XA}
end
section
variable {X : Cx} {a b c : Expr} {pos : Pos} {xa xb xc : XE}
end
end DX
set_option Elab.async false
set_option linter.all false
set_option maxRecDepth 100000
namespace DX
open PySem PyProof.Rows L2 DL
section
variable {X : Cx} {a b : Expr} {pos : Pos} {xa xb : XE}
end
end DX
set_option Elab.async false
set_option linter.all false
set_option maxRecDepth 100000
namespace DL
open PySem PyProof.Rows L2
section
variable {prog : Program} {w : World} {A : Around} {E : Value → Shared → Prop} {s : Shared}
end
end DL
namespace DX
open PySem PyProof.Rows L2 DL
section
variable {X : Cx} {a b : Expr} {pos p : Pos} {t : XA}
end
end DX
set_option Elab.async false
set_option linter.all false
set_option maxRecDepth 100000
namespace DL
open PySem PyProof.Rows L2
structure Xk (fs : List Addr) (e : Addr) (T : Option Addr) (h h' : Heap) : Prop where
  keep : ∀ b o, h.get? b = some o → b ≠ e → some b ≠ T → b ∉ fs → h'.get? b = some o
  slot : ∀ b o, h.get? b = some o → b ∈ fs → (∀ vs, o.data ≠ .fields vs) → ∃ sl, h'.get? b = some { o with slots := sl }
section
variable {M : Model} {A : Around} {E : Value → Shared → Prop} {s : Shared}
end
end DL
set_option Elab.async false
set_option linter.all false
set_option maxRecDepth 100000
namespace DL
open PySem PyProof.Rows L2
section
variable {prog : Program} {w : World} {A : Around} {E : Value → Shared → Prop} {h : Heap} {g : Array GenState} {d : Drawn} {t : Nat} {os : OsState}
variable {nm q : Str} {C N : Addr} {bs bm bmB : List Value} {hdct : Bool} {sn : List Str} {sub : List Value} {ab : Bool} {col : Option Bool} {dd : Option Addr} {k0 k1 k2 k3 k5 : Option Value} {B newId initId : String}
end
end DL
set_option Elab.async false
set_option linter.all false
set_option maxRecDepth 100000
namespace DL
open PySem PyProof.Rows L2
section
variable {prog : Program} {w : World} {A : Around} {E : Value → Shared → Prop} {h : Heap} {g : Array GenState} {d : Drawn} {t : Nat} {os : OsState}
variable {nm q : Str} {C N x ta : Addr} {bs bm bmB : List Value} {sn : List Str} {sub : List Value} {ab : Bool} {col : Option Bool} {dd : Option Addr} {k0 k1 k2 k3 k5 : Option Value} {B newId owner : String} {name : Str} {v : Value} {K : PySem.W.Frag}
end
end DL
set_option Elab.async false
set_option linter.all false
set_option maxRecDepth 100000
namespace DL
open PySem PyProof.Rows L2
section
variable {prog : Program} {w : World} {A : Around} {E : Value → Shared → Prop} {s : Shared} {K : PySem.W.Frag}
variable {nm q : Str} {C N x ta : Addr} {bs bm bmB : List Value} {sn : List Str} {sub : List Value} {ab : Bool} {col : Option Bool} {dd : Option Addr} {k0 k1 k2 k3 k5 : Option Value} {B newId owner : String} {v : Value}
end
end DL
set_option Elab.async false
set_option linter.all false
set_option maxRecDepth 100000
namespace DL
open PySem PyProof.Rows L2
section
variable {X : Cx} {pins : List (Addr × Obj)} {σ : L2.St} {F H : Hp} {s : Shared} {a : Addr} {cls : Value} {dx T : Option Addr} {z : Xn}
theorem Inv.xk (I : Inv X pins σ H s) {h' : Heap} (ha : H a = none) (nt : ∀ t, T = some t → H t = none) (k : Xk (frs X.stack) a T s.heap h') : HOk X.prog X.w H h' := fun b ob e => by
  refine (I.hok b ob e).stay (fun c v hc q => k.keep c v q ?_ ?_ ?_) (fun _ q => q) fun _ _ q => q
  all_goals
    have hn : H c ≠ none := fun z => by
      rcases hc with rfl | hc
      · rw [z] at e; cases e
      · rw [z] at hc; cases hc
  · exact fun z => hn (z ▸ ha)
  · exact fun z => hn (nt c z.symm)
  · exact fun z => hn (I.stkFree c z)
end
end DL
set_option Elab.async false
set_option linter.all false
set_option maxRecDepth 100000
namespace DX
open PySem PyProof.Rows L2 DL
def Ou.cl : Ou → Ou | .ex _ _ => .bad | o => o
def Re.cl {α β : Type} : Re α β → Re α β | .ex _ _ => .bad | o => o
section
variable {X : Cx} {st : Stmt} {sts as bs : List Stmt} {a e : Expr} {es : List Expr} {x y : XS} {xa : XE} {T : XT} {pos p : Pos} {i : Nat}
end
end DX
set_option Elab.async false
set_option linter.all false
set_option maxRecDepth 100000
namespace DX
open PySem PyProof.Rows L2 DL
section
variable {X : Cx} {e : Expr} {es : List Expr} {t : XA} {xa : XE} {x : Str} {ps : List Str} {k k' i : Nat} {p pos : Pos}
end
section
variable {P : Program} {w : World} {K : PySem.W.Frag} {mg : Str → Option Value} {base : Heap} {x : Str} {st : Stmt} {ps N : List Str} {k : Nat}
end
end DX
set_option Elab.async false
set_option linter.all false
set_option maxRecDepth 100000
namespace DL
open PySem PyProof.Rows L2 PySem.W
abbrev bmV : List Value := [.type "ValueError", .type "Exception", .type "BaseException", .type "object"]
def excI (K : Frag) (C : Addr) (f : Option Addr) : Bool := match K.lookup C with
  | some ⟨.type "type", _, .cls cd, sl⟩ => (match cd.mro, sl.toList with
    | .ref C' :: bm, [_, _, _, _, some (.builtin n), _] => C' == C && n == "ValueError.__new__" && !cd.hasDel && cd.hasDict && tailIn K bmV bm && nsOkIn K cd.ns && nsIn K cd.ns "__init__" == some (f.map Value.ref)
    | _, _ => false)
  | _ => false
end DL
namespace DX
open PySem PyProof.Rows L2 DL PySem.W
section
variable {X : Cx} {a : Expr} {xa : XE} {x atn : Str} {np cpos pos : Pos} {k : Nat}
end
end DX
namespace DX
open PySem PyProof.Rows L2 DL PySem.W
section
variable {X : Cx} {x : Str} {np cpos pos : Pos}
end
end DX
set_option Elab.async false
set_option linter.all false
set_option maxRecDepth 100000
namespace DL
open PySem PyProof.Rows L2
section
variable {X : Cx} {pins : List (Addr × Obj)} {σ : L2.St} {F H : Hp} {s : Shared} {a : Addr} {cls : Value} {dx T : Option Addr} {z : Xn} {h' : Heap}
end
end DL
set_option Elab.async false
set_option linter.all false
set_option maxRecDepth 100000
namespace DL
open PySem PyProof.Rows L2 PySem.W
structure XD (K : Frag) (mg : Str → Option Value) (x : Str) (D : Addr) : Prop where
  m : mg x = some (.ref D)
  n : nsIn K mainGlobals x = some (some (.ref D))
  e : ∃ f, excI K D f = true
section
variable {prog : Program} {w : World} {A : Around} {E : Value → Shared → Prop} {h : Heap} {g : Array GenState} {d : Drawn} {t : Nat} {os : OsState}
variable {nm q : Str} {C D N e : Addr} {bs bm : List Value} {hdct : Bool} {sn : List Str} {sub : List Value} {ab : Bool} {col : Option Bool} {dd : Option Addr} {k0 k1 k2 k3 k5 : Option Value} {newId : String} {oe : Obj}
end
end DL
namespace DX
open PySem PyProof.Rows L2 DL PySem.W
def Ou.try (o : Ou) (h : Xn → Rho → Ou) : Ou := match o with | .ex z ρ => h z ρ | o => o
section
variable {X : Cx} {body suite : List Stmt} {b0 : Stmt} {xb xh : XS} {Dn n : Str} {D : Addr} {cs : List Str} {i : Nat} {np hp pos : Pos}
end
end DX
set_option Elab.async false
set_option linter.all false
set_option maxRecDepth 100000
namespace DL
open PySem PyProof.Rows L2 PySem.W
section
variable {prog : Program} {w : World} {A : Around} {E : Value → Shared → Prop} {h : Heap} {g : Array GenState} {d : Drawn} {t : Nat} {os : OsState} {a C : Addr} {o : Obj} {K : Frag} {name : Str}
end
end DL
set_option Elab.async false
set_option linter.all false
set_option maxRecDepth 100000
namespace DL
open PySem PyProof.Rows L2 PySem.W
section
variable {prog : Program} {w : World} {A : Around} {E : Value → Shared → Prop} {h : Heap} {g : Array GenState} {d : Drawn} {t : Nat} {os : OsState} {a C : Addr} {o : Obj} {od : Option Obj} {K : Frag} {name : Str} {tk : Tok}
end
end DL
set_option Elab.async false
set_option linter.all false
set_option maxRecDepth 100000
namespace DL
open PySem PyProof.Rows L2 PySem.W
end DL
namespace DX
open PySem PyProof.Rows L2 DL PySem.W
section
variable {α β : Type}
end
section
variable {X : Cx} {pos p p2 py : Pos} {y atn x : Str} {i : Nat} {cs : List Str} {tab : List (Str × Bool)} {D : Addr} {n : String}
end
end DX
set_option Elab.async false
set_option linter.all false
set_option maxRecDepth 100000
namespace DX
open PySem PyProof.Rows L2 DL PySem.W
section
variable {X : Cx} {st : Stmt} {sts : List Stmt} {x : XS}
end
section
variable {P : Program} {w : World} {K : Frag} {mg : Str → Option Value} {base : Heap} {x : Str} {st : Stmt} {ps : List Str} {k : Nat}
end
end DX
set_option Elab.async false
set_option linter.all false
set_option maxRecDepth 100000
namespace DL
open PySem PyProof.Rows L2
section
variable {prog : Program} {w : World} {A : Around} {E : Value → Shared → Prop} {s : Shared} {r : Addr} {a b c : Int} {t u v : Tok} {n : Nat}
end
section
variable {prog : Program} {w : World} {A : Around} {E : Value → Shared → Prop} {s : Shared} {r : Addr} {a b c : Int} {t u v : Tok} {n : Nat}
end
end DL
namespace DL
open PySem PyProof.Rows L2
section
variable {X : Cx} {a : Expr} {pos pos2 p p2 : Pos} {t : GA}
end
end DL
namespace DX
open PySem PyProof.Rows L2 DL
section
variable {X : Cx} {a : Expr} {pos pos2 p p2 : Pos} {t : XA}
end
end DX
set_option Elab.async false
set_option linter.all false
set_option maxRecDepth 100000
namespace DL
open PySem PyProof.Rows L2
section
variable {M : Model} {A : Around} {E : Value → Shared → Prop} {s : Shared}
end
end DL
namespace DX
open PySem PyProof.Rows L2 DL
section
variable {X : Cx} {st : Stmt} {a b e : Expr} {es : List Expr} {x : XS} {xe xa : XE} {pos p : Pos}
end
end DX
set_option Elab.async false
set_option linter.all false
set_option maxRecDepth 100000
namespace DX
open PySem PyProof.Rows L2 DL
section
variable {X : Cx} {tg iter : Expr} {body : List Stmt} {i : XA} {g : XG} {sl : List Nat} {x : XS} {pos : Pos}
end
end DX
set_option Elab.async false
set_option linter.all false
set_option maxRecDepth 100000
namespace DL
open PySem PyProof.Rows L2 PySem.W
section
variable {prog : Program} {w : World} {A : Around} {E : Value → Shared → Prop} {h : Heap} {g : Array GenState} {d : Drawn} {t : Nat} {os : OsState}
variable {C D D' e p : Addr} {oe op : Obj} {xs : Array Value} {n : Nat} {b : Bool}
end
end DL
namespace DX
open PySem PyProof.Rows L2 DL PySem.W
section
variable {X : Cx} {body suite : List Stmt} {b0 : Stmt} {xb xh : XS} {Dn : Str} {D : Addr} {cs : List Str} {np hp pos : Pos}
end
end DX
set_option Elab.async false
set_option linter.all false
set_option maxRecDepth 100000
namespace DX
open PySem PyProof.Rows L2 DL PySem.W
section
variable {X : Cx} {e : Expr} {x : XE}
end
end DX
set_option Elab.async false
set_option linter.all false
set_option maxRecDepth 100000
namespace DL
open PySem PyProof.Rows L2
def kvD (kvs : List (Key × PyData)) : List (PyData × PyData) := kvs.map fun p => (keyP p.1, p.2)
def getP (ps : List (PyData × PyData)) (k : Key) : Option PyData := (ps.find? fun p => decide (keyD p.1 = some k)).map (·.2)
theorem keyD_keyP : ∀ k : Key, keyD (keyP k) = some k
  | .inl _ => rfl
  | .inr _ => rfl
section
variable {K : PySem.W.Frag} {F H : Hp} {c : En} {σ : L2.St} {ρ : Rho}
theorem dpKV_all : ∀ {ws : List (Key × V)} {kvs : List (Key × PyData)}, DpKV K F ws kvs → DpAll K F (ws.map Prod.snd) ((kvD kvs).map Prod.snd) ∧ (kvD kvs).map Prod.fst = ws.map fun p => keyP p.1
  | _, _, .nil => ⟨.nil, rfl⟩
  | _, _, .cons h t => by
    obtain ⟨a, b⟩ := dpKV_all t
    refine ⟨.cons h.2 a, ?_⟩
    show keyP _ :: (kvD _).map Prod.fst = keyP _ :: _
    rw [b, h.1]
theorem get_dct {k : Key} {w : PyData} : ∀ {ws : List (Key × V)} {ps : List (PyData × PyData)}, DpAll K F (ws.map Prod.snd) (ps.map Prod.snd) → ps.map Prod.fst = (ws.map fun p => keyP p.1) → getP ps k = some w → ∃ v, valV ws k = some v ∧ Dp K F v w
  | [], [], _, _, e => by cases e
  | [], _ :: _, _, h, _ => by cases h
  | _ :: _, [], _, h, _ => by cases h
  | q :: ws, p :: ps, .cons h t, hk, e => by
    obtain ⟨h1, h2⟩ := List.cons.inj hk
    unfold getP at e
    unfold valV
    rw [List.find?_cons] at e ⊢
    by_cases z : q.1 = k
    · rw [decide_eq_true (show keyD p.1 = some k by rw [h1, keyD_keyP, z])] at e
      rw [decide_eq_true z]
      cases e
      exact ⟨q.2, rfl, h⟩
    · rw [decide_eq_false (fun y => z (by rw [h1, keyD_keyP] at y; exact Option.some.inj y))] at e
      rw [decide_eq_false z]
      exact get_dct t h2 e
theorem J.poke (j : J K c F H σ ρ) {a : Addr} {u : HO} (fa : F a = none) (za : c.Z a = none) (ap : Apart σ ρ a) : J K c F (upd H a u) σ ρ where
  len := j.len
  ff := j.ff
  fh := fun b w h => by rw [upd_ne (fun e => by rw [e, fa] at h; cases h)]; exact j.fh b w h
  zh := fun b w h => by rw [upd_ne (fun e => by rw [e, za] at h; cases h)]; exact j.zh b w h
  fz := j.fz
  sh := j.sh
  ow := fun i q h => by
    obtain ⟨b, ho, h1, h2, h3⟩ := j.ow i q h
    exact ⟨b, ho, h1, by rw [upd_ne (fun e => ap i q h (by rw [h1, e]))]; exact h2, h3⟩
  nd := j.nd
  ios := j.ios
theorem it_keys {Z : Hp} {a : Addr} {o : Obj} {ws : List (Key × V)} {ps : List (PyData × PyData)} (h : F a = some (.frz o (.dK ws))) (hk : ps.map Prod.fst = ws.map fun p => keyP p.1) : ItOk K F Z (Itk a o ws) (ps.map Prod.fst) where
  go := fun i H s _ l => by
    rw [hk, List.length_map] at l
    exact ⟨s _ _ h, l⟩
  yld := fun i c F1 H1 σ ρ x H2 j s _ y d hd => by
    obtain ⟨rfl, k, v, e, rfl⟩ := y
    rw [hk, List.getElem?_map, e] at hd
    cases hd
    refine ⟨F1, j, Same.refl _, ?_, Same.refl _⟩
    cases k with
    | inl i => exact .int i
    | inr x => exact .str x
  stop := fun i H s _ l => by
    rw [hk, List.length_map] at l
    exact ⟨s _ _ h, l⟩
end
section
variable {X : Cx} {x : Str} {p pos : Pos} {a b tg : Expr} {Ga Gb : GE} {i : Nat}
def tVarL (i : Nat) : TE := fun σ H Q => ∃ a u, σ[i]? = some (some (.ref a)) ∧ H a = some u ∧ Mut (some u) ∧ ∀ od, Q (.ref a) (upd H a (.frz od u))
theorem pe_varL (h : PE X (.Name x pos) (tVar i)) : PE X (.Name x pos) (tVarL i) := by
  intro pins s σ H Q I q
  obtain ⟨a, u, h1, h2, mu, q⟩ := q
  refine thn (h pins s σ H (fun v H1 => v = .ref a ∧ H1 = H) I ⟨.ref a, h1, rfl, rfl⟩) fun w s1 ⟨z, H1, I1, r1, e1, e2⟩ => ?_
  subst e1
  subst e2
  obtain ⟨od, I2⟩ := I1.lock h2 mu
  exact ⟨.ref a, _, I2, r1, q od⟩
theorem pe_or {e : Expr} {ta tb : TE} (ha : PE X e ta) (hb : PE X e tb) : PE X e (fun σ H Q => ta σ H Q ∨ tb σ H Q) := fun pins s σ H Q I q => q.elim (ha pins s σ H Q I) (hb pins s σ H Q I)
def gVarD (i : Nat) : GE := fun ρ Q => match ρ[i]? with
  | some (some (.sh d)) => Q (.sh d) ρ
  | some (some (.own (.dic kvs))) => Q (.sh (.dict (kvD kvs))) (ρ.set i (some (.sh (.dict (kvD kvs)))))
  | _ => False
theorem gVarD_mono (i : Nat) : MonoE (gVarD i) := fun ρ Q Q' h q => by
  unfold gVarD at *
  split <;> simp_all
theorem de_varD (h : PE X (.Name x pos) (tVar i)) : DE X (.Name x pos) (gVarD i) := ⟨gVarD_mono i, peI (pe_or h (pe_varL h)) fun σ H Q ⟨c, F, ρ, j, q⟩ => by
  unfold gVarD at q
  split at q
  · next d e =>
    obtain ⟨v, h1, h2⟩ := j.sh i d e
    exact .inl ⟨v, h1, q F H v j h2⟩
  · next kvs e =>
    obtain ⟨a, ho, h1, h2, ⟨ws, rfl, h3⟩, h4, h5⟩ := j.ow i _ (.inl e)
    refine .inr ⟨a, _, h1, h2, trivial, fun od => ?_⟩
    have hl : i < ρ.length := (List.getElem?_eq_some_iff.mp e).1
    have hi : ∀ o, ρ[i]? ≠ some (some (R.io o)) := fun o z => by rw [e] at z; cases z
    have j1 := j.drop hi
    have ap : Apart σ (ρ.set i none) a := fun k o h z => by
      rcases ow_set h with ⟨_, w | w⟩ | ⟨ne, w⟩
      · cases w
      · cases w
      · exact ne (j.nd i k _ o a (.inl e) w h1 z)
    have j2 := (j1.poke (u := .frz od (.dK ws)) h4 h5 ap).frz upd_same h4 h5 ap
    obtain ⟨al, hk⟩ := dpKV_all h3
    have dp : Dp X.K (upd F a (.frz od (.dK ws))) (.ref a) (.dict (kvD kvs)) := .dct upd_same (dpAllM (same_new h4 _) al) hk
    have j3 := j2.assign (i := i) (v := .ref a) (r := .sh (.dict (kvD kvs))) (by rw [List.length_set]; exact hl) (fun o z => by rw [get_set, if_pos rfl, if_pos hl] at z; cases z) dp
    rw [List.set_set] at j3
    have es : σ.set i (some (.ref a)) = σ := by
      apply List.ext_getElem?
      intro k
      rw [get_set]
      by_cases z : i = k
      · rw [if_pos z, if_pos (by rw [j.len]; exact hl), ← z, h1]
      · rw [if_neg z]
    rw [es] at j3
    exact q _ _ (.ref a) j3 dp
  · exact q.elim⟩
def gDIx (i : Nat) (G : GE) : GE := fun ρ Q => match ρ[i]? with
  | some (some (.sh (.dict ps))) => G ρ fun r ρ' => withD r fun d => match keyD d with
    | some k => (match getP ps k with | some z => Q (.sh z) ρ' | none => False)
    | none => False
  | _ => False
theorem gDIx_mono {G : GE} (hG : MonoE G) : MonoE (gDIx i G) := fun ρ Q Q' h q => by
  unfold gDIx at *
  split at q
  · next ps _ =>
    refine hG _ _ _ (fun r ρ' z => withD_mono (fun d z => ?_) z) q
    cases ek : keyD d with
    | none => rw [ek] at z; exact z.elim
    | some k =>
      rw [ek] at z
      dsimp only at z ⊢
      cases eg : getP ps k with
      | none => rw [eg] at z; exact z.elim
      | some w => rw [eg] at z; exact h _ _ z
  · exact q.elim
theorem de_dix {k : Nat} (hr : Room k X.A) (h : PE X (.Name x p) (tVar i)) (hb : DE X b Gb) (hs : NoSl b) : DE X (.Subscript (.Name x p) b pos) (gDIx i Gb) := ⟨gDIx_mono hb.mono, peI (pe_dget (by have := hr.un; omega) h hb.pe hs) fun σ H Q ⟨c, F, ρ, j, q⟩ => by
  unfold gDIx at q
  split at q
  · next ps e =>
    obtain ⟨v, h1, dp⟩ := j.sh i _ e
    cases dp with
    | dct e1 al hk =>
      refine ⟨_, h1, ⟨F, c.Z, c.io⟩, F, ρ, j.anew, hb.mono _ _ _ (fun r ρ1 z F1 H1 v1 j1 vr => ?_) q⟩
      obtain ⟨d, hd, z⟩ := withD_use z
      obtain ⟨F2, j2, s2, dp2⟩ := vr.frz j1 hd
      split at z
      · next k ek =>
        split at z
        · next w ew =>
          have hF := s2 _ _ (j1.ff _ _ e1)
          have hH := j2.fh _ _ hF
          obtain ⟨v2, ev, dv⟩ := get_dct al hk ew
          obtain rfl := keyD_v dp2 ek
          exact ⟨_, v2, rfl, .inl ⟨_, k, .inr ⟨_, hH⟩, rfl, ev.symm⟩, z F2 H1 v2 (j.back j2) (dpM (j1.ff.trans s2) dv)⟩
        · exact z.elim
      · exact z.elim
  · exact q.elim⟩
def giKeys (G : GE) : GI := fun ρ Q => G ρ fun r ρ' => withD r fun d => match d with | .dict ps => Q (ps.map Prod.fst) ρ' | _ => False
theorem di_keys (h : DE X a Ga) : DI X tg a (giKeys Ga) := ⟨fun _ _ _ hq q => h.mono _ _ _ (fun _ _ z => withD_mono (fun d z => by cases d <;> first | exact hq _ _ z | exact z) z) q, _, pi_keys h.pe, fun c F H σ ρ Q R j q k => by
  refine ⟨c, F, ρ, j, h.mono _ _ _ (fun r ρ' z F' H' v j' vr => ?_) q⟩
  obtain ⟨d, hd, z⟩ := withD_use z
  obtain ⟨F2, j2, s2, dp⟩ := vr.frz j' hd
  split at z
  · cases dp with
    | dct e1 al hk => exact ⟨_, _, rfl, .inl ⟨_, j2.fh _ _ e1, k _ _ F2 H' _ z j2 (it_keys e1 hk)⟩⟩
  · exact z.elim⟩
end
end DL
namespace DX
open PySem PyProof.Rows L2 DL
section
variable {X : Cx} {x : Str} {p pos : Pos} {a b tg : Expr} {xa xb : XE} {i : Nat}
def varDX (s : Option (Option R)) (i : Nat) (ρ : Rho) : Re R Rho := match s with
  | some (some (.sh d)) => .ok (.sh d) ρ
  | some (some (.own (.dic kvs))) => .ok (.sh (.dict (kvD kvs))) (ρ.set i (some (.sh (.dict (kvD kvs)))))
  | _ => .bad
@[simp ↓] theorem varDX_sh (d : PyData) (i : Nat) (ρ : Rho) : varDX (some (some (.sh d))) i ρ = .ok (.sh d) ρ := Eq.trans rfl rfl
@[simp ↓] theorem varDX_own (kvs : List (Key × PyData)) (i : Nat) (ρ : Rho) : varDX (some (some (.own (.dic kvs)))) i ρ = .ok (.sh (.dict (kvD kvs))) (ρ.set i (some (.sh (.dict (kvD kvs))))) := Eq.trans rfl rfl
def xVarD (i : Nat) : XE := fun ρ => varDX ρ[i]? i ρ
@[simp ↓] theorem xVarD_at (i : Nat) (ρ : Rho) : xVarD i ρ = varDX ρ[i]? i ρ := Eq.trans rfl rfl
theorem xe_varD (h : PE X (.Name x pos) (tVar i)) : EX X (.Name x pos) (xVarD i) := exI (de_varD h) fun ρ Q r ρ' e q => by
  have go : ∀ s, ρ[i]? = s → varDX s i ρ = .ok r ρ' → gVarD i ρ Q := by
    intro s hs e
    unfold gVarD
    rw [hs]
    match s, e with
    | some (some (.sh d)), e => cases e; exact q
    | some (some (.own (.dic ds))), e => cases e; exact q
  exact go _ rfl e
def dctX {α β : Type} (s : Option (Option R)) (k : List (PyData × PyData) → Re α β) : Re α β := match s with
  | some (some (.sh (.dict ps))) => k ps
  | _ => .bad
@[simp ↓] theorem dctX_sh {α β : Type} (ps : List (PyData × PyData)) (k : List (PyData × PyData) → Re α β) : dctX (some (some (.sh (.dict ps)))) k = k ps := Eq.trans rfl rfl
def xDIx (i : Nat) (b : XE) : XE := fun ρ => dctX ρ[i]? fun ps => (b ρ).bind fun r ρ1 => withX r fun d => keyX d fun k => ofO ((getP ps k).map R.sh) ρ1
@[simp ↓] theorem xDIx_at (i : Nat) (b : XE) (ρ : Rho) : xDIx i b ρ = dctX ρ[i]? fun ps => (b ρ).bind fun r ρ1 => withX r fun d => keyX d fun k => ofO ((getP ps k).map R.sh) ρ1 := Eq.trans rfl rfl
theorem xe_dix {k : Nat} (hr : Room k X.A) (h : PE X (.Name x p) (tVar i)) (hb : EX X b xb) (hs : NoSl b) : EX X (.Subscript (.Name x p) b pos) (xDIx i xb) := exI (de_dix hr h hb hs) fun ρ Q r ρ' e q => by
  have go : ∀ s, ρ[i]? = s → (dctX s fun ps => (xb ρ).bind fun r ρ1 => withX r fun d => keyX d fun k => ofO ((getP ps k).map R.sh) ρ1) = .ok r ρ' → gDIx i (toG xb) ρ Q := by
    intro s hs e
    unfold gDIx
    rw [hs]
    match s, e with
    | some (some (.sh (.dict ps))), e =>
      obtain ⟨r1, ρ1, e1, f1⟩ := Re.bind_inv e
      obtain ⟨d, hd, f2⟩ := withX_inv f1
      refine ⟨r1, ρ1, e1, withD_mk hd ?_⟩
      unfold keyX at f2
      cases ek : keyD d with
      | none => rw [ek] at f2; cases f2
      | some k =>
        rw [ek] at f2
        dsimp only at f2 ⊢
        cases eg : getP ps k with
        | none => rw [eg] at f2; cases f2
        | some z =>
          rw [eg] at f2
          cases f2
          exact q
  exact go _ rfl e
def dcX {α β : Type} (d : PyData) (k : List (PyData × PyData) → Re α β) : Re α β := match d with | .dict ps => k ps | _ => .bad
@[simp ↓] theorem dcX_dict {α β : Type} (ps : List (PyData × PyData)) (k : List (PyData × PyData) → Re α β) : dcX (.dict ps) k = k ps := Eq.trans rfl rfl
def xiKeys (a : XE) : XA := fun ρ => (a ρ).bind fun r ρ' => withX r fun d => dcX d fun ps => .ok (ps.map Prod.fst) ρ'
@[simp ↓] theorem xiKeys_at (a : XE) (ρ : Rho) : xiKeys a ρ = (a ρ).bind fun r ρ' => withX r fun d => dcX d fun ps => .ok (ps.map Prod.fst) ρ' := Eq.trans rfl rfl
theorem ix_keys (h : EX X a xa) : IX X tg a (xiKeys xa) := diI (di_keys h) fun ρ Q r ρ' e q => by
  obtain ⟨r1, ρ1, e1, f1⟩ := Re.bind_inv e
  obtain ⟨d, hd, f2⟩ := withX_inv f1
  refine ⟨r1, ρ1, e1, withD_mk hd ?_⟩
  cases d with
  | dict ps => cases f2; exact q
  | none => cases f2
  | bool _ => cases f2
  | int _ => cases f2
  | str _ => cases f2
  | list _ => cases f2
  | tuple _ => cases f2
end
end DX
set_option Elab.async false
set_option linter.all false
set_option maxRecDepth 100000
namespace DL
open PySem PyProof.Rows L2
section
variable {K : PySem.W.Frag} {F : Hp}
theorem get_none {k : Key} : ∀ {ws : List (Key × V)} {ps : List (PyData × PyData)}, ps.map Prod.fst = (ws.map fun p => keyP p.1) → getP ps k = none → valV ws k = none
  | [], [], _, _ => rfl
  | [], _ :: _, h, _ => by cases h
  | _ :: _, [], h, _ => by cases h
  | q :: ws, p :: ps, hk, e => by
    obtain ⟨h1, h2⟩ := List.cons.inj hk
    unfold getP at e
    unfold valV
    rw [List.find?_cons] at e ⊢
    by_cases z : q.1 = k
    · rw [decide_eq_true (show keyD p.1 = some k by rw [h1, keyD_keyP, z])] at e
      cases e
    · rw [decide_eq_false (fun y => z (by rw [h1, keyD_keyP] at y; exact Option.some.inj y))] at e
      rw [decide_eq_false z]
      exact get_none h2 e
end
section
variable {X : Cx} {x : Str} {p pos apos cpos : Pos} {a b e : Expr} {Ga Gb Gc : GE} {i : Nat}
end
end DL
namespace DX
open PySem PyProof.Rows L2 DL
section
variable {X : Cx} {x : Str} {p pos apos cpos : Pos} {a b e : Expr} {xa xb xc : XE} {i : Nat}
end
end DX
set_option Elab.async false
set_option linter.all false
set_option maxRecDepth 100000
namespace DL
open PySem PyProof.Rows L2
section
variable {K : PySem.W.Frag} {F : Hp}
end
section
variable {X : Cx} {a tg : Expr} {Ga : GE} {apos cpos tpos : Pos} {elts : List Expr} {kk : Nat}
end
end DL
namespace DX
open PySem PyProof.Rows L2 DL
section
variable {X : Cx} {a tg : Expr} {xa : XE} {apos cpos tpos : Pos} {elts : List Expr} {kk : Nat}
end
end DX
set_option Elab.async false
set_option linter.all false
set_option maxRecDepth 100000
namespace DL
open PySem PyProof.Rows L2
section
variable {X : Cx} {x : Str} {p pos : Pos} {b : Expr} {Gb : GE} {i : Nat}
def gDIxO (i : Nat) (G : GE) : GE := fun ρ Q => ownAt ρ i fun _ _ => G ρ fun r ρ' => withD r fun d => ownAt ρ' i fun o _ => match o, keyD d with
  | .dic kvs, some k => (match getP (kvD kvs) k with | some z => Q (.sh z) ρ' | none => False)
  | _, _ => False
theorem gDIxO_mono {G : GE} (hG : MonoE G) : MonoE (gDIxO i G) := fun ρ Q Q' h q => ownAt_mono (fun _ _ q => hG _ _ _ (fun r ρ' z => withD_mono (fun d z => ownAt_mono (fun o w z => by
  split at z
  · next kvs k hk =>
    cases eg : getP (kvD kvs) k with
    | none => rw [eg] at z; exact z.elim
    | some w => rw [eg] at z; exact h _ _ z
  · exact z) z) z) q) q
theorem de_dixO {k : Nat} (hr : Room k X.A) (h : PE X (.Name x p) (tVar i)) (hb : DE X b Gb) (hs : NoSl b) : DE X (.Subscript (.Name x p) b pos) (gDIxO i Gb) := ⟨gDIxO_mono hb.mono, peI (pe_dget (by have := hr.un; omega) h hb.pe hs) fun σ H Q ⟨c, F, ρ, j, q⟩ => by
  obtain ⟨o0, w0, hw0, hρ0, ow0, q⟩ := ownAt_use q
  obtain ⟨a0, ho0, hσ0, _⟩ := j.ow i o0 ow0
  refine ⟨.ref a0, hσ0, c, F, ρ, j, hb.mono _ _ _ (fun r1 ρ1 q1 F1 H1 v1 j1 v1r => ?_) q⟩
  obtain ⟨d, hd, q1⟩ := withD_use q1
  obtain ⟨F2, j2, s2, dp⟩ := v1r.frz j1 hd
  obtain ⟨o, w, hw, hρ, ow, q1⟩ := ownAt_use q1
  obtain ⟨a4, ho, hσ, g2, g3, _⟩ := j2.ow i o ow
  split at q1
  · next kvs k hk =>
    obtain ⟨ws, rfl, al⟩ := g3
    have ev := keyD_v dp hk
    subst ev
    cases eg : getP (kvD kvs) k with
    | none => rw [eg] at q1; exact q1.elim
    | some z =>
      rw [eg] at q1
      obtain ⟨al2, hk2⟩ := dpKV_all al
      obtain ⟨v2, ev2, dv⟩ := get_dct al2 hk2 eg
      rw [hσ0] at hσ
      cases hσ
      refine ⟨_, v2, rfl, ?_, q1 F2 H1 v2 j2 dv⟩
      rw [← ev2]
      exact DGet.k g2
  · exact q1.elim⟩
end
end DL
namespace DX
open PySem PyProof.Rows L2 DL
section
variable {X : Cx} {x : Str} {p pos : Pos} {b : Expr} {xb : XE} {i : Nat}
def xDIxO (i : Nat) (b : XE) : XE := fun ρ => ownX ρ[i]? fun _ _ => (b ρ).bind fun r ρ1 => withX r fun d => ownX ρ1[i]? fun o _ => dicX o fun kvs => keyX d fun k => ofO ((getP (kvD kvs) k).map R.sh) ρ1
@[simp ↓] theorem xDIxO_at (i : Nat) (b : XE) (ρ : Rho) : xDIxO i b ρ = ownX ρ[i]? fun _ _ => (b ρ).bind fun r ρ1 => withX r fun d => ownX ρ1[i]? fun o _ => dicX o fun kvs => keyX d fun k => ofO ((getP (kvD kvs) k).map R.sh) ρ1 := Eq.trans rfl rfl
theorem dixO_end {ρ1 : Rho} {d : PyData} {o : OO} {r : R} {ρ' : Rho} {Q : KE} (f : (dicX o fun kvs => keyX d fun k => ofO ((getP (kvD kvs) k).map R.sh) ρ1) = .ok r ρ') (q : Q r ρ') : (match (generalizing := false) o, keyD d with
  | .dic kvs, some k => (match getP (kvD kvs) k with | some z => Q (.sh z) ρ1 | none => False)
  | _, _ => False) := by
  cases o with
  | lst ds => cases f
  | exc z => cases f
  | dic kvs =>
    have f2 : keyX d (fun k => ofO ((getP (kvD kvs) k).map R.sh) ρ1) = .ok r ρ' := f
    unfold keyX at f2
    cases ek : keyD d with
    | none => rw [ek] at f2; cases f2
    | some k =>
      rw [ek] at f2
      dsimp only at f2 ⊢
      cases eg : getP (kvD kvs) k with
      | none => rw [eg] at f2; cases f2
      | some z => rw [eg] at f2; cases f2; exact q
theorem xe_dixO {k : Nat} (hr : Room k X.A) (h : PE X (.Name x p) (tVar i)) (hb : EX X b xb) (hs : NoSl b) : EX X (.Subscript (.Name x p) b pos) (xDIxO i xb) := exI (de_dixO hr h hb hs) fun ρ Q r ρ' e q => by
  obtain ⟨o0, w0, f1, k1⟩ := ownX_inv e
  obtain ⟨r1, ρ1, e1, f2⟩ := Re.bind_inv f1
  obtain ⟨d, hd, f3⟩ := withX_inv f2
  obtain ⟨o, w, f4, k2⟩ := ownX_inv f3
  exact k1 _ ⟨r1, ρ1, e1, withD_mk hd (k2 _ (dixO_end f4 q))⟩
end
end DX
set_option Elab.async false
set_option linter.all false
set_option maxRecDepth 100000
namespace DL
open PySem PyProof.Rows L2
section
variable {X : Cx} {a b : Expr} {Gk Gv : GE} {pos : Pos}
end
end DL
namespace DX
open PySem PyProof.Rows L2 DL
section
variable {X : Cx} {a b : Expr} {xa xb : XE} {pos : Pos}
end
end DX
set_option Elab.async false
set_option linter.all false
set_option maxRecDepth 100000
namespace DL
open PySem PyProof.Rows
section
variable {prog : Program} {w : World} {A : Around} {E : Value → Shared → Prop} {s : Shared}
end
end DL
set_option Elab.async false
set_option linter.all false
set_option maxRecDepth 100000
namespace DL
open PySem PyProof.Rows L2
section
variable {X : Cx} {pins : List (Addr × Obj)} {σ : L2.St} {H : Hp} {s : Shared}
end
end DL
set_option Elab.async false
set_option linter.all false
set_option maxRecDepth 100000
namespace DL
open PySem PyProof.Rows L2
section
variable {X : Cx} {tg a b e : Expr} {es : List Expr} {Ga Gb : GE} {pos : Pos}
variable {elt iter : Expr} {ifs : List Expr} {scope : Scope} {own : List (Str × Nat)} {i : GI} {g : GG} {T : GT} {Ge : GE} {sl : List Nat} {tg' : TG}
end
end DL
namespace DX
open PySem PyProof.Rows L2 DL
section
variable {X : Cx} {a b c e tg iter : Expr} {es rest : List Expr} {pos p py : Pos} {xa xb : XE}
variable {elt : Expr} {ifs : List Expr} {scope : Scope} {own : List (Str × Nat)} {i : XA} {g : XG} {T : XT} {xe : XE} {sl : List Nat}
end
end DX
set_option Elab.async false
set_option linter.all false
set_option maxRecDepth 100000
namespace PF
open PySem L2 DL DX
def U_law_take : XS :=
  (xSeq (xIf (xB (xBin vGt (xIxU 0 (xC (.int 0))) (xC (.int 0)))) (xSeq (xAsg (xBin vMod (xIxU 0 (xC (.int 0))) (xVar 1)) (xN 2))
    (xSeq (xExp (xSetIx 0 (xBin vDiv (xIxU 0 (xC (.int 0))) (xVar 1)) (xC (.int 0))))
    (xRet (xVar 2)))) xNext)
    (xSeq (xExp (xSetIx 0 (xBin vMod (xBin vAdd (xBin vMulB (xIxU 0 (xC (.int 1))) (xC (.int 69621))) (xC (.int 12345))) (xC (.int 2147483647))) (xC (.int 1))))
    (xRet (xBin vMod (xBin vDiv (xBin vMod (xBin vMulB (xIxU 0 (xC (.int 1))) (xIxU 0 (xC (.int 1)))) (xC (.int 2147483629))) (xC (.int 64))) (xVar 1)))))
def F_law_take : Fp := runP 2 3 U_law_take
theorem F_law_take_eq (a0 : OO) (a1 : PyData) : F_law_take a0 [a1] = (U_law_take [some (.io a0), some (.sh a1), none]).finP := runP_eq (m := 2) (n := 3) U_law_take a0 [a1] _ rfl rfl
end PF
set_option Elab.async false
set_option linter.all false
set_option maxRecDepth 100000
namespace PF
open PySem L2 DL DX
def U_law_pot : XS :=
  (xSeq (xAsg (xC (.int 0)) (xN 2))
    (xSeq (xIf (xB (xBin vLt (xVar 1) (xLenU 0))) (xAsg (xBin vMod (xBlt vAbs (xCons (xIxU 0 (xVar 1)) xNil)) (xBin vPow (xBin vPow (xC (.int 10)) (xC (.int 60))) (xC (.int 4)))) (xN 2)) xNext)
    (xRet (xLst (xCons (xBin vMulB (xVar 2) (xBlt vInt (xCons (xBin vGe (xVar 2) (xBin vPow (xC (.int 10)) (xC (.int 18)))) xNil))) (xCons (xBin vMod (xBin vPow (xBin vAdd (xBin vAdd (xBin vMod (xVar 2) (xC (.int 2147483629))) (xBin vMulB (xC (.int 7919)) (xVar 1))) (xC (.int 1))) (xC (.int 5))) (xC (.int 2147483647))) xNil))))))
def F_law_pot : Fn := runD 2 3 U_law_pot
theorem F_law_pot_eq (a0 a1 : PyData) : F_law_pot [a0, a1] = (U_law_pot [some (.sh a0), some (.sh a1), none]).fin := runD_eq (m := 2) (n := 3) U_law_pot [a0, a1] _ rfl rfl
end PF
set_option Elab.async false
set_option linter.all false
set_option maxRecDepth 100000
namespace PF
open PySem L2 DL DX
@[simp ↓] theorem vEq_int (neg : Bool) (i j : Int) : vEq neg (.int i) (.int j) = some (.sh (.bool (if neg then !decide (i = j) else decide (i = j)))) := by
  unfold vEq
  rw [gd_ok (by simp [PyData.canLay0, PyData.depth])]
  have e : (i == j) = decide (i = j) := by by_cases h : i = j <;> simp [h]
  simp [PyData.eqv, e]
structure Lay (d : PyData) : Prop where
  lay : d.canLay0 = true
  dep : d.depth < 200
theorem vEq_lay {neg : Bool} {d e : PyData} (h : Lay d) (k : e.canLay0 = true) : vEq neg d e = some (.sh (.bool (if neg then !PyData.eqv d e else PyData.eqv d e))) := by
  unfold vEq
  rw [gd_ok ⟨h.lay, k, by have := h.dep; omega⟩]
theorem vEq_lay' {neg : Bool} {d e : PyData} (h : d.canLay0 = true) (k : Lay e) : vEq neg d e = some (.sh (.bool (if neg then !PyData.eqv d e else PyData.eqv d e))) := by
  unfold vEq
  rw [gd_ok ⟨h, k.lay, by have := k.dep; omega⟩]
theorem Lay.tup0 : Lay (.tuple []) := ⟨rfl, by decide⟩
theorem Lay.lst0 : Lay (.list []) := ⟨rfl, by decide⟩
theorem canLayAll_map {α : Type} {f : α → PyData} (h : ∀ x, (f x).canLay0 = true) : ∀ xs : List α, PyData.canLayAll0 (xs.map f) = true
  | [] => rfl
  | x :: xs => by simp [PyData.canLayAll0, h x, canLayAll_map h xs]
theorem depthAll_map {α : Type} {f : α → PyData} {m : Nat} (h : ∀ x, (f x).depth ≤ m) : ∀ xs : List α, PyData.depthAll (xs.map f) ≤ m
  | [] => Nat.zero_le _
  | x :: xs => by
    have h1 := h x
    have h2 := depthAll_map h xs
    simp only [List.map_cons, PyData.depthAll]
    omega
theorem Lay.list {α : Type} {f : α → PyData} {m : Nat} (h : ∀ x, (f x).canLay0 = true) (k : ∀ x, (f x).depth ≤ m) (hm : m < 190) (xs : List α) : Lay (.list (xs.map f)) :=
  ⟨by simp [PyData.canLay0, canLayAll_map h xs], by have := depthAll_map k xs; simp only [PyData.depth]; omega⟩
theorem Lay.tuple {α : Type} {f : α → PyData} {m : Nat} (h : ∀ x, (f x).canLay0 = true) (k : ∀ x, (f x).depth ≤ m) (hm : m < 190) (xs : List α) : Lay (.tuple (xs.map f)) :=
  ⟨by simp [PyData.canLay0, canLayAll_map h xs], by have := depthAll_map k xs; simp only [PyData.depth]; omega⟩
theorem Lay.ints (xs : List Int) : Lay (.list (xs.map .int)) := Lay.list (m := 1) (fun _ => rfl) (fun _ => by simp [PyData.depth]) (by decide) xs
@[simp ↓] theorem pow10_6 : vPow (.int 10) (.int 6) = some (.sh (.int 1000000)) := (pow_ok ⟨by decide, by decide +kernel⟩).trans (congrArg (fun z => some (R.sh (PyData.int z))) (by decide +kernel))
@[simp ↓] theorem pow10_11 : vPow (.int 10) (.int 11) = some (.sh (.int 100000000000)) := (pow_ok ⟨by decide, by decide +kernel⟩).trans (congrArg (fun z => some (R.sh (PyData.int z))) (by decide +kernel))
@[simp ↓] theorem pow10_12 : vPow (.int 10) (.int 12) = some (.sh (.int 1000000000000)) := (pow_ok ⟨by decide, by decide +kernel⟩).trans (congrArg (fun z => some (R.sh (PyData.int z))) (by decide +kernel))
@[simp ↓] theorem pow10_18 : vPow (.int 10) (.int 18) = some (.sh (.int 1000000000000000000)) := (pow_ok ⟨by decide, by decide +kernel⟩).trans (congrArg (fun z => some (R.sh (PyData.int z))) (by decide +kernel))
@[simp ↓] theorem pow10_59 : vPow (.int 10) (.int 59) = some (.sh (.int 100000000000000000000000000000000000000000000000000000000000)) := (pow_ok ⟨by decide, by decide +kernel⟩).trans (congrArg (fun z => some (R.sh (PyData.int z))) (by decide +kernel))
def T60 : Int := 10 ^ 60
@[simp ↓] theorem pow10_60 : vPow (.int 10) (.int 60) = some (.sh (.int T60)) := pow_ok ⟨by decide, by decide +kernel⟩
structure Pot where
  a : Int
  b : Int
def Pot.o (p : Pot) : OO := .lst [.int p.a, .int p.b]
structure Pot.Ok (p : Pot) : Prop where
  a0 : 0 ≤ p.a
  b0 : 0 ≤ p.b
  b1 : p.b < 2147483648
def takeV (p : Pot) (m : Int) : Int := if 0 < p.a then p.a % m else ((p.b * 69621 + 12345) % 2147483647) * ((p.b * 69621 + 12345) % 2147483647) % 2147483629 / 64 % m
def takeP (p : Pot) (m : Int) : Pot := if 0 < p.a then ⟨p.a / m, p.b⟩ else ⟨p.a, (p.b * 69621 + 12345) % 2147483647⟩
theorem take_eq {p : Pot} {m : Int} (hp : p.Ok) (h0 : 0 < m) (h1 : m < 1073741824) : F_law_take p.o [.int m] = .ok (.sh (.int (takeV p m))) (takeP p m).o := by
  obtain ⟨a, b⟩ := p
  obtain ⟨g1, g2, g3⟩ := hp
  rw [F_law_take_eq]
  by_cases h : 0 < a
  · simp (disch := first | assumption | omega) [U_law_take, Pot.o, takeV, takeP, h, gd_ok, CDiv, h0, h1]
  · have h2 : 0 ≤ (b * 69621 + 12345) % 2147483647 := Int.emod_nonneg _ (by decide)
    have h3 : (b * 69621 + 12345) % 2147483647 < 2147483647 := Int.emod_lt_of_pos _ (by decide)
    have k1 : IntMulOk b 69621 := mulOk_r (by decide) (by decide)
    have k2 : IntMulOk ((b * 69621 + 12345) % 2147483647) ((b * 69621 + 12345) % 2147483647) := mulOk_r (by omega) (by omega)
    simp (disch := first | assumption | omega) [U_law_take, Pot.o, takeV, takeP, h, gd_ok, CDiv, h0, h1, k1, k2]
theorem takeV_ge {p : Pot} {m : Int} (h0 : 0 < m) : 0 ≤ takeV p m := by
  unfold takeV
  split
  · exact Int.emod_nonneg _ (by omega)
  · exact Int.emod_nonneg _ (by omega)
theorem takeV_lt {p : Pot} {m : Int} (h0 : 0 < m) : takeV p m < m := by
  unfold takeV
  split
  · exact Int.emod_lt_of_pos _ h0
  · exact Int.emod_lt_of_pos _ h0
theorem takeP_ok {p : Pot} {m : Int} (hp : p.Ok) (h0 : 0 < m) : (takeP p m).Ok := by
  unfold takeP
  split
  · exact ⟨Int.ediv_nonneg hp.a0 (by omega), hp.b0, hp.b1⟩
  · refine ⟨hp.a0, Int.emod_nonneg _ (by decide), ?_⟩
    show (p.b * 69621 + 12345) % 2147483647 < 2147483648
    have := Int.emod_lt_of_pos (p.b * 69621 + 12345) (show (0 : Int) < 2147483647 by decide)
    omega
theorem take_ex {p : Pot} {m : Int} (hp : p.Ok) (h0 : 0 < m) (h1 : m < 1073741824) : ∃ i q, F_law_take p.o [.int m] = .ok (.sh (.int i)) (Pot.o q) ∧ 0 ≤ i ∧ i < m ∧ q.Ok :=
  ⟨_, _, take_eq hp h0 h1, takeV_ge h0, takeV_lt h0, takeP_ok hp h0⟩
theorem cell_bits {cell k : Int} (h0 : 0 ≤ k) (h1 : k < 100) : CPowB (cell % 2147483629 + 7919 * k + 1) 5 := by
  have h1 := Int.emod_nonneg cell (show (2147483629 : Int) ≠ 0 by decide)
  have h2 := Int.emod_lt_of_pos cell (show (0 : Int) < 2147483629 by decide)
  refine ⟨by decide, ?_⟩
  have h3 : Builtin.Int.intBits (cell % 2147483629 + 7919 * k + 1) ≤ 64 := PySem.intBits_le_64 (by omega) (by omega)
  have e : (2 : Int) ^ 27 = 134217728 := by decide
  rw [e]
  omega
theorem pot_ex {ns : List Int} {k : Int} (h63 : ns.length ≤ 63) (h0 : 0 ≤ k) (h1 : k < 100) : ∃ p : Pot, F_law_pot [.list (ns.map .int), .int k] = .ok (.own p.o) () ∧ p.Ok := by
  have fin : ∀ cell : Int, 0 ≤ cell → ∃ p : Pot, p.Ok ∧ p.o = .lst [.int (cell * (if decide (1000000000000000000 ≤ cell) = true then 1 else 0)), .int ((cell % 2147483629 + 7919 * k + 1) ^ 5 % 2147483647)] := fun cell hc => by
    refine ⟨⟨_, _⟩, ⟨?_, Int.emod_nonneg _ (by decide), ?_⟩, rfl⟩
    · show 0 ≤ cell * (if decide (1000000000000000000 ≤ cell) = true then 1 else 0)
      split <;> omega
    · have := Int.emod_lt_of_pos ((cell % 2147483629 + 7919 * k + 1) ^ 5) (show (0 : Int) < 2147483647 by decide)
      show (cell % 2147483629 + 7919 * k + 1) ^ 5 % 2147483647 < 2147483648
      omega
  have m1 : ∀ cell : Int, IntMulOk cell (if 1000000000000000000 ≤ cell then 1 else 0) := fun cell => by split <;> exact mulOk_r (by decide) (by decide)
  have m2 : IntMulOk 7919 k := mulOk_l (by decide) (by decide)
  have e2 : ∃ L : Int, 0 < L ∧ vPow (.int T60) (.int 4) = some (.sh (.int L)) := ⟨_, by decide +kernel, pow_ok ⟨by decide, by decide +kernel⟩⟩
  obtain ⟨L, hL, e2⟩ := e2
  have e4 := fun cell => pow_ok (cell_bits (cell := cell) h0 h1)
  have e5 : (5 : Int).toNat = 5 := rfl
  rw [e5] at e4
  rw [F_law_pot_eq]
  by_cases h : k < (ns.length : Int)
  · obtain ⟨x, hx⟩ : ∃ x, ns[k.toNat]? = some x := ⟨ns[k.toNat]'(by omega), by simp⟩
    have ix := ixX_map (f := PyData.int) h0 hx
    obtain ⟨p, ok, e⟩ := fin ((if x < 0 then -x else x) % L) (Int.emod_nonneg _ (by omega))
    refine ⟨p, ?_, ok⟩
    rw [e]
    simp (disch := first | assumption | omega) [U_law_pot, h, ix, gd_ok, gr_ok, e2, e4, m1]
  · obtain ⟨p, ok, e⟩ := fin 0 (Int.le_refl _)
    refine ⟨p, ?_, ok⟩
    have e40 : vPow (.int (7919 * k + 1)) (.int 5) = some (.sh (.int ((7919 * k + 1) ^ 5))) := by simpa using e4 0
    have m0 : IntMulOk 0 0 := mulOk_l (by decide) (by decide)
    rw [e]
    simp (disch := first | assumption | omega) [U_law_pot, h, gd_ok, gr_ok, e40, m0]
end PF
set_option Elab.async false
set_option linter.all false
namespace PF
open PySem L2 DL DX
def NIo (s : Option R) : Prop := ∀ x, freeX (some s) x = x
theorem NIo.none : NIo none := fun x => rfl
theorem NIo.sh (d : PyData) : NIo (some (.sh d)) := fun x => rfl
theorem NIo.own (d : OO) : NIo (some (.own d)) := fun x => rfl
def calmS (s : Option (Option R)) : Bool := match s with | some (some (.own _)) => false | some (some (.io _)) => false | _ => true
structure Sl (s : Option R) : Prop where
  io : ∀ x, freeX (some s) x = x
  calm : calmS (some s) = true
theorem Sl.none : Sl none := ⟨fun _ => rfl, rfl⟩
theorem Sl.sh (d : PyData) : Sl (some (.sh d)) := ⟨fun _ => rfl, rfl⟩
end PF
set_option Elab.async false
set_option linter.all false
set_option maxRecDepth 100000
namespace PF
open PySem L2 DL DX
end PF
set_option Elab.async false
set_option linter.all false
set_option maxRecDepth 100000
namespace PF
open PySem L2 DL DX
structure Card where
  k : Int
  r : Int
  w : Int
def Card.d (c : Card) : PyData := .tuple [.int c.k, .int c.r, .int c.w]
inductive T where
  | nil
  | node (l : T) (c : Card) (r : T)
def T.d : T → PyData
  | .nil => .tuple []
  | .node l c r => .tuple [l.d, c.d, r.d]
def T.cards : T → List Card
  | .nil => []
  | .node l c r => l.cards ++ c :: r.cards
def T.hi : T → Nat
  | .nil => 0
  | .node l _ r => max l.hi r.hi + 1
theorem Card.lay (c : Card) : c.d.canLay0 = true := rfl
theorem Card.dep (c : Card) : c.d.depth ≤ 2 := by simp [Card.d, PyData.depth, PyData.depthAll]
theorem T.lay : ∀ t : T, t.d.canLay0 = true
  | .nil => rfl
  | .node l c r => by simp [T.d, Card.d, PyData.canLay0, PyData.canLayAll0, T.lay l, T.lay r]
theorem T.hi_len : ∀ t : T, t.hi ≤ t.cards.length
  | .nil => Nat.le_refl _
  | .node l c r => by
    have h1 := T.hi_len l
    have h2 := T.hi_len r
    simp only [T.hi, T.cards, List.length_append, List.length_cons]
    omega
theorem vEq_nil : vEq false T.nil.d (.tuple []) = some (.sh (.bool true)) := by
  rw [vEq_lay' (T.lay _) Lay.tup0]
  simp [T.d, PyData.eqv, PyData.eqvAll]
theorem vEq_node (l : T) (c : Card) (r : T) : vEq false (T.node l c r).d (.tuple []) = some (.sh (.bool false)) := by
  rw [vEq_lay' (T.lay _) Lay.tup0]
  simp [T.d, PyData.eqv, PyData.eqvAll]
abbrev csd (cs : List Card) : PyData := .list (cs.map Card.d)
theorem Lay.csd (cs : List Card) : Lay (PF.csd cs) := Lay.list (m := 2) Card.lay Card.dep (by decide) cs
end PF
set_option Elab.async false
set_option linter.all false
set_option maxRecDepth 100000
namespace PF
open PySem L2 DL DX
def U_law_many_v2 : XS :=
  (xSeq (xAsg (xCallO F_law_take 0 (xCons (xBin vAdd (xVar 1) (xC (.int 1))) xNil)) (xN 2))
    (xSeq (xIf (xB (xBin (vEq false) (xCallO F_law_take 0 (xCons (xC (.int 6)) xNil)) (xC (.int 0)))) (xAsg (xBin vIx (xTup (xCons (xC (.int 0)) (xCons (xC (.int 1)) (xCons (xVar 1) xNil)))) (xCallO F_law_take 0 (xCons (xC (.int 3)) xNil))) (xN 2)) xNext)
    (xRet (xVar 2))))
def F_law_many_v2 : Fp := runP 2 3 U_law_many_v2
theorem F_law_many_v2_eq (a0 : OO) (a1 : PyData) : F_law_many_v2 a0 [a1] = (U_law_many_v2 [some (.io a0), some (.sh a1), none]).finP := runP_eq (m := 2) (n := 3) U_law_many_v2 a0 [a1] _ rfl rfl
end PF
set_option Elab.async false
set_option linter.all false
set_option maxRecDepth 100000
namespace PF
open PySem L2 DL DX
def U_law_marks_1 : XE :=
  (xBin vSub (xBin vPow (xC (.int 10)) (xC (.int 18))) (xVar 8))
def U_law_marks_2 : XS :=
  (xSeq (xExp (xMeth vAppend 6 (xCons (xVar 5) xNil)))
    (xAsg (xBin vAdd (xBin vAdd (xVar 5) (xC (.int 1))) (xCallO F_law_take 0 (xCons (xBin vIx (xTup (xCons (xC (.int 1)) (xCons (xC (.int 1)) (xCons (xC (.int 3)) (xCons (xBin vPow (xC (.int 10)) (xC (.int 6))) xNil))))) (xVar 2)) xNil))) (xN 5)))
def U_law_marks : XS :=
  (xSeq (xAsg (xCallO F_law_take 0 (xCons (xC (.int 4)) xNil)) (xN 2))
    (xSeq (xAsg (xCallO F_law_take 0 (xCons (xC (.int 3)) xNil)) (xN 3))
    (xSeq (xAsg (xCallO F_law_take 0 (xCons (xC (.int 3)) xNil)) (xN 4))
    (xSeq (xAsg (xC (.int 0)) (xN 5))
    (xSeq (xIf (xB (xBin vGt (xVar 3) (xC (.int 0)))) (xAsg (xBin vMulB (xCallO F_law_take 0 (xCons (xBin vIx (xTup (xCons (xC (.int 50)) (xCons (xBin vPow (xC (.int 10)) (xC (.int 6))) xNil))) (xBin vSub (xVar 3) (xC (.int 1)))) xNil)) (xBin vIx (xTup (xCons (xC (.int 1)) (xCons (xBin vPow (xC (.int 10)) (xC (.int 11))) xNil))) (xBin vSub (xVar 3) (xC (.int 1))))) (xN 5)) xNext)
    (xSeq (xAsg (xLst xNil) (xN 6))
    (xSeq (xFor (xiOf rng1 (xCons (xVar 1) xNil)) (xN 7) U_law_marks_2)
    (xSeq (xIf (xB (xBin (vEq false) (xVar 4) (xC (.int 0)))) (xAsg (xLc (xiSeq (xUn vRev (xVar 6))) [8] (xN 8) xYes U_law_marks_1) (xN 6)) xNext)
    (xRet (xVar 6))))))))))
def F_law_marks : Fp := runP 2 9 U_law_marks
theorem F_law_marks_eq (a0 : OO) (a1 : PyData) : F_law_marks a0 [a1] = (U_law_marks [some (.io a0), some (.sh a1), none, none, none, none, none, none, none]).finP := runP_eq (m := 2) (n := 9) U_law_marks a0 [a1] _ rfl rfl
end PF
set_option Elab.async false
set_option linter.all false
set_option maxRecDepth 100000
namespace PF
open PySem L2 DL DX
def U_law_cards_v4_1 : XS :=
  (xSeq (xAsg (xBin vMulB (xCallO F_law_take 0 (xCons (xBin vIx (xTup (xCons (xC (.int 3)) (xCons (xC (.int 200)) (xCons (xBin vPow (xC (.int 10)) (xC (.int 6))) (xCons (xC (.int 2)) (xCons (xC (.int 1)) (xCons (xC (.int 1)) xNil))))))) (xVar 2)) xNil)) (xBin vIx (xTup (xCons (xC (.int 1)) (xCons (xC (.int 1)) (xCons (xBin vPow (xC (.int 10)) (xC (.int 12))) (xCons (xBin vPow (xC (.int 10)) (xC (.int 18))) (xCons (xC (.int 1)) (xCons (xC (.int 1)) xNil))))))) (xVar 2))) (xN 6))
    (xSeq (xAsg (xBin vAdd (xVar 6) (xBin vIx (xTup (xCons (xC (.int 0)) (xCons (xC (.int 0)) (xCons (xC (.int 0)) (xCons (xC (.int 0)) (xCons (xVar 5) (xCons (xBin vSub (xLenU 1) (xVar 5)) xNil))))))) (xVar 2))) (xN 6))
    (xSeq (xAsg (xBin vSub (xCallO F_law_take 0 (xCons (xBin vIx (xTup (xCons (xC (.int 11)) (xCons (xC (.int 3)) (xCons (xBin vPow (xC (.int 10)) (xC (.int 6))) (xCons (xC (.int 1)) (xCons (xC (.int 201)) xNil)))))) (xVar 3)) xNil)) (xBin vIx (xTup (xCons (xC (.int 5)) (xCons (xC (.int 1)) (xCons (xC (.int 0)) (xCons (xC (.int 0)) (xCons (xC (.int 100)) xNil)))))) (xVar 3))) (xN 7))
    (xExp (xMeth vAppend 4 (xCons (xTup (xCons (xIxU 1 (xVar 5)) (xCons (xVar 6) (xCons (xBin vMulB (xVar 7) (xBin vIx (xTup (xCons (xC (.int 1)) (xCons (xBin vPow (xC (.int 10)) (xC (.int 18))) (xCons (xBin vPow (xC (.int 10)) (xC (.int 12))) (xCons (xC (.int 1)) (xCons (xC (.int 1)) xNil)))))) (xVar 3))) xNil)))) xNil))))))
def U_law_cards_v4 : XS :=
  (xSeq (xAsg (xCallO F_law_take 0 (xCons (xC (.int 6)) xNil)) (xN 2))
    (xSeq (xAsg (xCallO F_law_take 0 (xCons (xC (.int 5)) xNil)) (xN 3))
    (xSeq (xAsg (xLst xNil) (xN 4))
    (xSeq (xFor (xiOf rng1 (xCons (xLenU 1) xNil)) (xN 5) U_law_cards_v4_1)
    (xRet (xVar 4))))))
def F_law_cards_v4 : Fp := runP 2 8 U_law_cards_v4
theorem F_law_cards_v4_eq (a0 : OO) (a1 : PyData) : F_law_cards_v4 a0 [a1] = (U_law_cards_v4 [some (.io a0), some (.sh a1), none, none, none, none, none, none]).finP := runP_eq (m := 2) (n := 8) U_law_cards_v4 a0 [a1] _ rfl rfl
end PF
set_option Elab.async false
set_option linter.all false
set_option maxRecDepth 100000
namespace PF
open PySem L2 DL DX
def U_law_tree_v3 (self : Fp) : XS :=
  (xSeq (xIf (xB (xBin (vEq false) (xVar 1) (xLst xNil))) (xRet (xTup xNil)) xNext)
    (xSeq (xAsg (xCallO F_law_take 0 (xCons (xLenU 1) xNil)) (xN 2))
    (xRet (xTup (xCons (xCallO self 0 (xCons (xSl (xVar 1) xoN (xoS (xVar 2))) xNil)) (xCons (xIxU 1 (xVar 2)) (xCons (xCallO self 0 (xCons (xSl (xVar 1) (xoS (xBin vAdd (xVar 2) (xC (.int 1)))) xoN) xNil)) xNil)))))))
def F_law_tree_v3 : Nat → Fp
  | 0 => fun _ _ => .bad
  | n + 1 => runP 2 3 (U_law_tree_v3 (F_law_tree_v3 n))
theorem F_law_tree_v3_eq (n : Nat) (a0 : OO) (a1 : PyData) : (F_law_tree_v3 (n + 1)) a0 [a1] = ((U_law_tree_v3 (F_law_tree_v3 n)) [some (.io a0), some (.sh a1), none]).finP := runP_eq (m := 2) (n := 3) (U_law_tree_v3 (F_law_tree_v3 n)) a0 [a1] _ rfl rfl
end PF
set_option Elab.async false
set_option linter.all false
set_option maxRecDepth 100000
namespace PF
open PySem L2 DL DX
def U_law_whole : XS :=
  (xRet (xAndV (xIsiN "int" 0) (xSh vNot (xIsiN "bool" 0))))
def F_law_whole : Fn := runD 1 1 U_law_whole
theorem F_law_whole_eq (a0 : PyData) : F_law_whole [a0] = (U_law_whole [some (.sh a0)]).fin := runD_eq (m := 1) (n := 1) U_law_whole [a0] _ rfl rfl
end PF
set_option Elab.async false
set_option linter.all false
set_option maxRecDepth 100000
namespace PF
open PySem L2 DL DX
def U_law_beside_1 : XS :=
  (xExp (xExtend 1 (xLst (xCons (xBin vSub (xVar 2) (xC (.int 1))) (xCons (xVar 2) (xCons (xBin vAdd (xVar 2) (xC (.int 1))) xNil))))))
def U_law_beside : XS :=
  (xSeq (xAsg (xLst (xCons (xSh vNeg (xC (.int 1))) (xCons (xBin vAdd (xBin vPow (xC (.int 10)) (xC (.int 18))) (xC (.int 1))) (xCons (xSh vNeg (xBin vPow (xC (.int 10)) (xC (.int 59)))) (xCons (xBin vPow (xC (.int 10)) (xC (.int 59))) xNil))))) (xN 1))
    (xSeq (xFor (xiSeq (xVar 0)) (xN 2) U_law_beside_1)
    (xRet (xVar 1))))
def F_law_beside : Fn := runD 1 3 U_law_beside
theorem F_law_beside_eq (a0 : PyData) : F_law_beside [a0] = (U_law_beside [some (.sh a0), none, none]).fin := runD_eq (m := 1) (n := 3) U_law_beside [a0] _ rfl rfl
end PF
set_option Elab.async false
set_option linter.all false
set_option maxRecDepth 100000
set_option maxHeartbeats 1000000
namespace PF
open PySem L2 DL DX
theorem whole_eq (i : Int) : F_law_whole [.int i] = .ok (.sh (.bool true)) () := by
  rw [F_law_whole_eq]
  simp [U_law_whole, tyR, tyD, subT]
theorem many_v2_ex {p : Pot} (hp : p.Ok) {m : Int} (h0 : 1 ≤ m) (h1 : m < 1000) : ∃ i q, F_law_many_v2 p.o [.int m] = .ok (.sh (.int i)) (Pot.o q) ∧ 0 ≤ i ∧ i ≤ m ∧ q.Ok := by
  obtain ⟨i, p1, e1, a1, a2, o1⟩ := take_ex hp (m := m + 1) (by omega) (by omega)
  obtain ⟨j, p2, e2, b1, b2, o2⟩ := take_ex o1 (m := 6) (by decide) (by decide)
  rw [F_law_many_v2_eq]
  by_cases h : j = 0
  · subst h
    obtain ⟨k, p3, e3, c1, c2, o3⟩ := take_ex o2 (m := 3) (by decide) (by decide)
    have : k = 0 ∨ k = 1 ∨ k = 2 := by omega
    rcases this with rfl | rfl | rfl
    · exact ⟨0, p3, by simp (disch := first | assumption | omega) [U_law_many_v2, e1, e2, e3, gr_ok], by omega, by omega, o3⟩
    · exact ⟨1, p3, by simp (disch := first | assumption | omega) [U_law_many_v2, e1, e2, e3, gr_ok], by omega, by omega, o3⟩
    · exact ⟨m, p3, by simp (disch := first | assumption | omega) [U_law_many_v2, e1, e2, e3, gr_ok], by omega, by omega, o3⟩
  · exact ⟨i, p2, by simp (disch := first | assumption | omega) [U_law_many_v2, e1, e2, h], by omega, by omega, o2⟩
theorem pick4 {a b c d : Int} {i : Int} (h0 : 0 ≤ i) (h1 : i < 4) : ∃ x, ixX [.int a, .int b, .int c, .int d] i = some (.sh (.int x)) ∧ (x = a ∨ x = b ∨ x = c ∨ x = d) := by
  have : i = 0 ∨ i = 1 ∨ i = 2 ∨ i = 3 := by omega
  rcases this with rfl | rfl | rfl | rfl <;> exact ⟨_, by simp; rfl, by simp⟩
theorem pick5 {a b c d e : Int} {i : Int} (h0 : 0 ≤ i) (h1 : i < 5) : ∃ x, ixX [.int a, .int b, .int c, .int d, .int e] i = some (.sh (.int x)) ∧ (x = a ∨ x = b ∨ x = c ∨ x = d ∨ x = e) := by
  have : i = 0 ∨ i = 1 ∨ i = 2 ∨ i = 3 ∨ i = 4 := by omega
  rcases this with rfl | rfl | rfl | rfl | rfl <;> exact ⟨_, by simp; rfl, by simp⟩
theorem pick6 {a b c d e f : Int} {i : Int} (h0 : 0 ≤ i) (h1 : i < 6) : ∃ x, ixX [.int a, .int b, .int c, .int d, .int e, .int f] i = some (.sh (.int x)) ∧ (x = a ∨ x = b ∨ x = c ∨ x = d ∨ x = e ∨ x = f) := by
  have : i = 0 ∨ i = 1 ∨ i = 2 ∨ i = 3 ∨ i = 4 ∨ i = 5 := by omega
  rcases this with rfl | rfl | rfl | rfl | rfl | rfl <;> exact ⟨_, by simp; rfl, by simp⟩
end PF
set_option Elab.async false
set_option linter.all false
set_option maxRecDepth 100000
namespace PF
open PySem L2 DL DX
def U_law_crest_v3_1 (self : Fn) : XS :=
  (xIf (xB (xBin vGt (xBin vIx (xIxU 0 (xVar 2)) (xC (.int 1))) (xBin vIx (xIxU 0 (xVar 1)) (xC (.int 1))))) (xAsg (xVar 2) (xN 1)) xNext)
def U_law_crest_v3 (self : Fn) : XS :=
  (xSeq (xIf (xB (xBin (vEq false) (xVar 0) (xLst xNil))) (xRet (xTup xNil)) xNext)
    (xSeq (xAsg (xC (.int 0)) (xN 1))
    (xSeq (xFor (xiOf rng1 (xCons (xLenU 0) xNil)) (xN 2) (U_law_crest_v3_1 self))
    (xRet (xTup (xCons (xCall self (xCons (xSl (xVar 0) xoN (xoS (xVar 1))) xNil)) (xCons (xIxU 0 (xVar 1)) (xCons (xCall self (xCons (xSl (xVar 0) (xoS (xBin vAdd (xVar 1) (xC (.int 1)))) xoN) xNil)) xNil))))))))
def F_law_crest_v3 : Nat → Fn
  | 0 => fun _ => .bad
  | n + 1 => runD 1 3 (U_law_crest_v3 (F_law_crest_v3 n))
theorem F_law_crest_v3_eq (n : Nat) (a0 : PyData) : (F_law_crest_v3 (n + 1)) [a0] = ((U_law_crest_v3 (F_law_crest_v3 n)) [some (.sh a0), none, none]).fin := runD_eq (m := 1) (n := 3) (U_law_crest_v3 (F_law_crest_v3 n)) [a0] _ rfl rfl
end PF
set_option Elab.async false
set_option linter.all false
set_option maxRecDepth 100000
namespace PF
open PySem L2 DL DX
def U_law_either : XS :=
  (xSeq (xIf (xB (xBin (vEq false) (xCallO F_law_take 0 (xCons (xC (.int 2)) xNil)) (xC (.int 0)))) (xRet (xCall (F_law_crest_v3 70) (xCons (xVar 1) xNil))) xNext)
    (xRet (xCallO (F_law_tree_v3 70) 0 (xCons (xVar 1) xNil))))
def F_law_either : Fp := runP 2 2 U_law_either
theorem F_law_either_eq (a0 : OO) (a1 : PyData) : F_law_either a0 [a1] = (U_law_either [some (.io a0), some (.sh a1)]).finP := runP_eq (m := 2) (n := 2) U_law_either a0 [a1] _ rfl rfl
end PF
set_option Elab.async false
set_option linter.all false
set_option maxRecDepth 100000
namespace PF
open PySem L2 DL DX
end PF
set_option Elab.async false
set_option linter.all false
set_option maxRecDepth 100000
set_option maxHeartbeats 1000000
namespace PF
open PySem L2 DL DX
theorem vEq_csd (cs : List Card) : vEq false (csd cs) (.list []) = some (.sh (.bool (decide (cs = [])))) := by
  rw [vEq_lay' (Lay.csd cs).lay Lay.lst0]
  cases cs <;> simp [csd, PyData.eqv, PyData.eqvAll]
theorem cut_to {cs : List Card} {i : Int} (h0 : 0 ≤ i) (h1 : i ≤ cs.length) : cutD (cs.map Card.d) none (some i) = (cs.take i.toNat).map Card.d := by
  rw [cutD_to h0 (by rw [List.length_map]; exact h1), List.map_take]
theorem cut_from {cs : List Card} {i : Int} (h0 : 0 ≤ i) (h1 : i ≤ cs.length) : cutD (cs.map Card.d) (some i) none = (cs.drop i.toNat).map Card.d := by
  rw [cutD_from h0 (by rw [List.length_map]; exact h1), List.map_drop]
theorem take_cons_drop {cs : List Card} {i : Nat} {c : Card} (h : cs[i]? = some c) : cs.take i ++ c :: cs.drop (i + 1) = cs := by
  obtain ⟨h1, h2⟩ := List.getElem?_eq_some_iff.mp h
  rw [← h2, ← List.drop_eq_getElem_cons h1, List.take_append_drop]
theorem tree_v3_ex : ∀ (n : Nat) (cs : List Card) (p : Pot), p.Ok → cs.length < n → cs.length ≤ 100 → ∃ (t : T) (q : Pot), F_law_tree_v3 n p.o [csd cs] = .ok (.sh t.d) q.o ∧ t.cards = cs ∧ q.Ok
  | 0, _, _, _, h, _ => by omega
  | n + 1, cs, p, hp, h, hl => by
    rw [F_law_tree_v3_eq]
    by_cases h0 : cs = []
    · subst h0
      refine ⟨.nil, p, ?_, rfl, hp⟩
      have e := vEq_csd []
      simp at e
      simp [U_law_tree_v3, e, gr_ok, T.d]
    · have hpos : 0 < cs.length := List.length_pos_iff.mpr h0
      obtain ⟨i, p1, e1, a1, a2, o1⟩ := take_ex hp (m := cs.length) (by omega) (by omega)
      obtain ⟨c, hc⟩ : ∃ c, cs[i.toNat]? = some c := ⟨cs[i.toNat]'(by omega), by simp⟩
      have ix := ixX_map (f := Card.d) a1 hc
      obtain ⟨l, p2, e2, cl, o2⟩ := tree_v3_ex n (cs.take i.toNat) p1 o1 (by rw [List.length_take]; omega) (by rw [List.length_take]; omega)
      obtain ⟨r, p3, e3, cr, o3⟩ := tree_v3_ex n (cs.drop (i.toNat + 1)) p2 o2 (by rw [List.length_drop]; omega) (by rw [List.length_drop]; omega)
      refine ⟨.node l c r, p3, ?_, ?_, o3⟩
      · have e := vEq_csd cs
        simp only [h0, decide_false] at e
        have c1 := cut_to (cs := cs) (i := i) a1 (by omega)
        have c2 := cut_from (cs := cs) (i := i + 1) (by omega) (by omega)
        have t1 : (i + 1).toNat = i.toNat + 1 := by omega
        rw [t1] at c2
        simp only [csd, List.map_take, List.map_drop] at e e2 e3 c1 c2
        simp (disch := first | assumption | omega) [csd, U_law_tree_v3, e, e1, ix, c1, c2, e2, e3, gr_ok, T.d]
      · rw [T.cards, cl, cr]
        exact take_cons_drop hc
theorem crest_v3_loop {self : Fn} {cs : List Card} : ∀ (k : Nat) (i : Nat) (b : Int) (s2 : Option R), NIo s2 → 0 ≤ b → b < cs.length → k + i = cs.length →
    ∃ (b' : Int) (s2' : Option R), forX (xN 2) (U_law_crest_v3_1 self) (rangeD (i : Int) k) [some (.sh (csd cs)), some (.sh (.int b)), s2] = .nx [some (.sh (csd cs)), some (.sh (.int b')), s2'] ∧ 0 ≤ b' ∧ b' < cs.length
  | 0, i, b, s2, hs, h0, h1, hk => ⟨b, s2, rfl, h0, h1⟩
  | k + 1, i, b, s2, hs, h0, h1, hk => by
    rw [rangeD_cons, forX_cons]
    obtain ⟨c, hc⟩ : ∃ c, cs[(i : Int).toNat]? = some c := ⟨cs[i]'(by omega), by simp⟩
    obtain ⟨c', hc'⟩ : ∃ c, cs[b.toNat]? = some c := ⟨cs[b.toNat]'(by omega), by simp⟩
    have i1 := ixX_map (f := Card.d) (Int.natCast_nonneg i) hc
    have i2 := ixX_map (f := Card.d) h0 hc'
    have ei : (i : Int) + 1 = ((i + 1 : Nat) : Int) := by omega
    rw [ei]
    by_cases hb : c'.r < c.r
    · obtain ⟨b', s2', e, g0, g1⟩ := crest_v3_loop (self := self) (cs := cs) k (i + 1) i (some (.sh (.int i))) (.sh _) (by omega) (by omega) (by omega)
      refine ⟨b', s2', ?_, g0, g1⟩
      have body : U_law_crest_v3_1 self [some (.sh (csd cs)), some (.sh (.int b)), some (.sh (.int i))] = .nx [some (.sh (csd cs)), some (.sh (.int i)), some (.sh (.int i))] := by
        simp [csd, U_law_crest_v3_1, i1, i2, Card.d, hb]
      simp only [xN_at, rho_get0, rho_getS, hs _, rho_set0, rho_setS, opX_some, body, Ou.loop_nx]
      exact e
    · obtain ⟨b', s2', e, g0, g1⟩ := crest_v3_loop (self := self) (cs := cs) k (i + 1) b (some (.sh (.int i))) (.sh _) h0 h1 (by omega)
      refine ⟨b', s2', ?_, g0, g1⟩
      have body : U_law_crest_v3_1 self [some (.sh (csd cs)), some (.sh (.int b)), some (.sh (.int i))] = .nx [some (.sh (csd cs)), some (.sh (.int b)), some (.sh (.int i))] := by
        simp [csd, U_law_crest_v3_1, i1, i2, Card.d, hb]
      simp only [xN_at, rho_get0, rho_getS, hs _, rho_set0, rho_setS, opX_some, body, Ou.loop_nx]
      exact e
theorem crest_v3_ex : ∀ (n : Nat) (cs : List Card), cs.length < n → cs.length ≤ 100 → ∃ t : T, F_law_crest_v3 n [csd cs] = .ok (.sh t.d) () ∧ t.cards = cs
  | 0, _, h, _ => by omega
  | n + 1, cs, h, hl => by
    rw [F_law_crest_v3_eq]
    by_cases h0 : cs = []
    · subst h0
      refine ⟨.nil, ?_, rfl⟩
      have e := vEq_csd []
      simp at e
      simp [U_law_crest_v3, e, gr_ok, T.d]
    · have hpos : 0 < cs.length := List.length_pos_iff.mpr h0
      obtain ⟨b, s2, eL, g0, g1⟩ := crest_v3_loop (self := F_law_crest_v3 n) (cs := cs) cs.length 0 0 none .none (by omega) (by omega) (by omega)
      obtain ⟨c, hc⟩ : ∃ c, cs[b.toNat]? = some c := ⟨cs[b.toNat]'(by omega), by simp⟩
      have ix := ixX_map (f := Card.d) g0 hc
      obtain ⟨l, e2, cl⟩ := crest_v3_ex n (cs.take b.toNat) (by rw [List.length_take]; omega) (by rw [List.length_take]; omega)
      obtain ⟨r, e3, cr⟩ := crest_v3_ex n (cs.drop (b.toNat + 1)) (by rw [List.length_drop]; omega) (by rw [List.length_drop]; omega)
      refine ⟨.node l c r, ?_, ?_⟩
      · have e := vEq_csd cs
        simp only [h0, decide_false] at e
        have c1 := cut_to (cs := cs) (i := b) g0 (by omega)
        have c2 := cut_from (cs := cs) (i := b + 1) (by omega) (by omega)
        have t1 : (b + 1).toNat = b.toNat + 1 := by omega
        rw [t1] at c2
        simp only [csd, List.map_take, List.map_drop] at e e2 e3 eL c1 c2
        have z0 : ((0 : Nat) : Int) = 0 := rfl
        rw [z0] at eL
        simp (disch := first | assumption | omega) [csd, U_law_crest_v3, e, gd_ok, eL, ix, c1, c2, e2, e3, gr_ok, T.d]
      · rw [T.cards, cl, cr]
        exact take_cons_drop hc
theorem either_ex {p : Pot} (hp : p.Ok) {cs : List Card} (hl : cs.length < 70) : ∃ (t : T) (q : Pot), F_law_either p.o [csd cs] = .ok (.sh t.d) q.o ∧ t.cards = cs ∧ q.Ok := by
  obtain ⟨w, p1, e1, a1, a2, o1⟩ := take_ex hp (m := 2) (by decide) (by decide)
  rw [F_law_either_eq]
  by_cases h : w = 0
  · subst h
    obtain ⟨t, e, hc⟩ := crest_v3_ex 70 cs hl (by omega)
    exact ⟨t, p1, by simp only [csd] at e; simp [U_law_either, e1, e], hc, o1⟩
  · obtain ⟨t, q, e, hc, hq⟩ := tree_v3_ex 70 cs p1 o1 hl (by omega)
    exact ⟨t, q, by simp only [csd] at e; simp [U_law_either, e1, e, h], hc, hq⟩
end PF
set_option Elab.async false
set_option linter.all false
set_option maxRecDepth 100000
namespace PF
open PySem L2 DL DX
end PF
set_option Elab.async false
set_option linter.all false
set_option maxRecDepth 100000
namespace PF
open PySem L2 DL DX
end PF
set_option Elab.async false
set_option linter.all false
set_option maxRecDepth 100000
namespace PF
open PySem L2 DL DX
end PF
set_option Elab.async false
set_option linter.all false
set_option maxRecDepth 100000
namespace PF
open PySem L2 DL DX
end PF
set_option Elab.async false
set_option linter.all false
set_option maxRecDepth 100000
namespace PF
open PySem L2 DL DX
end PF
set_option Elab.async false
set_option linter.all false
set_option maxRecDepth 100000
namespace PF
open PySem L2 DL DX
end PF
set_option Elab.async false
set_option linter.all false
set_option maxRecDepth 100000
namespace PF
open PySem L2 DL DX
end PF
set_option Elab.async false
set_option linter.all false
set_option maxRecDepth 100000
namespace PF
open PySem L2 DL DX
end PF
set_option Elab.async false
set_option linter.all false
set_option maxRecDepth 100000
set_option maxHeartbeats 1000000
namespace PF
open PySem L2 DL DX
def Rising (ms : List Int) : Prop := ms.Pairwise (· < ·)
def Few (i : Int) : Prop := i.natAbs < 10 ^ 100
structure Card.Few (c : Card) : Prop where
  k : PF.Few c.k
  r : PF.Few c.r
  w : PF.Few c.w
end PF
set_option Elab.async false
set_option linter.all false
set_option maxRecDepth 100000
namespace PF
open PySem L2 DL DX
end PF
set_option Elab.async false
set_option linter.all false
set_option maxRecDepth 100000
namespace PF
open PySem L2 DL DX
end PF
set_option Elab.async false
set_option linter.all false
set_option maxRecDepth 100000
namespace PF
open PySem L2 DL DX
end PF
set_option Elab.async false
set_option linter.all false
set_option maxRecDepth 100000
set_option maxHeartbeats 1000000
namespace PF
open PySem L2 DL DX
def T.isN : T → Bool
  | .nil => false
  | .node _ _ _ => true
def T.top : T → Int
  | .nil => 0
  | .node _ c _ => c.k
def own (k : Int) (l r : T) : List (List Int) := ([l, r].filter T.isN).map fun t => [k, t.top]
theorem vNe_t (t : T) : vEq true t.d (.tuple []) = some (.sh (.bool t.isN)) := by
  rw [vEq_lay' (T.lay _) Lay.tup0]
  cases t <;> simp [T.d, T.isN, PyData.eqv, PyData.eqvAll]
end PF
set_option Elab.async false
set_option linter.all false
set_option maxRecDepth 100000
namespace PF
open PySem L2 DL DX
end PF
set_option Elab.async false
set_option linter.all false
set_option maxRecDepth 100000
set_option maxHeartbeats 1000000
namespace PF
open PySem L2 DL DX
section
variable {B D : Nat}
end
end PF
set_option Elab.async false
set_option linter.all false
set_option maxRecDepth 100000
namespace PF
open PySem L2 DL DX
end PF
set_option Elab.async false
set_option linter.all false
set_option maxRecDepth 100000
namespace PF
open PySem L2 DL DX
end PF
set_option Elab.async false
set_option linter.all false
set_option maxRecDepth 100000
set_option maxHeartbeats 1000000
namespace PF
open PySem L2 DL DX
def upL (c : Card) (r : T) : T → T
  | .nil => .nil
  | .node a x b => .node a x (.node b c r)
def upR (l : T) (c : Card) : T → T
  | .nil => .nil
  | .node a x b => .node (.node l c a) x b
def T.turn (key : Int) : T → Option T
  | .nil => none
  | .node l c r =>
    if c.k = key then none
    else if key < c.k then (if l.isN = true ∧ l.top = key then some (upL c r l) else (l.turn key).map fun l' => .node l' c r)
    else (if r.isN = true ∧ r.top = key then some (upR l c r) else (r.turn key).map fun r' => .node l c r')
end PF
set_option Elab.async false
set_option linter.all false
set_option maxRecDepth 100000
set_option maxHeartbeats 1000000
namespace PF
open PySem L2 DL DX
theorem turn_cards {key : Int} : ∀ (t t' : T), t.turn key = some t' → t'.cards = t.cards
  | .nil, _, h => by simp [T.turn] at h
  | .node l c r, t', h => by
    rw [T.turn] at h
    split at h
    · cases h
    · split at h
      · split at h
        · next h3 =>
          cases h
          cases l with
          | nil => simp [T.isN] at h3
          | node a x b => simp [upL, T.cards]
        · cases e : l.turn key with
          | none => rw [e] at h; cases h
          | some l' => rw [e] at h; cases h; simp [T.cards, turn_cards l l' e]
      · split at h
        · next h3 =>
          cases h
          cases r with
          | nil => simp [T.isN] at h3
          | node a x b => simp [upR, T.cards]
        · cases e : r.turn key with
          | none => rw [e] at h; cases h
          | some l' => rw [e] at h; cases h; simp [T.cards, turn_cards r l' e]
def one (k : Int) (t : T) : List (List Int) := if t.isN then [[k, t.top]] else []
def new (S L : List (List Int)) : Nat := L.countP fun x => !S.contains x
theorem top_mem : ∀ t : T, t.isN = true → ∃ c ∈ t.cards, t.top = c.k
  | .node l c r, _ => ⟨c, by simp [T.cards], rfl⟩
end PF
set_option Elab.async false
set_option linter.all false
set_option maxRecDepth 100000
set_option maxHeartbeats 1000000
namespace PF
open PySem L2 DL DX
def ovr (a b : Card) : Bool := if a.r = b.r then decide (a.k < b.k) else decide (b.r < a.r)
def T.Heap : T → Prop
  | .nil => True
  | .node l c r => l.Heap ∧ r.Heap ∧ (∀ x ∈ l.cards, ovr x c = false) ∧ ∀ x ∈ r.cards, ovr x c = false
def T.split (key : Int) : T → T × T
  | .nil => (.nil, .nil)
  | .node l c r => if c.k < key then (.node l c (r.split key).1, (r.split key).2) else ((l.split key).1, .node (l.split key).2 c r)
def Rise (cs : List Card) : Prop := cs.Pairwise fun a b => a.k < b.k
theorem rise_of {cs : List Card} (h : Rising (cs.map Card.k)) : Rise cs := List.pairwise_map.mp h
theorem split_hi (key : Int) : ∀ t : T, (t.split key).1.hi ≤ t.hi ∧ (t.split key).2.hi ≤ t.hi
  | .nil => ⟨Nat.le_refl _, Nat.le_refl _⟩
  | .node l c r => by
    have h1 := split_hi key l
    have h2 := split_hi key r
    unfold T.split
    split <;> simp only [T.hi] <;> omega
theorem split_sub (key : Int) : ∀ t : T, (∀ x ∈ (t.split key).1.cards, x ∈ t.cards) ∧ ∀ x ∈ (t.split key).2.cards, x ∈ t.cards
  | .nil => ⟨fun x h => h, fun x h => h⟩
  | .node l c r => by
    obtain ⟨a1, a2⟩ := split_sub key l
    obtain ⟨b1, b2⟩ := split_sub key r
    unfold T.split
    split
    · refine ⟨fun x hx => ?_, fun x hx => ?_⟩
      · simp only [T.cards, List.mem_append, List.mem_cons] at hx ⊢
        rcases hx with hx | hx | hx
        · exact .inl hx
        · exact .inr (.inl hx)
        · exact .inr (.inr (b1 x hx))
      · simp only [T.cards, List.mem_append, List.mem_cons]
        exact .inr (.inr (b2 x hx))
    · refine ⟨fun x hx => ?_, fun x hx => ?_⟩
      · simp only [T.cards, List.mem_append, List.mem_cons]
        exact .inl (a1 x hx)
      · simp only [T.cards, List.mem_append, List.mem_cons] at hx ⊢
        rcases hx with hx | hx | hx
        · exact .inl (a2 x hx)
        · exact .inr (.inl hx)
        · exact .inr (.inr hx)
def T.sroad (key : Int) : T → List (Int × Bool)
  | .nil => []
  | .node l c r => if c.k < key then (c.k, true) :: r.sroad key else (c.k, false) :: l.sroad key
def HasK (t : T) (k : Int) : Prop := ∃ c ∈ t.cards, c.k = k
theorem has_node {l r : T} {c : Card} {k : Int} : HasK (.node l c r) k ↔ HasK l k ∨ c.k = k ∨ HasK r k := by
  unfold HasK
  simp only [T.cards, List.mem_append, List.mem_cons]
  constructor
  · rintro ⟨x, (h | rfl | h), e⟩
    · exact .inl ⟨x, h, e⟩
    · exact .inr (.inl e)
    · exact .inr (.inr ⟨x, h, e⟩)
  · rintro (⟨x, h, e⟩ | e | ⟨x, h, e⟩)
    · exact ⟨x, .inl h, e⟩
    · exact ⟨c, .inr (.inl rfl), e⟩
    · exact ⟨x, .inr (.inr h), e⟩
structure Bst (l : T) (c : Card) (r : T) : Prop where
  rl : Rise l.cards
  rr : Rise r.cards
  lc : ∀ k, HasK l k → k < c.k
  cr : ∀ k, HasK r k → c.k < k
theorem bst_of {l r : T} {c : Card} (h : Rise (T.node l c r).cards) : Bst l c r := by
  simp only [T.cards] at h
  obtain ⟨n1, n2, n3⟩ := List.pairwise_append.mp h
  obtain ⟨n4, n5⟩ := List.pairwise_cons.mp n2
  exact ⟨n1, n5, fun k ⟨x, hx, e⟩ => by rw [← e]; exact n3 x hx c (by simp), fun k ⟨x, hx, e⟩ => by rw [← e]; exact n4 x hx⟩
end PF
set_option Elab.async false
set_option linter.all false
set_option maxRecDepth 100000
set_option maxHeartbeats 1000000
namespace PF
open PySem L2 DL DX
end PF
set_option Elab.async false
set_option linter.all false
set_option maxRecDepth 100000
set_option maxHeartbeats 1000000
namespace PF
open PySem L2 DL DX
def T.leafN (N : Card) : T → T
  | .nil => .node .nil N .nil
  | .node l c r => if N.k < c.k then .node (l.leafN N) c r else .node l c (r.leafN N)
abbrev T.n (key : Int) (t : T) : Nat := (t.sroad key).length
def T.up (N : Card) (m : Nat) : T → T
  | .nil => .node .nil N .nil
  | .node l c r => if c.k < N.k then (if m ≤ r.n N.k then .node l c (r.up N m) else upR l c (r.up N (r.n N.k))) else (if m ≤ l.n N.k then .node (l.up N m) c r else upL c r (l.up N (l.n N.k)))
def Out (N : Card) (t : T) : Prop := ∀ c ∈ t.cards, c.k ≠ N.k
theorem out_node {N : Card} {l r : T} {c : Card} (h : Out N (.node l c r)) : Out N l ∧ c.k ≠ N.k ∧ Out N r :=
  ⟨fun x hx => h x (by simp [T.cards, hx]), h c (by simp [T.cards]), fun x hx => h x (by simp [T.cards, hx])⟩
theorem n_node {key : Int} {l r : T} {c : Card} : (T.node l c r).n key = if c.k < key then r.n key + 1 else l.n key + 1 := by
  unfold T.n
  rw [T.sroad]
  split <;> simp
section
variable {N : Card}
theorem up_full : ∀ t : T, t.up N (t.n N.k) = .node (t.split N.k).1 N (t.split N.k).2
  | .nil => rfl
  | .node l c r => by
    have hl := up_full l
    have hr := up_full r
    rw [T.up, n_node, T.split]
    by_cases z : c.k < N.k
    · rw [if_pos z, if_pos z, if_pos z, if_neg (by omega), hr, upR]
    · rw [if_neg z, if_neg z, if_neg z, if_neg (by omega), hl, upL]
theorem up_zero : ∀ t : T, Out N t → t.up N 0 = t.leafN N
  | .nil, _ => rfl
  | .node l c r, h => by
    obtain ⟨h1, h2, h3⟩ := out_node h
    rw [T.up, T.leafN]
    by_cases z : c.k < N.k
    · rw [if_pos z, if_pos (Nat.zero_le _), if_neg (by omega), up_zero r h3]
    · rw [if_neg z, if_pos (Nat.zero_le _), if_pos (by omega), up_zero l h1]
theorem up_top : ∀ (t : T) (m : Nat), m ≤ t.n N.k → (t.up N m).isN = true ∧ (m < t.n N.k → (t.up N m).top = t.top) ∧ (m = t.n N.k → (t.up N m).top = N.k)
  | .nil, m, h => ⟨rfl, fun q => by simp [T.n, T.sroad] at q, fun _ => rfl⟩
  | .node l c r, m, h => by
    rw [n_node] at h ⊢
    refine ⟨?_, fun q => ?_, fun q => ?_⟩
    · rw [T.up]
      by_cases z : c.k < N.k
      · rw [if_pos z]
        split
        · rfl
        · rw [up_full, upR]; rfl
      · rw [if_neg z]
        split
        · rfl
        · rw [up_full, upL]; rfl
    · rw [T.up]
      by_cases z : c.k < N.k
      · rw [if_pos z] at q ⊢
        rw [if_pos (by omega)]; rfl
      · rw [if_neg z] at q ⊢
        rw [if_pos (by omega)]; rfl
    · rw [T.up]
      by_cases z : c.k < N.k
      · rw [if_pos z] at q ⊢
        rw [if_neg (by omega), up_full, upR]; rfl
      · rw [if_neg z] at q ⊢
        rw [if_neg (by omega), up_full, upL]; rfl
theorem up_turn : ∀ (t : T) (m : Nat), Out N t → m < t.n N.k → (t.up N m).turn N.k = some (t.up N (m + 1))
  | .nil, m, _, h => by simp [T.n, T.sroad] at h
  | .node l c r, m, ho, h => by
    obtain ⟨h1, h2, h3⟩ := out_node ho
    rw [n_node] at h
    rw [T.up, T.up]
    by_cases z : c.k < N.k
    · rw [if_pos z] at h
      rw [if_pos z, if_pos z, if_pos (by omega), T.turn, if_neg h2, if_neg (by omega)]
      obtain ⟨q1, q2, q3⟩ := up_top (N := N) r m (by omega)
      by_cases y : m = r.n N.k
      · rw [if_pos ⟨q1, q3 y⟩, if_neg (by omega), y]
      · have ne : ¬ ((r.up N m).isN = true ∧ (r.up N m).top = N.k) := fun w => by
          rw [q2 (by omega)] at w
          have rn : r.isN = true := by
            cases r with
            | nil => have e0 : T.nil.n N.k = 0 := rfl
                     rw [e0] at h y; omega
            | node _ _ _ => rfl
          obtain ⟨x, hx, e⟩ := top_mem r rn
          exact h3 x hx (by rw [← e]; exact w.2)
        rw [if_neg ne, up_turn r m h3 (by omega), if_pos (by omega)]
        rfl
    · rw [if_neg z] at h
      rw [if_neg z, if_neg z, if_pos (by omega), T.turn, if_neg h2, if_pos (by omega)]
      obtain ⟨q1, q2, q3⟩ := up_top (N := N) l m (by omega)
      by_cases y : m = l.n N.k
      · rw [if_pos ⟨q1, q3 y⟩, if_neg (by omega), y]
      · have ne : ¬ ((l.up N m).isN = true ∧ (l.up N m).top = N.k) := fun w => by
          rw [q2 (by omega)] at w
          have rn : l.isN = true := by
            cases l with
            | nil => have e0 : T.nil.n N.k = 0 := rfl
                     rw [e0] at h y; omega
            | node _ _ _ => rfl
          obtain ⟨x, hx, e⟩ := top_mem l rn
          exact h1 x hx (by rw [← e]; exact w.2)
        rw [if_neg ne, up_turn l m h1 (by omega), if_pos (by omega)]
        rfl
def T.nb (key : Int) (m : Nat) : T → Int
  | .nil => 0
  | .node l c r => if m = (T.node l c r).n key then c.k else if c.k < key then r.nb key m else l.nb key m
def T.part (key : Int) : T → T
  | .nil => .nil
  | .node l c r => if c.k = key then .node l c r else if key < c.k then l.part key else r.part key
def T.topc : T → Card
  | .nil => ⟨0, 0, 0⟩
  | .node _ c _ => c
theorem leaf_mem : ∀ (t : T) (x : Card), x ∈ (t.leafN N).cards ↔ x = N ∨ x ∈ t.cards
  | .nil, x => by simp [T.leafN, T.cards]
  | .node l c r, x => by
    rw [T.leafN]
    split
    · simp only [T.cards, List.mem_append, List.mem_cons, leaf_mem l x]
      constructor
      · rintro ((h | h) | h | h)
        · exact .inl h
        · exact .inr (.inl h)
        · exact .inr (.inr (.inl h))
        · exact .inr (.inr (.inr h))
      · rintro (h | h | h | h)
        · exact .inl (.inl h)
        · exact .inl (.inr h)
        · exact .inr (.inl h)
        · exact .inr (.inr h)
    · simp only [T.cards, List.mem_append, List.mem_cons, leaf_mem r x]
      constructor
      · rintro (h | h | h | h)
        · exact .inr (.inl h)
        · exact .inr (.inr (.inl h))
        · exact .inl h
        · exact .inr (.inr (.inr h))
      · rintro (h | h | h | h)
        · exact .inr (.inr (.inl h))
        · exact .inl h
        · exact .inr (.inl h)
        · exact .inr (.inr (.inr h))
theorem leaf_rise : ∀ t : T, Rise t.cards → Out N t → Rise (t.leafN N).cards
  | .nil, _, _ => by simp [T.leafN, T.cards, Rise]
  | .node l c r, h, ho => by
    obtain ⟨g1, g2, g3⟩ := out_node ho
    have b := bst_of h
    have hl := leaf_rise l b.rl g1
    have hr := leaf_rise r b.rr g3
    simp only [T.cards] at h
    obtain ⟨n1, n2, n3⟩ := List.pairwise_append.mp h
    obtain ⟨n4, n5⟩ := List.pairwise_cons.mp n2
    rw [T.leafN]
    by_cases z : N.k < c.k
    · rw [if_pos z]
      simp only [T.cards]
      refine List.pairwise_append.mpr ⟨hl, n2, fun x hx y hy => ?_⟩
      rcases (leaf_mem l x).mp hx with rfl | hx
      · rcases List.mem_cons.mp hy with rfl | hy
        · exact z
        · have := n4 y hy; omega
      · exact n3 x hx y hy
    · rw [if_neg z]
      simp only [T.cards]
      refine List.pairwise_append.mpr ⟨n1, List.pairwise_cons.mpr ⟨fun y hy => ?_, hr⟩, fun x hx y hy => ?_⟩
      · rcases (leaf_mem r y).mp hy with rfl | hy
        · omega
        · exact n4 y hy
      · rcases List.mem_cons.mp hy with rfl | hy
        · exact n3 x hx y (by simp)
        · have h1 := n3 x hx c (by simp)
          rcases (leaf_mem r y).mp hy with rfl | hy
          · omega
          · exact n3 x hx y (by simp [hy])
theorem up_cards {t : T} (ho : Out N t) : ∀ m, m ≤ t.n N.k → (t.up N m).cards = (t.leafN N).cards
  | 0, _ => by rw [up_zero t ho]
  | m + 1, h => by rw [turn_cards _ _ (up_turn t m ho (by omega)), up_cards ho m (by omega)]
end
end PF
set_option Elab.async false
set_option linter.all false
set_option maxRecDepth 100000
namespace PF
open PySem L2 DL DX
end PF
set_option Elab.async false
set_option linter.all false
set_option maxRecDepth 100000
namespace PF
open PySem L2 DL DX
end PF
set_option Elab.async false
set_option linter.all false
set_option maxRecDepth 100000
namespace PF
open PySem L2 DL DX
end PF
set_option Elab.async false
set_option linter.all false
set_option maxRecDepth 100000
namespace PF
open PySem L2 DL DX
end PF
set_option Elab.async false
set_option linter.all false
set_option maxRecDepth 100000
namespace PF
open PySem L2 DL DX
end PF
set_option Elab.async false
set_option linter.all false
set_option maxRecDepth 100000
namespace PF
open PySem L2 DL DX
end PF
set_option Elab.async false
set_option linter.all false
set_option maxRecDepth 100000
namespace PF
open PySem L2 DL DX
end PF
set_option Elab.async false
set_option linter.all false
set_option maxRecDepth 100000
namespace PF
open PySem L2 DL DX
end PF
set_option Elab.async false
set_option linter.all false
set_option maxRecDepth 100000
namespace PF
open PySem L2 DL DX
def U_road_1 : XT :=
  (xB (xBin (vEq true) (xVar 3) (xTup xNil)))
def U_road_2 : XS :=
  (xSeq (xAsg (xVar 3) (xT2 3 (xsCons (xN 4) (xsCons (xN 5) (xsCons (xN 6) xsNil)))))
    (xSeq (xExp (xMeth vAppend 2 (xCons (xIxU 5 (xC (.int 0))) xNil)))
    (xSeq (xIf (xB (xBin (vEq false) (xIxU 5 (xC (.int 0))) (xVar 1))) (xRet (xVar 2)) xNext)
    (xAsg (xIfE (xB (xBin vLt (xVar 1) (xIxU 5 (xC (.int 0))))) (xVar 4) (xVar 6)) (xN 3)))))
def U_road : XS :=
  (xSeq (xAsg (xLst xNil) (xN 2))
    (xSeq (xAsg (xVar 0) (xN 3))
    (xSeq (xWhile U_road_1 U_road_2)
    (xRet (xVar 2)))))
def F_road : Fn := runD 2 7 U_road
theorem F_road_eq (a0 a1 : PyData) : F_road [a0, a1] = (U_road [some (.sh a0), some (.sh a1), none, none, none, none, none]).fin := runD_eq (m := 2) (n := 7) U_road [a0, a1] _ rfl rfl
end PF
set_option Elab.async false
set_option linter.all false
set_option maxRecDepth 100000
namespace PF
open PySem L2 DL DX
end PF
set_option Elab.async false
set_option linter.all false
set_option maxRecDepth 100000
namespace PF
open PySem L2 DL DX
def U_holds : XS :=
  (xSeq (xAsg (xCall F_road (xCons (xVar 0) (xCons (xVar 1) xNil))) (xN 2))
    (xRet (xAndV (xBin vGt (xLenU 2) (xC (.int 0))) (xBin (vEq false) (xIxU 2 (xSh vNeg (xC (.int 1)))) (xVar 1)))))
def F_holds : Fn := runD 2 3 U_holds
theorem F_holds_eq (a0 a1 : PyData) : F_holds [a0, a1] = (U_holds [some (.sh a0), some (.sh a1), none]).fin := runD_eq (m := 2) (n := 3) U_holds [a0, a1] _ rfl rfl
end PF
set_option Elab.async false
set_option linter.all false
set_option maxRecDepth 100000
namespace PF
open PySem L2 DL DX
end PF
set_option Elab.async false
set_option linter.all false
set_option maxRecDepth 100000
namespace PF
open PySem L2 DL DX
end PF
set_option Elab.async false
set_option linter.all false
set_option maxRecDepth 100000
namespace PF
open PySem L2 DL DX
end PF
set_option Elab.async false
set_option linter.all false
set_option maxRecDepth 100000
namespace PF
open PySem L2 DL DX
end PF
set_option Elab.async false
set_option linter.all false
set_option maxRecDepth 100000
namespace PF
open PySem L2 DL DX
end PF
set_option Elab.async false
set_option linter.all false
set_option maxRecDepth 100000
namespace PF
open PySem L2 DL DX
end PF
set_option Elab.async false
set_option linter.all false
set_option maxRecDepth 100000
namespace PF
open PySem L2 DL DX
end PF
set_option Elab.async false
set_option linter.all false
set_option maxRecDepth 100000
namespace PF
open PySem L2 DL DX
end PF
set_option Elab.async false
set_option linter.all false
set_option maxRecDepth 100000
namespace PF
open PySem L2 DL DX
end PF
set_option Elab.async false
set_option linter.all false
set_option maxRecDepth 100000
namespace PF
open PySem L2 DL DX
end PF
set_option Elab.async false
set_option linter.all false
set_option maxRecDepth 100000
namespace PF
open PySem L2 DL DX
end PF
set_option Elab.async false
set_option linter.all false
set_option maxRecDepth 100000
namespace PF
open PySem L2 DL DX
end PF
set_option Elab.async false
set_option linter.all false
set_option maxRecDepth 100000
set_option maxHeartbeats 1000000
namespace PF
open PySem L2 DL DX
end PF
set_option Elab.async false
set_option linter.all false
set_option maxRecDepth 100000
set_option maxHeartbeats 1000000
namespace PF
open PySem L2 DL DX
end PF
set_option Elab.async false
set_option linter.all false
set_option maxRecDepth 100000
set_option maxHeartbeats 1000000
namespace PF
open PySem L2 DL DX
def T.road (key : Int) : T → List Int
  | .nil => []
  | .node l c r => if c.k = key then [c.k] else c.k :: (if key < c.k then l.road key else r.road key)
theorem road_has {key : Int} : ∀ (t : T), ∀ k ∈ t.road key, HasK t k
  | .nil, k, h => by cases h
  | .node l c r, k, h => by
    rw [T.road] at h
    split at h
    · rw [List.mem_singleton.mp h]; exact has_node.mpr (.inr (.inl rfl))
    · cases h with
      | head => exact has_node.mpr (.inr (.inl rfl))
      | tail _ h =>
        split at h
        · exact has_node.mpr (.inl (road_has l k h))
        · exact has_node.mpr (.inr (.inr (road_has r k h)))
theorem has_side {key : Int} {l r : T} {c : Card} (b : Bst l c r) (h : HasK (.node l c r) key) (ne : c.k ≠ key) : (key < c.k → HasK l key) ∧ (¬ key < c.k → HasK r key) := by
  rcases has_node.mp h with h | h | h
  · exact ⟨fun _ => h, fun q => absurd (b.lc _ h) q⟩
  · exact absurd h ne
  · exact ⟨fun q => by have := b.cr _ h; omega, fun _ => h⟩
theorem road_end {key : Int} : ∀ t : T, Rise t.cards → HasK t key → ∃ pre, t.road key = pre ++ [key] ∧ (t.top ≠ key → ∃ p x, pre = p ++ [x] ∧ HasK t x ∧ x ≠ key)
  | .nil, _, ⟨_, h, _⟩ => by cases h
  | .node l c r, hr, hk => by
    have b := bst_of hr
    rw [T.road]
    by_cases e : c.k = key
    · rw [if_pos e, e]
      exact ⟨[], rfl, fun q => absurd e q⟩
    · rw [if_neg e]
      obtain ⟨s1, s2⟩ := has_side b hk e
      by_cases z : key < c.k
      · rw [if_pos z]
        obtain ⟨pre, e1, e2⟩ := road_end l b.rl (s1 z)
        refine ⟨c.k :: pre, by rw [e1]; rfl, fun _ => ?_⟩
        by_cases q : l.top = key
        · have : pre = [] := by
            cases l with
            | nil => cases (s1 z).choose_spec.1
            | node l' c' r' =>
              rw [T.road, if_pos (show c'.k = key from q)] at e1
              cases pre with
              | nil => rfl
              | cons a p => simp at e1
          subst this
          exact ⟨[], c.k, rfl, has_node.mpr (.inr (.inl rfl)), e⟩
        · obtain ⟨p, x, e3, e4, e5⟩ := e2 q
          exact ⟨c.k :: p, x, by rw [e3]; rfl, has_node.mpr (.inl e4), e5⟩
      · rw [if_neg z]
        obtain ⟨pre, e1, e2⟩ := road_end r b.rr (s2 z)
        refine ⟨c.k :: pre, by rw [e1]; rfl, fun _ => ?_⟩
        by_cases q : r.top = key
        · have : pre = [] := by
            cases r with
            | nil => cases (s2 z).choose_spec.1
            | node l' c' r' =>
              rw [T.road, if_pos (show c'.k = key from q)] at e1
              cases pre with
              | nil => rfl
              | cons a p => simp at e1
          subst this
          exact ⟨[], c.k, rfl, has_node.mpr (.inr (.inl rfl)), e⟩
        · obtain ⟨p, x, e3, e4, e5⟩ := e2 q
          exact ⟨c.k :: p, x, by rw [e3]; rfl, has_node.mpr (.inr (.inr e4)), e5⟩
def SRo (t0 : PyData) (key : Int) (acc : List Int) (t : T) (s4 s5 s6 : Option R) : Rho := [some (.sh t0), some (.sh (.int key)), some (.own (.lst (acc.map .int))), some (.sh t.d), s4, s5, s6]
theorem road_loop {t0 : PyData} {key : Int} : ∀ (f : Nat) (t : T) (acc : List Int) (s4 s5 s6 : Option R), t.hi ≤ f → acc.length + f ≤ 1000 → NIo s4 → NIo s5 → NIo s6 →
    (∃ ρ, whileX U_road_1 U_road_2 (f + 1) (SRo t0 key acc t s4 s5 s6) = .rt (.sh (.list ((acc ++ t.road key).map .int))) ρ) ∨ (∃ t4 t5 t6, whileX U_road_1 U_road_2 (f + 1) (SRo t0 key acc t s4 s5 s6) = .nx (SRo t0 key (acc ++ t.road key) .nil t4 t5 t6)) := by
  intro f
  induction f with
  | zero =>
    intro t acc s4 s5 s6 hf hl h4 h5 h6
    cases t with
    | node l c r => simp [T.hi] at hf
    | nil =>
      refine .inr ⟨s4, s5, s6, ?_⟩
      have ne := vNe_t .nil
      rw [whileX_succ]
      simp [SRo, U_road_1, ne, T.isN, gr_ok, T.road]
  | succ f ih =>
    intro t acc s4 s5 s6 hf hl h4 h5 h6
    cases t with
    | nil =>
      refine .inr ⟨s4, s5, s6, ?_⟩
      have ne := vNe_t .nil
      rw [whileX_succ]
      simp [SRo, U_road_1, ne, T.isN, gr_ok, T.road]
    | node l c r =>
      simp only [T.hi] at hf
      have ne := vNe_t (.node l c r)
      have test : U_road_1 (SRo t0 key acc (.node l c r) s4 s5 s6) = .ok true (SRo t0 key acc (.node l c r) s4 s5 s6) := by
        simp [SRo, U_road_1, ne, T.isN, gr_ok]
      rw [whileX_succ, test]
      simp only [Re.to_ok, iteX_true]
      rw [T.road]
      by_cases e : c.k = key
      · have body : ∃ ρ, U_road_2 (SRo t0 key acc (.node l c r) s4 s5 s6) = .rt (.sh (.list ((acc ++ [c.k]).map .int))) ρ := by
          subst e
          exact ⟨_, by simp (disch := first | assumption | omega | (simp only [List.length_map]; omega)) [SRo, U_road_2, T.d, Card.d, h4 _, h5 _, h6 _, gr_ok, gd_ok]; rfl⟩
        obtain ⟨ρ, body⟩ := body
        rw [if_pos e, body, Ou.loop_rt]
        exact .inl ⟨ρ, rfl⟩
      · rw [if_neg e]
        by_cases z : key < c.k
        · have body : U_road_2 (SRo t0 key acc (.node l c r) s4 s5 s6) = .nx (SRo t0 key (acc ++ [c.k]) l (some (.sh l.d)) (some (.sh c.d)) (some (.sh r.d))) := by
            simp (disch := first | assumption | omega | (simp only [List.length_map]; omega)) [SRo, U_road_2, T.d, Card.d, h4 _, h5 _, h6 _, z, e, gr_ok, gd_ok]
          rw [if_pos z, body, Ou.loop_nx, show acc ++ c.k :: l.road key = (acc ++ [c.k]) ++ l.road key by simp]
          exact ih l (acc ++ [c.k]) _ _ _ (by omega) (by simp; omega) (.sh _) (.sh _) (.sh _)
        · have body : U_road_2 (SRo t0 key acc (.node l c r) s4 s5 s6) = .nx (SRo t0 key (acc ++ [c.k]) r (some (.sh l.d)) (some (.sh c.d)) (some (.sh r.d))) := by
            simp (disch := first | assumption | omega | (simp only [List.length_map]; omega)) [SRo, U_road_2, T.d, Card.d, h4 _, h5 _, h6 _, z, e, gr_ok, gd_ok]
          rw [if_neg z, body, Ou.loop_nx, show acc ++ c.k :: r.road key = (acc ++ [c.k]) ++ r.road key by simp]
          exact ih r (acc ++ [c.k]) _ _ _ (by omega) (by simp; omega) (.sh _) (.sh _) (.sh _)
theorem road_eq {t : T} {key : Int} (h : t.hi ≤ 100) : F_road [t.d, .int key] = .ok (.sh (.list ((t.road key).map .int))) () := by
  rw [F_road_eq]
  rcases road_loop (t0 := t.d) (key := key) 100 t [] none none none h (by simp) .none .none .none with ⟨ρ, e⟩ | ⟨t4, t5, t6, e⟩
  · have w := xWhile_eq (t := U_road_1) (b := U_road_2) 101 (by decide) e (by intro z; cases z)
    simp only [SRo, List.map_nil, List.nil_append] at w
    simp [U_road, gr_ok, w]
  · have w := xWhile_eq (t := U_road_1) (b := U_road_2) 101 (by decide) e (by intro z; cases z)
    simp only [SRo, List.map_nil, List.nil_append] at w
    simp [U_road, gr_ok, w]
theorem holds_yes {t : T} {key : Int} (h : t.hi ≤ 100) (hr : Rise t.cards) (hk : HasK t key) : F_holds [t.d, .int key] = .ok (.sh (.bool true)) () := by
  rw [F_holds_eq]
  have e := road_eq (key := key) h
  obtain ⟨pre, e1, _⟩ := road_end t hr hk
  rw [e1] at e
  have il : ixX ((pre ++ [key]).map PyData.int) (-1) = some (.sh (.int key)) := ixX_last (by simp)
  have p : (0 : Int) < (pre.length : Int) + 1 := by omega
  simp only [List.map_append, List.map_cons, List.map_nil] at il e
  simp [U_holds, e, il, p]
theorem holds_no {t : T} {key : Int} (h : t.hi ≤ 100) (hk : ¬ HasK t key) : F_holds [t.d, .int key] = .ok (.sh (.bool false)) () := by
  rw [F_holds_eq]
  have e := road_eq (key := key) h
  by_cases z : t.road key = []
  · rw [z] at e
    simp only [List.map_nil] at e
    simp [U_holds, e]
  · obtain ⟨x, hx⟩ : ∃ x, (t.road key).getLast? = some x := ⟨_, List.getLast?_eq_some_getLast z⟩
    have ne : ¬ x = key := fun q => hk (by rw [← q]; exact road_has t x (List.mem_of_getLast? hx))
    have il : ixX ((t.road key).map PyData.int) (-1) = some (.sh (.int x)) := ixX_last (by rw [List.getLast?_map, hx]; rfl)
    have p := List.length_pos_iff.mpr z
    have p' : (0 : Int) < ((t.road key).length : Int) := by omega
    simp [U_holds, e, il, p, p', ne]
end PF
set_option Elab.async false
set_option linter.all false
set_option maxRecDepth 100000
set_option maxHeartbeats 1000000
namespace PF
open PySem L2 DL DX
end PF
set_option Elab.async false
set_option linter.all false
set_option maxRecDepth 100000
set_option maxHeartbeats 1000000
namespace PF
open PySem L2 DL DX
section
variable {N : Card}
end
end PF
set_option Elab.async false
set_option linter.all false
set_option maxRecDepth 100000
namespace PF
open PySem L2 DL DX
end PF
set_option Elab.async false
set_option linter.all false
set_option maxRecDepth 100000
namespace PF
open PySem L2 DL DX
end PF
set_option Elab.async false
set_option linter.all false
set_option maxRecDepth 100000
namespace PF
open PySem L2 DL DX
end PF
set_option Elab.async false
set_option linter.all false
set_option maxRecDepth 100000
namespace PF
open PySem L2 DL DX
end PF
set_option Elab.async false
set_option linter.all false
set_option maxRecDepth 100000
set_option maxHeartbeats 1000000
namespace PF
open PySem L2 DL DX
theorem in_ints (neg : Bool) (ks : List Int) (k : Int) : DX.inV neg (.int k) (ks.map .int) = some (.sh (.bool (if neg then !decide (k ∈ ks) else decide (k ∈ ks)))) := by
  unfold DX.inV
  have h1 : PyData.canLayAll0 (ks.map PyData.int) = true := canLayAll_map (fun _ => rfl) ks
  rw [gd_ok ⟨rfl, h1, by simp [PyData.depth]⟩]
  have : ((ks.map PyData.int).any fun y => PyData.eqv y (.int k)) = decide (k ∈ ks) := by
    induction ks with
    | nil => rfl
    | cons a ks ih =>
      rw [List.map_cons, List.any_cons, ih (canLayAll_map (fun _ => rfl) ks)]
      by_cases e : a = k
      · subst e; simp [PyData.eqv]
      · have e' : ¬ k = a := fun q => e q.symm
        simp [PyData.eqv, e, e']
  rw [this]
theorem ne_ints {ks : List Int} : vEq true (.list (ks.map .int)) (.list []) = some (.sh (.bool (!decide (ks = [])))) := by
  rw [vEq_lay (Lay.ints ks) rfl]
  cases ks <;> simp [PyData.eqv, PyData.eqvAll]
end PF
set_option Elab.async false
set_option linter.all false
set_option maxRecDepth 100000
set_option maxHeartbeats 1000000
namespace PF
open PySem L2 DL DX
theorem marks32_loop {m b mw : PyData} {w : Int} (hw0 : 0 ≤ w) (hw1 : w < 4) (n : Nat) (hn : n ≤ 100) (p : Pot) (hp : p.Ok) (at' : Int) (ha0 : 0 ≤ at') (ha1 : at' ≤ 1000000000000000000) :
    ∃ (q : Pot) (acc : List Int) (at2 : Int) (s7 : Option R), forX (xN 7) U_law_marks_2 (rangeD 0 n) [some (.io p.o), some (.sh m), some (.sh (.int w)), some (.sh b), some (.sh mw), some (.sh (.int at')), some (.own (.lst [])), none, none] =
      .nx [some (.io (Pot.o q)), some (.sh m), some (.sh (.int w)), some (.sh b), some (.sh mw), some (.sh (.int at2)), some (.own (.lst (acc.map .int))), s7, none] ∧ q.Ok ∧ acc.length = n ∧ Rising acc ∧ ∀ x ∈ acc, 0 ≤ x ∧ x < 2000000000000000000 := by
  rw [rangeD_map0]
  obtain ⟨ρ', e, q, acc, at2, s7, rfl, hq, hl, hri, hal, hb0, hb1, _⟩ := forX_inv (g := xN 7) (b := U_law_marks_2) (enc := fun (i : Nat) => PyData.int i) (fun xs ρ => ∃ (q : Pot) (acc : List Int) (at2 : Int) (s7 : Option R), ρ = [some (.io (Pot.o q)), some (.sh m), some (.sh (.int w)), some (.sh b), some (.sh mw), some (.sh (.int at2)), some (.own (.lst (acc.map .int))), s7, none] ∧ q.Ok ∧ acc.length + xs.length = n ∧ Rising acc ∧ (∀ x ∈ acc, 0 ≤ x ∧ x < at2) ∧ 0 ≤ at2 ∧ at2 ≤ 1000000000000000000 + 1000001 * (acc.length : Int) ∧ NIo s7)
    (by
      rintro k ks _ ⟨q, acc, at2, s7, rfl, hq, hl, hri, hal, hb0, hb1, hs⟩
      simp only [List.length_cons] at hl
      obtain ⟨x, hx, hx2⟩ := pick4 (a := 1) (b := 1) (c := 3) (d := 1000000) hw0 hw1
      obtain ⟨i, p1, e1, a1, a2, o1⟩ := take_ex hq (m := x) (by omega) (by omega)
      refine ⟨[some (.io q.o), some (.sh m), some (.sh (.int w)), some (.sh b), some (.sh mw), some (.sh (.int at2)), some (.own (.lst (acc.map .int))), some (.sh (.int k)), none], _, by simp [hs _], .inl ?_, p1, acc ++ [at2], at2 + 1 + i, some (.sh (.int k)), rfl, o1, by simp; omega, ?_, ?_, by omega, by simp only [List.length_append, List.length_cons, List.length_nil]; omega, .sh _⟩
      · simp (disch := first | assumption | omega | (simp only [List.length_map]; omega)) [U_law_marks_2, gd_ok, gr_ok, hx, e1]
      · refine List.pairwise_append.mpr ⟨hri, List.pairwise_singleton _ _, fun a ha b hb => ?_⟩
        rw [List.mem_singleton.mp hb]
        exact (hal a ha).2
      · intro y hy
        rcases List.mem_append.mp hy with hy | hy
        · have := hal y hy; omega
        · rw [List.mem_singleton.mp hy]; omega)
    (List.range n) _ ⟨p, [], at', none, rfl, hp, by simp, .nil, fun x hx => (by cases hx), ha0, by simp; omega, .none⟩
  have hl' : acc.length = n := by simpa using hl
  exact ⟨q, acc, at2, s7, e, hq, hl', hri, fun x hx => by have := hal x hx; rw [hl'] at hb1; omega⟩
theorem marks32_ex {p : Pot} (hp : p.Ok) {n : Int} (h0 : 0 ≤ n) (h1 : n ≤ 100) : ∃ (ms : List Int) (q : Pot), F_law_marks p.o [.int n] = .ok (.sh (.list (ms.map .int))) q.o ∧ (ms.length : Int) = n ∧ q.Ok ∧ Rising ms ∧ ∀ x ∈ ms, -2000000000000000000 < x ∧ x < 2000000000000000000 := by
  obtain ⟨w, p1, e1, a1, a2, o1⟩ := take_ex hp (m := 4) (by decide) (by decide)
  obtain ⟨b, p2, e2, b1, b2, o2⟩ := take_ex o1 (m := 3) (by decide) (by decide)
  obtain ⟨mw, p3, e3, c1, c2, o3⟩ := take_ex o2 (m := 3) (by decide) (by decide)
  rw [F_law_marks_eq]
  -- what stands behind the first half
  have half : ∃ (p4 : Pot) (at' : Int), (p4.Ok ∧ 0 ≤ at' ∧ at' ≤ 1000000000000000000) ∧ U_law_marks [some (.io p.o), some (.sh (.int n)), none, none, none, none, none, none, none] = (xFor (xiOf rng1 (xCons (xVar 1) xNil)) (xN 7) U_law_marks_2 [some (.io p4.o), some (.sh (.int n)), some (.sh (.int w)), some (.sh (.int b)), some (.sh (.int mw)), some (.sh (.int at')), some (.own (.lst [])), none, none]).seq (xSeq (xIf (xB (xBin (vEq false) (xVar 4) (xC (.int 0)))) (xAsg (xLc (xiSeq (xUn vRev (xVar 6))) [8] (xN 8) xYes U_law_marks_1) (xN 6)) xNext) (xRet (xVar 6))) := by
    by_cases hb : 0 < b
    · have : b = 1 ∨ b = 2 := by omega
      rcases this with rfl | rfl
      · obtain ⟨v, p4, e4, d1, d2, o4⟩ := take_ex o3 (m := 50) (by decide) (by decide)
        have mk : IntMulOk v 1 := mulOk_r (by decide) (by decide)
        exact ⟨p4, v, ⟨o4, by omega, by omega⟩, by simp (disch := first | assumption | omega) [U_law_marks, e1, e2, e3, e4, gr_ok, gd_ok, -xFor_at]⟩
      · obtain ⟨v, p4, e4, d1, d2, o4⟩ := take_ex o3 (m := 1000000) (by decide) (by decide)
        have mk : IntMulOk v 100000000000 := mulOk_r (by decide) (by decide)
        exact ⟨p4, v * 100000000000, ⟨o4, by omega, by omega⟩, by simp (disch := first | assumption | omega) [U_law_marks, e1, e2, e3, e4, gr_ok, gd_ok, -xFor_at]⟩
    · exact ⟨p3, 0, ⟨o3, by omega, by omega⟩, by simp (disch := first | assumption | omega) [U_law_marks, e1, e2, e3, gr_ok, gd_ok, hb, -xFor_at]⟩
  obtain ⟨p4, at', ⟨o4, z0, z1⟩, half⟩ := half
  rw [half]
  obtain ⟨q, acc, at2, s7, e, hq, hl, hri, hal⟩ := marks32_loop (m := .int n) (b := .int b) (mw := .int mw) a1 a2 n.toNat (by omega) p4 o4 at' z0 z1
  by_cases hm : mw = 0
  · subst hm
    refine ⟨acc.reverse.map fun m => 1000000000000000000 - m, q, ?_, by simp; omega, hq, ?_, ?_⟩
    rotate_left
    · refine List.pairwise_map.mpr (List.pairwise_reverse.mpr (hri.imp fun {a b} h => ?_))
      omega
    · intro x hx
      obtain ⟨y, hy, rfl⟩ := List.mem_map.mp hx
      have := hal y (List.mem_reverse.mp hy)
      omega
    have lc := lcX_all (vs := [8]) (g := xN 8) (T := xYes) (e := U_law_marks_1) (enc := PyData.int) (f := fun m => PyData.int (1000000000000000000 - m)) (ρ := [some (.io q.o), some (.sh (.int n)), some (.sh (.int w)), some (.sh (.int b)), some (.sh (.int 0)), some (.sh (.int at2)), some (.sh (.list (acc.map .int))), s7, none]) acc.reverse [] (fun x _ => by simp [turnX, U_law_marks_1, calmX, wipeR]) (by simp; omega)
    simp (disch := first | assumption | omega) [gd_ok, gr_ok, e, ← List.map_reverse, calmX, wipeR, lc, restR]
  · refine ⟨acc, q, ?_, by omega, hq, hri, fun x hx => by have := hal x hx; omega⟩
    simp (disch := first | assumption | omega) [gd_ok, gr_ok, e, hm]
theorem cards32_loop {ms : List Int} {w g : Int} (hw0 : 0 ≤ w) (hw1 : w < 6) (hg0 : 0 ≤ g) (hg1 : g < 5) (hn : ms.length ≤ 100) (p : Pot) (hp : p.Ok) :
    ∃ (q : Pot) (cs : List Card) (s5 s6 s7 : Option R), forX (xN 5) U_law_cards_v4_1 (rangeD 0 ms.length) [some (.io p.o), some (.sh (.list (ms.map .int))), some (.sh (.int w)), some (.sh (.int g)), some (.own (.lst [])), none, none, none] =
      .nx [some (.io (Pot.o q)), some (.sh (.list (ms.map .int))), some (.sh (.int w)), some (.sh (.int g)), some (.own (.lst (cs.map Card.d))), s5, s6, s7] ∧ q.Ok ∧ cs.map Card.k = ms ∧ (∀ c ∈ cs, (0 ≤ c.r ∧ c.r ≤ 10000000000000000000000000) ∧ -10000000000000000000000000 ≤ c.w ∧ c.w ≤ 10000000000000000000000000) := by
  rw [rangeD_map0]
  obtain ⟨ρ', e, q, cs, s5, s6, s7, rfl, hq, hl, hbd, _⟩ := forX_inv (g := xN 5) (b := U_law_cards_v4_1) (enc := fun (i : Nat) => PyData.int i) (fun xs ρ => ∃ (q : Pot) (cs : List Card) (s5 s6 s7 : Option R), ρ = [some (.io (Pot.o q)), some (.sh (.list (ms.map .int))), some (.sh (.int w)), some (.sh (.int g)), some (.own (.lst (cs.map Card.d))), s5, s6, s7] ∧ q.Ok ∧ (xs = (List.range ms.length).drop cs.length ∧ cs.length ≤ ms.length ∧ cs.map Card.k = ms.take cs.length) ∧ (∀ c ∈ cs, (0 ≤ c.r ∧ c.r ≤ 10000000000000000000000000) ∧ -10000000000000000000000000 ≤ c.w ∧ c.w ≤ 10000000000000000000000000) ∧ NIo s5 ∧ NIo s6 ∧ NIo s7)
    (by
      rintro k ks _ ⟨q, cs, s5, s6, s7, rfl, hq, ⟨hx, hle, hk⟩, hbd, h5, h6, h7⟩
      have hlt : cs.length < ms.length := by
        have := congrArg List.length hx
        simp at this
        omega
      rw [List.drop_eq_getElem_cons (by simp; omega)] at hx
      simp only [List.getElem_range] at hx
      obtain ⟨rfl, hx9⟩ := List.cons.inj hx
      obtain ⟨x1, hx1, hy1⟩ := pick6 (a := 3) (b := 200) (c := 1000000) (d := 2) (e := 1) (f := 1) hw0 hw1
      obtain ⟨x2, hx2, hy2⟩ := pick6 (a := 1) (b := 1) (c := 1000000000000) (d := 1000000000000000000) (e := 1) (f := 1) hw0 hw1
      obtain ⟨x3, hx3, hy3⟩ := pick6 (a := 0) (b := 0) (c := 0) (d := 0) (e := (cs.length : Int)) (f := (ms.length : Int) - (cs.length : Int)) hw0 hw1
      obtain ⟨x4, hx4, hy4⟩ := pick5 (a := 11) (b := 3) (c := 1000000) (d := 1) (e := 201) hg0 hg1
      obtain ⟨x5, hx5, hy5⟩ := pick5 (a := 5) (b := 1) (c := 0) (d := 0) (e := 100) hg0 hg1
      obtain ⟨x6, hx6, hy6⟩ := pick5 (a := 1) (b := 1000000000000000000) (c := 1000000000000) (d := 1) (e := 1) hg0 hg1
      have hy1 : 1 ≤ x1 ∧ x1 ≤ 1000000 := by clear hy2 hy3 hy4 hy5 hy6; omega
      have hy2 : 1 ≤ x2 ∧ x2 ≤ 1000000000000000000 := by clear hy3 hy4 hy5 hy6; omega
      have hy3 : 0 ≤ x3 ∧ x3 ≤ 1000 := by clear hy4 hy5 hy6; omega
      have hy4 : 1 ≤ x4 ∧ x4 ≤ 1000000 := by clear hy5 hy6; omega
      have hy5 : 0 ≤ x5 ∧ x5 ≤ 100 := by clear hy6; omega
      have hy6 : 1 ≤ x6 ∧ x6 ≤ 1000000000000000000 := by omega
      obtain ⟨i, p1, e1, a1, a2, o1⟩ := take_ex hq (m := x1) (by omega) (by omega)
      obtain ⟨j, p2, e2, b1, b2, o2⟩ := take_ex o1 (m := x4) (by omega) (by omega)
      have m1 : IntMulOk i x2 := mulOk_r (by omega) (by omega)
      have m2 : IntMulOk (j - x5) x6 := mulOk_r (by omega) (by omega)
      obtain ⟨y, hy⟩ : ∃ y, ms[cs.length]? = some y := ⟨ms[cs.length], by simp⟩
      have ix := ixX_map (f := PyData.int) (i := (cs.length : Int)) (by omega) (by simpa using hy)
      refine ⟨[some (.io q.o), some (.sh (.list (ms.map .int))), some (.sh (.int w)), some (.sh (.int g)), some (.own (.lst (cs.map Card.d))), some (.sh (.int cs.length)), s6, s7], _, by simp [h5 _], .inl ?_, p2, cs ++ [⟨y, i * x2 + x3, (j - x5) * x6⟩], some (.sh (.int cs.length)), some (.sh (.int (i * x2 + x3))), some (.sh (.int (j - x5))), rfl, o2, ⟨?_, ?_, ?_⟩, ?_, .sh _, .sh _, .sh _⟩
      · simp (disch := first | assumption | omega | (simp only [List.length_map]; omega)) [U_law_cards_v4_1, gd_ok, gr_ok, hx1, hx2, hx3, hx4, hx5, hx6, e1, e2, ix, h6 _, h7 _, Card.d]
      · simpa using hx9
      · simp; omega
      · simp only [List.map_append, List.map_cons, List.map_nil, List.length_append, List.length_cons, List.length_nil, hk]
        rw [List.take_add_one, hy]
        rfl
      · intro c hc
        rcases List.mem_append.mp hc with hc | hc
        · exact hbd c hc
        · rw [List.mem_singleton.mp hc]
          have q1 : i * x2 ≤ 1000000 * 1000000000000000000 := Int.mul_le_mul (by omega) hy2.2 (by omega) (by omega)
          have q0 : 0 ≤ i * x2 := Int.mul_nonneg a1 (by omega)
          have q2 : (j - x5) * x6 ≤ 1000000 * x6 := Int.mul_le_mul_of_nonneg_right (by omega) (by omega)
          have q3 : (-100) * x6 ≤ (j - x5) * x6 := Int.mul_le_mul_of_nonneg_right (by omega) (by omega)
          refine ⟨⟨?_, ?_⟩, ?_, ?_⟩ <;> show _ ≤ _ <;> dsimp only <;> omega)
    (List.range ms.length) _ ⟨p, [], none, none, none, rfl, hp, ⟨by simp, by simp, by simp⟩, fun c hc => (by cases hc), .none, .none, .none⟩
  obtain ⟨h1, h2, h3⟩ := hl
  have : cs.length = ms.length := by
    have := congrArg List.length h1
    simp at this
    omega
  exact ⟨q, cs, s5, s6, s7, e, hq, by rw [h3, this, List.take_length], hbd⟩
theorem cards32_ex {p : Pot} (hp : p.Ok) {ms : List Int} (hn : ms.length ≤ 100) : ∃ (cs : List Card) (q : Pot), F_law_cards_v4 p.o [.list (ms.map .int)] = .ok (.sh (csd cs)) q.o ∧ cs.map Card.k = ms ∧ q.Ok ∧ (∀ c ∈ cs, (0 ≤ c.r ∧ c.r ≤ 10000000000000000000000000) ∧ -10000000000000000000000000 ≤ c.w ∧ c.w ≤ 10000000000000000000000000) := by
  obtain ⟨w, p1, e1, a1, a2, o1⟩ := take_ex hp (m := 6) (by decide) (by decide)
  obtain ⟨g, p2, e2, b1, b2, o2⟩ := take_ex o1 (m := 5) (by decide) (by decide)
  obtain ⟨q, cs, s5, s6, s7, e, hq, hk, hbd⟩ := cards32_loop a1 a2 b1 b2 hn p2 o2
  refine ⟨cs, q, ?_, hk, hq, hbd⟩
  rw [F_law_cards_v4_eq]
  simp (disch := first | assumption | omega) [U_law_cards_v4, e1, e2, gr_ok, gd_ok, e]
end PF
set_option Elab.async false
set_option linter.all false
set_option maxRecDepth 100000
namespace PF
open PySem L2 DL DX
def U_entry_made : XS :=
  (xSeq (xAsg (xBin vAdd (xBin vAdd (xIxU 1 (xC (.int 0))) (xC (.int 1))) (xIxU 2 (xC (.int 0)))) (xN 3))
    (xSeq (xAsg (xBin vAdd (xBin vAdd (xIxU 1 (xC (.int 1))) (xVar 0)) (xIxU 2 (xC (.int 1)))) (xN 4))
    (xSeq (xAsg (xBlt vMax2 (xCons (xIxU 1 (xC (.int 2))) (xCons (xBin vAdd (xBin vAdd (xIxU 1 (xC (.int 1))) (xVar 0)) (xIxU 2 (xC (.int 2)))) xNil))) (xN 5))
    (xSeq (xAsg (xBlt vMax2 (xCons (xIxU 2 (xC (.int 3))) (xCons (xBin vAdd (xBin vAdd (xIxU 1 (xC (.int 3))) (xVar 0)) (xIxU 2 (xC (.int 1)))) xNil))) (xN 6))
    (xSeq (xAsg (xBlt vMax3 (xCons (xIxU 1 (xC (.int 4))) (xCons (xIxU 2 (xC (.int 4))) (xCons (xBin vAdd (xBin vAdd (xIxU 1 (xC (.int 3))) (xVar 0)) (xIxU 2 (xC (.int 2)))) xNil)))) (xN 7))
    (xRet (xTup (xCons (xVar 3) (xCons (xVar 4) (xCons (xVar 5) (xCons (xVar 6) (xCons (xVar 7) xNil))))))))))))
def F_entry_made : Fn := runD 3 8 U_entry_made
theorem F_entry_made_eq (a0 a1 a2 : PyData) : F_entry_made [a0, a1, a2] = (U_entry_made [some (.sh a0), some (.sh a1), some (.sh a2), none, none, none, none, none]).fin := runD_eq (m := 3) (n := 8) U_entry_made [a0, a1, a2] _ rfl rfl
end PF
set_option Elab.async false
set_option linter.all false
set_option maxRecDepth 100000
namespace DX
open PySem PySem.Spec PyProof.Rows L2 DL
section
variable {X : Cx} {a e : Expr} {xa : XE} {pos : Pos}
end
end DX
set_option Elab.async false
set_option linter.all false
set_option maxRecDepth 100000
namespace DL
open PySem L2
section
variable {X : Cx} {e : Expr} {es : List Expr} {Ga : GE} {pos : Pos}
theorem NewP.length {K : PySem.W.Frag} {Z F : Hp} : ∀ {vs : List V} {ps : List (PyData × Bool)}, NewP K Z F vs ps → vs.length = ps.length
  | _, _, .nil => rfl
  | _, _, .dat _ t => by simp [NewP.length t]
  | _, _, .own _ _ _ _ t => by simp [NewP.length t]
end
end DL
namespace DX
open PySem PyProof.Rows L2 DL
section
variable {X : Cx} {e : Expr} {es : List Expr} {xa : XE} {pos : Pos}
end
end DX
set_option Elab.async false
set_option linter.all false
set_option maxRecDepth 100000
namespace L2
open PySem PySem.Spec PyProof.Rows
section
variable {prog : Program} {w : World} {A : Around} {R : Result → Shared → Prop} {s : Shared}
end
section
variable {X : Cx} {pins : List (Addr × Obj)} {σ : St} {H : Hp} {s : Shared}
end
section
variable {X : Cx}
end
end L2
set_option Elab.async false
set_option linter.all false
set_option maxRecDepth 100000
set_option maxHeartbeats 1000000
namespace PF
open PySem PySem.W PyProof.Rows
section
variable {M : Model} {A : Around} {E : Value → Shared → Prop} {s : Shared} {κ : SortKind} {item : Nat → Keyed} {r : Nat → Int} {N : Nat}
end
end PF
set_option Elab.async false
set_option linter.all false
set_option maxRecDepth 100000
set_option maxHeartbeats 1000000
namespace PF
open PySem PySem.W PyProof.Rows
section
variable {M : Model} {A : Around} {E : Value → Shared → Prop} {s : Shared} {κ : SortKind} {item : Nat → Keyed} {r : Nat → Int} {N : Nat}
variable {la lb : List Nat} {out : Array Keyed} {ia ib k : Nat}
end
end PF
set_option Elab.async false
set_option linter.all false
set_option maxRecDepth 100000
set_option maxHeartbeats 1000000
namespace PF
open PySem PySem.W PyProof.Rows
section
variable {M : Model} {A : Around} {E : Value → Shared → Prop} {s : Shared} {κ : SortKind} {item : Nat → Keyed} {r : Nat → Int} {N : Nat} {la lb : List Nat} {out : Array Keyed} {na nb k : Nat}
end
end PF
set_option Elab.async false
set_option linter.all false
set_option maxRecDepth 100000
set_option maxHeartbeats 1000000
namespace PF
open PySem PySem.W PyProof.Rows
section
variable {M : Model} {A : Around} {E : Value → Shared → Prop} {s : Shared} {κ : SortKind} {item : Nat → Keyed} {r : Nat → Int} {N : Nat}
abbrev kr (r : Nat → Int) (p : Array Nat) (i : Nat) : Int := r (p.getD i 0)
def AllN (N : Nat) (p : Array Nat) : Prop := ∀ x, x ∈ p.toList → x < N
theorem AllN.at {p : Array Nat} (h : AllN N p) {i : Nat} (hi : i < p.size) : p.getD i 0 < N := by
  rw [Array.getD_eq_getD_getElem?, Array.getElem?_eq_getElem hi]
  exact h _ (Array.mem_def.mp (Array.getElem_mem hi))
def Asc (r : Nat → Int) (p : Array Nat) (lo n : Nat) : Prop := ∀ j, 1 ≤ j → j < n → kr r p (lo + j - 1) < kr r p (lo + j)
theorem Asc.of {p : Array Nat} {lo n : Nat} (h : ∀ i j, i < j → j < n → kr r p (lo + i) < kr r p (lo + j)) : Asc r p lo n := fun j h1 h2 => by
  have := h (j - 1) j (by omega) h2
  rw [show lo + (j - 1) = lo + j - 1 by omega] at this
  exact this
end
end PF
set_option Elab.async false
set_option linter.all false
set_option maxRecDepth 100000
set_option maxHeartbeats 1000000
namespace PF
open PySem PySem.W PyProof.Rows
section
variable {M : Model} {A : Around} {E : Value → Shared → Prop} {s : Shared} {κ : SortKind} {item : Nat → Keyed} {r : Nat → Int} {N : Nat}
theorem four {l : List Nat} {k n1 hi : Nat} (h1 : k ≤ n1) : l = l.take k ++ ((l.drop k).take (n1 - k) ++ (l.drop n1).take hi) ++ l.drop (n1 + hi) := by
  have e1 : l.drop n1 = (l.drop n1).take hi ++ l.drop (n1 + hi) := by
    rw [← List.drop_drop]; exact (List.take_append_drop _ _).symm
  have e2 : l.drop k = (l.drop k).take (n1 - k) ++ l.drop n1 := by
    have : l.drop n1 = (l.drop k).drop (n1 - k) := by rw [List.drop_drop]; congr 1; omega
    rw [this]; exact (List.take_append_drop _ _).symm
  have e3 : l = l.take k ++ l.drop k := (List.take_append_drop _ _).symm
  rw [List.append_assoc, List.append_assoc, ← e1, ← e2, ← e3]
end
end PF
set_option Elab.async false
set_option linter.all false
set_option maxRecDepth 100000
set_option maxHeartbeats 1000000
namespace PF
open PySem PySem.W PyProof.Rows
section
variable {M : Model} {A : Around} {E : Value → Shared → Prop} {s : Shared} {κ : SortKind} {item : Nat → Keyed} {r : Nat → Int} {N : Nat}
end
end PF
set_option Elab.async false
set_option linter.all false
set_option maxRecDepth 100000
set_option maxHeartbeats 1000000
namespace PF
open PySem PySem.W PyProof.Rows PySem.Calls
section
variable {prog : Program} {w : World} {A : Around} {E : Value → Shared → Prop} {s : Shared} {ks vs : List Value} {κ : SortKind}
end
end PF
set_option Elab.async false
set_option linter.all false
set_option maxRecDepth 100000
set_option maxHeartbeats 1000000
namespace PF
open PySem PySem.W PyProof.Rows PySem.Calls
section
variable {prog : Program} {w : World} {A : Around} {E : Value → Shared → Prop} {s : Shared}
end
end PF
set_option Elab.async false
set_option linter.all false
set_option maxRecDepth 100000
set_option maxHeartbeats 1000000
namespace PF
open PySem PySem.W PyProof.Rows PySem.Calls
section
variable {prog : Program} {w : World} {A : Around} {E : Value → Shared → Prop} {s : Shared} {h₀ : Heap} {L : Addr} {m : Str → Option Value} {news : List (Addr × Obj)} {a kS : Addr} {vs : List Value} {kz : List Int} {keys : Array Value} {e e1 : Nat} {P : PySem.Fin → Shared → Prop}
end
section
variable {prog : Program} {w : World} {A : Around} {E : Value → Shared → Prop} {s : Shared} {h₀ : Heap} {L l : Addr} {m : Str → Option Value} {news : List (Addr × Obj)} {vs : List Value} {Q : Value → Shared → Prop}
end
end PF
set_option Elab.async false
set_option linter.all false
set_option maxRecDepth 100000
set_option maxHeartbeats 1000000
namespace PF
open PySem PySem.W PyProof.Rows PySem.Calls
section
variable {prog : Program} {w : World} {A : Around} {E : Value → Shared → Prop} {s : Shared} {h₀ : Heap} {L l : Addr} {m : Str → Option Value} {news : List (Addr × Obj)} {vs : List Value} {Q : Value → Shared → Prop}
end
end PF
set_option Elab.async false
set_option linter.all false
set_option maxRecDepth 100000
namespace DL
open PySem PyProof.Rows L2 PF PySem.W
def Grow (H H' : Hp) : Prop := H' = H ∨ ∃ c o, H c = none ∧ H' = upd H c o
theorem Grow.same {H H' : Hp} (g : Grow H H') : Same H H' := by
  rcases g with rfl | ⟨c, o, h, rfl⟩
  · exact Same.refl _
  · exact same_new h o
section
variable {X : Cx} {pins : List (Addr × Obj)} {σ : L2.St} {H : Hp} {s : Shared} {q : Str} {lp : Arguments} {lb : Expr} {lsc : Scope} {lpos : Pos}
end
section
variable {prog : Program} {w : World} {A : Around} {s : Shared} {q y : Str} {lsc : Scope} {ypos ipos spos apos : Pos} {ik : Nat} {fa t : Addr} {pm cv ctv : Value} {items : Array Value} {i : Int} {tk : Tok}
end
end DL
set_option Elab.async false
set_option linter.all false
set_option maxRecDepth 100000
namespace DL
open PySem PyProof.Rows L2 DX PF PySem.W
section
variable {X : Cx} {pins : List (Addr × Obj)} {σ : L2.St} {H : Hp} {s : Shared} {q y : Str} {ypos ipos spos apos : Pos} {ik : Nat} {fa a : Addr} {pm cv ctv : Value}
end
end DL
set_option Elab.async false
set_option linter.all false
set_option maxRecDepth 100000
namespace DL
open PySem PyProof.Rows L2 DX PF PySem.W
section
variable {X : Cx} {a : Expr} {q y : Str} {ypos ipos spos apos lpos p pos kp : Pos} {ik : Nat} {t : TA}
end
section
variable {X : Cx} {a : Expr} {q y : Str} {ypos ipos spos apos lpos p pos kp : Pos} {ik : Nat} {t : GA}
end
end DL
namespace L2
open PySem PyProof.Rows DL
variable {P : Program} {w : World} {K : PySem.W.Frag} {mg : Str → Option Value} {base : Heap}
end L2
namespace DL
open PySem PyProof.Rows L2 DX PF PySem.W
section
variable {P : Program} {w : World} {K : PySem.W.Frag} {mg : Str → Option Value} {base : Heap}
end
end DL
namespace DX
open PySem PyProof.Rows L2 DL
section
variable {X : Cx} {a : Expr} {q y : Str} {ypos ipos spos apos lpos p pos kp : Pos} {ik k' : Nat} {t : XA}
end
section
variable {cb : Bool} {P : Program} {w : World} {K : PySem.W.Frag} {mg : Str → Option Value} {base : Heap} {x q : Str} {st : Stmt} {ps N : List Str} {k : Nat}
end
end DX
set_option Elab.async false
set_option linter.all false
set_option maxRecDepth 100000
namespace DL
open PySem PyProof.Rows L2 PF PySem.W
def Few (n : Nat) (u : Prop) : Prop := n < 128 ∧ (64 ≤ n → u)
instance {n : Nat} {u : Prop} [Decidable u] : Decidable (Few n u) := inferInstanceAs (Decidable (_ ∧ _))
section
variable {X : Cx} {a : Expr} {pos : Pos}
end
end DL
namespace DX
open PySem PyProof.Rows L2 DL
section
variable {X : Cx} {a : Expr} {pos p : Pos} {t : XA}
end
end DX
set_option Elab.async false
set_option linter.all false
set_option maxRecDepth 100000
namespace DL
open PySem PyProof.Rows L2 DX PF PySem.W
section
variable {X : Cx} {pins : List (Addr × Obj)} {σ : L2.St} {H : Hp} {s : Shared} {q y : Str} {ypos ipos spos apos : Pos} {ik : Nat} {fa a : Addr} {pm cv ctv : Value}
end
section
variable {X : Cx} {a : Expr} {q y : Str} {ypos ipos spos apos lpos p pos kp : Pos} {ik : Nat} {t : TA}
end
section
variable {X : Cx} {a : Expr} {q y : Str} {ypos ipos spos apos lpos p pos kp : Pos} {ik : Nat} {t : GA}
end
end DL
namespace DX
open PySem PyProof.Rows L2 DL
section
variable {X : Cx} {a : Expr} {q y : Str} {ypos ipos spos apos lpos p pos kp : Pos} {ik k' : Nat} {t : XA}
end
end DX
set_option Elab.async false
set_option linter.all false
set_option maxRecDepth 100000
namespace DL
open PySem PyProof.Rows L2 DX PF PySem.W
section
variable {X : Cx} {pins : List (Addr × Obj)} {σ : L2.St} {H : Hp} {s : Shared} {q y : Str} {ypos ipos spos apos : Pos} {ik : Nat} {fa a : Addr} {pm cv ctv : Value}
end
section
variable {X : Cx} {a : Expr} {q y : Str} {ypos ipos spos apos lpos p pos kp : Pos} {ik : Nat} {t : TA}
end
section
variable {X : Cx} {a : Expr} {q y : Str} {ypos ipos spos apos lpos p pos kp : Pos} {ik : Nat} {t : GA}
end
end DL
namespace DX
open PySem PyProof.Rows L2 DL
section
variable {X : Cx} {a : Expr} {q y : Str} {ypos ipos spos apos lpos p pos kp : Pos} {ik k' : Nat} {t : XA}
end
end DX
set_option Elab.async false
set_option linter.all false
set_option maxRecDepth 100000
namespace DL
open PySem PyProof.Rows L2 PySem.W
inductive Qa
  | z (i : Int)
  | s (i : Nat)
section
variable {X : Cx} {e a : Expr} {es : List Expr} {t : TA} {qs : List Qa} {Ga : GE} {pos p : Pos}
end
end DL
namespace DX
open PySem PyProof.Rows L2 DL
section
variable {X : Cx} {e a : Expr} {es : List Expr} {t : TA} {qs : List Qa} {xa : XE} {pos p : Pos} {x : Str} {ps : List Str} {k k' : Nat}
end
end DX
set_option Elab.async false
set_option linter.all false
set_option maxRecDepth 100000
namespace DL
open PySem PyProof.Rows L2
section
variable {X : Cx} {tg a b e : Expr} {es : List Expr} {Ga Gb : GE} {pos : Pos}
variable {kx vx iter : Expr} {ifs : List Expr} {scope : Scope} {own : List (Str × Nat)} {i : GI} {g : GG} {T : GT} {Gk Gv : GE} {sl : List Nat}
end
end DL
namespace DX
open PySem PyProof.Rows L2 DL
section
variable {X : Cx} {tg kx vx iter : Expr} {ifs : List Expr} {scope : Scope} {own : List (Str × Nat)} {i : XA} {g : XG} {T : XT} {xk xv : XE} {sl : List Nat} {pos : Pos}
end
end DX
set_option Elab.async false
set_option linter.all false
set_option maxRecDepth 100000
namespace DL
open PySem PyProof.Rows L2
section
variable {X : Cx} {pins : List (Addr × Obj)} {σ : L2.St} {H : Hp} {s : Shared}
variable {o e : Expr} {to : TE} {t : TA} {apos cpos : Pos}
end
end DL
namespace DX
open PySem PyProof.Rows L2 DL
section
variable {X : Cx} {o e : Expr} {apos cpos : Pos} {xa xb : XE}
end
end DX
set_option Elab.async false
set_option linter.all false
set_option maxRecDepth 100000
namespace DL
open PySem PyProof.Rows L2
section
variable {X : Cx} {a : Expr} {pos : Pos}
end
end DL
namespace DX
open PySem PyProof.Rows L2 DL
section
variable {X : Cx} {a : Expr} {pos p : Pos} {t : XA}
end
end DX
set_option Elab.async false
set_option linter.all false
set_option maxRecDepth 100000
namespace DL
open PySem L2
section
variable {K : PySem.W.Frag} {c : En} {F H : Hp} {σ : St} {ρ : Rho} {i : Nat} {o : OO} {a : Addr}
end
section
variable {X : Cx} {tg : Expr} {pos : Pos}
end
end DL
namespace DX
open PySem L2 DL
section
variable {X : Cx} {tg : Expr} {pos : Pos} {x : XS}
end
end DX
set_option Elab.async false
set_option linter.all false
set_option maxRecDepth 100000
namespace DL
open PySem L2
section
variable {X : Cx} {elt tg iter : Expr} {ifs : List Expr} {scope : Scope} {own : List (Str × Nat)} {pos : Pos} {i : GA} {g : GG} {T : DL.GT} {Ge : GE} {sl : List Nat}
end
end DL
namespace DX
open PySem PyProof.Rows L2 DL
section
variable {X : Cx} {elt tg iter : Expr} {ifs : List Expr} {scope : Scope} {own : List (Str × Nat)} {pos : Pos} {i : XA} {g : XG} {T : XT} {xe : XE} {sl : List Nat}
end
end DX
set_option Elab.async false
set_option linter.all false
set_option maxRecDepth 100000
namespace DL
open PySem PyProof.Rows L2
section
variable {P : Program} {w : World} {K : PySem.W.Frag} {mg : Str → Option Value} {base : Heap}
end
section
variable {cb : Bool} {P : Program} {w : World} {K : PySem.W.Frag} {mg : Str → Option Value} {base : Heap} {x : Str} {st : Stmt} {ps N : List Str} {k : Nat}
end
section
variable {X : Cx} {a e : Expr} {Ga : GE} {pos : Pos}
end
end DL
namespace DX
open PySem PyProof.Rows L2 DL
section
variable {cb : Bool} {P : Program} {w : World} {K : PySem.W.Frag} {mg : Str → Option Value} {base : Heap} {x : Str} {st : Stmt} {ps N : List Str} {k : Nat}
end
section
variable {X : Cx} {a e : Expr} {xa : XE} {pos p py : Pos} {x y : Str} {ps : List Str} {k k' i : Nat}
end
end DX
set_option Elab.async false
set_option linter.all false
set_option maxRecDepth 100000
namespace PF
open PySem L2 DL DX
end PF
set_option Elab.async false
set_option linter.all false
set_option maxRecDepth 100000
namespace PF
open PySem L2 DL DX
end PF
set_option Elab.async false
set_option linter.all false
set_option maxRecDepth 100000
namespace PF
open PySem L2 DL DX
end PF
set_option Elab.async false
set_option linter.all false
set_option maxRecDepth 100000
namespace PF
open PySem L2 DL DX
end PF
set_option Elab.async false
set_option linter.all false
set_option maxRecDepth 100000
set_option maxHeartbeats 1000000
namespace PF
open PySem L2 DL DX
def at29 (kvs : List (Key × PyData)) (k : Int) : Option PyData := getP (kvD kvs) (.inl k)
theorem at29_nil (k : Int) : at29 [] k = none := rfl
theorem at29_cons (a : Key) (d : PyData) (kvs : List (Key × PyData)) (k : Int) : at29 ((a, d) :: kvs) k = if a = .inl k then some d else at29 kvs k := by
  unfold at29 getP kvD
  rw [List.map_cons, List.find?_cons]
  have e : keyD (keyP a) = some a := keyD_keyP a
  by_cases z : a = .inl k
  · subst z
    simp only [e, decide_true, if_pos, Option.map_some]
  · have h : decide (keyD (keyP a) = some (Sum.inl k : Key)) = false := decide_eq_false (fun y => z (by rw [e] at y; exact Option.some.inj y))
    simp only [h, if_neg z]
theorem at29_app (k : Int) (d : PyData) (a : Key) : ∀ kvs : List (Key × PyData), at29 (kvs ++ [(a, d)]) k = (match at29 kvs k with | some e => some e | none => if a = .inl k then some d else none)
  | [] => by rw [List.nil_append, at29_cons, at29_nil]
  | (b, e) :: kvs => by
    rw [List.cons_append, at29_cons, at29_cons, at29_app k d a kvs]
    split <;> rfl
theorem at29_has (k : Int) : ∀ kvs : List (Key × PyData), hasK kvs (.inl k) = (at29 kvs k).isSome
  | [] => rfl
  | (b, e) :: kvs => by
    have ih := at29_has k kvs
    unfold hasK at ih ⊢
    rw [List.any_cons, ih, at29_cons]
    by_cases z : b = .inl k
    · simp [z]
    · simp [z]
theorem setK_le (kvs : List (Key × PyData)) (k : Key) (d : PyData) : (setK kvs k d).length ≤ kvs.length + 1 := by
  unfold setK
  split <;> simp
structure E5 where
  m : Int
  t : Int
  a : Int
  b : Int
  i : Int
def E5.d (e : E5) : PyData := .tuple [.int e.m, .int e.t, .int e.a, .int e.b, .int e.i]
def mx (a b : Int) : Int := if a < b then b else a
def E5.made (w : Int) (l r : E5) : E5 := ⟨l.m + 1 + r.m, l.t + w + r.t, mx l.a (l.t + w + r.a), mx r.b (l.b + w + r.t), max3 l.i r.i (l.b + w + r.a)⟩
theorem made_eq (w : Int) (l r : E5) : F_entry_made [.int w, l.d, r.d] = .ok (.sh (E5.made w l r).d) () := by
  rw [F_entry_made_eq]
  simp (disch := first | assumption | omega) [U_entry_made, E5.d, E5.made, mx, gr_ok, gd_ok]
def ent : T → E5
  | .nil => ⟨0, 0, 0, 0, 0⟩
  | .node l c r => E5.made c.w (ent l) (ent r)
end PF
set_option Elab.async false
set_option linter.all false
set_option maxRecDepth 100000
set_option maxHeartbeats 1000000
namespace PF
open PySem L2 DL DX
section
variable {N : Card}
end
end PF
set_option Elab.async false
set_option linter.all false
set_option maxRecDepth 100000
set_option maxHeartbeats 1000000
namespace PF
open PySem L2 DL DX
theorem part_len {key : Int} : ∀ t : T, (t.part key).cards.length ≤ t.cards.length
  | .nil => Nat.le_refl _
  | .node l c r => by
    have h1 := part_len (key := key) l
    have h2 := part_len (key := key) r
    rw [T.part]
    split
    · exact Nat.le_refl _
    · split <;> simp only [T.cards, List.length_append, List.length_cons] <;> omega
section
variable {N : Card}
theorem leaf_len : ∀ t : T, (t.leafN N).cards.length = t.cards.length + 1
  | .nil => rfl
  | .node l c r => by
    rw [T.leafN]
    split
    · simp [T.cards, leaf_len l]; omega
    · simp [T.cards, leaf_len r]; omega
end
end PF
set_option Elab.async false
set_option linter.all false
set_option maxRecDepth 100000
namespace PF
open PySem L2 DL DX
end PF
set_option Elab.async false
set_option linter.all false
set_option maxRecDepth 100000
namespace PF
open PySem L2 DL DX
end PF
set_option Elab.async false
set_option linter.all false
set_option maxRecDepth 100000
namespace PF
open PySem L2 DL DX
end PF
set_option Elab.async false
set_option linter.all false
set_option maxRecDepth 100000
namespace PF
open PySem L2 DL DX
end PF
set_option Elab.async false
set_option linter.all false
set_option maxRecDepth 100000
namespace PF
open PySem L2 DL DX
end PF
set_option Elab.async false
set_option linter.all false
set_option maxRecDepth 100000
namespace PF
open PySem L2 DL DX
end PF
set_option Elab.async false
set_option linter.all false
set_option maxRecDepth 100000
namespace PF
open PySem L2 DL DX
end PF
set_option Elab.async false
set_option linter.all false
set_option maxRecDepth 100000
namespace PF
open PySem L2 DL DX
end PF
set_option Elab.async false
set_option linter.all false
set_option maxRecDepth 100000
namespace PF
open PySem L2 DL DX
end PF
set_option Elab.async false
set_option linter.all false
set_option maxRecDepth 100000
set_option maxHeartbeats 1000000
namespace PF
open PySem L2 DL DX
structure Put (N : Card) (u : T) : Prop where
  len : u.cards.length ≤ 63
  rise : Rise u.cards
  out : Out N u
  heap : u.Heap
section
variable {N : Card} {u : T}
theorem Put.hi (p : Put N u) {m : Nat} (hm : m ≤ u.n N.k) : (u.up N m).hi ≤ 64 := by
  have h := T.hi_len (u.up N m)
  have l := p.len
  rw [up_cards p.out m hm, leaf_len] at h
  omega
theorem Put.rs (p : Put N u) {m : Nat} (hm : m ≤ u.n N.k) : Rise (u.up N m).cards := by rw [up_cards p.out m hm]; exact leaf_rise u p.rise p.out
def dns (N : Card) (u : T) (s : Nat) : Nat → List Int
  | 0 => []
  | m + 1 => if s ≤ m then u.nb N.k (m + 1) :: dns N u s m else []
def way (N : Card) (u : T) (m s : Nat) : List Int := List.replicate (s - m) N.k ++ dns N u s m
end
end PF
set_option Elab.async false
set_option linter.all false
set_option maxRecDepth 100000
namespace PF
open PySem L2 DL DX
end PF
set_option Elab.async false
set_option linter.all false
set_option maxRecDepth 100000
namespace PF
open PySem L2 DL DX
end PF
set_option Elab.async false
set_option linter.all false
set_option maxRecDepth 100000
namespace PF
open PySem L2 DL DX
end PF
set_option Elab.async false
set_option linter.all false
set_option maxRecDepth 100000
namespace PF
open PySem L2 DL DX
end PF
set_option Elab.async false
set_option linter.all false
set_option maxRecDepth 100000
namespace PF
open PySem L2 DL DX
end PF
set_option Elab.async false
set_option linter.all false
set_option maxRecDepth 100000
namespace PF
open PySem L2 DL DX
def U_law_inside (self : Fn) : XS :=
  (xSeq (xIf (xB (xBin (vEq false) (xVar 0) (xTup xNil))) (xRet (xLst xNil)) xNext)
    (xRet (xBin vAdd (xBin vAdd (xCall self (xCons (xIxU 0 (xC (.int 0))) xNil)) (xLst (xCons (xIxU 0 (xC (.int 1))) xNil))) (xCall self (xCons (xIxU 0 (xC (.int 2))) xNil)))))
def F_law_inside : Nat → Fn
  | 0 => fun _ => .bad
  | n + 1 => runD 1 1 (U_law_inside (F_law_inside n))
theorem F_law_inside_eq (n : Nat) (a0 : PyData) : (F_law_inside (n + 1)) [a0] = ((U_law_inside (F_law_inside n)) [some (.sh a0)]).fin := runD_eq (m := 1) (n := 1) (U_law_inside (F_law_inside n)) [a0] _ rfl rfl
end PF
set_option Elab.async false
set_option linter.all false
set_option maxRecDepth 100000
namespace PF
open PySem L2 DL DX
def U_law_parts (self : Fn) : XS :=
  (xSeq (xIf (xB (xBin (vEq false) (xVar 0) (xTup xNil))) (xRet (xLst xNil)) xNext)
    (xRet (xBin vAdd (xBin vAdd (xCall self (xCons (xIxU 0 (xC (.int 0))) xNil)) (xLst (xCons (xVar 0) xNil))) (xCall self (xCons (xIxU 0 (xC (.int 2))) xNil)))))
def F_law_parts : Nat → Fn
  | 0 => fun _ => .bad
  | n + 1 => runD 1 1 (U_law_parts (F_law_parts n))
theorem F_law_parts_eq (n : Nat) (a0 : PyData) : (F_law_parts (n + 1)) [a0] = ((U_law_parts (F_law_parts n)) [some (.sh a0)]).fin := runD_eq (m := 1) (n := 1) (U_law_parts (F_law_parts n)) [a0] _ rfl rfl
end PF
set_option Elab.async false
set_option linter.all false
set_option maxRecDepth 100000
namespace PF
open PySem L2 DL DX
end PF
set_option Elab.async false
set_option linter.all false
set_option maxRecDepth 100000
namespace PF
open PySem L2 DL DX
end PF
set_option Elab.async false
set_option linter.all false
set_option maxRecDepth 100000
namespace PF
open PySem L2 DL DX
end PF
set_option Elab.async false
set_option linter.all false
set_option maxRecDepth 100000
set_option maxHeartbeats 1000000
namespace PF
open PySem L2 DL DX
section
variable {N : Card} {u : T}
end
end PF
set_option Elab.async false
set_option linter.all false
set_option maxRecDepth 100000
set_option maxHeartbeats 1000000
namespace PF
open PySem L2 DL DX
section
variable {N : Card} {u : T}
def SD (N : Card) (t : T) (row : List Int) (s4 s5 : Option R) : Rho := [some (.sh t.d), some (.sh (.int N.k)), some (.sh (.int N.r)), some (.own (.lst (row.map .int))), s4, s5]
end
theorem inside_eq : ∀ (n : Nat) (t : T), t.hi < n → t.cards.length ≤ 1000 → F_law_inside n [t.d] = .ok (.own (.lst (t.cards.map Card.d))) ()
  | 0, _, h, _ => by omega
  | n + 1, .nil, h, hl => by
    rw [F_law_inside_eq]
    have e := vEq_nil
    simp only [T.d] at e
    simp [U_law_inside, T.d, e, T.cards, gr_ok]
  | n + 1, .node l c r, h, hl => by
    rw [F_law_inside_eq]
    simp only [T.hi] at h
    simp only [T.cards, List.length_append, List.length_cons] at hl
    have i1 := inside_eq n l (by omega) (by omega)
    have i2 := inside_eq n r (by omega) (by omega)
    have e := vEq_node l c r
    simp only [T.d] at e
    simp (disch := first | assumption | omega | (simp only [List.length_append, List.length_map, List.length_cons, List.length_nil]; omega)) [U_law_inside, T.d, e, T.cards, gr_ok, gd_ok, i1, i2]
def T.prts : T → List T
  | .nil => []
  | .node l c r => l.prts ++ .node l c r :: r.prts
theorem prts_len : ∀ t : T, t.prts.length = t.cards.length
  | .nil => rfl
  | .node l c r => by simp only [T.prts, T.cards, List.length_append, List.length_cons, prts_len l, prts_len r]
theorem lparts_eq : ∀ (n : Nat) (t : T), t.hi < n → t.cards.length ≤ 1000 → F_law_parts n [t.d] = .ok (.own (.lst (t.prts.map T.d))) ()
  | 0, _, h, _ => by omega
  | n + 1, .nil, h, hl => by
    rw [F_law_parts_eq]
    have e := vEq_nil
    simp only [T.d] at e
    simp [U_law_parts, T.d, e, T.prts, gr_ok]
  | n + 1, .node l c r, h, hl => by
    rw [F_law_parts_eq]
    simp only [T.hi] at h
    simp only [T.cards, List.length_append, List.length_cons] at hl
    have i1 := lparts_eq n l (by omega) (by omega)
    have i2 := lparts_eq n r (by omega) (by omega)
    have p1 := prts_len l
    have p2 := prts_len r
    have e := vEq_node l c r
    simp only [T.d] at e
    simp (disch := first | assumption | omega | (simp only [List.length_append, List.length_map, List.length_cons, List.length_nil]; omega)) [U_law_parts, T.d, e, T.prts, gr_ok, gd_ok, i1, i2]
end PF
set_option Elab.async false
set_option linter.all false
set_option maxRecDepth 100000
namespace PF
open PySem L2 DL DX
end PF
set_option Elab.async false
set_option linter.all false
set_option maxRecDepth 100000
namespace PF
open PySem L2 DL DX
end PF
set_option Elab.async false
set_option linter.all false
set_option maxRecDepth 100000
namespace PF
open PySem L2 DL DX
end PF
set_option Elab.async false
set_option linter.all false
set_option maxRecDepth 100000
set_option maxHeartbeats 1000000
namespace PF
open PySem L2 DL DX
def best : List Int → Int
  | [] => 0
  | w :: ws => mx 0 (w + best ws)
theorem best_ge : ∀ ws : List Int, 0 ≤ best ws
  | [] => Int.le_refl 0
  | w :: ws => by unfold best mx; split <;> omega
theorem best_app : ∀ (xs ys : List Int), best (xs ++ ys) = mx (best xs) (xs.sum + best ys)
  | [], ys => by
    have := best_ge ys
    rw [List.nil_append, List.sum_nil, best, Int.zero_add]
    unfold mx
    by_cases z : 0 < best ys
    · rw [if_pos z]
    · rw [if_neg z]; omega
  | x :: xs, ys => by
    rw [List.cons_append, best, best_app xs ys, best, List.sum_cons]
    unfold mx
    split <;> split <;> (try split) <;> omega
def T.ws (t : T) : List Int := t.cards.map Card.w
theorem T.ws_node (l : T) (c : Card) (r : T) : (T.node l c r).ws = l.ws ++ c.w :: r.ws := by simp [T.ws, T.cards]
theorem ent_t : ∀ t : T, (ent t).t = t.ws.sum
  | .nil => rfl
  | .node l c r => by
    rw [T.ws_node, List.sum_append, List.sum_cons, ← ent_t l, ← ent_t r]
    show (ent l).t + c.w + (ent r).t = _
    omega
theorem ent_a : ∀ t : T, (ent t).a = best t.ws
  | .nil => rfl
  | .node l c r => by
    rw [T.ws_node, best_app, best]
    show mx (ent l).a ((ent l).t + c.w + (ent r).a) = _
    rw [ent_a l, ent_t l, ent_a r]
    have h1 : l.ws.sum ≤ best l.ws := by
      have := best_app l.ws []
      rw [List.append_nil] at this
      rw [best, Int.add_zero] at this
      unfold mx at this
      by_cases z : best l.ws < l.ws.sum
      · rw [if_pos z] at this; omega
      · omega
    unfold mx
    split <;> split <;> (try split) <;> omega
end PF
set_option Elab.async false
set_option linter.all false
set_option maxRecDepth 100000
namespace PF
open PySem L2 DL DX
def U_law_entry_1 : XS :=
  (xSeq (xAsg (xBin vAdd (xVar 5) (xVar 6)) (xN 5))
    (xAsg (xBlt vMax2 (xCons (xVar 3) (xCons (xVar 5) xNil))) (xN 3)))
def U_law_entry_2 : XS :=
  (xSeq (xAsg (xC (.int 0)) (xN 5))
    (xFor (xiSeq (xSl (xVar 0) (xoS (xVar 4)) xoN)) (xN 6) U_law_entry_1))
def U_law_entry_3 : XE :=
  (xBlt vSum (xCons (xSl (xVar 0) (xoS (xVar 4)) xoN) xNil))
def U_law_entry_4 : XE :=
  (xBlt vSum (xCons (xSl (xVar 0) xoN (xoS (xVar 4))) xNil))
def U_law_entry : XS :=
  (xSeq (xAsg (xLc (xiOf rng1 (xCons (xBin vAdd (xLenU 0) (xC (.int 1))) xNil)) [4] (xN 4) xYes U_law_entry_4) (xN 1))
    (xSeq (xAsg (xLc (xiOf rng1 (xCons (xBin vAdd (xLenU 0) (xC (.int 1))) xNil)) [4] (xN 4) xYes U_law_entry_3) (xN 2))
    (xSeq (xAsg (xC (.int 0)) (xN 3))
    (xSeq (xFor (xiOf rng1 (xCons (xLenU 0) xNil)) (xN 4) U_law_entry_2)
    (xRet (xTup (xCons (xLenU 0) (xCons (xBlt vSum (xCons (xVar 0) xNil)) (xCons (xBlt vMaxA (xCons (xVar 1) xNil)) (xCons (xBlt vMaxA (xCons (xVar 2) xNil)) (xCons (xVar 3) xNil)))))))))))
def F_law_entry : Fn := runD 1 7 U_law_entry
theorem F_law_entry_eq (a0 : PyData) : F_law_entry [a0] = (U_law_entry [some (.sh a0), none, none, none, none, none, none]).fin := runD_eq (m := 1) (n := 7) U_law_entry [a0] _ rfl rfl
end PF
set_option Elab.async false
set_option linter.all false
set_option maxRecDepth 100000
set_option maxHeartbeats 1000000
namespace PF
open PySem L2 DL DX
def sfx : List Int → Int
  | [] => 0
  | x :: xs => mx (x + xs.sum) (sfx xs)
def wi : List Int → Int
  | [] => 0
  | x :: xs => mx (best (x :: xs)) (wi xs)
theorem mx_l (a b : Int) : a ≤ mx a b := by unfold mx; split <;> omega
theorem mx_r (a b : Int) : b ≤ mx a b := by unfold mx; split <;> omega
theorem mx_le {a b c : Int} (h : a ≤ c) (k : b ≤ c) : mx a b ≤ c := by unfold mx; split <;> omega
theorem mx_is (a b : Int) : mx a b = a ∨ mx a b = b := by unfold mx; split <;> simp
theorem sfx_ge : ∀ ws : List Int, 0 ≤ sfx ws
  | [] => Int.le_refl 0
  | w :: ws => by have := sfx_ge ws; have := mx_r (w + ws.sum) (sfx ws); unfold sfx; omega
theorem sum_sfx : ∀ ws : List Int, ws.sum ≤ sfx ws
  | [] => Int.le_refl 0
  | w :: ws => by rw [List.sum_cons]; exact mx_l _ _
theorem wi_ge : ∀ ws : List Int, 0 ≤ wi ws
  | [] => Int.le_refl 0
  | w :: ws => by have := wi_ge ws; have := mx_r (best (w :: ws)) (wi ws); unfold wi; omega
theorem best_wi : ∀ ws : List Int, best ws ≤ wi ws
  | [] => Int.le_refl 0
  | w :: ws => mx_l _ _
theorem sfx_app : ∀ xs zs : List Int, sfx (xs ++ zs) = mx (sfx zs) (sfx xs + zs.sum)
  | [], zs => by
    have := sum_sfx zs
    rw [List.nil_append, sfx, Int.zero_add]
    unfold mx
    rw [if_neg (by omega)]
  | x :: xs, zs => by
    rw [List.cons_append, sfx, sfx_app xs zs, sfx, List.sum_append]
    unfold mx
    split <;> split <;> (try split) <;> (try split) <;> omega
theorem wi_app : ∀ xs zs : List Int, wi (xs ++ zs) = mx (mx (wi xs) (wi zs)) (sfx xs + best zs)
  | [], zs => by
    have := best_wi zs
    have := wi_ge zs
    rw [List.nil_append, sfx, wi, Int.zero_add]
    unfold mx
    split <;> split <;> omega
  | x :: xs, zs => by
    have h : best (x :: (xs ++ zs)) = mx (best (x :: xs)) ((x :: xs).sum + best zs) := best_app (x :: xs) zs
    rw [List.cons_append, wi, h, wi_app xs zs, wi, sfx, List.sum_cons]
    generalize best (x :: xs) = A
    generalize best zs = B
    generalize wi xs = C
    generalize wi zs = D
    generalize sfx xs = E
    generalize xs.sum = S
    have e1 := mx_l A (x + S + B); have e2 := mx_r A (x + S + B)
    have e3 := mx_l C D; have e4 := mx_r C D
    have e5 := mx_l (mx C D) (E + B); have e6 := mx_r (mx C D) (E + B)
    have e7 := mx_l A C; have e8 := mx_r A C
    have e9 := mx_l (mx A C) D; have e10 := mx_r (mx A C) D
    have e11 := mx_l (x + S) E; have e12 := mx_r (x + S) E
    refine Int.le_antisymm (mx_le (mx_le ?_ ?_) (mx_le (mx_le ?_ ?_) ?_)) (mx_le (mx_le (mx_le ?_ ?_) ?_) ?_)
    · exact Int.le_trans e7 (Int.le_trans e9 (mx_l _ _))
    · exact Int.le_trans (by omega) (mx_r _ _)
    · exact Int.le_trans e8 (Int.le_trans e9 (mx_l _ _))
    · exact Int.le_trans e10 (mx_l _ _)
    · exact Int.le_trans (by omega) (mx_r _ _)
    · exact Int.le_trans e1 (mx_l _ _)
    · exact Int.le_trans e3 (Int.le_trans e5 (mx_r _ _))
    · exact Int.le_trans e4 (Int.le_trans e5 (mx_r _ _))
    · rcases mx_is (x + S) E with z | z
      · rw [z]; exact Int.le_trans e2 (mx_l _ _)
      · rw [z]; exact Int.le_trans e6 (mx_r _ _)
theorem max3_eq (a b c : Int) : max3 a b c = mx (mx a b) c := by
  unfold max3 mx
  split <;> split <;> (try split) <;> omega
theorem ent_m : ∀ t : T, (ent t).m = t.ws.length
  | .nil => rfl
  | .node l c r => by
    rw [T.ws_node, List.length_append, List.length_cons]
    show (ent l).m + 1 + (ent r).m = _
    rw [ent_m l, ent_m r]
    omega
theorem ent_b : ∀ t : T, (ent t).b = sfx t.ws
  | .nil => rfl
  | .node l c r => by
    rw [T.ws_node, sfx_app, sfx, List.sum_cons]
    show mx (ent r).b ((ent l).b + c.w + (ent r).t) = _
    rw [ent_b r, ent_b l, ent_t r]
    have h1 := sfx_ge l.ws
    generalize sfx r.ws = A
    generalize sfx l.ws = B at *
    unfold mx
    split <;> split <;> (try split) <;> omega
theorem ent_i : ∀ t : T, (ent t).i = wi t.ws
  | .nil => rfl
  | .node l c r => by
    rw [T.ws_node, wi_app, wi, best]
    show max3 (ent l).i (ent r).i ((ent l).b + c.w + (ent r).a) = _
    rw [max3_eq, ent_i l, ent_i r, ent_b l, ent_a r]
    have h1 := sfx_ge l.ws
    have h2 := wi_ge r.ws
    have h3 : sfx l.ws ≤ wi l.ws := by
      have := wi_app l.ws []
      rw [List.append_nil, best, wi, Int.add_zero] at this
      rw [this]
      exact mx_r _ _
    generalize sfx l.ws = B at *
    generalize wi l.ws = C at *
    generalize wi r.ws = D at *
    generalize best r.ws = E at *
    have e1 := mx_l C D; have e2 := mx_r C D
    refine Int.le_antisymm (mx_le (mx_le ?_ ?_) ?_) (mx_le (mx_le ?_ (mx_le (mx_le ?_ ?_) ?_)) ?_)
    · exact Int.le_trans (mx_l _ _) (mx_l _ _)
    · exact Int.le_trans (mx_r _ _) (Int.le_trans (mx_r _ _) (mx_l _ _))
    · have := mx_r 0 (c.w + E)
      exact Int.le_trans (by omega) (mx_r _ _)
    · exact Int.le_trans e1 (mx_l _ _)
    · exact Int.le_trans (by omega) (Int.le_trans e2 (mx_l _ _))
    · exact Int.le_trans (by omega) (mx_r _ _)
    · exact Int.le_trans e2 (mx_l _ _)
    · rcases mx_is 0 (c.w + E) with z | z <;> rw [z]
      · exact Int.le_trans (by omega) (mx_l _ _)
      · exact Int.le_trans (by omega) (mx_r _ _)
end PF
set_option Elab.async false
set_option linter.all false
set_option maxRecDepth 100000
set_option maxHeartbeats 1000000
namespace PF
open PySem L2 DL DX
theorem pre_best : ∀ ws : List Int, (∃ k : Nat, k ≤ ws.length ∧ (ws.take k).sum = best ws) ∧ ∀ k : Nat, (ws.take k).sum ≤ best ws
  | [] => ⟨⟨0, Nat.le_refl _, rfl⟩, fun k => by simp [best]⟩
  | w :: ws => by
    obtain ⟨⟨k, h1, h2⟩, h3⟩ := pre_best ws
    refine ⟨?_, fun j => ?_⟩
    · rcases mx_is 0 (w + best ws) with z | z
      · exact ⟨0, Nat.zero_le _, by rw [best, z]; rfl⟩
      · exact ⟨k + 1, by rw [List.length_cons]; omega, by rw [best, z, List.take_succ_cons, List.sum_cons, h2]⟩
    · cases j with
      | zero => rw [best]; exact mx_l _ _
      | succ j =>
        rw [List.take_succ_cons, List.sum_cons, best]
        exact Int.le_trans (by have := h3 j; omega) (mx_r _ _)
theorem suf_sfx : ∀ ws : List Int, (∃ k : Nat, k ≤ ws.length ∧ (ws.drop k).sum = sfx ws) ∧ ∀ k : Nat, (ws.drop k).sum ≤ sfx ws
  | [] => ⟨⟨0, Nat.le_refl _, rfl⟩, fun k => by simp [sfx]⟩
  | w :: ws => by
    obtain ⟨⟨k, h1, h2⟩, h3⟩ := suf_sfx ws
    refine ⟨?_, fun j => ?_⟩
    · rcases mx_is (w + ws.sum) (sfx ws) with z | z
      · exact ⟨0, Nat.zero_le _, by rw [sfx, z]; rfl⟩
      · exact ⟨k + 1, by rw [List.length_cons]; omega, by rw [sfx, z, List.drop_succ_cons, h2]⟩
    · cases j with
      | zero => rw [sfx]; exact mx_l _ _
      | succ j =>
        rw [List.drop_succ_cons, sfx]
        exact Int.le_trans (h3 j) (mx_r _ _)
theorem max_pre (ws : List Int) : maxOf ((List.range (ws.length + 1)).map fun k => (ws.take k).sum) = best ws := by
  obtain ⟨⟨k, h1, h2⟩, h3⟩ := pre_best ws
  refine maxOf_eq (List.mem_map.mpr ⟨k, List.mem_range.mpr (by omega), h2⟩) fun y hy => ?_
  obtain ⟨j, _, rfl⟩ := List.mem_map.mp hy
  exact h3 j
theorem max_suf (ws : List Int) : maxOf ((List.range (ws.length + 1)).map fun k => (ws.drop k).sum) = sfx ws := by
  obtain ⟨⟨k, h1, h2⟩, h3⟩ := suf_sfx ws
  refine maxOf_eq (List.mem_map.mpr ⟨k, List.mem_range.mpr (by omega), h2⟩) fun y hy => ?_
  obtain ⟨j, _, rfl⟩ := List.mem_map.mp hy
  exact h3 j
theorem cutI_to {ws : List Int} {k : Nat} (h : k ≤ ws.length) : cutD (ws.map PyData.int) none (some (k : Int)) = (ws.take k).map .int := by
  rw [cutD_to (by omega) (by rw [List.length_map]; omega), List.map_take]
  rfl
theorem cutI_from {ws : List Int} {k : Nat} (h : k ≤ ws.length) : cutD (ws.map PyData.int) (some (k : Int)) none = (ws.drop k).map .int := by
  rw [cutD_from (by omega) (by rw [List.length_map]; omega), List.map_drop]
  rfl
theorem begin27 {a0 s1 s2 s4 : Option R} : ∀ (ws : List Int) (tot b : Int) (s6 : Option R), NIo s6 → tot ≤ b → ∃ s6', NIo s6' ∧ forX (xN 6) U_law_entry_1 (ws.map .int) [a0, s1, s2, some (.sh (.int b)), s4, some (.sh (.int tot)), s6] = .nx [a0, s1, s2, some (.sh (.int (mx b (tot + best ws)))), s4, some (.sh (.int (tot + ws.sum))), s6']
  | [], tot, b, s6, n6, h => by
    refine ⟨s6, n6, ?_⟩
    have e : mx b (tot + best []) = b := by
      unfold best mx
      rw [Int.add_zero, if_neg (by omega)]
    rw [e, List.sum_nil, Int.add_zero]
    rfl
  | w :: ws, tot, b, s6, n6, h => by
    obtain ⟨s6', n6', e⟩ := begin27 (a0 := a0) (s1 := s1) (s2 := s2) (s4 := s4) ws (tot + w) (mx b (tot + w)) (some (.sh (.int w))) (.sh _) (by unfold mx; split <;> omega)
    refine ⟨s6', n6', ?_⟩
    have tg : xN 6 (.sh (.int w)) [a0, s1, s2, some (.sh (.int b)), s4, some (.sh (.int tot)), s6] = some [a0, s1, s2, some (.sh (.int b)), s4, some (.sh (.int tot)), some (.sh (.int w))] := by simp [n6 _]
    have bd : U_law_entry_1 [a0, s1, s2, some (.sh (.int b)), s4, some (.sh (.int tot)), some (.sh (.int w))] = .nx [a0, s1, s2, some (.sh (.int (mx b (tot + w)))), s4, some (.sh (.int (tot + w))), some (.sh (.int w))] := by
      simp (disch := first | assumption | omega) [U_law_entry_1, mx, gr_ok, gd_ok]
    rw [List.map_cons, forX_cons, tg, opX_some, bd]
    refine e.trans ?_
    have hb := best_ge ws
    have e1 : tot + w + ws.sum = tot + (w :: ws).sum := by rw [List.sum_cons]; omega
    have e2 : mx (mx b (tot + w)) (tot + w + best ws) = mx b (tot + best (w :: ws)) := by
      rw [best]
      unfold mx
      split <;> split <;> (try split) <;> (try split) <;> omega
    rw [e1, e2]
theorem outer27 {ws : List Int} {s1 s2 : Option R} : ∀ (m i : Nat) (b : Int) (s4 s5 s6 : Option R), NIo s4 → NIo s5 → NIo s6 → 0 ≤ b → i + m = ws.length → ∃ s4' s5' s6', forX (xN 4) U_law_entry_2 ((List.range' i m).map fun (i : Nat) => PyData.int i) [some (.sh (.list (ws.map .int))), s1, s2, some (.sh (.int b)), s4, s5, s6] =
    .nx [some (.sh (.list (ws.map .int))), s1, s2, some (.sh (.int (mx b (wi (ws.drop i))))), s4', s5', s6']
  | 0, i, b, s4, s5, s6, _, _, _, h0, h => by
    refine ⟨s4, s5, s6, ?_⟩
    rw [List.drop_eq_nil_of_le (by omega)]
    have e : mx b (wi []) = b := by unfold wi mx; rw [if_neg (by omega)]
    rw [e]
    rfl
  | m + 1, i, b, s4, s5, s6, n4, n5, n6, h0, h => by
    have hi : i < ws.length := by omega
    rw [List.range'_succ, List.map_cons, forX_cons]
    obtain ⟨s6', n6', e⟩ := begin27 (a0 := some (.sh (.list (ws.map .int)))) (s1 := s1) (s2 := s2) (s4 := some (.sh (.int i))) (ws.drop i) 0 b s6 n6 h0
    obtain ⟨s4'', s5'', s6'', e2⟩ := outer27 (ws := ws) (s1 := s1) (s2 := s2) m (i + 1) (mx b (0 + best (ws.drop i))) (some (.sh (.int i))) (some (.sh (.int (0 + (ws.drop i).sum)))) s6' (.sh _) (.sh _) n6' (Int.le_trans h0 (mx_l _ _)) (by omega)
    refine ⟨s4'', s5'', s6'', ?_⟩
    have tg : xN 4 (.sh (.int (i : Int))) [some (.sh (.list (ws.map .int))), s1, s2, some (.sh (.int b)), s4, s5, s6] = some [some (.sh (.list (ws.map .int))), s1, s2, some (.sh (.int b)), some (.sh (.int i)), s5, s6] := by simp [n4 _]
    have ct := cutI_from (ws := ws) (k := i) (by omega)
    have bd : U_law_entry_2 [some (.sh (.list (ws.map .int))), s1, s2, some (.sh (.int b)), some (.sh (.int i)), s5, s6] = .nx [some (.sh (.list (ws.map .int))), s1, s2, some (.sh (.int (mx b (0 + best (ws.drop i))))), some (.sh (.int i)), some (.sh (.int (0 + (ws.drop i).sum))), s6'] := by
      generalize ws.map PyData.int = WD at *
      generalize (ws.drop i).map PyData.int = DD at *
      simp (disch := first | assumption | omega) [U_law_entry_2, ct, n5 _, e, gr_ok, gd_ok]
    rw [tg, opX_some, bd]
    refine e2.trans ?_
    have hd : ws.drop i = ws[i] :: ws.drop (i + 1) := List.drop_eq_getElem_cons hi
    have ea : mx (mx b (0 + best (ws.drop i))) (wi (ws.drop (i + 1))) = mx b (wi (ws.drop i)) := by
      rw [hd, wi, Int.zero_add]
      generalize best (ws[i] :: ws.drop (i + 1)) = A
      generalize wi (ws.drop (i + 1)) = B
      unfold mx
      split <;> split <;> (try split) <;> (try split) <;> omega
    rw [ea]
def entL (ws : List Int) : E5 := ⟨ws.length, ws.sum, best ws, sfx ws, wi ws⟩
theorem ent_eq (t : T) : ent t = entL t.ws := by
  have h1 := ent_m t
  have h2 := ent_t t
  have h3 := ent_a t
  have h4 := ent_b t
  have h5 := ent_i t
  unfold entL
  cases h : ent t
  rw [h] at h1 h2 h3 h4 h5
  simp only at h1 h2 h3 h4 h5
  rw [h1, h2, h3, h4, h5]
theorem lawentry_eq {ws : List Int} (hl : ws.length ≤ 1000) : F_law_entry [.list (ws.map .int)] = .ok (.sh (entL ws).d) () := by
  rw [F_law_entry_eq]
  obtain ⟨s4', s5', s6', e⟩ := outer27 (ws := ws) (s1 := some (.own (.lst ((List.range (ws.length + 1)).map fun k => PyData.int (ws.take k).sum)))) (s2 := some (.own (.lst ((List.range (ws.length + 1)).map fun k => PyData.int (ws.drop k).sum)))) ws.length 0 0 none none none .none .none .none (Int.le_refl 0) (by omega)
  rw [← List.range_eq_range', ← rangeD_map0, List.drop_zero] at e
  have e0 : mx 0 (wi ws) = wi ws := by have := wi_ge ws; unfold mx; split <;> omega
  rw [e0] at e
  have lc1 := lcX_all (vs := [4]) (g := xN 4) (T := xYes) (e := U_law_entry_4) (enc := fun (i : Nat) => PyData.int i) (f := fun (k : Nat) => PyData.int (ws.take k).sum) (ρ := [some (.sh (.list (ws.map .int))), none, none, none, none, none, none]) (List.range (ws.length + 1)) [] (fun k hk => by
    have hk := List.mem_range.mp hk
    have ct := cutI_to (ws := ws) (k := k) (by omega)
    have it : intsOf ((ws.map PyData.int).take k) = some (ws.take k) := by rw [← List.map_take]; exact intsOf_map _
    rw [List.map_take] at ct
    generalize ws.map PyData.int = WD at *
    simp (disch := first | assumption | omega) [turnX, U_law_entry_4, calmX, wipeR, ct, it, gr_ok, gd_ok]) (by simp; omega)
  have lc2 := lcX_all (vs := [4]) (g := xN 4) (T := xYes) (e := U_law_entry_3) (enc := fun (i : Nat) => PyData.int i) (f := fun (k : Nat) => PyData.int (ws.drop k).sum) (ρ := [some (.sh (.list (ws.map .int))), some (.own (.lst ((List.range (ws.length + 1)).map fun k => PyData.int (ws.take k).sum))), none, none, none, none, none]) (List.range (ws.length + 1)) [] (fun k hk => by
    have hk := List.mem_range.mp hk
    have ct := cutI_from (ws := ws) (k := k) (by omega)
    have it : intsOf ((ws.map PyData.int).drop k) = some (ws.drop k) := by rw [← List.map_drop]; exact intsOf_map _
    rw [List.map_drop] at ct
    generalize ((List.range (ws.length + 1)).map fun k => PyData.int (ws.take k).sum) = PD
    generalize ws.map PyData.int = WD at *
    simp (disch := first | assumption | omega) [turnX, U_law_entry_3, calmX, wipeR, ct, it, gr_ok, gd_ok]) (by simp; omega)
  rw [← rangeD_map0] at lc1 lc2
  have i1 : intsOf ((List.range (ws.length + 1)).map fun k => PyData.int (ws.take k).sum) = some ((List.range (ws.length + 1)).map fun k => (ws.take k).sum) := by simp
  have i2 : intsOf ((List.range (ws.length + 1)).map fun k => PyData.int (ws.drop k).sum) = some ((List.range (ws.length + 1)).map fun k => (ws.drop k).sum) := by simp
  have i3 : intsOf (ws.map PyData.int) = some ws := by simp
  have m1 := max_pre ws
  have m2 := max_suf ws
  have l1 : 0 < ((List.range (ws.length + 1)).map fun k => (ws.take k).sum).length := by simp
  have l2 : 0 < ((List.range (ws.length + 1)).map fun k => (ws.drop k).sum).length := by simp
  have wl : (ws.map PyData.int).length = ws.length := List.length_map _
  rw [List.nil_append] at lc1 lc2
  generalize ((List.range (ws.length + 1)).map fun k => PyData.int (ws.take k).sum) = PD at *
  generalize ((List.range (ws.length + 1)).map fun k => PyData.int (ws.drop k).sum) = SD at *
  generalize ((List.range (ws.length + 1)).map fun k => (ws.take k).sum) = PI at *
  generalize ((List.range (ws.length + 1)).map fun k => (ws.drop k).sum) = SI at *
  generalize ws.map PyData.int = WD at *
  simp (disch := first | assumption | omega) [U_law_entry, lc1, lc2, e, wl, i1, i2, i3, m1, m2, l1, l2, calmX, wipeR, restR, E5.d, entL, gr_ok, gd_ok]
end PF
set_option Elab.async false
set_option linter.all false
set_option maxRecDepth 100000
namespace PF
open PySem L2 DL DX
def U_law_table_1 : XE :=
  (xIxU 3 (xC (.int 2)))
def U_law_table_2 : XS :=
  (xExp (xPutD 1 (xCall F_law_entry (xCons (xLc (xiSeq (xCall (F_law_inside 70) (xCons (xVar 2) xNil))) [3] (xN 3) xYes U_law_table_1) xNil)) (xBin vIx (xIxU 2 (xC (.int 1))) (xC (.int 0)))))
def U_law_table : XS :=
  (xSeq (xAsg xDict0 (xN 1))
    (xSeq (xFor (xiSeq (xCall (F_law_parts 70) (xCons (xVar 0) xNil))) (xN 2) U_law_table_2)
    (xRet (xVarD 1))))
def F_law_table : Fn := runD 1 4 U_law_table
theorem F_law_table_eq (a0 : PyData) : F_law_table [a0] = (U_law_table [some (.sh a0), none, none, none]).fin := runD_eq (m := 1) (n := 4) U_law_table [a0] _ rfl rfl
end PF
set_option Elab.async false
set_option linter.all false
set_option maxRecDepth 100000
namespace PF
open PySem L2 DL DX
end PF
set_option Elab.async false
set_option linter.all false
set_option maxRecDepth 100000
namespace DL
open PySem PyProof.Rows L2
def eqB : List (PyData × PyData) → List (PyData × PyData) → Bool
  | [], _ => true
  | p :: ps, qs => match keyD p.1 with
    | some k => (match getP qs k with | some e => PyData.eqv p.2 e && eqB ps qs | none => false)
    | none => false
def eqDD (ps qs : List (PyData × PyData)) : Bool := (ps.length == qs.length) && eqB ps qs
section
variable {X : Cx} {pins : List (Addr × Obj)} {σ : L2.St} {H : Hp} {s : Shared}
theorem kfind {kb : List (Key × Value)} : ∀ {us : List (Key × V)} {qs : List (PyData × PyData)}, KV us kb → DpAll X.K H (us.map Prod.snd) (qs.map Prod.snd) → qs.map Prod.fst = (us.map fun p => keyP p.1) → ∀ k : Key, (valueAt kb k = none ∧ getP qs k = none) ∨ ∃ y u e, valueAt kb k = some y ∧ RelV u y ∧ Dp X.K H u e ∧ getP qs k = some e ∧ e ∈ qs.map Prod.snd := by
  induction kb with
  | nil =>
    intro us qs h a hk k
    cases h
    cases qs with
    | nil => exact .inl ⟨rfl, rfl⟩
    | cons q qs => cases hk
  | cons b kb ih =>
    intro us qs h a hk k
    cases h with
    | cons r t =>
      rename_i u us
      cases qs with
      | nil => cases hk
      | cons q qs =>
        obtain ⟨h1, h2⟩ := List.cons.inj hk
        cases a with
        | cons a1 a2 =>
          unfold valueAt getP
          rw [List.find?_cons, List.find?_cons]
          by_cases z : b.1 = k
          · refine .inr ⟨b.2, u.2, q.2, ?_, r.2, a1, ?_, by simp⟩
            · rw [decide_eq_true z]; rfl
            · rw [decide_eq_true (show keyD q.1 = some k by rw [h1, keyD_keyP, r.1, z])]; rfl
          · rw [decide_eq_false z, decide_eq_false (fun y => z (by rw [h1, keyD_keyP, r.1] at y; exact Option.some.inj y))]
            rcases ih t a2 h2 k with ⟨e1, e2⟩ | ⟨y, u, e, e1, e2, e3, e4, e5⟩
            · exact .inl ⟨e1, e2⟩
            · exact .inr ⟨y, u, e, e1, e2, e3, e4, by simp only [List.map_cons, List.mem_cons]; exact .inr e5⟩
theorem dhits (I : Inv X pins σ H s) (hr : X.A.units + 200 < cLine) {kb : List (Key × Value)} {us : List (Key × V)} {qs : List (PyData × PyData)} (hb : KV us kb) (ab : DpAll X.K H (us.map Prod.snd) (qs.map Prod.snd)) (kq : qs.map Prod.fst = (us.map fun p => keyP p.1)) (lq : PyData.canLayAll0 (qs.map Prod.snd) = true) :
    ∀ {ka : List (Key × Value)} {ws : List (Key × V)} {ps : List (PyData × PyData)}, KV ws ka → DpAll X.K H (ws.map Prod.snd) (ps.map Prod.snd) → ps.map Prod.fst = (ws.map fun p => keyP p.1) → PyData.canLayAll0 (ps.map Prod.snd) = true → PyData.depthAll (ps.map Prod.snd) < 190 → PySem.W.KeqHits X.A.in1 s kb ka (eqB ps qs) := by
  intro ka
  induction ka with
  | nil =>
    intro ws ps h a hk _ _
    cases h
    cases ps with
    | nil => exact .nil
    | cons p ps => cases hk
  | cons b ka ih =>
    intro ws ps h a hk lp dp
    cases h with
    | cons r t =>
      rename_i u ws
      cases ps with
      | nil => cases hk
      | cons p ps =>
        obtain ⟨h1, h2⟩ := List.cons.inj hk
        cases a with
        | cons a1 a2 =>
          obtain ⟨k, v⟩ := b
          have ek : keyD p.1 = some k := by rw [h1, keyD_keyP]; exact congrArg some r.1
          simp only [List.map_cons, PyData.canLayAll0, Bool.and_eq_true] at lp
          simp only [List.map_cons, PyData.depthAll] at dp
          unfold eqB
          rw [ek]
          dsimp only
          rcases kfind (X := X) (H := H) hb ab kq k with ⟨e1, e2⟩ | ⟨y, w, e, e1, e2, e3, e4, e5⟩
          · rw [e2]
            exact .miss e1
          · rw [e4]
            obtain ⟨as, r1⟩ := Dp.reads I p.2 u.2 v a1 r.2
            obtain ⟨bs, r2⟩ := Dp.reads I e w y e3 e2
            have le : e.canLay0 = true := by
              have go : ∀ L : List PyData, PyData.canLayAll0 L = true → e ∈ L → e.canLay0 = true := by
                intro L
                induction L with
                | nil => intro _ z; cases z
                | cons x xs ih =>
                  intro z m
                  simp only [PyData.canLayAll0, Bool.and_eq_true] at z
                  rcases List.mem_cons.mp m with rfl | m
                  · exact z.1
                  · exact ih z.2 m
              exact go _ lq e5
            exact .hit e1 (SeqAt.eqAt_reads p.2 e X.A.in1 s v y as bs r1 r2 lp.1 le (by show X.A.units + 1 + _ < cLine; omega)) (ih t a2 h2 lp.2 (by omega))
theorem KV.length {ws : List (Key × V)} {ka : List (Key × Value)} (h : KV ws ka) : ws.length = ka.length := Paired.length h
def rEqDD (K : PySem.W.Frag) (neg : Bool) : R2 := fun x y H Q => ∃ ps qs, Dp K H x (.dict ps) ∧ Dp K H y (.dict qs) ∧ PyData.canLayAll0 (ps.map Prod.snd) = true ∧ PyData.canLayAll0 (qs.map Prod.snd) = true ∧ PyData.depthAll (ps.map Prod.snd) < 190 ∧ Q (.bl (if neg then !eqDD ps qs else eqDD ps qs)) H
theorem dict_both (I : Inv X pins σ H s) (hr : X.A.units + 200 < cLine) {x y : V} {v u : Value} {ps qs : List (PyData × PyData)} (hx : Dp X.K H x (.dict ps)) (hy : Dp X.K H y (.dict qs)) (rx : RelV x v) (ry : RelV y u)
    (lp : PyData.canLayAll0 (ps.map Prod.snd) = true) (lq : PyData.canLayAll0 (qs.map Prod.snd) = true) (dp : PyData.depthAll (ps.map Prod.snd) < 190) :
    ∃ a b ka kb, v = .ref a ∧ u = .ref b ∧ (a == sysModules) = false ∧ (b == sysModules) = false ∧ s.heap.DictOf (mixKind X.prog X.w) a ka ∧ s.heap.DictOf (mixKind X.prog X.w) b kb ∧ PySem.W.KeqHits X.A.in1 s kb ka (eqB ps qs) ∧ ka.length = ps.length ∧ kb.length = qs.length := by
  cases hx with
  | dct h1 a1 k1 =>
    cases hy with
    | dct h2 a2 k2 =>
      cases rx
      cases ry
      obtain ⟨z1, g1, x1, es, ep, ka, d1, n1, kv1, o1, es1, y1, y2, y3, y4⟩ := I.frzK h1
      obtain ⟨z2, g2, x2, es2, ep2, kb, d2, n2, kv2, o2, es3, w1, w2, w3, w4⟩ := I.frzK h2
      refine ⟨_, _, ka, kb, rfl, rfl, z1, z2, ⟨o1, es1, ep, y1, y2, y3, y4⟩, ⟨o2, es3, ep2, w1, w2, w3, w4⟩, dhits I hr kv2 a2 k2 lq kv1 a1 k1 lp dp, ?_, ?_⟩
      · rw [← KV.length kv1]
        have := congrArg List.length k1
        rw [List.length_map, List.length_map] at this
        exact this.symm
      · rw [← KV.length kv2]
        have := congrArg List.length k2
        rw [List.length_map, List.length_map] at this
        exact this.symm
theorem op_eqDD (hr : X.A.units + 200 < cLine) : OpR X (compareOp .Eq) (rEqDD X.K false) := by
  intro pins s σ H x y v u Q I rx ry ⟨ps, qs, hx, hy, lp, lq, dp, q⟩
  obtain ⟨a, b, ka, kb, rfl, rfl, z1, z2, d1, d2, hit, n1, n2⟩ := dict_both I hr hx hy rx ry lp lq dp
  refine PySem.W.keq_eq z1 z2 d1 d2 (by omega) (fun _ => hit) ?_
  rw [n1, n2]
  exact ⟨.bl _, H, I, rfl, q⟩
theorem op_neDD (hr : X.A.units + 200 < cLine) : OpR X (compareOp .NotEq) (rEqDD X.K true) := by
  intro pins s σ H x y v u Q I rx ry ⟨ps, qs, hx, hy, lp, lq, dp, q⟩
  obtain ⟨a, b, ka, kb, rfl, rfl, z1, z2, d1, d2, hit, n1, n2⟩ := dict_both I hr hx hy rx ry lp lq dp
  refine PySem.W.keq_ne z1 z2 d1 d2 (by omega) (fun _ => hit) ?_
  rw [n1, n2]
  exact ⟨.bl _, H, I, rfl, q⟩
def wEqDD (neg : Bool) : W2 := fun d e Q => match d, e with
  | .dict ps, .dict qs => PyData.canLayAll0 (ps.map Prod.snd) = true ∧ PyData.canLayAll0 (qs.map Prod.snd) = true ∧ PyData.depthAll (ps.map Prod.snd) < 190 ∧ Q (.sh (.bool (if neg then !eqDD ps qs else eqDD ps qs)))
  | _, _ => False
theorem opdEqDD {K : PySem.W.Frag} {neg : Bool} : OpD K (rEqDD K neg) (wEqDD neg) := ⟨fun d e Q Q' h q => by
    unfold wEqDD at *
    split at q
    · exact ⟨q.1, q.2.1, q.2.2.1, h _ q.2.2.2⟩
    · exact q, fun c F H σ ρ x y d e Q Qv j hx hy q k => by
    unfold wEqDD at q
    split at q
    · exact ⟨_, _, dpM j.fh hx, dpM j.fh hy, q.1, q.2.1, q.2.2.1, k _ F H _ q.2.2.2 j (.bl _)⟩
    · exact q.elim⟩
variable {a b : Expr} {Ga Gb : GE} {pos : Pos}
end
end DL
namespace DX
open PySem PyProof.Rows L2 DL
def vEqDD (neg : Bool) : V2
  | .dict ps, .dict qs => gd (PyData.canLayAll0 (ps.map Prod.snd) = true ∧ PyData.canLayAll0 (qs.map Prod.snd) = true ∧ PyData.depthAll (ps.map Prod.snd) < 190) (some (.sh (.bool (if neg then !eqDD ps qs else eqDD ps qs))))
  | _, _ => none
@[simp ↓] theorem vEqDD_dict (neg : Bool) (ps qs : List (PyData × PyData)) : vEqDD neg (.dict ps) (.dict qs) = gd (PyData.canLayAll0 (ps.map Prod.snd) = true ∧ PyData.canLayAll0 (qs.map Prod.snd) = true ∧ PyData.depthAll (ps.map Prod.snd) < 190) (some (.sh (.bool (if neg then !eqDD ps qs else eqDD ps qs)))) := Eq.trans rfl rfl
theorem lw_eqDD {neg : Bool} : Lw (vEqDD neg) (wEqDD neg) := fun d e z Q h q => by
  unfold vEqDD at h
  split at h
  · obtain ⟨c, h⟩ := gd_inv h
    cases h
    exact ⟨c.1, c.2.1, c.2.2, q⟩
  · cases h
section
variable {X : Cx} {a b : Expr} {xa xb : XE} {pos : Pos}
end
end DX
set_option Elab.async false
set_option linter.all false
set_option maxRecDepth 100000
namespace DL
open PySem L2
section
variable {K : PySem.W.Frag} {c : En} {F F' H H' : Hp} {σ : L2.St} {ρ : Rho}
end
section
variable {X : Cx} {e : Expr}
end
end DL
namespace DX
open PySem PyProof.Rows L2 DL
section
variable {X : Cx} {e : Expr} {xa : XE}
end
end DX
set_option Elab.async false
set_option linter.all false
set_option maxRecDepth 100000
namespace DL
open PySem PyProof.Rows L2
section
variable {X : Cx} {a : Expr} {pos : Pos}
end
end DL
namespace DX
open PySem PyProof.Rows L2 DL
section
variable {X : Cx} {a : Expr} {pos p : Pos} {t : XA}
end
end DX
set_option Elab.async false
set_option linter.all false
set_option maxRecDepth 100000
namespace DL
open PySem PyProof.Rows L2
def outK (kvs : List (Key × PyData)) (k : Key) : List (Key × PyData) := kvs.filter fun p => decide (p.1 ≠ k)
theorem paired_out {K : PySem.W.Frag} {F : Hp} {k : Key} : ∀ {ws : List (Key × V)} {kvs : List (Key × PyData)}, DpKV K F ws kvs → DpKV K F (dropK ws k) (outK kvs k)
  | _, _, .nil => .nil
  | _, _, .cons (a := p) (b := q) h t => by
    have ih := paired_out (k := k) t
    unfold dropK outK at *
    rw [List.filter_cons, List.filter_cons]
    by_cases e : p.1 = k
    · have e' : q.1 = k := h.1.symm.trans e
      simp only [e, e', ne_eq, not_true_eq_false, decide_false, Bool.false_eq_true, if_false]
      exact ih
    · have e' : ¬ q.1 = k := fun z => e (h.1.trans z)
      simp only [e, e', ne_eq, not_false_eq_true, decide_true, if_true]
      exact .cons h ih
section
variable {X : Cx} {x : Str} {p apos cpos : Pos} {b : Expr} {Gb : GE} {i : Nat}
end
end DL
namespace DX
open PySem PyProof.Rows L2 DL
section
variable {X : Cx} {x : Str} {p apos cpos : Pos} {b : Expr} {xb : XE} {i : Nat}
end
end DX
set_option Elab.async false
set_option linter.all false
set_option maxRecDepth 100000
namespace DL
open PySem PyProof.Rows L2
section
variable {X : Cx} {e : Expr}
variable {a b : Expr} {Ga Gb : GE} {pos : Pos}
theorem dt_neDD {k : Nat} (hr : Room k X.A) (ha : DE X a Ga) (hb : DE X b Gb) : DT X (.Compare a [.NotEq] [b] pos) (gB (gBin (wEqDD true) Ga Gb)) := dt_cmpR (op_neDD (u200 hr)) opdEqDD ha hb (nomark _)
end
end DL
namespace DX
open PySem PyProof.Rows L2 DL
section
variable {X : Cx} {e a b : Expr} {ta : XT} {xa xb : XE} {pos : Pos}
theorem tx_neDD {k : Nat} (hr : Room k X.A) (ha : EX X a xa) (hb : EX X b xb) : TX X (.Compare a [.NotEq] [b] pos) (xB (xBin (vEqDD true) xa xb)) := txI (dt_neDD hr ha hb) (im_B (im_bin lw_eqDD))
end
end DX
set_option Elab.async false
set_option linter.all false
set_option maxRecDepth 100000
namespace PF
open PySem L2 DL DX
end PF
set_option Elab.async false
set_option linter.all false
set_option maxRecDepth 100000
set_option maxHeartbeats 1000000
namespace PF
open PySem L2 DL DX
def pkv : T → Key × PyData
  | .nil => (.inl 0, .none)
  | .node l c r => (.inl c.k, (ent (.node l c r)).d)
def post27 : T → List (Key × PyData)
  | .nil => []
  | .node l c r => post27 l ++ post27 r ++ [pkv (.node l c r)]
def ino27 (t : T) : List (Key × PyData) := t.prts.map pkv
theorem ino27_node (l : T) (c : Card) (r : T) : ino27 (.node l c r) = ino27 l ++ pkv (.node l c r) :: ino27 r := by simp [ino27, T.prts]
theorem post27_len : ∀ t : T, (post27 t).length = t.cards.length
  | .nil => rfl
  | .node l c r => by simp [post27, T.cards, post27_len l, post27_len r]
theorem ino27_len (t : T) : (ino27 t).length = t.cards.length := by rw [ino27, List.length_map, prts_len]
theorem ino_keys : ∀ t : T, (ino27 t).map Prod.fst = t.cards.map fun c => (Sum.inl c.k : Key)
  | .nil => rfl
  | .node l c r => by
    rw [ino27_node, List.map_append, List.map_cons, ino_keys l, ino_keys r]
    simp [T.cards, pkv]
theorem ino_form (t : T) : ∀ p ∈ ino27 t, ∃ (k : Int) (e : E5), p = (.inl k, e.d) := by
  intro p hp
  obtain ⟨q, hq, rfl⟩ := List.mem_map.mp hp
  have : ∀ t : T, ∀ q ∈ t.prts, ∃ l c r, q = T.node l c r := by
    intro t
    induction t with
    | nil => intro q h; cases h
    | node l c r ihl ihr =>
      intro q h
      rw [T.prts] at h
      rcases List.mem_append.mp h with h | h
      · exact ihl q h
      · rcases List.mem_cons.mp h with rfl | h
        · exact ⟨l, c, r, rfl⟩
        · exact ihr q h
  obtain ⟨l, c, r, rfl⟩ := this t q hq
  exact ⟨c.k, _, rfl⟩
theorem hasK_app27 (a b : List (Key × PyData)) (k : Key) : hasK (a ++ b) k = (hasK a k || hasK b k) := by unfold hasK; rw [List.any_append]
theorem setK_new {L : List (Key × PyData)} {k : Key} {d : PyData} (h : hasK L k = false) : setK L k d = L ++ [(k, d)] := by
  unfold setK
  rw [h]
  rfl
theorem table_loop27 {d0 : PyData} : ∀ (ps : List T) (kvs : List (Key × PyData)) (s2 : Option R), NIo s2 → (∀ p ∈ ps, ∃ l c r, p = T.node l c r ∧ p.hi < 70 ∧ p.cards.length ≤ 1000) → (∀ p ∈ ps, hasK kvs (pkv p).1 = false) → (ps.map fun p => (pkv p).1).Nodup → kvs.length + ps.length < 1000000 →
    ∃ s2', forX (xN 2) U_law_table_2 (ps.map T.d) [some (.sh d0), some (.own (.dic kvs)), s2, none] = .nx [some (.sh d0), some (.own (.dic (kvs ++ ps.map pkv))), s2', none]
  | [], kvs, s2, _, _, _, _, _ => ⟨s2, by rw [List.map_nil, List.map_nil, List.append_nil]; rfl⟩
  | p :: ps, kvs, s2, n2, hp, hf, nd, hl => by
    rw [List.length_cons] at hl
    rw [List.map_cons] at nd
    obtain ⟨nc, nd⟩ := List.nodup_cons.mp nd
    obtain ⟨s2', e⟩ := table_loop27 (d0 := d0) ps (kvs ++ [pkv p]) (some (.sh p.d)) (.sh _) (fun q hq => hp q (by simp [hq])) (fun q hq => by
      rw [hasK_app27, hf q (by simp [hq])]
      unfold hasK
      simp only [List.any_cons, List.any_nil, Bool.or_false, Bool.false_or, decide_eq_false_iff_not]
      exact fun z => nc (List.mem_map.mpr ⟨q, hq, z.symm⟩)) nd (by rw [List.length_append]; simp; omega)
    refine ⟨s2', ?_⟩
    have tg : xN 2 (.sh p.d) [some (.sh d0), some (.own (.dic kvs)), s2, none] = some [some (.sh d0), some (.own (.dic kvs)), some (.sh p.d), none] := by simp [n2 _]
    have b : U_law_table_2 [some (.sh d0), some (.own (.dic kvs)), some (.sh p.d), none] = .nx [some (.sh d0), some (.own (.dic (kvs ++ [pkv p]))), some (.sh p.d), none] := by
      obtain ⟨l, c, r, rfl, h1, h2⟩ := hp p (by simp)
      have ei := inside_eq 70 _ h1 h2
      have ew := lawentry_eq (ws := (T.node l c r).ws) (by simp only [T.ws, List.length_map]; exact h2)
      rw [← ent_eq] at ew
      have lc := lcX_all (vs := [3]) (g := xN 3) (T := xYes) (e := U_law_table_1) (enc := Card.d) (f := fun c => PyData.int c.w) (ρ := [some (.sh d0), some (.own (.dic kvs)), some (.sh (T.node l c r).d), none]) (T.node l c r).cards [] (fun c hc => by
        simp (disch := first | assumption | omega) [turnX, U_law_table_1, calmX, wipeR, Card.d, gr_ok, gd_ok]) (by simp only [List.length_nil]; omega)
      have lw : (T.node l c r).cards.map (fun c => PyData.int c.w) = (T.node l c r).ws.map .int := by rw [T.ws, List.map_map]; rfl
      rw [lw, List.nil_append] at lc
      have es := setK_new (d := (ent (.node l c r)).d) (hf (T.node l c r) (by simp))
      have hd : (T.node l c r).d = .tuple [l.d, c.d, r.d] := by rw [T.d]
      rw [pkv] at es ⊢
      simp only [] at es
      have kl : kvs.length < 1000000 := by omega
      have clen : ((T.node l c r).cards.map Card.d).length ≤ 1000 := by rw [List.length_map]; exact h2
      rw [hd] at lc ei ⊢
      simp only [Card.d] at lc ei ⊢
      generalize (T.node l c r).cards.map Card.d = CD at *
      generalize (T.node l c r).ws.map PyData.int = WD at *
      simp (disch := first | assumption | omega) [U_law_table_2, ei, lc, ew, es, kl, calmX, wipeR, restR, Card.d, gr_ok, gd_ok]
    rw [List.map_cons, forX_cons, tg, opX_some, b]
    refine e.trans ?_
    rw [List.append_assoc]
    rfl
end PF
set_option Elab.async false
set_option linter.all false
set_option maxRecDepth 100000
set_option maxHeartbeats 1000000
namespace PF
open PySem L2 DL DX
theorem at29_mem : ∀ {L : List (Key × PyData)} {k : Int} {d : PyData}, (L.map Prod.fst).Nodup → ((.inl k : Key), d) ∈ L → at29 L k = some d
  | [], _, _, _, h => by cases h
  | p :: L, k, d, nd, h => by
    obtain ⟨a, b⟩ := p
    rw [List.map_cons] at nd
    obtain ⟨nc, nd⟩ := List.nodup_cons.mp nd
    rw [at29_cons]
    rcases List.mem_cons.mp h with e | h
    · cases e
      rw [if_pos rfl]
    · rw [if_neg (fun z => nc (List.mem_map.mpr ⟨_, h, z.symm⟩))]
      exact at29_mem nd h
theorem E5.refl (e : E5) : PyData.eqv e.d e.d = true := by simp [E5.d, PyData.eqv, PyData.eqvAll]
theorem E5.lay (e : E5) : e.d.canLay0 = true := rfl
theorem E5.dep (e : E5) : e.d.depth ≤ 2 := by simp [E5.d, PyData.depth, PyData.depthAll]
theorem eqB_true {L : List (Key × PyData)} (nd : (L.map Prod.fst).Nodup) : ∀ ps : List (Key × PyData), (∀ p ∈ ps, p ∈ L ∧ ∃ (k : Int) (e : E5), p = (.inl k, e.d)) → eqB (kvD ps) (kvD L) = true
  | [], _ => rfl
  | p :: ps, h => by
    obtain ⟨h1, k, e, rfl⟩ := h p (by simp)
    have a := at29_mem nd h1
    unfold at29 at a
    have ih := eqB_true nd ps fun q hq => h q (by simp [hq])
    show (match keyD (keyP (.inl k)) with
      | some k' => (match getP (kvD L) k' with | some e' => PyData.eqv e.d e' && eqB (kvD ps) (kvD L) | none => false)
      | none => false) = true
    rw [keyD_keyP]
    simp only
    rw [a]
    simp only
    rw [ih, E5.refl]
    rfl
theorem ino_nodup {t : T} (nd : (t.cards.map Card.k).Nodup) : ((ino27 t).map Prod.fst).Nodup := by
  rw [ino_keys]
  exact List.pairwise_map.mpr ((List.pairwise_map.mp nd).imp fun h z => h (Sum.inl.inj z))
theorem lays27 : ∀ L : List (Key × PyData), (∀ p ∈ L, ∃ (k : Int) (e : E5), p = (.inl k, e.d)) → PyData.canLayAll0 ((kvD L).map Prod.snd) = true ∧ PyData.depthAll ((kvD L).map Prod.snd) ≤ 2
  | [], _ => ⟨rfl, by simp [kvD, PyData.depthAll]⟩
  | p :: L, h => by
    obtain ⟨k, e, rfl⟩ := h p (by simp)
    obtain ⟨h1, h2⟩ := lays27 L fun q hq => h q (by simp [hq])
    have := E5.dep e
    unfold kvD at *
    simp only [List.map_cons, PyData.canLayAll0, PyData.depthAll, E5.lay, Bool.true_and]
    exact ⟨h1, by omega⟩
theorem keys27 (L : List (Key × PyData)) : (kvD L).map Prod.fst = L.map fun p => keyP p.1 := by
  unfold kvD
  rw [List.map_map]
  rfl
theorem table27 {t : T} (h : t.hi < 70) (nd : (t.cards.map Card.k).Nodup) (hl : t.cards.length ≤ 1000) : F_law_table [t.d] = .ok (.sh (.dict (kvD (ino27 t)))) () := by
  rw [F_law_table_eq]
  have sub : ∀ t : T, ∀ q ∈ t.prts, (∃ l c r, q = T.node l c r) ∧ q.hi ≤ t.hi ∧ q.cards.length ≤ t.cards.length := by
    intro t
    induction t with
    | nil => intro q h; cases h
    | node l c r ihl ihr =>
      intro q h
      rw [T.prts] at h
      rcases List.mem_append.mp h with h | h
      · obtain ⟨x, y, z⟩ := ihl q h
        exact ⟨x, by simp only [T.hi]; omega, by simp only [T.cards, List.length_append]; omega⟩
      · rcases List.mem_cons.mp h with rfl | h
        · exact ⟨⟨l, c, r, rfl⟩, Nat.le_refl _, Nat.le_refl _⟩
        · obtain ⟨x, y, z⟩ := ihr q h
          exact ⟨x, by simp only [T.hi]; omega, by simp only [T.cards, List.length_append, List.length_cons]; omega⟩
  have pl := prts_len t
  obtain ⟨s2', e⟩ := table_loop27 (d0 := t.d) t.prts [] none .none (fun p hp => by
    obtain ⟨⟨l, c, r, x⟩, y, z⟩ := sub t p hp
    exact ⟨l, c, r, x, by omega, by omega⟩) (fun _ _ => rfl) (by
    have := ino_nodup nd
    rw [ino27, List.map_map] at this
    exact this) (by simp; omega)
  rw [List.nil_append] at e
  have ep := lparts_eq 70 t h hl
  have plen : (t.prts.map T.d).length ≤ 1000 := by rw [List.length_map]; omega
  rw [ino27]
  generalize t.prts.map pkv = KV at *
  generalize t.prts.map T.d = PD at *
  generalize t.d = TD at *
  simp (disch := first | assumption | omega) [U_law_table, xDict0, ep, e, gr_ok, gd_ok]
end PF
set_option Elab.async false
set_option linter.all false
set_option maxRecDepth 100000
namespace PF
open PySem L2 DL DX
def U_entry_of_v3 : XS :=
  (xSeq (xIf (xB (xBin (vEq false) (xVar 0) (xTup xNil))) (xRet (xC (.tuple ([.int 0, .int 0, .int 0, .int 0, .int 0])))) xNext)
    (xRet (xDIx 1 (xBin vIx (xIxU 0 (xC (.int 1))) (xC (.int 0))))))
def F_entry_of_v3 : Fn := runD 2 2 U_entry_of_v3
theorem F_entry_of_v3_eq (a0 a1 : PyData) : F_entry_of_v3 [a0, a1] = (U_entry_of_v3 [some (.sh a0), some (.sh a1)]).fin := runD_eq (m := 2) (n := 2) U_entry_of_v3 [a0, a1] _ rfl rfl
end PF
set_option Elab.async false
set_option linter.all false
set_option maxRecDepth 100000
namespace PF
open PySem L2 DL DX
def U_entry_due_v3 : XS :=
  (xSeq (xAsg (xVar 0) (xT2 3 (xsCons (xN 2) (xsCons (xN 3) (xsCons (xN 4) xsNil)))))
    (xRet (xCall F_entry_made (xCons (xIxU 3 (xC (.int 2))) (xCons (xCall F_entry_of_v3 (xCons (xVar 2) (xCons (xVarD 1) xNil))) (xCons (xCall F_entry_of_v3 (xCons (xVar 4) (xCons (xVarD 1) xNil))) xNil))))))
def F_entry_due_v3 : Fn := runD 2 5 U_entry_due_v3
theorem F_entry_due_v3_eq (a0 a1 : PyData) : F_entry_due_v3 [a0, a1] = (U_entry_due_v3 [some (.sh a0), some (.sh a1), none, none, none]).fin := runD_eq (m := 2) (n := 5) U_entry_due_v3 [a0, a1] _ rfl rfl
end PF
set_option Elab.async false
set_option linter.all false
set_option maxRecDepth 100000
namespace PF
open PySem L2 DL DX
def U_law_side_v2 : XS :=
  (xSeq (xIf (xB (xBin (vEq false) (xVar 0) (xTup xNil))) (xRet (xTup (xCons (xC (.int 0)) (xCons (xC (.int 0)) (xCons (xC (.int 0)) (xCons (xC (.int 0)) (xCons (xC (.int 0)) xNil))))))) xNext)
    (xRet (xDIx 1 (xBin vIx (xIxU 0 (xC (.int 1))) (xC (.int 0))))))
def F_law_side_v2 : Fn := runD 2 2 U_law_side_v2
theorem F_law_side_v2_eq (a0 a1 : PyData) : F_law_side_v2 [a0, a1] = (U_law_side_v2 [some (.sh a0), some (.sh a1)]).fin := runD_eq (m := 2) (n := 2) U_law_side_v2 [a0, a1] _ rfl rfl
end PF
set_option Elab.async false
set_option linter.all false
set_option maxRecDepth 100000
namespace PF
open PySem L2 DL DX
def U_law_made_v2 : XS :=
  (xSeq (xAsg (xBin vAdd (xBin vAdd (xIxU 0 (xC (.int 0))) (xC (.int 1))) (xIxU 2 (xC (.int 0)))) (xN 3))
    (xSeq (xAsg (xBlt vMax2 (xCons (xIxU 0 (xC (.int 2))) (xCons (xBin vAdd (xBin vAdd (xIxU 0 (xC (.int 1))) (xVar 1)) (xIxU 2 (xC (.int 2)))) xNil))) (xN 4))
    (xSeq (xAsg (xBlt vMax2 (xCons (xIxU 2 (xC (.int 3))) (xCons (xBin vAdd (xBin vAdd (xIxU 2 (xC (.int 1))) (xVar 1)) (xIxU 0 (xC (.int 3)))) xNil))) (xN 5))
    (xSeq (xAsg (xBlt vMax3 (xCons (xIxU 0 (xC (.int 4))) (xCons (xIxU 2 (xC (.int 4))) (xCons (xBin vAdd (xBin vAdd (xIxU 0 (xC (.int 3))) (xVar 1)) (xIxU 2 (xC (.int 2)))) xNil)))) (xN 6))
    (xRet (xTup (xCons (xVar 3) (xCons (xBin vAdd (xBin vAdd (xIxU 0 (xC (.int 1))) (xVar 1)) (xIxU 2 (xC (.int 1)))) (xCons (xVar 4) (xCons (xVar 5) (xCons (xVar 6) xNil)))))))))))
def F_law_made_v2 : Fn := runD 3 7 U_law_made_v2
theorem F_law_made_v2_eq (a0 a1 a2 : PyData) : F_law_made_v2 [a0, a1, a2] = (U_law_made_v2 [some (.sh a0), some (.sh a1), some (.sh a2), none, none, none, none]).fin := runD_eq (m := 3) (n := 7) U_law_made_v2 [a0, a1, a2] _ rfl rfl
end PF
set_option Elab.async false
set_option linter.all false
set_option maxRecDepth 100000
namespace PF
open PySem L2 DL DX
def U_parts_in (self : Fn) : XS :=
  (xSeq (xIf (xB (xBin (vEq false) (xVar 0) (xTup xNil))) (xRet (xLst xNil)) xNext)
    (xSeq (xAsg (xVar 0) (xT2 3 (xsCons (xN 1) (xsCons (xN 2) (xsCons (xN 3) xsNil)))))
    (xRet (xBin vAdd (xBin vAdd (xCall self (xCons (xVar 1) xNil)) (xLst (xCons (xVar 0) xNil))) (xCall self (xCons (xVar 3) xNil))))))
def F_parts_in : Nat → Fn
  | 0 => fun _ => .bad
  | n + 1 => runD 1 4 (U_parts_in (F_parts_in n))
theorem F_parts_in_eq (n : Nat) (a0 : PyData) : (F_parts_in (n + 1)) [a0] = ((U_parts_in (F_parts_in n)) [some (.sh a0), none, none, none]).fin := runD_eq (m := 1) (n := 4) (U_parts_in (F_parts_in n)) [a0] _ rfl rfl
end PF
set_option Elab.async false
set_option linter.all false
set_option maxRecDepth 100000
set_option maxHeartbeats 1000000
namespace PF
open PySem L2 DL DX
structure Dk (kvs : List (Key × PyData)) : Prop where
  form : ∀ p ∈ kvs, ∃ (k : Int) (e : E5), p = (.inl k, e.d)
  nd : (kvs.map Prod.fst).Nodup
theorem at29_some : ∀ {L : List (Key × PyData)} {k : Int} {d : PyData}, at29 L k = some d → ((.inl k : Key), d) ∈ L
  | [], _, _, h => by cases h
  | p :: L, k, d, h => by
    obtain ⟨a, b⟩ := p
    rw [at29_cons] at h
    split at h
    · next e => cases h; rw [e]; exact List.mem_cons_self
    · exact List.mem_cons_of_mem _ (at29_some h)
theorem Dk.at (h : Dk kvs) {k : Int} {d : PyData} (e : at29 kvs k = some d) : ∃ x : E5, d = x.d := by
  obtain ⟨k', x, e2⟩ := h.form _ (at29_some e)
  cases e2
  exact ⟨x, rfl⟩
def zero5 : E5 := ⟨0, 0, 0, 0, 0⟩
def Side (kvs : List (Key × PyData)) : T → E5 → Prop
  | .nil, e => e = zero5
  | .node l c r, e => at29 kvs c.k = some e.d
theorem entry_of28 {kvs : List (Key × PyData)} {t : T} {e : E5} (h : Side kvs t e) : F_entry_of_v3 [t.d, .dict (kvD kvs)] = .ok (.sh e.d) () := by
  rw [F_entry_of_v3_eq]
  match t, h with
  | .nil, h =>
    have h : e = zero5 := h
    subst h
    have e := vEq_nil
    simp only [T.d] at e ⊢
    generalize kvD kvs = KD
    simp (disch := first | assumption | omega) [U_entry_of_v3, e, zero5, E5.d, gr_ok, gd_ok]
  | .node l c r, h1 =>
    have e := vEq_node l c r
    have h1 : at29 kvs c.k = _ := h1
    unfold at29 at h1
    simp only [T.d, Card.d] at e ⊢
    generalize kvD kvs = KD at *
    simp (disch := first | assumption | omega) [U_entry_of_v3, e, h1, gr_ok, gd_ok]
theorem side28 {kvs : List (Key × PyData)} {t : T} {e : E5} (h : Side kvs t e) : F_law_side_v2 [t.d, .dict (kvD kvs)] = .ok (.sh e.d) () := by
  rw [F_law_side_v2_eq]
  match t, h with
  | .nil, h =>
    have h : e = zero5 := h
    subst h
    have e := vEq_nil
    simp only [T.d] at e ⊢
    generalize kvD kvs = KD
    simp (disch := first | assumption | omega) [U_law_side_v2, e, zero5, E5.d, gr_ok, gd_ok]
  | .node l c r, h1 =>
    have e := vEq_node l c r
    have h1 : at29 kvs c.k = _ := h1
    unfold at29 at h1
    simp only [T.d, Card.d] at e ⊢
    generalize kvD kvs = KD at *
    simp (disch := first | assumption | omega) [U_law_side_v2, e, h1, gr_ok, gd_ok]
theorem entry_due28 {kvs : List (Key × PyData)} {l r : T} {c : Card} {x y : E5} (h1 : Side kvs l x) (h2 : Side kvs r y) : F_entry_due_v3 [(T.node l c r).d, .dict (kvD kvs)] = .ok (.sh (E5.made c.w x y).d) () := by
  rw [F_entry_due_v3_eq]
  have e1 := entry_of28 h1
  have e2 := entry_of28 h2
  have e3 := made_eq c.w x y
  simp only [T.d, Card.d]
  generalize kvD kvs = KD at *
  simp (disch := first | assumption | omega) [U_entry_due_v3, e1, e2, e3, gr_ok, gd_ok]
theorem made28 (w : Int) (l r : E5) : F_law_made_v2 [l.d, .int w, r.d] = .ok (.sh (E5.made w l r).d) () := by
  rw [F_law_made_v2_eq]
  have c1 : r.t + w + l.b = l.b + w + r.t := by omega
  simp (disch := first | assumption | omega) [U_law_made_v2, E5.d, E5.made, mx, c1, gr_ok, gd_ok]
theorem parts28 : ∀ (n : Nat) (t : T), t.hi < n → t.cards.length ≤ 1000 → F_parts_in n [t.d] = .ok (.own (.lst (t.prts.map T.d))) ()
  | 0, _, h, _ => by omega
  | n + 1, .nil, h, hl => by
    rw [F_parts_in_eq]
    have e := vEq_nil
    simp only [T.d] at e ⊢
    simp (disch := first | assumption | omega) [U_parts_in, e, T.prts, gr_ok, gd_ok]
  | n + 1, .node l c r, h, hl => by
    have hh : (T.node l c r).cards = l.cards ++ c :: r.cards := by simp [T.cards]
    rw [hh, List.length_append, List.length_cons] at hl
    simp only [T.hi] at h
    rw [F_parts_in_eq]
    have e := vEq_node l c r
    have e1 := parts28 n l (by omega) (by omega)
    have e2 := parts28 n r (by omega) (by omega)
    have pl := prts_len l
    have pr := prts_len r
    have a1 : (l.prts.map T.d).length ≤ 1000 := by rw [List.length_map]; omega
    have a2 : (r.prts.map T.d).length ≤ 1000 := by rw [List.length_map]; omega
    have a3 : ((T.node l c r).prts.map T.d) = l.prts.map T.d ++ (.tuple [l.d, c.d, r.d] :: r.prts.map T.d) := by simp [T.prts, T.d]
    rw [a3]
    simp only [T.d] at e ⊢
    generalize l.prts.map T.d = LD at *
    generalize r.prts.map T.d = RD at *
    simp (disch := first | assumption | omega | (simp only [List.length_append, List.length_cons, List.length_nil]; omega)) [U_parts_in, e, e1, e2, gr_ok, gd_ok]
end PF
set_option Elab.async false
set_option linter.all false
set_option maxRecDepth 100000
namespace DL
open PySem PyProof.Rows L2
def kvO : List (PyData × PyData) → Option (List (Key × PyData))
  | [] => some []
  | p :: ps => match keyD p.1 with
    | some k => (kvO ps).map fun L => (k, p.2) :: L
    | none => none
theorem kvO_kvD : ∀ L : List (Key × PyData), kvO (kvD L) = some L
  | [] => rfl
  | p :: L => by
    show (match keyD (keyP p.1) with | some k => (kvO (kvD L)).map fun L => (k, p.2) :: L | none => none) = _
    rw [keyD_keyP, kvO_kvD L]
    rfl
theorem kvO_pair {K : PySem.W.Frag} {F : Hp} : ∀ {ps : List (PyData × PyData)} {ws : List (Key × V)} {L : List (Key × PyData)}, kvO ps = some L → DpAll K F (ws.map Prod.snd) (ps.map Prod.snd) → ps.map Prod.fst = (ws.map fun p => keyP p.1) → DpKV K F ws L
  | [], [], L, h, _, _ => by cases h; exact .nil
  | [], _ :: _, _, _, _, h => by cases h
  | _ :: _, [], _, _, _, h => by cases h
  | p :: ps, q :: ws, L, h, .cons a1 a2, hk => by
    obtain ⟨h1, h2⟩ := List.cons.inj hk
    unfold kvO at h
    rw [show keyD p.1 = some q.1 by rw [h1, keyD_keyP]] at h
    cases e : kvO ps with
    | none => rw [e] at h; cases h
    | some L' =>
      rw [e] at h
      cases h
      exact .cons ⟨rfl, a1⟩ (kvO_pair e a2 h2)
section
variable {X : Cx} {a e : Expr} {pos : Pos}
def rDictOf : List V → Hp → VK → Prop := fun xs H Q => ∃ (d : Addr) (kvs : List (Key × V)), xs = [V.ref d] ∧ Rd H d (.dK kvs) ∧ ∀ p, H p = none → Q (.ref p) (upd H p (.dK kvs))
theorem call_dictOf : CallR X (.type "dict") rDictOf := by
  intro pins s σ H xs us Q I r h
  obtain ⟨d, kvs, rfl, hd, q⟩ := h
  rw [Vals.ref1 r]
  exact d_copyOf I hd fun p s' hp I' => ⟨.ref p, _, I', rfl, q p hp⟩
def wDictOf : WC
  | [.dict ps], Q => ∃ L, kvO ps = some L ∧ Q (.own (.dic L))
  | _, _ => False
theorem cd_dictOf {K : PySem.W.Frag} : CallD K rDictOf wDictOf := ⟨fun ds Q Q' h q => by
  unfold wDictOf at *
  split at q
  · obtain ⟨L, e, q⟩ := q; exact ⟨L, e, h _ q⟩
  · exact q, fun c F H σ ρ vs ds Q Qv j a q k => by
  unfold wDictOf at q
  split at q
  · next ps =>
    obtain ⟨L, eL, q⟩ := q
    cases a with | cons h t => cases t with | nil =>
    cases h with
    | @dct a o ws ps e al kk =>
      exact ⟨a, ws, rfl, .inr ⟨o, j.fh _ _ e⟩, fun p hp => k _ F _ _ q (j.alloc hp _) (relNew j hp ⟨_, rfl, kvO_pair eL al kk⟩)⟩
  · exact q.elim⟩
theorem de_dictOf {t : GA} {p : Pos} (hg : Gl X "dict") (hm : X.mg "dict" = none) (h : DA X [a] t) (he : starEach [a] X.env = [(false, eval a X.env)] := by rfl) (hpl : (backTo pos (starEach [] X.env)).any (·.1) = false := by rfl) : DE X (.Call (.Name "dict" p) [a] [] pos) (gBlt wDictOf t) := de_bty cd_dictOf call_dictOf hg hm (by decide +kernel) h (by decide) (by decide) he hpl
def tFrz (t : TE) : TE := fun σ H Q => t σ H fun v H' => ∃ a u, v = .ref a ∧ H' a = some u ∧ Mut (some u) ∧ ∀ od, Q v (upd H' a (.frz od u))
theorem pe_frz {t : TE} (h : PE X e t) : PE X e (tFrz t) := by
  intro pins s σ H Q I hw
  refine thn (h pins s σ H _ I hw) fun v s1 ⟨x, H1, I1, r, a, u, ex, hu, mu, q⟩ => ?_
  obtain ⟨od, I2⟩ := I1.lock hu mu
  exact ⟨x, _, I2, r, q od⟩
def gFrzD (G : GE) : GE := fun ρ Q => G ρ fun r ρ' => match r with
  | .own (.dic L) => Q (.sh (.dict (kvD L))) ρ'
  | _ => False
theorem de_frzD {G : GE} (h : DE X e G) : DE X e (gFrzD G) := ⟨fun ρ Q Q' hq q => h.mono _ _ _ (fun r ρ' z => by
    split at z
    · exact hq _ _ z
    · exact z) q, peI (pe_frz h.pe) fun σ H Q ⟨c, F, ρ, j, q⟩ => by
  refine ⟨c, F, ρ, j, h.mono _ _ _ (fun r ρ1 z F1 H1 v1 j1 vr => ?_) q⟩
  split at z
  · next L =>
    obtain ⟨a, ho, rfl, h2, ⟨ws, rfl, h3⟩, h4, h5, ap⟩ := vr
    refine ⟨a, _, rfl, h2, trivial, fun od => ?_⟩
    have j2 := (j1.poke (u := .frz od (.dK ws)) h4 h5 ap).frz upd_same h4 h5 ap
    obtain ⟨al, hk⟩ := dpKV_all h3
    exact z _ _ _ j2 (.dct upd_same (dpAllM (same_new h4 _) al) hk)
  · exact z.elim⟩
variable {x : Str} {p apos cpos py : Pos} {b f : Expr} {Ga Gb Gc : GE} {i : Nat}
def gInP (neg : Bool) (i : Nat) (a : GE) : GE := fun ρ Q => a ρ fun r ρ1 => withD r fun d => match ρ1[i]?, keyD d with
  | some (some (.sh (.dict ps))), some k => Q (.sh (.bool (if neg then !(getP ps k).isSome else (getP ps k).isSome))) ρ1
  | _, _ => False
theorem gInP_mono {neg : Bool} {i : Nat} {a : GE} (h : MonoE a) : MonoE (gInP neg i a) := fun _ _ _ hq q => h _ _ _ (fun _ _ z => withD_mono (fun _ z => by split at z <;> first | exact hq _ _ z | exact z) z) q
theorem inP_of {neg : Bool} {i : Nat} {σ : L2.St} {H : Hp} {Q : VK} (ha : DE X a Ga) (h : tDE X.K (gInP neg i Ga) σ H Q) : tDE X.K Ga σ H fun y H1 => tVar i σ H1 fun x H2 => ∃ a o, x = .ref a ∧ DGet H2 a y o ∧ Q (.bl (if neg then !o.isSome else o.isSome)) H2 := by
  obtain ⟨c, F, ρ, j, q⟩ := h
  refine ⟨c, F, ρ, j, ha.mono _ _ _ (fun r1 ρ1 q1 F1 H1 v1 j1 v1r => ?_) q⟩
  obtain ⟨d, hd, q1⟩ := withD_use q1
  obtain ⟨F2, j2, s2, dp⟩ := v1r.frz j1 hd
  split at q1
  · next ps k e hk =>
    obtain ⟨v, h1, dpd⟩ := j2.sh i _ e
    cases dpd with
    | dct e1 al hk2 =>
      have ev := keyD_v dp hk
      subst ev
      refine ⟨_, h1, _, _, rfl, .inl ⟨_, k, .inr ⟨_, j2.fh _ _ e1⟩, rfl, rfl⟩, ?_⟩
      cases eg : getP ps k with
      | none =>
        rw [eg] at q1
        rw [get_none hk2 eg]
        exact q1 F2 H1 _ j2 (.bl _)
      | some w =>
        obtain ⟨v2, ev, dv⟩ := get_dct al hk2 eg
        rw [eg] at q1
        rw [ev]
        exact q1 F2 H1 _ j2 (.bl _)
  · exact q1.elim
theorem dt_notInP (hu : X.A.units + 1 < cLine) (ha : DE X a Ga) (hy : PE X (.Name x py) (tVar i)) (h1 : behindInMarks .NotIn (.Name x py) = false := by rfl) : DT X (.Compare a [.NotIn] [.Name x py] pos) (gB (gInP true i Ga)) :=
  ⟨gB_mono (gInP_mono ha.mono), ptI (pt_cmp (pc_dnotin hu ha.pe hy) h1) (tTest_of (gInP_mono ha.mono) fun σ H Q h => inP_of ha h)⟩
def outP (kvs : List (Key × PyData)) (k : Key) : List (Key × PyData) := if hasK kvs k then outK kvs k else kvs
def gPopD2 (i : Nat) (G G' : GE) : GE := fun ρ Q => ownAt ρ i fun o _ => (match o with | .dic _ => True | _ => False) ∧ G ρ fun r ρ' => withD r fun d => ∃ k, keyD d = some k ∧ G' ρ' fun r2 ρ2 => withD r2 fun d2 => ownAt ρ2 i fun o w => match o with
  | .dic kvs => Q (.sh ((getP (kvD kvs) k).getD d2)) (ρ2.set i (some (w (.dic (outP kvs k)))))
  | _ => False
theorem gPopD2_mono {G G' : GE} (hG : MonoE G) (hG' : MonoE G') : MonoE (gPopD2 i G G') := fun ρ Q Q' h q => ownAt_mono (fun _ _ q => ⟨q.1, hG _ _ _ (fun r ρ' z => withD_mono (fun d ⟨k, ek, z⟩ => ⟨k, ek, hG' _ _ _ (fun r2 ρ2 z => withD_mono (fun d2 z => ownAt_mono (fun o w z => by
  split at z
  · exact h _ _ z
  · exact z) z) z) z⟩) z) q.2⟩) q
theorem de_popD2 (h : PE X (.Name x p) (tVar i)) (hb : DE X b Gb) (hc : DE X f Gc) (m : M2 X (.Name x p) "pop" apos b f cpos) : DE X (.Call (.Attribute (.Name x p) "pop" apos) [b, f] [] cpos) (gPopD2 i Gb Gc) := ⟨gPopD2_mono hb.mono hc.mono, peI (pe_dpop2 h hb.pe hc.pe m) fun σ H Q ⟨c, F, ρ, j, q⟩ => by
  obtain ⟨o0, w0, hw0, hρ0, ow0, q0, q⟩ := ownAt_use q
  obtain ⟨a0, ho0, hσ0, g0, k0, _⟩ := j.ow i o0 ow0
  have isd : IsD H a0 := by
    cases o0 with
    | lst _ => exact q0.elim
    | exc _ => exact q0.elim
    | dic kvs =>
      obtain ⟨ws, e, _⟩ := k0
      subst e
      exact .inl ⟨ws, .inl g0⟩
  refine ⟨.ref a0, hσ0, a0, rfl, isd, c, F, ρ, j, hb.mono _ _ _ (fun r1 ρ1 q1 F1 H1 v1 j1 v1r => ?_) q⟩
  obtain ⟨d, hd, k, hk, q1⟩ := withD_use q1
  obtain ⟨F2, j2, s2, dp⟩ := v1r.frz j1 hd
  have ev := keyD_v dp hk
  subst ev
  refine ⟨⟨F2, c.Z, c.io⟩, F2, ρ1, j2.anew, hc.mono _ _ _ (fun r2 ρ2 q2 F3 H3 v3 j3 v3r => ?_) q1⟩
  obtain ⟨d2, hd2, q2⟩ := withD_use q2
  obtain ⟨F4, j4, s4, dp4⟩ := v3r.frz j3 hd2
  obtain ⟨o, w, hw, hρ, ow, q2⟩ := ownAt_use q2
  obtain ⟨a4, ho, hσ, g2, g3, _⟩ := j4.ow i o ow
  rw [hσ0] at hσ
  cases hσ
  split at q2
  · next kvs =>
    obtain ⟨ws, rfl, al⟩ := g3
    have hf := paired_find (k := k) al
    obtain ⟨al2, hk2⟩ := dpKV_all al
    have jb := j2.back j4
    refine ⟨ws, k, g2, rfl, fun v ev => ?_, fun ev => ?_⟩
    · cases eg : getP (kvD kvs) k with
      | none =>
        have := get_none hk2 eg
        rw [ev] at this
        cases this
      | some z =>
        obtain ⟨v2, ev2, dv⟩ := get_dct al2 hk2 eg
        rw [ev] at ev2
        cases ev2
        rw [eg] at q2
        have j5 := jb.putW hw hρ hσ0 (o' := .dic (outK kvs k)) ⟨_, rfl, paired_out al⟩
        have oe : outP kvs k = outK kvs k := by unfold outP; rw [← hf, ev]; rfl
        rw [oe] at q2
        exact q2 F4 _ v j5 dv
    · cases eg : getP (kvD kvs) k with
      | some z =>
        obtain ⟨v2, ev2, dv⟩ := get_dct al2 hk2 eg
        rw [ev] at ev2
        cases ev2
      | none =>
        rw [eg] at q2
        have oe : outP kvs k = kvs := by unfold outP; rw [← hf, ev]; rfl
        rw [oe] at q2
        have same : ρ2.set i (some (w (.dic kvs))) = ρ2 := by
          apply List.ext_getElem?
          intro n
          rw [get_set]
          by_cases z : i = n
          · rw [if_pos z, if_pos (List.getElem?_eq_some_iff.mp hρ).1, ← z, hρ]
          · rw [if_neg z]
        rw [same] at q2
        exact q2 F4 _ v3 jb dp4
  · exact q2.elim⟩
end
end DL
namespace DX
open PySem PyProof.Rows L2 DL
section
variable {X : Cx} {a e : Expr} {pos : Pos} {t : XA} {x : Str} {p apos cpos py : Pos} {b f : Expr} {xa xb xc : XE} {i : Nat}
def vDictOf : VC
  | [.dict ps] => (kvO ps).map fun L => .own (.dic L)
  | _ => none
@[simp ↓] theorem vDictOf_kv (L : List (Key × PyData)) : vDictOf [.dict (kvD L)] = some (.own (.dic L)) := by
  show (kvO (kvD L)).map _ = _
  rw [kvO_kvD]
  rfl
theorem lc_dictOf : Lc vDictOf wDictOf := fun ds z Q h q => by
  unfold vDictOf at h
  split at h
  · next ps =>
    cases e : kvO ps with
    | none => rw [e] at h; cases h
    | some L => rw [e] at h; cases h; exact ⟨L, e, q⟩
  · cases h
theorem xe_dictOf (hg : Gl X "dict") (hm : X.mg "dict" = none) (h : AX X [a] t) (he : starEach [a] X.env = [(false, eval a X.env)] := by rfl) (hpl : (backTo pos (starEach [] X.env)).any (·.1) = false := by rfl) : EX X (.Call (.Name "dict" p) [a] [] pos) (xBlt vDictOf t) := exI (de_dictOf hg hm h he hpl) (im_blt lc_dictOf)
def xFrzD (x : XE) : XE := fun ρ => (x ρ).bind fun r ρ' => match r with | .own (.dic L) => .ok (.sh (.dict (kvD L))) ρ' | _ => .bad
@[simp ↓] theorem xFrzD_at (x : XE) (ρ : Rho) : xFrzD x ρ = (x ρ).bind fun r ρ' => match r with | .own (.dic L) => .ok (.sh (.dict (kvD L))) ρ' | _ => .bad := Eq.trans rfl rfl
theorem xe_frzD (h : EX X e xa) : EX X e (xFrzD xa) := exI (de_frzD h) fun ρ Q r ρ' ee q => by
  obtain ⟨r1, ρ1, e1, f1⟩ := Re.bind_inv ee
  refine ⟨r1, ρ1, e1, ?_⟩
  match r1, f1 with
  | .own (.dic L), f1 => cases f1; exact q
  | .own (.lst _), f1 => cases f1
  | .own (.exc _), f1 => cases f1
  | .sh _, f1 => cases f1
  | .io _, f1 => cases f1
  | .new _, f1 => cases f1
def inP (neg : Bool) (s : Option (Option R)) (d : PyData) : Option R := match s, keyD d with
  | some (some (.sh (.dict ps))), some k => some (.sh (.bool (if neg then !(getP ps k).isSome else (getP ps k).isSome)))
  | _, _ => none
@[simp ↓] theorem inP_int (neg : Bool) (ps : List (PyData × PyData)) (i : Int) : inP neg (some (some (.sh (.dict ps)))) (.int i) = some (.sh (.bool (if neg then !(getP ps (.inl i)).isSome else (getP ps (.inl i)).isSome))) := Eq.trans rfl rfl
def xInP (neg : Bool) (i : Nat) (a : XE) : XE := fun ρ => (a ρ).bind fun r ρ1 => withX r fun d => ofO (inP neg ρ1[i]? d) ρ1
@[simp ↓] theorem xInP_at (neg : Bool) (i : Nat) (a : XE) (ρ : Rho) : xInP neg i a ρ = (a ρ).bind fun r ρ1 => withX r fun d => ofO (inP neg ρ1[i]? d) ρ1 := Eq.trans rfl rfl
theorem im_inP {neg : Bool} (ρ : Rho) (Q : KE) (r : R) (ρ' : Rho) (e : xInP neg i xa ρ = .ok r ρ') (q : Q r ρ') : gInP neg i (toG xa) ρ Q := by
  obtain ⟨r1, ρ1, e1, f1⟩ := Re.bind_inv e
  obtain ⟨d, hd, f2⟩ := withX_inv f1
  obtain ⟨f3, f4⟩ := ofO_inv f2
  subst f4
  refine ⟨r1, _, e1, withD_mk hd ?_⟩
  unfold inP at f3
  split at f3
  · next ps k h1 h2 =>
    cases f3
    first | exact q | (rw [h1, h2]; exact q) | (simp only [h1, h2]; exact q)
  · cases f3
theorem tx_notInP (hu : X.A.units + 1 < cLine) (ha : EX X a xa) (hy : PE X (.Name x py) (tVar i)) (h1 : behindInMarks .NotIn (.Name x py) = false := by rfl) : TX X (.Compare a [.NotIn] [.Name x py] pos) (xB (xInP true i xa)) := txI (dt_notInP hu ha hy h1) (im_B im_inP)
def xPopD2 (i : Nat) (b c : XE) : XE := fun ρ => ownX ρ[i]? fun o _ => dicX o fun _ => (b ρ).bind fun r ρ1 => withX r fun d => keyX d fun k => (c ρ1).bind fun r2 ρ2 => withX r2 fun d2 => ownX ρ2[i]? fun o w => dicX o fun kvs => .ok (.sh ((getP (kvD kvs) k).getD d2)) (ρ2.set i (some (w (.dic (outP kvs k)))))
@[simp ↓] theorem xPopD2_at (i : Nat) (b c : XE) (ρ : Rho) : xPopD2 i b c ρ = ownX ρ[i]? fun o _ => dicX o fun _ => (b ρ).bind fun r ρ1 => withX r fun d => keyX d fun k => (c ρ1).bind fun r2 ρ2 => withX r2 fun d2 => ownX ρ2[i]? fun o w => dicX o fun kvs => .ok (.sh ((getP (kvD kvs) k).getD d2)) (ρ2.set i (some (w (.dic (outP kvs k))))) := Eq.trans rfl rfl
theorem xe_popD2 (h : PE X (.Name x p) (tVar i)) (hb : EX X b xb) (hc : EX X f xc) (m : M2 X (.Name x p) "pop" apos b f cpos) : EX X (.Call (.Attribute (.Name x p) "pop" apos) [b, f] [] cpos) (xPopD2 i xb xc) := exI (de_popD2 h hb hc m) fun ρ Q r ρ' e q => by
  obtain ⟨o, w, f1, k1⟩ := ownX_inv e
  refine k1 _ ?_
  cases o with
  | lst _ => cases f1
  | exc _ => cases f1
  | dic kvs =>
    obtain ⟨r1, ρ1, e1, f2⟩ := Re.bind_inv f1
    obtain ⟨d, hd, f3⟩ := withX_inv f2
    unfold keyX at f3
    cases ek : keyD d with
    | none => rw [ek] at f3; cases f3
    | some k =>
      rw [ek] at f3
      obtain ⟨r2, ρ2, e2, f4⟩ := Re.bind_inv f3
      obtain ⟨d2, hd2, f5⟩ := withX_inv f4
      obtain ⟨o2, w2, f6, k2⟩ := ownX_inv f5
      refine ⟨trivial, r1, ρ1, e1, withD_mk hd ⟨k, ek, r2, ρ2, e2, withD_mk hd2 (k2 _ ?_)⟩⟩
      cases o2 with
      | lst _ => cases f6
      | exc _ => cases f6
      | dic kvs2 => cases f6; exact q
end
end DX
set_option Elab.async false
set_option linter.all false
set_option maxRecDepth 100000
namespace PF
open PySem L2 DL DX
def U_sums_fault_v2_1 : XT :=
  (xNt (xB (xCall F_holds (xCons (xVar 0) (xCons (xVar 5) xNil)))))
def U_sums_fault_v2_2 : XS :=
  (xIf (xB (xBin (vEq true) (xCall F_entry_of_v3 (xCons (xVar 3) (xCons (xVarD 1) xNil))) (xCall F_entry_due_v3 (xCons (xVar 3) (xCons (xVarD 1) xNil))))) (xRet (xTup (xCons (xC (.str "wrong")) (xCons (xBin vIx (xIxU 3 (xC (.int 1))) (xC (.int 0))) xNil)))) xNext)
def U_sums_fault_v2_3 : XS :=
  (xIf (xB (xInP true 1 (xBin vIx (xIxU 3 (xC (.int 1))) (xC (.int 0))))) (xRet (xTup (xCons (xC (.str "lacks")) (xCons (xBin vIx (xIxU 3 (xC (.int 1))) (xC (.int 0))) xNil)))) xNext)
def U_sums_fault_v2 : XS :=
  (xSeq (xAsg (xCall (F_parts_in 70) (xCons (xVar 0) xNil)) (xN 2))
    (xSeq (xFor (xiSeq (xVar 2)) (xN 3) U_sums_fault_v2_3)
    (xSeq (xFor (xiSeq (xVar 2)) (xN 3) U_sums_fault_v2_2)
    (xSeq (xAsg (xLc (xiKeys (xVarD 1)) [5] (xN 5) U_sums_fault_v2_1 (xVar 5)) (xN 4))
    (xSeq (xIf (xB (xBin vGt (xLenU 4) (xC (.int 0)))) (xRet (xTup (xCons (xC (.str "spare")) (xCons (xBlt vMinL (xCons (xVar 4) xNil)) xNil)))) xNext)
    (xRet (xC .none)))))))
def F_sums_fault_v2 : Fn := runD 2 6 U_sums_fault_v2
theorem F_sums_fault_v2_eq (a0 a1 : PyData) : F_sums_fault_v2 [a0, a1] = (U_sums_fault_v2 [some (.sh a0), some (.sh a1), none, none, none, none]).fin := runD_eq (m := 2) (n := 6) U_sums_fault_v2 [a0, a1] _ rfl rfl
end PF
set_option Elab.async false
set_option linter.all false
set_option maxRecDepth 100000
namespace PF
open PySem L2 DL DX
def U_law_due_v15_1 : XT :=
  (xB (xBin (vIn true) (xVar 4) (xVar 3)))
def U_law_due_v15_2 : XS :=
  (xSeq (xAsg (xCall F_law_made_v2 (xCons (xCall F_law_side_v2 (xCons (xIxU 5 (xC (.int 0))) (xCons (xVarD 1) xNil))) (xCons (xBin vIx (xIxU 5 (xC (.int 1))) (xC (.int 2))) (xCons (xCall F_law_side_v2 (xCons (xIxU 5 (xC (.int 2))) (xCons (xVarD 1) xNil))) xNil)))) (xN 7))
    (xIf (xB (xBin (vEq true) (xDIx 1 (xBin vIx (xIxU 5 (xC (.int 1))) (xC (.int 0)))) (xVar 7))) (xRet (xTup (xCons (xC (.str "wrong")) (xCons (xBin vIx (xIxU 5 (xC (.int 1))) (xC (.int 0))) xNil)))) xNext))
def U_law_due_v15_3 : XS :=
  (xIf (xB (xInP true 1 (xVar 4))) (xRet (xTup (xCons (xC (.str "lacks")) (xCons (xVar 4) xNil)))) xNext)
def U_law_due_v15_4 : XE :=
  (xBin vIx (xIxU 5 (xC (.int 1))) (xC (.int 0)))
def U_law_due_v15 : XS :=
  (xSeq (xAsg (xCall (F_law_parts 70) (xCons (xVar 0) xNil)) (xN 2))
    (xSeq (xAsg (xLc (xiSeq (xVar 2)) [5] (xN 5) xYes U_law_due_v15_4) (xN 3))
    (xSeq (xFor (xiSeq (xVar 3)) (xN 4) U_law_due_v15_3)
    (xSeq (xFor (xiSeq (xVar 2)) (xN 5) U_law_due_v15_2)
    (xSeq (xAsg (xBlt vSorted (xCons (xLc (xiKeys (xVarD 1)) [4] (xN 4) U_law_due_v15_1 (xVar 4)) xNil)) (xN 6))
    (xSeq (xIf (xB (xBin (vEq true) (xVar 6) (xLst xNil))) (xRet (xTup (xCons (xC (.str "spare")) (xCons (xIxU 6 (xC (.int 0))) xNil)))) xNext)
    (xRet (xC .none))))))))
def F_law_due_v15 : Fn := runD 2 8 U_law_due_v15
theorem F_law_due_v15_eq (a0 a1 : PyData) : F_law_due_v15 [a0, a1] = (U_law_due_v15 [some (.sh a0), some (.sh a1), none, none, none, none, none, none]).fin := runD_eq (m := 2) (n := 8) U_law_due_v15 [a0, a1] _ rfl rfl
end PF
set_option Elab.async false
set_option linter.all false
set_option maxRecDepth 100000
set_option maxHeartbeats 1000000
namespace PF
open PySem L2 DL DX
def unE : PyData → E5
  | .tuple [.int m, .int t, .int a, .int b, .int i] => ⟨m, t, a, b, i⟩
  | _ => zero5
theorem unE_d (e : E5) : unE e.d = e := rfl
def eAt (kvs : List (Key × PyData)) : T → E5
  | .nil => zero5
  | .node _ c _ => match at29 kvs c.k with | some d => unE d | none => zero5
theorem side_eAt {kvs : List (Key × PyData)} (h : Dk kvs) : ∀ t : T, (∀ c ∈ t.cards, (at29 kvs c.k).isSome = true) → Side kvs t (eAt kvs t)
  | .nil, _ => rfl
  | .node l c r, hc => by
    have := hc c (by simp [T.cards])
    show at29 kvs c.k = some (eAt kvs (.node l c r)).d
    cases e : at29 kvs c.k with
    | none => rw [e] at this; cases this
    | some d =>
      obtain ⟨x, rfl⟩ := h.at e
      simp only [eAt, e, unE_d]
def wrongT (kvs : List (Key × PyData)) : T → Bool
  | .nil => false
  | .node l c r => !(PyData.eqv (eAt kvs (.node l c r)).d (E5.made c.w (eAt kvs l) (eAt kvs r)).d)
def lackK (kvs : List (Key × PyData)) (ks : List Int) : Option Int := ks.find? fun k => !(at29 kvs k).isSome
def kI : Key → Int
  | .inl k => k
  | .inr _ => 0
def spareL (kvs : List (Key × PyData)) (ks : List Int) : List Int := (kvs.map fun p => kI p.1).filter fun k => !decide (k ∈ ks)
def tell (s : Str) (k : Int) : PyData := .tuple [.str s, .int k]
def faultD (kvs : List (Key × PyData)) (t : T) : PyData :=
  match lackK kvs (t.cards.map Card.k) with
  | some k => tell "lacks" k
  | none => match t.prts.find? (wrongT kvs) with
    | some p => tell "wrong" p.topc.k
    | none => if spareL kvs (t.cards.map Card.k) = [] then .none else tell "spare" (minOf (spareL kvs (t.cards.map Card.k)))
theorem prts_sub : ∀ t : T, ∀ q ∈ t.prts, (∃ l c r, q = T.node l c r) ∧ ∀ c ∈ q.cards, c ∈ t.cards := by
  intro t
  induction t with
  | nil => intro q h; cases h
  | node l c r ihl ihr =>
    intro q h
    rw [T.prts] at h
    rcases List.mem_append.mp h with h | h
    · obtain ⟨x, z⟩ := ihl q h
      exact ⟨x, fun c hc => by simp only [T.cards, List.mem_append]; exact .inl (z c hc)⟩
    · rcases List.mem_cons.mp h with rfl | h
      · exact ⟨⟨l, c, r, rfl⟩, fun c hc => hc⟩
      · obtain ⟨x, z⟩ := ihr q h
        exact ⟨x, fun c hc => by simp only [T.cards, List.mem_append, List.mem_cons]; exact .inr (.inr (z c hc))⟩
theorem prts_keys : ∀ t : T, t.prts.map (fun p => p.topc.k) = t.cards.map Card.k
  | .nil => rfl
  | .node l c r => by
    rw [T.prts, List.map_append, List.map_cons, prts_keys l, prts_keys r]
    simp [T.cards, T.topc]
theorem lack_loop {kvs : List (Key × PyData)} {d0 : PyData} {s2 s4 s5 : Option R} : ∀ (ps : List T) (s3 : Option R), NIo s3 → (∀ p ∈ ps, ∃ l c r, p = T.node l c r) →
    (∀ k, lackK kvs (ps.map fun p => p.topc.k) = some k → ∃ ρ', forX (xN 3) U_sums_fault_v2_3 (ps.map T.d) [some (.sh d0), some (.sh (.dict (kvD kvs))), s2, s3, s4, s5] = .rt (.sh (tell "lacks" k)) ρ') ∧
    (lackK kvs (ps.map fun p => p.topc.k) = none → ∃ s3', NIo s3' ∧ forX (xN 3) U_sums_fault_v2_3 (ps.map T.d) [some (.sh d0), some (.sh (.dict (kvD kvs))), s2, s3, s4, s5] = .nx [some (.sh d0), some (.sh (.dict (kvD kvs))), s2, s3', s4, s5])
  | [], s3, n3, _ => ⟨fun k h => (by cases h), fun _ => ⟨s3, n3, rfl⟩⟩
  | p :: ps, s3, n3, hp => by
    obtain ⟨l, c, r, rfl⟩ := hp p (by simp)
    have ih := lack_loop (kvs := kvs) (d0 := d0) (s2 := s2) (s4 := s4) (s5 := s5) ps (some (.sh (T.node l c r).d)) (.sh _) (fun q hq => hp q (by simp [hq]))
    have tg : xN 3 (.sh (T.node l c r).d) [some (.sh d0), some (.sh (.dict (kvD kvs))), s2, s3, s4, s5] = some [some (.sh d0), some (.sh (.dict (kvD kvs))), s2, some (.sh (T.node l c r).d), s4, s5] := by simp [n3 _]
    have hd : (T.node l c r).d = .tuple [l.d, .tuple [.int c.k, .int c.r, .int c.w], r.d] := by rw [T.d, Card.d]
    rw [List.map_cons, List.map_cons, forX_cons, tg, opX_some]
    unfold lackK
    rw [List.find?_cons]
    have tk : (T.node l c r).topc.k = c.k := rfl
    rw [tk]
    cases e : at29 kvs c.k with
    | none =>
      have e' := e
      unfold at29 at e'
      have b : U_sums_fault_v2_3 [some (.sh d0), some (.sh (.dict (kvD kvs))), s2, some (.sh (T.node l c r).d), s4, s5] = .rt (.sh (tell "lacks" c.k)) [some (.sh d0), some (.sh (.dict (kvD kvs))), s2, some (.sh (T.node l c r).d), s4, s5] := by
        rw [hd]
        generalize kvD kvs = KD at *
        simp (disch := first | assumption | omega) [U_sums_fault_v2_3, e', tell, gr_ok, gd_ok]
      rw [b]
      refine ⟨fun k h => ?_, fun h => by cases h⟩
      cases h
      exact ⟨_, rfl⟩
    | some d =>
      have e' := e
      unfold at29 at e'
      have b : U_sums_fault_v2_3 [some (.sh d0), some (.sh (.dict (kvD kvs))), s2, some (.sh (T.node l c r).d), s4, s5] = .nx [some (.sh d0), some (.sh (.dict (kvD kvs))), s2, some (.sh (T.node l c r).d), s4, s5] := by
        rw [hd]
        generalize kvD kvs = KD at *
        simp (disch := first | assumption | omega) [U_sums_fault_v2_3, e', gr_ok, gd_ok]
      rw [b]
      exact ih
theorem wrong_loop {kvs : List (Key × PyData)} (hD : Dk kvs) {d0 : PyData} {s2 s4 s5 : Option R} : ∀ (ps : List T) (s3 : Option R), NIo s3 → (∀ p ∈ ps, (∃ l c r, p = T.node l c r) ∧ ∀ c ∈ p.cards, (at29 kvs c.k).isSome = true) →
    (∀ p, ps.find? (wrongT kvs) = some p → ∃ ρ', forX (xN 3) U_sums_fault_v2_2 (ps.map T.d) [some (.sh d0), some (.sh (.dict (kvD kvs))), s2, s3, s4, s5] = .rt (.sh (tell "wrong" p.topc.k)) ρ') ∧
    (ps.find? (wrongT kvs) = none → ∃ s3', NIo s3' ∧ forX (xN 3) U_sums_fault_v2_2 (ps.map T.d) [some (.sh d0), some (.sh (.dict (kvD kvs))), s2, s3, s4, s5] = .nx [some (.sh d0), some (.sh (.dict (kvD kvs))), s2, s3', s4, s5])
  | [], s3, n3, _ => ⟨fun k h => (by cases h), fun _ => ⟨s3, n3, rfl⟩⟩
  | p :: ps, s3, n3, hp => by
    obtain ⟨⟨l, c, r, rfl⟩, hc⟩ := hp p (by simp)
    have ih := wrong_loop hD (d0 := d0) (s2 := s2) (s4 := s4) (s5 := s5) ps (some (.sh (T.node l c r).d)) (.sh _) (fun q hq => hp q (by simp [hq]))
    have tg : xN 3 (.sh (T.node l c r).d) [some (.sh d0), some (.sh (.dict (kvD kvs))), s2, s3, s4, s5] = some [some (.sh d0), some (.sh (.dict (kvD kvs))), s2, some (.sh (T.node l c r).d), s4, s5] := by simp [n3 _]
    have hd : (T.node l c r).d = .tuple [l.d, .tuple [.int c.k, .int c.r, .int c.w], r.d] := by rw [T.d, Card.d]
    have so := entry_of28 (side_eAt hD (T.node l c r) hc)
    have sl := side_eAt hD l (fun x hx => hc x (by simp [T.cards, hx]))
    have sr := side_eAt hD r (fun x hx => hc x (by simp [T.cards, hx]))
    have sd := entry_due28 (c := c) sl sr
    have ve : vEq true (eAt kvs (T.node l c r)).d (E5.made c.w (eAt kvs l) (eAt kvs r)).d = some (.sh (.bool (wrongT kvs (T.node l c r)))) := by
      rw [vEq_lay ⟨E5.lay _, Nat.lt_of_le_of_lt (E5.dep _) (by decide)⟩ (E5.lay _)]
      rfl
    rw [List.map_cons, forX_cons, tg, opX_some, List.find?_cons]
    generalize hW : wrongT kvs (T.node l c r) = W at ve ⊢
    generalize (eAt kvs (T.node l c r)).d = A at *
    generalize (E5.made c.w (eAt kvs l) (eAt kvs r)).d = B at *
    have b : U_sums_fault_v2_2 [some (.sh d0), some (.sh (.dict (kvD kvs))), s2, some (.sh (T.node l c r).d), s4, s5] = if W then .rt (.sh (tell "wrong" c.k)) [some (.sh d0), some (.sh (.dict (kvD kvs))), s2, some (.sh (T.node l c r).d), s4, s5] else .nx [some (.sh d0), some (.sh (.dict (kvD kvs))), s2, some (.sh (T.node l c r).d), s4, s5] := by
      rw [hd] at so sd ⊢
      generalize kvD kvs = KD at *
      cases W <;> simp (disch := first | assumption | omega) [U_sums_fault_v2_2, so, sd, ve, tell, gr_ok, gd_ok]
    rw [b]
    cases W with
    | true =>
      refine ⟨fun k h => ?_, fun h => by cases h⟩
      cases h
      exact ⟨_, rfl⟩
    | false => exact ih
theorem keysI28 {kvs : List (Key × PyData)} (h : Dk kvs) : (kvD kvs).map Prod.fst = (kvs.map fun p => kI p.1).map .int := by
  rw [keys27, List.map_map]
  refine List.map_congr_left fun p hp => ?_
  obtain ⟨k, e, rfl⟩ := h.form p hp
  rfl
theorem fault28 {kvs : List (Key × PyData)} (hD : Dk kvs) {t : T} (ht : t.hi < 70) (hl : t.cards.length ≤ 1000) (hr : Rise t.cards) (hk : kvs.length ≤ 1000) : F_sums_fault_v2 [t.d, .dict (kvD kvs)] = .ok (.sh (faultD kvs t)) () := by
  rw [F_sums_fault_v2_eq]
  have ep := parts28 70 t ht hl
  have plen : (t.prts.map T.d).length ≤ 1000 := by rw [List.length_map, prts_len]; omega
  obtain ⟨L1, L2⟩ := lack_loop (kvs := kvs) (d0 := t.d) (s2 := some (.sh (.list (t.prts.map T.d)))) (s4 := none) (s5 := none) t.prts none .none (fun p hp => (prts_sub t p hp).1)
  rw [prts_keys] at L1 L2
  unfold faultD
  cases e1 : lackK kvs (t.cards.map Card.k) with
  | some k =>
    obtain ⟨ρ', q⟩ := L1 k e1
    simp only
    generalize kvD kvs = KD at *
    generalize t.prts.map T.d = PD at *
    generalize t.d = TD at *
    simp (disch := first | assumption | omega) [U_sums_fault_v2, ep, q, gr_ok, gd_ok]
  | none =>
    obtain ⟨s3, n3, q⟩ := L2 e1
    have all : ∀ c ∈ t.cards, (at29 kvs c.k).isSome = true := fun c hc => by
      have := List.find?_eq_none.mp e1 c.k (List.mem_map_of_mem hc)
      cases e : at29 kvs c.k with
      | none => rw [e] at this; exact absurd rfl this
      | some d => rfl
    obtain ⟨W1, W2⟩ := wrong_loop hD (d0 := t.d) (s2 := some (.sh (.list (t.prts.map T.d)))) (s4 := none) (s5 := none) t.prts s3 n3 (fun p hp => ⟨(prts_sub t p hp).1, fun c hc => all c ((prts_sub t p hp).2 c hc)⟩)
    simp only
    cases e2 : t.prts.find? (wrongT kvs) with
    | some p =>
      obtain ⟨ρ', q2⟩ := W1 p e2
      simp only
      generalize kvD kvs = KD at *
      generalize t.prts.map T.d = PD at *
      generalize t.d = TD at *
      simp (disch := first | assumption | omega) [U_sums_fault_v2, ep, q, q2, gr_ok, gd_ok]
    | none =>
      obtain ⟨s3', n3', q2⟩ := W2 e2
      simp only
      have lc := lcX_filter (vs := [5]) (g := xN 5) (T := U_sums_fault_v2_1) (e := xVar 5) (enc := PyData.int) (f := PyData.int) (q := fun k => !decide (k ∈ t.cards.map Card.k)) (ρ := [some (.sh t.d), some (.sh (.dict (kvD kvs))), some (.sh (.list (t.prts.map T.d))), s3', none, none]) (kvs.map fun p => kI p.1) [] (fun k _ => by
        by_cases z : k ∈ t.cards.map Card.k
        · have h := holds_yes (t := t) (key := k) (by omega) hr (by
            obtain ⟨c, hc, e⟩ := List.mem_map.mp z
            exact ⟨c, hc, e⟩)
          generalize kvD kvs = KD at *
          generalize t.prts.map T.d = PD at *
          generalize t.d = TD at *
          simp (disch := first | assumption | omega) [turnX, U_sums_fault_v2_1, calmX, wipeR, h, z, gr_ok, gd_ok]
        · have h := holds_no (t := t) (key := k) (by omega) (fun ⟨c, hc, e⟩ => z (e ▸ List.mem_map_of_mem hc))
          generalize kvD kvs = KD at *
          generalize t.prts.map T.d = PD at *
          generalize t.d = TD at *
          simp (disch := first | assumption | omega) [turnX, U_sums_fault_v2_1, calmX, wipeR, h, z, gr_ok, gd_ok]) (by simp; omega)
      have kf := keysI28 hD
      have sp : (kvs.map fun p => kI p.1).filter (fun k => !decide (k ∈ t.cards.map Card.k)) = spareL kvs (t.cards.map Card.k) := rfl
      rw [sp, List.nil_append] at lc
      rw [← kf] at lc
      have sl : (spareL kvs (t.cards.map Card.k)).length ≤ 1000 := by
        unfold spareL
        exact Nat.le_trans (List.length_filter_le _ _) (by rw [List.length_map]; exact hk)
      generalize spareL kvs (t.cards.map Card.k) = SP at *
      have spl : (SP.map PyData.int).length = SP.length := List.length_map _
      have iv : intsOf (SP.map PyData.int) = some SP := intsOf_map SP
      by_cases z : SP = []
      · subst z
        simp only [List.map_nil] at lc
        generalize kvD kvs = KD at *
        generalize t.prts.map T.d = PD at *
        generalize t.d = TD at *
        simp (disch := first | assumption | omega) [U_sums_fault_v2, ep, q, q2, lc, calmX, wipeR, restR, gr_ok, gd_ok]
      · have pos : 0 < SP.length := List.length_pos_iff.mpr z
        generalize kvD kvs = KD at *
        generalize t.prts.map T.d = PD at *
        generalize t.d = TD at *
        generalize SP.map PyData.int = SD at *
        simp (disch := first | assumption | omega) [U_sums_fault_v2, ep, q, q2, lc, spl, iv, pos, z, tell, calmX, wipeR, restR, gr_ok, gd_ok]
end PF
set_option Elab.async false
set_option linter.all false
set_option maxRecDepth 100000
set_option maxHeartbeats 1000000
namespace PF
open PySem L2 DL DX
theorem lack_law {kvs : List (Key × PyData)} {d0 d2 d3 : PyData} {s5 s6 s7 : Option R} : ∀ (ks : List Int) (s4 : Option R), NIo s4 →
    (∀ k, lackK kvs ks = some k → ∃ ρ', forX (xN 4) U_law_due_v15_3 (ks.map .int) [some (.sh d0), some (.sh (.dict (kvD kvs))), some (.sh d2), some (.sh d3), s4, s5, s6, s7] = .rt (.sh (tell "lacks" k)) ρ') ∧
    (lackK kvs ks = none → ∃ s4', NIo s4' ∧ (s4 = none → ks = [] → s4' = none) ∧ forX (xN 4) U_law_due_v15_3 (ks.map .int) [some (.sh d0), some (.sh (.dict (kvD kvs))), some (.sh d2), some (.sh d3), s4, s5, s6, s7] = .nx [some (.sh d0), some (.sh (.dict (kvD kvs))), some (.sh d2), some (.sh d3), s4', s5, s6, s7] ∧ (s4' = s4 ∨ ∃ k : Int, s4' = some (.sh (.int k))))
  | [], s4, n4 => ⟨fun k h => (by cases h), fun _ => ⟨s4, n4, fun h _ => h, rfl, .inl rfl⟩⟩
  | k :: ks, s4, n4 => by
    obtain ⟨i1, i2⟩ := lack_law (kvs := kvs) (d0 := d0) (d2 := d2) (d3 := d3) (s5 := s5) (s6 := s6) (s7 := s7) ks (some (.sh (.int k))) (.sh _)
    have tg : xN 4 (.sh (.int k)) [some (.sh d0), some (.sh (.dict (kvD kvs))), some (.sh d2), some (.sh d3), s4, s5, s6, s7] = some [some (.sh d0), some (.sh (.dict (kvD kvs))), some (.sh d2), some (.sh d3), some (.sh (.int k)), s5, s6, s7] := by simp [n4 _]
    rw [List.map_cons, forX_cons, tg, opX_some]
    unfold lackK at i1 i2 ⊢
    rw [List.find?_cons]
    cases e : at29 kvs k with
    | none =>
      have e' := e
      unfold at29 at e'
      have b : U_law_due_v15_3 [some (.sh d0), some (.sh (.dict (kvD kvs))), some (.sh d2), some (.sh d3), some (.sh (.int k)), s5, s6, s7] = .rt (.sh (tell "lacks" k)) [some (.sh d0), some (.sh (.dict (kvD kvs))), some (.sh d2), some (.sh d3), some (.sh (.int k)), s5, s6, s7] := by
        generalize kvD kvs = KD at *
        simp (disch := first | assumption | omega) [U_law_due_v15_3, e', tell, gr_ok, gd_ok]
      rw [b]
      refine ⟨fun k h => ?_, fun h => by cases h⟩
      cases h
      exact ⟨_, rfl⟩
    | some d =>
      have e' := e
      unfold at29 at e'
      have b : U_law_due_v15_3 [some (.sh d0), some (.sh (.dict (kvD kvs))), some (.sh d2), some (.sh d3), some (.sh (.int k)), s5, s6, s7] = .nx [some (.sh d0), some (.sh (.dict (kvD kvs))), some (.sh d2), some (.sh d3), some (.sh (.int k)), s5, s6, s7] := by
        generalize kvD kvs = KD at *
        simp (disch := first | assumption | omega) [U_law_due_v15_3, e', gr_ok, gd_ok]
      rw [b]
      refine ⟨i1, fun h => ?_⟩
      obtain ⟨s4', n4', _, q, r⟩ := i2 h
      exact ⟨s4', n4', fun _ z => (by cases z), q, .inr (r.elim (fun r => ⟨k, r⟩) id)⟩
theorem wrong_law {kvs : List (Key × PyData)} (hD : Dk kvs) {d0 d2 d3 : PyData} {s4 s6 : Option R} : ∀ (ps : List T) (s5 s7 : Option R), NIo s5 → NIo s7 → (∀ p ∈ ps, (∃ l c r, p = T.node l c r) ∧ ∀ c ∈ p.cards, (at29 kvs c.k).isSome = true) →
    (∀ p, ps.find? (wrongT kvs) = some p → ∃ ρ', forX (xN 5) U_law_due_v15_2 (ps.map T.d) [some (.sh d0), some (.sh (.dict (kvD kvs))), some (.sh d2), some (.sh d3), s4, s5, s6, s7] = .rt (.sh (tell "wrong" p.topc.k)) ρ') ∧
    (ps.find? (wrongT kvs) = none → ∃ s5' s7', NIo s5' ∧ NIo s7' ∧ forX (xN 5) U_law_due_v15_2 (ps.map T.d) [some (.sh d0), some (.sh (.dict (kvD kvs))), some (.sh d2), some (.sh d3), s4, s5, s6, s7] = .nx [some (.sh d0), some (.sh (.dict (kvD kvs))), some (.sh d2), some (.sh d3), s4, s5', s6, s7'])
  | [], s5, s7, n5, n7, _ => ⟨fun k h => (by cases h), fun _ => ⟨s5, s7, n5, n7, rfl⟩⟩
  | p :: ps, s5, s7, n5, n7, hp => by
    obtain ⟨⟨l, c, r, rfl⟩, hc⟩ := hp p (by simp)
    have ih := wrong_law hD (d0 := d0) (d2 := d2) (d3 := d3) (s4 := s4) (s6 := s6) ps (some (.sh (T.node l c r).d)) (some (.sh (E5.made c.w (eAt kvs l) (eAt kvs r)).d)) (.sh _) (.sh _) (fun q hq => hp q (by simp [hq]))
    have tg : xN 5 (.sh (T.node l c r).d) [some (.sh d0), some (.sh (.dict (kvD kvs))), some (.sh d2), some (.sh d3), s4, s5, s6, s7] = some [some (.sh d0), some (.sh (.dict (kvD kvs))), some (.sh d2), some (.sh d3), s4, some (.sh (T.node l c r).d), s6, s7] := by simp [n5 _]
    have hd : (T.node l c r).d = .tuple [l.d, .tuple [.int c.k, .int c.r, .int c.w], r.d] := by rw [T.d, Card.d]
    have so : at29 kvs c.k = some (eAt kvs (T.node l c r)).d := side_eAt hD (T.node l c r) hc
    have sl := side28 (side_eAt hD l (fun x hx => hc x (by simp [T.cards, hx])))
    have sr := side28 (side_eAt hD r (fun x hx => hc x (by simp [T.cards, hx])))
    have sd := made28 c.w (eAt kvs l) (eAt kvs r)
    have ve : vEq true (eAt kvs (T.node l c r)).d (E5.made c.w (eAt kvs l) (eAt kvs r)).d = some (.sh (.bool (wrongT kvs (T.node l c r)))) := by
      rw [vEq_lay ⟨E5.lay _, Nat.lt_of_le_of_lt (E5.dep _) (by decide)⟩ (E5.lay _)]
      rfl
    rw [List.map_cons, forX_cons, tg, opX_some, List.find?_cons]
    unfold at29 at so
    generalize hW : wrongT kvs (T.node l c r) = W at ve ⊢
    generalize (eAt kvs (T.node l c r)).d = A at *
    generalize (E5.made c.w (eAt kvs l) (eAt kvs r)).d = B at *
    have b : U_law_due_v15_2 [some (.sh d0), some (.sh (.dict (kvD kvs))), some (.sh d2), some (.sh d3), s4, some (.sh (T.node l c r).d), s6, s7] = if W then .rt (.sh (tell "wrong" c.k)) [some (.sh d0), some (.sh (.dict (kvD kvs))), some (.sh d2), some (.sh d3), s4, some (.sh (T.node l c r).d), s6, some (.sh B)] else .nx [some (.sh d0), some (.sh (.dict (kvD kvs))), some (.sh d2), some (.sh d3), s4, some (.sh (T.node l c r).d), s6, some (.sh B)] := by
      rw [hd]
      generalize kvD kvs = KD at *
      cases W <;> simp (disch := first | assumption | omega) [U_law_due_v15_2, so, sl, sr, sd, ve, n7 _, tell, gr_ok, gd_ok]
    rw [b]
    cases W with
    | true =>
      refine ⟨fun k h => ?_, fun h => by cases h⟩
      cases h
      exact ⟨_, rfl⟩
    | false => exact ih
theorem sort_min {xs : List Int} (h : xs ≠ []) : ∃ rest, sortI xs = minOf xs :: rest := by
  have p := sortI_perm xs
  have u := sortI_up xs
  cases e : sortI xs with
  | nil =>
    rw [e] at p
    exact absurd (List.Perm.nil_eq p).symm h
  | cons m rest =>
    rw [e] at p u
    refine ⟨rest, ?_⟩
    rw [minOf_eq (m := m) (p.mem_iff.mp List.mem_cons_self) (fun y hy => by
      rcases List.mem_cons.mp (p.mem_iff.mpr hy) with rfl | z
      · exact Int.le_refl _
      · exact (List.pairwise_cons.mp u).1 y z)]
theorem lawdue28 {kvs : List (Key × PyData)} (hD : Dk kvs) {t : T} (ht : t.hi < 70) (hl : t.cards.length ≤ 1000) (hk : kvs.length ≤ 1000) (hs : (spareL kvs (t.cards.map Card.k)).length < 64) : F_law_due_v15 [t.d, .dict (kvD kvs)] = .ok (.sh (faultD kvs t)) () := by
  rw [F_law_due_v15_eq]
  have ep := lparts_eq 70 t ht hl
  have plen : (t.prts.map T.d).length ≤ 1000 := by rw [List.length_map, prts_len]; omega
  have klen : ((t.cards.map Card.k).map PyData.int).length ≤ 1000 := by rw [List.length_map, List.length_map]; omega
  have lc := lcX_all (vs := [5]) (g := xN 5) (T := xYes) (e := U_law_due_v15_4) (enc := T.d) (f := fun p => PyData.int p.topc.k) (ρ := [some (.sh t.d), some (.sh (.dict (kvD kvs))), some (.sh (.list (t.prts.map T.d))), none, none, none, none, none]) t.prts [] (fun p hp => by
    obtain ⟨⟨l, c, r, rfl⟩, _⟩ := prts_sub t p hp
    have hd : (T.node l c r).d = .tuple [l.d, .tuple [.int c.k, .int c.r, .int c.w], r.d] := by rw [T.d, Card.d]
    have tk : (T.node l c r).topc.k = c.k := rfl
    rw [tk, hd]
    generalize kvD kvs = KD at *
    generalize t.prts.map T.d = PD at *
    generalize t.d = TD at *
    simp (disch := first | assumption | omega) [turnX, U_law_due_v15_4, calmX, wipeR, gr_ok, gd_ok]) (by rw [prts_len, List.length_nil]; omega)
  have kk : t.prts.map (fun p => PyData.int p.topc.k) = (t.cards.map Card.k).map .int := by rw [← prts_keys, List.map_map]; rfl
  rw [kk, List.nil_append] at lc
  obtain ⟨L1, L2⟩ := lack_law (kvs := kvs) (d0 := t.d) (d2 := .list (t.prts.map T.d)) (d3 := .list ((t.cards.map Card.k).map .int)) (s5 := none) (s6 := none) (s7 := none) (t.cards.map Card.k) none .none
  unfold faultD
  cases e1 : lackK kvs (t.cards.map Card.k) with
  | some k =>
    obtain ⟨ρ', q⟩ := L1 k e1
    simp only
    generalize kvD kvs = KD at *
    generalize t.prts.map T.d = PD at *
    generalize (t.cards.map Card.k).map PyData.int = KS at *
    generalize t.d = TD at *
    simp (disch := first | assumption | omega) [U_law_due_v15, ep, lc, q, calmX, wipeR, restR, gr_ok, gd_ok]
  | none =>
    obtain ⟨s4, n4, _, q, r4⟩ := L2 e1
    have all : ∀ c ∈ t.cards, (at29 kvs c.k).isSome = true := fun c hc => by
      have := List.find?_eq_none.mp e1 c.k (List.mem_map_of_mem hc)
      cases e : at29 kvs c.k with
      | none => rw [e] at this; exact absurd rfl this
      | some d => rfl
    obtain ⟨W1, W2⟩ := wrong_law hD (d0 := t.d) (d2 := .list (t.prts.map T.d)) (d3 := .list ((t.cards.map Card.k).map .int)) (s4 := s4) (s6 := none) t.prts none none .none .none (fun p hp => ⟨(prts_sub t p hp).1, fun c hc => all c ((prts_sub t p hp).2 c hc)⟩)
    simp only
    cases e2 : t.prts.find? (wrongT kvs) with
    | some p =>
      obtain ⟨ρ', q2⟩ := W1 p e2
      simp only
      generalize kvD kvs = KD at *
      generalize t.prts.map T.d = PD at *
      generalize (t.cards.map Card.k).map PyData.int = KS at *
      generalize t.d = TD at *
      simp (disch := first | assumption | omega) [U_law_due_v15, ep, lc, q, q2, calmX, wipeR, restR, gr_ok, gd_ok]
    | none =>
      obtain ⟨s5', s7', n5', n7', q2⟩ := W2 e2
      simp only
      have lc2 := lcX_filter (vs := [4]) (g := xN 4) (T := U_law_due_v15_1) (e := xVar 4) (enc := PyData.int) (f := PyData.int) (q := fun k => !decide (k ∈ t.cards.map Card.k)) (ρ := [some (.sh t.d), some (.sh (.dict (kvD kvs))), some (.sh (.list (t.prts.map T.d))), some (.sh (.list ((t.cards.map Card.k).map .int))), none, s5', none, s7']) (kvs.map fun p => kI p.1) [] (fun k _ => by
        have iv := in_ints true (t.cards.map Card.k) k
        rw [if_pos rfl] at iv
        generalize kvD kvs = KD at *
        generalize t.prts.map T.d = PD at *
        generalize decide (k ∈ t.cards.map Card.k) = B at *
        generalize (t.cards.map Card.k).map PyData.int = KS at *
        generalize t.d = TD at *
        cases B <;> simp (disch := first | assumption | omega) [turnX, U_law_due_v15_1, calmX, wipeR, iv, gr_ok, gd_ok]) (by simp; omega)
      have kf := keysI28 hD
      have sp : (kvs.map fun p => kI p.1).filter (fun k => !decide (k ∈ t.cards.map Card.k)) = spareL kvs (t.cards.map Card.k) := rfl
      rw [sp, List.nil_append, ← kf] at lc2
      generalize spareL kvs (t.cards.map Card.k) = SP at *
      have vs := vSorted_ints hs
      by_cases z : SP = []
      · subst z
        have s0 : sortI [] = [] := by simp [sortI]
        simp only [List.map_nil, s0] at lc2 vs
        have ne0 : vEq true (.list []) (.list []) = some (.sh (.bool false)) := by rw [vEq_lay Lay.lst0 rfl]; rfl
        generalize kvD kvs = KD at *
        generalize t.prts.map T.d = PD at *
        generalize (t.cards.map Card.k).map PyData.int = KS at *
        generalize t.d = TD at *
        rcases r4 with rfl | ⟨k4, rfl⟩ <;> simp (disch := first | assumption | omega) [U_law_due_v15, ep, lc, q, q2, lc2, vs, ne0, calmX, wipeR, restR, gr_ok, gd_ok]
      · obtain ⟨rest, es⟩ := sort_min z
        have ne0 : vEq true (.list ((minOf SP :: rest).map .int)) (.list []) = some (.sh (.bool true)) := by rw [ne_ints]; rfl
        rw [es] at vs
        rw [if_neg z]
        generalize minOf SP = m at *
        generalize SP.map PyData.int = SD at *
        generalize kvD kvs = KD at *
        generalize t.prts.map T.d = PD at *
        generalize (t.cards.map Card.k).map PyData.int = KS at *
        generalize t.d = TD at *
        simp only [List.map_cons] at vs ne0
        rcases r4 with rfl | ⟨k4, rfl⟩ <;> simp (disch := first | assumption | omega) [U_law_due_v15, ep, lc, q, q2, lc2, vs, ne0, tell, calmX, wipeR, restR, gr_ok, gd_ok]
end PF
set_option Elab.async false
set_option linter.all false
set_option maxRecDepth 100000
namespace PF
open PySem L2 DL DX
end PF
set_option Elab.async false
set_option linter.all false
set_option maxRecDepth 100000
set_option maxHeartbeats 1000000
namespace PF
open PySem L2 DL DX
theorem beside_ex {ms : List Int} (hl : ms.length ≤ 100) : ∃ as : List Int, F_law_beside [.list (ms.map .int)] = .ok (.sh (.list (as.map .int))) () ∧ 4 ≤ as.length ∧ as.length ≤ 1000 := by
  rw [F_law_beside_eq]
  obtain ⟨ρ', e, as, s2, rfl, h1, h2, _⟩ := forX_inv (g := xN 2) (b := U_law_beside_1) (enc := PyData.int) (fun xs ρ => ∃ (as : List Int) (s2 : Option R), ρ = [some (.sh (.list (ms.map .int))), some (.own (.lst (as.map .int))), s2] ∧ 4 ≤ as.length ∧ as.length + 3 * xs.length ≤ 400 ∧ NIo s2)
    (by
      rintro x xs _ ⟨as, s2, rfl, h1, h2, hs⟩
      simp only [List.length_cons] at h2
      refine ⟨[some (.sh (.list (ms.map .int))), some (.own (.lst (as.map .int))), some (.sh (.int x))], _, by simp [hs _], .inl ?_, as ++ [x - 1, x, x + 1], some (.sh (.int x)), rfl, by simp; omega, by simp; omega, .sh _⟩
      simp (disch := first | assumption | omega | (simp only [List.length_map, List.length_cons, List.length_nil]; omega)) [U_law_beside_1, gr_ok, gd_ok])
    ms _ ⟨[-1, 1000000000000000001, -100000000000000000000000000000000000000000000000000000000000, 100000000000000000000000000000000000000000000000000000000000], none, rfl, by simp, by simp; omega, .none⟩
  refine ⟨as, ?_, h1, by simp at h2; omega⟩
  simp only [List.map_cons, List.map_nil] at e
  simp [U_law_beside, gr_ok, e]
theorem pick_as {as : List Int} {i : Int} (h0 : 0 ≤ i) (h1 : i < as.length) : ∃ x, ixX (as.map PyData.int) i = some (.sh (.int x)) := by
  obtain ⟨x, hx⟩ : ∃ x, as[i.toNat]? = some x := ⟨as[i.toNat]'(by omega), by simp⟩
  exact ⟨x, ixX_map h0 hx⟩
end PF
set_option Elab.async false
set_option linter.all false
set_option maxRecDepth 100000
namespace PF
open PySem L2 DL DX
def U_law_spoilt_v11 : XS :=
  (xSeq (xAsg (xBlt vDictOf (xCons (xVarD 2) xNil)) (xN 3))
    (xSeq (xAsg (xCallO F_law_take 0 (xCons (xC (.int 6)) xNil)) (xN 4))
    (xSeq (xAsg (xCall F_law_beside (xCons (xVar 1) xNil)) (xN 5))
    (xSeq (xIf (xOr (xB (xBin (vEq false) (xVar 4) (xC (.int 0)))) (xB (xBin (vEq false) (xVar 1) (xLst xNil)))) (xSeq (xExp (xPutD 3 (xTup (xCons (xCallO F_law_take 0 (xCons (xC (.int 3)) xNil)) (xCons (xC (.int 0)) (xCons (xC (.int 0)) (xCons (xC (.int 0)) (xCons (xC (.int 0)) xNil)))))) (xIxU 5 (xCallO F_law_take 0 (xCons (xLenU 5) xNil)))))
    (xRet (xVarD 3))) xNext)
    (xSeq (xAsg (xIxU 1 (xCallO F_law_take 0 (xCons (xLenU 1) xNil))) (xN 6))
    (xSeq (xAsg (xIxU 1 (xCallO F_law_take 0 (xCons (xLenU 1) xNil))) (xN 7))
    (xSeq (xAsg (xCallO F_law_take 0 (xCons (xC (.int 5)) xNil)) (xN 8))
    (xSeq (xAsg (xBin vIx (xTup (xCons (xC (.int 1)) (xCons (xSh vNeg (xC (.int 1))) (xCons (xBin vPow (xC (.int 10)) (xC (.int 18))) (xCons (xSh vNeg (xBin vPow (xC (.int 10)) (xC (.int 18)))) xNil))))) (xCallO F_law_take 0 (xCons (xC (.int 4)) xNil))) (xN 9))
    (xSeq (xIf (xB (xBin (vEq false) (xVar 4) (xC (.int 1)))) (xExp (xPopD2 3 (xVar 6) (xC .none))) xNext)
    (xSeq (xIf (xAnd (xB (xBin (vIn false) (xVar 4) (xTup (xCons (xC (.int 2)) (xCons (xC (.int 3)) xNil))))) (xB (xInD false 3 (xVar 6)))) (xSeq (xAsg (xDIxO 3 (xVar 6)) (xN 10))
    (xExp (xPutD 3 (xBin vAdd (xBin vAdd (xSl (xVar 10) xoN (xoS (xVar 8))) (xTup (xCons (xBin vAdd (xIxU 10 (xVar 8)) (xVar 9)) xNil))) (xSl (xVar 10) (xoS (xBin vAdd (xVar 8) (xC (.int 1)))) xoN)) (xVar 6)))) xNext)
    (xSeq (xIf (xAnd (xB (xBin (vEq false) (xVar 4) (xC (.int 4)))) (xB (xInD false 3 (xVar 7)))) (xExp (xPutD 3 (xDIxO 3 (xVar 7)) (xVar 6))) xNext)
    (xSeq (xIf (xB (xBin (vEq false) (xVar 4) (xC (.int 5)))) (xExp (xPutD 3 (xTup (xCons (xC (.int 0)) (xCons (xC (.int 0)) (xCons (xC (.int 0)) (xCons (xC (.int 0)) (xCons (xC (.int 0)) xNil)))))) (xVar 6))) xNext)
    (xRet (xVarD 3))))))))))))))
def F_law_spoilt_v11 : Fp := runP 3 11 U_law_spoilt_v11
theorem F_law_spoilt_v11_eq (a0 : OO) (a1 a2 : PyData) : F_law_spoilt_v11 a0 [a1, a2] = (U_law_spoilt_v11 [some (.io a0), some (.sh a1), some (.sh a2), none, none, none, none, none, none, none, none]).finP := runP_eq (m := 3) (n := 11) U_law_spoilt_v11 a0 [a1, a2] _ rfl rfl
end PF
set_option Elab.async false
set_option linter.all false
set_option maxRecDepth 100000
set_option maxHeartbeats 1000000
namespace PF
open PySem L2 DL DX
theorem setK_keys (L : List (Key × PyData)) (k : Key) (d : PyData) : (setK L k d).map Prod.fst = if hasK L k then L.map Prod.fst else L.map Prod.fst ++ [k] := by
  unfold setK
  split
  · rw [List.map_map]
    refine List.map_congr_left fun p hp => ?_
    show (if p.1 = k then (p.1, d) else p).1 = p.1
    split <;> rfl
  · rw [List.map_append]
    rfl
theorem hasK_mem {L : List (Key × PyData)} {k : Key} : hasK L k = true ↔ k ∈ L.map Prod.fst := by
  unfold hasK
  rw [List.any_eq_true]
  constructor
  · rintro ⟨p, hp, e⟩
    exact List.mem_map.mpr ⟨p, hp, of_decide_eq_true e⟩
  · intro h
    obtain ⟨p, hp, e⟩ := List.mem_map.mp h
    exact ⟨p, hp, decide_eq_true e⟩
theorem Dk.set {kvs : List (Key × PyData)} (h : Dk kvs) (k : Int) (e : E5) : Dk (setK kvs (.inl k) e.d) := by
  refine ⟨fun p hp => ?_, ?_⟩
  · unfold setK at hp
    split at hp
    · obtain ⟨q, hq, rfl⟩ := List.mem_map.mp hp
      obtain ⟨k', x, rfl⟩ := h.form q hq
      split
      · exact ⟨k', e, rfl⟩
      · exact ⟨k', x, rfl⟩
    · rcases List.mem_append.mp hp with hp | hp
      · exact h.form p hp
      · exact ⟨k, e, List.mem_singleton.mp hp⟩
  · rw [setK_keys]
    split
    · exact h.nd
    · next hh =>
      refine List.nodup_append.mpr ⟨h.nd, by simp, fun a ha b hb e => ?_⟩
      rw [List.mem_singleton.mp hb] at e
      exact hh (hasK_mem.mpr (e ▸ ha))
theorem Dk.out {kvs : List (Key × PyData)} (h : Dk kvs) (k : Key) : Dk (outP kvs k) := by
  unfold outP
  split
  · refine ⟨fun p hp => h.form p (List.mem_filter.mp hp).1, ?_⟩
    unfold outK
    exact h.nd.sublist (List.filter_sublist.map _)
  · exact h
structure Good (ks : List Int) (kvs : List (Key × PyData)) (n : Nat) : Prop where
  dk : Dk kvs
  len : kvs.length ≤ 64 + n
  sp : (spareL kvs ks).length ≤ n
theorem spareL_keys (kvs : List (Key × PyData)) (ks : List Int) : spareL kvs ks = ((kvs.map Prod.fst).map kI).filter fun k => !decide (k ∈ ks) := by
  unfold spareL
  rw [List.map_map]
  rfl
theorem Good.up {ks : List Int} {kvs : List (Key × PyData)} {n : Nat} (h : Good ks kvs n) : Good ks kvs (n + 1) := ⟨h.dk, by have := h.len; omega, by have := h.sp; omega⟩
theorem Good.set {ks : List Int} {kvs : List (Key × PyData)} {n : Nat} (h : Good ks kvs n) (k : Int) (e : E5) : Good ks (setK kvs (.inl k) e.d) (n + 1) := by
  refine ⟨h.dk.set k e, ?_, ?_⟩
  · have := setK_le kvs (.inl k) e.d
    have := h.len
    omega
  · have hs := h.sp
    rw [spareL_keys] at hs ⊢
    rw [setK_keys]
    split
    · omega
    · rw [List.map_append, List.filter_append, List.length_append]
      have : (List.filter (fun k => !decide (k ∈ ks)) (List.map kI [(Sum.inl k : Key)])).length ≤ 1 := List.length_filter_le _ _
      omega
theorem Good.out {ks : List Int} {kvs : List (Key × PyData)} {n : Nat} (h : Good ks kvs n) (k : Key) : Good ks (outP kvs k) n := by
  refine ⟨h.dk.out k, ?_, ?_⟩
  · unfold outP
    split
    · exact Nat.le_trans (List.length_filter_le _ _) h.len
    · exact h.len
  · refine Nat.le_trans ?_ h.sp
    unfold outP
    split
    · unfold spareL outK
      exact List.Sublist.length_le ((List.filter_sublist.map _).filter _)
    · exact Nat.le_refl _
theorem cutD_len (ds : List PyData) (lo hi : Option Int) : (cutD ds lo hi).length ≤ ds.length := by
  unfold cutD
  rw [List.length_take, List.length_drop]
  omega
theorem upd28 (e : E5) (y : Int) {i : Int} (h0 : 0 ≤ i) (h1 : i < 5) : ∃ (x : E5) (z : Int), ixX [.int e.m, .int e.t, .int e.a, .int e.b, .int e.i] i = some (.sh (.int z)) ∧
    cutD [.int e.m, .int e.t, .int e.a, .int e.b, .int e.i] none (some i) ++ [.int (z + y)] ++ cutD [.int e.m, .int e.t, .int e.a, .int e.b, .int e.i] (some (i + 1)) none = [.int x.m, .int x.t, .int x.a, .int x.b, .int x.i] ∧
    (cutD [.int e.m, .int e.t, .int e.a, .int e.b, .int e.i] none (some i)).length ≤ 5 ∧ (cutD [.int e.m, .int e.t, .int e.a, .int e.b, .int e.i] (some (i + 1)) none).length ≤ 5 := by
  have c : i = 0 ∨ i = 1 ∨ i = 2 ∨ i = 3 ∨ i = 4 := by omega
  rcases c with rfl | rfl | rfl | rfl | rfl
  · exact ⟨⟨e.m + y, e.t, e.a, e.b, e.i⟩, e.m, rfl, rfl, cutD_len _ _ _, cutD_len _ _ _⟩
  · exact ⟨⟨e.m, e.t + y, e.a, e.b, e.i⟩, e.t, rfl, rfl, cutD_len _ _ _, cutD_len _ _ _⟩
  · exact ⟨⟨e.m, e.t, e.a + y, e.b, e.i⟩, e.a, rfl, rfl, cutD_len _ _ _, cutD_len _ _ _⟩
  · exact ⟨⟨e.m, e.t, e.a, e.b + y, e.i⟩, e.b, rfl, rfl, cutD_len _ _ _, cutD_len _ _ _⟩
  · exact ⟨⟨e.m, e.t, e.a, e.b, e.i + y⟩, e.i, rfl, rfl, cutD_len _ _ _, cutD_len _ _ _⟩
theorem spoilt28 {ks : List Int} {ms : List Int} (hms : ms.length ≤ 100) {kvs : List (Key × PyData)} {n : Nat} (hn : n ≤ 100) (G : Good ks kvs n) {p : Pot} (hp : p.Ok) :
    ∃ (K : List (Key × PyData)) (q : Pot), F_law_spoilt_v11 p.o [.list (ms.map .int), .dict (kvD kvs)] = .ok (.sh (.dict (kvD K))) q.o ∧ q.Ok ∧ Good ks K (n + 1) := by
  obtain ⟨w, p1, e1, a1, a2, o1⟩ := take_ex hp (m := 6) (by decide) (by decide)
  obtain ⟨as, e2, b1, b2⟩ := beside_ex hms
  rw [F_law_spoilt_v11_eq]
  have hlen := G.len
  have eqm : vEq false (.list (ms.map .int)) (.list []) = some (.sh (.bool (decide (ms = [])))) := by
    rw [vEq_lay (Lay.ints ms) rfl]
    cases ms with
    | nil => rfl
    | cons m ms => simp [PyData.eqv, PyData.eqvAll]
  by_cases z : w = 0 ∨ ms = []
  · obtain ⟨v, p2, e3, c1, c2, o2⟩ := take_ex o1 (m := 3) (by decide) (by decide)
    obtain ⟨j, p3, e4, d1, d2, o3⟩ := take_ex o2 (m := as.length) (by omega) (by omega)
    obtain ⟨k, hk⟩ := pick_as d1 d2
    refine ⟨setK kvs (.inl k) (E5.d ⟨v, 0, 0, 0, 0⟩), p3, ?_, o3, G.set k _⟩
    have al : (as.map PyData.int).length = as.length := List.length_map _
    simp only [E5.d]
    have kl : kvs.length < 1000000 := by omega
    have dk := vDictOf_kv kvs
    have hz : w = 0 ∨ decide (ms = []) = true := z.imp id (fun h => decide_eq_true h)
    generalize as.map PyData.int = AD at *
    generalize ms.map PyData.int = MD at *
    generalize decide (ms = []) = B at *
    by_cases z0 : w = 0
    · subst z0
      simp (disch := first | assumption | omega) [U_law_spoilt_v11, dk, e1, e2, e3, e4, al, hk, kl, gr_ok, gd_ok]
    · have hB : B = true := hz.resolve_left z0
      subst hB
      simp (disch := first | assumption | omega) [U_law_spoilt_v11, dk, e1, e2, e3, e4, al, hk, kl, z0, eqm, gr_ok, gd_ok]
  · have w0 : w ≠ 0 := fun h => z (.inl h)
    have m0 : ms ≠ [] := fun h => z (.inr h)
    have ml : 0 < ms.length := List.length_pos_iff.mpr m0
    have dm : decide (ms = []) = false := decide_eq_false m0
    rw [dm] at eqm
    obtain ⟨i1, p2, e3, c1, c2, o2⟩ := take_ex o1 (m := ms.length) (by omega) (by omega)
    obtain ⟨i2, p3, e4, d1, d2, o3⟩ := take_ex o2 (m := ms.length) (by omega) (by omega)
    obtain ⟨at', p4, e5, f1, f2, o4⟩ := take_ex o3 (m := 5) (by decide) (by decide)
    obtain ⟨i4, p5, e6, g1, g2, o5⟩ := take_ex o4 (m := 4) (by decide) (by decide)
    obtain ⟨mark, hm⟩ := pick_as c1 c2
    obtain ⟨other, ho⟩ := pick_as d1 d2
    obtain ⟨y, hy, _⟩ := pick4 (a := 1) (b := -1) (c := 1000000000000000000) (d := -1000000000000000000) g1 g2
    have P : CPowB 10 18 := by decide
    have mlen : (ms.map PyData.int).length = ms.length := List.length_map _
    have dk := vDictOf_kv kvs
    have iv := in_ints false [2, 3] w
    rw [if_neg Bool.false_ne_true] at iv
    simp only [List.map_cons, List.map_nil] at iv
    -- the four puts
    have s9 : ∀ (R : Rho), R = R → ∃ K1, (Good ks K1 n) ∧ (xIf (xB (xBin (vEq false) (xVar 4) (xC (.int 1)))) (xExp (xPopD2 3 (xVar 6) (xC .none))) xNext) [some (.io p5.o), some (.sh (.list (ms.map .int))), some (.sh (.dict (kvD kvs))), some (.own (.dic kvs)), some (.sh (.int w)), some (.sh (.list (as.map .int))), some (.sh (.int mark)), some (.sh (.int other)), some (.sh (.int at')), some (.sh (.int y)), none] = .nx [some (.io p5.o), some (.sh (.list (ms.map .int))), some (.sh (.dict (kvD kvs))), some (.own (.dic K1)), some (.sh (.int w)), some (.sh (.list (as.map .int))), some (.sh (.int mark)), some (.sh (.int other)), some (.sh (.int at')), some (.sh (.int y)), none] := by
      intro _ _
      by_cases z1 : w = 1
      · refine ⟨outP kvs (.inl mark), G.out _, ?_⟩
        generalize as.map PyData.int = AD at *
        generalize ms.map PyData.int = MD at *
        simp (disch := first | assumption | omega) [z1, gr_ok, gd_ok]
      · refine ⟨kvs, G, ?_⟩
        generalize as.map PyData.int = AD at *
        generalize ms.map PyData.int = MD at *
        simp (disch := first | assumption | omega) [z1, gr_ok, gd_ok]
    obtain ⟨K1, G1, s9⟩ := s9 [] rfl
    have s10 : ∃ (K2 : List (Key × PyData)) (r10 : Option R), (Good ks K2 n ∨ ((w = 2 ∨ w = 3) ∧ Good ks K2 (n + 1))) ∧ (xIf (xAnd (xB (xBin (vIn false) (xVar 4) (xTup (xCons (xC (.int 2)) (xCons (xC (.int 3)) xNil))))) (xB (xInD false 3 (xVar 6)))) (xSeq (xAsg (xDIxO 3 (xVar 6)) (xN 10))
    (xExp (xPutD 3 (xBin vAdd (xBin vAdd (xSl (xVar 10) xoN (xoS (xVar 8))) (xTup (xCons (xBin vAdd (xIxU 10 (xVar 8)) (xVar 9)) xNil))) (xSl (xVar 10) (xoS (xBin vAdd (xVar 8) (xC (.int 1)))) xoN)) (xVar 6)))) xNext) [some (.io p5.o), some (.sh (.list (ms.map .int))), some (.sh (.dict (kvD kvs))), some (.own (.dic K1)), some (.sh (.int w)), some (.sh (.list (as.map .int))), some (.sh (.int mark)), some (.sh (.int other)), some (.sh (.int at')), some (.sh (.int y)), none] = .nx [some (.io p5.o), some (.sh (.list (ms.map .int))), some (.sh (.dict (kvD kvs))), some (.own (.dic K2)), some (.sh (.int w)), some (.sh (.list (as.map .int))), some (.sh (.int mark)), some (.sh (.int other)), some (.sh (.int at')), some (.sh (.int y)), r10] := by
      by_cases z1 : w = 2 ∨ w = 3
      · have iw : decide (w ∈ [2, 3]) = true := decide_eq_true (by simpa using z1)
        rw [iw] at iv
        have hh := at29_has mark K1
        cases e : at29 K1 mark with
        | none =>
          rw [e] at hh
          refine ⟨K1, none, .inl G1, ?_⟩
          generalize as.map PyData.int = AD at *
          generalize ms.map PyData.int = MD at *
          generalize kvD kvs = KD at *
          simp (disch := first | assumption | omega) [iv, hh, gr_ok, gd_ok]
        | some d =>
          rw [e] at hh
          obtain ⟨x, rfl⟩ := G1.dk.at e
          obtain ⟨x2, zz, u1, u2, u3, u4⟩ := upd28 x y f1 f2
          have kl : K1.length < 1000000 := by have := G1.len; omega
          refine ⟨setK K1 (.inl mark) x2.d, some (.sh x.d), .inr ⟨z1, G1.set _ _⟩, ?_⟩
          unfold at29 at e
          simp only [E5.d] at e ⊢
          rw [← u2]
          generalize [PyData.int x.m, .int x.t, .int x.a, .int x.b, .int x.i] = XD at *
          generalize hC1 : cutD XD none (some at') = C1 at *
          generalize hC2 : cutD XD (some (at' + 1)) none = C2 at *
          have al1 : (C1 ++ [PyData.int (zz + y)]).length ≤ 6 := by rw [List.length_append]; simp; omega
          generalize as.map PyData.int = AD at *
          generalize ms.map PyData.int = MD at *
          generalize kvD kvs = KD at *
          simp (disch := first | assumption | omega | (simp only [List.length_append, List.length_cons, List.length_nil] at *; omega)) [iv, hh, e, u1, hC1, hC2, kl, gr_ok, gd_ok]
      · have iw : decide (w ∈ [2, 3]) = false := decide_eq_false (by simpa using z1)
        rw [iw] at iv
        refine ⟨K1, none, .inl G1, ?_⟩
        generalize as.map PyData.int = AD at *
        generalize ms.map PyData.int = MD at *
        generalize kvD kvs = KD at *
        simp (disch := first | assumption | omega) [iv, gr_ok, gd_ok]
    obtain ⟨K2, r10, G2, s10⟩ := s10
    have s11 : ∃ K3, (Good ks K3 n ∨ (w ≠ 5 ∧ Good ks K3 (n + 1))) ∧ (xIf (xAnd (xB (xBin (vEq false) (xVar 4) (xC (.int 4)))) (xB (xInD false 3 (xVar 7)))) (xExp (xPutD 3 (xDIxO 3 (xVar 7)) (xVar 6))) xNext) [some (.io p5.o), some (.sh (.list (ms.map .int))), some (.sh (.dict (kvD kvs))), some (.own (.dic K2)), some (.sh (.int w)), some (.sh (.list (as.map .int))), some (.sh (.int mark)), some (.sh (.int other)), some (.sh (.int at')), some (.sh (.int y)), r10] = .nx [some (.io p5.o), some (.sh (.list (ms.map .int))), some (.sh (.dict (kvD kvs))), some (.own (.dic K3)), some (.sh (.int w)), some (.sh (.list (as.map .int))), some (.sh (.int mark)), some (.sh (.int other)), some (.sh (.int at')), some (.sh (.int y)), r10] := by
      by_cases z1 : w = 4
      · have G2 : Good ks K2 n := G2.resolve_right (fun h => by omega)
        have hh := at29_has other K2
        cases e : at29 K2 other with
        | none =>
          rw [e] at hh
          refine ⟨K2, .inl G2, ?_⟩
          generalize as.map PyData.int = AD at *
          generalize ms.map PyData.int = MD at *
          generalize kvD kvs = KD at *
          simp (disch := first | assumption | omega) [z1, hh, gr_ok, gd_ok]
        | some d =>
          rw [e] at hh
          obtain ⟨x, rfl⟩ := G2.dk.at e
          have kl : K2.length < 1000000 := by have := G2.len; omega
          refine ⟨setK K2 (.inl mark) x.d, .inr ⟨by omega, G2.set _ _⟩, ?_⟩
          unfold at29 at e
          generalize x.d = XD at *
          generalize as.map PyData.int = AD at *
          generalize ms.map PyData.int = MD at *
          generalize kvD kvs = KD at *
          simp (disch := first | assumption | omega) [z1, hh, e, kl, gr_ok, gd_ok]
      · refine ⟨K2, ?_, ?_⟩
        · rcases G2 with h | ⟨h1, h2⟩
          · exact .inl h
          · exact .inr ⟨by omega, h2⟩
        · generalize as.map PyData.int = AD at *
          generalize ms.map PyData.int = MD at *
          generalize kvD kvs = KD at *
          simp (disch := first | assumption | omega) [z1, gr_ok, gd_ok]
    obtain ⟨K3, G3, s11⟩ := s11
    have s12 : ∃ K4, Good ks K4 (n + 1) ∧ (xIf (xB (xBin (vEq false) (xVar 4) (xC (.int 5)))) (xExp (xPutD 3 (xTup (xCons (xC (.int 0)) (xCons (xC (.int 0)) (xCons (xC (.int 0)) (xCons (xC (.int 0)) (xCons (xC (.int 0)) xNil)))))) (xVar 6))) xNext) [some (.io p5.o), some (.sh (.list (ms.map .int))), some (.sh (.dict (kvD kvs))), some (.own (.dic K3)), some (.sh (.int w)), some (.sh (.list (as.map .int))), some (.sh (.int mark)), some (.sh (.int other)), some (.sh (.int at')), some (.sh (.int y)), r10] = .nx [some (.io p5.o), some (.sh (.list (ms.map .int))), some (.sh (.dict (kvD kvs))), some (.own (.dic K4)), some (.sh (.int w)), some (.sh (.list (as.map .int))), some (.sh (.int mark)), some (.sh (.int other)), some (.sh (.int at')), some (.sh (.int y)), r10] := by
      by_cases z1 : w = 5
      · have G3 : Good ks K3 n := G3.resolve_right (fun h => h.1 z1)
        have kl : K3.length < 1000000 := by have := G3.len; omega
        refine ⟨setK K3 (.inl mark) zero5.d, G3.set _ _, ?_⟩
        simp only [zero5, E5.d]
        generalize as.map PyData.int = AD at *
        generalize ms.map PyData.int = MD at *
        generalize kvD kvs = KD at *
        simp (disch := first | assumption | omega) [z1, kl, gr_ok, gd_ok]
      · refine ⟨K3, G3.elim Good.up (fun h => h.2), ?_⟩
        generalize as.map PyData.int = AD at *
        generalize ms.map PyData.int = MD at *
        generalize kvD kvs = KD at *
        simp (disch := first | assumption | omega) [z1, gr_ok, gd_ok]
    obtain ⟨K4, G4, s12⟩ := s12
    refine ⟨K4, p5, ?_, o5, G4⟩
    clear iv
    generalize as.map PyData.int = AD at *
    generalize ms.map PyData.int = MD at *
    have h0 : U_law_spoilt_v11 [some (.io p.o), some (.sh (.list MD)), some (.sh (.dict (kvD kvs))), none, none, none, none, none, none, none, none] = .rt (.sh (.dict (kvD K4))) [some (.io p5.o), some (.sh (.list MD)), some (.sh (.dict (kvD kvs))), some (.sh (.dict (kvD K4))), some (.sh (.int w)), some (.sh (.list AD)), some (.sh (.int mark)), some (.sh (.int other)), some (.sh (.int at')), some (.sh (.int y)), r10] := by
      have q1 : (xAsg (xBlt vDictOf (xCons (xVarD 2) xNil)) (xN 3)) [some (.io p.o), some (.sh (.list MD)), some (.sh (.dict (kvD kvs))), none, none, none, none, none, none, none, none] = .nx [some (.io p.o), some (.sh (.list MD)), some (.sh (.dict (kvD kvs))), some (.own (.dic kvs)), none, none, none, none, none, none, none] := by
        simp (disch := first | assumption | omega) [dk, e1, e2, e3, e4, e5, e6, hm, ho, hy, P, mlen, w0, eqm, gr_ok, gd_ok]
      have q2 : (xAsg (xCallO F_law_take 0 (xCons (xC (.int 6)) xNil)) (xN 4)) [some (.io p.o), some (.sh (.list MD)), some (.sh (.dict (kvD kvs))), some (.own (.dic kvs)), none, none, none, none, none, none, none] = .nx [some (.io p1.o), some (.sh (.list MD)), some (.sh (.dict (kvD kvs))), some (.own (.dic kvs)), some (.sh (.int w)), none, none, none, none, none, none] := by
        simp (disch := first | assumption | omega) [dk, e1, e2, e3, e4, e5, e6, hm, ho, hy, P, mlen, w0, eqm, gr_ok, gd_ok]
      have q3 : (xAsg (xCall F_law_beside (xCons (xVar 1) xNil)) (xN 5)) [some (.io p1.o), some (.sh (.list MD)), some (.sh (.dict (kvD kvs))), some (.own (.dic kvs)), some (.sh (.int w)), none, none, none, none, none, none] = .nx [some (.io p1.o), some (.sh (.list MD)), some (.sh (.dict (kvD kvs))), some (.own (.dic kvs)), some (.sh (.int w)), some (.sh (.list AD)), none, none, none, none, none] := by
        simp (disch := first | assumption | omega) [dk, e1, e2, e3, e4, e5, e6, hm, ho, hy, P, mlen, w0, eqm, gr_ok, gd_ok]
      have q4 : (xIf (xOr (xB (xBin (vEq false) (xVar 4) (xC (.int 0)))) (xB (xBin (vEq false) (xVar 1) (xLst xNil)))) (xSeq (xExp (xPutD 3 (xTup (xCons (xCallO F_law_take 0 (xCons (xC (.int 3)) xNil)) (xCons (xC (.int 0)) (xCons (xC (.int 0)) (xCons (xC (.int 0)) (xCons (xC (.int 0)) xNil)))))) (xIxU 5 (xCallO F_law_take 0 (xCons (xLenU 5) xNil)))))
    (xRet (xVarD 3))) xNext) [some (.io p1.o), some (.sh (.list MD)), some (.sh (.dict (kvD kvs))), some (.own (.dic kvs)), some (.sh (.int w)), some (.sh (.list AD)), none, none, none, none, none] = .nx [some (.io p1.o), some (.sh (.list MD)), some (.sh (.dict (kvD kvs))), some (.own (.dic kvs)), some (.sh (.int w)), some (.sh (.list AD)), none, none, none, none, none] := by
        simp (disch := first | assumption | omega) [dk, e1, e2, e3, e4, e5, e6, hm, ho, hy, P, mlen, w0, eqm, gr_ok, gd_ok]
      have q5 : (xAsg (xIxU 1 (xCallO F_law_take 0 (xCons (xLenU 1) xNil))) (xN 6)) [some (.io p1.o), some (.sh (.list MD)), some (.sh (.dict (kvD kvs))), some (.own (.dic kvs)), some (.sh (.int w)), some (.sh (.list AD)), none, none, none, none, none] = .nx [some (.io p2.o), some (.sh (.list MD)), some (.sh (.dict (kvD kvs))), some (.own (.dic kvs)), some (.sh (.int w)), some (.sh (.list AD)), some (.sh (.int mark)), none, none, none, none] := by
        simp (disch := first | assumption | omega) [dk, e1, e2, e3, e4, e5, e6, hm, ho, hy, P, mlen, w0, eqm, gr_ok, gd_ok]
      have q6 : (xAsg (xIxU 1 (xCallO F_law_take 0 (xCons (xLenU 1) xNil))) (xN 7)) [some (.io p2.o), some (.sh (.list MD)), some (.sh (.dict (kvD kvs))), some (.own (.dic kvs)), some (.sh (.int w)), some (.sh (.list AD)), some (.sh (.int mark)), none, none, none, none] = .nx [some (.io p3.o), some (.sh (.list MD)), some (.sh (.dict (kvD kvs))), some (.own (.dic kvs)), some (.sh (.int w)), some (.sh (.list AD)), some (.sh (.int mark)), some (.sh (.int other)), none, none, none] := by
        simp (disch := first | assumption | omega) [dk, e1, e2, e3, e4, e5, e6, hm, ho, hy, P, mlen, w0, eqm, gr_ok, gd_ok]
      have q7 : (xAsg (xCallO F_law_take 0 (xCons (xC (.int 5)) xNil)) (xN 8)) [some (.io p3.o), some (.sh (.list MD)), some (.sh (.dict (kvD kvs))), some (.own (.dic kvs)), some (.sh (.int w)), some (.sh (.list AD)), some (.sh (.int mark)), some (.sh (.int other)), none, none, none] = .nx [some (.io p4.o), some (.sh (.list MD)), some (.sh (.dict (kvD kvs))), some (.own (.dic kvs)), some (.sh (.int w)), some (.sh (.list AD)), some (.sh (.int mark)), some (.sh (.int other)), some (.sh (.int at')), none, none] := by
        simp (disch := first | assumption | omega) [dk, e1, e2, e3, e4, e5, e6, hm, ho, hy, P, mlen, w0, eqm, gr_ok, gd_ok]
      have q8 : (xAsg (xBin vIx (xTup (xCons (xC (.int 1)) (xCons (xSh vNeg (xC (.int 1))) (xCons (xBin vPow (xC (.int 10)) (xC (.int 18))) (xCons (xSh vNeg (xBin vPow (xC (.int 10)) (xC (.int 18)))) xNil))))) (xCallO F_law_take 0 (xCons (xC (.int 4)) xNil))) (xN 9)) [some (.io p4.o), some (.sh (.list MD)), some (.sh (.dict (kvD kvs))), some (.own (.dic kvs)), some (.sh (.int w)), some (.sh (.list AD)), some (.sh (.int mark)), some (.sh (.int other)), some (.sh (.int at')), none, none] = .nx [some (.io p5.o), some (.sh (.list MD)), some (.sh (.dict (kvD kvs))), some (.own (.dic kvs)), some (.sh (.int w)), some (.sh (.list AD)), some (.sh (.int mark)), some (.sh (.int other)), some (.sh (.int at')), some (.sh (.int y)), none] := by
        simp (disch := first | assumption | omega) [dk, e1, e2, e3, e4, e5, e6, hm, ho, hy, P, mlen, w0, eqm, gr_ok, gd_ok]
      rw [U_law_spoilt_v11, xSeq_at, q1, Ou.seq_nx, xSeq_at, q2, Ou.seq_nx, xSeq_at, q3, Ou.seq_nx, xSeq_at, q4, Ou.seq_nx, xSeq_at, q5, Ou.seq_nx, xSeq_at, q6, Ou.seq_nx, xSeq_at, q7, Ou.seq_nx, xSeq_at, q8, Ou.seq_nx, xSeq_at, s9, Ou.seq_nx, xSeq_at, s10, Ou.seq_nx, xSeq_at, s11, Ou.seq_nx, xSeq_at, s12, Ou.seq_nx]
      simp [gr_ok, gd_ok]
    rw [h0]
    rfl
end PF
set_option Elab.async false
set_option linter.all false
set_option maxRecDepth 100000
set_option maxHeartbeats 1000000
namespace PF
open PySem L2 DL DX
theorem tell_lay {s : Str} (h : (PyData.str s).canLay0 = true) (k : Int) : Lay (tell s k) := by
  refine ⟨?_, ?_⟩
  · simp only [tell, PyData.canLay0, PyData.canLayAll0] at *
    simp [h]
  · simp [tell, PyData.depth, PyData.depthAll]
theorem fault_form (kvs : List (Key × PyData)) (t : T) : faultD kvs t = .none ∨ ∃ (s : Str) (k : Int), faultD kvs t = tell s k ∧ (PyData.str s).canLay0 = true := by
  unfold faultD
  split
  · exact .inr ⟨_, _, rfl, by decide +kernel⟩
  · split
    · exact .inr ⟨_, _, rfl, by decide +kernel⟩
    · split
      · exact .inl rfl
      · exact .inr ⟨_, _, rfl, by decide +kernel⟩
theorem prts_child : ∀ t : T, ∀ (l : T) (c : Card) (r : T), T.node l c r ∈ t.prts → (l = .nil ∨ l ∈ t.prts) ∧ (r = .nil ∨ r ∈ t.prts)
  | .nil, l, c, r, h => by cases h
  | .node a x b, l, c, r, h => by
    have top : ∀ u : T, u = .nil ∨ u ∈ u.prts := fun u => by
      cases u with
      | nil => exact .inl rfl
      | node p q s => exact .inr (by simp [T.prts])
    rw [T.prts] at h ⊢
    rcases List.mem_append.mp h with h | h
    · obtain ⟨h1, h2⟩ := prts_child a l c r h
      exact ⟨h1.imp id (fun z => List.mem_append_left _ z), h2.imp id (fun z => List.mem_append_left _ z)⟩
    · rcases List.mem_cons.mp h with e | h
      · obtain ⟨h1, _, h3⟩ := T.node.inj e
        rw [h1, h3]
        exact ⟨(top a).imp id (fun z => List.mem_append_left _ z), (top b).imp id (fun z => List.mem_append_right _ (List.mem_cons_of_mem _ z))⟩
      · obtain ⟨h1, h2⟩ := prts_child b l c r h
        exact ⟨h1.imp id (fun z => List.mem_append_right _ (List.mem_cons_of_mem _ z)), h2.imp id (fun z => List.mem_append_right _ (List.mem_cons_of_mem _ z))⟩
theorem eAt_ino {t : T} (nd : (t.cards.map Card.k).Nodup) : ∀ u : T, u = .nil ∨ u ∈ t.prts → eAt (ino27 t) u = ent u
  | .nil, _ => rfl
  | .node l c r, h => by
    have h := h.resolve_left (fun z => by cases z)
    have m : ((.inl c.k : Key), (ent (.node l c r)).d) ∈ ino27 t := List.mem_map.mpr ⟨_, h, rfl⟩
    have a := at29_mem (ino_nodup nd) m
    simp only [eAt, a, unE_d]
theorem fault_right {t : T} (nd : (t.cards.map Card.k).Nodup) : faultD (ino27 t) t = .none := by
  have e1 : lackK (ino27 t) (t.cards.map Card.k) = none := by
    refine List.find?_eq_none.mpr fun k hk => ?_
    obtain ⟨c, hc, rfl⟩ := List.mem_map.mp hk
    have m : (Sum.inl c.k : Key) ∈ (ino27 t).map Prod.fst := by rw [ino_keys]; exact List.mem_map.mpr ⟨c, hc, rfl⟩
    obtain ⟨p, hp, e⟩ := List.mem_map.mp m
    have a := at29_mem (ino_nodup nd) (k := c.k) (d := p.2) (by rw [← e]; exact hp)
    rw [a]
    simp
  have e2 : t.prts.find? (wrongT (ino27 t)) = none := by
    refine List.find?_eq_none.mpr fun p hp => ?_
    obtain ⟨⟨l, c, r, rfl⟩, _⟩ := prts_sub t p hp
    obtain ⟨hl, hr⟩ := prts_child t l c r hp
    show ¬ (!(PyData.eqv (eAt (ino27 t) (T.node l c r)).d (E5.made c.w (eAt (ino27 t) l) (eAt (ino27 t) r)).d)) = true
    rw [eAt_ino nd _ (.inr hp), eAt_ino nd l hl, eAt_ino nd r hr]
    have : PyData.eqv (ent (T.node l c r)).d (E5.made c.w (ent l) (ent r)).d = true := E5.refl _
    rw [this]
    simp
  have e3 : spareL (ino27 t) (t.cards.map Card.k) = [] := by
    rw [spareL_keys, ino_keys, List.map_map]
    refine List.filter_eq_nil_iff.mpr fun k hk => ?_
    obtain ⟨c, hc, rfl⟩ := List.mem_map.mp hk
    have : c.k ∈ t.cards.map Card.k := List.mem_map_of_mem hc
    simp only [Function.comp, kI, this, decide_true, Bool.not_true, Bool.false_eq_true, not_false_eq_true]
  unfold faultD
  rw [e1]
  simp only
  rw [e2]
  simp only
  rw [if_pos e3]
theorem good_ino {t : T} (nd : (t.cards.map Card.k).Nodup) (hl : t.cards.length ≤ 64) : Good (t.cards.map Card.k) (ino27 t) 0 := by
  refine ⟨⟨ino_form t, ino_nodup nd⟩, by rw [ino27_len]; omega, ?_⟩
  have e3 : spareL (ino27 t) (t.cards.map Card.k) = [] := by
    rw [spareL_keys, ino_keys, List.map_map]
    refine List.filter_eq_nil_iff.mpr fun k hk => ?_
    obtain ⟨c, hc, rfl⟩ := List.mem_map.mp hk
    have : c.k ∈ t.cards.map Card.k := List.mem_map_of_mem hc
    simp only [Function.comp, kI, this, decide_true, Bool.not_true, Bool.false_eq_true, not_false_eq_true]
  rw [e3]
  exact Nat.le_refl 0
theorem eqDD_self {kvs : List (Key × PyData)} (h : Dk kvs) : eqDD (kvD kvs) (kvD kvs) = true := by
  unfold eqDD
  rw [eqB_true h.nd kvs fun p hp => ⟨hp, h.form p hp⟩]
  simp
end PF
set_option Elab.async false
set_option linter.all false
set_option maxRecDepth 100000
namespace PF
open PySem L2 DL DX
def U_law_k28_v2_1 : XS :=
  (xSeq (xAsg (xFrzD (xBlt vDictOf (xCons (xVarD 10) xNil))) (xN 11))
    (xSeq (xAsg (xCall F_sums_fault_v2 (xCons (xVar 6) (xCons (xVarD 11) xNil))) (xN 12))
    (xSeq (xIf (xOr (xB (xBin (vEq true) (xVar 12) (xCall F_law_due_v15 (xCons (xVar 6) (xCons (xVarD 10) xNil))))) (xB (xBin (vEqDD true) (xVarD 11) (xVarD 10)))) (xRet (xC (.bool false))) xNext)
    (xIf (xAnd (xB (xUn (vIsN true) (xVar 12))) (xOr (xNt (xB (xIsiN "tuple" 12))) (xNt (xB (xCall F_law_whole (xCons (xIxU 12 (xC (.int 1))) xNil)))))) (xRet (xC (.bool false))) xNext))))
def U_law_k28_v2_2 : XS :=
  (xAsg (xCallO F_law_spoilt_v11 2 (xCons (xVar 5) (xCons (xVarD 8) xNil))) (xN 8))
def U_law_k28_v2_3 : XS :=
  (xSeq (xAsg (xCall F_law_pot (xCons (xVar 0) (xCons (xVar 1) xNil))) (xN 2))
    (xSeq (xAsg (xCallO F_law_take 2 (xCons (xC (.int 5)) xNil)) (xN 3))
    (xSeq (xAsg (xBin vIx (xTup (xCons (xC (.int 24)) (xCons (xC (.int 24)) (xCons (xC (.int 24)) (xCons (xC (.int 64)) xNil))))) (xCallO F_law_take 2 (xCons (xC (.int 4)) xNil))) (xN 4))
    (xSeq (xAsg (xCallO F_law_marks 2 (xCons (xCallO F_law_many_v2 2 (xCons (xVar 4) xNil)) xNil)) (xN 5))
    (xSeq (xAsg (xCallO F_law_either 2 (xCons (xCallO F_law_cards_v4 2 (xCons (xVar 5) xNil)) xNil)) (xN 6))
    (xSeq (xAsg (xCall F_law_table (xCons (xVar 6) xNil)) (xN 7))
    (xSeq (xAsg (xVarD 7) (xN 8))
    (xSeq (xFor (xiOf rng1 (xCons (xVar 3) xNil)) (xN 9) U_law_k28_v2_2)
    (xSeq (xFor (xiSeq (xTup (xCons (xVarD 8) (xCons (xVarD 7) (xCons (xVarD 8) xNil))))) (xN 10) U_law_k28_v2_1)
    (xIf (xB (xUn (vIsN true) (xCall F_sums_fault_v2 (xCons (xVar 6) (xCons (xFrzD (xBlt vDictOf (xCons (xVarD 7) xNil))) xNil))))) (xRet (xC (.bool false))) xNext))))))))))
def U_law_k28_v2 : XS :=
  (xSeq (xFor (xiOf rng1 (xCons (xBlt vMax2 (xCons (xC (.int 1)) (xCons (xBlt vMin2 (xCons (xLenU 0) (xCons (xC (.int 8)) xNil))) xNil))) xNil)) (xN 1) U_law_k28_v2_3)
    (xRet (xC (.bool true))))
def F_law_k28_v2 : Fn := runD 1 13 U_law_k28_v2
theorem F_law_k28_v2_eq (a0 : PyData) : F_law_k28_v2 [a0] = (U_law_k28_v2 [some (.sh a0), none, none, none, none, none, none, none, none, none, none, none, none]).fin := runD_eq (m := 1) (n := 13) U_law_k28_v2 [a0] _ rfl rfl
end PF
set_option Elab.async false
set_option linter.all false
set_option maxRecDepth 100000
set_option maxHeartbeats 1000000
namespace PF
open PySem L2 DL DX
theorem turn28 {sc k of mo mk rd md tn : PyData} {po : List PyData} {t : T} {K : List (Key × PyData)} {s11 s12 : Option R} (ht : t.hi < 70) (hl : t.cards.length ≤ 64) (hr : Rise t.cards) (G : Good (t.cards.map Card.k) K 4) (n11 : NIo s11) (n12 : NIo s12) {s9 : Option R} :
    ∃ s12', NIo s12' ∧ U_law_k28_v2_1 [some (.sh sc), some (.sh k), some (.own (.lst po)), some (.sh of), some (.sh mo), some (.sh mk), some (.sh t.d), some (.sh rd), some (.sh md), s9, some (.sh (.dict (kvD K))), s11, s12] = .nx [some (.sh sc), some (.sh k), some (.own (.lst po)), some (.sh of), some (.sh mo), some (.sh mk), some (.sh t.d), some (.sh rd), some (.sh md), s9, some (.sh (.dict (kvD K))), some (.sh (.dict (kvD K))), s12'] := by
  have gl := G.len
  have gs := G.sp
  have e1 := fault28 G.dk ht (by omega) hr (by omega)
  have e2 := lawdue28 G.dk ht (by omega) (by omega) (by omega)
  have e3 := eqDD_self G.dk
  obtain ⟨y1, y2⟩ := lays27 K G.dk.form
  have y5 : PyData.depthAll ((kvD K).map Prod.snd) < 190 := by omega
  have dk := vDictOf_kv K
  have s2 : subT "tuple" "tuple" = true := by decide
  rcases fault_form K t with f | ⟨s, kk, f, ls⟩
  · rw [f] at e1 e2
    have ve : vEq true .none .none = some (.sh (.bool false)) := rfl
    refine ⟨some (.sh .none), .sh _, ?_⟩
    generalize t.d = TD at *
    simp (disch := first | assumption | omega) [U_law_k28_v2_1, dk, e1, e2, e3, ve, y1, y5, n11 _, n12 _, gr_ok, gd_ok]
  · rw [f] at e1 e2
    have ly := tell_lay ls kk
    have ve : vEq true (tell s kk) (tell s kk) = some (.sh (.bool false)) := by
      rw [vEq_lay ly ly.lay]
      have rf : PyData.eqv (tell s kk) (tell s kk) = true := SeqAt.eqv_refl _ ly.lay
      rw [rf]
      rfl
    have w := whole_eq kk
    refine ⟨some (.sh (tell s kk)), .sh _, ?_⟩
    have q : ∀ (A : PyData) (s : Str), (xIf (xAnd (xB (xUn (vIsN true) (xVar 12))) (xOr (xNt (xB (xIsiN "tuple" 12))) (xNt (xB (xCall F_law_whole (xCons (xIxU 12 (xC (.int 1))) xNil)))))) (xRet (xC (.bool false))) xNext) [some (.sh sc), some (.sh k), some (.own (.lst po)), some (.sh of), some (.sh mo), some (.sh mk), some (.sh A), some (.sh rd), some (.sh md), s9, some (.sh (.dict (kvD K))), some (.sh (.dict (kvD K))), some (.sh (tell s kk))] = .nx [some (.sh sc), some (.sh k), some (.own (.lst po)), some (.sh of), some (.sh mo), some (.sh mk), some (.sh A), some (.sh rd), some (.sh md), s9, some (.sh (.dict (kvD K))), some (.sh (.dict (kvD K))), some (.sh (tell s kk))] := fun A s => by
      simp (disch := first | assumption | omega) [tell, tyD, s2, w, vIsN, gr_ok, gd_ok]
    have q := q t.d s
    generalize t.d = TD at *
    generalize tell s kk = FD at *
    have q1 : (xAsg (xFrzD (xBlt vDictOf (xCons (xVarD 10) xNil))) (xN 11)) [some (.sh sc), some (.sh k), some (.own (.lst po)), some (.sh of), some (.sh mo), some (.sh mk), some (.sh TD), some (.sh rd), some (.sh md), s9, some (.sh (.dict (kvD K))), s11, s12] = .nx [some (.sh sc), some (.sh k), some (.own (.lst po)), some (.sh of), some (.sh mo), some (.sh mk), some (.sh TD), some (.sh rd), some (.sh md), s9, some (.sh (.dict (kvD K))), some (.sh (.dict (kvD K))), s12] := by
      simp (disch := first | assumption | omega) [dk, n11 _, gr_ok, gd_ok]
    have q2 : (xAsg (xCall F_sums_fault_v2 (xCons (xVar 6) (xCons (xVarD 11) xNil))) (xN 12)) [some (.sh sc), some (.sh k), some (.own (.lst po)), some (.sh of), some (.sh mo), some (.sh mk), some (.sh TD), some (.sh rd), some (.sh md), s9, some (.sh (.dict (kvD K))), some (.sh (.dict (kvD K))), s12] = .nx [some (.sh sc), some (.sh k), some (.own (.lst po)), some (.sh of), some (.sh mo), some (.sh mk), some (.sh TD), some (.sh rd), some (.sh md), s9, some (.sh (.dict (kvD K))), some (.sh (.dict (kvD K))), some (.sh FD)] := by
      simp (disch := first | assumption | omega) [e1, n12 _, gr_ok, gd_ok]
    have q3 : (xIf (xOr (xB (xBin (vEq true) (xVar 12) (xCall F_law_due_v15 (xCons (xVar 6) (xCons (xVarD 10) xNil))))) (xB (xBin (vEqDD true) (xVarD 11) (xVarD 10)))) (xRet (xC (.bool false))) xNext) [some (.sh sc), some (.sh k), some (.own (.lst po)), some (.sh of), some (.sh mo), some (.sh mk), some (.sh TD), some (.sh rd), some (.sh md), s9, some (.sh (.dict (kvD K))), some (.sh (.dict (kvD K))), some (.sh FD)] = .nx [some (.sh sc), some (.sh k), some (.own (.lst po)), some (.sh of), some (.sh mo), some (.sh mk), some (.sh TD), some (.sh rd), some (.sh md), s9, some (.sh (.dict (kvD K))), some (.sh (.dict (kvD K))), some (.sh FD)] := by
      simp (disch := first | assumption | omega) [e2, e3, ve, y1, y5, gr_ok, gd_ok]
    rw [U_law_k28_v2_1, xSeq_at, q1, Ou.seq_nx, xSeq_at, q2, Ou.seq_nx, xSeq_at, q3, Ou.seq_nx, q]
theorem cell28 {ns : List Int} (hl : ns.length ≤ 63) {k : Nat} (hk : k < 64) {s2 s3 s4 s5 s6 s7 s8 s9 s10 s11 s12 : Option R} (h2 : NIo s2) (h3 : NIo s3) (h4 : NIo s4) (h5 : NIo s5) (h6 : NIo s6) (h7 : NIo s7) (h8 : NIo s8) (h9 : NIo s9) (h10 : NIo s10) (h11 : NIo s11) (h12 : NIo s12) :
    ∃ (s2' s3' s4' s5' s6' s7' s8' s9' s10' s11' s12' : Option R), U_law_k28_v2_3 [some (.sh (.list (ns.map .int))), some (.sh (.int k)), s2, s3, s4, s5, s6, s7, s8, s9, s10, s11, s12] = .nx [some (.sh (.list (ns.map .int))), some (.sh (.int k)), s2', s3', s4', s5', s6', s7', s8', s9', s10', s11', s12'] ∧ NIo s2' ∧ NIo s3' ∧ NIo s4' ∧ NIo s5' ∧ NIo s6' ∧ NIo s7' ∧ NIo s8' ∧ NIo s9' ∧ NIo s10' ∧ NIo s11' ∧ NIo s12' := by
  obtain ⟨p, ep, hp⟩ := pot_ex hl (k := (k : Int)) (by omega) (by omega)
  obtain ⟨of, p1, e1, a1, a2, o1⟩ := take_ex hp (m := 5) (by decide) (by decide)
  obtain ⟨i2, p2, e2, b1, b2, o2⟩ := take_ex o1 (m := 4) (by decide) (by decide)
  obtain ⟨mo, x1, mo1⟩ := pick4 (a := 24) (b := 24) (c := 24) (d := 64) b1 b2
  obtain ⟨n, p3, e3, c1, c2, o3⟩ := many_v2_ex o2 (m := mo) (by omega) (by omega)
  obtain ⟨ms, p4, e4, d1, o4, ri, _⟩ := marks32_ex o3 c1 (by omega)
  obtain ⟨cs, p5, e5, ck, o5, _⟩ := cards32_ex o4 (ms := ms) (by omega)
  have hc : cs.length ≤ 64 := by
    have := congrArg List.length ck
    rw [List.length_map] at this
    omega
  obtain ⟨t, p6, e6, ht, o6⟩ := either_ex o5 (cs := cs) (by omega)
  have hh := T.hi_len t
  rw [ht] at hh
  have rs : Rise t.cards := by
    rw [ht]
    exact rise_of (by rw [ck]; exact ri)
  have nd : (t.cards.map Card.k).Nodup := by
    rw [ht, ck]
    exact ri.imp (fun h => by omega)
  have et := table27 (t := t) (by omega) nd (by rw [ht]; omega)
  have G0 := good_ino nd (by rw [ht]; exact hc)
  obtain ⟨ρ', e8, q, K, m, s9', rfl, oq, GK, hm, n9⟩ := forX_inv (g := xN 9) (b := U_law_k28_v2_2) (enc := fun (i : Nat) => PyData.int i) (fun xs ρ => ∃ (q : Pot) (K : List (Key × PyData)) (m : Nat) (s9 : Option R), ρ = [some (.sh (.list (ns.map .int))), some (.sh (.int k)), some (.own q.o), some (.sh (.int of)), some (.sh (.int mo)), some (.sh (.list (ms.map .int))), some (.sh t.d), some (.sh (.dict (kvD (ino27 t)))), some (.sh (.dict (kvD K))), s9, s10, s11, s12] ∧ q.Ok ∧ Good (t.cards.map Card.k) K m ∧ m + xs.length ≤ 4 ∧ NIo s9)
    (by
      rintro i xs _ ⟨q, K, m, s9, rfl, oq, GK, hm, n9⟩
      rw [List.length_cons] at hm
      obtain ⟨K', q', e, oq', GK'⟩ := spoilt28 (ms := ms) (by omega) (by omega) GK oq
      refine ⟨[some (.sh (.list (ns.map .int))), some (.sh (.int k)), some (.own q.o), some (.sh (.int of)), some (.sh (.int mo)), some (.sh (.list (ms.map .int))), some (.sh t.d), some (.sh (.dict (kvD (ino27 t)))), some (.sh (.dict (kvD K))), some (.sh (.int i)), s10, s11, s12], _, by simp [n9 _], .inl ?_, q', K', m + 1, some (.sh (.int i)), rfl, oq', GK', by omega, .sh _⟩
      generalize t.d = TD at *
      generalize kvD (ino27 t) = ID at *
      generalize ns.map PyData.int = ND at *
      generalize ms.map PyData.int = MD at *
      simp (disch := first | assumption | omega) [U_law_k28_v2_2, e, gr_ok, gd_ok])
    (List.range of.toNat) _ ⟨p6, ino27 t, 0, s9, rfl, o6, G0, by rw [List.length_range]; omega, h9⟩
  rw [← rangeD_map0] at e8
  have GK4 : Good (t.cards.map Card.k) K 4 := ⟨GK.dk, by have := GK.len; simp at hm; omega, by have := GK.sp; simp at hm; omega⟩
  have G04 : Good (t.cards.map Card.k) (ino27 t) 4 := ⟨G0.dk, by have := G0.len; omega, by have := G0.sp; omega⟩
  obtain ⟨ρ', e9, _, s10', s11', s12', rfl, n10, n11, n12⟩ := forX_inv (g := xN 10) (b := U_law_k28_v2_1) (enc := fun (K : List (Key × PyData)) => PyData.dict (kvD K)) (fun xs ρ => (∀ x ∈ xs, Good (t.cards.map Card.k) x 4) ∧ ∃ (s10 s11 s12 : Option R), ρ = [some (.sh (.list (ns.map .int))), some (.sh (.int k)), some (.own (.lst [.int q.a, .int q.b])), some (.sh (.int of)), some (.sh (.int mo)), some (.sh (.list (ms.map .int))), some (.sh t.d), some (.sh (.dict (kvD (ino27 t)))), some (.sh (.dict (kvD K))), s9', s10, s11, s12] ∧ NIo s10 ∧ NIo s11 ∧ NIo s12)
    (by
      rintro L xs _ ⟨hx, s10, s11, s12, rfl, n10, n11, n12⟩
      obtain ⟨s12', n12', e⟩ := turn28 (sc := .list (ns.map .int)) (k := .int k) (of := .int of) (mo := .int mo) (mk := .list (ms.map .int)) (rd := .dict (kvD (ino27 t))) (md := .dict (kvD K)) (tn := .none) (po := [.int q.a, .int q.b]) (t := t) (K := L) (s9 := s9') (by omega) (by rw [ht]; exact hc) rs (hx L (by simp)) n11 n12
      exact ⟨[some (.sh (.list (ns.map .int))), some (.sh (.int k)), some (.own (.lst [.int q.a, .int q.b])), some (.sh (.int of)), some (.sh (.int mo)), some (.sh (.list (ms.map .int))), some (.sh t.d), some (.sh (.dict (kvD (ino27 t)))), some (.sh (.dict (kvD K))), s9', some (.sh (.dict (kvD L))), s11, s12], _, by simp [n10 _], .inl e, fun x hx' => hx x (by simp [hx']), some (.sh (.dict (kvD L))), some (.sh (.dict (kvD L))), s12', rfl, .sh _, .sh _, n12'⟩)
    [K, ino27 t, K] _ ⟨fun x hx => by
      simp only [List.mem_cons, List.not_mem_nil, or_false] at hx
      rcases hx with rfl | rfl | rfl
      · exact GK4
      · exact G04
      · exact GK4, s10, s11, s12, rfl, h10, h11, h12⟩
  have ef := fault28 G0.dk (t := t) (by omega) (by rw [ht]; omega) rs (by have := G0.len; omega)
  rw [fault_right nd] at ef
  have dk := vDictOf_kv (ino27 t)
  refine ⟨_, _, _, _, _, _, _, _, _, _, _, ?_, .own q.o, .sh (.int of), .sh (.int mo), .sh (.list (ms.map .int)), .sh t.d, .sh (.dict (kvD (ino27 t))), .sh (.dict (kvD K)), n9, n10, n11, n12⟩
  simp only [csd, Pot.o] at *
  simp only [List.map_cons, List.map_nil] at e9
  generalize kvD K = KD at *
  generalize t.d = TD at *
  generalize cs.map Card.d = CD at *
  generalize hI : kvD (ino27 t) = ID at *
  generalize ns.map PyData.int = ND at *
  generalize ms.map PyData.int = MD at *
  have ofl : of.toNat ≤ 1000 := by omega
  simp (disch := first | assumption | omega) [U_law_k28_v2_3, ep, h2 _, e1, h3 _, e2, x1, h4 _, e3, e4, h5 _, e5, e6, h6 _, et, h7 _, h8 _, e8, e9, dk, hI, ef, gr_ok, gd_ok]
theorem loop28 {ns : List Int} (hl : ns.length ≤ 63) (n : Nat) (hn : n ≤ 63) : ∃ ρ', forX (xN 1) U_law_k28_v2_3 (rangeD 0 n) [some (.sh (.list (ns.map .int))), none, none, none, none, none, none, none, none, none, none, none, none] = .nx ρ' := by
  rw [rangeD_map0]
  obtain ⟨ρ', e, _⟩ := forX_inv (g := xN 1) (b := U_law_k28_v2_3) (enc := fun (i : Nat) => PyData.int i) (fun xs ρ => (∀ x ∈ xs, x < 64) ∧ ∃ (s1 s2 s3 s4 s5 s6 s7 s8 s9 s10 s11 s12 : Option R), ρ = [some (.sh (.list (ns.map .int))), s1, s2, s3, s4, s5, s6, s7, s8, s9, s10, s11, s12] ∧ NIo s1 ∧ NIo s2 ∧ NIo s3 ∧ NIo s4 ∧ NIo s5 ∧ NIo s6 ∧ NIo s7 ∧ NIo s8 ∧ NIo s9 ∧ NIo s10 ∧ NIo s11 ∧ NIo s12)
    (by
      rintro x xs _ ⟨hx, s1, s2, s3, s4, s5, s6, s7, s8, s9, s10, s11, s12, rfl, n1, n2, n3, n4, n5, n6, n7, n8, n9, n10, n11, n12⟩
      obtain ⟨s2', s3', s4', s5', s6', s7', s8', s9', s10', s11', s12', e, g⟩ := cell28 hl (hx x (by simp)) n2 n3 n4 n5 n6 n7 n8 n9 n10 n11 n12
      exact ⟨[some (.sh (.list (ns.map .int))), some (.sh (.int x)), s2, s3, s4, s5, s6, s7, s8, s9, s10, s11, s12], _, by simp [n1 _], .inl e, fun y hy => hx y (by simp [hy]), _, _, _, _, _, _, _, _, _, _, _, _, rfl, .sh _, g⟩)
    (List.range n) _ ⟨fun x hx => by have := List.mem_range.mp hx; omega, none, none, none, none, none, none, none, none, none, none, none, none, rfl, .none, .none, .none, .none, .none, .none, .none, .none, .none, .none, .none, .none⟩
  exact ⟨ρ', e⟩
theorem law_k28_v2_true (ns : List Int) (hl : ns.length ≤ 63) : F_law_k28_v2 [.list (ns.map .int)] = .ok (.sh (.bool true)) () := by
  rw [F_law_k28_v2_eq]
  obtain ⟨ρ', e⟩ := loop28 hl (if 1 < if 8 < (ns.length : Int) then 8 else (ns.length : Int) then if 8 < (ns.length : Int) then 8 else (ns.length : Int) else 1).toNat (by split <;> split <;> omega)
  simp (disch := first | assumption | omega) [U_law_k28_v2, gd_ok, e]
end PF
set_option Elab.async false
set_option linter.all false
set_option maxRecDepth 100000
set_option maxHeartbeats 4000000
namespace K28
open PySem PyProof.Rows L2 DL DX PF
def top (i : Nat) : Stmt := PySem.Challenge.pw_crestkeys_k28_sums_faults.main.body.getD i (.Pass ⟨0, 0, 0, 0⟩)
section
variable {P : Program} {w : World} {K : PySem.W.Frag} {mg : Str → Option Value} {base : Heap}
abbrev s_parts_in : Stmt := top 1
theorem sc_parts_in : FnScope ["branching", "left", "card", "right"] ["branching"] (defScope s_parts_in) := ⟨rfl, rfl, rfl, by decide +kernel, rfl, by decide +kernel, by decide +kernel⟩
theorem cal_parts_in (D : Df K mg "parts_in" s_parts_in ["branching"])     : ∀ n : Nat, Cal P w K mg base (0 + n) "parts_in" ["branching"] (spD K (cD (F_parts_in n)))
  | 0 => calX0 D
  | n + 1 => by
    have c_parts_in := cal_parts_in D   n
    have sc := sc_parts_in
    exact calX (xs := U_parts_in (F_parts_in n)) (m := 1) (n := 4) D sc_parts_in (by decide) (fun f cdv A outer s H E hr =>
    (sxs_cons (sx_if (tx_eq hr (xe_var (pv 0)) (xe_tup ax_nil)) (sxs_one (sx_ret (xe_lst ax_nil))) sxs_nil)
    (sxs_cons (sx_asg (xe_var (pv 0)) (gx_seq rfl (gxs_cons (gx_name (pg_name (i := 1) sc.nd rfl (Or.inl rfl))) (gxs_cons (gx_name (pg_name (i := 2) sc.nd rfl (Or.inl rfl))) (gxs_cons (gx_name (pg_name (i := 3) sc.nd rfl (Or.inl rfl))) gxs_nil)))))
    (sxs_one (sx_ret (xe_add (xe_add (xe_callC c_parts_in hr (Nat.le_refl _) rfl (ax_cons (xe_var (pv 1)) ax_nil)) (xe_lst (ax_cons (xe_var (pv 0)) ax_nil))) (xe_callC c_parts_in hr (Nat.le_refl _) rfl (ax_cons (xe_var (pv 3)) ax_nil))))))))
abbrev s_road : Stmt := top 3
theorem sc_road : FnScope ["tree", "key", "met", "part", "left", "card", "right"] ["tree", "key"] (defScope s_road) := ⟨rfl, rfl, rfl, by decide +kernel, rfl, by decide +kernel, by decide +kernel⟩
theorem cal_road (D : Df K mg "road" s_road ["tree", "key"])     : Cal P w K mg base 1 "road" ["tree", "key"] (spD K (cD F_road)) := by
  have sc := sc_road
  exact calX (xs := U_road) (m := 2) (n := 7) (k := 0) D sc_road (by decide) (fun f cdv A outer s H E hr =>
    (sxs_cons (sx_set (i := 2) sc.nd rfl (Or.inl rfl) (xe_lst ax_nil))
    (sxs_cons (sx_set (i := 3) sc.nd rfl (Or.inl rfl) (xe_var (pv 0)))
    (sxs_cons (sx_while PassesOwn.never (tx_ne hr (xe_var (pv 3)) (xe_tup ax_nil)) (sxs_cons (sx_asg (xe_var (pv 3)) (gx_seq rfl (gxs_cons (gx_name (pg_name (i := 4) sc.nd rfl (Or.inl rfl))) (gxs_cons (gx_name (pg_name (i := 5) sc.nd rfl (Or.inl rfl))) (gxs_cons (gx_name (pg_name (i := 6) sc.nd rfl (Or.inl rfl))) gxs_nil)))))
    (sxs_cons (sx_expr (xe_append (pv 2) (ax_cons (xe_ixU (pv 5) xe_int) ax_nil)))
    (sxs_cons (sx_if (tx_eq hr (xe_ixU (pv 5) xe_int) (xe_var (pv 1))) (sxs_one (sx_ret (xe_var (pv 2)))) sxs_nil)
    (sxs_one (sx_set (i := 3) sc.nd rfl (Or.inl rfl) (xe_ifE (tx_lt (xe_var (pv 1)) (xe_ixU (pv 5) xe_int)) (xe_var (pv 4)) (xe_var (pv 6)))))))))
    (sxs_one (sx_ret (xe_var (pv 2))))))))
abbrev s_holds : Stmt := top 4
theorem sc_holds : FnScope ["tree", "key", "met"] ["tree", "key"] (defScope s_holds) := ⟨rfl, rfl, rfl, by decide +kernel, rfl, by decide +kernel, by decide +kernel⟩
theorem cal_holds (D : Df K mg "holds" s_holds ["tree", "key"]) (m_len : mg "len" = none)  (c_road : Cal P w K mg base 1 "road" ["tree", "key"] (spD K (cD F_road)))  : Cal P w K mg base 2 "holds" ["tree", "key"] (spD K (cD F_holds)) := by
  have sc := sc_holds
  exact calX (xs := U_holds) (m := 2) (n := 3) (k := 1) D sc_holds (by decide) (fun f cdv A outer s H E hr =>
    (sxs_cons (sx_set (i := 2) sc.nd rfl (Or.inl rfl) (xe_callC c_road hr (by decide) rfl (ax_cons (xe_var (pv 0)) (ax_cons (xe_var (pv 1)) ax_nil))))
    (sxs_one (sx_ret (xe_and (xe_gt (xe_lenU rfl m_len (pv 2)) xe_int) (xe_one (xe_eq hr (xe_ixU (pv 2) (xe_neg xe_int)) (xe_var (pv 1)))))))))
abbrev s_entry_made : Stmt := top 7
theorem sc_entry_made : FnScope ["worth", "left", "right", "many", "total", "ahead", "behind", "within"] ["worth", "left", "right"] (defScope s_entry_made) := ⟨rfl, rfl, rfl, by decide +kernel, rfl, by decide +kernel, by decide +kernel⟩
theorem cal_entry_made (D : Df K mg "entry_made" s_entry_made ["worth", "left", "right"]) (m_max : mg "max" = none)    : Cal P w K mg base 1 "entry_made" ["worth", "left", "right"] (spD K (cD F_entry_made)) := by
  have sc := sc_entry_made
  exact calX (xs := U_entry_made) (m := 3) (n := 8) (k := 0) D sc_entry_made (by decide) (fun f cdv A outer s H E hr =>
    (sxs_cons (sx_set (i := 3) sc.nd rfl (Or.inl rfl) (xe_add (xe_add (xe_ixU (pv 1) xe_int) xe_int) (xe_ixU (pv 2) xe_int)))
    (sxs_cons (sx_set (i := 4) sc.nd rfl (Or.inl rfl) (xe_add (xe_add (xe_ixU (pv 1) xe_int) (xe_var (pv 0))) (xe_ixU (pv 2) xe_int)))
    (sxs_cons (sx_set (i := 5) sc.nd rfl (Or.inl rfl) (xe_max2 rfl rfl m_max (ax_cons (xe_ixU (pv 1) xe_int) (ax_cons (xe_add (xe_add (xe_ixU (pv 1) xe_int) (xe_var (pv 0))) (xe_ixU (pv 2) xe_int)) ax_nil))))
    (sxs_cons (sx_set (i := 6) sc.nd rfl (Or.inl rfl) (xe_max2 rfl rfl m_max (ax_cons (xe_ixU (pv 2) xe_int) (ax_cons (xe_add (xe_add (xe_ixU (pv 1) xe_int) (xe_var (pv 0))) (xe_ixU (pv 2) xe_int)) ax_nil))))
    (sxs_cons (sx_set (i := 7) sc.nd rfl (Or.inl rfl) (xe_max3 rfl rfl m_max (ax_cons (xe_ixU (pv 1) xe_int) (ax_cons (xe_ixU (pv 2) xe_int) (ax_cons (xe_add (xe_add (xe_ixU (pv 1) xe_int) (xe_var (pv 0))) (xe_ixU (pv 2) xe_int)) ax_nil)))))
    (sxs_one (sx_ret (xe_tup (ax_cons (xe_var (pv 3)) (ax_cons (xe_var (pv 4)) (ax_cons (xe_var (pv 5)) (ax_cons (xe_var (pv 6)) (ax_cons (xe_var (pv 7)) ax_nil))))))))))))))
abbrev s_entry_of_v3 : Stmt := top 8
theorem sc_entry_of_v3 : FnScope ["part", "sums"] ["part", "sums"] (defScope s_entry_of_v3) := ⟨rfl, rfl, rfl, by decide +kernel, rfl, by decide +kernel, by decide +kernel⟩
theorem cal_entry_of_v3 (D : Df K mg "entry_of" s_entry_of_v3 ["part", "sums"])  (g_NOUGHTS : GlT K mg "NOUGHTS" [0, 0, 0, 0, 0])   : Cal P w K mg base 1 "entry_of" ["part", "sums"] (spD K (cD F_entry_of_v3)) := by
  have sc := sc_entry_of_v3
  exact calX (xs := U_entry_of_v3) (m := 2) (n := 2) (k := 0) D sc_entry_of_v3 (by decide) (fun f cdv A outer s H E hr =>
    (sxs_cons (sx_if (tx_eq hr (xe_var (pv 0)) (xe_tup ax_nil)) (sxs_one (sx_ret (xe_globT (ns := [0, 0, 0, 0, 0]) rfl g_NOUGHTS))) sxs_nil)
    (sxs_one (sx_ret (xe_dix hr (pv 1) (xe_ix (xe_ixU (pv 0) xe_int) xe_int) (fun _ _ => rfl))))))
abbrev s_entry_due_v3 : Stmt := top 9
theorem sc_entry_due_v3 : FnScope ["part", "sums", "left", "card", "right"] ["part", "sums"] (defScope s_entry_due_v3) := ⟨rfl, rfl, rfl, by decide +kernel, rfl, by decide +kernel, by decide +kernel⟩
theorem cal_entry_due_v3 (D : Df K mg "entry_due" s_entry_due_v3 ["part", "sums"])   (c_entry_made : Cal P w K mg base 1 "entry_made" ["worth", "left", "right"] (spD K (cD F_entry_made))) (c_entry_of_v3 : Cal P w K mg base 1 "entry_of" ["part", "sums"] (spD K (cD F_entry_of_v3)))  : Cal P w K mg base 2 "entry_due" ["part", "sums"] (spD K (cD F_entry_due_v3)) := by
  have sc := sc_entry_due_v3
  exact calX (xs := U_entry_due_v3) (m := 2) (n := 5) (k := 1) D sc_entry_due_v3 (by decide) (fun f cdv A outer s H E hr =>
    (sxs_cons (sx_asg (xe_var (pv 0)) (gx_seq rfl (gxs_cons (gx_name (pg_name (i := 2) sc.nd rfl (Or.inl rfl))) (gxs_cons (gx_name (pg_name (i := 3) sc.nd rfl (Or.inl rfl))) (gxs_cons (gx_name (pg_name (i := 4) sc.nd rfl (Or.inl rfl))) gxs_nil)))))
    (sxs_one (sx_ret (xe_callC c_entry_made hr (by decide) rfl (ax_cons (xe_ixU (pv 3) xe_int) (ax_cons (xe_callC c_entry_of_v3 hr (by decide) rfl (ax_cons (xe_var (pv 2)) (ax_cons (xe_varD (pv 1)) ax_nil))) (ax_cons (xe_callC c_entry_of_v3 hr (by decide) rfl (ax_cons (xe_var (pv 4)) (ax_cons (xe_varD (pv 1)) ax_nil))) ax_nil))))))))
abbrev s_sums_fault_v2 : Stmt := top 10
theorem sc_sums_fault_v2 : FnScope ["tree", "sums", "parts", "part", "spare", "key"] ["tree", "sums"] (defScope s_sums_fault_v2) := ⟨rfl, rfl, rfl, by decide +kernel, rfl, by decide +kernel, by decide +kernel⟩
theorem cal_sums_fault_v2 (D : Df K mg "sums_fault" s_sums_fault_v2 ["tree", "sums"]) (m_len : mg "len" = none) (m_min : mg "min" = none)  (c_entry_due_v3 : Cal P w K mg base 2 "entry_due" ["part", "sums"] (spD K (cD F_entry_due_v3))) (c_entry_of_v3 : Cal P w K mg base 1 "entry_of" ["part", "sums"] (spD K (cD F_entry_of_v3))) (c_holds : Cal P w K mg base 2 "holds" ["tree", "key"] (spD K (cD F_holds))) (c_parts_in : Cal P w K mg base 70 "parts_in" ["branching"] (spD K (cD (F_parts_in 70))))  : Cal P w K mg base 71 "sums_fault" ["tree", "sums"] (spD K (cD F_sums_fault_v2)) := by
  have sc := sc_sums_fault_v2
  exact calX (xs := U_sums_fault_v2) (m := 2) (n := 6) (k := 70) D sc_sums_fault_v2 (by decide) (fun f cdv A outer s H E hr =>
    (sxs_cons (sx_set (i := 2) sc.nd rfl (Or.inl rfl) (xe_callC c_parts_in hr (by decide) rfl (ax_cons (xe_var (pv 0)) ax_nil)))
    (sxs_cons (sx_for rfl (ix_seq (xe_var (pv 2))) (gx_name (pg_name (i := 3) sc.nd rfl (Or.inl rfl))) (sxs_one (sx_if (tx_notInP (hu_of hr) (xe_ix (xe_ixU (pv 3) xe_int) xe_int) (pv 1)) (sxs_one (sx_ret (xe_tup (ax_cons xe_str (ax_cons (xe_ix (xe_ixU (pv 3) xe_int) xe_int) ax_nil))))) sxs_nil)) PassesOwn.never)
    (sxs_cons (sx_for rfl (ix_seq (xe_var (pv 2))) (gx_name (pg_name (i := 3) sc.nd rfl (Or.inl rfl))) (sxs_one (sx_if (tx_ne hr (xe_callC c_entry_of_v3 hr (by decide) rfl (ax_cons (xe_var (pv 3)) (ax_cons (xe_varD (pv 1)) ax_nil))) (xe_callC c_entry_due_v3 hr (by decide) rfl (ax_cons (xe_var (pv 3)) (ax_cons (xe_varD (pv 1)) ax_nil)))) (sxs_one (sx_ret (xe_tup (ax_cons xe_str (ax_cons (xe_ix (xe_ixU (pv 3) xe_int) xe_int) ax_nil))))) sxs_nil)) PassesOwn.never)
    (sxs_cons (sx_setLc (k := 4) (own := [("key", 5)]) rfl sc.nd rfl rfl (sw_true rfl rfl rfl (by decide +kernel)) (ix_keys (xe_varD (pv 1))) (blkOk_by (own := [("key", 5)]) (N := ["tree", "sums", "parts", "part", "spare", "key"]) (sc := defScope s_sums_fault_v2) (by decide +kernel)) (gbx_name fun _ _ _ _ _ => pg_name (i := 5) sc.nd rfl (Or.inl rfl)) (by decide) (fun _ _ _ _ _ => (txs_one (tx_not (tx_val (xe_callC c_holds hr (by decide) rfl (ax_cons (xe_var (pv 0)) (ax_cons (xe_var (pv 5)) ax_nil))))))) (fun _ _ _ _ _ => (xe_var (pv 5))))
    (sxs_cons (sx_if (tx_gt (xe_lenU rfl m_len (pv 4)) xe_int) (sxs_one (sx_ret (xe_tup (ax_cons xe_str (ax_cons (xe_minL rfl rfl m_min (ax_cons (xe_var (pv 4)) ax_nil)) ax_nil))))) sxs_nil)
    (sxs_one (sx_ret xe_non))))))))
abbrev s_law_pot : Stmt := top 12
theorem sc_law_pot : FnScope ["script", "k", "cell"] ["script", "k"] (defScope s_law_pot) := ⟨rfl, rfl, rfl, by decide +kernel, rfl, by decide +kernel, by decide +kernel⟩
theorem cal_law_pot (D : Df K mg "_law_pot" s_law_pot ["script", "k"]) (m_abs : mg "abs" = none) (m_int : mg "int" = none) (m_len : mg "len" = none)    : Cal P w K mg base 1 "_law_pot" ["script", "k"] (spD K (cD F_law_pot)) := by
  have sc := sc_law_pot
  exact calX (xs := U_law_pot) (m := 2) (n := 3) (k := 0) D sc_law_pot (by decide) (fun f cdv A outer s H E hr =>
    (sxs_cons (sx_set (i := 2) sc.nd rfl (Or.inl rfl) xe_int)
    (sxs_cons (sx_if (tx_lt (xe_var (pv 1)) (xe_lenU rfl m_len (pv 0))) (sxs_one (sx_set (i := 2) sc.nd rfl (Or.inl rfl) (xe_mod (xe_abs rfl m_abs (ax_cons (xe_ixU (pv 0) (xe_var (pv 1))) ax_nil)) (xe_pow (xe_pow xe_int xe_int) xe_int)))) sxs_nil)
    (sxs_one (sx_ret (xe_lst (ax_cons (xe_mulB (xe_var (pv 2)) (xe_intB rfl m_int (ax_cons (xe_ge (xe_var (pv 2)) (xe_pow xe_int xe_int)) ax_nil))) (ax_cons (xe_mod (xe_pow (xe_add (xe_add (xe_mod (xe_var (pv 2)) xe_int) (xe_mulB xe_int (xe_var (pv 1)))) xe_int) xe_int) xe_int) ax_nil))))))))
abbrev s_law_take : Stmt := top 13
theorem sc_law_take : FnScope ["pot", "many", "found"] ["pot", "many"] (defScope s_law_take) := ⟨rfl, rfl, rfl, by decide +kernel, rfl, by decide +kernel, by decide +kernel⟩
theorem cal_law_take (D : Df K mg "_law_take" s_law_take ["pot", "many"])     : Cal P w K mg base 1 "_law_take" ["pot", "many"] (spP K (cP F_law_take)) := by
  have sc := sc_law_take
  exact calXP (xs := U_law_take) (m := 2) (n := 3) (k := 0) D sc_law_take (by decide) (fun f cdv A outer s H E hr =>
    (sxs_cons (sx_if (tx_gt (xe_ixU (pv 0) xe_int) xe_int) (sxs_cons (sx_set (i := 2) sc.nd rfl (Or.inl rfl) (xe_mod (xe_ixU (pv 0) xe_int) (xe_var (pv 1))))
    (sxs_cons (sx_setIx (xe_fdiv (xe_ixU (pv 0) xe_int) (xe_var (pv 1))) (pv 0) xe_int)
    (sxs_one (sx_ret (xe_var (pv 2)))))) sxs_nil)
    (sxs_cons (sx_setIx (xe_mod (xe_add (xe_mulB (xe_ixU (pv 0) xe_int) xe_int) xe_int) xe_int) (pv 0) xe_int)
    (sxs_one (sx_ret (xe_mod (xe_fdiv (xe_mod (xe_mulB (xe_ixU (pv 0) xe_int) (xe_ixU (pv 0) xe_int)) xe_int) xe_int) (xe_var (pv 1))))))))
abbrev s_law_marks : Stmt := top 14
theorem sc_law_marks : FnScope ["pot", "many", "way", "begin", "mirrored_way", "at", "found", "k", "mark"] ["pot", "many"] (defScope s_law_marks) := ⟨rfl, rfl, rfl, by decide +kernel, rfl, by decide +kernel, by decide +kernel⟩
theorem cal_law_marks (D : Df K mg "_law_marks" s_law_marks ["pot", "many"]) (m_range : mg "range" = none)  (c_law_take : Cal P w K mg base 1 "_law_take" ["pot", "many"] (spP K (cP F_law_take)))  : Cal P w K mg base 2 "_law_marks" ["pot", "many"] (spP K (cP F_law_marks)) := by
  have sc := sc_law_marks
  exact calXP (xs := U_law_marks) (m := 2) (n := 9) (k := 1) D sc_law_marks (by decide) (fun f cdv A outer s H E hr =>
    (sxs_cons (sx_set (i := 2) sc.nd rfl (Or.inl rfl) (xe_callCO c_law_take hr (by decide) rfl (pv 0) (ax_cons xe_int ax_nil)))
    (sxs_cons (sx_set (i := 3) sc.nd rfl (Or.inl rfl) (xe_callCO c_law_take hr (by decide) rfl (pv 0) (ax_cons xe_int ax_nil)))
    (sxs_cons (sx_set (i := 4) sc.nd rfl (Or.inl rfl) (xe_callCO c_law_take hr (by decide) rfl (pv 0) (ax_cons xe_int ax_nil)))
    (sxs_cons (sx_set (i := 5) sc.nd rfl (Or.inl rfl) xe_int)
    (sxs_cons (sx_if (tx_gt (xe_var (pv 3)) xe_int) (sxs_one (sx_set (i := 5) sc.nd rfl (Or.inl rfl) (xe_mulB (xe_callCO c_law_take hr (by decide) rfl (pv 0) (ax_cons (xe_ix (xe_tup (ax_cons xe_int (ax_cons (xe_pow xe_int xe_int) ax_nil))) (xe_sub (xe_var (pv 3)) xe_int)) ax_nil)) (xe_ix (xe_tup (ax_cons xe_int (ax_cons (xe_pow xe_int xe_int) ax_nil))) (xe_sub (xe_var (pv 3)) xe_int))))) sxs_nil)
    (sxs_cons (sx_set (i := 6) sc.nd rfl (Or.inl rfl) (xe_lst ax_nil))
    (sxs_cons (sx_for rfl (ix_rng1 rfl m_range (ax_cons (xe_var (pv 1)) ax_nil)) (gx_name (pg_name (i := 7) sc.nd rfl (Or.inl rfl))) (sxs_cons (sx_expr (xe_append (pv 6) (ax_cons (xe_var (pv 5)) ax_nil)))
    (sxs_one (sx_set (i := 5) sc.nd rfl (Or.inl rfl) (xe_add (xe_add (xe_var (pv 5)) xe_int) (xe_callCO c_law_take hr (by decide) rfl (pv 0) (ax_cons (xe_ix (xe_tup (ax_cons xe_int (ax_cons xe_int (ax_cons xe_int (ax_cons (xe_pow xe_int xe_int) ax_nil))))) (xe_var (pv 2))) ax_nil)))))) PassesOwn.never)
    (sxs_cons (sx_if (tx_eq hr (xe_var (pv 4)) xe_int) (sxs_one (sx_setLc (k := 6) (own := [("mark", 8)]) rfl sc.nd rfl rfl (sw_true rfl rfl rfl (by decide +kernel)) (ix_seq (xe_rev (xe_var (pv 6)))) (blkOk_by (own := [("mark", 8)]) (N := ["pot", "many", "way", "begin", "mirrored_way", "at", "found", "k", "mark"]) (sc := defScope s_law_marks) (by decide +kernel)) (gbx_name fun _ _ _ _ _ => pg_name (i := 8) sc.nd rfl (Or.inl rfl)) (by decide) (fun _ _ _ _ _ => txs_nil) (fun _ _ _ _ _ => (xe_sub (xe_pow xe_int xe_int) (xe_var (pv 8)))))) sxs_nil)
    (sxs_one (sx_ret (xe_var (pv 6)))))))))))))
abbrev s_law_cards_v4 : Stmt := top 15
theorem sc_law_cards_v4 : FnScope ["pot", "marks", "way", "gain", "found", "k", "rank", "worth"] ["pot", "marks"] (defScope s_law_cards_v4) := ⟨rfl, rfl, rfl, by decide +kernel, rfl, by decide +kernel, by decide +kernel⟩
theorem cal_law_cards_v4 (D : Df K mg "_law_cards" s_law_cards_v4 ["pot", "marks"]) (m_len : mg "len" = none) (m_range : mg "range" = none)  (c_law_take : Cal P w K mg base 1 "_law_take" ["pot", "many"] (spP K (cP F_law_take)))  : Cal P w K mg base 2 "_law_cards" ["pot", "marks"] (spP K (cP F_law_cards_v4)) := by
  have sc := sc_law_cards_v4
  exact calXP (xs := U_law_cards_v4) (m := 2) (n := 8) (k := 1) D sc_law_cards_v4 (by decide) (fun f cdv A outer s H E hr =>
    (sxs_cons (sx_set (i := 2) sc.nd rfl (Or.inl rfl) (xe_callCO c_law_take hr (by decide) rfl (pv 0) (ax_cons xe_int ax_nil)))
    (sxs_cons (sx_set (i := 3) sc.nd rfl (Or.inl rfl) (xe_callCO c_law_take hr (by decide) rfl (pv 0) (ax_cons xe_int ax_nil)))
    (sxs_cons (sx_set (i := 4) sc.nd rfl (Or.inl rfl) (xe_lst ax_nil))
    (sxs_cons (sx_for rfl (ix_rng1 rfl m_range (ax_cons (xe_lenU rfl m_len (pv 1)) ax_nil)) (gx_name (pg_name (i := 5) sc.nd rfl (Or.inl rfl))) (sxs_cons (sx_set (i := 6) sc.nd rfl (Or.inl rfl) (xe_mulB (xe_callCO c_law_take hr (by decide) rfl (pv 0) (ax_cons (xe_ix (xe_tup (ax_cons xe_int (ax_cons xe_int (ax_cons (xe_pow xe_int xe_int) (ax_cons xe_int (ax_cons xe_int (ax_cons xe_int ax_nil))))))) (xe_var (pv 2))) ax_nil)) (xe_ix (xe_tup (ax_cons xe_int (ax_cons xe_int (ax_cons (xe_pow xe_int xe_int) (ax_cons (xe_pow xe_int xe_int) (ax_cons xe_int (ax_cons xe_int ax_nil))))))) (xe_var (pv 2)))))
    (sxs_cons (sx_set (i := 6) sc.nd rfl (Or.inl rfl) (xe_add (xe_var (pv 6)) (xe_ix (xe_tup (ax_cons xe_int (ax_cons xe_int (ax_cons xe_int (ax_cons xe_int (ax_cons (xe_var (pv 5)) (ax_cons (xe_sub (xe_lenU rfl m_len (pv 1)) (xe_var (pv 5))) ax_nil))))))) (xe_var (pv 2)))))
    (sxs_cons (sx_set (i := 7) sc.nd rfl (Or.inl rfl) (xe_sub (xe_callCO c_law_take hr (by decide) rfl (pv 0) (ax_cons (xe_ix (xe_tup (ax_cons xe_int (ax_cons xe_int (ax_cons (xe_pow xe_int xe_int) (ax_cons xe_int (ax_cons xe_int ax_nil)))))) (xe_var (pv 3))) ax_nil)) (xe_ix (xe_tup (ax_cons xe_int (ax_cons xe_int (ax_cons xe_int (ax_cons xe_int (ax_cons xe_int ax_nil)))))) (xe_var (pv 3)))))
    (sxs_one (sx_expr (xe_append (pv 4) (ax_cons (xe_tup (ax_cons (xe_ixU (pv 1) (xe_var (pv 5))) (ax_cons (xe_var (pv 6)) (ax_cons (xe_mulB (xe_var (pv 7)) (xe_ix (xe_tup (ax_cons xe_int (ax_cons (xe_pow xe_int xe_int) (ax_cons (xe_pow xe_int xe_int) (ax_cons xe_int (ax_cons xe_int ax_nil)))))) (xe_var (pv 3)))) ax_nil)))) ax_nil))))))) PassesOwn.never)
    (sxs_one (sx_ret (xe_var (pv 4)))))))))
abbrev s_law_many_v2 : Stmt := top 16
theorem sc_law_many_v2 : FnScope ["pot", "most", "many"] ["pot", "most"] (defScope s_law_many_v2) := ⟨rfl, rfl, rfl, by decide +kernel, rfl, by decide +kernel, by decide +kernel⟩
theorem cal_law_many_v2 (D : Df K mg "_law_many" s_law_many_v2 ["pot", "most"])   (c_law_take : Cal P w K mg base 1 "_law_take" ["pot", "many"] (spP K (cP F_law_take)))  : Cal P w K mg base 2 "_law_many" ["pot", "most"] (spP K (cP F_law_many_v2)) := by
  have sc := sc_law_many_v2
  exact calXP (xs := U_law_many_v2) (m := 2) (n := 3) (k := 1) D sc_law_many_v2 (by decide) (fun f cdv A outer s H E hr =>
    (sxs_cons (sx_set (i := 2) sc.nd rfl (Or.inl rfl) (xe_callCO c_law_take hr (by decide) rfl (pv 0) (ax_cons (xe_add (xe_var (pv 1)) xe_int) ax_nil)))
    (sxs_cons (sx_if (tx_eq hr (xe_callCO c_law_take hr (by decide) rfl (pv 0) (ax_cons xe_int ax_nil)) xe_int) (sxs_one (sx_set (i := 2) sc.nd rfl (Or.inl rfl) (xe_ix (xe_tup (ax_cons xe_int (ax_cons xe_int (ax_cons (xe_var (pv 1)) ax_nil)))) (xe_callCO c_law_take hr (by decide) rfl (pv 0) (ax_cons xe_int ax_nil))))) sxs_nil)
    (sxs_one (sx_ret (xe_var (pv 2)))))))
abbrev s_law_crest_v3 : Stmt := top 17
theorem sc_law_crest_v3 : FnScope ["cards", "best", "k"] ["cards"] (defScope s_law_crest_v3) := ⟨rfl, rfl, rfl, by decide +kernel, rfl, by decide +kernel, by decide +kernel⟩
theorem cal_law_crest_v3 (D : Df K mg "_law_crest" s_law_crest_v3 ["cards"]) (m_len : mg "len" = none) (m_range : mg "range" = none)    : ∀ n : Nat, Cal P w K mg base (0 + n) "_law_crest" ["cards"] (spD K (cD (F_law_crest_v3 n)))
  | 0 => calX0 D
  | n + 1 => by
    have c_law_crest_v3 := cal_law_crest_v3 D m_len m_range  n
    have sc := sc_law_crest_v3
    exact calX (xs := U_law_crest_v3 (F_law_crest_v3 n)) (m := 1) (n := 3) D sc_law_crest_v3 (by decide) (fun f cdv A outer s H E hr =>
    (sxs_cons (sx_if (tx_eq hr (xe_var (pv 0)) (xe_lst ax_nil)) (sxs_one (sx_ret (xe_tup ax_nil))) sxs_nil)
    (sxs_cons (sx_set (i := 1) sc.nd rfl (Or.inl rfl) xe_int)
    (sxs_cons (sx_for rfl (ix_rng1 rfl m_range (ax_cons (xe_lenU rfl m_len (pv 0)) ax_nil)) (gx_name (pg_name (i := 2) sc.nd rfl (Or.inl rfl))) (sxs_one (sx_if (tx_gt (xe_ix (xe_ixU (pv 0) (xe_var (pv 2))) xe_int) (xe_ix (xe_ixU (pv 0) (xe_var (pv 1))) xe_int)) (sxs_one (sx_set (i := 1) sc.nd rfl (Or.inl rfl) (xe_var (pv 2)))) sxs_nil)) PassesOwn.never)
    (sxs_one (sx_ret (xe_tup (ax_cons (xe_callC c_law_crest_v3 hr (Nat.le_refl _) rfl (ax_cons (xe_slL (xe_var (pv 0)) ox_none (ox_some (xe_var (pv 1)))) ax_nil)) (ax_cons (xe_ixU (pv 0) (xe_var (pv 1))) (ax_cons (xe_callC c_law_crest_v3 hr (Nat.le_refl _) rfl (ax_cons (xe_slL (xe_var (pv 0)) (ox_some (xe_add (xe_var (pv 1)) xe_int)) ox_none) ax_nil)) ax_nil))))))))))
abbrev s_law_tree_v3 : Stmt := top 18
theorem sc_law_tree_v3 : FnScope ["pot", "cards", "at"] ["pot", "cards"] (defScope s_law_tree_v3) := ⟨rfl, rfl, rfl, by decide +kernel, rfl, by decide +kernel, by decide +kernel⟩
theorem cal_law_tree_v3 (D : Df K mg "_law_tree" s_law_tree_v3 ["pot", "cards"]) (m_len : mg "len" = none)  (c_law_take : Cal P w K mg base 1 "_law_take" ["pot", "many"] (spP K (cP F_law_take)))  : ∀ n : Nat, Cal P w K mg base (1 + n) "_law_tree" ["pot", "cards"] (spP K (cP (F_law_tree_v3 n)))
  | 0 => calXP0 D
  | n + 1 => by
    have c_law_tree_v3 := cal_law_tree_v3 D m_len c_law_take n
    have sc := sc_law_tree_v3
    exact calXP (xs := U_law_tree_v3 (F_law_tree_v3 n)) (m := 2) (n := 3) D sc_law_tree_v3 (by decide) (fun f cdv A outer s H E hr =>
    (sxs_cons (sx_if (tx_eq hr (xe_var (pv 1)) (xe_lst ax_nil)) (sxs_one (sx_ret (xe_tup ax_nil))) sxs_nil)
    (sxs_cons (sx_set (i := 2) sc.nd rfl (Or.inl rfl) (xe_callCO c_law_take hr (Nat.le_trans (by decide) (Nat.le_add_right _ _)) rfl (pv 0) (ax_cons (xe_lenU rfl m_len (pv 1)) ax_nil)))
    (sxs_one (sx_ret (xe_tup (ax_cons (xe_callCO c_law_tree_v3 hr (Nat.le_refl _) rfl (pv 0) (ax_cons (xe_slL (xe_var (pv 1)) ox_none (ox_some (xe_var (pv 2)))) ax_nil)) (ax_cons (xe_ixU (pv 1) (xe_var (pv 2))) (ax_cons (xe_callCO c_law_tree_v3 hr (Nat.le_refl _) rfl (pv 0) (ax_cons (xe_slL (xe_var (pv 1)) (ox_some (xe_add (xe_var (pv 2)) xe_int)) ox_none) ax_nil)) ax_nil)))))))))
abbrev s_law_either : Stmt := top 19
theorem sc_law_either : FnScope ["pot", "cards"] ["pot", "cards"] (defScope s_law_either) := ⟨rfl, rfl, rfl, by decide +kernel, rfl, by decide +kernel, by decide +kernel⟩
theorem cal_law_either (D : Df K mg "_law_either" s_law_either ["pot", "cards"])   (c_law_crest_v3 : Cal P w K mg base 70 "_law_crest" ["cards"] (spD K (cD (F_law_crest_v3 70)))) (c_law_take : Cal P w K mg base 1 "_law_take" ["pot", "many"] (spP K (cP F_law_take))) (c_law_tree_v3 : Cal P w K mg base 71 "_law_tree" ["pot", "cards"] (spP K (cP (F_law_tree_v3 70))))  : Cal P w K mg base 72 "_law_either" ["pot", "cards"] (spP K (cP F_law_either)) := by
  have sc := sc_law_either
  exact calXP (xs := U_law_either) (m := 2) (n := 2) (k := 71) D sc_law_either (by decide) (fun f cdv A outer s H E hr =>
    (sxs_cons (sx_if (tx_eq hr (xe_callCO c_law_take hr (by decide) rfl (pv 0) (ax_cons xe_int ax_nil)) xe_int) (sxs_one (sx_ret (xe_callC c_law_crest_v3 hr (by decide) rfl (ax_cons (xe_var (pv 1)) ax_nil)))) sxs_nil)
    (sxs_one (sx_ret (xe_callCO c_law_tree_v3 hr (by decide) rfl (pv 0) (ax_cons (xe_var (pv 1)) ax_nil))))))
abbrev s_law_inside : Stmt := top 20
theorem sc_law_inside : FnScope ["tree"] ["tree"] (defScope s_law_inside) := ⟨rfl, rfl, rfl, by decide +kernel, rfl, by decide +kernel, by decide +kernel⟩
theorem cal_law_inside (D : Df K mg "_law_inside" s_law_inside ["tree"])     : ∀ n : Nat, Cal P w K mg base (0 + n) "_law_inside" ["tree"] (spD K (cD (F_law_inside n)))
  | 0 => calX0 D
  | n + 1 => by
    have c_law_inside := cal_law_inside D   n
    have sc := sc_law_inside
    exact calX (xs := U_law_inside (F_law_inside n)) (m := 1) (n := 1) D sc_law_inside (by decide) (fun f cdv A outer s H E hr =>
    (sxs_cons (sx_if (tx_eq hr (xe_var (pv 0)) (xe_tup ax_nil)) (sxs_one (sx_ret (xe_lst ax_nil))) sxs_nil)
    (sxs_one (sx_ret (xe_add (xe_add (xe_callC c_law_inside hr (Nat.le_refl _) rfl (ax_cons (xe_ixU (pv 0) xe_int) ax_nil)) (xe_lst (ax_cons (xe_ixU (pv 0) xe_int) ax_nil))) (xe_callC c_law_inside hr (Nat.le_refl _) rfl (ax_cons (xe_ixU (pv 0) xe_int) ax_nil)))))))
abbrev s_law_parts : Stmt := top 21
theorem sc_law_parts : FnScope ["tree"] ["tree"] (defScope s_law_parts) := ⟨rfl, rfl, rfl, by decide +kernel, rfl, by decide +kernel, by decide +kernel⟩
theorem cal_law_parts (D : Df K mg "_law_parts" s_law_parts ["tree"])     : ∀ n : Nat, Cal P w K mg base (0 + n) "_law_parts" ["tree"] (spD K (cD (F_law_parts n)))
  | 0 => calX0 D
  | n + 1 => by
    have c_law_parts := cal_law_parts D   n
    have sc := sc_law_parts
    exact calX (xs := U_law_parts (F_law_parts n)) (m := 1) (n := 1) D sc_law_parts (by decide) (fun f cdv A outer s H E hr =>
    (sxs_cons (sx_if (tx_eq hr (xe_var (pv 0)) (xe_tup ax_nil)) (sxs_one (sx_ret (xe_lst ax_nil))) sxs_nil)
    (sxs_one (sx_ret (xe_add (xe_add (xe_callC c_law_parts hr (Nat.le_refl _) rfl (ax_cons (xe_ixU (pv 0) xe_int) ax_nil)) (xe_lst (ax_cons (xe_var (pv 0)) ax_nil))) (xe_callC c_law_parts hr (Nat.le_refl _) rfl (ax_cons (xe_ixU (pv 0) xe_int) ax_nil)))))))
abbrev s_law_beside : Stmt := top 22
theorem sc_law_beside : FnScope ["marks", "found", "mark"] ["marks"] (defScope s_law_beside) := ⟨rfl, rfl, rfl, by decide +kernel, rfl, by decide +kernel, by decide +kernel⟩
theorem cal_law_beside (D : Df K mg "_law_beside" s_law_beside ["marks"])     : Cal P w K mg base 1 "_law_beside" ["marks"] (spD K (cD F_law_beside)) := by
  have sc := sc_law_beside
  exact calX (xs := U_law_beside) (m := 1) (n := 3) (k := 0) D sc_law_beside (by decide) (fun f cdv A outer s H E hr =>
    (sxs_cons (sx_set (i := 1) sc.nd rfl (Or.inl rfl) (xe_lst (ax_cons (xe_neg xe_int) (ax_cons (xe_add (xe_pow xe_int xe_int) xe_int) (ax_cons (xe_neg (xe_pow xe_int xe_int)) (ax_cons (xe_pow xe_int xe_int) ax_nil))))))
    (sxs_cons (sx_for rfl (ix_seq (xe_var (pv 0))) (gx_name (pg_name (i := 2) sc.nd rfl (Or.inl rfl))) (sxs_one (sx_expr (xe_extend (pv 1) (xe_lst (ax_cons (xe_sub (xe_var (pv 2)) xe_int) (ax_cons (xe_var (pv 2)) (ax_cons (xe_add (xe_var (pv 2)) xe_int) ax_nil))))))) PassesOwn.never)
    (sxs_one (sx_ret (xe_var (pv 1)))))))
abbrev s_law_entry : Stmt := top 23
theorem sc_law_entry : FnScope ["worths", "starts", "rests", "best", "k", "total", "worth"] ["worths"] (defScope s_law_entry) := ⟨rfl, rfl, rfl, by decide +kernel, rfl, by decide +kernel, by decide +kernel⟩
theorem cal_law_entry (D : Df K mg "_law_entry" s_law_entry ["worths"]) (m_len : mg "len" = none) (m_max : mg "max" = none) (m_range : mg "range" = none) (m_sum : mg "sum" = none)    : Cal P w K mg base 1 "_law_entry" ["worths"] (spD K (cD F_law_entry)) := by
  have sc := sc_law_entry
  exact calX (xs := U_law_entry) (m := 1) (n := 7) (k := 0) D sc_law_entry (by decide) (fun f cdv A outer s H E hr =>
    (sxs_cons (sx_setLc (k := 1) (own := [("k", 4)]) rfl sc.nd rfl rfl (sw_true rfl rfl rfl (by decide +kernel)) (ix_rng1 rfl m_range (ax_cons (xe_add (xe_lenU rfl m_len (pv 0)) xe_int) ax_nil)) (blkOk_by (own := [("k", 4)]) (N := ["worths", "starts", "rests", "best", "k", "total", "worth"]) (sc := defScope s_law_entry) (by decide +kernel)) (gbx_name fun _ _ _ _ _ => pg_name (i := 4) sc.nd rfl (Or.inl rfl)) (by decide) (fun _ _ _ _ _ => txs_nil) (fun _ _ _ _ _ => (xe_sum rfl rfl m_sum (ax_cons (xe_slL (xe_var (pv 0)) ox_none (ox_some (xe_var (pv 4)))) ax_nil))))
    (sxs_cons (sx_setLc (k := 2) (own := [("k", 4)]) rfl sc.nd rfl rfl (sw_true rfl rfl rfl (by decide +kernel)) (ix_rng1 rfl m_range (ax_cons (xe_add (xe_lenU rfl m_len (pv 0)) xe_int) ax_nil)) (blkOk_by (own := [("k", 4)]) (N := ["worths", "starts", "rests", "best", "k", "total", "worth"]) (sc := defScope s_law_entry) (by decide +kernel)) (gbx_name fun _ _ _ _ _ => pg_name (i := 4) sc.nd rfl (Or.inl rfl)) (by decide) (fun _ _ _ _ _ => txs_nil) (fun _ _ _ _ _ => (xe_sum rfl rfl m_sum (ax_cons (xe_slL (xe_var (pv 0)) (ox_some (xe_var (pv 4))) ox_none) ax_nil))))
    (sxs_cons (sx_set (i := 3) sc.nd rfl (Or.inl rfl) xe_int)
    (sxs_cons (sx_for rfl (ix_rng1 rfl m_range (ax_cons (xe_lenU rfl m_len (pv 0)) ax_nil)) (gx_name (pg_name (i := 4) sc.nd rfl (Or.inl rfl))) (sxs_cons (sx_set (i := 5) sc.nd rfl (Or.inl rfl) xe_int)
    (sxs_one (sx_for rfl (ix_seq (xe_slL (xe_var (pv 0)) (ox_some (xe_var (pv 4))) ox_none)) (gx_name (pg_name (i := 6) sc.nd rfl (Or.inl rfl))) (sxs_cons (sx_set (i := 5) sc.nd rfl (Or.inl rfl) (xe_add (xe_var (pv 5)) (xe_var (pv 6))))
    (sxs_one (sx_set (i := 3) sc.nd rfl (Or.inl rfl) (xe_max2 rfl rfl m_max (ax_cons (xe_var (pv 3)) (ax_cons (xe_var (pv 5)) ax_nil)))))) PassesOwn.never))) PassesOwn.never)
    (sxs_one (sx_ret (xe_tup (ax_cons (xe_lenU rfl m_len (pv 0)) (ax_cons (xe_sum rfl rfl m_sum (ax_cons (xe_var (pv 0)) ax_nil)) (ax_cons (xe_maxA rfl rfl m_max (ax_cons (xe_var (pv 1)) ax_nil)) (ax_cons (xe_maxA rfl rfl m_max (ax_cons (xe_var (pv 2)) ax_nil)) (ax_cons (xe_var (pv 3)) ax_nil)))))))))))))
abbrev s_law_table : Stmt := top 24
theorem sc_law_table : FnScope ["tree", "found", "part", "card"] ["tree"] (defScope s_law_table) := ⟨rfl, rfl, rfl, by decide +kernel, rfl, by decide +kernel, by decide +kernel⟩
theorem cal_law_table (D : Df K mg "_law_table" s_law_table ["tree"])   (c_law_entry : Cal P w K mg base 1 "_law_entry" ["worths"] (spD K (cD F_law_entry))) (c_law_inside : Cal P w K mg base 70 "_law_inside" ["tree"] (spD K (cD (F_law_inside 70)))) (c_law_parts : Cal P w K mg base 70 "_law_parts" ["tree"] (spD K (cD (F_law_parts 70))))  : Cal P w K mg base 71 "_law_table" ["tree"] (spD K (cD F_law_table)) := by
  have sc := sc_law_table
  exact calX (xs := U_law_table) (m := 1) (n := 4) (k := 70) D sc_law_table (by decide) (fun f cdv A outer s H E hr =>
    (sxs_cons (sx_set (i := 1) sc.nd rfl (Or.inl rfl) xe_dict0)
    (sxs_cons (sx_for rfl (ix_seq (xe_callC c_law_parts hr (by decide) rfl (ax_cons (xe_var (pv 0)) ax_nil))) (gx_name (pg_name (i := 2) sc.nd rfl (Or.inl rfl))) (sxs_one (sx_putD (hu_of hr) (xe_callC c_law_entry hr (by decide) rfl (ax_cons (xe_lc (own := [("card", 3)]) rfl sc.nd (ix_seq (xe_callC c_law_inside hr (by decide) rfl (ax_cons (xe_var (pv 2)) ax_nil))) (blkOk_by (own := [("card", 3)]) (N := ["tree", "found", "part", "card"]) (sc := defScope s_law_table) (by decide +kernel)) (gbx_name fun _ _ _ _ _ => pg_name (i := 3) sc.nd rfl (Or.inl rfl)) (by decide) (fun _ _ _ _ _ => txs_nil) (fun _ _ _ _ _ => (xe_ixU (pv 3) xe_int))) ax_nil)) (pv 1) (xe_ix (xe_ixU (pv 2) xe_int) xe_int))) PassesOwn.never)
    (sxs_one (sx_ret (xe_varD (pv 1)))))))
abbrev s_law_whole : Stmt := top 25
theorem sc_law_whole : FnScope ["found"] ["found"] (defScope s_law_whole) := ⟨rfl, rfl, rfl, by decide +kernel, rfl, by decide +kernel, by decide +kernel⟩
theorem cal_law_whole (D : Df K mg "_law_whole" s_law_whole ["found"]) (m_bool : mg "bool" = none) (m_int : mg "int" = none) (m_isinstance : mg "isinstance" = none)    : Cal P w K mg base 1 "_law_whole" ["found"] (spD K (cD F_law_whole)) := by
  have sc := sc_law_whole
  exact calX (xs := U_law_whole) (m := 1) (n := 1) (k := 0) D sc_law_whole (by decide) (fun f cdv A outer s H E hr =>
    (sxs_one (sx_ret (xe_and (xe_isiN rfl m_isinstance rfl m_int (by decide +kernel) rfl (pv 0)) (xe_one (xe_not (xe_isiN rfl m_isinstance rfl m_bool (by decide +kernel) rfl (pv 0))))))))
abbrev s_law_made_v2 : Stmt := top 26
theorem sc_law_made_v2 : FnScope ["one", "worth", "other", "many", "ahead", "behind", "within"] ["one", "worth", "other"] (defScope s_law_made_v2) := ⟨rfl, rfl, rfl, by decide +kernel, rfl, by decide +kernel, by decide +kernel⟩
theorem cal_law_made_v2 (D : Df K mg "_law_made" s_law_made_v2 ["one", "worth", "other"]) (m_max : mg "max" = none)    : Cal P w K mg base 1 "_law_made" ["one", "worth", "other"] (spD K (cD F_law_made_v2)) := by
  have sc := sc_law_made_v2
  exact calX (xs := U_law_made_v2) (m := 3) (n := 7) (k := 0) D sc_law_made_v2 (by decide) (fun f cdv A outer s H E hr =>
    (sxs_cons (sx_set (i := 3) sc.nd rfl (Or.inl rfl) (xe_add (xe_add (xe_ixU (pv 0) xe_int) xe_int) (xe_ixU (pv 2) xe_int)))
    (sxs_cons (sx_set (i := 4) sc.nd rfl (Or.inl rfl) (xe_max2 rfl rfl m_max (ax_cons (xe_ixU (pv 0) xe_int) (ax_cons (xe_add (xe_add (xe_ixU (pv 0) xe_int) (xe_var (pv 1))) (xe_ixU (pv 2) xe_int)) ax_nil))))
    (sxs_cons (sx_set (i := 5) sc.nd rfl (Or.inl rfl) (xe_max2 rfl rfl m_max (ax_cons (xe_ixU (pv 2) xe_int) (ax_cons (xe_add (xe_add (xe_ixU (pv 2) xe_int) (xe_var (pv 1))) (xe_ixU (pv 0) xe_int)) ax_nil))))
    (sxs_cons (sx_set (i := 6) sc.nd rfl (Or.inl rfl) (xe_max3 rfl rfl m_max (ax_cons (xe_ixU (pv 0) xe_int) (ax_cons (xe_ixU (pv 2) xe_int) (ax_cons (xe_add (xe_add (xe_ixU (pv 0) xe_int) (xe_var (pv 1))) (xe_ixU (pv 2) xe_int)) ax_nil)))))
    (sxs_one (sx_ret (xe_tup (ax_cons (xe_var (pv 3)) (ax_cons (xe_add (xe_add (xe_ixU (pv 0) xe_int) (xe_var (pv 1))) (xe_ixU (pv 2) xe_int)) (ax_cons (xe_var (pv 4)) (ax_cons (xe_var (pv 5)) (ax_cons (xe_var (pv 6)) ax_nil)))))))))))))
abbrev s_law_side_v2 : Stmt := top 27
theorem sc_law_side_v2 : FnScope ["part", "sums"] ["part", "sums"] (defScope s_law_side_v2) := ⟨rfl, rfl, rfl, by decide +kernel, rfl, by decide +kernel, by decide +kernel⟩
theorem cal_law_side_v2 (D : Df K mg "_law_side" s_law_side_v2 ["part", "sums"])     : Cal P w K mg base 1 "_law_side" ["part", "sums"] (spD K (cD F_law_side_v2)) := by
  have sc := sc_law_side_v2
  exact calX (xs := U_law_side_v2) (m := 2) (n := 2) (k := 0) D sc_law_side_v2 (by decide) (fun f cdv A outer s H E hr =>
    (sxs_cons (sx_if (tx_eq hr (xe_var (pv 0)) (xe_tup ax_nil)) (sxs_one (sx_ret (xe_tup (ax_cons xe_int (ax_cons xe_int (ax_cons xe_int (ax_cons xe_int (ax_cons xe_int ax_nil)))))))) sxs_nil)
    (sxs_one (sx_ret (xe_dix hr (pv 1) (xe_ix (xe_ixU (pv 0) xe_int) xe_int) (fun _ _ => rfl))))))
abbrev s_law_due_v15 : Stmt := top 28
theorem sc_law_due_v15 : FnScope ["tree", "sums", "parts", "stood", "mark", "part", "spare", "made"] ["tree", "sums"] (defScope s_law_due_v15) := ⟨rfl, rfl, rfl, by decide +kernel, rfl, by decide +kernel, by decide +kernel⟩
theorem cal_law_due_v15 (D : Df K mg "_law_due" s_law_due_v15 ["tree", "sums"]) (m_sorted : mg "sorted" = none)  (c_law_made_v2 : Cal P w K mg base 1 "_law_made" ["one", "worth", "other"] (spD K (cD F_law_made_v2))) (c_law_parts : Cal P w K mg base 70 "_law_parts" ["tree"] (spD K (cD (F_law_parts 70)))) (c_law_side_v2 : Cal P w K mg base 1 "_law_side" ["part", "sums"] (spD K (cD F_law_side_v2)))  : Cal P w K mg base 71 "_law_due" ["tree", "sums"] (spD K (cD F_law_due_v15)) := by
  have sc := sc_law_due_v15
  exact calX (xs := U_law_due_v15) (m := 2) (n := 8) (k := 70) D sc_law_due_v15 (by decide) (fun f cdv A outer s H E hr =>
    (sxs_cons (sx_set (i := 2) sc.nd rfl (Or.inl rfl) (xe_callC c_law_parts hr (by decide) rfl (ax_cons (xe_var (pv 0)) ax_nil)))
    (sxs_cons (sx_set (i := 3) sc.nd rfl (Or.inr rfl) (xe_lc (own := [("part", 5)]) rfl sc.nd (ix_seq (xe_var (pv 2))) (blkOk_by (own := [("part", 5)]) (N := ["tree", "sums", "parts", "stood", "mark", "part", "spare", "made"]) (sc := defScope s_law_due_v15) (by decide +kernel)) (gbx_name fun _ _ _ _ _ => pg_name (i := 5) sc.nd rfl (Or.inl rfl)) (by decide) (fun _ _ _ _ _ => txs_nil) (fun _ _ _ _ _ => (xe_ix (xe_ixU (pv 5) xe_int) xe_int))) (hs := sw_cell rfl))
    (sxs_cons (sx_for rfl (ix_seq (xe_var (pv 3))) (gx_name (pg_name (i := 4) sc.nd rfl (Or.inl rfl))) (sxs_one (sx_if (tx_notInP (hu_of hr) (xe_var (pv 4)) (pv 1)) (sxs_one (sx_ret (xe_tup (ax_cons xe_str (ax_cons (xe_var (pv 4)) ax_nil))))) sxs_nil)) PassesOwn.never)
    (sxs_cons (sx_for rfl (ix_seq (xe_var (pv 2))) (gx_name (pg_name (i := 5) sc.nd rfl (Or.inl rfl))) (sxs_cons (sx_set (i := 7) sc.nd rfl (Or.inl rfl) (xe_callC c_law_made_v2 hr (by decide) rfl (ax_cons (xe_callC c_law_side_v2 hr (by decide) rfl (ax_cons (xe_ixU (pv 5) xe_int) (ax_cons (xe_varD (pv 1)) ax_nil))) (ax_cons (xe_ix (xe_ixU (pv 5) xe_int) xe_int) (ax_cons (xe_callC c_law_side_v2 hr (by decide) rfl (ax_cons (xe_ixU (pv 5) xe_int) (ax_cons (xe_varD (pv 1)) ax_nil))) ax_nil)))))
    (sxs_one (sx_if (tx_ne hr (xe_dix hr (pv 1) (xe_ix (xe_ixU (pv 5) xe_int) xe_int) (fun _ _ => rfl)) (xe_var (pv 7))) (sxs_one (sx_ret (xe_tup (ax_cons xe_str (ax_cons (xe_ix (xe_ixU (pv 5) xe_int) xe_int) ax_nil))))) sxs_nil))) PassesOwn.never)
    (sxs_cons (sx_set (i := 6) sc.nd rfl (Or.inl rfl) (xe_sorted rfl m_sorted (ax_cons (xe_lc (own := [("mark", 4)]) rfl sc.nd (ix_keys (xe_varD (pv 1))) (blkOk_by (own := [("mark", 4)]) (N := ["tree", "sums", "parts", "stood", "mark", "part", "spare", "made"]) (sc := defScope s_law_due_v15) (by decide +kernel)) (gbx_name fun _ _ _ _ _ => pg_name (i := 4) sc.nd rfl (Or.inl rfl)) (by decide) (fun _ _ _ _ _ => (txs_one (tx_notInL hr (xe_var (pv 4)) (xe_var (pv 3))))) (fun _ _ _ _ _ => (xe_var (pv 4)))) ax_nil)))
    (sxs_cons (sx_if (tx_ne hr (xe_var (pv 6)) (xe_lst ax_nil)) (sxs_one (sx_ret (xe_tup (ax_cons xe_str (ax_cons (xe_ixU (pv 6) xe_int) ax_nil))))) sxs_nil)
    (sxs_one (sx_ret xe_non)))))))))
abbrev s_law_spoilt_v11 : Stmt := top 29
theorem sc_law_spoilt_v11 : FnScope ["pot", "marks", "sums", "made", "way", "asked", "mark", "other", "at", "by", "entry"] ["pot", "marks", "sums"] (defScope s_law_spoilt_v11) := ⟨rfl, rfl, rfl, by decide +kernel, rfl, by decide +kernel, by decide +kernel⟩
theorem cal_law_spoilt_v11 (D : Df K mg "_law_spoilt" s_law_spoilt_v11 ["pot", "marks", "sums"]) (m_dict : mg "dict" = none) (m_len : mg "len" = none)  (c_law_beside : Cal P w K mg base 1 "_law_beside" ["marks"] (spD K (cD F_law_beside))) (c_law_take : Cal P w K mg base 1 "_law_take" ["pot", "many"] (spP K (cP F_law_take)))  : Cal P w K mg base 2 "_law_spoilt" ["pot", "marks", "sums"] (spP K (cP F_law_spoilt_v11)) := by
  have sc := sc_law_spoilt_v11
  exact calXP (xs := U_law_spoilt_v11) (m := 3) (n := 11) (k := 1) D sc_law_spoilt_v11 (by decide) (fun f cdv A outer s H E hr =>
    (sxs_cons (sx_set (i := 3) sc.nd rfl (Or.inl rfl) (xe_dictOf rfl m_dict (ax_cons (xe_varD (pv 2)) ax_nil)))
    (sxs_cons (sx_set (i := 4) sc.nd rfl (Or.inl rfl) (xe_callCO c_law_take hr (by decide) rfl (pv 0) (ax_cons xe_int ax_nil)))
    (sxs_cons (sx_set (i := 5) sc.nd rfl (Or.inl rfl) (xe_callC c_law_beside hr (by decide) rfl (ax_cons (xe_var (pv 1)) ax_nil)))
    (sxs_cons (sx_if (tx_w (wx_or (tx_eq hr (xe_var (pv 4)) xe_int) (wx_or1 (tx_eq hr (xe_var (pv 1)) (xe_lst ax_nil))))) (sxs_cons (sx_putD (hu_of hr) (xe_tup (ax_cons (xe_callCO c_law_take hr (by decide) rfl (pv 0) (ax_cons xe_int ax_nil)) (ax_cons xe_int (ax_cons xe_int (ax_cons xe_int (ax_cons xe_int ax_nil)))))) (pv 3) (xe_ixU (pv 5) (xe_callCO c_law_take hr (by decide) rfl (pv 0) (ax_cons (xe_lenU rfl m_len (pv 5)) ax_nil))))
    (sxs_one (sx_ret (xe_varD (pv 3))))) sxs_nil)
    (sxs_cons (sx_set (i := 6) sc.nd rfl (Or.inl rfl) (xe_ixU (pv 1) (xe_callCO c_law_take hr (by decide) rfl (pv 0) (ax_cons (xe_lenU rfl m_len (pv 1)) ax_nil))))
    (sxs_cons (sx_set (i := 7) sc.nd rfl (Or.inl rfl) (xe_ixU (pv 1) (xe_callCO c_law_take hr (by decide) rfl (pv 0) (ax_cons (xe_lenU rfl m_len (pv 1)) ax_nil))))
    (sxs_cons (sx_set (i := 8) sc.nd rfl (Or.inl rfl) (xe_callCO c_law_take hr (by decide) rfl (pv 0) (ax_cons xe_int ax_nil)))
    (sxs_cons (sx_set (i := 9) sc.nd rfl (Or.inl rfl) (xe_ix (xe_tup (ax_cons xe_int (ax_cons (xe_neg xe_int) (ax_cons (xe_pow xe_int xe_int) (ax_cons (xe_neg (xe_pow xe_int xe_int)) ax_nil))))) (xe_callCO c_law_take hr (by decide) rfl (pv 0) (ax_cons xe_int ax_nil))))
    (sxs_cons (sx_if (tx_eq hr (xe_var (pv 4)) xe_int) (sxs_one (sx_expr (xe_popD2 (pv 3) (xe_var (pv 6)) xe_non ⟨rfl, rfl, rfl, rfl⟩))) sxs_nil)
    (sxs_cons (sx_if (tx_w (wx_and (tx_inL hr (xe_var (pv 4)) (xe_tup (ax_cons xe_int (ax_cons xe_int ax_nil)))) (wx_and1 (tx_inD (hu_of hr) (xe_var (pv 6)) (pv 3))))) (sxs_cons (sx_set (i := 10) sc.nd rfl (Or.inl rfl) (xe_dixO hr (pv 3) (xe_var (pv 6)) (fun _ _ => rfl)))
    (sxs_one (sx_putD (hu_of hr) (xe_add (xe_add (xe_slL (xe_var (pv 10)) ox_none (ox_some (xe_var (pv 8)))) (xe_tup (ax_cons (xe_add (xe_ixU (pv 10) (xe_var (pv 8))) (xe_var (pv 9))) ax_nil))) (xe_slL (xe_var (pv 10)) (ox_some (xe_add (xe_var (pv 8)) xe_int)) ox_none)) (pv 3) (xe_var (pv 6))))) sxs_nil)
    (sxs_cons (sx_if (tx_w (wx_and (tx_eq hr (xe_var (pv 4)) xe_int) (wx_and1 (tx_inD (hu_of hr) (xe_var (pv 7)) (pv 3))))) (sxs_one (sx_putD (hu_of hr) (xe_dixO hr (pv 3) (xe_var (pv 7)) (fun _ _ => rfl)) (pv 3) (xe_var (pv 6)))) sxs_nil)
    (sxs_cons (sx_if (tx_eq hr (xe_var (pv 4)) xe_int) (sxs_one (sx_putD (hu_of hr) (xe_tup (ax_cons xe_int (ax_cons xe_int (ax_cons xe_int (ax_cons xe_int (ax_cons xe_int ax_nil)))))) (pv 3) (xe_var (pv 6)))) sxs_nil)
    (sxs_one (sx_ret (xe_varD (pv 3)))))))))))))))))
abbrev s_law_k28_v2 : Stmt := top 30
theorem sc_law_k28_v2 : FnScope ["script", "k", "pot", "often", "most", "marks", "tree", "right", "made", "turn", "sums_here", "handed", "found"] ["script"] (defScope s_law_k28_v2) := ⟨rfl, rfl, rfl, by decide +kernel, rfl, by decide +kernel, by decide +kernel⟩
end
theorem law_fn {P : Program} {w : World} {K : PySem.W.Frag} {mg : Str → Option Value} {base : Heap} {f : Addr} {fd : FuncData} (Fn : Fun K "law" "law" s_law_k28_v2 f fd) (m_dict : mg "dict" = none) (m_isinstance : mg "isinstance" = none) (m_len : mg "len" = none) (m_max : mg "max" = none) (m_min : mg "min" = none) (m_range : mg "range" = none) (m_tuple : mg "tuple" = none)  (c_law_cards_v4 : Cal P w K mg base 2 "_law_cards" ["pot", "marks"] (spP K (cP F_law_cards_v4))) (c_law_due_v15 : Cal P w K mg base 71 "_law_due" ["tree", "sums"] (spD K (cD F_law_due_v15))) (c_law_either : Cal P w K mg base 72 "_law_either" ["pot", "cards"] (spP K (cP F_law_either))) (c_law_many_v2 : Cal P w K mg base 2 "_law_many" ["pot", "most"] (spP K (cP F_law_many_v2))) (c_law_marks : Cal P w K mg base 2 "_law_marks" ["pot", "many"] (spP K (cP F_law_marks))) (c_law_pot : Cal P w K mg base 1 "_law_pot" ["script", "k"] (spD K (cD F_law_pot))) (c_law_spoilt_v11 : Cal P w K mg base 2 "_law_spoilt" ["pot", "marks", "sums"] (spP K (cP F_law_spoilt_v11))) (c_law_table : Cal P w K mg base 71 "_law_table" ["tree"] (spD K (cD F_law_table))) (c_law_take : Cal P w K mg base 1 "_law_take" ["pot", "many"] (spP K (cP F_law_take))) (c_law_whole : Cal P w K mg base 1 "_law_whole" ["found"] (spD K (cD F_law_whole))) (c_sums_fault_v2 : Cal P w K mg base 71 "sums_fault" ["tree", "sums"] (spD K (cD F_sums_fault_v2))) : FnOk P w K mg base CX0 73 f fd ["script"] (spD K (cD F_law_k28_v2)) := by
  have sc := sc_law_k28_v2
  exact okD (k := 72) Fn sc_law_k28_v2 (by decide) (len_x (m := 1) (n := 13) (x := U_law_k28_v2)) fun cdv A outer s H E hr => ⟨toS U_law_k28_v2,
    (sxs_cons (sx_for rfl (ix_rng1 rfl m_range (ax_cons (xe_max2 rfl rfl m_max (ax_cons xe_int (ax_cons (xe_min2 rfl rfl m_min (ax_cons (xe_lenU rfl m_len (pv 0)) (ax_cons xe_int ax_nil))) ax_nil))) ax_nil)) (gx_name (pg_name (i := 1) sc.nd rfl (Or.inl rfl))) (sxs_cons (sx_set (i := 2) sc.nd rfl (Or.inl rfl) (xe_callC c_law_pot hr (by decide) rfl (ax_cons (xe_var (pv 0)) (ax_cons (xe_var (pv 1)) ax_nil))))
    (sxs_cons (sx_set (i := 3) sc.nd rfl (Or.inl rfl) (xe_callCO c_law_take hr (by decide) rfl (pv 2) (ax_cons xe_int ax_nil)))
    (sxs_cons (sx_set (i := 4) sc.nd rfl (Or.inl rfl) (xe_ix (xe_tup (ax_cons xe_int (ax_cons xe_int (ax_cons xe_int (ax_cons xe_int ax_nil))))) (xe_callCO c_law_take hr (by decide) rfl (pv 2) (ax_cons xe_int ax_nil))))
    (sxs_cons (sx_set (i := 5) sc.nd rfl (Or.inl rfl) (xe_callCO c_law_marks hr (by decide) rfl (pv 2) (ax_cons (xe_callCO c_law_many_v2 hr (by decide) rfl (pv 2) (ax_cons (xe_var (pv 4)) ax_nil)) ax_nil)))
    (sxs_cons (sx_set (i := 6) sc.nd rfl (Or.inl rfl) (xe_callCO c_law_either hr (by decide) rfl (pv 2) (ax_cons (xe_callCO c_law_cards_v4 hr (by decide) rfl (pv 2) (ax_cons (xe_var (pv 5)) ax_nil)) ax_nil)))
    (sxs_cons (sx_set (i := 7) sc.nd rfl (Or.inl rfl) (xe_callC c_law_table hr (by decide) rfl (ax_cons (xe_var (pv 6)) ax_nil)))
    (sxs_cons (sx_set (i := 8) sc.nd rfl (Or.inl rfl) (xe_varD (pv 7)))
    (sxs_cons (sx_for rfl (ix_rng1 rfl m_range (ax_cons (xe_var (pv 3)) ax_nil)) (gx_name (pg_name (i := 9) sc.nd rfl (Or.inl rfl))) (sxs_one (sx_set (i := 8) sc.nd rfl (Or.inl rfl) (xe_callCO c_law_spoilt_v11 hr (by decide) rfl (pv 2) (ax_cons (xe_var (pv 5)) (ax_cons (xe_varD (pv 8)) ax_nil))))) PassesOwn.never)
    (sxs_cons (sx_for rfl (ix_seq (xe_tup (ax_cons (xe_varD (pv 8)) (ax_cons (xe_varD (pv 7)) (ax_cons (xe_varD (pv 8)) ax_nil))))) (gx_name (pg_name (i := 10) sc.nd rfl (Or.inl rfl))) (sxs_cons (sx_set (i := 11) sc.nd rfl (Or.inl rfl) (xe_frzD (xe_dictOf rfl m_dict (ax_cons (xe_varD (pv 10)) ax_nil))))
    (sxs_cons (sx_set (i := 12) sc.nd rfl (Or.inl rfl) (xe_callC c_sums_fault_v2 hr (by decide) rfl (ax_cons (xe_var (pv 6)) (ax_cons (xe_varD (pv 11)) ax_nil))))
    (sxs_cons (sx_if (tx_w (wx_or (tx_ne hr (xe_var (pv 12)) (xe_callC c_law_due_v15 hr (by decide) rfl (ax_cons (xe_var (pv 6)) (ax_cons (xe_varD (pv 10)) ax_nil)))) (wx_or1 (tx_neDD hr (xe_varD (pv 11)) (xe_varD (pv 10)))))) (sxs_one (sx_ret xe_bl)) sxs_nil)
    (sxs_one (sx_if (tx_w (wx_and (tx_notN (xe_var (pv 12))) (wx_and1 (tx_w (wx_or (tx_not (tx_val (xe_isiN rfl m_isinstance rfl m_tuple (by decide +kernel) rfl (pv 12)))) (wx_or1 (tx_not (tx_val (xe_callC c_law_whole hr (by decide) rfl (ax_cons (xe_ixU (pv 12) xe_int) ax_nil)))))))))) (sxs_one (sx_ret xe_bl)) sxs_nil))))) PassesOwn.never)
    (sxs_one (sx_if (tx_notN (xe_callC c_sums_fault_v2 hr (by decide) rfl (ax_cons (xe_var (pv 6)) (ax_cons (xe_frzD (xe_dictOf rfl m_dict (ax_cons (xe_varD (pv 7)) ax_nil))) ax_nil)))) (sxs_one (sx_ret xe_bl)) sxs_nil))))))))))) PassesOwn.never)
    (sxs_one (sx_ret xe_bl))), rd_x (m := 1) (n := 13) (x := U_law_k28_v2)⟩
theorem all_mk {l : PySem.W.OpenLaw} {w : World} {K : PySem.W.Frag} {h : Heap} {mg : Str → Option Value} {fa : Addr} (X : K.In h) (G : h.Ns mainGlobals mg) (hfa : mg "law" = some (.ref fa))
    {f0 : Addr} {od0 an0 : Option Addr} {sl0 : Array (Option Value)} {oc0 kV0 dc0 pm0 cd0 ct0 : Value}
    {f1 : Addr} {od1 an1 : Option Addr} {sl1 : Array (Option Value)} {oc1 kV1 dc1 pm1 cd1 ct1 : Value}
    {f2 : Addr} {od2 an2 : Option Addr} {sl2 : Array (Option Value)} {oc2 kV2 dc2 pm2 cd2 ct2 : Value}
    {f3 : Addr} {od3 an3 : Option Addr} {sl3 : Array (Option Value)} {oc3 kV3 dc3 pm3 cd3 ct3 : Value}
    {f4 : Addr} {od4 an4 : Option Addr} {sl4 : Array (Option Value)} {oc4 kV4 dc4 pm4 cd4 ct4 : Value}
    {f5 : Addr} {od5 an5 : Option Addr} {sl5 : Array (Option Value)} {oc5 kV5 dc5 pm5 cd5 ct5 : Value}
    {f6 : Addr} {od6 an6 : Option Addr} {sl6 : Array (Option Value)} {oc6 kV6 dc6 pm6 cd6 ct6 : Value}
    {f7 : Addr} {od7 an7 : Option Addr} {sl7 : Array (Option Value)} {oc7 kV7 dc7 pm7 cd7 ct7 : Value}
    {f8 : Addr} {od8 an8 : Option Addr} {sl8 : Array (Option Value)} {oc8 kV8 dc8 pm8 cd8 ct8 : Value}
    {f9 : Addr} {od9 an9 : Option Addr} {sl9 : Array (Option Value)} {oc9 kV9 dc9 pm9 cd9 ct9 : Value}
    {f10 : Addr} {od10 an10 : Option Addr} {sl10 : Array (Option Value)} {oc10 kV10 dc10 pm10 cd10 ct10 : Value}
    {f11 : Addr} {od11 an11 : Option Addr} {sl11 : Array (Option Value)} {oc11 kV11 dc11 pm11 cd11 ct11 : Value}
    {f12 : Addr} {od12 an12 : Option Addr} {sl12 : Array (Option Value)} {oc12 kV12 dc12 pm12 cd12 ct12 : Value}
    {f13 : Addr} {od13 an13 : Option Addr} {sl13 : Array (Option Value)} {oc13 kV13 dc13 pm13 cd13 ct13 : Value}
    {f14 : Addr} {od14 an14 : Option Addr} {sl14 : Array (Option Value)} {oc14 kV14 dc14 pm14 cd14 ct14 : Value}
    {f15 : Addr} {od15 an15 : Option Addr} {sl15 : Array (Option Value)} {oc15 kV15 dc15 pm15 cd15 ct15 : Value}
    {f16 : Addr} {od16 an16 : Option Addr} {sl16 : Array (Option Value)} {oc16 kV16 dc16 pm16 cd16 ct16 : Value}
    {f17 : Addr} {od17 an17 : Option Addr} {sl17 : Array (Option Value)} {oc17 kV17 dc17 pm17 cd17 ct17 : Value}
    {f18 : Addr} {od18 an18 : Option Addr} {sl18 : Array (Option Value)} {oc18 kV18 dc18 pm18 cd18 ct18 : Value}
    {f19 : Addr} {od19 an19 : Option Addr} {sl19 : Array (Option Value)} {oc19 kV19 dc19 pm19 cd19 ct19 : Value}
    {f20 : Addr} {od20 an20 : Option Addr} {sl20 : Array (Option Value)} {oc20 kV20 dc20 pm20 cd20 ct20 : Value}
    {f21 : Addr} {od21 an21 : Option Addr} {sl21 : Array (Option Value)} {oc21 kV21 dc21 pm21 cd21 ct21 : Value}
    {f22 : Addr} {od22 an22 : Option Addr} {sl22 : Array (Option Value)} {oc22 kV22 dc22 pm22 cd22 ct22 : Value}
    {f23 : Addr} {od23 an23 : Option Addr} {sl23 : Array (Option Value)} {oc23 kV23 dc23 pm23 cd23 ct23 : Value}
    {f24 : Addr} {od24 an24 : Option Addr} {sl24 : Array (Option Value)} {oc24 kV24 dc24 pm24 cd24 ct24 : Value}
    {f25 : Addr} {od25 an25 : Option Addr} {sl25 : Array (Option Value)} {oc25 kV25 dc25 pm25 cd25 ct25 : Value}
    {ga_NOUGHTS : Addr} {gn_NOUGHTS : Nat} {gsl_NOUGHTS : Array (Option Value)} {gt_NOUGHTS_0 : Tok} {gt_NOUGHTS_1 : Tok} {gt_NOUGHTS_2 : Tok} {gt_NOUGHTS_3 : Tok} {gt_NOUGHTS_4 : Tok}
    (a0 : PySem.W.nsIn K mainGlobals "parts_in" = some (some (.ref f0))) (l0 : K.lookup f0 = some ⟨oc0, od0, .func (PySem.W.fnOf "parts_in" "parts_in" (defArgs s_parts_in) (defBody s_parts_in) (defScope s_parts_in) .none kV0 dc0 pm0 an0 cd0 ct0), sl0⟩) (c0 : PySem.W.codeIn K cd0 "parts_in" = true) (k0 : PySem.W.keepIn K (.ref f0) = true)
    (a1 : PySem.W.nsIn K mainGlobals "road" = some (some (.ref f1))) (l1 : K.lookup f1 = some ⟨oc1, od1, .func (PySem.W.fnOf "road" "road" (defArgs s_road) (defBody s_road) (defScope s_road) .none kV1 dc1 pm1 an1 cd1 ct1), sl1⟩) (c1 : PySem.W.codeIn K cd1 "road" = true) (k1 : PySem.W.keepIn K (.ref f1) = true)
    (a2 : PySem.W.nsIn K mainGlobals "holds" = some (some (.ref f2))) (l2 : K.lookup f2 = some ⟨oc2, od2, .func (PySem.W.fnOf "holds" "holds" (defArgs s_holds) (defBody s_holds) (defScope s_holds) .none kV2 dc2 pm2 an2 cd2 ct2), sl2⟩) (c2 : PySem.W.codeIn K cd2 "holds" = true) (k2 : PySem.W.keepIn K (.ref f2) = true)
    (a3 : PySem.W.nsIn K mainGlobals "entry_made" = some (some (.ref f3))) (l3 : K.lookup f3 = some ⟨oc3, od3, .func (PySem.W.fnOf "entry_made" "entry_made" (defArgs s_entry_made) (defBody s_entry_made) (defScope s_entry_made) .none kV3 dc3 pm3 an3 cd3 ct3), sl3⟩) (c3 : PySem.W.codeIn K cd3 "entry_made" = true) (k3 : PySem.W.keepIn K (.ref f3) = true)
    (a4 : PySem.W.nsIn K mainGlobals "entry_of" = some (some (.ref f4))) (l4 : K.lookup f4 = some ⟨oc4, od4, .func (PySem.W.fnOf "entry_of" "entry_of" (defArgs s_entry_of_v3) (defBody s_entry_of_v3) (defScope s_entry_of_v3) .none kV4 dc4 pm4 an4 cd4 ct4), sl4⟩) (c4 : PySem.W.codeIn K cd4 "entry_of" = true) (k4 : PySem.W.keepIn K (.ref f4) = true)
    (a5 : PySem.W.nsIn K mainGlobals "entry_due" = some (some (.ref f5))) (l5 : K.lookup f5 = some ⟨oc5, od5, .func (PySem.W.fnOf "entry_due" "entry_due" (defArgs s_entry_due_v3) (defBody s_entry_due_v3) (defScope s_entry_due_v3) .none kV5 dc5 pm5 an5 cd5 ct5), sl5⟩) (c5 : PySem.W.codeIn K cd5 "entry_due" = true) (k5 : PySem.W.keepIn K (.ref f5) = true)
    (a6 : PySem.W.nsIn K mainGlobals "sums_fault" = some (some (.ref f6))) (l6 : K.lookup f6 = some ⟨oc6, od6, .func (PySem.W.fnOf "sums_fault" "sums_fault" (defArgs s_sums_fault_v2) (defBody s_sums_fault_v2) (defScope s_sums_fault_v2) .none kV6 dc6 pm6 an6 cd6 ct6), sl6⟩) (c6 : PySem.W.codeIn K cd6 "sums_fault" = true) (k6 : PySem.W.keepIn K (.ref f6) = true)
    (a7 : PySem.W.nsIn K mainGlobals "_law_pot" = some (some (.ref f7))) (l7 : K.lookup f7 = some ⟨oc7, od7, .func (PySem.W.fnOf "_law_pot" "_law_pot" (defArgs s_law_pot) (defBody s_law_pot) (defScope s_law_pot) .none kV7 dc7 pm7 an7 cd7 ct7), sl7⟩) (c7 : PySem.W.codeIn K cd7 "_law_pot" = true) (k7 : PySem.W.keepIn K (.ref f7) = true)
    (a8 : PySem.W.nsIn K mainGlobals "_law_take" = some (some (.ref f8))) (l8 : K.lookup f8 = some ⟨oc8, od8, .func (PySem.W.fnOf "_law_take" "_law_take" (defArgs s_law_take) (defBody s_law_take) (defScope s_law_take) .none kV8 dc8 pm8 an8 cd8 ct8), sl8⟩) (c8 : PySem.W.codeIn K cd8 "_law_take" = true) (k8 : PySem.W.keepIn K (.ref f8) = true)
    (a9 : PySem.W.nsIn K mainGlobals "_law_marks" = some (some (.ref f9))) (l9 : K.lookup f9 = some ⟨oc9, od9, .func (PySem.W.fnOf "_law_marks" "_law_marks" (defArgs s_law_marks) (defBody s_law_marks) (defScope s_law_marks) .none kV9 dc9 pm9 an9 cd9 ct9), sl9⟩) (c9 : PySem.W.codeIn K cd9 "_law_marks" = true) (k9 : PySem.W.keepIn K (.ref f9) = true)
    (a10 : PySem.W.nsIn K mainGlobals "_law_cards" = some (some (.ref f10))) (l10 : K.lookup f10 = some ⟨oc10, od10, .func (PySem.W.fnOf "_law_cards" "_law_cards" (defArgs s_law_cards_v4) (defBody s_law_cards_v4) (defScope s_law_cards_v4) .none kV10 dc10 pm10 an10 cd10 ct10), sl10⟩) (c10 : PySem.W.codeIn K cd10 "_law_cards" = true) (k10 : PySem.W.keepIn K (.ref f10) = true)
    (a11 : PySem.W.nsIn K mainGlobals "_law_many" = some (some (.ref f11))) (l11 : K.lookup f11 = some ⟨oc11, od11, .func (PySem.W.fnOf "_law_many" "_law_many" (defArgs s_law_many_v2) (defBody s_law_many_v2) (defScope s_law_many_v2) .none kV11 dc11 pm11 an11 cd11 ct11), sl11⟩) (c11 : PySem.W.codeIn K cd11 "_law_many" = true) (k11 : PySem.W.keepIn K (.ref f11) = true)
    (a12 : PySem.W.nsIn K mainGlobals "_law_crest" = some (some (.ref f12))) (l12 : K.lookup f12 = some ⟨oc12, od12, .func (PySem.W.fnOf "_law_crest" "_law_crest" (defArgs s_law_crest_v3) (defBody s_law_crest_v3) (defScope s_law_crest_v3) .none kV12 dc12 pm12 an12 cd12 ct12), sl12⟩) (c12 : PySem.W.codeIn K cd12 "_law_crest" = true) (k12 : PySem.W.keepIn K (.ref f12) = true)
    (a13 : PySem.W.nsIn K mainGlobals "_law_tree" = some (some (.ref f13))) (l13 : K.lookup f13 = some ⟨oc13, od13, .func (PySem.W.fnOf "_law_tree" "_law_tree" (defArgs s_law_tree_v3) (defBody s_law_tree_v3) (defScope s_law_tree_v3) .none kV13 dc13 pm13 an13 cd13 ct13), sl13⟩) (c13 : PySem.W.codeIn K cd13 "_law_tree" = true) (k13 : PySem.W.keepIn K (.ref f13) = true)
    (a14 : PySem.W.nsIn K mainGlobals "_law_either" = some (some (.ref f14))) (l14 : K.lookup f14 = some ⟨oc14, od14, .func (PySem.W.fnOf "_law_either" "_law_either" (defArgs s_law_either) (defBody s_law_either) (defScope s_law_either) .none kV14 dc14 pm14 an14 cd14 ct14), sl14⟩) (c14 : PySem.W.codeIn K cd14 "_law_either" = true) (k14 : PySem.W.keepIn K (.ref f14) = true)
    (a15 : PySem.W.nsIn K mainGlobals "_law_inside" = some (some (.ref f15))) (l15 : K.lookup f15 = some ⟨oc15, od15, .func (PySem.W.fnOf "_law_inside" "_law_inside" (defArgs s_law_inside) (defBody s_law_inside) (defScope s_law_inside) .none kV15 dc15 pm15 an15 cd15 ct15), sl15⟩) (c15 : PySem.W.codeIn K cd15 "_law_inside" = true) (k15 : PySem.W.keepIn K (.ref f15) = true)
    (a16 : PySem.W.nsIn K mainGlobals "_law_parts" = some (some (.ref f16))) (l16 : K.lookup f16 = some ⟨oc16, od16, .func (PySem.W.fnOf "_law_parts" "_law_parts" (defArgs s_law_parts) (defBody s_law_parts) (defScope s_law_parts) .none kV16 dc16 pm16 an16 cd16 ct16), sl16⟩) (c16 : PySem.W.codeIn K cd16 "_law_parts" = true) (k16 : PySem.W.keepIn K (.ref f16) = true)
    (a17 : PySem.W.nsIn K mainGlobals "_law_beside" = some (some (.ref f17))) (l17 : K.lookup f17 = some ⟨oc17, od17, .func (PySem.W.fnOf "_law_beside" "_law_beside" (defArgs s_law_beside) (defBody s_law_beside) (defScope s_law_beside) .none kV17 dc17 pm17 an17 cd17 ct17), sl17⟩) (c17 : PySem.W.codeIn K cd17 "_law_beside" = true) (k17 : PySem.W.keepIn K (.ref f17) = true)
    (a18 : PySem.W.nsIn K mainGlobals "_law_entry" = some (some (.ref f18))) (l18 : K.lookup f18 = some ⟨oc18, od18, .func (PySem.W.fnOf "_law_entry" "_law_entry" (defArgs s_law_entry) (defBody s_law_entry) (defScope s_law_entry) .none kV18 dc18 pm18 an18 cd18 ct18), sl18⟩) (c18 : PySem.W.codeIn K cd18 "_law_entry" = true) (k18 : PySem.W.keepIn K (.ref f18) = true)
    (a19 : PySem.W.nsIn K mainGlobals "_law_table" = some (some (.ref f19))) (l19 : K.lookup f19 = some ⟨oc19, od19, .func (PySem.W.fnOf "_law_table" "_law_table" (defArgs s_law_table) (defBody s_law_table) (defScope s_law_table) .none kV19 dc19 pm19 an19 cd19 ct19), sl19⟩) (c19 : PySem.W.codeIn K cd19 "_law_table" = true) (k19 : PySem.W.keepIn K (.ref f19) = true)
    (a20 : PySem.W.nsIn K mainGlobals "_law_whole" = some (some (.ref f20))) (l20 : K.lookup f20 = some ⟨oc20, od20, .func (PySem.W.fnOf "_law_whole" "_law_whole" (defArgs s_law_whole) (defBody s_law_whole) (defScope s_law_whole) .none kV20 dc20 pm20 an20 cd20 ct20), sl20⟩) (c20 : PySem.W.codeIn K cd20 "_law_whole" = true) (k20 : PySem.W.keepIn K (.ref f20) = true)
    (a21 : PySem.W.nsIn K mainGlobals "_law_made" = some (some (.ref f21))) (l21 : K.lookup f21 = some ⟨oc21, od21, .func (PySem.W.fnOf "_law_made" "_law_made" (defArgs s_law_made_v2) (defBody s_law_made_v2) (defScope s_law_made_v2) .none kV21 dc21 pm21 an21 cd21 ct21), sl21⟩) (c21 : PySem.W.codeIn K cd21 "_law_made" = true) (k21 : PySem.W.keepIn K (.ref f21) = true)
    (a22 : PySem.W.nsIn K mainGlobals "_law_side" = some (some (.ref f22))) (l22 : K.lookup f22 = some ⟨oc22, od22, .func (PySem.W.fnOf "_law_side" "_law_side" (defArgs s_law_side_v2) (defBody s_law_side_v2) (defScope s_law_side_v2) .none kV22 dc22 pm22 an22 cd22 ct22), sl22⟩) (c22 : PySem.W.codeIn K cd22 "_law_side" = true) (k22 : PySem.W.keepIn K (.ref f22) = true)
    (a23 : PySem.W.nsIn K mainGlobals "_law_due" = some (some (.ref f23))) (l23 : K.lookup f23 = some ⟨oc23, od23, .func (PySem.W.fnOf "_law_due" "_law_due" (defArgs s_law_due_v15) (defBody s_law_due_v15) (defScope s_law_due_v15) .none kV23 dc23 pm23 an23 cd23 ct23), sl23⟩) (c23 : PySem.W.codeIn K cd23 "_law_due" = true) (k23 : PySem.W.keepIn K (.ref f23) = true)
    (a24 : PySem.W.nsIn K mainGlobals "_law_spoilt" = some (some (.ref f24))) (l24 : K.lookup f24 = some ⟨oc24, od24, .func (PySem.W.fnOf "_law_spoilt" "_law_spoilt" (defArgs s_law_spoilt_v11) (defBody s_law_spoilt_v11) (defScope s_law_spoilt_v11) .none kV24 dc24 pm24 an24 cd24 ct24), sl24⟩) (c24 : PySem.W.codeIn K cd24 "_law_spoilt" = true) (k24 : PySem.W.keepIn K (.ref f24) = true)
    (a25 : PySem.W.nsIn K mainGlobals "law" = some (some (.ref f25))) (l25 : K.lookup f25 = some ⟨oc25, od25, .func (PySem.W.fnOf "law" "law" (defArgs s_law_k28_v2) (defBody s_law_k28_v2) (defScope s_law_k28_v2) .none kV25 dc25 pm25 an25 cd25 ct25), sl25⟩) (c25 : PySem.W.codeIn K cd25 "law" = true) (k25 : PySem.W.keepIn K (.ref f25) = true)
    (zg_NOUGHTS : PySem.W.nsIn K mainGlobals "NOUGHTS" = some (some (.ref ga_NOUGHTS))) (lg_NOUGHTS : K.lookup ga_NOUGHTS = some ⟨.type "tuple", none, .seq #[.int 0 gt_NOUGHTS_0, .int 0 gt_NOUGHTS_1, .int 0 gt_NOUGHTS_2, .int 0 gt_NOUGHTS_3, .int 0 gt_NOUGHTS_4] gn_NOUGHTS, gsl_NOUGHTS⟩)
    (z_abs : PySem.W.nsIn K mainGlobals "abs" = some none)
    (z_bool : PySem.W.nsIn K mainGlobals "bool" = some none)
    (z_dict : PySem.W.nsIn K mainGlobals "dict" = some none)
    (z_int : PySem.W.nsIn K mainGlobals "int" = some none)
    (z_isinstance : PySem.W.nsIn K mainGlobals "isinstance" = some none)
    (z_len : PySem.W.nsIn K mainGlobals "len" = some none)
    (z_max : PySem.W.nsIn K mainGlobals "max" = some none)
    (z_min : PySem.W.nsIn K mainGlobals "min" = some none)
    (z_range : PySem.W.nsIn K mainGlobals "range" = some none)
    (z_sorted : PySem.W.nsIn K mainGlobals "sorted" = some none)
    (z_sum : PySem.W.nsIn K mainGlobals "sum" = some none)
    (z_tuple : PySem.W.nsIn K mainGlobals "tuple" = some none) :
    ∃ fd : FuncData, (∀ (s : Shared) (v : Value), BindsTo s fd ⟨[v], []⟩ [("script", v)]) ∧ ∀ base : Heap, K.In base → base.Ns mainGlobals mg → FnOk l.prog w K mg base CX0 73 fa fd ["script"] (spD K (cD F_law_k28_v2)) := by
  have e := hfa.symm.trans (PySem.W.mg_of X G a25)
  cases e
  have F0 := fun_mk (st := s_parts_in) l0 c0 k0
  have D0 : Df K mg "parts_in" s_parts_in ["branching"] := ⟨_, _, F0, PySem.W.mg_of X G a0, F0.binds (ps := ["branching"]) fun _ _ _ _ _ _ us hl => match us, hl with | [_], _ => rfl⟩
  have F1 := fun_mk (st := s_road) l1 c1 k1
  have D1 : Df K mg "road" s_road ["tree", "key"] := ⟨_, _, F1, PySem.W.mg_of X G a1, F1.binds (ps := ["tree", "key"]) fun _ _ _ _ _ _ us hl => match us, hl with | [_, _], _ => rfl⟩
  have F2 := fun_mk (st := s_holds) l2 c2 k2
  have D2 : Df K mg "holds" s_holds ["tree", "key"] := ⟨_, _, F2, PySem.W.mg_of X G a2, F2.binds (ps := ["tree", "key"]) fun _ _ _ _ _ _ us hl => match us, hl with | [_, _], _ => rfl⟩
  have F3 := fun_mk (st := s_entry_made) l3 c3 k3
  have D3 : Df K mg "entry_made" s_entry_made ["worth", "left", "right"] := ⟨_, _, F3, PySem.W.mg_of X G a3, F3.binds (ps := ["worth", "left", "right"]) fun _ _ _ _ _ _ us hl => match us, hl with | [_, _, _], _ => rfl⟩
  have F4 := fun_mk (st := s_entry_of_v3) l4 c4 k4
  have D4 : Df K mg "entry_of" s_entry_of_v3 ["part", "sums"] := ⟨_, _, F4, PySem.W.mg_of X G a4, F4.binds (ps := ["part", "sums"]) fun _ _ _ _ _ _ us hl => match us, hl with | [_, _], _ => rfl⟩
  have F5 := fun_mk (st := s_entry_due_v3) l5 c5 k5
  have D5 : Df K mg "entry_due" s_entry_due_v3 ["part", "sums"] := ⟨_, _, F5, PySem.W.mg_of X G a5, F5.binds (ps := ["part", "sums"]) fun _ _ _ _ _ _ us hl => match us, hl with | [_, _], _ => rfl⟩
  have F6 := fun_mk (st := s_sums_fault_v2) l6 c6 k6
  have D6 : Df K mg "sums_fault" s_sums_fault_v2 ["tree", "sums"] := ⟨_, _, F6, PySem.W.mg_of X G a6, F6.binds (ps := ["tree", "sums"]) fun _ _ _ _ _ _ us hl => match us, hl with | [_, _], _ => rfl⟩
  have F7 := fun_mk (st := s_law_pot) l7 c7 k7
  have D7 : Df K mg "_law_pot" s_law_pot ["script", "k"] := ⟨_, _, F7, PySem.W.mg_of X G a7, F7.binds (ps := ["script", "k"]) fun _ _ _ _ _ _ us hl => match us, hl with | [_, _], _ => rfl⟩
  have F8 := fun_mk (st := s_law_take) l8 c8 k8
  have D8 : Df K mg "_law_take" s_law_take ["pot", "many"] := ⟨_, _, F8, PySem.W.mg_of X G a8, F8.binds (ps := ["pot", "many"]) fun _ _ _ _ _ _ us hl => match us, hl with | [_, _], _ => rfl⟩
  have F9 := fun_mk (st := s_law_marks) l9 c9 k9
  have D9 : Df K mg "_law_marks" s_law_marks ["pot", "many"] := ⟨_, _, F9, PySem.W.mg_of X G a9, F9.binds (ps := ["pot", "many"]) fun _ _ _ _ _ _ us hl => match us, hl with | [_, _], _ => rfl⟩
  have F10 := fun_mk (st := s_law_cards_v4) l10 c10 k10
  have D10 : Df K mg "_law_cards" s_law_cards_v4 ["pot", "marks"] := ⟨_, _, F10, PySem.W.mg_of X G a10, F10.binds (ps := ["pot", "marks"]) fun _ _ _ _ _ _ us hl => match us, hl with | [_, _], _ => rfl⟩
  have F11 := fun_mk (st := s_law_many_v2) l11 c11 k11
  have D11 : Df K mg "_law_many" s_law_many_v2 ["pot", "most"] := ⟨_, _, F11, PySem.W.mg_of X G a11, F11.binds (ps := ["pot", "most"]) fun _ _ _ _ _ _ us hl => match us, hl with | [_, _], _ => rfl⟩
  have F12 := fun_mk (st := s_law_crest_v3) l12 c12 k12
  have D12 : Df K mg "_law_crest" s_law_crest_v3 ["cards"] := ⟨_, _, F12, PySem.W.mg_of X G a12, F12.binds (ps := ["cards"]) fun _ _ _ _ _ _ us hl => match us, hl with | [_], _ => rfl⟩
  have F13 := fun_mk (st := s_law_tree_v3) l13 c13 k13
  have D13 : Df K mg "_law_tree" s_law_tree_v3 ["pot", "cards"] := ⟨_, _, F13, PySem.W.mg_of X G a13, F13.binds (ps := ["pot", "cards"]) fun _ _ _ _ _ _ us hl => match us, hl with | [_, _], _ => rfl⟩
  have F14 := fun_mk (st := s_law_either) l14 c14 k14
  have D14 : Df K mg "_law_either" s_law_either ["pot", "cards"] := ⟨_, _, F14, PySem.W.mg_of X G a14, F14.binds (ps := ["pot", "cards"]) fun _ _ _ _ _ _ us hl => match us, hl with | [_, _], _ => rfl⟩
  have F15 := fun_mk (st := s_law_inside) l15 c15 k15
  have D15 : Df K mg "_law_inside" s_law_inside ["tree"] := ⟨_, _, F15, PySem.W.mg_of X G a15, F15.binds (ps := ["tree"]) fun _ _ _ _ _ _ us hl => match us, hl with | [_], _ => rfl⟩
  have F16 := fun_mk (st := s_law_parts) l16 c16 k16
  have D16 : Df K mg "_law_parts" s_law_parts ["tree"] := ⟨_, _, F16, PySem.W.mg_of X G a16, F16.binds (ps := ["tree"]) fun _ _ _ _ _ _ us hl => match us, hl with | [_], _ => rfl⟩
  have F17 := fun_mk (st := s_law_beside) l17 c17 k17
  have D17 : Df K mg "_law_beside" s_law_beside ["marks"] := ⟨_, _, F17, PySem.W.mg_of X G a17, F17.binds (ps := ["marks"]) fun _ _ _ _ _ _ us hl => match us, hl with | [_], _ => rfl⟩
  have F18 := fun_mk (st := s_law_entry) l18 c18 k18
  have D18 : Df K mg "_law_entry" s_law_entry ["worths"] := ⟨_, _, F18, PySem.W.mg_of X G a18, F18.binds (ps := ["worths"]) fun _ _ _ _ _ _ us hl => match us, hl with | [_], _ => rfl⟩
  have F19 := fun_mk (st := s_law_table) l19 c19 k19
  have D19 : Df K mg "_law_table" s_law_table ["tree"] := ⟨_, _, F19, PySem.W.mg_of X G a19, F19.binds (ps := ["tree"]) fun _ _ _ _ _ _ us hl => match us, hl with | [_], _ => rfl⟩
  have F20 := fun_mk (st := s_law_whole) l20 c20 k20
  have D20 : Df K mg "_law_whole" s_law_whole ["found"] := ⟨_, _, F20, PySem.W.mg_of X G a20, F20.binds (ps := ["found"]) fun _ _ _ _ _ _ us hl => match us, hl with | [_], _ => rfl⟩
  have F21 := fun_mk (st := s_law_made_v2) l21 c21 k21
  have D21 : Df K mg "_law_made" s_law_made_v2 ["one", "worth", "other"] := ⟨_, _, F21, PySem.W.mg_of X G a21, F21.binds (ps := ["one", "worth", "other"]) fun _ _ _ _ _ _ us hl => match us, hl with | [_, _, _], _ => rfl⟩
  have F22 := fun_mk (st := s_law_side_v2) l22 c22 k22
  have D22 : Df K mg "_law_side" s_law_side_v2 ["part", "sums"] := ⟨_, _, F22, PySem.W.mg_of X G a22, F22.binds (ps := ["part", "sums"]) fun _ _ _ _ _ _ us hl => match us, hl with | [_, _], _ => rfl⟩
  have F23 := fun_mk (st := s_law_due_v15) l23 c23 k23
  have D23 : Df K mg "_law_due" s_law_due_v15 ["tree", "sums"] := ⟨_, _, F23, PySem.W.mg_of X G a23, F23.binds (ps := ["tree", "sums"]) fun _ _ _ _ _ _ us hl => match us, hl with | [_, _], _ => rfl⟩
  have F24 := fun_mk (st := s_law_spoilt_v11) l24 c24 k24
  have D24 : Df K mg "_law_spoilt" s_law_spoilt_v11 ["pot", "marks", "sums"] := ⟨_, _, F24, PySem.W.mg_of X G a24, F24.binds (ps := ["pot", "marks", "sums"]) fun _ _ _ _ _ _ us hl => match us, hl with | [_, _, _], _ => rfl⟩
  have F25 := fun_mk (st := s_law_k28_v2) l25 c25 k25
  have D25 : Df K mg "law" s_law_k28_v2 ["script"] := ⟨_, _, F25, PySem.W.mg_of X G a25, F25.binds (ps := ["script"]) fun _ _ _ _ _ _ us hl => match us, hl with | [_], _ => rfl⟩
  have g_NOUGHTS : GlT K mg "NOUGHTS" [0, 0, 0, 0, 0] := glT_mk (PySem.W.mg_of X G zg_NOUGHTS) lg_NOUGHTS (show 5 ≤ 1000 by decide) (.cons ⟨_, rfl⟩ (.cons ⟨_, rfl⟩ (.cons ⟨_, rfl⟩ (.cons ⟨_, rfl⟩ (.cons ⟨_, rfl⟩ (.nil))))))
  have m_abs := PySem.W.mg_none_of X G z_abs
  have m_bool := PySem.W.mg_none_of X G z_bool
  have m_dict := PySem.W.mg_none_of X G z_dict
  have m_int := PySem.W.mg_none_of X G z_int
  have m_isinstance := PySem.W.mg_none_of X G z_isinstance
  have m_len := PySem.W.mg_none_of X G z_len
  have m_max := PySem.W.mg_none_of X G z_max
  have m_min := PySem.W.mg_none_of X G z_min
  have m_range := PySem.W.mg_none_of X G z_range
  have m_sorted := PySem.W.mg_none_of X G z_sorted
  have m_sum := PySem.W.mg_none_of X G z_sum
  have m_tuple := PySem.W.mg_none_of X G z_tuple
  refine ⟨PySem.W.fnOf "law" "law" (defArgs s_law_k28_v2) (defBody s_law_k28_v2) (defScope s_law_k28_v2) .none kV25 dc25 pm25 an25 cd25 ct25, fun s v => .of_eq rfl, fun base _ _ => ?_⟩
  have c_parts_in := cal_parts_in (P := l.prog) (w := w) (base := base) D0     70
  have c_road := cal_road (P := l.prog) (w := w) (base := base) D1     
  have c_holds := cal_holds (P := l.prog) (w := w) (base := base) D2 m_len   c_road 
  have c_entry_made := cal_entry_made (P := l.prog) (w := w) (base := base) D3 m_max    
  have c_entry_of_v3 := cal_entry_of_v3 (P := l.prog) (w := w) (base := base) D4  g_NOUGHTS   
  have c_entry_due_v3 := cal_entry_due_v3 (P := l.prog) (w := w) (base := base) D5    c_entry_made c_entry_of_v3 
  have c_sums_fault_v2 := cal_sums_fault_v2 (P := l.prog) (w := w) (base := base) D6 m_len m_min   c_entry_due_v3 c_entry_of_v3 c_holds c_parts_in 
  have c_law_pot := cal_law_pot (P := l.prog) (w := w) (base := base) D7 m_abs m_int m_len    
  have c_law_take := cal_law_take (P := l.prog) (w := w) (base := base) D8     
  have c_law_marks := cal_law_marks (P := l.prog) (w := w) (base := base) D9 m_range   c_law_take 
  have c_law_cards_v4 := cal_law_cards_v4 (P := l.prog) (w := w) (base := base) D10 m_len m_range   c_law_take 
  have c_law_many_v2 := cal_law_many_v2 (P := l.prog) (w := w) (base := base) D11    c_law_take 
  have c_law_crest_v3 := cal_law_crest_v3 (P := l.prog) (w := w) (base := base) D12 m_len m_range    70
  have c_law_tree_v3 := cal_law_tree_v3 (P := l.prog) (w := w) (base := base) D13 m_len   c_law_take 70
  have c_law_either := cal_law_either (P := l.prog) (w := w) (base := base) D14    c_law_crest_v3 c_law_take c_law_tree_v3 
  have c_law_inside := cal_law_inside (P := l.prog) (w := w) (base := base) D15     70
  have c_law_parts := cal_law_parts (P := l.prog) (w := w) (base := base) D16     70
  have c_law_beside := cal_law_beside (P := l.prog) (w := w) (base := base) D17     
  have c_law_entry := cal_law_entry (P := l.prog) (w := w) (base := base) D18 m_len m_max m_range m_sum    
  have c_law_table := cal_law_table (P := l.prog) (w := w) (base := base) D19    c_law_entry c_law_inside c_law_parts 
  have c_law_whole := cal_law_whole (P := l.prog) (w := w) (base := base) D20 m_bool m_int m_isinstance    
  have c_law_made_v2 := cal_law_made_v2 (P := l.prog) (w := w) (base := base) D21 m_max    
  have c_law_side_v2 := cal_law_side_v2 (P := l.prog) (w := w) (base := base) D22     
  have c_law_due_v15 := cal_law_due_v15 (P := l.prog) (w := w) (base := base) D23 m_sorted   c_law_made_v2 c_law_parts c_law_side_v2 
  have c_law_spoilt_v11 := cal_law_spoilt_v11 (P := l.prog) (w := w) (base := base) D24 m_dict m_len   c_law_beside c_law_take 
  exact law_fn F25 m_dict m_isinstance m_len m_max m_min m_range m_tuple c_law_cards_v4 c_law_due_v15 c_law_either c_law_many_v2 c_law_marks c_law_pot c_law_spoilt_v11 c_law_table c_law_take c_law_whole c_sums_fault_v2
theorem sp_law {K : PySem.W.Frag} {H : Hp} {a : Addr} {ns : List Int} (hS : SqL K H a (ns.map V.int)) (hl : ns.length ≤ 63) : spD K (cD F_law_k28_v2) [.ref a] H (fun v _ => v = .bl true) fun _ _ _ => False :=
  ⟨H, [.list (ns.map .int)], Same.refl _, .cons (.lst hS DpAll.ints) .nil, .sh (.bool true), law_k28_v2_true ns hl, fun F' H' v _ _ _ _ rf => by cases rf; rfl⟩
theorem walk (ts : List Addr) {l : PySem.W.OpenLaw} {q : Program} {loose : List Str} {XP : (Str → Option Value) → Heap → Prop} {YP : World → Heap → Prop} {d : DefRec} {K : Params → PySem.W.Frag} (hn : l.most = some 63) (hdf : d.params.defaults = [])
    (hY : ∀ (w : World) (h : Heap), YP w h → (K w.params).In h) (hts : ∀ (w : World) (h : Heap), YP w h → ∀ P ∈ ts, h.get? P = some (PySem.W.tabObj #[])) (hgood : ∀ w : World, tabsGood (K w.params) ts = true)
    (F : ∀ (w : World) (mg : Str → Option Value) (fa : Addr) (h : Heap), (K w.params).In h → h.Ns mainGlobals mg → mg d.name = some (.ref fa) →
      ∃ fd : FuncData, (∀ (s : Shared) (u : Value), BindsTo s fd ⟨[u], []⟩ [("script", u)]) ∧ ∀ base : Heap, (K w.params).In base → base.Ns mainGlobals mg → FnOk l.prog w (K w.params) mg base CX0 73 fa fd ["script"] (spD (K w.params) (cD F_law_k28_v2))) :
    PySem.W.WalkO q loose XP YP l.row.toRowW d [] (fun f vs => PySem.call f vs) :=
  L2.walk_of ts (n := 63) (k := 73) (x := "script") (CX := fun _ => CX0) (sp := fun w => spD (K w.params) (cD F_law_k28_v2)) hn (by decide) hdf ⟨by decide, by decide, rfl⟩ hY hts hgood F (fun _ H a ns hl _ hS => sp_law hS hl) fun _ _ _ _ _ z => z
end K28
open PySem PySem.W PyProof.Rows
set_option maxRecDepth 100000 in
set_option maxHeartbeats 0 in
theorem PySem.Challenge.cw_crestkeys_k28_sums_faults_holds : PySem.Challenge.rw_crestkeys_k28_sums_faults.Holds := by
  w_on; o_law; k_head; (case hw => w_witness2)
  k_fill
  refine K28.walk [] (l := PySem.Challenge.rw_crestkeys_k28_sums_faults) rfl rfl (fun w h Y => PySem.W.kIn_of Y) (fun _ _ _ _ hP => nomatch hP) (fun w => by kernel_rfl) ?F
  case F =>
    intro w mg fa h KX G hmg
    refine' K28.all_mk KX G hmg ?a0 ?l0 ?c0 ?k0 ?a1 ?l1 ?c1 ?k1 ?a2 ?l2 ?c2 ?k2 ?a3 ?l3 ?c3 ?k3 ?a4 ?l4 ?c4 ?k4 ?a5 ?l5 ?c5 ?k5 ?a6 ?l6 ?c6 ?k6 ?a7 ?l7 ?c7 ?k7 ?a8 ?l8 ?c8 ?k8 ?a9 ?l9 ?c9 ?k9 ?a10 ?l10 ?c10 ?k10 ?a11 ?l11 ?c11 ?k11 ?a12 ?l12 ?c12 ?k12 ?a13 ?l13 ?c13 ?k13 ?a14 ?l14 ?c14 ?k14 ?a15 ?l15 ?c15 ?k15 ?a16 ?l16 ?c16 ?k16 ?a17 ?l17 ?c17 ?k17 ?a18 ?l18 ?c18 ?k18 ?a19 ?l19 ?c19 ?k19 ?a20 ?l20 ?c20 ?k20 ?a21 ?l21 ?c21 ?k21 ?a22 ?l22 ?c22 ?k22 ?a23 ?l23 ?c23 ?k23 ?a24 ?l24 ?c24 ?k24 ?a25 ?l25 ?c25 ?k25 ?zg_NOUGHTS ?lg_NOUGHTS ?z_abs ?z_bool ?z_dict ?z_int ?z_isinstance ?z_len ?z_max ?z_min ?z_range ?z_sorted ?z_sum ?z_tuple
    (case a0 => k_is)
    (case l0 => k_is)
    (case c0 => k_is)
    (case k0 => k_is)
    (case a1 => k_is)
    (case l1 => k_is)
    (case c1 => k_is)
    (case k1 => k_is)
    (case a2 => k_is)
    (case l2 => k_is)
    (case c2 => k_is)
    (case k2 => k_is)
    (case a3 => k_is)
    (case l3 => k_is)
    (case c3 => k_is)
    (case k3 => k_is)
    (case a4 => k_is)
    (case l4 => k_is)
    (case c4 => k_is)
    (case k4 => k_is)
    (case a5 => k_is)
    (case l5 => k_is)
    (case c5 => k_is)
    (case k5 => k_is)
    (case a6 => k_is)
    (case l6 => k_is)
    (case c6 => k_is)
    (case k6 => k_is)
    (case a7 => k_is)
    (case l7 => k_is)
    (case c7 => k_is)
    (case k7 => k_is)
    (case a8 => k_is)
    (case l8 => k_is)
    (case c8 => k_is)
    (case k8 => k_is)
    (case a9 => k_is)
    (case l9 => k_is)
    (case c9 => k_is)
    (case k9 => k_is)
    (case a10 => k_is)
    (case l10 => k_is)
    (case c10 => k_is)
    (case k10 => k_is)
    (case a11 => k_is)
    (case l11 => k_is)
    (case c11 => k_is)
    (case k11 => k_is)
    (case a12 => k_is)
    (case l12 => k_is)
    (case c12 => k_is)
    (case k12 => k_is)
    (case a13 => k_is)
    (case l13 => k_is)
    (case c13 => k_is)
    (case k13 => k_is)
    (case a14 => k_is)
    (case l14 => k_is)
    (case c14 => k_is)
    (case k14 => k_is)
    (case a15 => k_is)
    (case l15 => k_is)
    (case c15 => k_is)
    (case k15 => k_is)
    (case a16 => k_is)
    (case l16 => k_is)
    (case c16 => k_is)
    (case k16 => k_is)
    (case a17 => k_is)
    (case l17 => k_is)
    (case c17 => k_is)
    (case k17 => k_is)
    (case a18 => k_is)
    (case l18 => k_is)
    (case c18 => k_is)
    (case k18 => k_is)
    (case a19 => k_is)
    (case l19 => k_is)
    (case c19 => k_is)
    (case k19 => k_is)
    (case a20 => k_is)
    (case l20 => k_is)
    (case c20 => k_is)
    (case k20 => k_is)
    (case a21 => k_is)
    (case l21 => k_is)
    (case c21 => k_is)
    (case k21 => k_is)
    (case a22 => k_is)
    (case l22 => k_is)
    (case c22 => k_is)
    (case k22 => k_is)
    (case a23 => k_is)
    (case l23 => k_is)
    (case c23 => k_is)
    (case k23 => k_is)
    (case a24 => k_is)
    (case l24 => k_is)
    (case c24 => k_is)
    (case k24 => k_is)
    (case a25 => k_is)
    (case l25 => k_is)
    (case c25 => k_is)
    (case k25 => k_is)
    (case zg_NOUGHTS => k_is)
    (case lg_NOUGHTS => k_is)
    (case z_abs => k_is)
    (case z_bool => k_is)
    (case z_dict => k_is)
    (case z_int => k_is)
    (case z_isinstance => k_is)
    (case z_len => k_is)
    (case z_max => k_is)
    (case z_min => k_is)
    (case z_range => k_is)
    (case z_sorted => k_is)
    (case z_sum => k_is)
    (case z_tuple => k_is)
#print axioms PySem.Challenge.cw_crestkeys_k28_sums_faults_holds
