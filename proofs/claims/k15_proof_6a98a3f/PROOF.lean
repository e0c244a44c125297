import PyProof.Rows.All
import Wide.All
import OpenK.AllK
import Wide.FinOn
import PyProof.EqAt
import PyProof.EqKinds
import PyProof.TupleCall
import KE.BitLaws
import KE.KSortTup
import KE.KNestM
import PyProof.SetScanFacts
import PyProof.TupleKey
import PyProof.Rows.SetFrom
import PyProof.IsRules
import KE.KDictList
import PyProof.EnumIter
import PySem.Challenge.RW_breakreports_k15_masters_brought_up_to_d
set_option Elab.async false
set_option linter.all false
set_option maxRecDepth 100000
set_option Elab.async false
set_option linter.all false
set_option maxRecDepth 100000
namespace L2
open PySem PySem.Spec PyProof.Rows
abbrev Key := Sum Int Str
def keyIs : Key → Value → Bool
  | .inl k, v => Value.isInt k v
  | .inr x, v => Value.isStrOf x v
def keyH (w : World) : Key → Int
  | .inl k => hashInt k
  | .inr x => hashStr w x
theorem keyIs_shape : ∀ {k : Key} {v : Value}, keyIs k v = true → (∃ i t, k = Sum.inl i ∧ v = Value.int i t) ∨ (∃ x t, k = Sum.inr x ∧ v = Value.str x t)
  | .inl i, v, h => by
    obtain ⟨t, e⟩ := Value.isInt_shape (k := i) (v := v) h
    exact .inl ⟨i, t, rfl, e⟩
  | .inr x, v, h => by
    obtain ⟨t, e⟩ := Value.isStrOf_shape (x := x) (v := v) h
    exact .inr ⟨x, t, rfl, e⟩
theorem keyIs_int (i : Int) (t : Tok) : keyIs (.inl i) (.int i t) = true := by simp [keyIs, Value.isInt]
theorem keyIs_str (x : Str) (t : Tok) : keyIs (.inr x) (.str x t) = true := by simp [keyIs, Value.isStrOf]
theorem key_ll (a b : Int) : decide ((Sum.inl a : Key) = Sum.inl b) = (a == b) := by
  by_cases e : a = b
  · subst e; simp
  · have h : ¬ (Sum.inl a : Key) = Sum.inl b := fun q => e (Sum.inl.inj q)
    rw [decide_eq_false h]
    exact (beq_eq_false_iff_ne.mpr e).symm
theorem key_rr (a b : Str) : decide ((Sum.inr a : Key) = Sum.inr b) = decide (a = b) := by
  by_cases e : a = b
  · subst e; simp
  · have h : ¬ (Sum.inr a : Key) = Sum.inr b := fun q => e (Sum.inr.inj q)
    rw [decide_eq_false h, decide_eq_false e]
theorem key_lr (a : Int) (b : Str) : decide ((Sum.inl a : Key) = Sum.inr b) = false := decide_eq_false (fun q => nomatch q)
theorem key_rl (a : Str) (b : Int) : decide ((Sum.inr a : Key) = Sum.inl b) = false := decide_eq_false (fun q => nomatch q)
def mixKind (prog : Program) (w : World) : PySem.KeyKind prog w Key where
  is := keyIs
  hash := keyH w
  inj := fun v a b ha hb => by
    rcases keyIs_shape ha with ⟨i, t, rfl, rfl⟩ | ⟨x, t, rfl, rfl⟩
    · rcases keyIs_shape hb with ⟨j, u, rfl, e⟩ | ⟨y, u, rfl, e⟩
      · injection e with e1 _; rw [e1]
      · exact nomatch e
    · rcases keyIs_shape hb with ⟨j, u, rfl, e⟩ | ⟨y, u, rfl, e⟩
      · exact nomatch e
      · injection e with e1 _; rw [e1]
  byValue := fun k v h => by
    rcases keyIs_shape h with ⟨i, t, rfl, rfl⟩ | ⟨x, t, rfl, rfl⟩ <;> rfl
  pyHash := fun hv h => by
    rcases keyIs_shape hv with ⟨i, t, rfl, rfl⟩ | ⟨x, t, rfl, rfl⟩
    · exact wpAny_pyHash_int h
    · exact wpAny_pyHash_str h
  eqBool := fun hu hv h => by
    rcases keyIs_shape hu with ⟨i, t, rfl, rfl⟩ | ⟨x, t, rfl, rfl⟩
    · rcases keyIs_shape hv with ⟨j, u, rfl, rfl⟩ | ⟨y, u, rfl, rfl⟩
      · rw [key_ll] at h; exact wpAny_eqBool_int h
      · rw [key_lr] at h; exact SeqAt.EqAt.int_str i t y u _ _ _ _ h
    · rcases keyIs_shape hv with ⟨j, u, rfl, rfl⟩ | ⟨y, u, rfl, rfl⟩
      · rw [key_rl] at h; exact SeqAt.EqAt.str_int x t j u _ _ _ _ h
      · rw [key_rr] at h; exact wpAny_eqBool_str h
  «strs» := fun k x t v h => by
    rcases keyIs_shape h with ⟨i, u, rfl, e⟩ | ⟨y, u, rfl, e⟩
    · exact nomatch e
    · injection e with e1 _
      subst e1
      cases v <;> rfl
theorem mixKind_int (prog : Program) (w : World) (i : Int) (t : Tok) : (mixKind prog w).is (.inl i) (.int i t) = true := keyIs_int i t
theorem mixKind_str (prog : Program) (w : World) (x : Str) (t : Tok) : (mixKind prog w).is (.inr x) (.str x t) = true := keyIs_str x t
end L2
namespace L2
open PySem PySem.Spec PyProof.Rows
inductive V where
  | non | bl (b : Bool) | int (i : Int) | str (x : Str) | byt (b : Array UInt8) | flt (b : UInt64) | ref (a : Addr) | ty (n : String)
  deriving DecidableEq
def RelV : V → Value → Prop
  | .non, u => u = Value.none
  | .bl b, u => u = Value.bool b
  | .int i, u => ∃ t, u = Value.int i t
  | .str x, u => ∃ t, u = Value.str x t
  | .byt b, u => ∃ t, u = Value.bytes b t
  | .flt b, u => ∃ t, u = Value.float b t
  | .ref a, u => u = Value.ref a
  | .ty n, u => u = Value.type n
abbrev Vals : List V → List Value → Prop := Paired RelV
theorem Vals.length {xs : List V} {us : List Value} (r : Vals xs us) : xs.length = us.length := Paired.length r
theorem Vals.get : ∀ {xs : List V} {us : List Value} {i : Nat} {x : V}, Vals xs us → xs[i]? = some x → ∃ u, us[i]? = some u ∧ RelV x u
  | _, _, _, _, .nil, e => by simp at e
  | _, _, 0, _, .cons r _, e => by simp at e; subst e; exact ⟨_, rfl, r⟩
  | _, _, i + 1, x, .cons _ t, e => by
    obtain ⟨u, h1, h2⟩ := Vals.get (i := i) (x := x) t (by simpa using e)
    exact ⟨u, by simpa using h1, h2⟩
theorem Vals.set {x : V} {u : Value} (r : RelV x u) : ∀ {xs : List V} {us : List Value} (i : Nat), Vals xs us → Vals (xs.set i x) (us.set i u)
  | _, _, _, .nil => .nil
  | _, _, 0, .cons _ t => .cons r t
  | _, _, i + 1, .cons q t => .cons q (Vals.set r i t)
theorem Vals.append : ∀ {xs ys : List V} {us ws : List Value}, Vals xs us → Vals ys ws → Vals (xs ++ ys) (us ++ ws)
  | _, _, _, _, .nil, s => s
  | _, _, _, _, .cons r t, s => .cons r (Vals.append t s)
theorem Vals.take : ∀ {xs : List V} {us : List Value} (n : Nat), Vals xs us → Vals (xs.take n) (us.take n)
  | _, _, 0, _ => .nil
  | _, _, _ + 1, .nil => .nil
  | _, _, n + 1, .cons r t => .cons r (Vals.take n t)
theorem Vals.drop : ∀ {xs : List V} {us : List Value} (n : Nat), Vals xs us → Vals (xs.drop n) (us.drop n)
  | _, _, 0, r => r
  | _, _, _ + 1, .nil => .nil
  | _, _, n + 1, .cons _ t => Vals.drop n t
def RelO : Option V → Option Value → Prop
  | some v, some u => RelV v u
  | none, none => True
  | _, _ => False
def KV {κ : Type} : List (κ × V) → List (κ × Value) → Prop := Paired fun (p : κ × V) (q : κ × Value) => p.1 = q.1 ∧ RelV p.2 q.2
def kV : Key → V
  | .inl i => .int i
  | .inr x => .str x
inductive HO where
  /-- a list -/
  | lst (xs : List V)
  /-- a tuple (never changes) -/
  | tup (xs : List V)
  /-- a dict whose keys are ints and texts; one whose keys are tuples of ints and texts (the empty one is both) -/
  | dK (kvs : List (Key × V)) | dT (kvs : List (List Key × V))
  /-- a set of ints: its members, its size -/
  | set (S : Int → Bool) (n : Nat)
  /-- an instance of the class at C, its dict at dx, its attributes -/
  | ins (C dx : Addr) (fs : List (Str × V))
  /-- the dict of the instance at x -/
  | own (x : Addr)
  /-- the dict of an exception -/
  | xd (fs : List (Str × V))
  /-- a bound method, f of x -/
  | met (f x : Addr)
  /-- a range object lo, lo + 1, .. below hi -/
  | rng (lo hi : Int)
  /-- a thing that is known to the object (the script; a dict while a loop walks it): read, never written while it is so -/
  | frz (o : Obj) (u : HO)
  /-- a code object's table -/
  | tbl (ps : Array Value)
  /-- any other thing, by what is true of its one object (a def of one's own: SetO a S n := HO.ext fun h => ..) -/
  | ext (φ : Heap → Prop)
abbrev Hp := Addr → Option HO
def upd (H : Hp) (a : Addr) (o : HO) : Hp := fun b => if b = a then some o else H b
theorem upd_same {H : Hp} {a : Addr} {o : HO} : upd H a o a = some o := by unfold upd; rw [if_pos rfl]
theorem upd_ne {H : Hp} {a b : Addr} {o : HO} (h : b ≠ a) : upd H a o b = H b := by unfold upd; rw [if_neg h]
theorem ne_of {H : Hp} {a b : Addr} {o u : HO} (h : H a = some o) (h' : H b = some u) (d : o ≠ u) : a ≠ b := by
  intro e; subst e; rw [h] at h'; exact d (Option.some.inj h')
theorem ne_of_none {H : Hp} {a b : Addr} {o : HO} (h : H a = some o) (h' : H b = none) : a ≠ b := by
  intro e; subst e; rw [h] at h'; cases h'
section
variable (P : Program) (w : World)
def ObjOk (H : Hp) (h : Heap) (a : Addr) : HO → Prop
  | .lst xs => xs.length ≤ sizeLine ∧ ∃ (its : List Value) (n : Nat), Vals xs its ∧ h.get? a = some { cls := .type "list", data := .seq its.toArray n }
  | .tup xs => xs.length ≤ sizeLine ∧ ∃ its : List Value, Vals xs its ∧ IsTup h a its.toArray
  | .dK kvs => kvs.length ≤ sizeLine ∧ (a == sysModules) = false ∧ ∃ vs, KV kvs vs ∧ h.DictOf (mixKind P w) a vs
  | .dT kvs => kvs.length ≤ sizeLine ∧ (a == sysModules) = false ∧ ∃ xs : List (List Key × Addr × Value),
      Paired (fun (p : List Key × V) (q : List Key × Addr × Value) => p.1 = q.1 ∧ H q.2.1 = some (.tup (p.1.map kV)) ∧ RelV p.2 q.2.2) kvs xs ∧
      ∃ o es ep, h.get? a = some o ∧ o.ExactDict ∧ o.data = .dict es ep ∧ es.toList = xs.map (entryOfKey (tupleKind (mixKind P w))) ∧ (xs.map (·.1)).Nodup
  | .set S n => h.SetOf (intKind P w) a S n
  | .ins C dx fs => H dx = some (.own a) ∧ fs.length ≤ 1000 ∧ dx ≠ a ∧ h.get? a = some (PySem.W.instObj C dx) ∧
      ∃ mA, h.Ns1 dx mA ∧ (∀ f, RelO (fs.lookup f) (mA f)) ∧ PySem.Within mA (fs.map (·.1))
  | .own _ => ∃ o, h.get? a = some o
  | .xd fs => ∃ mA, h.Ns1 a mA ∧ ∀ f, RelO (fs.lookup f) (mA f)
  | .rng lo hi => ∃ t u v, h.get? a = some { cls := .type "range", data := .fields #[.int lo t, .int hi u, .int 1 v] }
  | .frz o u => h.get? a = some o ∧ ObjOk H h a u
  | .tbl ps => h.get? a = some { cls := .none, data := .fields ps }
  | .met f x => h.get? a = some (PySem.W.methodObj (.ref f) (.ref x))
  | .ext φ => φ h ∧ (∃ o, h.get? a = some o) ∧ ∀ h1 h2 : Heap, φ h1 → (∀ o, h1.get? a = some o → h2.get? a = some o) → φ h2
def HOk (H : Hp) (h : Heap) : Prop := ∀ a o, H a = some o → ObjOk P w H h a o
end
section
variable {P : Program} {w : World} {H H' : Hp} {h h' : Heap} {a : Addr} {o : HO}
theorem ObjOk.lt (x : ObjOk P w H h a o) : a < h.objs.size := by
  cases o with
  | lst xs => obtain ⟨_, _, _, _, e⟩ := x; exact Heap.lt_size e
  | tup xs => obtain ⟨_, _, _, p⟩ := x; exact p.lt
  | dK kvs => obtain ⟨_, _, _, _, o, _, _, e, _⟩ := x; exact Heap.lt_size e
  | dT kvs => obtain ⟨_, _, _, _, o, _, _, e, _⟩ := x; exact Heap.lt_size e
  | set S n => obtain ⟨o, _, _, _, e, _⟩ := x; exact Heap.lt_size e
  | ins C dx fs => obtain ⟨_, _, _, e, _⟩ := x; exact Heap.lt_size e
  | own y => obtain ⟨_, e⟩ := x; exact Heap.lt_size e
  | xd fs => obtain ⟨_, ⟨_, _, _, e, _⟩, _⟩ := x; exact Heap.lt_size e
  | rng lo hi => obtain ⟨_, _, _, e⟩ := x; exact Heap.lt_size e
  | frz ob u => obtain ⟨e, _⟩ := x; exact Heap.lt_size e
  | tbl ps => exact Heap.lt_size (show h.get? a = some _ from x)
  | met f y => exact Heap.lt_size (show h.get? a = some _ from x)
  | ext φ => obtain ⟨_, ⟨_, e⟩, _⟩ := x; exact Heap.lt_size e
theorem Paired.mapP {α β : Type} {F G : α → β → Prop} : ∀ {l₁ : List α} {l₂ : List β}, Paired F l₁ l₂ → (∀ a b, F a b → G a b) → Paired G l₁ l₂
  | _, _, .nil, _ => .nil
  | _, _, .cons r t, f => .cons (f _ _ r) (Paired.mapP t f)
theorem ObjOk.stay (x : ObjOk P w H h a o) (k : ∀ b u, (b = a ∨ H b = some (.own a)) → h.get? b = some u → h'.get? b = some u)
    (ho : ∀ b, H b = some (.own a) → H' b = some (.own a)) (ht : ∀ b xs, H b = some (.tup xs) → H' b = some (.tup xs)) : ObjOk P w H' h' a o := by
  induction o with
  | lst xs => obtain ⟨z, its, n, r, e⟩ := x; exact ⟨z, its, n, r, k _ _ (.inl rfl) e⟩
  | tup xs => obtain ⟨z, its, r, ob, e, c⟩ := x; exact ⟨z, its, r, ob, k _ _ (.inl rfl) e, c⟩
  | dK kvs => obtain ⟨z, y, vs, r, ob, es, ep, e, c⟩ := x; exact ⟨z, y, vs, r, ob, es, ep, k _ _ (.inl rfl) e, c⟩
  | dT kvs =>
    obtain ⟨z, y, xs, r, ob, es, ep, e, c⟩ := x
    exact ⟨z, y, xs, Paired.mapP r fun p q z => ⟨z.1, ht _ _ z.2.1, z.2.2⟩, ob, es, ep, k _ _ (.inl rfl) e, c⟩
  | set S n => obtain ⟨ob, es, ep, t, e, c⟩ := x; exact ⟨ob, es, ep, t, k _ _ (.inl rfl) e, c⟩
  | ins C dx fs =>
    obtain ⟨d, z, ne, e, mA, ⟨od, es, ep, e2, c⟩, r⟩ := x
    exact ⟨ho _ d, z, ne, k _ _ (.inl rfl) e, mA, ⟨od, es, ep, k _ _ (.inr d) e2, c⟩, r⟩
  | own y => obtain ⟨ob, e⟩ := x; exact ⟨ob, k _ _ (.inl rfl) e⟩
  | xd fs => obtain ⟨mA, ⟨od, es, ep, e, c⟩, r⟩ := x; exact ⟨mA, ⟨od, es, ep, k _ _ (.inl rfl) e, c⟩, r⟩
  | rng lo hi => obtain ⟨t, u, v, e⟩ := x; exact ⟨t, u, v, k _ _ (.inl rfl) e⟩
  | frz ob u ih => obtain ⟨e, q⟩ := x; exact ⟨k _ _ (.inl rfl) e, ih q⟩
  | tbl ps =>
    have e : h.get? a = some { cls := .none, data := .fields ps } := x
    show h'.get? a = some { cls := .none, data := .fields ps }
    exact k a _ (.inl rfl) e
  | met f y =>
    have e : h.get? a = some (PySem.W.methodObj (.ref f) (.ref y)) := x
    show h'.get? a = some (PySem.W.methodObj (.ref f) (.ref y))
    exact k a _ (.inl rfl) e
  | ext φ => obtain ⟨p, ⟨o, e⟩, st⟩ := x; exact ⟨st _ _ p fun o q => k _ _ (.inl rfl) q, ⟨o, k _ _ (.inl rfl) e⟩, st⟩
theorem HOk.lt (x : HOk P w H h) (e : H a = some o) : a < h.objs.size := (x a o e).lt
theorem HOk.fresh (x : HOk P w H h) (e : h.objs.size ≤ a) : H a = none := by
  cases q : H a with
  | none => rfl
  | some u => exact absurd (Nat.lt_of_lt_of_le (x.lt q) e) (Nat.lt_irrefl _)
theorem HOk.kept (x : HOk P w H h) (k : ∀ b u, h.get? b = some u → h'.get? b = some u) : HOk P w H h' := fun a o e =>
  (x a o e).stay (fun b u _ q => k b u q) (fun _ q => q) fun _ _ q => q
theorem HOk.laid (x : HOk P w H h) (k : ∀ b u, h.get? b = some u → h'.get? b = some u) (hp : h.objs.size ≤ a) (new : ObjOk P w (upd H a o) h' a o) : HOk P w (upd H a o) h' := fun b u e => by
  have hn := x.fresh hp
  by_cases hb : b = a
  · subst hb; rw [upd_same] at e; cases e; exact new
  · rw [upd_ne hb] at e
    exact (x b u e).stay (fun c v _ q => k c v q) (fun c q => by rw [upd_ne (ne_of_none q hn)]; exact q) fun c xs q => by rw [upd_ne (ne_of_none q hn)]; exact q
end
def Rd (H : Hp) (a : Addr) (u : HO) : Prop := H a = some u ∨ ∃ o, H a = some (.frz o u)
theorem Rd.of {H : Hp} {a : Addr} {u : HO} (h : H a = some u) : Rd H a u := .inl h
theorem Rd.ok {P : Program} {w : World} {H : Hp} {h : Heap} {a : Addr} {u : HO} (r : Rd H a u) (x : HOk P w H h) : ObjOk P w H h a u := by
  rcases r with r | ⟨o, r⟩
  · exact x a u r
  · obtain ⟨_, q⟩ := x a _ r
    exact q
def Mut : Option HO → Prop
  | some (.lst _) => True
  | some (.dK _) => True
  | some (.dT _) => True
  | some (.set _ _) => True
  | some (.ins _ _ _) => True
  | some (.ext _) => True
  | _ => False
section
variable {P : Program} {w : World} {H : Hp} {h h' : Heap} {x e : Addr} {o' : HO}
theorem HOk.write (ok : HOk P w H h) (mu : Mut (H x)) (he : e = x ∨ H e = some (.own x)) (k : ∀ b u, b ≠ e → h.get? b = some u → h'.get? b = some u) (heo : ∃ u, h'.get? e = some u)
    (new : ObjOk P w (upd H x o') h' x o') : HOk P w (upd H x o') h' := fun b u q => by
  have nown : ∀ c y, H c = some (.own y) → c ≠ x := fun c y r z => by subst z; rw [r] at mu; exact mu
  have ntup : ∀ c xs, H c = some (.tup xs) → c ≠ x := fun c xs r z => by subst z; rw [r] at mu; exact mu
  by_cases hb : b = x
  · subst hb; rw [upd_same] at q; cases q; exact new
  · rw [upd_ne hb] at q
    by_cases hbe : b = e
    · have q' : H b = some (.own x) := by
        rcases he with z | z
        · exact absurd (hbe.trans z) hb
        · rw [hbe]; exact z
      rw [q] at q'; cases q'
      obtain ⟨v, hv⟩ := heo
      exact ⟨v, by rw [hbe]; exact hv⟩
    · refine (ok b u q).stay (fun c v hc r => k c v ?_ r) (fun c r => by rw [upd_ne (nown c b r)]; exact r) fun c xs r => by rw [upd_ne (ntup c xs r)]; exact r
      rcases hc with rfl | hc
      · exact hbe
      · rintro rfl
        rcases he with z | z
        · exact nown c b hc z
        · rw [hc] at z; cases z; exact hb rfl
end
structure Un (fs ex : List Addr) (H H' : Hp) (h h' : Heap) : Prop where
  keep : ∀ b o, h.get? b = some o → H b = none → b ∉ fs → b ∉ ex → h'.get? b = some o
  slot : ∀ b o, h.get? b = some o → H b = none → b ∈ fs → b ∉ ex → ∃ sl, h'.get? b = some { o with slots := sl }
  free : ∀ b o, h.get? b = some o → H b = none → b ∉ ex → H' b = none
  there : ∀ b o, h.get? b = some o → b ∉ ex → ∃ o', h'.get? b = some o'
  tups : ∀ b xs, H b = some (.tup xs) → H' b = some (.tup xs)
  frzs : ∀ b o u, H b = some (.frz o u) → H' b = some (.frz o u)
  tbls : ∀ b ps, H b = some (.tbl ps) → ∃ more, H' b = some (.tbl (ps ++ more))
section
variable {fs fs' ex ex' : List Addr} {H H1 H2 : Hp} {h h1 h2 h' : Heap} {a x e : Addr} {o : HO}
theorem Un.any (u : Un fs ex H H1 h h1) {b : Addr} {ob : Obj} (q : h.get? b = some ob) (n : H b = none) (hx : b ∉ ex) : ∃ sl, h1.get? b = some { ob with slots := sl } := by
  by_cases hb : b ∈ fs
  · exact u.slot b ob q n hb hx
  · exact ⟨ob.slots, u.keep b ob q n hb hx⟩
theorem Un.trans (a : Un fs ex H H1 h h1) (b : Un fs ex H1 H2 h1 h2) : Un fs ex H H2 h h2 where
  keep := fun c ob q n hc hx => b.keep c ob (a.keep c ob q n hc hx) (a.free c ob q n hx) hc hx
  slot := fun c ob q n hc hx => by
    obtain ⟨sl, e1⟩ := a.slot c ob q n hc hx
    obtain ⟨sl', e2⟩ := b.slot c _ e1 (a.free c ob q n hx) hc hx
    exact ⟨sl', e2⟩
  free := fun c ob q n hx => by
    obtain ⟨o', e1⟩ := a.there c ob q hx
    exact b.free c o' e1 (a.free c ob q n hx) hx
  there := fun c ob q hx => by
    obtain ⟨o', e1⟩ := a.there c ob q hx
    exact b.there c o' e1 hx
  tups := fun c xs q => b.tups c xs (a.tups c xs q)
  frzs := fun c ob xs q => b.frzs c ob xs (a.frzs c ob xs q)
  tbls := fun c ps q => by
    obtain ⟨m1, e1⟩ := a.tbls c ps q
    obtain ⟨m2, e2⟩ := b.tbls c _ e1
    exact ⟨m1 ++ m2, by rw [e2, Array.append_assoc]⟩
theorem Un.kept (k : ∀ b u, h.get? b = some u → h'.get? b = some u) : Un fs ex H H h h' :=
  ⟨fun b ob q _ _ _ => k b ob q, fun b ob q _ _ _ => ⟨ob.slots, k b ob q⟩, fun _ _ _ n _ => n, fun b ob q _ => ⟨ob, k b ob q⟩, fun _ _ q => q, fun _ _ _ q => q, fun _ ps q => ⟨#[], by rw [q]; simp⟩⟩
theorem Un.refl : Un fs ex H H h h := Un.kept fun _ _ q => q
theorem Un.laid (k : ∀ b u, h.get? b = some u → h'.get? b = some u) (hp : h.objs.size ≤ a) (hn : H a = none) : Un fs ex H (upd H a o) h h' where
  keep := fun b u q _ _ _ => k b u q
  slot := fun b u q _ _ _ => ⟨u.slots, k b u q⟩
  free := fun b u q n _ => by rw [upd_ne (Nat.ne_of_lt (Nat.lt_of_lt_of_le (Heap.lt_size q) hp))]; exact n
  there := fun b u q _ => ⟨u, k b u q⟩
  tups := fun b xs q => by rw [upd_ne (ne_of_none q hn)]; exact q
  frzs := fun b u xs q => by rw [upd_ne (ne_of_none q hn)]; exact q
  tbls := fun b ps q => ⟨#[], by rw [upd_ne (ne_of_none q hn), q]; simp⟩
theorem Un.write (mu : Mut (H x)) (he : e = x ∨ H e = some (.own x)) (k : ∀ b u, b ≠ e → h.get? b = some u → h'.get? b = some u) (heo : ∃ u, h'.get? e = some u) : Un fs ex H (upd H x o) h h' := by
  have hx : ∀ b, H b = none → b ≠ x := fun b n z => by subst z; rw [n] at mu; exact mu
  have hb : ∀ b, H b = none → b ≠ e := fun b n z => by
    subst z
    rcases he with r | r
    · exact hx b n r
    · rw [n] at r; cases r
  have hm : ∀ b u, H b = some u → ¬ Mut (some u) → b ≠ x := fun b u q nm z => by subst z; rw [q] at mu; exact nm mu
  refine ⟨fun b u q n _ _ => k b u (hb b n) q, fun b u q n _ _ => ⟨u.slots, k b u (hb b n) q⟩, fun b u q n _ => by rw [upd_ne (hx b n)]; exact n, fun b u q _ => ?_,
    fun b xs q => by rw [upd_ne (hm b _ q fun z => z)]; exact q, fun b u xs q => by rw [upd_ne (hm b _ q fun z => z)]; exact q, fun b ps q => ⟨#[], by rw [upd_ne (hm b _ q fun z => z), q]; simp⟩⟩
  by_cases hbe : b = e
  · subst hbe; exact heo
  · exact ⟨u, k b u hbe q⟩
theorem Un.mono (u : Un fs ex H H1 h h1) (hs : ∀ b ∈ fs, b ∈ fs') (hx : ∀ b ∈ ex, b ∈ ex') : Un fs' ex' H H1 h h1 :=
  ⟨fun b ob q n hb he => u.keep b ob q n (fun z => hb (hs b z)) fun z => he (hx b z), fun _ _ q n _ he => u.any q n fun z => he (hx _ z), fun b ob q n he => u.free b ob q n fun z => he (hx b z), fun b ob q he => u.there b ob q fun z => he (hx b z), u.tups, u.frzs, u.tbls⟩
end
def trk (h : Heap) (H : Hp) : List Addr := (List.range h.objs.size).filter fun a => (H a).isSome
def hidT (h : Heap) (H : Hp) : Heap := PySem.W.hideAll h (trk h H)
theorem hidT_size (h : Heap) (H : Hp) : (hidT h H).objs.size = h.objs.size := PySem.W.hideAll_size _ _
theorem hidT_get {h : Heap} {H : Hp} {b : Addr} {o : Obj} (e : h.get? b = some o) (n : H b = none) : (hidT h H).get? b = some o :=
  PySem.W.hideAll_get _ e fun hm => by
    have q : (H b).isSome = true := (List.mem_filter.mp hm).2
    rw [n] at q; simp at q
theorem of_hidT {h : Heap} {H : Hp} {b : Addr} {o : Obj} (e : (hidT h H).get? b = some o) : h.get? b = some o ∧ H b = none := by
  have e' : h.get? b = some o := PySem.W.of_hideAll (trk h H) e
  refine ⟨e', ?_⟩
  cases q : H b with
  | none => rfl
  | some x =>
    have hm : b ∈ trk h H := List.mem_filter.mpr ⟨List.mem_range.mpr (Heap.lt_size e'), by simp [q]⟩
    have z : (hidT h H).get? b = none := PySem.W.hideAll_none (trk h H) hm
    rw [z] at e; cases e
def allNews (g h : Heap) (L : Addr) : List (Addr × Obj) := (List.range h.objs.size).filterMap fun a => if a = L ∨ (g.get? a).isSome = true then none else (h.get? a).map fun o => (a, o)
theorem mem_allNews {g h : Heap} {L a : Addr} {o : Obj} (h1 : a ≠ L) (h2 : g.get? a = none) (h3 : h.get? a = some o) : (a, o) ∈ allNews g h L :=
  List.mem_filterMap.mpr ⟨a, List.mem_range.mpr (Heap.lt_size h3), by simp [h1, h2, h3]⟩
def rest (g h : Heap) (L d : Addr) : List (Addr × Obj) := (allNews g h L).filter fun p => decide (p.1 ≠ d)
theorem mem_rest {g h : Heap} {L d a : Addr} {o : Obj} (h1 : a ≠ L) (h2 : g.get? a = none) (h3 : h.get? a = some o) (h4 : a ≠ d) : (a, o) ∈ rest g h L d :=
  List.mem_filter.mpr ⟨mem_allNews h1 h2 h3, decide_eq_true h4⟩
end L2
namespace L2
open PySem PySem.Spec PyProof.Rows
structure Mod (K : PySem.W.Frag) (mg : Str → Option Value) (base : Heap) : Prop where
  kin : K.In base
  glob : base.Ns mainGlobals mg
  blt : ∃ mb, base.Ns builtinsNs mb ∧ ∀ x : Str, x ≠ "__name__" → mb x = bootBuiltins x
  nolimit : base.NoLimit
structure Cx where
  prog : Program
  w : World
  K : PySem.W.Frag
  mg : Str → Option Value
  base : Heap
  A : Around
  N : List Str
  s_0 : Shared
  H_0 : Hp
  env : Env
  outer : List Env
  stack : List Env
  ex : List Addr
  fn : Str → Bool
  calm : Bool
  pn : List (Addr × Obj)
  xe : Value → Shared → Prop
def frs (l : List Env) : List Addr := l.filterMap (·.frame)
abbrev Cx.fs (X : Cx) : List Addr := frs X.outer
def Vis (sc : Scope) (x : Str) : Prop := sc.names.lookup x = some .local ∨ sc.names.lookup x = some .cell ∨ sc.names.lookup x = some .free
def Loc (sc : Scope) (x : Str) : Prop := sc.names.lookup x = some .local ∨ sc.names.lookup x = some .cell
def Look (env : Env) (h : Heap) (m : Str → Option Value) (x : Str) (u : Value) : Prop :=
  (env.kindOf x = some .local ∧ m x = some u) ∨ ((env.kindOf x = some .cell ∨ env.kindOf x = some .free) ∧ ∃ c, env.cells.lookup x = some c ∧ h.IsCell c (some u))
structure Cx.Ok (X : Cx) : Prop where
  mod : Mod X.K X.mg X.base
  kind : X.env.scope.kind = .function
  glob : X.env.globals = mainGlobals
  blt : X.env.builtins = builtinsNs
  above : X.s_0.heap.objs.size ≤ X.env.locals
  inj : ∀ x y c, X.env.cells.lookup x = some c → X.env.cells.lookup y = some c → x = y
  has : ∀ x, (X.env.kindOf x = some .cell ∨ X.env.kindOf x = some .free) → ∃ c, X.env.cells.lookup x = some c
  cab : ∀ x c, X.fn x = true → X.env.cells.lookup x = some c → X.s_0.heap.objs.size ≤ c
  hd : X.calm = true → X.A.handled = none
  frames : X.A.frames = some X.stack
  stk : X.stack = X.outer ∨ (X.stack = X.env :: X.outer ∧ X.env.frame = some X.env.locals)
  exf : ∀ b ∈ X.ex, b ≠ X.env.locals ∧ ∀ x c, X.env.cells.lookup x = some c → c ≠ b
  bs : ∀ b o, X.base.get? b = some o → X.s_0.heap.get? b = some o ∧ X.H_0 b = none
  bsz : X.base.objs.size ≤ X.s_0.heap.objs.size
  noex : ∀ b o, X.base.get? b = some o → b ∉ X.ex
  exfs : ∀ b ∈ X.ex, b ∉ X.fs
  funs : X.s_0.heap.FunFrames X.base X.outer
  frf : ∀ b ∈ X.fs, X.H_0 b = none
structure Inv (X : Cx) (pins : List (Addr × Obj)) (σ : List (Option V)) (H : Hp) (s : Shared) : Prop where
  ok : X.Ok
  os : s.os = X.s_0.os
  bare : AllBare s.gens
  base : Un X.fs X.ex X.H_0 H X.s_0.heap s.heap
  loc : ∃ m, s.heap.Ns X.env.locals m ∧ ∀ (i : Nat) (x : Str) (v : V), X.N[i]? = some x → σ[i]? = some (some v) → Vis X.env.scope x → ∃ u, RelV v u ∧ Look X.env s.heap m x u
  cell : ∀ x c, X.env.cells.lookup x = some c → ∃ v, s.heap.IsCell c v
  free : H X.env.locals = none
  freeC : ∀ x c, X.env.cells.lookup x = some c → H c = none
  pin : ∀ p ∈ X.pn ++ pins, s.heap.get? p.1 = some p.2 ∧ H p.1 = none ∧ p.1 ≠ X.env.locals ∧ p.1 ∉ X.fs ∧ ∀ v, p.2.data ≠ .cell v
  hok : HOk X.prog X.w H s.heap
  len : σ.length = X.N.length
section
variable {X : Cx} {pins : List (Addr × Obj)} {σ : List (Option V)} {H H' : Hp} {s : Shared} {h' : Heap}
theorem Cx.Ok.nofr (ok : X.Ok) {b : Addr} {o : Obj} (e : X.base.get? b = some o) : b ∉ X.fs := fun hb => by
  have := (ok.funs.mem hb).1
  rw [e] at this; cases this
theorem Inv.bs (I : Inv X pins σ H s) : ∀ b o, X.base.get? b = some o → s.heap.get? b = some o ∧ H b = none := fun b o e =>
  ⟨I.base.keep b o (I.ok.bs b o e).1 (I.ok.bs b o e).2 (I.ok.nofr e) (I.ok.noex b o e), I.base.free b o (I.ok.bs b o e).1 (I.ok.bs b o e).2 (I.ok.noex b o e)⟩
theorem Inv.bk (I : Inv X pins σ H s) : ∀ b o, X.base.get? b = some o → s.heap.get? b = some o := fun b o e => (I.bs b o e).1
theorem Inv.mod (I : Inv X pins σ H s) : Mod X.K X.mg X.base := I.ok.mod
theorem Inv.kIn (I : Inv X pins σ H s) : X.K.In s.heap := I.ok.mod.kin.keeps I.bk
theorem Inv.nolimit (I : Inv X pins σ H s) : s.heap.NoLimit := I.ok.mod.nolimit.keeps I.bk
theorem Inv.fr (I : Inv X pins σ H s) : ∃ m, Fr X.base X.env.locals s.heap m :=
  let ⟨m, hn, _⟩ := I.loc
  ⟨m, hn, I.bk, Nat.le_trans I.ok.bsz I.ok.above⟩
theorem Inv.lt (I : Inv X pins σ H s) : X.env.locals < s.heap.objs.size := let ⟨_, hn, _⟩ := I.loc; hn.lt
theorem Inv.sz (I : Inv X pins σ H s) : X.s_0.heap.objs.size ≤ s.heap.objs.size := Nat.le_trans I.ok.above (Nat.le_of_lt I.lt)
theorem Inv.nofs (I : Inv X pins σ H s) {a : Addr} (h : s.heap.objs.size ≤ a) : a ∉ X.fs := fun hb => by
  obtain ⟨_, o, ho, _⟩ := I.ok.funs.mem hb
  exact absurd (Nat.lt_of_lt_of_le (Heap.lt_size ho) (Nat.le_trans I.sz h)) (Nat.lt_irrefl _)
theorem Inv.cne (I : Inv X pins σ H s) : ∀ x c, X.env.cells.lookup x = some c → c ≠ X.env.locals := fun x c e z => by
  obtain ⟨v, o, ho, hd⟩ := I.cell x c e
  obtain ⟨m, ⟨o', es, ep, ho', hd', _⟩, _⟩ := I.loc
  rw [z, ho'] at ho; cases ho; rw [hd'] at hd; cases hd
theorem Inv.funs (I : Inv X pins σ H s) : s.heap.FunFrames X.base X.outer := by
  have all : ∀ (l : List Env), (∀ b ∈ frs l, b ∈ X.fs) → X.s_0.heap.FunFrames X.base l → s.heap.FunFrames X.base l := by
    intro l
    induction l with
    | nil => intro _ _; trivial
    | cons env r ih =>
      intro hs hl
      obtain ⟨hk, ⟨L, o, hf, hn, ho, hd⟩, hr⟩ := hl
      have hL : L ∈ X.fs := hs L (by unfold frs; rw [List.filterMap_cons, hf]; exact List.mem_cons_self)
      obtain ⟨sl, e⟩ := I.base.slot L o ho (I.ok.frf L hL) hL fun z => I.ok.exfs L z hL
      exact ⟨hk, ⟨L, _, hf, hn, e, hd⟩, ih (fun b hb => hs b (by unfold frs; rw [List.filterMap_cons, hf]; exact List.mem_cons_of_mem _ hb)) hr⟩
  exact all X.outer (fun _ hb => hb) I.ok.funs
theorem Inv.stack (I : Inv X pins σ H s) : s.heap.FunFrames X.base X.stack := by
  rcases I.ok.stk with e | ⟨e, hf⟩
  · rw [e]; exact I.funs
  · rw [e]
    obtain ⟨m, hn, _⟩ := I.loc
    refine .cons (by rw [I.ok.kind]; decide) hf hn ?_ I.funs
    exact Heap.get?_none_of_le (Nat.le_trans I.ok.bsz I.ok.above)
theorem Inv.stkSub (I : Inv X pins σ H s) : ∀ b ∈ frs X.stack, b ∈ X.env.locals :: X.fs := fun b hb => by
  rcases I.ok.stk with e | ⟨e, hf⟩
  · rw [e] at hb; exact List.mem_cons_of_mem _ hb
  · rw [e] at hb
    unfold frs at hb
    rw [List.filterMap_cons, hf] at hb
    exact hb
theorem Inv.stkFree (I : Inv X pins σ H s) : ∀ b ∈ frs X.stack, H b = none := fun b hb => by
  rcases List.mem_cons.mp (I.stkSub b hb) with e | hb
  · rw [e]; exact I.free
  · obtain ⟨_, o, ho, _⟩ := I.ok.funs.mem hb
    exact I.base.free b o ho (I.ok.frf b hb) fun z => I.ok.exfs b z hb
theorem Inv.step {g' : Array GenState} {t' : Nat} {d' : Drawn} {ch : List Addr} (I : Inv X pins σ H s)
    (hch : ∀ b ∈ ch, (b ∈ X.ex ∨ X.s_0.heap.objs.size ≤ b) ∧ b ≠ X.env.locals ∧ (∀ x c, X.env.cells.lookup x = some c → c ≠ b) ∧ ∀ p ∈ X.pn ++ pins, p.1 ≠ b)
    (keep : ∀ b o, b ≠ X.env.locals → b ∉ X.fs → b ∉ ch → s.heap.get? b = some o → H b = none → h'.get? b = some o)
    (slot : ∀ b o, b ≠ X.env.locals → b ∈ X.fs → b ∉ ch → s.heap.get? b = some o → H b = none → ∃ sl, h'.get? b = some { o with slots := sl }) (free : ∀ b o, b ∉ ch → s.heap.get? b = some o → H b = none → H' b = none)
    (there : ∀ b o, b ∉ ch → s.heap.get? b = some o → ∃ o', h'.get? b = some o')
    (tups : ∀ b xs, H b = some (.tup xs) → H' b = some (.tup xs)) (frzs : ∀ b o u, H b = some (.frz o u) → H' b = some (.frz o u)) (tbls : ∀ b ps, H b = some (.tbl ps) → ∃ more, H' b = some (.tbl (ps ++ more)))
    (ns : ∀ m, s.heap.Ns X.env.locals m → h'.Ns X.env.locals m) (hok : HOk X.prog X.w H' h') (hg : AllBare g') :
    Inv X pins σ H' { s with heap := h', gens := g', drawn := d', toks := t' } := by
  have neL : ∀ b o, X.s_0.heap.get? b = some o → b ≠ X.env.locals := fun b o e => Nat.ne_of_lt (Nat.lt_of_lt_of_le (Heap.lt_size e) I.ok.above)
  have neC : ∀ b o, X.s_0.heap.get? b = some o → b ∉ X.ex → b ∉ ch := fun b o e hx hb => by
    rcases (hch b hb).1 with z | z
    · exact hx z
    · exact absurd (Nat.lt_of_lt_of_le (Heap.lt_size e) z) (Nat.lt_irrefl _)
  have cellK : ∀ x c, X.env.cells.lookup x = some c → ∀ v, s.heap.IsCell c v → h'.IsCell c v := fun x c e v ⟨o, ho, hd⟩ => by
    have nch : c ∉ ch := fun z => (hch c z).2.2.1 x c e rfl
    by_cases hc : c ∈ X.fs
    · obtain ⟨sl, q⟩ := slot c o (I.cne x c e) hc nch ho (I.freeC x c e)
      exact ⟨_, q, hd⟩
    · exact ⟨o, keep c o (I.cne x c e) hc nch ho (I.freeC x c e), hd⟩
  refine ⟨I.ok, I.os, hg, ⟨fun b o e n hb hx => ?_, fun b o e n hb hx => ?_, fun b o e n hx => ?_, fun b o e hx => ?_, fun b xs e => tups b xs (I.base.tups b xs e), fun b o xs e => frzs b o xs (I.base.frzs b o xs e), fun b ps e => ?_⟩, ?_, fun x c e => ?_, ?_, fun x c e => ?_, fun p hp => ?_, hok, I.len⟩
  · exact keep b o (neL b o e) hb (neC b o e hx) (I.base.keep b o e n hb hx) (I.base.free b o e n hx)
  · obtain ⟨sl, e1⟩ := I.base.slot b o e n hb hx
    obtain ⟨sl', e2⟩ := slot b _ (neL b o e) hb (neC b o e hx) e1 (I.base.free b o e n hx)
    exact ⟨sl', e2⟩
  · obtain ⟨o', e1⟩ := I.base.there b o e hx
    exact free b o' (neC b o e hx) e1 (I.base.free b o e n hx)
  · obtain ⟨o', e1⟩ := I.base.there b o e hx
    exact there b o' (neC b o e hx) e1
  · obtain ⟨m1, e1⟩ := I.base.tbls b ps e
    obtain ⟨m2, e2⟩ := tbls b _ e1
    exact ⟨m1 ++ m2, by rw [e2, Array.append_assoc]⟩
  · obtain ⟨m, hn, hl⟩ := I.loc
    refine ⟨m, ns m hn, fun i x v e1 e2 e3 => ?_⟩
    obtain ⟨u, r, l⟩ := hl i x v e1 e2 e3
    refine ⟨u, r, ?_⟩
    rcases l with l | ⟨k, c, e, z⟩
    · exact .inl l
    · exact .inr ⟨k, c, e, cellK x c e _ z⟩
  · obtain ⟨v, z⟩ := I.cell x c e
    exact ⟨v, cellK x c e v z⟩
  · obtain ⟨m, ⟨o, _, _, ho, _⟩, _⟩ := I.loc
    exact free _ o (fun z => (hch _ z).2.1 rfl) ho I.free
  · obtain ⟨v, o, ho, hd⟩ := I.cell x c e
    exact free c o (fun z => (hch c z).2.2.1 x c e rfl) ho (I.freeC x c e)
  · obtain ⟨e, n, ne, nf, d⟩ := I.pin p hp
    have nch : p.1 ∉ ch := fun z => (hch p.1 z).2.2.2 p hp rfl
    exact ⟨keep p.1 p.2 ne nf nch e n, free p.1 p.2 nch e n, ne, nf, d⟩
theorem Inv.un {t' : Nat} (I : Inv X pins σ H s) (u : Un X.fs [] H H' s.heap h') (hok : HOk X.prog X.w H' h') : Inv X pins σ H' { s with heap := h', toks := t' } := by
  obtain ⟨m, ⟨o, es, ep, ho, r⟩, _⟩ := id I.loc
  obtain ⟨sl, hL⟩ := u.any ho I.free (by simp)
  exact I.step (g' := s.gens) (d' := s.drawn) (ch := []) (fun _ z => nomatch z) (fun b o _ hb _ e n => u.keep b o e n hb (by simp)) (fun b o _ hb _ e n => u.slot b o e n hb (by simp)) (fun b o _ e n => u.free b o e n (by simp)) (fun b o _ e => u.there b o e (by simp)) u.tups u.frzs u.tbls (fun m' hm => by
    obtain ⟨o', es', ep', ho', r'⟩ := hm
    rw [ho] at ho'; cases ho'
    exact ⟨_, es', ep', hL, r'⟩) hok I.bare
theorem Inv.call {g' : Array GenState} {t' : Nat} {d' : Drawn} {ch : List Addr} (I : Inv X pins σ H s) (u : Un (frs X.stack) ch H H' s.heap h') (hok : HOk X.prog X.w H' h') (hg : AllBare g')
    (hch : ∀ b ∈ ch, (b ∈ X.ex ∨ X.s_0.heap.objs.size ≤ b) ∧ b ≠ X.env.locals ∧ (∀ x c, X.env.cells.lookup x = some c → c ≠ b) ∧ ∀ p ∈ X.pn ++ pins, p.1 ≠ b) :
    Inv X pins σ H' { s with heap := h', gens := g', drawn := d', toks := t' } := by
  obtain ⟨m, ⟨o, es, ep, ho, r⟩, _⟩ := id I.loc
  obtain ⟨sl, hL⟩ := u.any ho I.free fun z => (hch _ z).2.1 rfl
  exact I.step (ch := ch) hch (fun b o hL hb hc e n => u.keep b o e n (fun z => (List.mem_cons.mp (I.stkSub b z)).elim hL hb) hc) (fun b o _ _ hc e n => u.any e n hc) (fun b o hc e n => u.free b o e n hc) (fun b o hc e => u.there b o e hc) u.tups u.frzs u.tbls (fun m' hm => by
    obtain ⟨o', es', ep', ho', r'⟩ := hm
    rw [ho] at ho'; cases ho'
    exact ⟨_, es', ep', hL, r'⟩) hok hg
theorem Inv.turned {t' : Nat} {it : Addr} (I : Inv X pins σ H s) (k : ∀ b o, b ≠ it → s.heap.get? b = some o → h'.get? b = some o) (hn : H it = none) (hL : it ≠ X.env.locals)
    (h1 : it ∈ X.ex ∨ X.s_0.heap.objs.size ≤ it) (h2 : ∀ x c, X.env.cells.lookup x = some c → c ≠ it) (h3 : ∀ p ∈ X.pn ++ pins, p.1 ≠ it) : Inv X pins σ H { s with heap := h', toks := t' } := by
  have nit : ∀ b u, H b = some u → b ≠ it := fun b u e z => by rw [z, hn] at e; cases e
  refine I.step (g' := s.gens) (d' := s.drawn) (ch := [it]) (fun b hb => ?_) (fun b o _ _ hc e _ => k b o (fun z => hc (by simp [z])) e) (fun b o _ _ hc e _ => ⟨o.slots, k b o (fun z => hc (by simp [z])) e⟩) (fun _ _ _ _ n => n)
    (fun b o hc e => ⟨o, k b o (fun z => hc (by simp [z])) e⟩) (fun _ _ e => e) (fun _ _ _ e => e) (fun b ps e => ⟨#[], by rw [e]; simp⟩) (fun m hm => ?_) (fun b u e => ?_) I.bare
  · have e : b = it := by simpa using hb
    subst e
    exact ⟨h1, hL, h2, h3⟩
  · obtain ⟨o, es, ep, ho, r⟩ := hm
    exact ⟨o, es, ep, k _ o (Ne.symm hL) ho, r⟩
  · refine (I.hok b u e).stay (fun c v hc q => k c v ?_ q) (fun _ q => q) fun _ _ q => q
    rcases hc with z | z
    · rw [z]; exact nit b u e
    · exact nit c _ z
theorem Inv.tok (I : Inv X pins σ H s) (t : Nat) : Inv X pins σ H { s with toks := t } := I.un (h' := s.heap) (t' := t) Un.refl I.hok
theorem Inv.kept {t' : Nat} (I : Inv X pins σ H s) (k : ∀ b u, s.heap.get? b = some u → h'.get? b = some u) : Inv X pins σ H { s with heap := h', toks := t' } := I.un (Un.kept k) (I.hok.kept k)
theorem Inv.laid {a : Addr} {o : HO} {t' : Nat} (I : Inv X pins σ H s) (k : ∀ b u, s.heap.get? b = some u → h'.get? b = some u) (hp : s.heap.objs.size ≤ a) (new : ObjOk X.prog X.w (upd H a o) h' a o) :
    Inv X pins σ (upd H a o) { s with heap := h', toks := t' } := I.un (Un.laid k hp (I.hok.fresh hp)) (I.hok.laid k hp new)
theorem Inv.write {x e : Addr} {o : HO} {t' : Nat} (I : Inv X pins σ H s) (mu : Mut (H x)) (he : e = x ∨ H e = some (.own x)) (k : ∀ b u, b ≠ e → s.heap.get? b = some u → h'.get? b = some u) (heo : ∃ u, h'.get? e = some u)
    (new : ObjOk X.prog X.w (upd H x o) h' x o) : Inv X pins σ (upd H x o) { s with heap := h', toks := t' } := I.un (Un.write mu he k heo) (I.hok.write mu he k heo new)
theorem Inv.weak {σ' : List (Option V)} (I : Inv X pins σ H s) (hl : σ'.length = σ.length) (w : ∀ (i : Nat) v, σ'[i]? = some (some v) → σ[i]? = some (some v)) : Inv X pins σ' H s :=
  ⟨I.ok, I.os, I.bare, I.base, let ⟨m, hn, hl'⟩ := I.loc; ⟨m, hn, fun i x v e1 e2 e3 => hl' i x v e1 (w i v e2) e3⟩, I.cell, I.free, I.freeC, I.pin, I.hok, hl.trans I.len⟩
theorem Inv.pins_of {pins' : List (Addr × Obj)} (I : Inv X pins σ H s) (h : ∀ p ∈ pins', s.heap.get? p.1 = some p.2 ∧ H p.1 = none ∧ p.1 ≠ X.env.locals ∧ p.1 ∉ X.fs ∧ ∀ v, p.2.data ≠ .cell v) : Inv X pins' σ H s :=
  ⟨I.ok, I.os, I.bare, I.base, I.loc, I.cell, I.free, I.freeC, fun p hp => (List.mem_append.mp hp).elim (fun z => I.pin p (List.mem_append_left _ z)) (h p), I.hok, I.len⟩
theorem nodup_ix {N : List Str} (hN : N.Nodup) {i j : Nat} {x : Str} (a : N[i]? = some x) (b : N[j]? = some x) : i = j := by
  obtain ⟨h1, e1⟩ := List.getElem?_eq_some_iff.mp a
  obtain ⟨h2, e2⟩ := List.getElem?_eq_some_iff.mp b
  exact (List.getElem_inj hN).mp (e1.trans e2.symm)
theorem store_ok2 {M : Model} {A : Around} {E : Value → Shared → Prop} {i : Nat} {x : Str} {v : V} {u : Value} {Q : Unit → Shared → Prop} (I : Inv X pins σ H s) (hN : X.N.Nodup) (hi : X.N[i]? = some x) (hx : Loc X.env.scope x) (r : RelV v u)
    (h : ∀ s', Inv X pins (σ.set i (some v)) H s' → (∃ a, Heap.SameBut a s.heap s'.heap ∧ (a = X.env.locals ∨ X.env.cells.lookup x = some a)) → Q () s') (hf : X.fn x = true ∨ X.env.scope.names.lookup x = some .local := by first | exact .inl rfl | exact .inr rfl | assumption) : wpAny M A (storeName X.env x u) Q E s := by
  obtain ⟨m, hn, hl⟩ := id I.loc
  have hcls : (X.env.scope.kind == .class || (X.env.scope.kind == .module && X.env.locals != X.env.globals)) = false := by rw [I.ok.kind]; rfl
  have hiσ : i < σ.length := by rw [I.len]; exact (List.getElem?_eq_some_iff.mp hi).1
  have cne := I.cne
  have tracked : ∀ {a : Addr} {h' : Heap}, (∃ o, s.heap.get? a = some o ∧ H a = none) → Heap.SameBut a s.heap h' → HOk X.prog X.w H h' := fun {a h'} ha hs b ob e => by
    obtain ⟨_, _, hfree⟩ := ha
    refine (I.hok b ob e).stay (fun c w' hc q => (hs.2 c ?_).trans q) (fun _ q => q) fun _ _ q => q
    rintro rfl
    rcases hc with rfl | hc
    · rw [hfree] at e; cases e
    · rw [hfree] at hc; cases hc
  rcases hx with hk | hk
  · refine wpAny_storeName_local hk hn (fun h' hn' hs => ?_) hcls
    obtain ⟨oL, _, _, hoL, _⟩ := id hn
    refine h _ ⟨I.ok, I.os, I.bare, ⟨fun b o e n hb hx => ?_, fun b o e n hb hx => ?_, I.base.free, fun b o e hx => ?_, I.base.tups, I.base.frzs, I.base.tbls⟩, ⟨_, hn', fun j y v' e1 e2 e3 => ?_⟩, fun y c e => ?_, I.free, I.freeC, fun p hp => ?_, tracked ⟨oL, hoL, I.free⟩ hs, by simpa using I.len⟩ ⟨_, hs, .inl rfl⟩
    · exact (hs.2 b (Nat.ne_of_lt (Nat.lt_of_lt_of_le (Heap.lt_size e) I.ok.above))).trans (I.base.keep b o e n hb hx)
    · obtain ⟨sl, e1⟩ := I.base.slot b o e n hb hx
      exact ⟨sl, (hs.2 b (Nat.ne_of_lt (Nat.lt_of_lt_of_le (Heap.lt_size e) I.ok.above))).trans e1⟩
    · obtain ⟨o', e1⟩ := I.base.there b o e hx
      exact ⟨o', (hs.2 b (Nat.ne_of_lt (Nat.lt_of_lt_of_le (Heap.lt_size e) I.ok.above))).trans e1⟩
    · by_cases hj : j = i
      · subst hj
        rw [hi] at e1; cases e1
        rw [List.getElem?_set_self hiσ] at e2
        cases e2
        exact ⟨u, r, .inl ⟨hk, by simp⟩⟩
      · rw [List.getElem?_set_ne (Ne.symm hj)] at e2
        obtain ⟨u', r', q⟩ := hl j y v' e1 e2 e3
        refine ⟨u', r', ?_⟩
        rcases q with ⟨k, e⟩ | ⟨k, c, e, z⟩
        · refine .inl ⟨k, ?_⟩
          have : y ≠ x := fun e => hj (nodup_ix hN e1 (e ▸ hi))
          simp [this, e]
        · exact .inr ⟨k, c, e, z.sameBut hs (cne y c e)⟩
    · obtain ⟨w', z⟩ := I.cell y c e
      exact ⟨w', z.sameBut hs (cne y c e)⟩
    · obtain ⟨e, n, ne, nf, d⟩ := I.pin p hp
      exact ⟨(hs.2 p.1 ne).trans e, n, ne, nf, d⟩
  · have hfn : X.fn x = true := by
      rcases hf with z | z
      · exact z
      · rw [z] at hk; cases hk
    obtain ⟨c, hc⟩ := I.ok.has x (.inl hk)
    obtain ⟨w', z⟩ := I.cell x c hc
    refine wpAny_storeName_cell I.ok.kind hk hc z (fun h' hc' hs => ?_)
    obtain ⟨oc, hoc, hocd⟩ := id z
    refine h { s with heap := h' } ⟨I.ok, I.os, I.bare, ⟨fun b o e n hb hx => ?_, fun b o e n hb hx => ?_, I.base.free, fun b o e hx => ?_, I.base.tups, I.base.frzs, I.base.tbls⟩, ⟨m, hn.sameBut hs (Ne.symm (cne x c hc)), fun j y v' e1 e2 e3 => ?_⟩, fun y c' e => ?_, I.free, I.freeC, fun p hp => ?_, tracked ⟨oc, hoc, I.freeC x c hc⟩ hs, by simpa using I.len⟩ ⟨c, hs, .inr hc⟩
    · exact (hs.2 b (Nat.ne_of_lt (Nat.lt_of_lt_of_le (Heap.lt_size e) (I.ok.cab x c hfn hc)))).trans (I.base.keep b o e n hb hx)
    · obtain ⟨sl, e1⟩ := I.base.slot b o e n hb hx
      exact ⟨sl, (hs.2 b (Nat.ne_of_lt (Nat.lt_of_lt_of_le (Heap.lt_size e) (I.ok.cab x c hfn hc)))).trans e1⟩
    · obtain ⟨o', e1⟩ := I.base.there b o e hx
      exact ⟨o', (hs.2 b (Nat.ne_of_lt (Nat.lt_of_lt_of_le (Heap.lt_size e) (I.ok.cab x c hfn hc)))).trans e1⟩
    · by_cases hj : j = i
      · subst hj
        rw [hi] at e1; cases e1
        rw [List.getElem?_set_self hiσ] at e2
        cases e2
        exact ⟨u, r, .inr ⟨.inl hk, c, hc, hc'⟩⟩
      · rw [List.getElem?_set_ne (Ne.symm hj)] at e2
        obtain ⟨u', r', q⟩ := hl j y v' e1 e2 e3
        refine ⟨u', r', ?_⟩
        rcases q with q | ⟨k, c', e, z'⟩
        · exact .inl q
        · refine .inr ⟨k, c', e, z'.sameBut hs ?_⟩
          rintro rfl
          exact hj (nodup_ix hN e1 (I.ok.inj _ _ _ e hc ▸ hi))
    · by_cases hcc : c' = c
      · subst hcc; exact ⟨_, hc'⟩
      · obtain ⟨w2, z2⟩ := I.cell y c' e
        exact ⟨w2, z2.sameBut hs hcc⟩
    · obtain ⟨e, n, ne, nf, d⟩ := I.pin p hp
      refine ⟨(hs.2 p.1 ?_).trans e, n, ne, nf, d⟩
      intro q
      rw [q, hoc] at e
      have q' : oc = p.2 := Option.some.inj e
      exact d w' (by rw [← q']; exact hocd)
theorem store_ok {M : Model} {A : Around} {E : Value → Shared → Prop} {i : Nat} {x : Str} {v : V} {u : Value} {Q : Unit → Shared → Prop} (I : Inv X pins σ H s) (hN : X.N.Nodup) (hi : X.N[i]? = some x) (hx : Loc X.env.scope x) (r : RelV v u)
    (h : ∀ s', Inv X pins (σ.set i (some v)) H s' → Q () s') (hf : X.fn x = true ∨ X.env.scope.names.lookup x = some .local := by first | exact .inl rfl | exact .inr rfl | assumption) : wpAny M A (storeName X.env x u) Q E s :=
  store_ok2 I hN hi hx r (fun s' I' _ => h s' I') hf
theorem Inv.call' {s' : Shared} {ch : List Addr} (I : Inv X pins σ H s) (ho : s'.os = s.os) (u : Un (frs X.stack) ch H H' s.heap s'.heap) (hok : HOk X.prog X.w H' s'.heap) (hg : AllBare s'.gens)
    (hch : ∀ b ∈ ch, (b ∈ X.ex ∨ X.s_0.heap.objs.size ≤ b) ∧ b ≠ X.env.locals ∧ (∀ x c, X.env.cells.lookup x = some c → c ≠ b) ∧ ∀ p ∈ X.pn ++ pins, p.1 ≠ b) : Inv X pins σ H' s' := by
  obtain ⟨h', g', d', t', o'⟩ := s'
  have e : o' = s.os := ho
  subst e
  exact I.call (g' := g') (t' := t') (d' := d') u hok hg hch
end
abbrev XK := Value → Option Addr → Hp → Prop
abbrev St := List (Option V)
abbrev VK := V → Hp → Prop
abbrev TE := St → Hp → VK → Prop
abbrev TT := St → Hp → (Bool → Hp → Prop) → Prop
abbrev TA := St → Hp → (List V → Hp → Prop) → Prop
structure Ends where
  nx : St → Hp → Prop
  rt : VK
  bk : St → Hp → Prop := fun _ _ => False
  ct : St → Hp → Prop := fun _ _ => False
abbrev TS := Ends → St → Hp → Prop
def EP (X : Cx) (pins : List (Addr × Obj)) (σ : St) (Q : VK) (u : Value) (s' : Shared) : Prop := ∃ v H', Inv X pins σ H' s' ∧ RelV v u ∧ Q v H'
def TP (X : Cx) (pins : List (Addr × Obj)) (σ : St) (Q : Bool → Hp → Prop) (b : Bool) (s' : Shared) : Prop := ∃ H', Inv X pins σ H' s' ∧ Q b H'
def AP (X : Cx) (pins : List (Addr × Obj)) (σ : St) (Q : List V → Hp → Prop) (us : List Value) (s' : Shared) : Prop := ∃ vs H', Inv X pins σ H' s' ∧ Vals vs us ∧ Q vs H'
def SP (X : Cx) (pins : List (Addr × Obj)) (D : Ends) (f : Flow) (s' : Shared) : Prop :=
  match f with
  | .next => ∃ σ' H', Inv X pins σ' H' s' ∧ D.nx σ' H'
  | .brk => ∃ σ' H', Inv X pins σ' H' s' ∧ D.bk σ' H'
  | .cont => ∃ σ' H', Inv X pins σ' H' s' ∧ D.ct σ' H'
  | .ret u => ∃ v σ' H', Inv X pins σ' H' s' ∧ RelV v u ∧ D.rt v H'
def PE (X : Cx) (e : Expr) (t : TE) : Prop :=
  ∀ (pins : List (Addr × Obj)) (s : Shared) (σ : St) (H : Hp) (Q : VK), Inv X pins σ H s → t σ H Q → wpAny (model X.prog X.w) X.A (eval e X.env) (EP X pins σ Q) X.xe s
def PT (X : Cx) (e : Expr) (t : TT) : Prop :=
  ∀ (pins : List (Addr × Obj)) (s : Shared) (σ : St) (H : Hp) (Q : Bool → Hp → Prop), Inv X pins σ H s → t σ H Q → wpAny (model X.prog X.w) X.A (isTrue e X.env (eval e X.env)) (TP X pins σ Q) X.xe s
def PW (X : Cx) (e : Expr) (t : TT) : Prop :=
  ∀ (whole : Sem Value) (pins : List (Addr × Obj)) (s : Shared) (σ : St) (H : Hp) (Q : Bool → Hp → Prop), Inv X pins σ H s → t σ H Q → wpAny (model X.prog X.w) X.A (isTrue e X.env whole) (TP X pins σ Q) X.xe s
theorem PW.pt {X : Cx} {e : Expr} {t : TT} (h : PW X e t) : PT X e t := h _
def PA (X : Cx) (es : List Expr) (t : TA) : Prop :=
  ∀ (pos : Pos) (pins : List (Addr × Obj)) (s : Shared) (σ : St) (H : Hp) (Q : List V → Hp → Prop), Inv X pins σ H s → t σ H Q → wpAny (model X.prog X.w) X.A (spliced (backTo pos (starEach es X.env))) (AP X pins σ Q) X.xe s
def PS (X : Cx) (st : Stmt) (t : TS) : Prop :=
  ∀ (pins : List (Addr × Obj)) (s : Shared) (σ : St) (H : Hp) (D : Ends), Inv X pins σ H s → t D σ H → wpAny (model X.prog X.w) X.A (exec st X.env) (SP X pins D) X.xe s
def PSs (X : Cx) (st : List Stmt) (t : TS) : Prop :=
  ∀ (pins : List (Addr × Obj)) (s : Shared) (σ : St) (H : Hp) (D : Ends), Inv X pins σ H s → t D σ H → wpAny (model X.prog X.w) X.A (execs st X.env) (SP X pins D) X.xe s
theorem thn {α : Type} {t : Sem α} {Q Q' : α → Shared → Prop} {M : Model} {A : Around} {E : Value → Shared → Prop} {s : Shared} (h : wpAny M A t Q E s) (hQ : ∀ a s, Q a s → Q' a s) : wpAny M A t Q' E s := wpAny_mono h hQ fun _ _ x => x
end L2
namespace L2
open PySem PySem.Spec PyProof.Rows
section
variable {X : Cx}
def tVar (i : Nat) : TE := fun σ H Q => ∃ v, σ[i]? = some (some v) ∧ Q v H
def tC (v : V) : TE := fun _ H Q => Q v H
theorem pe_var {i : Nat} {x : Str} {pos : Pos} (hN : X.N[i]? = some x) (hv : Vis X.env.scope x) (hd : (x == ("__debug__" : Str)) = false := by decide) (hcd : (x == ("__classdict__" : Str)) = false := by decide) : PE X (.Name x pos) (tVar i) := by
  intro pins s σ H Q I h
  obtain ⟨v, e, h⟩ := h
  obtain ⟨m, hn, hl⟩ := I.loc
  obtain ⟨u, r, l⟩ := hl i x v hN e hv
  have fin : EP X pins σ Q u s := ⟨v, H, I, r, h⟩
  rcases l with ⟨hk, hm⟩ | ⟨hk, c, hc, hcell⟩
  · exact wpAny_Name (wpAny_loadName_local I.ok.kind hk hn hm fin) hd
  · rcases hk with hk | hk
    · exact wpAny_Name (wpAny_loadName_cell I.ok.kind hk hc hcell fin) hd
    · exact wpAny_Name (wpAny_loadName_free I.ok.kind hk hc hcell fin hcd) hd
theorem pe_int {i j pos} : PE X (.Constant (.int i) j pos) (tC (.int i)) := fun _ _ _ H _ I h => wpAny_Constant_int ⟨.int i, H, I.tok _, ⟨_, rfl⟩, h⟩
theorem pe_bl {b j pos} : PE X (.Constant (.bool b) j pos) (tC (.bl b)) := fun _ _ _ H _ I h => Constant_bool ⟨.bl b, H, I, rfl, h⟩
theorem pe_str {x j pos} : PE X (.Constant (.str x) j pos) (tC (.str x)) := fun _ _ _ H _ I h => Calls.Constant_str ⟨.str x, H, I.tok _, ⟨_, rfl⟩, h⟩
def Gl (X : Cx) (x : Str) : Prop := X.env.kindOf x = some .globalImplicit
theorem ld_glob {E : Value → Shared → Prop} {pins : List (Addr × Obj)} {s : Shared} {σ : St} {H : Hp} {x : Str} {u : Value} {pos : Pos} {Q : Value → Shared → Prop} (I : Inv X pins σ H s) (hg : Gl X x) (hm : X.mg x = some u) (h : Q u s)
    (hd : (x == ("__debug__" : Str)) = false := by decide) : wpAny (model X.prog X.w) X.A (eval (.Name x pos) X.env) Q E s :=
  Calls.Name_function_global I.ok.kind hg (Calls.loadGlobal_global (by rw [I.ok.glob]; exact I.mod.glob.keeps I.bk) hm h) hd
theorem ld_blt {E : Value → Shared → Prop} {pins : List (Addr × Obj)} {s : Shared} {σ : St} {H : Hp} {x : Str} {u : Value} {pos : Pos} {Q : Value → Shared → Prop} (I : Inv X pins σ H s) (hg : Gl X x) (hm : X.mg x = none) (hv : bootBuiltins x = some u) (h : Q u s)
    (hn : x ≠ "__name__" := by decide) (hd : (x == ("__debug__" : Str)) = false := by decide) : wpAny (model X.prog X.w) X.A (eval (.Name x pos) X.env) Q E s := by
  obtain ⟨mb, h1, h2⟩ := I.mod.blt
  exact Calls.Name_function_global I.ok.kind hg (Calls.loadGlobal_builtin (by rw [I.ok.glob]; exact I.mod.glob.keeps I.bk) hm (by rw [I.ok.blt]; exact h1.keeps I.bk) ((h2 x hn).trans hv) h) hd
theorem pe_glob {x : Str} {v : V} {u : Value} {pos : Pos} (hg : Gl X x) (hm : X.mg x = some u) (r : RelV v u) (hd : (x == ("__debug__" : Str)) = false := by decide) : PE X (.Name x pos) (tC v) :=
  fun _ _ _ H _ I h => ld_glob I hg hm ⟨v, H, I, r, h⟩ hd
theorem pe_bltn {x : Str} {v : V} {u : Value} {pos : Pos} (hg : Gl X x) (hm : X.mg x = none) (hv : bootBuiltins x = some u) (r : RelV v u) (hn : x ≠ "__name__" := by decide) (hd : (x == ("__debug__" : Str)) = false := by decide) : PE X (.Name x pos) (tC v) :=
  fun _ _ _ H _ I h => ld_blt I hg hm hv ⟨v, H, I, r, h⟩ hn hd
variable {a b : Expr} {ta tb : TE} {pos : Pos}
theorem nobehind (b : Expr) {op : CmpOp} (h : op ≠ .In) (h2 : op ≠ .NotIn) : behindInMarks op b = false := by
  have e1 : (op == CmpOp.In) = false := by cases op <;> first | rfl | exact absurd rfl h
  have e2 : (op == CmpOp.NotIn) = false := by cases op <;> first | rfl | exact absurd rfl h2
  cases b <;> simp [behindInMarks, e1, e2]
def tB (t : TE) : TT := fun σ H Q => t σ H fun x H1 => ∃ c, x = .bl c ∧ Q c H1
theorem pt_val {e : Expr} {t : TE} (h : PE X e t) (he : ∀ whole, isTrue e X.env whole = (do let v ← whole; standAt e.pos; holding [v] (truthy v)) := by intro _; rfl) : PT X e (tB t) := by
  intro pins s σ H Q I hw
  refine isTrue_plain (thn (h pins s σ H _ I hw) fun v s1 ⟨x, H1, I1, r1, q1⟩ => ?_) (he _)
  obtain ⟨d, rfl, q⟩ := q1
  cases r1
  exact wpAny_truthy_bool ⟨H1, I1, q⟩
variable {tA tB' : TT} {rest : List Expr}
def tAnd (t u : TT) : TT := fun σ H Q => t σ H fun c H1 => if c = true then u σ H1 Q else Q false H1
def tOr (t u : TT) : TT := fun σ H Q => t σ H fun c H1 => if c = true then Q true H1 else u σ H1 Q
def tNot (t : TT) : TT := fun σ H Q => t σ H fun c H1 => Q (!c) H1
theorem pw_and1 (ha : PT X a tA) : PW X (.BoolOp .And [a] pos) tA := by
  intro wh pins s σ H Q I h
  refine isTrue_and (thn (ha pins s σ H Q I h) fun c s1 e => ?_)
  cases c with
  | true => exact isTrue_and_nil e
  | false => exact e
theorem pw_or1 (ha : PT X a tA) : PW X (.BoolOp .Or [a] pos) tA := by
  intro wh pins s σ H Q I h
  refine isTrue_or (thn (ha pins s σ H Q I h) fun c s1 e => ?_)
  cases c with
  | false => exact isTrue_or_nil e
  | true => exact e
theorem pw_and (ha : PT X a tA) (hb : PW X (.BoolOp .And (b :: rest) pos) tB') : PW X (.BoolOp .And (a :: b :: rest) pos) (tAnd tA tB') := by
  intro wh pins s σ H Q I h
  refine isTrue_and (thn (ha pins s σ H _ I h) fun c s1 ⟨H1, I1, q1⟩ => ?_)
  cases c with
  | true => exact hb wh pins s1 σ H1 Q I1 q1
  | false => exact ⟨H1, I1, q1⟩
theorem pw_or (ha : PT X a tA) (hb : PW X (.BoolOp .Or (b :: rest) pos) tB') : PW X (.BoolOp .Or (a :: b :: rest) pos) (tOr tA tB') := by
  intro wh pins s σ H Q I h
  refine isTrue_or (thn (ha pins s σ H _ I h) fun c s1 ⟨H1, I1, q1⟩ => ?_)
  cases c with
  | true => exact ⟨H1, I1, q1⟩
  | false => exact hb wh pins s1 σ H1 Q I1 q1
theorem pt_not (ha : PT X a tA) : PT X (.UnaryOp .Not a pos) (tNot tA) := by
  intro pins s σ H Q I h
  exact isTrue_not (ha pins s σ H (fun c H1 => Q (!c) H1) I h)
def tAndV (ta tb : TE) : TE := fun σ H Q => ta σ H fun x H1 => ∃ c, x = .bl c ∧ if c = true then tb σ H1 Q else Q (.bl false) H1
theorem pe_one {op} {t : TE} (h : PE X a t) : PE X (.BoolOp op [a] pos) t := fun pins s σ H Q I hw => BoolOp_one (h pins s σ H Q I hw)
theorem pe_and (ha : PE X a ta) (hb : PE X (.BoolOp .And (b :: rest) pos) tb) : PE X (.BoolOp .And (a :: b :: rest) pos) (tAndV ta tb) := by
  intro pins s σ H Q I h
  refine BoolOp_and (thn (ha pins s σ H _ I h) fun v s1 ⟨x, H1, I1, r1, q1⟩ => ?_)
  obtain ⟨c, rfl, q1⟩ := q1
  cases r1
  refine wpAny_truthy_bool ?_
  cases c with
  | true => exact hb pins s1 σ H1 Q I1 q1
  | false => exact ⟨.bl false, H1, I1, rfl, q1⟩
def tIf (t : TT) (ta tb : TE) : TE := fun σ H Q => t σ H fun c H1 => if c = true then ta σ H1 Q else tb σ H1 Q
theorem pe_ifExp {c : Expr} (hc : PT X c tA) (ha : PE X a ta) (hb : PE X b tb) : PE X (.IfExp c a b pos) (tIf tA ta tb) := by
  intro pins s σ H Q I h
  refine wpAny_IfExp (thn (hc pins s σ H _ I h) fun d s1 ⟨H1, I1, q1⟩ => ?_)
  cases d with
  | true => exact ha pins s1 σ H1 Q I1 q1
  | false => exact hb pins s1 σ H1 Q I1 q1
end
end L2
namespace L2
open PySem PySem.Spec PyProof.Rows
def SqL (K : PySem.W.Frag) (H : Hp) (a : Addr) (xs : List V) : Prop :=
  Rd H a (.lst xs) ∨
    ∃ (o : Obj) (its : Array Value) (n : Nat), K.lookup a = some o ∧ o.cls = .type "list" ∧ o.dict = none ∧ o.data = .seq its n ∧ its.size ≤ sizeLine ∧ Vals xs its.toList
def SqT (K : PySem.W.Frag) (H : Hp) (a : Addr) (xs : List V) : Prop :=
  Rd H a (.tup xs) ∨
    ∃ (o : Obj) (its : Array Value) (n : Nat), K.lookup a = some o ∧ o.cls = .type "tuple" ∧ o.data = .seq its n ∧ its.size ≤ sizeLine ∧ Vals xs its.toList
def absV : Value → Option V
  | .none => some .non
  | .bool b => some (.bl b)
  | .int i _ => some (.int i)
  | .str x _ => some (.str x)
  | .bytes b _ => some (.byt b)
  | .float b _ => some (.flt b)
  | .ref a => some (.ref a)
  | .type n => some (.ty n)
  | _ => none
theorem RelV.abs {x : V} {u : Value} (r : RelV x u) : absV u = some x := by
  cases x with
  | non => cases r; rfl
  | bl _ => cases r; rfl
  | int _ => obtain ⟨t, rfl⟩ := r; rfl
  | str _ => obtain ⟨t, rfl⟩ := r; rfl
  | byt _ => obtain ⟨t, rfl⟩ := r; rfl
  | flt _ => obtain ⟨t, rfl⟩ := r; rfl
  | ref _ => cases r; rfl
  | ty _ => cases r; rfl
theorem RelV.inj {x y : V} {u : Value} (r : RelV x u) (q : RelV y u) : x = y := Option.some.inj (r.abs.symm.trans q.abs)
theorem Vals.inj : ∀ {xs ys : List V} {us : List Value}, Vals xs us → Vals ys us → xs = ys
  | _, _, _, .nil, .nil => rfl
  | _, _, _, .cons r t, .cons r' t' => by rw [r.inj r', Vals.inj t t']
section
variable {X : Cx} {pins : List (Addr × Obj)} {σ : St} {H : Hp} {s : Shared} {a : Addr} {xs ys : List V}
theorem SqL.of {K : PySem.W.Frag} (h : H a = some (.lst xs)) : SqL K H a xs := .inl (.inl h)
theorem SqT.of {K : PySem.W.Frag} (h : H a = some (.tup xs)) : SqT K H a xs := .inl (.inl h)
theorem Inv.list (I : Inv X pins σ H s) (h : SqL X.K H a xs) : ∃ its : List Value, Vals xs its ∧ PlainL s.heap a its.toArray ∧ xs.length ≤ sizeLine := by
  rcases h with h | ⟨o, its, n, hk, hc, hd, hs, hz, r⟩
  · obtain ⟨z, its, n, r, e⟩ := h.ok I.hok
    exact ⟨its, r, ⟨_, n, e, rfl, rfl, rfl⟩, z⟩
  · refine ⟨its.toList, r, ⟨o, n, I.kIn a o hk, hc, hd, by simpa using hs⟩, ?_⟩
    have e := r.length
    simp only [Array.length_toList] at e
    omega
theorem Inv.tuple (I : Inv X pins σ H s) (h : SqT X.K H a xs) : ∃ its : List Value, Vals xs its ∧ IsTup s.heap a its.toArray ∧ xs.length ≤ sizeLine := by
  rcases h with h | ⟨o, its, n, hk, hc, hs, hz, r⟩
  · obtain ⟨z, its, r, p⟩ := h.ok I.hok
    exact ⟨its, r, p, z⟩
  · refine ⟨its.toList, r, ⟨o, I.kIn a o hk, hc, n, by simpa using hs⟩, ?_⟩
    have e := r.length
    simp only [Array.length_toList] at e
    omega
theorem Inv.list_inj (I : Inv X pins σ H s) (h : SqL X.K H a xs) (h' : SqL X.K H a ys) : xs = ys := by
  obtain ⟨its, r, ⟨o, n, e, _, _, d⟩, _⟩ := I.list h
  obtain ⟨its', r', ⟨o', n', e', _, _, d'⟩, _⟩ := I.list h'
  rw [e] at e'; cases e'
  rw [d] at d'
  injection d' with d1 _
  have : its = its' := by simpa using congrArg Array.toList d1
  subst this
  exact r.inj r'
theorem Inv.tuple_inj (I : Inv X pins σ H s) (h : SqT X.K H a xs) (h' : SqT X.K H a ys) : xs = ys := by
  obtain ⟨its, r, ⟨o, e, _, n, d⟩, _⟩ := I.tuple h
  obtain ⟨its', r', ⟨o', e', _, n', d'⟩, _⟩ := I.tuple h'
  rw [e] at e'; cases e'
  rw [d] at d'
  injection d' with d1 _
  have : its = its' := by simpa using congrArg Array.toList d1
  subst this
  exact r.inj r'
end
abbrev Cx.wish (X : Cx) (E : Value → Shared → Prop) : Cx := { X with xe := E }
abbrev Cx.nox (X : Cx) : Cx := X.wish fun _ _ => False
theorem Cx.Ok.wish {X : Cx} (ok : X.Ok) (E : Value → Shared → Prop) : (X.wish E).Ok :=
  ⟨ok.mod, ok.kind, ok.glob, ok.blt, ok.above, ok.inj, ok.has, ok.cab, ok.hd, ok.frames, ok.stk, ok.exf, ok.bs, ok.bsz, ok.noex, ok.exfs, ok.funs, ok.frf⟩
theorem Cx.Ok.unwish {X : Cx} {E : Value → Shared → Prop} (ok : (X.wish E).Ok) : X.Ok :=
  ⟨ok.mod, ok.kind, ok.glob, ok.blt, ok.above, ok.inj, ok.has, ok.cab, ok.hd, ok.frames, ok.stk, ok.exf, ok.bs, ok.bsz, ok.noex, ok.exfs, ok.funs, ok.frf⟩
section
variable {X : Cx} {pins : List (Addr × Obj)} {σ : St} {H : Hp} {s : Shared} {E : Value → Shared → Prop}
theorem Inv.wish (I : Inv X pins σ H s) (E : Value → Shared → Prop) : Inv (X.wish E) pins σ H s := ⟨I.ok.wish E, I.os, I.bare, I.base, I.loc, I.cell, I.free, I.freeC, I.pin, I.hok, I.len⟩
theorem Inv.unwish (I : Inv (X.wish E) pins σ H s) : Inv X pins σ H s := ⟨I.ok.unwish, I.os, I.bare, I.base, I.loc, I.cell, I.free, I.freeC, I.pin, I.hok, I.len⟩
theorem SP.unwish {D : Ends} {f : Flow} {s' : Shared} (h : SP (X.wish E) pins D f s') : SP X pins D f s' := by
  cases f with
  | next => obtain ⟨σ', H', I, q⟩ := h; exact ⟨σ', H', I.unwish, q⟩
  | brk => obtain ⟨σ', H', I, q⟩ := h; exact ⟨σ', H', I.unwish, q⟩
  | cont => obtain ⟨σ', H', I, q⟩ := h; exact ⟨σ', H', I.unwish, q⟩
  | ret u => obtain ⟨v, σ', H', I, r, q⟩ := h; exact ⟨v, σ', H', I.unwish, r, q⟩
theorem PE.nox {e : Expr} {t : TE} (h : PE X.nox e t) : PE X e t := fun pins s σ H Q I hw =>
  wpAny_mono (h pins s σ H Q (I.wish _) hw) (fun _ _ ⟨v, H', I', r, q⟩ => ⟨v, H', I'.unwish, r, q⟩) fun _ _ z => False.elim z
theorem PT.nox {e : Expr} {t : TT} (h : PT X.nox e t) : PT X e t := fun pins s σ H Q I hw =>
  wpAny_mono (h pins s σ H Q (I.wish _) hw) (fun _ _ ⟨H', I', q⟩ => ⟨H', I'.unwish, q⟩) fun _ _ z => False.elim z
theorem PSs.nox {st : List Stmt} {t : TS} (h : PSs X.nox st t) : PSs X st t := fun pins s σ H D I hw =>
  wpAny_mono (h pins s σ H D (I.wish _) hw) (fun _ _ q => q.unwish) fun _ _ z => False.elim z
end
section
variable {X : Cx} {st : Stmt} {rest : List Stmt} {t u : TS} {e : Expr} {te : TE} {pos : Pos}
def tNext : TS := fun D σ H => D.nx σ H
def tSeq (t u : TS) : TS := fun D σ H => t { D with nx := u D } σ H
theorem pss_nil : PSs X [] tNext := fun _ _ σ H _ I h => wpAny_execs_nil ⟨σ, H, I, h⟩
theorem pss_cons (h1 : PS X st t) (h2 : PSs X rest u) : PSs X (st :: rest) (tSeq t u) := by
  intro pins s σ H D I h
  refine wpAny_execs_cons (thn (h1 pins s σ H { D with nx := u D } I h) fun f s1 q => ?_)
  cases f with
  | next =>
    obtain ⟨σ', H', I', q⟩ := q
    exact h2 pins s1 σ' H' D I' q
  | ret v => exact q
  | brk => exact q
  | cont => exact q
theorem pss_one (h1 : PS X st t) : PSs X [st] t := by
  intro pins s σ H D I h
  refine wpAny_execs_cons (thn (h1 pins s σ H D I h) fun f s1 q => ?_)
  cases f with
  | next => exact wpAny_execs_nil q
  | ret v => exact q
  | brk => exact q
  | cont => exact q
theorem Inv.quiet {pins : List (Addr × Obj)} {σ : St} {H : Hp} {s : Shared} (I : Inv X pins σ H s) : interactive X.env = false := by simp [interactive, I.ok.kind]
def tDrop (te : TE) : TS := fun D σ H => te σ H fun _ H1 => D.nx σ H1
theorem ps_expr (he : PE X e te) (hs : swapsWith e none pos.line X.env = pure false := by rfl) : PS X (.Expr e pos) (tDrop te) := by
  intro pins s σ H D I h
  exact wpAny_Expr_any (thn (he pins s σ H _ I h) fun v s1 ⟨x, H1, I1, r1, q1⟩ => ⟨σ, H1, I1, q1⟩) I.quiet hs
def tRet (te : TE) : TS := fun D σ H => te σ H D.rt
theorem ps_ret (he : PE X e te) : PS X (.Return (some e) pos) (tRet te) := by
  intro pins s σ H D I h
  exact wpAny_Return_some (thn (he pins s σ H _ I h) fun v s1 ⟨x, H1, I1, r1, q1⟩ => ⟨x, σ, H1, I1, r1, q1⟩)
def tIfS (c : TT) (t u : TS) : TS := fun D σ H => c σ H fun b H1 => if b = true then t D σ H1 else u D σ H1
theorem ps_if {c : Expr} {a b : List Stmt} {tc : TT} (hc : PT X c tc) (ha : PSs X a t) (hb : PSs X b u) : PS X (.If c a b pos) (tIfS tc t u) := by
  intro pins s σ H D I h
  refine wpAny_If (thn (hc pins s σ H _ I h) fun d s1 ⟨H1, I1, q1⟩ => ?_)
  cases d with
  | true => exact ha pins s1 σ H1 D I1 q1
  | false => exact hb pins s1 σ H1 D I1 q1
def tNever : TS := fun _ _ _ => False
theorem ps_never : PS X st tNever := fun _ _ _ _ _ _ h => h.elim
end
abbrev TG := V → St → Hp → (St → Hp → Prop) → Prop
abbrev TGs := List V → St → Hp → (St → Hp → Prop) → Prop
def PG (X : Cx) (target : Expr) (t : TG) : Prop :=
  ∀ (pins : List (Addr × Obj)) (s : Shared) (σ : St) (H : Hp) (v : V) (u : Value) (Q : St → Hp → Prop), Inv X pins σ H s → RelV v u → t v σ H Q →
    wpAny (model X.prog X.w) X.A (assign target X.env u) (fun _ s' => ∃ σ' H', Inv X pins σ' H' s' ∧ Q σ' H') X.xe s
def PGs (X : Cx) (ts : List Expr) (t : TGs) : Prop :=
  ∀ (pins : List (Addr × Obj)) (s : Shared) (σ : St) (H : Hp) (vs : List V) (us : List Value) (Q : St → Hp → Prop), Inv X pins σ H s → Vals vs us → t vs σ H Q →
    wpAny (model X.prog X.w) X.A (assignInOrder ((assignEach ts X.env).map (·.2)) us) (fun _ s' => ∃ σ' H', Inv X pins σ' H' s' ∧ Q σ' H') X.xe s
abbrev TSet := V → V → V → Hp → (Hp → Prop) → Prop
def PSet (X : Cx) (t : TSet) : Prop :=
  ∀ (pins : List (Addr × Obj)) (s : Shared) (σ : St) (H : Hp) (o i v : V) (ov iv u : Value) (Q : Hp → Prop), Inv X pins σ H s → RelV o ov → RelV i iv → RelV v u → t o i v H Q →
    wpAny (model X.prog X.w) X.A (setItem ov iv u) (fun _ s' => ∃ H', Inv X pins σ H' s' ∧ Q H') X.xe s
section
variable {X : Cx} {pos : Pos}
def gName (i : Nat) : TG := fun v σ H Q => Q (σ.set i (some v)) H
theorem pg_name {i : Nat} {x : Str} (hN : X.N.Nodup) (hi : X.N[i]? = some x) (hx : Loc X.env.scope x) (hf : X.fn x = true ∨ X.env.scope.names.lookup x = some .local := by first | exact .inl rfl | exact .inr rfl | assumption) : PG X (.Name x pos) (gName i) := by
  intro pins s σ H v u Q I r h
  exact wpAny_assign_Name (store_ok I hN hi hx r (fun s' I' => ⟨_, H, I', h⟩) hf)
def gNil : TGs := fun vs σ H Q => vs = [] ∧ Q σ H
def gCons (t : TG) (u : TGs) : TGs := fun vs σ H Q => ∃ v r, vs = v :: r ∧ t v σ H fun σ' H' => u r σ' H' Q
theorem pgs_nil : PGs X [] gNil := by
  intro pins s σ H vs us Q I r h
  obtain ⟨e, h⟩ := h
  subst e
  cases r
  exact assignInOrder_nil ⟨σ, H, I, h⟩
theorem pgs_cons {e : Expr} {es : List Expr} {t : TG} {u : TGs} (h1 : PG X e t) (h2 : PGs X es u)
    (hs : (assignEach (e :: es) X.env).map (·.2) = assign e X.env :: (assignEach es X.env).map (·.2) := by rfl) : PGs X (e :: es) (gCons t u) := by
  intro pins s σ H vs us Q I r h
  obtain ⟨v, vr, e1, h⟩ := h
  subst e1
  cases r with
  | cons r rr =>
    rw [hs]
    refine assignInOrder_cons (thn (h1 pins s σ H _ _ _ I r h) fun _ s1 ⟨σ1, H1, I1, q1⟩ => ?_)
    exact h2 pins s1 σ1 H1 _ _ Q I1 rr q1
def gTup (K : PySem.W.Frag) (n : Nat) (t : TGs) : TG := fun v σ H Q => ∃ a xs, v = .ref a ∧ SqT K H a xs ∧ xs.length = n ∧ t xs σ H Q
theorem pg_tup {es : List Expr} {k : Nat} {t : TGs} {n : Nat} (hc : X.calm = true) (h : PGs X es t)
    (hn : (assignEach es X.env).length = n := by rfl) (hst : (assignEach es X.env).findIdx? (·.1) = none := by rfl) : PG X (.Tuple es k pos) (gTup X.K n t) := by
  intro pins s σ H v u Q I r hw
  obtain ⟨a, xs, e1, hq, hl, hw⟩ := hw
  subst e1
  cases r
  obtain ⟨its, rv, ht, hz⟩ := I.tuple hq
  refine assign_Tuple_tuple (I.ok.hd hc) ht (by simp [hn, ← hl, rv.length]) hst fun h' hx => ?_
  have I1 : Inv X pins σ H { s with heap := h' } := I.kept (t' := s.toks) fun b o e => hx b o (Nat.ne_of_lt (Heap.lt_size e)) e
  exact h pins _ σ H xs _ Q I1 (by simpa using rv) hw
def gSub (to ti : TE) (t : TSet) : TG := fun v σ H Q => to σ H fun o H1 => ti σ H1 fun i H2 => t o i v H2 fun H3 => Q σ H3
theorem pg_sub {o i : Expr} {to ti : TE} {t : TSet} (ho : PE X o to) (hi : PE X i ti) (hs : PSet X t)
    (ha : ∀ v, assign (.Subscript o i pos) X.env v = (do
      let ov ← holding [v] (eval o X.env)
      let iv ← holding [v, ov] (eval i X.env)
      standAt pos
      holding [v, ov, iv] (setItem ov iv v)
      release [v, ov, iv] []) := by intro _; rfl) : PG X (.Subscript o i pos) (gSub to ti t) := by
  intro pins s σ H v u Q I r h
  rw [ha]
  refine wpAny_bind (wpAny_holding (thn (ho pins s σ H _ I h) fun ov s1 ⟨x, H1, I1, r1, q1⟩ => ?_))
  refine wpAny_bind (wpAny_holding (thn (hi pins s1 σ H1 _ I1 q1) fun iv s2 ⟨y, H2, I2, r2, q2⟩ => ?_))
  refine wpAny_bind (wpAny_standAt (wpAny_bind (wpAny_holding (thn (hs pins s2 σ H2 x y v ov iv u _ I2 r1 r2 r q2) fun _ s3 ⟨H3, I3, q3⟩ => ?_))))
  exact wpAny_release ⟨σ, H3, I3, q3⟩
def tAsg (te : TE) (g : TG) : TS := fun D σ H => te σ H fun x H1 => g x σ H1 D.nx
theorem ps_asg {tg e : Expr} {te : TE} {g : TG} (he : PE X e te) (hg : PG X tg g) (hs : swapsWithSole [tg] e pos.line X.env = pure false := by rfl) (hw : swappedStores [tg] e X.env = pure none := by rfl)
    (h1 : (assignEach [tg] X.env).map (·.2) = [assign tg X.env] := by rfl) : PS X (.Assign [tg] e pos) (tAsg te g) := by
  intro pins s σ H D I h
  refine wpAny_Assign_stores (thn (he pins s σ H _ I h) fun v s1 ⟨x, H1, I1, r1, q1⟩ => ?_) hs hw
  rw [h1]
  exact thn (hg pins s1 σ H1 x v _ I1 r1 q1) fun _ s2 q => q
end
section
variable {X : Cx} {pos : Pos}
end
structure It where
  go : Nat → Hp → Prop
  yld : Nat → Hp → V → Hp → Prop
  stop : Nat → Hp → Prop
def FpOk (X : Cx) (pins : List (Addr × Obj)) (H : Hp) (b : Addr) : Prop :=
  H b = none ∧ b ≠ X.env.locals ∧ b ∉ X.fs ∧ (b ∈ X.ex ∨ X.s_0.heap.objs.size ≤ b) ∧ (∀ x c, X.env.cells.lookup x = some c → c ≠ b) ∧ ∀ p ∈ X.pn ++ pins, p.1 ≠ b
theorem Inv.fpOk {X : Cx} {pins : List (Addr × Obj)} {σ : St} {H H' : Hp} {s : Shared} {b : Addr} (I : Inv X pins σ H s) (hb : s.heap.objs.size ≤ b) (hn : H' b = none) : FpOk X pins H' b := by
  refine ⟨hn, Nat.ne_of_gt (Nat.lt_of_lt_of_le I.lt hb), I.nofs hb, .inr (Nat.le_trans I.sz hb), fun x c e z => ?_, fun p hp z => ?_⟩
  · obtain ⟨v, q⟩ := I.cell x c e
    exact absurd (Nat.lt_of_lt_of_le q.lt (by rw [z]; exact hb)) (Nat.lt_irrefl _)
  · exact absurd (Nat.lt_of_lt_of_le (Heap.lt_size (I.pin p hp).1) (by rw [z]; exact hb)) (Nat.lt_irrefl _)
structure Turn (P : Program) (w : World) (K : PySem.W.Frag) (tg : Expr) (J : It) (fp : List Addr) (it : Addr) (tn : Nat → Heap → Prop) : Prop where
  mem : it ∈ fp
  obj : ∀ i h, tn i h → ∀ b ∈ fp, ∃ o, h.get? b = some o ∧ ∀ v, o.data ≠ .cell v
  keep : ∀ i h h', tn i h → (∀ b ∈ fp, ∀ o, h.get? b = some o → h'.get? b = some o) → tn i h'
  item : ∀ (X : Cx), X.prog = P → X.w = w → X.K = K → X.calm = true → ∀ (i : Nat) (pins : List (Addr × Obj)) (s : Shared) (σ : St) (H : Hp) (E : Value → Shared → Prop), Inv X pins σ H s → (∀ b ∈ fp, FpOk X pins H b) → tn i s.heap → J.go i H →
    wpAny (model P w) X.A (pyNext (.ref it)) (fun r s1 => ∃ u, r = some u ∧
      wpAny (model P w) X.A (letOwnedTupleGo tg (.ref it) u) (fun _ s2 => ∃ x H', Inv X pins σ H' s2 ∧ RelV x u ∧ J.yld i H x H' ∧ tn (i + 1) s2.heap ∧ ∀ b ∈ fp, H' b = none) E s1) E s
  done : ∀ (X : Cx), X.prog = P → X.w = w → X.K = K → X.calm = true → ∀ (i : Nat) (pins : List (Addr × Obj)) (s : Shared) (σ : St) (H : Hp) (E : Value → Shared → Prop), Inv X pins σ H s → (∀ b ∈ fp, FpOk X pins H b) → tn i s.heap → J.stop i H →
    wpAny (model P w) X.A (pyNext (.ref it)) (fun r s1 => r = none ∧ Inv X pins σ H s1) E s
  self : ∀ (A : Around) (i : Nat) (s : Shared) (Q : Value → Shared → Prop) (E : Value → Shared → Prop), tn i s.heap → Q (.ref it) s → wpAny (model P w) A (pyIter (.ref it)) Q E s
abbrev TI := St → Hp → (It → Hp → Prop) → Prop
def PIE (X : Cx) (pins : List (Addr × Obj)) (σ : St) (tg : Expr) (R : It → Hp → Prop) (itv : Value) (s2 : Shared) : Prop :=
  ∃ (it : Addr) (fp : List Addr) (tn : Nat → Heap → Prop) (J : It) (H' : Hp), itv = .ref it ∧ Inv X pins σ H' s2 ∧ Turn X.prog X.w X.K tg J fp it tn ∧ tn 0 s2.heap ∧ (∀ b ∈ fp, FpOk X pins H' b) ∧ R J H'
def PI (X : Cx) (tg iter : Expr) (wi : TI) : Prop :=
  ∀ (pins : List (Addr × Obj)) (s : Shared) (σ : St) (H : Hp) (R : It → Hp → Prop), Inv X pins σ H s → wi σ H R →
    wpAny (model X.prog X.w) X.A (eval iter X.env) (fun v s1 => wpAny (model X.prog X.w) X.A (pyIter v) (PIE X pins σ tg R) X.xe s1) X.xe s
theorem go_of {M : Model} {A : Around} {E : Value → Shared → Prop} {s : Shared} {tg : Expr} {it : Addr} {u : Value} {o : Obj} {n : String} {vs : Array Value} {Q : Unit → Shared → Prop} (ho : s.heap.get? it = some o) (hc : o.cls = .type n) (hd : o.data = .fields vs)
    (hn : ["enumerate", "zip", "dict_itemiterator", "dict_reverseitemiterator", "odict_iterator", "itertools.zip_longest", "itertools.pairwise"].contains n = false) (hQ : Q () s) : wpAny M A (letOwnedTupleGo tg (.ref it) u) Q E s := by
  unfold letOwnedTupleGo
  cases tg <;> first
    | exact wpAny_pure hQ
    | (cases u <;> first
        | exact wpAny_pure hQ
        | (refine wpAny_bind (wpAny_load ho ?_)
           rw [hc, hd]
           show wpAny M A (if (["enumerate", "zip", "dict_itemiterator", "dict_reverseitemiterator", "odict_iterator", "itertools.zip_longest", "itertools.pairwise"].contains n && vs[0]? == some (rawInt _)) = true then _ else _) Q E s
           rw [if_neg (by intro h; rw [hn, Bool.false_and] at h; cases h)]
           exact wpAny_pure hQ))
def Itl (K : PySem.W.Frag) (a : Addr) : It :=
  ⟨fun i H => ∃ xs x, SqL K H a xs ∧ xs[i]? = some x, fun i H x H' => H' = H ∧ ∀ xs, SqL K H a xs → xs[i]? = some x, fun i H => ∃ xs, SqL K H a xs ∧ xs.length ≤ i⟩
def Itt (K : PySem.W.Frag) (a : Addr) : It :=
  ⟨fun i H => ∃ xs x, SqT K H a xs ∧ xs[i]? = some x, fun i H x H' => H' = H ∧ ∀ xs, SqT K H a xs → xs[i]? = some x, fun i H => ∃ xs, SqT K H a xs ∧ xs.length ≤ i⟩
def Itr (lo : Int) (n : Nat) : It := ⟨fun i _ => i < n, fun i H x H' => H' = H ∧ x = .int (lo + i), fun i _ => n ≤ i⟩
theorem turn_list {P : Program} {w : World} {K : PySem.W.Frag} {tg : Expr} (a it : Addr) : Turn P w K tg (Itl K a) [it] it (fun i h => h.IsListIter it a i) where
  mem := by simp
  obj := fun i h st b hb => by
    have e : b = it := by simpa using hb
    subst e
    obtain ⟨o, e, c, d⟩ := st
    exact ⟨o, e, fun v z => by rw [d] at z; cases z⟩
  keep := fun i h h' st k => st.at fun o e => k it (by simp) o e
  item := by
    intro X hP hw hK hc i pins s σ H E I hf st hg
    subst hP hw hK
    obtain ⟨xs, x, hq, hx⟩ := hg
    obtain ⟨its, rv, p, hz⟩ := I.list hq
    obtain ⟨u, hu, ru⟩ := rv.get hx
    obtain ⟨f0, f1, f2, f3, f4, f5⟩ := hf it (by simp)
    refine wpAny_pyNext_list_item st p.isList (x := u) (by simpa using hu) fun h' st' sb => ?_
    have I1 : Inv X pins σ H { s with heap := h' } := I.turned (t' := s.toks) (fun b o hb e => (sb.2 b hb).trans e) f0 f1 f3 f4 f5
    obtain ⟨o, e, c, d⟩ := id st'
    exact ⟨u, rfl, go_of (s := { s with heap := h' }) e c d (by decide) ⟨x, H, I1, ru, ⟨rfl, fun ys hy => by rw [I.list_inj hy hq]; exact hx⟩, st', fun b hb => (hf b hb).1⟩⟩
  done := by
    intro X hP hw hK hc i pins s σ H E I hf st hg
    subst hP hw hK
    obtain ⟨xs, hq, hx⟩ := hg
    obtain ⟨its, rv, p, hz⟩ := I.list hq
    obtain ⟨f0, f1, f2, f3, f4, f5⟩ := hf it (by simp)
    have hl := rv.length
    exact wpAny_pyNext_list_end (I.ok.hd hc) st p.isList (by simp; omega) fun h' eb => ⟨rfl, I.turned (t' := s.toks) (fun b o hb e => eb b o hb e) f0 f1 f3 f4 f5⟩
  self := fun _ _ _ _ _ st h => wpAny_pyIter_listiter st h
theorem turn_tuple {P : Program} {w : World} {K : PySem.W.Frag} {tg : Expr} (a it : Addr) : Turn P w K tg (Itt K a) [it] it (fun i h => h.IsTupleIter it a i) where
  mem := by simp
  obj := fun i h st b hb => by
    have e : b = it := by simpa using hb
    subst e
    obtain ⟨o, e, c, d⟩ := st
    exact ⟨o, e, fun v z => by rw [d] at z; cases z⟩
  keep := fun i h h' st k => st.at fun o e => k it (by simp) o e
  item := by
    intro X hP hw hK hc i pins s σ H E I hf st hg
    subst hP hw hK
    obtain ⟨xs, x, hq, hx⟩ := hg
    obtain ⟨its, rv, p, hz⟩ := I.tuple hq
    obtain ⟨u, hu, ru⟩ := rv.get hx
    obtain ⟨f0, f1, f2, f3, f4, f5⟩ := hf it (by simp)
    refine wpAny_pyNext_tuple_item st (show s.heap.IsTuple a its.toArray from p) (x := u) (by simpa using hu) fun h' st' sb => ?_
    have I1 : Inv X pins σ H { s with heap := h' } := I.turned (t' := s.toks) (fun b o hb e => (sb.2 b hb).trans e) f0 f1 f3 f4 f5
    obtain ⟨o, e, c, d⟩ := id st'
    exact ⟨u, rfl, go_of (s := { s with heap := h' }) e c d (by decide) ⟨x, H, I1, ru, ⟨rfl, fun ys hy => by rw [I.tuple_inj hy hq]; exact hx⟩, st', fun b hb => (hf b hb).1⟩⟩
  done := by
    intro X hP hw hK hc i pins s σ H E I hf st hg
    subst hP hw hK
    obtain ⟨xs, hq, hx⟩ := hg
    obtain ⟨its, rv, p, hz⟩ := I.tuple hq
    obtain ⟨f0, f1, f2, f3, f4, f5⟩ := hf it (by simp)
    have hl := rv.length
    exact wpAny_pyNext_tuple_end (I.ok.hd hc) st (show s.heap.IsTuple a its.toArray from p) (by simp; omega) fun h' eb => ⟨rfl, I.turned (t' := s.toks) (fun b o hb e => eb b o hb e) f0 f1 f3 f4 f5⟩
  self := fun _ _ _ _ _ st h => wpAny_pyIter_tupleiter st h
theorem turn_range {P : Program} {w : World} {K : PySem.W.Frag} {tg : Expr} (it : Addr) (lo : Int) (n : Nat) : Turn P w K tg (Itr lo n) [it] it (fun i h => IsRangeIter h it (lo + (i : Nat) * 1) ((n : Int) - (i : Nat)) 1) where
  mem := by simp
  obj := fun i h st b hb => by
    have e : b = it := by simpa using hb
    subst e
    exact ⟨_, st, fun v z => by
      have z' : Data.fields _ = Data.cell v := z
      cases z'⟩
  keep := fun i h h' st k => k it (by simp) _ st
  item := by
    intro X hP hw hK hc i pins s σ H E I hf st hg
    subst hP hw hK
    obtain ⟨f0, f1, f2, f3, f4, f5⟩ := hf it (by simp)
    have W := Walks.range (prog := X.prog) (w := X.w) (I.ok.hd hc) it lo 1 n
    refine W.item i s _ _ hg st fun v h' tk hv st' kk => ?_
    obtain ⟨t, rfl⟩ := hv
    have I1 : Inv X pins σ H { s with heap := h', toks := tk } := I.turned (fun b o hb e => kk b o (by simpa using hb) e) f0 f1 f3 f4 f5
    refine ⟨_, rfl, go_of (s := { s with heap := h', toks := tk }) (n := "range_iterator") st' rfl rfl (by decide) ⟨.int (lo + i), H, I1, ⟨t, ?_⟩, ⟨rfl, rfl⟩, st', fun b hb => (hf b hb).1⟩⟩
    rw [Int.mul_one]
  done := by
    intro X hP hw hK hc i pins s σ H E I hf st hg
    subst hP hw hK
    obtain ⟨f0, f1, f2, f3, f4, f5⟩ := hf it (by simp)
    exact wpAny_pyNext_range_end (I.ok.hd hc) st (by have : n ≤ i := hg; omega) fun h' eb => ⟨rfl, I.turned (t' := s.toks) (fun b o hb e => eb b o hb e) f0 f1 f3 f4 f5⟩
  self := fun _ _ _ _ _ st h => wpAny_pyIter_rangeiter st h
end L2
namespace L2
open PySem PySem.Spec PyProof.Rows
section
variable {X : Cx} {tg : Expr}
def iList (K : PySem.W.Frag) (tl : TE) : TI := fun σ H R => tl σ H fun x H1 => ∃ a, x = .ref a ∧ (∃ xs, SqL K H1 a xs) ∧ R (Itl K a) H1
theorem pi_list {l : Expr} {tl : TE} (hl : PE X l tl) : PI X tg l (iList X.K tl) := by
  intro pins s σ H R I h
  refine thn (hl pins s σ H _ I h) fun v s1 ⟨x, H1, I1, r1, q1⟩ => ?_
  obtain ⟨a, e, ⟨xs, hq⟩, q⟩ := q1
  subst e
  cases r1
  obtain ⟨its, rv, p, hz⟩ := I1.list hq
  refine wpAny_pyIter_list p.isList ?_
  refine ⟨s1.heap.objs.size, [s1.heap.objs.size], _, _, H1, rfl, I1.kept (t' := s1.toks) fun b o e => Heap.get?_push_of_some _ e, turn_list a _, ⟨_, Heap.get?_push_size _ rfl, rfl, rfl⟩, fun b hb => ?_, q⟩
  have e : b = s1.heap.objs.size := by simpa using hb
  subst e
  exact I1.fpOk (Nat.le_refl _) (I1.hok.fresh (Nat.le_refl _))
theorem range_it {pins : List (Addr × Obj)} {σ : St} {H : Hp} {s : Shared} {R : It → Hp → Prop} {E : Value → Shared → Prop} {lo hi : Int} {t u v : Tok} {tk : Nat} (I : Inv X pins σ H s) (h1 : -(2 ^ 62) ≤ lo) (h2 : lo < 2 ^ 62) (h3 : -(2 ^ 62) ≤ hi) (h4 : hi < 2 ^ 62)
    (q : R (Itr lo (hi - lo).toNat) H) : wpAny (model X.prog X.w) X.A (pyIter (.ref s.heap.objs.size)) (PIE X pins σ tg R) E { s with heap := s.heap.push { cls := .type "range", data := .fields #[.int lo t, .int hi u, .int 1 v] }, toks := tk } := by
  refine wpAny_pyIter_range (IsRange.new ..) (small_one h1 h2 h3 h4) ?_
  have I1 : Inv X pins σ H { s with heap := s.heap.push { cls := .type "range", data := .fields #[.int lo t, .int hi u, .int 1 v] }, toks := tk } := I.kept fun b o e => Heap.get?_push_of_some _ e
  refine ⟨(s.heap.push { cls := .type "range", data := .fields #[.int lo t, .int hi u, .int 1 v] }).objs.size, [(s.heap.push { cls := .type "range", data := .fields #[.int lo t, .int hi u, .int 1 v] }).objs.size], _, _, H, rfl,
    I1.kept (t' := tk) fun b o e => Heap.get?_push_of_some _ e, turn_range _ lo (hi - lo).toNat, ?_, fun b hb => ?_, q⟩
  · have e1 : lo + ((0 : Nat) : Int) * 1 = lo := by simp
    have e2 : (((hi - lo).toNat : Nat) : Int) - ((0 : Nat) : Int) = Builtin.Range.rangeSize lo hi 1 := by rw [rangeSize_one]; split <;> omega
    show IsRangeIter _ _ (lo + ((0 : Nat) : Int) * 1) ((((hi - lo).toNat : Nat) : Int) - ((0 : Nat) : Int)) 1
    rw [e1, e2]
    exact Heap.get?_push_size _ rfl
  · have e : b = (s.heap.push { cls := .type "range", data := .fields #[.int lo t, .int hi u, .int 1 v] }).objs.size := by simpa using hb
    subst e
    exact I1.fpOk (Nat.le_refl _) (I1.hok.fresh (Nat.le_refl _))
def iRng1 (ta : TA) : TI := fun σ H R => ta σ H fun vs H1 => ∃ j : Int, vs = [.int j] ∧ -(2 ^ 62) ≤ j ∧ j < 2 ^ 62 ∧ R (Itr 0 j.toNat) H1
def iRng2 (ta : TA) : TI := fun σ H R => ta σ H fun vs H1 => ∃ i j : Int, vs = [.int i, .int j] ∧ (-(2 ^ 62) ≤ i ∧ i < 2 ^ 62 ∧ -(2 ^ 62) ≤ j ∧ j < 2 ^ 62) ∧ R (Itr i (j - i).toNat) H1
theorem pi_range1 {a : Expr} {ta : TA} {p pos : Pos} (hg : Gl X "range") (hm : X.mg "range" = none) (ha : PA X [a] ta) (hs : starEach [a] X.env = [(false, eval a X.env)] := by rfl) : PI X tg (.Call (.Name "range" p) [a] [] pos) (iRng1 ta) := by
  intro pins s σ H R I h
  refine Call_ (ld_blt I hg hm boot_range (PyProof.Rows.callWith_type1 (thn (ha pos pins s σ H _ I h) fun us s1 ⟨vs, H1, I1, r1, q1⟩ => ?_) hs rfl))
  obtain ⟨j, e, q1, q2, q⟩ := q1
  subst e
  cases r1 with
  | cons r rr =>
    cases rr
    obtain ⟨t, rfl⟩ := r
    exact call_range_1 (range_it I1 (by omega) (by omega) q1 q2 (by simpa using q))
theorem pi_range2 {a b : Expr} {ta : TA} {p pos : Pos} (hg : Gl X "range") (hm : X.mg "range" = none) (ha : PA X [a, b] ta) (hs : starEach [a, b] X.env = [(false, eval a X.env), (false, eval b X.env)] := by rfl) (hs2 : starEach [b] X.env = [(false, eval b X.env)] := by rfl) :
    PI X tg (.Call (.Name "range" p) [a, b] [] pos) (iRng2 ta) := by
  intro pins s σ H R I h
  refine Call_ (ld_blt I hg hm boot_range (PyProof.Rows.callWith_type1 (thn (ha pos pins s σ H _ I h) fun us s1 ⟨vs, H1, I1, r1, q1⟩ => ?_) (by rw [hs, hs2]) (by rw [hs2]; rfl)))
  obtain ⟨i, j, e, ⟨q1, q2, q3, q4⟩, q⟩ := q1
  subst e
  cases r1 with
  | cons r rr =>
    cases rr with
    | cons r' rr =>
      cases rr
      obtain ⟨t, rfl⟩ := r
      obtain ⟨t', rfl⟩ := r'
      exact call_range_2 (range_it I1 q1 q2 q3 q4 q)
def tFor (wi : TI) (g : TG) (tb : TS) : TS := fun D σ H => wi σ H fun J H1 => ∃ W : Nat → Nat → St → Hp → Prop, (∃ m, W 0 m σ H1) ∧ ∀ i m σ H, W i m σ H →
  (J.stop i H ∧ D.nx σ H) ∨ (J.go i H ∧ ∃ N : St → Hp → Prop, (∀ σ' H', N σ' H' → ∃ m', m' < m ∧ W (i + 1) m' σ' H') ∧ ∀ x H', J.yld i H x H' → g x σ H' fun σ2 H2 => tb { D with nx := N, ct := N, bk := D.nx } σ2 H2)
def pinsAt (fp : List Addr) (h : Heap) : List (Addr × Obj) := fp.filterMap fun b => (h.get? b).map fun o => (b, o)
theorem mem_pinsAt {fp : List Addr} {h : Heap} {b : Addr} {o : Obj} (hb : b ∈ fp) (e : h.get? b = some o) : (b, o) ∈ pinsAt fp h := List.mem_filterMap.mpr ⟨b, hb, by rw [e]; rfl⟩
theorem of_pinsAt {fp : List Addr} {h : Heap} {p : Addr × Obj} (hp : p ∈ pinsAt fp h) : p.1 ∈ fp ∧ h.get? p.1 = some p.2 := by
  obtain ⟨b, hb, e⟩ := List.mem_filterMap.mp hp
  cases q : h.get? b with
  | none => rw [q] at e; cases e
  | some o =>
    rw [q] at e
    have e' : (b, o) = p := Option.some.inj e
    subst e'
    exact ⟨hb, q⟩
theorem Inv.pinned {pins : List (Addr × Obj)} {σ : St} {H : Hp} {s : Shared} {fp : List Addr} (I : Inv X pins σ H s) (hf : ∀ b ∈ fp, FpOk X pins H b) (ho : ∀ b ∈ fp, ∃ o, s.heap.get? b = some o ∧ ∀ v, o.data ≠ .cell v) : Inv X (pins ++ pinsAt fp s.heap) σ H s :=
  I.pins_of fun p hp => (List.mem_append.mp hp).elim (fun z => I.pin p (List.mem_append_right _ z)) fun z => by
    obtain ⟨hb, e⟩ := of_pinsAt z
    obtain ⟨f0, f1, f2, _⟩ := hf p.1 hb
    obtain ⟨o, e', d⟩ := ho p.1 hb
    rw [e] at e'; cases e'
    exact ⟨e, f0, f1, f2, d⟩
theorem Inv.unpinned {pins pl : List (Addr × Obj)} {σ : St} {H : Hp} {s : Shared} (I : Inv X (pins ++ pl) σ H s) : Inv X pins σ H s := I.pins_of fun p hp => I.pin p (List.mem_append_right _ (List.mem_append_left _ hp))
theorem ps_for {iter : Expr} {body : List Stmt} {wi : TI} {g : TG} {tb : TS} {pos : Pos} (hp : PassesOwn (model X.prog X.w) X.A X.env X.xe) (hc : X.calm = true) (hi : PI X tg iter wi) (hg : PG X tg g) (hb : PSs X body tb)
    (hs : ∀ x, foldedSetIterable iter X.env x = pure x := by intro _; rfl) : PS X (.For tg iter body [] pos) (tFor wi g tb) := by
  intro pins s σ H D I h
  refine wpAny_For (thn (hi pins s σ H _ I h) fun v s1 h1 => thn h1 fun itv s2 h2 => ?_) hs
  obtain ⟨it, fp, tn, J, H2, e, I2, T, st2, f2, W, ⟨m0, w0⟩, turn⟩ := h2
  subst e
  -- what stays true of the iterator's objects through the loop
  have stat : ∀ {H' : Hp}, (∀ b ∈ fp, H' b = none) → ∀ b ∈ fp, FpOk X pins H' b := fun hn b hb => ⟨hn b hb, (f2 b hb).2⟩
  refine codeAny_forLoop_any (fun n s' => ∃ i σ' H', Inv X pins σ' H' s' ∧ tn i s'.heap ∧ (∀ b ∈ fp, H' b = none) ∧ W i n σ' H') ?_ m0 ⟨0, σ, H2, I2, st2, fun b hb => (f2 b hb).1, w0⟩
  rintro n s3 ⟨i, σ3, H3, I3, st3, fr3, w3⟩
  rcases turn i n σ3 H3 w3 with ⟨stop, qn⟩ | ⟨go, N, hN, step⟩
  · refine wpAny_passesOwn hp (thn (T.done X rfl rfl rfl hc i pins s3 σ3 H3 X.xe I3 (stat fr3) st3 stop) fun r s4 ⟨hr, I4⟩ => ?_)
    subst hr
    exact wpAny_execs_nil ⟨σ3, H3, I4, qn⟩
  · refine wpAny_passesOwn hp (thn (T.item X rfl rfl rfl hc i pins s3 σ3 H3 X.xe I3 (stat fr3) st3 go) fun r s4 ⟨u, hr, h4⟩ => ?_)
    subst hr
    refine wpAny_passesOwn hp (thn h4 fun _ s5 ⟨x, H5, I5, r5, y5, st5, fr5⟩ => ?_)
    have I5' := I5.pinned (stat fr5) (T.obj _ _ st5)
    refine wpAny_passesOwn hp (thn (hg _ s5 σ3 H5 x u _ I5' r5 (step x H5 y5)) fun _ s6 ⟨σ6, H6, I6, q6⟩ => ?_)
    refine wpAny_passesOwn hp (thn (hb _ s6 σ6 H6 _ I6 q6) fun f s7 q7 => ?_)
    have again : ∀ {σ7 : St} {H7 : Hp}, Inv X (pins ++ pinsAt fp s5.heap) σ7 H7 s7 → N σ7 H7 → ∃ m, m < n ∧ ∃ i σ' H', Inv X pins σ' H' s7 ∧ tn i s7.heap ∧ (∀ b ∈ fp, H' b = none) ∧ W i m σ' H' := fun {σ7 H7} I7 n7 => by
      obtain ⟨m', hm, w7⟩ := hN σ7 H7 n7
      refine ⟨m', hm, i + 1, σ7, H7, I7.unpinned, T.keep _ _ _ st5 fun b hb o e => (I7.pin (b, o) (List.mem_append_right _ (List.mem_append_right _ (mem_pinsAt hb e)))).1, fun b hb => ?_, w7⟩
      obtain ⟨o, e, d⟩ := T.obj _ _ st5 b hb
      exact (I7.pin (b, o) (List.mem_append_right _ (List.mem_append_right _ (mem_pinsAt hb e)))).2.1
    cases f with
    | next => obtain ⟨σ7, H7, I7, n7⟩ := q7; exact again I7 n7
    | cont => obtain ⟨σ7, H7, I7, n7⟩ := q7; exact again I7 n7
    | brk => obtain ⟨σ7, H7, I7, q7⟩ := q7; exact ⟨σ7, H7, I7.unpinned, q7⟩
    | ret v => obtain ⟨x7, σ7, H7, I7, r7, q7⟩ := q7; exact ⟨x7, σ7, H7, I7.unpinned, r7, q7⟩
end
end L2
namespace L2
open PySem PySem.Spec PyProof.Rows
abbrev R2 := V → V → Hp → VK → Prop
def OpR (X : Cx) (f : Value → Value → Sem Value) (r : R2) : Prop :=
  ∀ (pins : List (Addr × Obj)) (s : Shared) (σ : St) (H : Hp) (x y : V) (v u : Value) (Q : VK), Inv X pins σ H s → RelV x v → RelV y u → r x y H Q →
    wpAny (model X.prog X.w) X.A (f v u) (EP X pins σ Q) X.xe s
def CallR (X : Cx) (f : Value) (r : List V → Hp → VK → Prop) : Prop :=
  ∀ (pins : List (Addr × Obj)) (s : Shared) (σ : St) (H : Hp) (xs : List V) (us : List Value) (Q : VK), Inv X pins σ H s → Vals xs us → r xs H Q →
    wpAny (model X.prog X.w) X.A (call f us) (EP X pins σ Q) X.xe s
def tOp (r : R2) (ta tb : TE) : TE := fun σ H Q => ta σ H fun x H1 => tb σ H1 fun y H2 => r x y H2 Q
def rI (C : Int → Int → Prop) (g : Int → Int → V) : R2 := fun x y H Q => ∃ i j, x = .int i ∧ y = .int j ∧ C i j ∧ Q (g i j) H
def rI0 (g : Int → Int → V) : R2 := fun x y H Q => ∃ i j, x = .int i ∧ y = .int j ∧ Q (g i j) H
section
variable {X : Cx} {a b c : Expr} {ta tb tc : TE} {pos : Pos}
theorem binT (ha : PE X a ta) (hb : PE X b tb) {pins : List (Addr × Obj)} {s : Shared} {σ : St} {H : Hp} {R : V → V → Hp → Prop} (I : Inv X pins σ H s)
    (h : ta σ H fun x H1 => tb σ H1 fun y H2 => R x y H2) {Q : Value → Shared → Prop} {f : Value → Value → Sem Value}
    (hf : ∀ v u s2 x y H2, Inv X pins σ H2 s2 → RelV x v → RelV y u → R x y H2 → wpAny (model X.prog X.w) X.A (f v u) Q X.xe s2) :
    wpAny (model X.prog X.w) X.A (eval a X.env) (fun v s₁ => wpAny (model X.prog X.w) X.A (eval b X.env) (fun u s₂ => wpAny (model X.prog X.w) X.A (f v u) Q X.xe s₂) X.xe s₁) X.xe s := by
  refine thn (ha pins s σ H _ I h) fun v s1 ⟨x, H1, I1, r1, q1⟩ => ?_
  refine thn (hb pins s1 σ H1 _ I1 q1) fun u s2 ⟨y, H2, I2, r2, q2⟩ => ?_
  exact hf v u s2 x y H2 I2 r1 r2 q2
theorem pe_op {op : Operator} {r : R2} (ho : OpR X (binaryOp op) r) (ha : PE X a ta) (hb : PE X b tb) : PE X (.BinOp a op b pos) (tOp r ta tb) := by
  intro pins s σ H Q I h
  exact wpAny_BinOp (binT ha hb I h fun v u s2 x y H2 I2 rx ry q => ho pins s2 σ H2 x y v u Q I2 rx ry q)
theorem opI {f : Value → Value → Sem Value} {C : Int → Int → Prop} {g : Int → Int → Int}
    (rule : ∀ (i j : Int) (t u : Tok) (s : Shared) (Q : Value → Shared → Prop) (E : Value → Shared → Prop), C i j → Q (.int (g i j) s.toks) { s with toks := s.toks + 1 } → wpAny (model X.prog X.w) X.A (f (.int i t) (.int j u)) Q E s) :
    OpR X f (rI C fun i j => .int (g i j)) := by
  intro pins s σ H x y v u Q I rx ry h
  obtain ⟨i, j, rfl, rfl, hc, q⟩ := h
  obtain ⟨t, rfl⟩ := rx
  obtain ⟨t', rfl⟩ := ry
  exact rule i j t t' s _ _ hc ⟨.int (g i j), H, I.tok _, ⟨_, rfl⟩, q⟩
theorem opI0 {f : Value → Value → Sem Value} {g : Int → Int → Int}
    (rule : ∀ (i j : Int) (t u : Tok) (s : Shared) (Q : Value → Shared → Prop) (E : Value → Shared → Prop), Q (.int (g i j) s.toks) { s with toks := s.toks + 1 } → wpAny (model X.prog X.w) X.A (f (.int i t) (.int j u)) Q E s) :
    OpR X f (rI0 fun i j => .int (g i j)) := by
  intro pins s σ H x y v u Q I rx ry h
  obtain ⟨i, j, rfl, rfl, q⟩ := h
  obtain ⟨t, rfl⟩ := rx
  obtain ⟨t', rfl⟩ := ry
  exact rule i j t t' s _ _ ⟨.int (g i j), H, I.tok _, ⟨_, rfl⟩, q⟩
theorem opB0 {f : Value → Value → Sem Value} {g : Int → Int → Bool}
    (rule : ∀ (i j : Int) (t u : Tok) (s : Shared) (Q : Value → Shared → Prop) (E : Value → Shared → Prop), Q (.bool (g i j)) s → wpAny (model X.prog X.w) X.A (f (.int i t) (.int j u)) Q E s) :
    OpR X f (rI0 fun i j => .bl (g i j)) := by
  intro pins s σ H x y v u Q I rx ry h
  obtain ⟨i, j, rfl, rfl, q⟩ := h
  obtain ⟨t, rfl⟩ := rx
  obtain ⟨t', rfl⟩ := ry
  exact rule i j t t' s _ _ ⟨.bl (g i j), H, I, rfl, q⟩
def CDiv (i j : Int) : Prop := 0 < j ∧ j < 1073741824
def CPow (i j : Int) : Prop := 0 ≤ j ∧ j ≤ 1000000 ∧ i.natAbs < 2 ^ 64
def CMul (i j : Int) : Prop := (-(2 ^ 64) < i ∧ i < 2 ^ 64) ∨ (-(2 ^ 64) < j ∧ j < 2 ^ 64)
theorem CMul.ok {i j : Int} (h : CMul i j) : IntMulOk i j := by
  rcases h with ⟨h1, h2⟩ | ⟨h1, h2⟩
  · exact .of_left (intBits_le_64 h1 h2)
  · exact .of_right (intBits_le_64 h1 h2)
theorem op_add : OpR X (binaryOp .Add) (rI0 fun i j => .int (i + j)) := opI0 fun _ _ _ _ _ _ _ q => add_int q
theorem op_sub : OpR X (binaryOp .Sub) (rI0 fun i j => .int (i - j)) := opI0 fun _ _ _ _ _ _ _ q => sub_int q
theorem op_mul : OpR X (binaryOp .Mult) (rI CMul fun i j => .int (i * j)) := opI fun _ _ _ _ _ _ _ hc q => mul_int q hc.ok
theorem op_fdiv : OpR X (binaryOp .FloorDiv) (rI CDiv fun i j => .int (i / j)) := opI fun i j _ _ _ _ _ hc q => by
  have h1 : (0 : Int) < j := hc.1
  have h2 : j < 1073741824 := hc.2
  exact floordiv_int (by omega) (by rw [Int.fdiv_eq_ediv_of_nonneg i (by omega)]; exact q) (.inl (PyProof.noPylong_small (by omega)))
theorem op_mod : OpR X (binaryOp .Mod) (rI (fun _ j => 0 < j) fun i j => .int (i % j)) := opI fun i j _ _ _ _ _ hc q => by
  have h1 : (0 : Int) < j := hc
  exact mod_int' (by omega) (by rw [Int.fmod_eq_emod_of_nonneg i (by omega)]; exact q)
theorem op_pow : OpR X (binaryOp .Pow) (rI CPow fun i j => .int (i ^ j.toNat)) := opI fun _ _ _ _ _ _ _ hc q => pow_int_small hc.1 hc.2.1 hc.2.2 q
end
def scal : V → V → Bool
  | .non, .non => true | .non, .int _ => true | .int _, .non => true | .non, .bl _ => true | .bl _, .non => true | .non, .str _ => true | .str _, .non => true
  | .int _, .int _ => true | .bl _, .bl _ => true | .str _, .str _ => true | .byt _, .byt _ => true
  | .int _, .str _ => true | .str _, .int _ => true | .bl _, .str _ => true | .str _, .bl _ => true
  | _, _ => false
def rEq : R2 := fun x y H Q => scal x y = true ∧ Q (.bl (decide (x = y))) H
def rNe : R2 := fun x y H Q => scal x y = true ∧ Q (.bl (!decide (x = y))) H
theorem dec_int {i j : Int} : decide (V.int i = V.int j) = (i == j) := by
  rw [Bool.eq_iff_iff]
  simp
theorem dec_bl {i j : Bool} : decide (V.bl i = V.bl j) = (i == j) := by
  rw [Bool.eq_iff_iff]
  simp
theorem dec_str {i j : Str} : decide (V.str i = V.str j) = (i == j) := by
  rw [Bool.eq_iff_iff]
  simp
theorem dec_byt {i j : Array UInt8} : decide (V.byt i = V.byt j) = (i.toList == j.toList) := by
  rw [Bool.eq_iff_iff]
  cases i
  cases j
  simp
section
variable {X : Cx} {a b c : Expr} {ta tb tc : TE} {pos : Pos}
theorem fin_bl {pins : List (Addr × Obj)} {σ : St} {H : Hp} {s : Shared} {Q : VK} {k k' : Bool} (I : Inv X pins σ H s) (q : Q (.bl k) H) (e : k = k') : EP X pins σ Q (.bool k') s := by
  subst e
  exact ⟨.bl k, H, I, rfl, q⟩
theorem op_eq : OpR X (compareOp .Eq) rEq := by
  intro pins s σ H x y v u Q I rx ry h
  obtain ⟨hs, q⟩ := h
  cases x with
  | non =>
    cases rx
    cases y with
    | non => cases ry; exact PySem.EqNone.eq_none_none (fin_bl I q (by simp))
    | bl j => cases ry; exact PySem.EqNone.eq_none_bool (fin_bl I q (by simp))
    | int j => obtain ⟨t', rfl⟩ := ry; exact PySem.EqNone.eq_none_int (fin_bl I q (by simp))
    | str j => obtain ⟨t', rfl⟩ := ry; exact PySem.EqNone.eq_none_str (fin_bl I q (by simp))
    | _ => exact absurd (show false = true from hs) Bool.false_ne_true
  | bl i =>
    cases rx
    cases y with
    | non => cases ry; exact PySem.EqNone.eq_bool_none (fin_bl I q (by simp))
    | bl j => cases ry; exact eq_bool (fin_bl I q dec_bl)
    | str j => obtain ⟨t', rfl⟩ := ry; exact PySem.EqMixed.eq_bool_str (fin_bl I q (by simp))
    | _ => exact absurd (show false = true from hs) Bool.false_ne_true
  | int i =>
    obtain ⟨t, rfl⟩ := rx
    cases y with
    | non => cases ry; exact PySem.EqNone.eq_int_none (fin_bl I q (by simp))
    | int j => obtain ⟨t', rfl⟩ := ry; exact eq_int (fin_bl I q dec_int)
    | str j => obtain ⟨t', rfl⟩ := ry; exact PySem.EqMixed.eq_int_str (fin_bl I q (by simp))
    | _ => exact absurd (show false = true from hs) Bool.false_ne_true
  | str i =>
    obtain ⟨t, rfl⟩ := rx
    cases y with
    | non => cases ry; exact PySem.EqNone.eq_str_none (fin_bl I q (by simp))
    | bl j => cases ry; exact PySem.EqMixed.eq_str_bool (fin_bl I q (by simp))
    | int j => obtain ⟨t', rfl⟩ := ry; exact PySem.EqMixed.eq_str_int (fin_bl I q (by simp))
    | str j => obtain ⟨t', rfl⟩ := ry; exact eq_str (fin_bl I q dec_str)
    | _ => exact absurd (show false = true from hs) Bool.false_ne_true
  | byt i =>
    obtain ⟨t, rfl⟩ := rx
    cases y with
    | byt j => obtain ⟨t', rfl⟩ := ry; exact PySem.W.eq_bytes (fin_bl I q dec_byt)
    | _ => exact absurd (show false = true from hs) Bool.false_ne_true
  | _ => cases y <;> exact absurd (show false = true from hs) Bool.false_ne_true
theorem op_ne : OpR X (compareOp .NotEq) rNe := by
  intro pins s σ H x y v u Q I rx ry h
  obtain ⟨hs, q⟩ := h
  cases x with
  | non =>
    cases rx
    cases y with
    | non => cases ry; exact PySem.EqNone.ne_none_none (fin_bl I q (by simp))
    | bl j => cases ry; exact PySem.EqNone.ne_none_bool (fin_bl I q (by simp))
    | int j => obtain ⟨t', rfl⟩ := ry; exact PySem.EqNone.ne_none_int (fin_bl I q (by simp))
    | str j => obtain ⟨t', rfl⟩ := ry; exact PySem.EqNone.ne_none_str (fin_bl I q (by simp))
    | _ => exact absurd (show false = true from hs) Bool.false_ne_true
  | bl i =>
    cases rx
    cases y with
    | non => cases ry; exact PySem.EqNone.ne_bool_none (fin_bl I q (by simp))
    | bl j => cases ry; exact ne_bool (fin_bl I q (congrArg not dec_bl))
    | str j => obtain ⟨t', rfl⟩ := ry; exact PySem.EqMixed.ne_bool_str (fin_bl I q (by simp))
    | _ => exact absurd (show false = true from hs) Bool.false_ne_true
  | int i =>
    obtain ⟨t, rfl⟩ := rx
    cases y with
    | non => cases ry; exact PySem.EqNone.ne_int_none (fin_bl I q (by simp))
    | int j => obtain ⟨t', rfl⟩ := ry; exact ne_int (fin_bl I q (congrArg not dec_int))
    | str j => obtain ⟨t', rfl⟩ := ry; exact PySem.EqMixed.ne_int_str (fin_bl I q (by simp))
    | _ => exact absurd (show false = true from hs) Bool.false_ne_true
  | str i =>
    obtain ⟨t, rfl⟩ := rx
    cases y with
    | non => cases ry; exact PySem.EqNone.ne_str_none (fin_bl I q (by simp))
    | bl j => cases ry; exact PySem.EqMixed.ne_str_bool (fin_bl I q (by simp))
    | int j => obtain ⟨t', rfl⟩ := ry; exact PySem.EqMixed.ne_str_int (fin_bl I q (by simp))
    | str j => obtain ⟨t', rfl⟩ := ry; exact ne_str (fin_bl I q (congrArg not dec_str))
    | _ => exact absurd (show false = true from hs) Bool.false_ne_true
  | byt i =>
    obtain ⟨t, rfl⟩ := rx
    cases y with
    | byt j => obtain ⟨t', rfl⟩ := ry; exact PySem.W.ne_bytes (fin_bl I q (congrArg not dec_byt))
    | _ => exact absurd (show false = true from hs) Bool.false_ne_true
  | _ => cases y <;> exact absurd (show false = true from hs) Bool.false_ne_true
theorem op_lt : OpR X (compareOp .Lt) (rI0 fun i j => .bl (decide (i < j))) := opB0 fun _ _ _ _ _ _ _ q => lt_int q
theorem op_le : OpR X (compareOp .LtE) (rI0 fun i j => .bl (decide (i ≤ j))) := opB0 fun _ _ _ _ _ _ _ q => le_int q
theorem op_gt : OpR X (compareOp .Gt) (rI0 fun i j => .bl (decide (j < i))) := opB0 fun _ _ _ _ _ _ _ q => gt_int q
theorem op_ge : OpR X (compareOp .GtE) (rI0 fun i j => .bl (decide (j ≤ i))) := opB0 fun _ _ _ _ _ _ _ q => ge_int q
theorem OpR.or {f : Value → Value → Sem Value} {r r' : R2} (h : OpR X f r) (h' : OpR X f r') : OpR X f (fun x y H Q => r x y H Q ∨ r' x y H Q) := by
  intro pins s σ H x y v u Q I rx ry q
  rcases q with q | q
  · exact h pins s σ H x y v u Q I rx ry q
  · exact h' pins s σ H x y v u Q I rx ry q
theorem pe_cmpR {op : CmpOp} {r : R2} (ho : OpR X (compareOp op) r) (ha : PE X a ta) (hb : PE X b tb) (hm : behindInMarks op b = false) : PE X (.Compare a [op] [b] pos) (tOp r ta tb) := by
  intro pins s σ H Q I h
  exact wpAny_Compare1 (binT ha hb I h fun v u s2 x y H2 I2 rx ry q => ho pins s2 σ H2 x y v u Q I2 rx ry q) hm
def tTest (t : TE) : TT := fun σ H Q => t σ H fun x H' => ∃ k, x = .bl k ∧ Q k H'
theorem pt_cmpR {op : CmpOp} {r : R2} (ho : OpR X (compareOp op) r) (ha : PE X a ta) (hb : PE X b tb) (hm : behindInMarks op b = false) : PT X (.Compare a [op] [b] pos) (tTest (tOp r ta tb)) := by
  intro pins s σ H Q I h
  refine wpAny_isTrue_Compare1 (thn (ha pins s σ H _ I h) fun v s1 ⟨x, H1, I1, r1, q1⟩ => thn (hb pins s1 σ H1 _ I1 q1) fun u s2 ⟨y, H2, I2, r2, q2⟩ =>
    thn (ho pins s2 σ H2 x y v u _ I2 r1 r2 q2) fun c s3 ⟨z, H3, I3, r3, k, e, q3⟩ => ?_) hm
  subst e
  cases r3
  exact wpAny_truthy_bool ⟨H3, I3, q3⟩
def tChain (r r' : R2) (ta tb tc : TE) : TE := fun σ H Q => ta σ H fun x H1 => tb σ H1 fun y H2 => r x y H2 fun z H3 => ∃ k, z = .bl k ∧
  (if k = true then tc σ H3 fun w' H4 => r' y w' H4 Q else Q (.bl false) H3)
theorem pe_chain {op op' : CmpOp} {r r' : R2} (ho : OpR X (compareOp op) r) (ho' : OpR X (compareOp op') r') (ha : PE X a ta) (hb : PE X b tb) (hc : PE X c tc)
    (hm : lastMarks [op, op'] [b, c] = false := by with_unfolding_all rfl) : PE X (.Compare a [op, op'] [b, c] pos) (tChain r r' ta tb tc) := by
  intro pins s σ H Q I h
  refine Compare_chain (thn (ha pins s σ H _ I h) fun v s1 ⟨x, H1, I1, r1, q1⟩ => chain_link (thn (hb pins s1 σ H1 _ I1 q1) fun u s2 ⟨y, H2, I2, r2, q2⟩ =>
    thn (ho pins s2 σ H2 x y v u _ I2 r1 r2 q2) fun d s3 ⟨z, H3, I3, r3, k, e, q3⟩ => ?_)) hm
  subst e
  cases r3
  refine wpAny_truthy_bool ?_
  cases k with
  | false => exact ite_ff ⟨.bl false, H3, I3, rfl, q3⟩
  | true => exact ite_tt (chain_last (thn (hc pins s3 σ H3 _ I3 q3) fun w' s4 ⟨z', H4, I4, r4, q4⟩ => ho' pins s4 σ H4 y z' u w' Q I4 r2 r4 q4))
theorem line63 : (sizeLine : Nat) < 2 ^ 63 := by rw [sizeLine_eq]; decide
theorem op_add_str : OpR X (binaryOp .Add) (fun x y H Q => ∃ i j, x = .str i ∧ y = .str j ∧ i.length + j.length ≤ sizeLine ∧ Q (.str (i ++ j)) H) := by
  intro pins s σ H x y v u Q I rx ry h
  obtain ⟨i, j, rfl, rfl, hz, q⟩ := h
  obtain ⟨t, rfl⟩ := rx
  obtain ⟨t', rfl⟩ := ry
  exact add_str (fun t' tk => ⟨.str (i ++ j), H, I.tok _, ⟨_, rfl⟩, q⟩) hz
theorem vals1 {x : V} {us : List Value} (r : Vals [x] us) : ∃ u, us = [u] ∧ RelV x u := by
  cases r with
  | cons r1 r2 => cases r2; exact ⟨_, rfl, r1⟩
theorem vals2 {x y : V} {us : List Value} (r : Vals [x, y] us) : ∃ u w', us = [u, w'] ∧ RelV x u ∧ RelV y w' := by
  cases r with
  | cons r1 r2 =>
    cases r2 with
    | cons r3 r4 => cases r4; exact ⟨_, _, rfl, r1, r3⟩
theorem call_int1 : CallR X (.type "int") (fun xs H Q => (∃ i, xs = [.int i] ∧ Q (.int i) H) ∨ ∃ k, xs = [.bl k] ∧ Q (.int (if k then 1 else 0)) H) := by
  intro pins s σ H xs us Q I r h
  rcases h with ⟨i, rfl, q⟩ | ⟨k, rfl, q⟩
  · obtain ⟨u, rfl, t, rfl⟩ := vals1 r
    exact call_int_int ⟨.int i, H, I, ⟨_, rfl⟩, q⟩
  · obtain ⟨u, rfl, r1⟩ := vals1 r
    cases r1
    exact call_int_bool ⟨.int (if k then 1 else 0), H, I.tok _, ⟨_, rfl⟩, q⟩
end
end L2
namespace L2
open PySem PySem.Spec PyProof.Rows
structure ObjM (h : Heap) (x dx C : Addr) (mA : Str → Option Value) : Prop where
  obj : h.get? x = some (PySem.W.instObj C dx)
  ns : h.Ns1 dx mA
  ne : dx ≠ x
theorem lookIn_ns {h : Heap} {dx : Addr} {mA : Str → Option Value} (n : h.Ns1 dx mA) : ∃ od, h.get? dx = some od ∧ ∀ name, PySem.W.lookIn name od = some (mA name) := by
  obtain ⟨o, es, ep, ho, hd, hk, _, hm⟩ := n
  refine ⟨o, ho, fun name => ?_⟩
  have e := hm name
  unfold nsFind findBy at e
  rw [← Array.find?_toList] at e
  unfold PySem.W.lookIn
  rw [hd]
  dsimp only
  split
  · rename_i y q
    rw [q] at e
    exact congrArg some e
  · rename_i q
    rw [q] at e
    have a : es.toList.any (·.refKey) = false := by
      rw [List.any_eq_false]
      intro y hy
      obtain ⟨z, t, hkey⟩ := hk y (Array.mem_toList_iff.mp hy)
      simp [DictEntry.refKey, hkey]
    have a' : ¬ es.toList.any (·.refKey) = true := by rw [a]; exact Bool.false_ne_true
    rw [if_neg a']
    exact congrArg some e
theorem ObjM.look {h : Heap} {x dx C : Addr} {mA : Str → Option Value} (I : ObjM h x dx C mA) : ∃ od, PySem.W.InstAt h x (PySem.W.instObj C dx) C (some od) ∧ ∀ name, PySem.W.lookIn name od = some (mA name) :=
  let ⟨od, ho, hl⟩ := lookIn_ns I.ns
  ⟨od, ⟨I.obj, rfl, rfl, ho⟩, hl⟩
section
variable {prog : Program} {w : World} {A : Around} {E : Value → Shared → Prop} {s : Shared} {K : PySem.W.Frag} {x dx C f : Addr} {mA : Str → Option Value} {name : Str} {v : Value}
end
theorem RelO.some_of {v : V} {o : Option Value} (r : RelO (some v) o) : ∃ u, o = some u ∧ RelV v u := by
  cases o with
  | none => exact (show False from r).elim
  | some u => exact ⟨u, rfl, r⟩
section
variable {P : Program} {w : World} {H H' : Hp} {h h' : Heap} {a C dx : Addr} {fs fs' : List (Str × V)}
end
structure Cls (K : PySem.W.Frag) (C : Addr) : Prop where
  pg : PySem.W.plainGet K C Str.empty = true
  hd : PySem.W.hasDictIn K C = true
  po : PySem.W.plainOver K C = true
  sa : PySem.W.findIn K (.ref C) "__setattr__" = some (some (.builtin "object.__setattr__"))
theorem Cls.get {K : PySem.W.Frag} {C : Addr} (c : Cls K C) (f : Str) : PySem.W.plainGet K C f = true := c.pg
structure Con (K : PySem.W.Frag) (C : Addr) (f : Str) (v : V) (u : Value) : Prop where
  at_ : PySem.W.findIn K (.ref C) f = some (some u)
  rel : RelV v u
  get : PySem.W.specialIn K u "__get__" = some none
  cp : PySem.W.copiedNames.contains f = false
structure Meth (K : PySem.W.Frag) (C : Addr) (m : Str) (f : Addr) : Prop where
  at_ : PySem.W.findIn K (.ref C) m = some (some (.ref f))
  fn : PySem.W.isFn K (.ref f) = true
  kp : PySem.W.keepIn K (.ref f) = true
section
variable {X : Cx} {pins : List (Addr × Obj)} {σ : St} {H : Hp} {s : Shared} {a C dx : Addr} {fs : List (Str × V)} {f : Str} {v : V} {A : Around} {E : Value → Shared → Prop}
theorem Inv.made (I : Inv X pins σ H s) : Inv X pins σ (upd (upd H s.heap.objs.size (.own (s.heap.objs.size + 1))) (s.heap.objs.size + 1) (.ins C s.heap.objs.size []))
    { s with heap := (s.heap.push PySem.W.emptyDict).push (PySem.W.instObj C s.heap.objs.size) } := by
  have e1 : (s.heap.push PySem.W.emptyDict).get? s.heap.objs.size = some PySem.W.emptyDict := Heap.get?_push_size s.heap rfl
  have e2 : ((s.heap.push PySem.W.emptyDict).push (PySem.W.instObj C s.heap.objs.size)).get? (s.heap.objs.size + 1) = some (PySem.W.instObj C s.heap.objs.size) := by
    have := Heap.get?_push_size (s.heap.push PySem.W.emptyDict) (o := PySem.W.instObj C s.heap.objs.size) rfl
    rwa [Heap.size_push] at this
  have e3 : (s.heap.push PySem.W.emptyDict).Ns s.heap.objs.size (fun _ => none) := ⟨PySem.W.emptyDict, #[], _, e1, rfl, (fun e he => absurd he (by simp)), fun _ => rfl⟩
  have I1 := I.laid (a := s.heap.objs.size) (o := .own (s.heap.objs.size + 1)) (h' := s.heap.push PySem.W.emptyDict) (t' := s.toks) (fun b u q => Heap.get?_push_of_some _ q) (Nat.le_refl _) ⟨_, e1⟩
  refine I1.laid (a := s.heap.objs.size + 1) (o := .ins C s.heap.objs.size []) (t' := s.toks) (fun b u q => Heap.get?_push_of_some _ q) (Nat.le_of_eq (Heap.size_push _ _)) ?_
  have ne : s.heap.objs.size ≠ s.heap.objs.size + 1 := Nat.ne_of_lt (Nat.lt_succ_self _)
  refine ⟨by rw [upd_ne ne, upd_same], Nat.zero_le _, ne, e2, fun _ => none, (Heap.Ns1.of_empty e3).at fun o q => Heap.get?_push_of_some _ q, fun _ => True.intro, fun y hy => absurd rfl hy⟩
end
section
variable {X : Cx} {o e value : Expr} {f : Str} {pos pos' tpos : Pos} {ta tv : TE}
end
section
variable {X : Cx} {pins : List (Addr × Obj)} {σ : St} {H : Hp} {s : Shared} {A : Around} {E : Value → Shared → Prop} {Q : Value → Shared → Prop} {c : Value} {b : Bool}
inductive TyOf (K : PySem.W.Frag) (H : Hp) : V → Value → Prop where
  | non : TyOf K H .non (.type "NoneType")
  | bl (x : Bool) : TyOf K H (.bl x) (.type "bool")
  | int (i : Int) : TyOf K H (.int i) (.type "int")
  | str (x : Str) : TyOf K H (.str x) (.type "str")
  | flt (x : UInt64) : TyOf K H (.flt x) (.type "float")
  | lst {a : Addr} {xs : List V} (e : H a = some (.lst xs)) : TyOf K H (.ref a) (.type "list")
  | frz {a : Addr} {o : Obj} {xs : List V} (e : H a = some (.frz o (.lst xs))) : TyOf K H (.ref a) (.type "list")
  | tup {a : Addr} {xs : List V} (e : H a = some (.tup xs)) : TyOf K H (.ref a) (.type "tuple")
  | dK {a : Addr} {kvs : List (Key × V)} (e : H a = some (.dK kvs)) : TyOf K H (.ref a) (.type "dict")
  | dT {a : Addr} {kvs : List (List Key × V)} (e : H a = some (.dT kvs)) : TyOf K H (.ref a) (.type "dict")
  | ins {a C dx : Addr} {fs : List (Str × V)} (e : H a = some (.ins C dx fs)) (cl : Cls K C) (ha : PySem.W.findIn K (.ref C) "__class__" = some (some (.builtin "object.__class__")))
      (hn : PySem.W.specialIn K (.builtin "object.__class__") "__get__" = some (some (.builtin "getset_descriptor.__get__"))) (htk : PySem.W.takesIn K (.builtin "object.__class__") = some true)
      (hm : PySem.W.mroIn K C (.type "object") = some true) : TyOf K H (.ref a) (.ref C)
end
end L2
namespace L2
open PySem PySem.Spec PyProof.Rows
structure Room (k : Nat) (A : Around) : Prop where
  hd : A.handled = none
  dp : A.depth + 3 * k + 5 < recursionLimit
  un : A.units + 16 * k + 200 < cLine
theorem Room.mono {j k : Nat} {A : Around} (r : Room k A) (h : j ≤ k) : Room j A := ⟨r.hd, by have := r.dp; omega, by have := r.un; omega⟩
theorem Room.deeper {k : Nat} {A : Around} (r : Room (k + 1) A) (env : Env) : Room k (A.deeper env) :=
  ⟨r.hd, by have := r.dp; show A.depth + 1 + 3 * k + 5 < _; omega, by have := r.un; show A.units + 3 + 16 * k + 200 < _; omega⟩
theorem Room.in1 {k : Nat} {A : Around} (r : Room (k + 1) A) : Room k A.in1 :=
  ⟨r.hd, by have := r.dp; show A.depth + 3 * k + 5 < _; omega, by have := r.un; show A.units + 1 + 16 * k + 200 < _; omega⟩
theorem Room.depth {k : Nat} {A : Around} (r : Room k A) : A.depth < recursionLimit := by have := r.dp; omega
theorem Room.units {k : Nat} {A : Around} (r : Room k A) : A.units + 64 < cLine := by have := r.un; omega
theorem Room.units0 {k : Nat} {A : Around} (r : Room k A) : A.units < cLine := by have := r.un; omega
def tNil : TA := fun _ H Q => Q [] H
def tCons (ta : TE) (tr : TA) : TA := fun σ H Q => ta σ H fun x H1 => tr σ H1 fun xs H2 => Q (x :: xs) H2
section
variable {X : Cx} {e : Expr} {es : List Expr} {te : TE} {t : TA} {pos : Pos}
theorem pa_nil : PA X [] tNil := fun _ _ _ _ H Q I h => Calls.spliced_nil ⟨[], H, I, .nil, h⟩
theorem pa_cons (ha : PE X e te) (hr : PA X es t) (hs : starEach (e :: es) X.env = (false, eval e X.env) :: starEach es X.env := by rfl) : PA X (e :: es) (tCons te t) := by
  intro pos pins s σ H Q I h
  rw [hs]
  show wpAny _ _ (spliced ((false, eval e X.env) :: backTo pos (starEach es X.env))) _ _ s
  refine Calls.spliced_cons (thn (ha pins s σ H _ I h) fun u s1 ⟨x, H1, I1, r1, q1⟩ => ?_)
  exact thn (hr pos pins s1 σ H1 _ I1 q1) fun us s2 ⟨xs, H2, I2, r2, q2⟩ => ⟨x :: xs, H2, I2, .cons r1 r2, q2⟩
def tTup (t : TA) : TE := fun σ H Q => t σ H fun xs H1 => xs.length ≤ sizeLine ∧ ∀ p, H1 p = none → Q (.ref p) (upd H1 p (.tup xs))
def tLst (t : TA) : TE := fun σ H Q => t σ H fun xs H1 => xs.length ≤ sizeLine ∧ ∀ p, H1 p = none → Q (.ref p) (upd H1 p (.lst xs))
theorem pe_tup {x1} (h : PA X es t) : PE X (.Tuple es x1 pos) (tTup t) := by
  intro pins s σ H Q I hq
  refine wpAny_Tuple_spliced (thn (h pos pins s σ H _ I hq) fun us s1 ⟨xs, H1, I1, r, z, q⟩ => ⟨by rw [← r.length]; exact z, ?_⟩)
  have hf : H1 s1.heap.objs.size = none := I1.hok.fresh (Nat.le_refl _)
  refine ⟨.ref s1.heap.objs.size, upd H1 s1.heap.objs.size (.tup xs), I1.laid (t' := s1.toks) (fun b u e => Heap.get?_push_of_some _ e) (Nat.le_refl _) ?_, rfl, q _ hf⟩
  exact ⟨z, us, r, ⟨_, Heap.get?_push_size _ rfl, rfl, _, rfl⟩⟩
theorem pe_lst (h : PA X es t) : PE X (.List es pos) (tLst t) := by
  intro pins s σ H Q I hq
  refine wpAny_List_spliced (thn (h pos pins s σ H _ I hq) fun us s1 ⟨xs, H1, I1, r, z, q⟩ => ⟨by rw [← r.length]; exact z, ?_⟩)
  have hf : H1 s1.heap.objs.size = none := I1.hok.fresh (Nat.le_refl _)
  refine ⟨.ref s1.heap.objs.size, upd H1 s1.heap.objs.size (.lst xs), I1.laid (t' := s1.toks) (fun b u e => Heap.get?_push_of_some _ e) (Nat.le_refl _) ?_, rfl, q _ hf⟩
  exact ⟨z, us, 0, r, Heap.get?_push_size _ rfl⟩
end
abbrev Sp := List V → Hp → VK → XK → Prop
abbrev CXT := List Env → Hp → Shared → XK → Value → Shared → Prop
structure Env0 (P : Program) (w : World) (K : PySem.W.Frag) (mg : Str → Option Value) (base : Heap) (A : Around) (outer : List Env) (s : Shared) (H : Hp) : Prop where
  frames : A.frames = some outer
  mod : Mod K mg base
  bs : ∀ b o, base.get? b = some o → s.heap.get? b = some o ∧ H b = none
  bsz : base.objs.size ≤ s.heap.objs.size
  funs : s.heap.FunFrames base outer
  frf : ∀ b ∈ frs outer, H b = none
  hok : HOk P w H s.heap
  bare : AllBare s.gens
def CE (outer : List Env) (P : Program) (w : World) (H : Hp) (s : Shared) (Q : VK) (u : Value) (s' : Shared) : Prop :=
  ∃ v H', s'.os = s.os ∧ AllBare s'.gens ∧ Un (frs outer) [] H H' s.heap s'.heap ∧ HOk P w H' s'.heap ∧ RelV v u ∧ Q v H'
def CR (CX : CXT) (outer : List Env) (P : Program) (w : World) (H : Hp) (s : Shared) (Q : VK) (E : XK) (r : Result) (s' : Shared) : Prop :=
  match r with
  | .ok (.ret u) => CE outer P w H s Q u s'
  | .ok _ => False
  | .error e => CX outer H s E e s'
structure FnOk (P : Program) (w : World) (K : PySem.W.Frag) (mg : Str → Option Value) (base : Heap) (CX : CXT) (k : Nat) (f : Addr) (fd : FuncData) (ps : List Str) (sp : Sp) : Prop where
  len : ∀ vs H Q E, sp vs H Q E → vs.length = ps.length
  run : ∀ (A : Around) (outer : List Env) (s : Shared) (H : Hp) (args : Args) (us : List Value) (vs : List V) (Q : VK) (E : XK), Room k A → Env0 P w K mg base A outer s H → BindsTo s fd args (ps.zip us) → Vals vs us → sp vs H Q E →
    codeAny (model P w) A (.call (.ref f) args) (CR CX outer P w H s Q E) s
theorem FnOk.mono {P : Program} {w : World} {K : PySem.W.Frag} {mg : Str → Option Value} {base : Heap} {CX : CXT} {j k : Nat} {f : Addr} {fd : FuncData} {ps : List Str} {sp : Sp} (F : FnOk P w K mg base CX j f fd ps sp) (h : j ≤ k) :
    FnOk P w K mg base CX k f fd ps sp := ⟨F.len, fun A outer s H args us vs Q E hr => F.run A outer s H args us vs Q E (hr.mono h)⟩
theorem FnOk.imp {P : Program} {w : World} {K : PySem.W.Frag} {mg : Str → Option Value} {base : Heap} {CX : CXT} {k : Nat} {f : Addr} {fd : FuncData} {ps : List Str} {sp sp' : Sp} (F : FnOk P w K mg base CX k f fd ps sp)
    (h : ∀ vs H Q E, sp' vs H Q E → sp vs H Q E) : FnOk P w K mg base CX k f fd ps sp' :=
  ⟨fun vs H Q E q => F.len vs H Q E (h _ _ _ _ q), fun A outer s H args us vs Q E hr he hb hv hs => F.run A outer s H args us vs Q E hr he hb hv (h _ _ _ _ hs)⟩
theorem Env0.in1 {P : Program} {w : World} {K : PySem.W.Frag} {mg : Str → Option Value} {base : Heap} {A : Around} {outer : List Env} {s : Shared} {H : Hp} (e : Env0 P w K mg base A outer s H) :
    Env0 P w K mg base A.in1 outer s H := ⟨e.frames, e.mod, e.bs, e.bsz, e.funs, e.frf, e.hok, e.bare⟩
section
variable {X : Cx} {pins : List (Addr × Obj)} {σ : St} {H : Hp} {s s' : Shared}
theorem Inv.env0 (I : Inv X pins σ H s) : Env0 X.prog X.w X.K X.mg X.base X.A X.stack s H :=
  ⟨I.ok.frames, I.ok.mod, I.bs, Nat.le_trans I.ok.bsz I.sz, I.stack, I.stkFree, I.hok, I.bare⟩
theorem Inv.after {Q : VK} {u : Value} (I : Inv X pins σ H s) (h : CE X.stack X.prog X.w H s Q u s') : EP X pins σ Q u s' := by
  obtain ⟨v, H', os, bare, un, hok, r, q⟩ := h
  obtain ⟨hh, g, d, t, os'⟩ := s'
  obtain rfl : os' = s.os := os
  exact ⟨v, H', I.call (h' := hh) (g' := g) (d' := d) (t' := t) (ch := []) un hok bare (fun b z => absurd z (by simp)), r, q⟩
end
def tCall (sp : Sp) (dvs : List V) (E : XK) (t : TA) : TE := fun σ H Q => t σ H fun vs H1 => sp (vs ++ dvs) H1 Q E
def Binds (K : PySem.W.Frag) (fd : FuncData) (ps : List Str) (ds : List Value) : Prop :=
  ∀ (s : Shared) (us : List Value), K.In s.heap → (us ++ ds).length = ps.length → BindsTo s fd ⟨us, []⟩ (ps.zip (us ++ ds))
theorem Binds.all {K : PySem.W.Frag} {fd : FuncData} {ps : List Str} (h : ∀ us : List Value, us.length = ps.length → bindArgs fd ⟨us, []⟩ = pure (ps.zip us)) : Binds K fd ps [] := fun s us _ hl => by
  rw [List.append_nil] at hl ⊢
  exact .of_eq (h us hl)
def Passes (CX : CXT) (X : Cx) (E : XK) : Prop := ∀ (pins : List (Addr × Obj)) (σ : St) (H : Hp) (s : Shared) (e : Value) (s' : Shared), Inv X pins σ H s → CX X.stack H s E e s' → X.xe e s'
section
variable {X : Cx} {CX : CXT} {k : Nat} {f C : Addr} {fd : FuncData} {ps : List Str} {sp : Sp} {dvs : List V} {ds : List Value} {E : XK} {x m : Str} {p pos apos : Pos} {e o : Expr} {es : List Expr} {ta : TE} {t : TA}
theorem run_fn {pins : List (Addr × Obj)} {σ : St} {H : Hp} {s : Shared} {Q : VK} {us : List Value} {vs : List V} (F : FnOk X.prog X.w X.K X.mg X.base CX k f fd ps sp) (hr : Room k X.A) (hb : Binds X.K fd ps ds) (hd : Vals dvs ds) (hx : Passes CX X E)
    (I : Inv X pins σ H s) (r : Vals vs us) (h : sp (vs ++ dvs) H Q E) : wpAny (model X.prog X.w) X.A (call (.ref f) us) (EP X pins σ Q) X.xe s := by
  have r2 : Vals (vs ++ dvs) (us ++ ds) := r.append hd
  have hl : (us ++ ds).length = ps.length := by rw [← r2.length]; exact F.len _ _ _ _ h
  refine wpAny_call (codeAny_mono (F.run X.A X.stack s H ⟨us, []⟩ (us ++ ds) (vs ++ dvs) Q E hr I.env0 (hb s us I.kIn hl) r2 h) fun r s' hq => ?_)
  cases r with
  | error e => exact hx pins σ H s e s' I hq
  | ok fl =>
    cases fl with
    | ret u => exact I.after hq
    | next => exact False.elim hq
    | brk => exact False.elim hq
    | cont => exact False.elim hq
theorem pe_call (F : FnOk X.prog X.w X.K X.mg X.base CX k f fd ps sp) (hr : Room k X.A) (hg : Gl X x) (hm : X.mg x = some (.ref f)) (hk : PySem.W.keepIn X.K (.ref f) = true) (hb : Binds X.K fd ps ds) (hd : Vals dvs ds) (hx : Passes CX X E)
    (ha : PA X (e :: es) t) (hdb : (x == ("__debug__" : Str)) = false := by decide) (he : starEach (e :: es) X.env = (false, eval e X.env) :: starEach es X.env := by rfl) (hpl : (backTo pos (starEach es X.env)).any (·.1) = false := by rfl) :
    PE X (.Call (.Name x p) (e :: es) [] pos) (tCall sp dvs E t) := by
  intro pins s σ H Q I h
  refine wpAny_Call_Name_kw (ld_glob I hg hm ?_ hdb)
  refine PySem.W.callWith_K (h₀ := X.base) I.ok.mod.kin hk (thn (ha pos pins s σ H _ I h) fun us s1 ⟨vs, H1, I1, r, q⟩ => ⟨I1.kIn, ?_⟩) he hpl
  exact run_fn F hr hb hd hx I1 r q
structure Mk (K : PySem.W.Frag) (C f : Addr) : Prop where
  makes : PySem.W.makesIn K C = true
  init : PySem.W.findIn K (.ref C) "__init__" = some (some (.ref f))
  fn : PySem.W.isFn K (.ref f) = true
  kp : PySem.W.keepIn K (.ref C) = true
end
section
variable {X : Cx} {CX : CXT} {k : Nat} {f C : Addr} {fd : FuncData} {ps ks : List Str} {sp : Sp} {E : XK} {x m : Str} {p pos apos kpos : Pos} {e o : Expr} {es : List Expr} {kws : List Keyword} {te ta : TE} {t tk : TA} {nm : Option Str}
structure KBinds (K : PySem.W.Frag) (fd : FuncData) (ps ks : List Str) (g : List Value → List Value → List Value) (gV : List V → List V → List V) : Prop where
  to : ∀ (s : Shared) (us ws : List Value), K.In s.heap → (g us ws).length = ps.length → BindsTo s fd ⟨us, ks.zip ws⟩ (ps.zip (g us ws))
  rel : ∀ {vs : List V} {us : List Value} {zs : List V} {ws : List Value}, Vals vs us → Vals zs ws → Vals (gV vs zs) (g us ws)
variable {g : List Value → List Value → List Value} {gV : List V → List V → List V}
end
structure FnScope (N P : List Str) (sc : Scope) : Prop where
  kind : sc.kind = .function
  co : sc.isCoroutine = false
  gen : sc.isGenerator = false
  nd : N.Nodup
  pre : N.take P.length = P
  par : ∀ x ∈ P, sc.names.lookup x = some .local ∨ sc.names.lookup x = some .cell
  nofree : ∀ y ∈ sc.names, y.2 ≠ .free
theorem bindL_out {kindOf : Str → Option NameKind} {x : Str} : ∀ {binds : List (Str × Value)} {m : Str → Option Value}, (∀ v, (x, v) ∉ binds) → bindL kindOf binds m x = m x
  | [], _, _ => rfl
  | (n, v) :: r, m, h => by
    unfold bindL
    rw [bindL_out fun w hw => h w (List.mem_cons_of_mem _ hw)]
    split
    · have : x ≠ n := by rintro rfl; exact h v List.mem_cons_self
      simp [this]
    · rfl
theorem bindC_out {kindOf : Str → Option NameKind} {x : Str} : ∀ {binds : List (Str × Value)} {m : Str → Option Value}, (∀ v, (x, v) ∉ binds) → bindC kindOf binds m x = m x
  | [], _, _ => rfl
  | (n, v) :: r, m, h => by
    unfold bindC
    rw [bindC_out fun w hw => h w (List.mem_cons_of_mem _ hw)]
    split
    · rfl
    · have : x ≠ n := by rintro rfl; exact h v List.mem_cons_self
      simp [this]
theorem bindL_get {kindOf : Str → Option NameKind} {x : Str} {v : Value} : ∀ {P : List Str} {vs : List Value} {i : Nat} {m : Str → Option Value}, P.Nodup → P[i]? = some x → vs[i]? = some v → kindOf x = some .local →
    bindL kindOf (P.zip vs) m x = some v
  | [], _, _, _, _, h, _, _ => by simp at h
  | _ :: _, [], _, _, _, _, h, _ => by simp at h
  | p :: P, w :: vs, 0, m, nd, h1, h2, hk => by
    simp at h1 h2; subst h1; subst h2
    show bindL kindOf ((p, w) :: P.zip vs) m p = _
    unfold bindL
    rw [bindL_out fun v hv => (List.nodup_cons.mp nd).1 (List.of_mem_zip hv).1, if_pos hk]
    simp
  | p :: P, w :: vs, i + 1, m, nd, h1, h2, hk => by
    show bindL kindOf ((p, w) :: P.zip vs) m x = _
    unfold bindL
    exact bindL_get (i := i) (List.nodup_cons.mp nd).2 (by simpa using h1) (by simpa using h2) hk
theorem bindC_get {kindOf : Str → Option NameKind} {x : Str} {v : Value} : ∀ {P : List Str} {vs : List Value} {i : Nat} {m : Str → Option Value}, P.Nodup → P[i]? = some x → vs[i]? = some v → kindOf x ≠ some .local →
    bindC kindOf (P.zip vs) m x = some v
  | [], _, _, _, _, h, _, _ => by simp at h
  | _ :: _, [], _, _, _, _, h, _ => by simp at h
  | p :: P, w :: vs, 0, m, nd, h1, h2, hk => by
    simp at h1 h2; subst h1; subst h2
    show bindC kindOf ((p, w) :: P.zip vs) m p = _
    unfold bindC
    rw [bindC_out fun v hv => (List.nodup_cons.mp nd).1 (List.of_mem_zip hv).1, if_neg hk]
    simp
  | p :: P, w :: vs, i + 1, m, nd, h1, h2, hk => by
    show bindC kindOf ((p, w) :: P.zip vs) m x = _
    unfold bindC
    exact bindC_get (i := i) (List.nodup_cons.mp nd).2 (by simpa using h1) (by simpa using h2) hk
def start (N : List Str) (vs : List V) : St := vs.map some ++ List.replicate (N.length - vs.length) none
def cxOf (CX : CXT) (P : Program) (w : World) (K : PySem.W.Frag) (mg : Str → Option Value) (base : Heap) (N : List Str) (qual : Str) (scope : Scope) (f : Addr) (cd : Value) (A : Around) (outer : List Env) (s : Shared) (H : Hp) (E : XK) : Cx where
  prog := P
  w := w
  K := K
  mg := mg
  base := base
  A := A.deeper (envOfC qual scope s.heap.objs.size f cd)
  N := N
  s_0 := s
  H_0 := H
  env := envOfC qual scope s.heap.objs.size f cd
  outer := outer
  stack := envOfC qual scope s.heap.objs.size f cd :: outer
  ex := []
  calm := true
  fn := fun _ => true
  pn := []
  xe := fun e s' => wpAny (model P w) (A.deeper (envOfC qual scope s.heap.objs.size f cd)) (leaving (envOfC qual scope s.heap.objs.size f cd) e) (fun _ s'' => CX outer H s E e s'') (fun e' s'' => CX outer H s E e' s'') s'
theorem cell_has {sc : Scope} {n : Nat} {x : Str} (h : sc.names.lookup x = some .cell) : ∃ c, (cellsFrom n sc.names []).lookup x = some c := by
  have q := PySem.W.cellsFrom_some sc.names n [] (.inl h)
  exact Option.isSome_iff_exists.mp q
theorem inv_start {CX : CXT} {P : Program} {w : World} {K : PySem.W.Frag} {mg : Str → Option Value} {base : Heap} {N ps : List Str} {qual : Str} {scope : Scope} {f : Addr} {cd : Value} {A : Around} {outer : List Env} {s s1 : Shared} {H : Hp} {E : XK} {us : List Value} {vs : List V}
    (S : FnScope N ps scope) (hd : A.handled = none) (e0 : Env0 P w K mg base A outer s H) (hl : vs.length = ps.length) (r : Vals vs us)
    (x : InCallC s s.heap.objs.size (bindL (envOfC qual scope s.heap.objs.size f cd).kindOf (ps.zip us) fun _ => none) (cellsFrom (s.heap.objs.size + 1) scope.names []) (bindC (envOfC qual scope s.heap.objs.size f cd).kindOf (ps.zip us) fun _ => none) s1) :
    Inv (cxOf CX P w K mg base N qual scope f cd A outer s H E) [] (start N vs) H s1 := by
  have hpl : ps.length ≤ N.length := by have := congrArg List.length S.pre; rw [List.length_take] at this; omega
  obtain ⟨h1, tk, rfl, hk⟩ := x.done
  have noA : ∀ b : Addr, b ∉ (cxOf CX P w K mg base N qual scope f cd A outer s H E).ex := fun b z => absurd (show b ∈ ([] : List Addr) from z) (by simp)
  refine ⟨⟨e0.mod, S.kind, rfl, rfl, Nat.le_refl _, fun y z c h1 h2 => ?_, fun y hy => ?_, fun y c _ h => ?_, fun _ => hd, Around.frames_deeper e0.frames, .inr ⟨rfl, rfl⟩, fun b z => absurd z (noA b), e0.bs, e0.bsz, fun b _ _ => noA b, fun b z => absurd z (noA b), e0.funs, e0.frf⟩,
    rfl, e0.bare, Un.kept hk, ⟨_, x.toInCall.ns, fun i y v h1 h2 h3 => ?_⟩, fun y c h => ⟨_, x.cell y c h⟩, e0.hok.fresh (Nat.le_refl _), fun y c h => ?_, fun p hp => absurd (show p ∈ ([] : List (Addr × Obj)) from hp) (by simp), e0.hok.kept hk, ?_⟩
  · exact name_of_addr x.apart (PySem.mem_of_lookup h1) (PySem.mem_of_lookup h2)
  · have hy : scope.names.lookup y = some .cell ∨ scope.names.lookup y = some .free := hy
    rcases hy with hy | hy
    · exact cell_has hy
    · exact absurd rfl (S.nofree _ (PySem.mem_of_lookup hy))
  · exact Nat.le_of_lt (x.above y c (PySem.mem_of_lookup h))
  · have hi : i < vs.length := by
      unfold start at h2
      by_cases hi : i < vs.length
      · exact hi
      · rw [List.getElem?_append_right (by simpa using hi)] at h2
        rw [List.getElem?_replicate] at h2
        split at h2 <;> cases h2
    have ha : vs[i]? = some v := by
      unfold start at h2
      rw [List.getElem?_append_left (by simpa using hi), List.getElem?_map] at h2
      cases e : vs[i]? with
      | none => rw [e] at h2; cases h2
      | some a => rw [e] at h2; cases h2; rfl
    obtain ⟨u, hu, rv⟩ := r.get ha
    have hp : ps[i]? = some y := by
      rw [← S.pre, List.getElem?_take_of_lt (by omega)]; exact h1
    have ndP : ps.Nodup := by rw [← S.pre]; exact S.nd.sublist (List.take_sublist _ _)
    refine ⟨u, rv, ?_⟩
    rcases S.par y (List.mem_of_getElem? hp) with k | k
    · exact .inl ⟨k, bindL_get ndP hp hu k⟩
    · obtain ⟨c, e⟩ := cell_has (n := s.heap.objs.size + 1) k
      refine .inr ⟨.inl k, c, e, ?_⟩
      have q := x.cell y c e
      rw [bindC_get ndP hp hu (by show scope.names.lookup y ≠ _; rw [k]; decide)] at q
      exact q
  · exact e0.hok.fresh (Nat.le_of_lt (x.above y c (PySem.mem_of_lookup h)))
  · unfold start
    show _ = N.length
    rw [List.length_append, List.length_map, List.length_replicate]
    omega
theorem fn_of {CX : CXT} {P : Program} {w : World} {K : PySem.W.Frag} {mg : Str → Option Value} {base : Heap} {k : Nat} {f : Addr} {name qual : Str} {params : Arguments} {body : List Stmt} {scope : Scope} {dV kV doc pm cdv ct oc : Value} {an od : Option Addr}
    {osl : Array (Option Value)} {N ps : List Str} {sp : Sp} (lk : K.lookup f = some ⟨oc, od, .func (PySem.W.fnOf name qual params body scope dV kV doc pm an cdv ct), osl⟩) (hcd : PySem.W.codeIn K cdv qual = true) (S : FnScope N ps scope)
    (len : ∀ vs H Q E, sp vs H Q E → vs.length = ps.length)
    (hbody : ∀ (A : Around) (outer : List Env) (s : Shared) (H : Hp) (vs : List V) (Q : VK) (E : XK), Room k (A.deeper (envOfC qual scope s.heap.objs.size f cdv)) → sp vs H Q E →
      ∃ t, PSs (cxOf CX P w K mg base N qual scope f cdv A outer s H E) body t ∧ t { nx := fun _ H' => Q .non H', rt := Q } (start N vs) H) :
    FnOk P w K mg base CX (k + 1) f (PySem.W.fnOf name qual params body scope dV kV doc pm an cdv ct) ps sp := by
  refine ⟨len, fun A outer s H args us vs Q E hr e0 hb r hsp => ?_⟩
  have hl := len _ _ _ _ hsp
  have KX : K.In s.heap := e0.mod.kin.keeps fun b o e => (e0.bs b o e).1
  have lim : s.heap.NoLimit := e0.mod.nolimit.keeps fun b o e => (e0.bs b o e).1
  have hkind : ∀ y ∈ ps.zip us, scope.names.lookup y.1 = some .local ∨ (scope.names.lookup y.1 = some .cell ∧ ((cellsFrom (s.heap.objs.size + 1) scope.names []).lookup y.1).isSome = true) := fun ⟨n, v⟩ hy => by
    rcases S.par n (List.of_mem_zip hy).1 with q | q
    · exact .inl q
    · exact .inr ⟨q, PySem.W.cellsFrom_some _ _ _ (.inl q)⟩
  refine codeAny_call_function hr.depth (KX _ _ lk) rfl S.co S.gen rfl (PySem.W.codeRec_of KX hcd) (hb _ _ _ _ ?_)
  refine wpAny_newFunctionEnv_cells S.kind hkind fun env he s1 x => ?_
  subst he
  refine ⟨lim.keeps x.toInCall.keep, codeAny_func ?_⟩
  obtain ⟨t, ht, hq⟩ := hbody A outer s H vs Q E (hr.deeper _) hsp
  have I : Inv (cxOf CX P w K mg base N qual scope f cdv A outer s H E) [] (start N vs) H s1 := inv_start S hr.hd e0 hl r x
  refine wpAny_mono (ht [] s1 (start N vs) H _ I hq) (fun fl s' hs => ?_) fun e s' hs => hs
  have fin : ∀ {σ' : St} {H' : Hp} {v : V} {u : Value}, Inv (cxOf CX P w K mg base N qual scope f cdv A outer s H E) [] σ' H' s' → RelV v u → Q v H' → CE outer P w H s Q u s' :=
    fun {σ' H' v u} J rv q => ⟨v, H', J.os, J.bare, J.base, J.hok, rv, q⟩
  cases fl with
  | ret u =>
    obtain ⟨v, σ', H', J, rv, q⟩ := hs
    exact fin J rv q
  | next =>
    obtain ⟨σ', H', J, q⟩ := hs
    exact fin (v := V.non) (u := Value.none) J rfl q
  | brk =>
    obtain ⟨_, _, _, q⟩ := hs
    exact False.elim q
  | cont =>
    obtain ⟨_, _, _, q⟩ := hs
    exact False.elim q
end L2
namespace L2
open PySem PySem.Spec PyProof.Rows
section
variable {X : Cx} {x : Str} {p pos : Pos} {e : Expr} {es : List Expr} {t : TA} {id T : String} {r : List V → Hp → VK → Prop}
def tCB (r : List V → Hp → VK → Prop) (t : TA) : TE := fun σ H Q => t σ H fun vs H1 => r vs H1 Q
theorem pe_callB (hc : CallR X (.builtin id) r) (hg : Gl X x) (hm : X.mg x = none) (hv : bootBuiltins x = some (.builtin id)) (ha : PA X (e :: es) t) (hn : x ≠ "__name__" := by decide) (hdb : (x == ("__debug__" : Str)) = false := by decide)
    (he : starEach (e :: es) X.env = (false, eval e X.env) :: starEach es X.env := by rfl) (hpl : (backTo pos (starEach es X.env)).any (·.1) = false := by rfl) : PE X (.Call (.Name x p) (e :: es) [] pos) (tCB r t) := by
  intro pins s σ H Q I h
  refine wpAny_Call_Name_kw (ld_blt I hg hm hv ?_ hn hdb)
  exact PyProof.Rows.callWith_builtin1 (thn (ha pos pins s σ H _ I h) fun us s1 ⟨vs, H1, I1, r1, q1⟩ => hc pins s1 σ H1 vs us Q I1 r1 q1) he hpl
theorem pe_callTy (hc : CallR X (.type T) r) (hg : Gl X x) (hm : X.mg x = none) (hv : bootBuiltins x = some (.type T)) (ha : PA X (e :: es) t) (hn : x ≠ "__name__" := by decide) (hdb : (x == ("__debug__" : Str)) = false := by decide)
    (he : starEach (e :: es) X.env = (false, eval e X.env) :: starEach es X.env := by rfl) (hpl : (backTo pos (starEach es X.env)).any (·.1) = false := by rfl) : PE X (.Call (.Name x p) (e :: es) [] pos) (tCB r t) := by
  intro pins s σ H Q I h
  refine wpAny_Call_Name_kw (ld_blt I hg hm hv ?_ hn hdb)
  exact PyProof.Rows.callWith_type1 (thn (ha pos pins s σ H _ I h) fun us s1 ⟨vs, H1, I1, r1, q1⟩ => hc pins s1 σ H1 vs us Q I1 r1 q1) he hpl
end
end L2
namespace HT
open PySem PyProof.Rows
def lexLt : List Int → List Int → Bool
  | [], [] => false
  | [], _ :: _ => true
  | _ :: _, [] => false
  | x :: xs, y :: ys => if x = y then lexLt xs ys else decide (x < y)
theorem lexLt_cons (x y : Int) (xs ys : List Int) : lexLt (x :: xs) (y :: ys) = if x = y then lexLt xs ys else decide (x < y) := rfl
theorem lexLt_nil_nil : lexLt [] [] = false := rfl
theorem lexLt_nil_cons (y : Int) (ys : List Int) : lexLt [] (y :: ys) = true := rfl
theorem lexLt_cons_nil (x : Int) (xs : List Int) : lexLt (x :: xs) [] = false := rfl
theorem eqAt_int (A : Around) (s : Shared) (a : Int) (t : Tok) (c : Int) (u : Tok) : ∃ e, SeqAt.EqAt A s (.int a t) (.int c u) e ∧ (e = true ↔ a = c) :=
  ⟨(a == c), SeqAt.EqAt.int_int a t c u, by simp⟩
theorem rcLt_int (A : Around) (s : Shared) (a : Int) (t : Tok) (c : Int) (u : Tok) (prog : Program) (w : World) (E : Value → Shared → Prop) (Q : Value → Shared → Prop) (h : Q (.bool (decide (a < c))) s) :
    wpAny (model prog w) A (richCompare .Lt (.int a t) (.int c u)) Q E s :=
  (PyProof.Rows.lt_int h : wpAny (model prog w) A (compareOp .Lt (.int a t) (.int c u)) Q E s)
section
open PySem.SeqAt
open PySem.AutoSeq1 (wpAny_loadPart')
open PySem.MeetsSeq PySem.MeetsSeq2 PySem.MeetsSeq3
theorem tuple_lt_ints (l b : Addr) (items items2 : Array Value) (n n2 : Nat) (dd dd2 : Option Addr) (sl sl2 : Array (Option Value)) (ns ms : List Int) (hi : IntsAre items.toList ns) (hj : IntsAre items2.toList ms) :
    Meets (Builtin.«tuple.__lt__» ⟨[.ref l, .ref b], []⟩)
      (fun _ R s => s.heap.get? l = some { cls := .type "tuple", dict := dd, data := .seq items n, slots := sl } ∧ s.heap.get? b = some { cls := .type "tuple", dict := dd2, data := .seq items2 n2, slots := sl2 } ∧
        R (.ok (.ret (.bool (lexLt ns ms)))) s) :=
  .of_wp fun prog w A R s h => by
    obtain ⟨hp, g, d, tk, os⟩ := s; obtain ⟨hl, hb, h⟩ := h
    have f2 := AutoSeq1.sub_tuple_tuple
    have z1 : items.size = ns.length := by rw [← hi.length]; simp
    have z2 : items2.size = ms.length := by rw [← hj.length]; simp
    wp_walk using wpAny_loadPart' hl, wpAny_loadPart' hb, wpAny_forIn_list _ (fun rest b s' => b.1 = none ∧ s' = ⟨hp, g, d, tk, os⟩ ∧ ∃ (vs ws : List Value) (ns' ms' : List Int), rest = vs.zip ws ∧
      IntsAre vs ns' ∧ IntsAre ws ms' ∧ ns'.length + items2.size = ms'.length + items.size ∧ R (.ok (.ret (.bool (lexLt ns' ms')))) ⟨hp, g, d, tk, os⟩) _
    case turn =>
      rintro ⟨y, x⟩ rest b s' ⟨hb', rfl, vs, ws, ns', ms', hz, hvi, hwi, hlen, hR⟩
      cases hvi with
      | nil => rw [List.zip_nil_left] at hz; cases hz
      | cons a t hvi' =>
        cases hwi with
        | nil => rw [List.zip_nil_right] at hz; cases hz
        | cons c u hwi' =>
          rw [List.zip_cons_cons] at hz
          injection hz with hyx hrest
          injection hyx with hy hx
          subst hy hx
          rw [lexLt_cons] at hR
          simp only [List.length_cons] at hlen
          obtain ⟨e, he, hiff⟩ := eqAt_int A.in1 ⟨hp, g, d, tk, os⟩ a t c u
          refine wpAny_bind (he prog w _ _ ?_)
          cases e with
          | true =>
            rw [if_pos (hiff.mp rfl)] at hR
            wp_walk
            exact ⟨rfl, rfl, _, _, _, _, hrest, hvi', hwi', by omega, hR⟩
          | false =>
            rw [if_neg (fun q => absurd (hiff.mpr q) Bool.false_ne_true)] at hR
            have hri := rcLt_int A.in1 ⟨hp, g, d, tk, os⟩ a t c u prog w
            wp_walk using hri
            exact ⟨_, rfl, by simpa using hR⟩
    case fin =>
      rintro ⟨b1, b2⟩ s' ⟨hb', rfl, vs, ws, ns', ms', hz, hvi, hwi, hlen, hR⟩
      simp only at hb'
      subst hb'
      have hv : lexLt ns' ms' = decide (items.size < items2.size) := by
        cases hvi with
        | nil =>
          cases hwi with
          | nil =>
            simp only [List.length_nil] at hlen
            rw [lexLt_nil_nil]
            exact (decide_eq_false (by omega)).symm
          | cons c u hw =>
            simp only [List.length_nil, List.length_cons] at hlen
            rw [lexLt_nil_cons]
            exact (decide_eq_true (by omega)).symm
        | cons a t hv =>
          cases hwi with
          | nil =>
            simp only [List.length_nil, List.length_cons] at hlen
            rw [lexLt_cons_nil]
            exact (decide_eq_false (by omega)).symm
          | cons c u hw =>
            rw [List.zip_cons_cons] at hz
            cases hz
      rw [hv] at hR
      wp_walk
      exact ⟨_, rfl, by simpa [Builtin.Tuple.tupleCompareSizes] using hR⟩
    case h =>
      exact ⟨rfl, rfl, items.toList, items2.toList, ns, ms, rfl, hi, hj, by omega, h⟩
end
section
variable {prog : Program} {w : World} {A : Around} {E : Value → Shared → Prop} {s : Shared}
theorem lt_tupInts {l b : Addr} {items items2 : Array Value} {ns ms : List Int} {Q : Value → Shared → Prop} (hl : IsTup s.heap l items) (hb : IsTup s.heap b items2) (hi : IntsAre items.toList ns) (hj : IntsAre items2.toList ms)
    (hu : A.units < cLine) (h : Q (.bool (lexLt ns ms)) s) : wpAny (model prog w) A (compareOp .Lt (.ref l) (.ref b)) Q E s := by
  obtain ⟨⟨cls, dd, data, sl⟩, ho, hc, n, hd⟩ := id hl
  obtain ⟨⟨cls2, dd2, data2, sl2⟩, ho2, hc2, n2, hd2⟩ := id hb
  simp only at hc hd hc2 hd2
  subst hc hd hc2 hd2
  exact richCompare_meets_room (op := .Lt) ⟨_, ho, rfl⟩ ⟨_, ho2, rfl⟩ PySem.F.slot_tuple_lt PySem.F.entry_tuple_lt (PySem.F.args_tuple_lt_2 _ _) (tuple_lt_ints l b items items2 n n2 dd dd2 sl sl2 ns ms hi hj)
    ⟨ho, ho2, show Value.bool (lexLt ns ms) ≠ Value.notImplemented ∧ Q (.bool (lexLt ns ms)) s from ⟨(fun x => nomatch x), h⟩⟩ hu
theorem cat_tup {t b : Addr} {vs ws : List Value} {Q : Value → Shared → Prop} (ht : IsTup s.heap t vs.toArray) (hb : IsTup s.heap b ws.toArray) (hv : vs ≠ [])
    (h1 : ws = [] → Q (.ref t) s) (h2 : ws ≠ [] → Q (.ref s.heap.objs.size) { s with heap := s.heap.push { cls := .type "tuple", data := .seq (vs ++ ws).toArray } })
    (hsz : vs.length + ws.length ≤ sizeLine) : wpAny (model prog w) A (binaryOp .Add (.ref t) (.ref b)) Q E s := by
  obtain ⟨⟨cls, dd, data, sl⟩, ho, hc, n, hd⟩ := id ht
  obtain ⟨⟨cls2, dd2, data2, sl2⟩, ho2, hc2, n2, hd2⟩ := id hb
  simp only at hc hd hc2 hd2
  subst hc hd hc2 hd2
  have e : vs.toArray ++ ws.toArray = (vs ++ ws).toArray := by simp
  by_cases hw : ws = []
  · exact concat_meets ⟨_, ho, rfl⟩ ⟨_, ho2, rfl⟩ noFill_tuple_add seq_tuple_add PySem.F.slot_tuple_add PySem.F.entry_tuple_add (PySem.F.args_tuple_add_2 _ _)
      (tuple_addW1 t b vs.toArray ws.toArray n n2 dd dd2 sl sl2 (by simpa using hv) (by simp [hw])) ⟨ho, ho2, h1 hw⟩
  · refine concat_meets ⟨_, ho, rfl⟩ ⟨_, ho2, rfl⟩ noFill_tuple_add seq_tuple_add PySem.F.slot_tuple_add PySem.F.entry_tuple_add (PySem.F.args_tuple_add_2 _ _)
      (tuple_addW2 t b vs.toArray ws.toArray n n2 dd dd2 sl sl2 (by simpa using hv) (by simpa using hw) (by rw [List.size_toArray, List.size_toArray]; exact hsz)) ⟨ho, ho2, ?_⟩
    rw [e]
    exact h2 hw
def sIx (n d : Nat) : Option Int → Nat
  | none => d
  | some v => if v < 0 then (v + (n : Int)).toNat else min v.toNat n
end
end HT
namespace L2
open PySem PySem.Spec PyProof.Rows
abbrev TO := St → Hp → (Option Int → Hp → Prop) → Prop
def PO (X : Cx) (e : Option Expr) (t : TO) : Prop :=
  ∀ (pins : List (Addr × Obj)) (s : Shared) (σ : St) (H : Hp) (Q : Option Int → Hp → Prop), Inv X pins σ H s → t σ H Q →
    wpAny (model X.prog X.w) X.A (evalPart e X.env) (fun u s' => ∃ o H', Inv X pins σ H' s' ∧ IsPart u o ∧ Q o H') X.xe s
theorem intsAre_of {ns : List Int} : ∀ {us : List Value}, Vals (ns.map V.int) us → IntsAre us ns := by
  induction ns with
  | nil => intro us r; rw [List.map_nil] at r; cases r; exact .nil
  | cons n ns ih =>
    intro us r
    rw [List.map_cons] at r
    cases r with
    | cons r1 r2 =>
      obtain ⟨t, e⟩ := r1
      subst e
      exact .cons n t (ih r2)
section
variable {X : Cx} {e : Expr} {te : TE} {lo hi : Option Expr} {tl th : TO} {pos p2 : Pos}
def SlR (X : Cx) (r : V → Option Int → Option Int → Hp → VK → Prop) : Prop :=
  ∀ (pins : List (Addr × Obj)) (s : Shared) (σ : St) (H : Hp) (x : V) (v vl vu : Value) (lo hi : Option Int) (sl : Addr) (Q : VK), Inv X pins σ H s → RelV x v → s.heap.IsSliceOf sl vl vu .none → IsPart vl lo → IsPart vu hi → r x lo hi H Q →
    ∃ T id, typeLookup (.type T) "__getitem__" = pure (some (.builtin id)) ∧ s.TypeIs v T ∧ wpAny (model X.prog X.w) X.A (getItem v (.ref sl)) (EP X pins σ Q) X.xe s
theorem SlR.or {r r' : V → Option Int → Option Int → Hp → VK → Prop} (h : SlR X r) (h' : SlR X r') : SlR X (fun x lo hi H Q => r x lo hi H Q ∨ r' x lo hi H Q) := by
  intro pins s σ H x v vl vu lo hi sl Q I rx hs pl pu q
  rcases q with q | q
  · exact h pins s σ H x v vl vu lo hi sl Q I rx hs pl pu q
  · exact h' pins s σ H x v vl vu lo hi sl Q I rx hs pl pu q
def cutV (xs : List V) (lo hi : Option Int) : List V := (xs.drop (HT.sIx xs.length 0 lo)).take (HT.sIx xs.length xs.length hi - HT.sIx xs.length 0 lo)
def rLtT (K : PySem.W.Frag) : R2 := fun x y H Q => ∃ a b ns ms, x = .ref a ∧ y = .ref b ∧ SqT K H a (ns.map V.int) ∧ SqT K H b (ms.map V.int) ∧ Q (.bl (HT.lexLt ns ms)) H
theorem op_ltT (hu : X.A.units < cLine) : OpR X (compareOp .Lt) (rLtT X.K) := by
  intro pins s σ H x y v u Q I rx ry h
  obtain ⟨a, b, ns, ms, rfl, rfl, ha, hb, q⟩ := h
  cases rx
  cases ry
  obtain ⟨its, r1, p1, _⟩ := I.tuple ha
  obtain ⟨its2, r2, p2, _⟩ := I.tuple hb
  have i1 : IntsAre its.toArray.toList ns := intsAre_of r1
  have i2 : IntsAre its2.toArray.toList ms := intsAre_of r2
  exact HT.lt_tupInts p1 p2 i1 i2 hu ⟨.bl (HT.lexLt ns ms), H, I, rfl, q⟩
def rCatT (K : PySem.W.Frag) : R2 := fun x y H Q => ∃ a b xs ys, x = .ref a ∧ y = .ref b ∧ SqT K H a xs ∧ SqT K H b ys ∧ xs ≠ [] ∧ xs.length + ys.length ≤ sizeLine ∧
  (ys = [] → Q (.ref a) H) ∧ (ys ≠ [] → ∀ p, H p = none → Q (.ref p) (upd H p (.tup (xs ++ ys))))
theorem Vals.nil_iff {xs : List V} {us : List Value} (r : Vals xs us) : us = [] ↔ xs = [] := by
  cases r with
  | nil => simp
  | cons _ _ => simp
theorem op_catT : OpR X (binaryOp .Add) (rCatT X.K) := by
  intro pins s σ H x y v u Q I rx ry h
  obtain ⟨a, b, xs, ys, rfl, rfl, ha, hb, hx, hz, q1, q2⟩ := h
  cases rx
  cases ry
  obtain ⟨its, r1, p1, _⟩ := I.tuple ha
  obtain ⟨its2, r2, p2, _⟩ := I.tuple hb
  refine HT.cat_tup p1 p2 (fun z => hx (r1.nil_iff.mp z)) (fun z => ⟨.ref a, H, I, rfl, q1 (r2.nil_iff.mp z)⟩) (fun z => ?_) (by rw [← r1.length, ← r2.length]; exact hz)
  refine ⟨.ref s.heap.objs.size, _, I.laid (t' := s.toks) (o := .tup (xs ++ ys)) (fun b ob q => Heap.get?_push_of_some _ q) (Nat.le_refl _) ?_, rfl, q2 (fun w => z (r2.nil_iff.mpr w)) _ (I.hok.fresh (Nat.le_refl _))⟩
  exact ⟨by rw [List.length_append]; exact hz, _, r1.append r2, IsTup.new _ _⟩
end
end L2
namespace L2
open PySem PySem.Spec PyProof.Rows
def ixN (n : Nat) (i : Int) : Option Nat := if 0 ≤ i then (if i < n then some i.toNat else none) else if -(n : Int) ≤ i then some (i + n).toNat else none
def atI {α : Type} (xs : List α) (i : Int) : Option α := (ixN xs.length i).bind fun j => xs[j]?
theorem ixN_seq {n : Nat} {i : Int} {j : Nat} (h : ixN n i = some j) : seqIndex? i n = some j ∧ j < n ∧ -(n : Int) ≤ i ∧ i < n := by
  unfold ixN at h
  by_cases h0 : 0 ≤ i
  · rw [if_pos h0] at h
    by_cases h1 : i < n
    · rw [if_pos h1] at h
      have e : i.toNat = j := Option.some.inj h
      exact ⟨by rw [seqIndex_of h0 h1, e], by omega, by omega, h1⟩
    · rw [if_neg h1] at h; cases h
  · rw [if_neg h0] at h
    by_cases h1 : -(n : Int) ≤ i
    · rw [if_pos h1] at h
      have e : (i + n).toNat = j := Option.some.inj h
      exact ⟨by rw [seqIndex_neg (by omega) h1, e], by omega, h1, by omega⟩
    · rw [if_neg h1] at h; cases h
theorem atI_get {α : Type} {xs : List α} {i : Int} {v : α} (h : atI xs i = some v) : ∃ j, seqIndex? i xs.length = some j ∧ xs[j]? = some v ∧ j < xs.length ∧ -(xs.length : Int) ≤ i ∧ i < xs.length := by
  unfold atI at h
  cases e : ixN xs.length i with
  | none => rw [e] at h; cases h
  | some j =>
    rw [e] at h
    obtain ⟨h1, h2, h3, h4⟩ := ixN_seq e
    exact ⟨j, h1, h, h2, h3, h4⟩
theorem atI_nat {α : Type} {xs : List α} {j : Nat} {v : α} (h : xs[j]? = some v) : atI xs (j : Int) = some v := by
  have hj : j < xs.length := (List.getElem?_eq_some_iff.mp h).1
  have e : ixN xs.length (j : Int) = some j := by
    unfold ixN
    rw [if_pos (by omega), if_pos (by omega)]; simp
  unfold atI; rw [e]; exact h
def PlainIx (b : Expr) : Prop := ∀ o i, subscripted b false o i = operate [o, i] (getItem o i)
def IxR (X : Cx) (r : R2) : Prop :=
  ∀ (value slice : Expr) (pins : List (Addr × Obj)) (s : Shared) (σ : St) (H : Hp) (x y : V) (v u : Value) (Q : VK), Inv X pins σ H s → RelV x v → RelV y u → r x y H Q →
    subscripted slice false v u = operate [v, u] (getItem v u) → wpAny (model X.prog X.w) X.A (subscriptTail value slice v u) (EP X pins σ Q) X.xe s
def MtR (X : Cx) (id : String) (r : V → List V → Hp → VK → Prop) : Prop :=
  ∀ (pins : List (Addr × Obj)) (s : Shared) (σ : St) (H : Hp) (x : V) (xs : List V) (v : Value) (us : List Value) (Q : VK), Inv X pins σ H s → RelV x v → Vals xs us → r x xs H Q →
    wpAny (model X.prog X.w) X.A (call (.builtin id) (v :: us)) (EP X pins σ Q) X.xe s
section
variable {X : Cx} {a b : Expr} {ta tb : TE} {pos : Pos}
theorem IxR.or {r r' : R2} (h : IxR X r) (h' : IxR X r') : IxR X (fun x y H Q => r x y H Q ∨ r' x y H Q) := by
  intro value slice pins s σ H x y v u Q I rx ry q hs
  rcases q with q | q
  · exact h value slice pins s σ H x y v u Q I rx ry q hs
  · exact h' value slice pins s σ H x y v u Q I rx ry q hs
theorem MtR.or {id : String} {r r' : V → List V → Hp → VK → Prop} (h : MtR X id r) (h' : MtR X id r') : MtR X id (fun x xs H Q => r x xs H Q ∨ r' x xs H Q) := by
  intro pins s σ H x xs v us Q I rx rs q
  rcases q with q | q
  · exact h pins s σ H x xs v us Q I rx rs q
  · exact h' pins s σ H x xs v us Q I rx rs q
theorem pe_ix {r : R2} (hr : IxR X r) (ha : PE X a ta) (hb : PE X b tb) (hs : PlainIx b) : PE X (.Subscript a b pos) (tOp r ta tb) := by
  intro pins s σ H Q I h
  exact Subscript_ (binT ha hb I h fun v u s2 x y H2 I2 rx ry q => hr a b pins s2 σ H2 x y v u Q I2 rx ry q (hs _ _))
def rIxL (K : PySem.W.Frag) : R2 := fun x y H Q => ∃ p xs i v, x = .ref p ∧ y = .int i ∧ SqL K H p xs ∧ atI xs i = some v ∧ Q v H
def rIxT (K : PySem.W.Frag) : R2 := fun x y H Q => ∃ p xs i v, x = .ref p ∧ y = .int i ∧ SqT K H p xs ∧ atI xs i = some v ∧ Q v H
theorem ix_list : IxR X (rIxL X.K) := by
  intro value slice pins s σ H x y v u Q I rx ry h hs
  obtain ⟨p, xs, i, z, rfl, rfl, hq, he, q⟩ := h
  cases rx
  obtain ⟨t, rfl⟩ := ry
  obtain ⟨its, r, pl, hz⟩ := I.list hq
  obtain ⟨j, h1, h2, h3, h4, h5⟩ := atI_get he
  obtain ⟨w, ew, rw'⟩ := r.get h2
  have hl := r.length
  have hn := line63
  have fin : EP X pins σ Q w s := ⟨z, H, I, rw', q⟩
  by_cases h0 : 0 ≤ i
  · have hj : i.toNat = j := by
      rw [seqIndex_of h0 h5] at h1
      exact Option.some.inj h1
    exact item_listR pl.isList h0 (by omega) (by rw [hj]; simpa using ew) fin hs
  · have hj : (i + (its.toArray.size : Int)).toNat = j := by
      rw [seqIndex_neg (by omega) h4] at h1
      rw [List.size_toArray, ← hl]
      exact Option.some.inj h1
    exact subscriptTail_builtinR (x := w) pl.isList.typeIs slot_list_getitem.lookup
      (wpAny_getItem_list_neg (Q := fun r s' => r = w ∧ EP X pins σ Q r s') pl.isList (by omega) (by rw [List.size_toArray] <;> omega) (by omega) (by rw [hj]; simpa using ew) ⟨rfl, fin⟩) hs
theorem ix_tup : IxR X (rIxT X.K) := by
  intro value slice pins s σ H x y v u Q I rx ry h hs
  obtain ⟨p, xs, i, z, rfl, rfl, hq, he, q⟩ := h
  cases rx
  obtain ⟨t, rfl⟩ := ry
  obtain ⟨its, r, pl, hz⟩ := I.tuple hq
  obtain ⟨j, h1, h2, h3, h4, h5⟩ := atI_get he
  obtain ⟨w, ew, rw'⟩ := r.get h2
  have hl := r.length
  have hn := line63
  have fin : EP X pins σ Q w s := ⟨z, H, I, rw', q⟩
  exact subscriptTail_builtinR (x := w) pl.typeIs slot_tuple_getitem.lookup
    (getItem_tuple (j := j) (Q := fun r s' => r = w ∧ EP X pins σ Q r s') pl (by omega) (by omega) (by rw [List.size_toArray, ← hl]; exact h1) (by simpa using ew) ⟨rfl, fin⟩) hs
theorem mapSeq_set (its : List Value) (n j : Nat) (u : Value) : Obj.mapSeq (·.setIfInBounds j u) { cls := .type "list", data := .seq its.toArray n } = { cls := .type "list", data := .seq (its.set j u).toArray n } := by
  simp [Obj.mapSeq]
theorem Inv.lst {pins : List (Addr × Obj)} {σ : St} {H : Hp} {s : Shared} {p : Addr} {xs : List V} (I : Inv X pins σ H s) (h : H p = some (.lst xs)) :
    ∃ (its : List Value) (n : Nat), Vals xs its ∧ s.heap.get? p = some { cls := .type "list", data := .seq its.toArray n } ∧ xs.length ≤ sizeLine := by
  obtain ⟨z, its, n, r, e⟩ := I.hok p _ h
  exact ⟨its, n, r, e, z⟩
theorem Inv.lstUpd {pins : List (Addr × Obj)} {σ : St} {H : Hp} {s : Shared} {p : Addr} {xs ys : List V} {its its' : List Value} {n n' : Nat} {f : Obj → Obj} (I : Inv X pins σ H s) (h : H p = some (.lst xs))
    (ho : s.heap.get? p = some { cls := .type "list", data := .seq its.toArray n }) (hf : f { cls := .type "list", data := .seq its.toArray n } = { cls := .type "list", data := .seq its'.toArray n' }) (r : Vals ys its') (hz : ys.length ≤ sizeLine) (t : Nat) :
    Inv X pins σ (upd H p (.lst ys)) { s with heap := s.heap.update p f, toks := t } := by
  have e : (s.heap.update p f).get? p = some { cls := .type "list", data := .seq its'.toArray n' } := by
    rw [Heap.get?_update_self f ho (by rw [hf] <;> rfl), hf]
  refine I.write (x := p) (e := p) (by rw [h]; trivial) (.inl rfl) (fun b u hb q => (Heap.get?_update_other _ _ (Ne.symm hb)).trans q) ⟨_, e⟩ ?_
  exact ⟨hz, its', n', r, e⟩
def rSetL : V → V → V → Hp → (Hp → Prop) → Prop := fun o i v H Q => ∃ p xs k j, o = .ref p ∧ i = .int k ∧ H p = some (.lst xs) ∧ ixN xs.length k = some j ∧ Q (upd H p (.lst (xs.set j v)))
theorem set_list : PSet X rSetL := by
  intro pins s σ H o i v ov iv u Q I ro ri rv h
  obtain ⟨p, xs, k, j, rfl, rfl, hp, hj, q⟩ := h
  cases ro
  obtain ⟨t, rfl⟩ := ri
  obtain ⟨its, n, r, ho, hz⟩ := I.lst hp
  obtain ⟨h1, h2, h3, h4⟩ := ixN_seq hj
  have hl := r.length
  have hn := line63
  have I' : Inv X pins σ (upd H p (.lst (xs.set j v))) { s with heap := s.heap.update p (Obj.mapSeq (·.setIfInBounds j u)) } :=
    I.lstUpd hp ho (mapSeq_set its n j u) (r.set rv j) (by rw [List.length_set]; exact hz) s.toks
  by_cases h0 : 0 ≤ k
  · have hk : k.toNat = j := by
      rw [seqIndex_of h0 h4] at h1
      exact Option.some.inj h1
    exact PySem.W.ki_setAt ho h0 (by omega) (by rw [List.size_toArray, ← hl]; exact h4) (by rw [hk]; exact ⟨_, I', q⟩)
  · have hk : (k + (its.toArray.size : Int)).toNat = j := by
      rw [seqIndex_neg (by omega) h3] at h1
      rw [List.size_toArray, ← hl]
      exact Option.some.inj h1
    exact PySem.W.ki_setBack ho (by omega) (by rw [List.size_toArray, ← hl]; exact h3) (by omega) (by rw [hk]; exact ⟨_, I', q⟩)
def flatV : V → Bool
  | .non => true
  | .bl _ => true
  | .int _ => true
  | .str _ => true
  | _ => false
def eqV : V → V → Bool
  | .non, .non => true
  | .bl a, .bl b => a == b
  | .bl a, .int b => (if a then 1 else 0) == b
  | .int a, .bl b => a == (if b then 1 else 0)
  | .int a, .int b => a == b
  | .str a, .str b => a == b
  | _, _ => false
theorem eqAt_V {A : Around} {s : Shared} {y x : V} {u v : Value} (ry : RelV y u) (rx : RelV x v) (fy : flatV y = true) (fx : flatV x = true) : SeqAt.EqAt A s u v (eqV y x) := by
  cases y with
  | non =>
    cases ry
    cases x with
    | non => cases rx; exact SeqAt.EqAt.same _
    | bl b => cases rx; exact SeqAt.EqAt.none_bool b
    | int b => obtain ⟨t, rfl⟩ := rx; exact SeqAt.EqAt.none_int b t
    | str b => obtain ⟨t, rfl⟩ := rx; exact SeqAt.EqAt.none_str b t
    | _ => exact absurd (show false = true from fx) Bool.false_ne_true
  | bl a =>
    cases ry
    cases x with
    | non => cases rx; exact SeqAt.EqAt.bool_none a
    | bl b => cases rx; exact SeqAt.EqAt.bool_bool a b
    | int b => obtain ⟨t, rfl⟩ := rx; exact SeqAt.EqAt.bool_int a b t
    | str b => obtain ⟨t, rfl⟩ := rx; exact SeqAt.EqAt.bool_str a b t
    | _ => exact absurd (show false = true from fx) Bool.false_ne_true
  | int a =>
    obtain ⟨t', rfl⟩ := ry
    cases x with
    | non => cases rx; exact SeqAt.EqAt.int_none a t'
    | bl b => cases rx; exact SeqAt.EqAt.int_bool a t' b
    | int b => obtain ⟨t, rfl⟩ := rx; exact SeqAt.EqAt.int_int a t' b t
    | str b => obtain ⟨t, rfl⟩ := rx; exact SeqAt.EqAt.int_str a t' b t
    | _ => exact absurd (show false = true from fx) Bool.false_ne_true
  | str a =>
    obtain ⟨t', rfl⟩ := ry
    cases x with
    | non => cases rx; exact SeqAt.EqAt.str_none a t'
    | bl b => cases rx; exact SeqAt.EqAt.str_bool a t' b
    | int b => obtain ⟨t, rfl⟩ := rx; exact SeqAt.EqAt.str_int a t' b t
    | str b => obtain ⟨t, rfl⟩ := rx; exact SeqAt.EqAt.str_str a t' b t
    | _ => exact absurd (show false = true from fx) Bool.false_ne_true
  | _ => exact absurd (show false = true from fy) Bool.false_ne_true
def eqU (x : V) (u : Value) : Bool := match u with
  | .none => eqV .non x
  | .bool b => eqV (.bl b) x
  | .int i _ => eqV (.int i) x
  | .str z _ => eqV (.str z) x
  | _ => false
theorem eqU_of {x y : V} {u : Value} (r : RelV y u) (f : flatV y = true) : eqU x u = eqV y x := by
  cases y with
  | non => cases r; rfl
  | bl b => cases r; rfl
  | int i => obtain ⟨t, rfl⟩ := r; rfl
  | str z => obtain ⟨t, rfl⟩ := r; rfl
  | _ => exact absurd (show false = true from f) Bool.false_ne_true
theorem any_eqU {x : V} : ∀ {xs : List V} {us : List Value}, Vals xs us → xs.all flatV = true → us.any (eqU x) = xs.any fun y => eqV y x
  | _, _, .nil, _ => rfl
  | y :: xs, u :: us, .cons r t, f => by
    rw [List.all_cons, Bool.and_eq_true] at f
    rw [List.any_cons, List.any_cons, eqU_of r f.1, any_eqU t f.2]
theorem mem_eqAt {A : Around} {s : Shared} {x : V} {v : Value} (rx : RelV x v) (fx : flatV x = true) : ∀ {xs : List V} {us : List Value}, Vals xs us → xs.all flatV = true → ∀ u ∈ us, SeqAt.EqAt A s u v (eqU x u)
  | _, _, .nil, _ => fun u hu => by cases hu
  | y :: xs, u :: us, .cons r t, f => fun u' hu => by
    rw [List.all_cons, Bool.and_eq_true] at f
    rcases List.mem_cons.mp hu with rfl | hu
    · rw [eqU_of r f.1]; exact eqAt_V r rx f.1 fx
    · exact mem_eqAt rx fx t f.2 u' hu
def inV (x : V) (xs : List V) : Bool := xs.any fun y => eqV y x
def rIn (K : PySem.W.Frag) (neg : Bool) : R2 := fun x y H Q => ∃ p xs, y = .ref p ∧ (SqL K H p xs ∨ SqT K H p xs) ∧ flatV x = true ∧ xs.all flatV = true ∧ Q (.bl (if neg then !inV x xs else inV x xs)) H
theorem op_in_seq : OpR X (compareOp .In) (rIn X.K false) := by
  intro pins s σ H x y v u Q I rx ry h
  obtain ⟨p, xs, rfl, hq, fx, fs, q⟩ := h
  cases ry
  rcases hq with hq | hq
  · obtain ⟨its, r, pl, hz⟩ := I.list hq
    refine SeqAt.in_listAt (eqU x) pl.isList (fun w hw => mem_eqAt rx fx r fs w (by simpa using hw)) ⟨.bl _, H, I, rfl, ?_⟩
    rw [show its.toArray.any (eqU x) = its.any (eqU x) by simp, any_eqU r fs]
    exact q
  · obtain ⟨its, r, pl, hz⟩ := I.tuple hq
    refine SeqAt.in_tupleAt (eqU x) pl (fun w hw => mem_eqAt rx fx r fs w (by simpa using hw)) ⟨.bl _, H, I, rfl, ?_⟩
    rw [show its.toArray.any (eqU x) = its.any (eqU x) by simp, any_eqU r fs]
    exact q
theorem call_len_seq : CallR X (.builtin "len") (fun xs H Q => ∃ p ys, xs = [.ref p] ∧ (SqL X.K H p ys ∨ SqT X.K H p ys) ∧ Q (.int ys.length) H) := by
  intro pins s σ H xs us Q I r h
  obtain ⟨p, ys, rfl, hq, q⟩ := h
  obtain ⟨u, rfl, rx⟩ := vals1 r
  cases rx
  have hn := line63
  rcases hq with hq | hq
  · obtain ⟨its, r', pl, hz⟩ := I.list hq
    have hlen := r'.length
    exact Calls.call_len_list pl.isList (by simp only [List.size_toArray] <;> omega) ⟨.int ys.length, H, I.tok _, ⟨s.toks + 1, by rw [List.size_toArray, hlen]⟩, q⟩
  · obtain ⟨its, r', pl, hz⟩ := I.tuple hq
    have hlen := r'.length
    exact len_tuple pl (by simp only [List.size_toArray] <;> omega) ⟨.int ys.length, H, I.tok _, ⟨s.toks + 1, by rw [List.size_toArray, hlen]⟩, q⟩
theorem call_len_str : CallR X (.builtin "len") (fun xs H Q => ∃ z, xs = [.str z] ∧ z.length ≤ sizeLine ∧ Q (.int z.length) H) := by
  intro pins s σ H xs us Q I r h
  obtain ⟨z, rfl, hz, q⟩ := h
  obtain ⟨u, rfl, t, rfl⟩ := vals1 r
  have hn := line63
  exact len_str (by omega) ⟨.int z.length, H, I.tok _, ⟨_, rfl⟩, q⟩
theorem CallR.or {f : Value} {r r' : List V → Hp → VK → Prop} (h : CallR X f r) (h' : CallR X f r') : CallR X f (fun xs H Q => r xs H Q ∨ r' xs H Q) := by
  intro pins s σ H xs us Q I rs q
  rcases q with q | q
  · exact h pins s σ H xs us Q I rs q
  · exact h' pins s σ H xs us Q I rs q
theorem call_list_of : CallR X (.type "list") (fun xs H Q => ∃ p ys, xs = [.ref p] ∧ (SqL X.K H p ys ∨ SqT X.K H p ys) ∧ ∀ l, H l = none → Q (.ref l) (upd H l (.lst ys))) := by
  intro pins s σ H xs us Q I r h
  obtain ⟨p, ys, rfl, hq, q⟩ := h
  obtain ⟨u, rfl, rx⟩ := vals1 r
  cases rx
  have fin : ∀ (its : List Value), Vals ys its → ys.length ≤ sizeLine → ∀ (h' : Heap) (c' : Nat), (∀ b o', s.heap.get? b = some o' → h'.get? b = some o') →
      h'.get? s.heap.objs.size = some { cls := .type "list", dict := none, data := .seq its.toArray c', slots := #[] } → EP X pins σ Q (.ref s.heap.objs.size) { s with heap := h' } := fun its r' hz h' c' kp e =>
    ⟨.ref s.heap.objs.size, _, I.laid (t' := s.toks) kp (Nat.le_refl _) (show ObjOk X.prog X.w _ h' _ (.lst ys) from ⟨hz, its, c', r', e⟩), rfl, q _ (I.hok.fresh (Nat.le_refl _))⟩
  rcases hq with hq | hq
  · obtain ⟨its, r', pl, hz⟩ := I.list hq
    have hlen := r'.length
    obtain ⟨o, ho, hc, n, hd⟩ := pl.isList
    exact call_list_seq p (.inl rfl) ho hc hd (fun h' c' kp e => fin its r' hz h' c' kp e) (by simp only [List.size_toArray] <;> omega)
  · obtain ⟨its, r', pl, hz⟩ := I.tuple hq
    have hlen := r'.length
    obtain ⟨o, ho, hc, n, hd⟩ := pl
    exact call_list_seq p (.inr rfl) ho hc hd (fun h' c' kp e => fin its r' hz h' c' kp e) (by simp only [List.size_toArray] <;> omega)
def tyV (K : PySem.W.Frag) (T : String) (x : V) (H : Hp) : Prop := match x with
  | .str _ => T = "str"
  | .int _ => T = "int"
  | .ref p => (T = "list" ∧ ∃ xs, SqL K H p xs) ∨ (T = "tuple" ∧ ∃ o, K.lookup p = some o ∧ o.cls = .type "tuple" ∧ o.dict = none) ∨
      (T = "dict" ∧ ((∃ kvs, H p = some (.dK kvs)) ∨ ∃ kvs, H p = some (.dT kvs))) ∨ (T = "set" ∧ ∃ S n, H p = some (.set S n))
  | _ => False
theorem tyV_is {pins : List (Addr × Obj)} {σ : St} {H : Hp} {s : Shared} {T : String} {x : V} {v : Value} (I : Inv X pins σ H s) (r : RelV x v) (ty : tyV X.K T x H) :
    s.TypeIs v T ∧ ∀ a, v = .ref a → ∃ ob, s.heap.get? a = some ob ∧ ob.dict = none := by
  cases x with
  | str z =>
    obtain ⟨t, rfl⟩ := r
    cases (show T = "str" from ty)
    exact ⟨typeIs_str s z t, fun _ e => nomatch e⟩
  | int i =>
    obtain ⟨t, rfl⟩ := r
    cases (show T = "int" from ty)
    exact ⟨typeIs_int s i t, fun _ e => nomatch e⟩
  | ref p =>
    cases r
    rcases ty with ⟨rfl, xs, hq⟩ | ⟨rfl, o, hk, hc, hd⟩ | ⟨rfl, hk⟩ | ⟨rfl, S, n, hk⟩
    · obtain ⟨its, _, pl, _⟩ := I.list hq
      refine ⟨pl.isList.typeIs, fun a e => ?_⟩
      cases e
      obtain ⟨o, n, e, c, hd, _⟩ := pl
      exact ⟨o, e, hd⟩
    · refine ⟨⟨o, I.kIn p o hk, hc⟩, fun a e => ?_⟩
      cases e
      exact ⟨o, I.kIn _ o hk, hd⟩
    · have z : ∃ o, s.heap.get? p = some o ∧ o.ExactDict := by
        rcases hk with ⟨kvs, hk⟩ | ⟨kvs, hk⟩
        · obtain ⟨_, _, _, _, o, _, _, e, ex, _⟩ := I.hok p _ hk
          exact ⟨o, e, ex⟩
        · obtain ⟨_, _, _, _, o, _, _, e, ex, _⟩ := I.hok p _ hk
          exact ⟨o, e, ex⟩
      obtain ⟨o, e, ex⟩ := z
      refine ⟨⟨o, e, ex.1⟩, fun a e2 => ?_⟩
      cases e2
      exact ⟨o, e, ex.2.1⟩
    · obtain ⟨o, _, _, _, e, ex, _⟩ := I.hok p _ hk
      refine ⟨⟨o, e, ex.1⟩, fun a e2 => ?_⟩
      cases e2
      exact ⟨o, e, ex.2.1⟩
  | _ => exact False.elim ty
def tBM0 (K : PySem.W.Frag) (T : String) (r : V → List V → Hp → VK → Prop) (to : TE) : TE := fun σ H Q => to σ H fun x H1 => tyV K T x H1 ∧ r x [] H1 Q
def tBM (K : PySem.W.Frag) (T : String) (r : V → List V → Hp → VK → Prop) (to : TE) (t : TA) : TE := fun σ H Q => to σ H fun x H1 => tyV K T x H1 ∧ t σ H1 fun xs H2 => r x xs H2 Q
variable {o e : Expr} {es : List Expr} {to : TE} {t : TA} {name : Str} {apos cpos : Pos} {T id : String} {r : V → List V → Hp → VK → Prop}
theorem pe_bm0 (pa : PlainAttrs T) (slot : Slot T name id) (hty : typeOf (.builtin id) = pure (.type "method_descriptor")) (hm : MtR X id r) (ho : PE X o to)
    (hbase : attributeBase o name X.env (eval o X.env) = eval o X.env := by rfl) (hline : (apos.endLine == cpos.line) = true := by rfl) : PE X (.Call (.Attribute o name apos) [] [] cpos) (tBM0 X.K T r to) := by
  intro pins s σ H Q I h
  refine wpAny_Call_method0_late hbase hline (thn (ho pins s σ H _ I h) fun v s1 ⟨x, H1, I1, r1, ty, q1⟩ => ?_)
  obtain ⟨h1, h2⟩ := tyV_is I1 r1 ty
  exact ⟨T, id, pa, slot, hty, h1, h2, Calls.callWith_builtin rfl (PySem.evalArgs_none (hm pins s1 σ H1 x [] v [] Q I1 r1 .nil q1))⟩
theorem pe_bm (pa : PlainAttrs T) (slot : Slot T name id) (hty : typeOf (.builtin id) = pure (.type "method_descriptor")) (hm : MtR X id r) (ho : PE X o to) (ha : PA X (e :: es) t)
    (hbase : attributeBase o name X.env (eval o X.env) = eval o X.env := by rfl)
    (hfew : ((backTo cpos (starEach (e :: es) X.env)).all (fun x => !x.1) && (backToKw cpos (keywordEach [] X.env)).all (fun x => x.1.isSome)
      && decide ((e :: es).length + ([] : List Keyword).length + (if ([] : List Keyword).isEmpty then 0 else 1) < 30)) = true := by rfl)
    (hline : (apos.endLine == cpos.line) = true := by rfl) (hs : starEach (e :: es) X.env = (false, eval e X.env) :: starEach es X.env := by rfl) (hplain : (backTo cpos (starEach es X.env)).any (·.1) = false := by rfl) :
    PE X (.Call (.Attribute o name apos) (e :: es) [] cpos) (tBM X.K T r to t) := by
  intro pins s σ H Q I h
  refine wpAny_Call_method_late hbase hfew hline rfl (thn (ho pins s σ H _ I h) fun v s1 ⟨x, H1, I1, r1, ty, q1⟩ => ?_)
  obtain ⟨h1, h2⟩ := tyV_is I1 r1 ty
  refine ⟨T, id, pa, slot, hty, h1, h2, ?_⟩
  have hA := ha cpos pins s1 σ H1 _ I1 q1
  rw [hs] at hA ⊢
  refine Calls.callWith_builtin (by show (false || (backTo cpos (starEach es X.env)).any (·.1)) = false; rw [hplain] <;> rfl) (Calls.evalArgs_plain ?_)
  exact thn hA fun us s2 ⟨vs, H2, I2, r2, q2⟩ => hm pins s2 σ H2 x vs v us Q I2 r1 r2 q2
end
end L2
namespace L2
open PySem PySem.Spec PyProof.Rows
def MtM (X : Cx) (id : String) (r : V → List V → Hp → VK → Prop) : Prop :=
  ∀ (pins : List (Addr × Obj)) (s : Shared) (σ : St) (H : Hp) (x : V) (xs : List V) (v : Value) (us : List Value) (Q : VK), Inv X pins σ H s → RelV x v → Vals xs us → r x xs H Q →
    wpAny (model X.prog X.w) X.A (call (.builtin id) (v :: us)) (EP X pins σ Q) X.xe s
theorem Vals.one : ∀ {x : V} {us : List Value}, Vals [x] us → ∃ u, us = [u] ∧ RelV x u
  | _, _, .cons r .nil => ⟨_, rfl, r⟩
theorem Vals.two : ∀ {x y : V} {us : List Value}, Vals [x, y] us → ∃ u v, us = [u, v] ∧ RelV x u ∧ RelV y v
  | _, _, _, .cons r (.cons q .nil) => ⟨_, _, rfl, r, q⟩
theorem Vals.zero : ∀ {us : List Value}, Vals [] us → us = []
  | _, .nil => rfl
theorem Vals.dropLast {xs : List V} {us : List Value} (h : Vals xs us) : Vals xs.dropLast us.dropLast := by
  induction h with
  | nil => exact .nil
  | cons r t ih =>
    cases t with
    | nil => exact .nil
    | cons q t' => exact .cons r ih
theorem Vals.eraseIdx : ∀ {xs : List V} {us : List Value} (i : Nat), Vals xs us → Vals (xs.eraseIdx i) (us.eraseIdx i)
  | _, _, _, .nil => .nil
  | _, _, 0, .cons _ t => t
  | _, _, i + 1, .cons r t => .cons r (Vals.eraseIdx i t)
theorem Vals.reverse {xs : List V} {us : List Value} (h : Vals xs us) : Vals xs.reverse us.reverse := by
  induction h with
  | nil => exact .nil
  | cons r t ih => rw [List.reverse_cons, List.reverse_cons]; exact Vals.append ih (.cons r .nil)
section
variable {X : Cx} {pins : List (Addr × Obj)} {σ : St} {H : Hp} {s : Shared} {l b : Addr} {xs ys zs : List V}
theorem Inv.lset {its its' : List Value} {n : Nat} {f : Array Value → Array Value} {t' : Nat} (I : Inv X pins σ H s) (hH : H l = some (.lst xs))
    (e : s.heap.get? l = some { cls := .type "list", data := .seq its.toArray n }) (hf : f its.toArray = its'.toArray) (hv : Vals ys its') (hz : ys.length ≤ sizeLine) :
    Inv X pins σ (upd H l (.lst ys)) { s with heap := s.heap.update l (Obj.mapSeq f), toks := t' } := by
  have q := PySem.IsL.update e f
  rw [hf] at q
  refine I.write (x := l) (e := l) (by rw [hH]; exact trivial) (.inl rfl) (fun b' u hb hu => (Heap.get?_update_other s.heap (Obj.mapSeq f) (Ne.symm hb)).trans hu) ⟨_, q⟩ ?_
  exact ⟨hz, its', _, hv, q⟩
theorem Inv.fresh (I : Inv X pins σ H s) : H s.heap.objs.size = none := I.hok.fresh (Nat.le_refl _)
theorem Inv.lstM (I : Inv X pins σ H s) (hH : H l = some (.lst xs)) : xs.length ≤ sizeLine ∧ ∃ (its : List Value) (n : Nat), Vals xs its ∧ xs.length = its.length ∧ s.heap.get? l = some { cls := .type "list", data := .seq its.toArray n } := by
  obtain ⟨z, its, n, r, e⟩ := I.hok l _ hH
  exact ⟨z, its, n, r, r.length, e⟩
end
section
variable {X : Cx}
def rAppend : V → List V → Hp → VK → Prop := fun x vs H Q => ∃ l xs y, x = .ref l ∧ vs = [y] ∧ H l = some (.lst xs) ∧ xs.length < sizeLine ∧ Q .non (upd H l (.lst (xs ++ [y])))
theorem mt_append : MtM X "list.append" rAppend := by
  intro pins s σ H x vs v us Q I rx rv h
  obtain ⟨l, xs, y, rfl, rfl, hH, hz, q⟩ := h
  cases rx
  obtain ⟨u, rfl, ru⟩ := rv.one
  obtain ⟨z, its, n, r, hl, e⟩ := I.lstM hH
  refine call_meets F.slot_list_append ⟨_, e, rfl⟩ F.entry_list_append (F.args_list_append_2 _ _) (PySem.list_append l its.toArray n u (by rw [List.size_toArray]; omega)) ⟨e, ?_⟩
  refine ⟨.non, _, I.lset (its' := its ++ [u]) hH e (by simp) (r.append (.cons ru .nil)) ?_, rfl, q⟩
  rw [List.length_append, List.length_singleton]
  omega
def rReverse : V → List V → Hp → VK → Prop := fun x vs H Q => ∃ l xs, x = .ref l ∧ vs = [] ∧ H l = some (.lst xs) ∧ Q .non (upd H l (.lst xs.reverse))
theorem mt_reverse : MtM X "list.reverse" rReverse := by
  intro pins s σ H x vs v us Q I rx rv h
  obtain ⟨l, xs, rfl, rfl, hH, q⟩ := h
  cases rx
  have hus := rv.zero
  subst hus
  obtain ⟨z, its, n, r, hl, e⟩ := I.lstM hH
  refine call_meets F.slot_list_reverse ⟨_, e, rfl⟩ F.entry_list_reverse (F.args_list_reverse_1 _) (AutoSeq1.list_reverse_list_0 l its.toArray n (by rw [List.size_toArray]; omega)) ⟨e, ?_⟩
  refine ⟨.non, _, I.lset (its' := its.reverse) hH e (by simp) r.reverse ?_, rfl, q⟩
  rw [List.length_reverse]
  omega
end
section
variable {prog : Program} {w : World} {A : Around} {E : Value → Shared → Prop} {s : Shared}
end
section
variable {X : Cx}
end
end L2
namespace L2
open PySem PySem.Spec PyProof.Rows
theorem Vals.ints : ∀ {ns : List Int} {us : List Value}, Vals (ns.map V.int) us → IntsAre us ns
  | [], us, h => by
    rw [List.map_nil] at h
    cases h
    exact IntsAre.nil
  | n :: ns, us, h => by
    rw [List.map_cons] at h
    cases h with
    | cons r t =>
      obtain ⟨k, rfl⟩ := r
      exact IntsAre.cons n k (Vals.ints t)
theorem vals_of_ints : ∀ {us : List Value} {ns : List Int}, IntsAre us ns → Vals (ns.map V.int) us
  | _, _, .nil => by rw [List.map_nil]; exact Paired.nil
  | _, _, .cons n t h => by rw [List.map_cons]; exact Paired.cons (show RelV (V.int n) (Value.int n t) from ⟨t, rfl⟩) (vals_of_ints h)
theorem Vals.strs : ∀ {xs : List Str} {us : List Value}, Vals (xs.map V.str) us → StrsAre us xs
  | [], us, h => by
    rw [List.map_nil] at h
    cases h
    exact StrsAre.nil
  | x :: xs, us, h => by
    rw [List.map_cons] at h
    cases h with
    | cons r t =>
      obtain ⟨k, rfl⟩ := r
      exact StrsAre.cons x k (Vals.strs t)
theorem Vals.bls : ∀ {bs : List Bool} {us : List Value}, Vals (bs.map V.bl) us → us = bs.map Value.bool
  | [], us, h => by
    rw [List.map_nil] at h
    cases h
    rfl
  | b :: bs, us, h => by
    rw [List.map_cons] at h
    cases h with
    | cons r t =>
      cases r
      rw [Vals.bls t, List.map_cons]
theorem Vals.ref1 {a : Addr} {us : List Value} (r : Vals [V.ref a] us) : us = [Value.ref a] := by
  cases r with
  | cons r t =>
    cases t
    cases r
    rfl
section
variable {prog : Program} {w : World} {A : Around} {E : Value → Shared → Prop} {s : Shared} {l : Addr} {its : List Value} {ns : List Int} {Q : Value → Shared → Prop}
end
section
variable {X : Cx}
def rSorted (K : PySem.W.Frag) : List V → Hp → VK → Prop := fun vs H Q => ∃ (a : Addr) (ns : List Int), vs = [V.ref a] ∧ SqL K H a (ns.map V.int) ∧ ns.length < 64 ∧
  ∀ (ns' : List Int) (p : Addr), ns'.Perm ns → ns'.Pairwise (· ≤ ·) → H p = none → Q (.ref p) (upd H p (.lst (ns'.map V.int)))
theorem small64 {n : Nat} (h : n < 64) : n ≤ sizeLine := by rw [sizeLine_eq]; omega
theorem cr_sorted : CallR X (.builtin "sorted") (rSorted X.K) := by
  intro pins s σ H vs us Q I r h
  obtain ⟨a, ns, rfl, hs, h64, q⟩ := h
  obtain ⟨its, rv, hl, _⟩ := I.list hs
  rw [Vals.ref1 r]
  have hi := rv.ints
  refine PyProof.Rows.sorted_ints hl.isList hi (by rw [hi.length]; exact h64) fun out ns' h1 h2 h3 => ?_
  obtain ⟨ep, he'⟩ := PyProof.Rows.sortedAll_at s.heap its out
  have hlen : (ns'.map V.int).length ≤ sizeLine := by rw [List.length_map, h2.length_eq]; exact small64 h64
  exact ⟨.ref _, upd H (s.heap.objs.size + 1) (.lst (ns'.map V.int)), I.laid (t' := s.toks) (fun _ _ => PyProof.Rows.sortedAll_old) (Nat.le_succ _) ⟨hlen, out.toList, ep, vals_of_ints h1, he'⟩, rfl, q ns' _ h2 h3 (I.hok.fresh (Nat.le_succ _))⟩
end
section
variable {X : Cx}
end
section
variable {X : Cx}
end
theorem iter_any {prog : Program} {w : World} {A : Around} {E : Value → Shared → Prop} {s : Shared} {l : Addr} {items : Array Value} {Q : Value → Shared → Prop} (hl : s.heap.IsList l items)
    (h : ∀ s₂ : Shared, s₂ = { s with heap := s.heap.push { cls := .type "list_iterator", data := .fields #[.ref l, .int 0 0] } } →
      (s₂.heap.IsListIter s.heap.objs.size l 0 ∧ s₂.heap.IsList l items) → l ≠ s.heap.objs.size → Q (.ref s.heap.objs.size) s₂) : wpAny (model prog w) A (pyIter (.ref l)) Q E s := by
  have hlt : l < s.heap.objs.size := by obtain ⟨_, e, _⟩ := hl; exact Heap.lt_size e
  exact wpAny_pyIter_list hl (h _ rfl ⟨⟨_, Heap.get?_push_size _ rfl, rfl, rfl⟩, hl.push _⟩ (Nat.ne_of_lt hlt))
theorem truth_bools {prog : Program} {w : World} {A : Around} {bs : List Bool} {its : List Value} (e : its = bs.map Value.bool) :
    TruthOf prog w A (fun i v => its.toArray[i]? = some v) (fun i => bs.getD i false) := fun i v s Q E hv hq => by
  have hv' : its[i]? = some v := by simpa using hv
  rw [e, List.getElem?_map] at hv'
  obtain ⟨b, hb, rfl⟩ := Option.map_eq_some_iff.mp hv'
  have hg : bs.getD i false = b := by rw [List.getD_eq_getElem?_getD, hb] <;> rfl
  have hq' : Q (bs.getD i false) s := hq
  rw [hg] at hq'
  exact wpAny_truthy_bool hq'
theorem all_range : ∀ bs : List Bool, (List.range bs.length).all (fun i => bs.getD i false) = bs.all id
  | [] => rfl
  | b :: bs => by
    rw [List.length_cons, List.range_succ_eq_map, List.all_cons, List.all_map, List.all_cons, ← all_range bs]
    all_goals rfl
section
variable {X : Cx}
def rAll (K : PySem.W.Frag) : List V → Hp → VK → Prop := fun vs H Q => ∃ (a : Addr) (bs : List Bool), vs = [V.ref a] ∧ SqL K H a (bs.map V.bl) ∧ Q (.bl (bs.all id)) H
theorem cr_all (hc : X.calm = true) : CallR X (.builtin "all") (rAll X.K) := by
  intro pins s σ H vs us Q I r h
  obtain ⟨a, bs, rfl, hs, q⟩ := h
  obtain ⟨its, rv, hl, _⟩ := I.list hs
  rw [Vals.ref1 r]
  have hb := rv.bls
  refine call_all_walk (iter_any hl.isList fun s₂ e2 st hne => ?_)
  subst e2
  refine ⟨_, _, _, _, _, _, _, rfl, Walks.list (A := X.A.in1) (I.ok.hd hc) _ a hne its.toArray, st, truth_bools hb, fun h' tk hk => ?_⟩
  refine ⟨.bl _, H, I.kept fun b o eo => hk b o (fun hmem => ?_) (Heap.get?_push_of_some _ eo), ?_, q⟩
  · rcases List.mem_cons.mp hmem with e1 | hmem
    · exact absurd (e1 ▸ Heap.lt_size eo) (Nat.lt_irrefl _)
    · cases hmem
  · show Value.bool _ = Value.bool _
    rw [← all_range, hb, List.size_toArray, List.length_map]
end
mutual
inductive Dp (K : PySem.W.Frag) (H : Hp) : V → PyData → Prop
  | non : Dp K H .non .none
  | bl (b : Bool) : Dp K H (.bl b) (.bool b)
  | int (i : Int) : Dp K H (.int i) (.int i)
  | str (x : Str) : Dp K H (.str x) (.str x)
  | lst {a : Addr} {xs : List V} {ds : List PyData} : SqL K H a xs → DpAll K H xs ds → Dp K H (.ref a) (.list ds)
  | tup {a : Addr} {xs : List V} {ds : List PyData} : SqT K H a xs → DpAll K H xs ds → Dp K H (.ref a) (.tuple ds)
inductive DpAll (K : PySem.W.Frag) (H : Hp) : List V → List PyData → Prop
  | nil : DpAll K H [] []
  | cons {v : V} {vs : List V} {d : PyData} {ds : List PyData} : Dp K H v d → DpAll K H vs ds → DpAll K H (v :: vs) (d :: ds)
end
section
variable {X : Cx} {pins : List (Addr × Obj)} {σ : St} {H : Hp} {s : Shared}
mutual
theorem Dp.reads (I : Inv X pins σ H s) : ∀ (d : PyData) (v : V) (u : Value), Dp X.K H v d → RelV v u → ∃ as, Reads s.heap u d as
  | .none, _, _, h, r => by
    cases h
    cases r
    exact ⟨_, Reads.none⟩
  | .bool b, _, _, h, r => by
    cases h
    cases r
    exact ⟨_, Reads.bool b⟩
  | .int i, _, _, h, r => by
    cases h
    obtain ⟨t, rfl⟩ := r
    exact ⟨_, Reads.int i t⟩
  | .str x, _, _, h, r => by
    cases h
    obtain ⟨t, rfl⟩ := r
    exact ⟨_, Reads.str x t⟩
  | .list ds, _, _, h, r => by
    cases h with
    | lst hs ha =>
      cases r
      obtain ⟨its, rv, ⟨o, n, ho, hc, _, hd⟩, _⟩ := I.list hs
      obtain ⟨as, hr⟩ := Dp.readsAll I ds _ its ha rv
      exact ⟨_, Reads.list ho hc hd hr⟩
  | .tuple ds, _, _, h, r => by
    cases h with
    | tup hs ha =>
      cases r
      obtain ⟨its, rv, ⟨o, ho, hc, n, hd⟩, _⟩ := I.tuple hs
      obtain ⟨as, hr⟩ := Dp.readsAll I ds _ its ha rv
      exact ⟨_, Reads.tuple ho hc hd hr⟩
  | .dict _, _, _, h, _ => by cases h
theorem Dp.readsAll (I : Inv X pins σ H s) : ∀ (ds : List PyData) (vs : List V) (us : List Value), DpAll X.K H vs ds → Vals vs us → ∃ as, ReadsAll s.heap us ds as
  | [], _, _, h, r => by
    cases h
    cases r
    exact ⟨_, ReadsAll.nil⟩
  | d :: ds, _, _, h, r => by
    cases h with
    | cons h1 h2 =>
      cases r with
      | cons r1 r2 =>
        obtain ⟨as, q1⟩ := Dp.reads I d _ _ h1 r1
        obtain ⟨bs, q2⟩ := Dp.readsAll I ds _ _ h2 r2
        exact ⟨_, ReadsAll.cons q1 q2⟩
end
end
section
variable {X : Cx}
def rEqD (K : PySem.W.Frag) : R2 := fun x y H Q => ∃ d e, Dp K H x d ∧ Dp K H y e ∧ SeqAt.shaped d = true ∧ SeqAt.shaped e = true ∧ Q (.bl (PyData.eqv d e)) H
def rNeD (K : PySem.W.Frag) : R2 := fun x y H Q => ∃ d e, Dp K H x d ∧ Dp K H y e ∧ SeqAt.shaped d = true ∧ SeqAt.shaped e = true ∧ Q (.bl (!PyData.eqv d e)) H
theorem op_eqD (hu : X.A.units + 64 < cLine) : OpR X (compareOp .Eq) (rEqD X.K) := by
  intro pins s σ H x y v u Q I rx ry h
  obtain ⟨d, e, hd, he, sd, se, q⟩ := h
  obtain ⟨as, r1⟩ := Dp.reads I d x v hd rx
  obtain ⟨bs, r2⟩ := Dp.reads I e y u he ry
  exact SeqAt.compareEq_shaped r1 r2 sd se hu ⟨.bl _, H, I, rfl, q⟩
theorem op_neD (hu : X.A.units + 64 < cLine) : OpR X (compareOp .NotEq) (rNeD X.K) := by
  intro pins s σ H x y v u Q I rx ry h
  obtain ⟨d, e, hd, he, sd, se, q⟩ := h
  obtain ⟨as, r1⟩ := Dp.reads I d x v hd rx
  obtain ⟨bs, r2⟩ := Dp.reads I e y u he ry
  exact SeqAt.compareNe_shaped r1 r2 sd se hu ⟨.bl _, H, I, rfl, q⟩
end
end L2
namespace L2
open PySem PySem.Spec PyProof.Rows
abbrev CellAt (h : Heap) (c : Addr) (v : Option Value) : Prop := h.IsCell c v
def relS (scope sc : Scope) : Scope :=
  { scope with names := scope.names.map fun (n, k) => if (k == .free && sc.kind == .function && sc.names.lookup n == some .cell) then (n, .cell) else (n, k) }
def cloFrom (cells : List (Str × Addr)) : List (Str × NameKind) → List (Str × Addr) → List (Str × Addr)
  | [], acc => acc
  | (n, k) :: r, acc => if k == .free then cloFrom cells r ((n, (cells.lookup n).getD 0) :: acc) else cloFrom cells r acc
theorem closure_loop (env : Env) (f : Str × NameKind → List (Str × Addr) → Sem (ForInStep (List (Str × Addr))))
    (hf : ∀ n k c, f (n, k) c = if k == .free then (do let a ← cellOf env n; pure (.yield ((n, a) :: c))) else pure (.yield c)) :
    ∀ (names : List (Str × NameKind)) (acc : List (Str × Addr)), (∀ y ∈ names, y.2 = .free → ∃ c, env.cells.lookup y.1 = some c) → forIn names acc f = pure (cloFrom env.cells names acc)
  | [], acc, _ => by rw [List.forIn_nil]; rfl
  | (n, k) :: r, acc, h => by
    rw [List.forIn_cons, hf]
    have ih := fun acc => closure_loop env f hf r acc fun y hy => h y (List.mem_cons_of_mem _ hy)
    unfold cloFrom
    by_cases hk : (k == NameKind.free) = true
    · rw [if_pos hk, if_pos hk]
      obtain ⟨c, hc⟩ := h (n, k) List.mem_cons_self (by simpa using hk)
      have e : cellOf env n = pure c := by unfold cellOf; rw [hc]
      rw [e]
      have e2 : (env.cells.lookup n).getD 0 = c := by rw [hc]; rfl
      rw [e2]
      exact ih _
    · rw [if_neg hk, if_neg hk]
      exact ih _
theorem closure_ok {scope : Scope} {env : Env} (h : ∀ y ∈ scope.names, y.2 = .free → ∃ c, env.cells.lookup y.1 = some c) : closureFor scope env = pure (cloFrom env.cells scope.names []) := by
  simp only [closureFor]
  rw [closure_loop env _ (fun n k c => rfl) scope.names [] h]
  rfl
theorem mem_lookup {α : Type} : ∀ {l : List (Str × α)} {n : Str} {c : α}, (n, c) ∈ l → ∃ c', l.lookup n = some c'
  | (k, v) :: r, n, c, h => by
    rw [List.lookup_cons]
    cases hb : n == k with
    | true => exact ⟨_, rfl⟩
    | false =>
      rcases List.mem_cons.mp h with e | h
      · cases e; simp at hb
      · exact mem_lookup h
theorem cloFrom_mem {cells : List (Str × Addr)} : ∀ {names : List (Str × NameKind)} {acc : List (Str × Addr)} {n : Str} {c : Addr}, (n, c) ∈ cloFrom cells names acc → (n, c) ∈ acc ∨ ((n, .free) ∈ names ∧ c = (cells.lookup n).getD 0)
  | [], _, _, _, h => .inl h
  | (m, k) :: r, acc, n, c, h => by
    unfold cloFrom at h
    split at h
    · rename_i hk
      have hk : k = .free := by simpa using hk
      rcases cloFrom_mem h with h | ⟨h1, h2⟩
      · rcases List.mem_cons.mp h with e | h
        · cases e; exact .inr ⟨hk ▸ List.mem_cons_self, rfl⟩
        · exact .inl h
      · exact .inr ⟨List.mem_cons_of_mem _ h1, h2⟩
    · rcases cloFrom_mem h with h | ⟨h1, h2⟩
      · exact .inl h
      · exact .inr ⟨List.mem_cons_of_mem _ h1, h2⟩
theorem cloFrom_acc {cells : List (Str × Addr)} : ∀ {names : List (Str × NameKind)} {acc : List (Str × Addr)} {p : Str × Addr}, p ∈ acc → p ∈ cloFrom cells names acc
  | [], _, _, h => h
  | (m, k) :: r, acc, p, h => by
    unfold cloFrom
    split
    · exact cloFrom_acc (List.mem_cons_of_mem _ h)
    · exact cloFrom_acc h
theorem cloFrom_has {cells : List (Str × Addr)} : ∀ {names : List (Str × NameKind)} {acc : List (Str × Addr)} {n : Str}, (n, .free) ∈ names → (n, (cells.lookup n).getD 0) ∈ cloFrom cells names acc
  | (m, k) :: r, acc, n, h => by
    unfold cloFrom
    rcases List.mem_cons.mp h with e | h
    · cases e
      exact cloFrom_acc List.mem_cons_self
    · split
      · exact cloFrom_has h
      · exact cloFrom_has h
theorem cells_mem : ∀ {names : List (Str × NameKind)} {h : Heap} {acc : List (Str × Addr)} {x : Str} {c : Addr}, (x, c) ∈ cellsFrom h.objs.size names acc →
    (x, c) ∈ acc ∨ ((x, .cell) ∈ names ∧ h.objs.size ≤ c ∧ CellAt (pushCells h names) c none)
  | [], _, _, _, _, h => .inl h
  | (n, k) :: r, h, acc, x, c, hm => by
    unfold cellsFrom at hm
    unfold pushCells
    split at hm
    · rename_i hk
      rw [if_pos hk]
      have hk : k = .cell := by simpa using hk
      rw [← Heap.size_push h { cls := .type "cell", data := .cell none }] at hm
      rcases cells_mem hm with hm | ⟨h1, h2, h3⟩
      · rcases List.mem_cons.mp hm with e | hm
        · cases e
          exact .inr ⟨hk ▸ List.mem_cons_self, Nat.le_refl _, _, pushCells_keeps r _ _ _ (Heap.get?_push_size _ rfl), rfl⟩
        · exact .inl hm
      · rw [Heap.size_push] at h2
        exact .inr ⟨List.mem_cons_of_mem _ h1, Nat.le_of_succ_le h2, h3⟩
    · rename_i hk
      rw [if_neg hk]
      rcases cells_mem hm with hm | ⟨h1, h2, h3⟩
      · exact .inl hm
      · exact .inr ⟨List.mem_cons_of_mem _ h1, h2, h3⟩
theorem cells_acc : ∀ {names : List (Str × NameKind)} {n : Nat} {acc : List (Str × Addr)} {p : Str × Addr}, p ∈ acc → p ∈ cellsFrom n names acc
  | [], _, _, _, h => h
  | (m, k) :: r, n, acc, p, h => by
    unfold cellsFrom
    split
    · exact cells_acc (List.mem_cons_of_mem _ h)
    · exact cells_acc h
theorem cells_has : ∀ {names : List (Str × NameKind)} {n : Nat} {acc : List (Str × Addr)} {x : Str}, (x, .cell) ∈ names → ∃ c, (x, c) ∈ cellsFrom n names acc
  | (m, k) :: r, n, acc, x, h => by
    unfold cellsFrom
    rcases List.mem_cons.mp h with e | h
    · cases e
      exact ⟨n, cells_acc List.mem_cons_self⟩
    · split
      · exact cells_has h
      · exact cells_has h
theorem cells_inj : ∀ {names : List (Str × NameKind)} {h : Heap} {acc : List (Str × Addr)} {x y : Str} {c : Addr}, (∀ p ∈ acc, p.2 < h.objs.size) → (∀ x y c, (x, c) ∈ acc → (y, c) ∈ acc → x = y) →
    (x, c) ∈ cellsFrom h.objs.size names acc → (y, c) ∈ cellsFrom h.objs.size names acc → x = y
  | [], _, _, _, _, _, _, hi, h1, h2 => hi _ _ _ h1 h2
  | (n, k) :: r, h, acc, x, y, c, hl, hi, h1, h2 => by
    unfold cellsFrom at h1 h2
    split at h1
    · rename_i hk
      rw [if_pos hk] at h2
      rw [← Heap.size_push h { cls := .type "cell", data := .cell none }] at h1 h2
      refine cells_inj (h := h.push _) (fun p hp => ?_) (fun x y c a b => ?_) h1 h2
      · rw [Heap.size_push]
        rcases List.mem_cons.mp hp with rfl | hp
        · exact Nat.lt_succ_self _
        · exact Nat.lt_succ_of_lt (hl p hp)
      · rcases List.mem_cons.mp a with e | a <;> rcases List.mem_cons.mp b with e' | b
        · cases e; cases e'; rfl
        · cases e; exact absurd (hl _ b) (Nat.lt_irrefl _)
        · cases e'; exact absurd (hl _ a) (Nat.lt_irrefl _)
        · exact hi _ _ _ a b
    · rename_i hk
      rw [if_neg hk] at h2
      exact cells_inj hl hi h1 h2
theorem newEnv_comp {M : Model} {A : Around} {E : Value → Shared → Prop} {s : Shared} {scope : Scope} {globals : Addr} {closure : List (Str × Addr)} {qual : Str} {func : Option Addr} {code : Value} {around : Env} {builtins : Addr} {Q : Env → Shared → Prop}
    (h : Q (newEnv scope s.heap.objs.size globals (cellsFrom (s.heap.objs.size + 1) scope.names closure) qual func code (some around) builtins)
      { s with heap := pushCells (s.heap.push { cls := .type "dict", data := .dict #[] }) scope.names }) :
    wpAny M A (newFunctionEnv scope globals closure [] qual func code (some around) builtins) Q E s := by
  simp only [newFunctionEnv, Option.isSome_some, if_true]
  refine wpAny_bind (wpAny_alloc ?_)
  refine wpAny_bind (wpAny_layCells _ (fun n k c => rfl) scope.names closure _ _ ?_)
  rw [show ({ s with heap := s.heap.push { cls := .type "dict", data := .dict #[] } } : Shared).heap.objs.size = s.heap.objs.size + 1 from Heap.size_push ..]
  rw [List.forIn_nil]
  exact wpAny_bind (wpAny_pure (wpAny_pure h))
theorem lookup_relS {sc : Scope} : ∀ {names : List (Str × NameKind)} {x : Str} {k : NameKind},
    (names.map fun (n, k) => if (k == NameKind.free && sc.kind == .function && sc.names.lookup n == some .cell) then (n, NameKind.cell) else (n, k)).lookup x = some k →
    ∃ k', names.lookup x = some k' ∧ (k = k' ∨ (k' = .free ∧ k = .cell))
  | [], _, _, h => by simp at h
  | (n, k₀) :: r, x, k, h => by
    have ih := @lookup_relS sc r x k
    have h' : List.lookup x ((if (k₀ == NameKind.free && sc.kind == .function && sc.names.lookup n == some .cell) = true then (n, NameKind.cell) else (n, k₀)) :: (r.map _)) = some k := h
    cases hx : x == n with
    | true =>
      simp only [List.lookup_cons, hx]
      by_cases hc : (k₀ == NameKind.free && sc.kind == .function && sc.names.lookup n == some .cell) = true
      · rw [if_pos hc] at h'
        simp only [List.lookup_cons, hx] at h'
        cases h'
        simp only [Bool.and_eq_true, beq_iff_eq] at hc
        exact ⟨k₀, rfl, .inr ⟨hc.1.1, rfl⟩⟩
      · rw [if_neg hc] at h'
        simp only [List.lookup_cons, hx] at h'
        cases h'
        exact ⟨_, rfl, .inl rfl⟩
    | false =>
      simp only [List.lookup_cons, hx]
      by_cases hc : (k₀ == NameKind.free && sc.kind == .function && sc.names.lookup n == some .cell) = true
      · rw [if_pos hc] at h'
        simp only [List.lookup_cons, hx] at h'
        exact ih h'
      · rw [if_neg hc] at h'
        simp only [List.lookup_cons, hx] at h'
        exact ih h'
structure BlkOk (N : List Str) (sc scope : Scope) (own : List (Str × Nat)) : Prop where
  kind : scope.kind = .function
  uniq : ∀ y ∈ scope.names, scope.names.lookup y.1 = some y.2
  ix : ∀ p ∈ own, N[p.2]? = some p.1
  free : ∀ y ∈ scope.names, y.2 = .free → sc.names.lookup y.1 = some .cell ∨ sc.names.lookup y.1 = some .free
  own : ∀ y ∈ scope.names, y.2 = .local ∨ y.2 = .cell → y.1 ∈ own.map (·.1) ∨ y.1 ∉ N
def wipe (σ : St) : List Nat → St
  | [] => σ
  | v :: vs => (wipe σ vs).set v none
theorem wipe_length (σ : St) : ∀ vs : List Nat, (wipe σ vs).length = σ.length
  | [] => rfl
  | v :: vs => by unfold wipe; rw [List.length_set, wipe_length σ vs]
theorem wipe_some {σ : St} {i : Nat} {x : V} : ∀ {vs : List Nat}, (wipe σ vs)[i]? = some (some x) → σ[i]? = some (some x) ∧ i ∉ vs
  | [], h => ⟨h, by simp⟩
  | v :: vs, h => by
    unfold wipe at h
    by_cases hi : v = i
    · subst hi
      by_cases hv : v < (wipe σ vs).length
      · rw [List.getElem?_set_self hv] at h; cases h
      · rw [List.getElem?_eq_none (by simpa using hv)] at h; cases h
    · rw [List.getElem?_set_ne hi] at h
      obtain ⟨h1, h2⟩ := wipe_some h
      exact ⟨h1, by simp only [List.mem_cons, not_or]; exact ⟨fun e => hi e.symm, h2⟩⟩
abbrev Cx.blk (X : Cx) (s : Shared) (H : Hp) (scope : Scope) (cenv : Env) (fp : List Addr) : Cx := { X with s_0 := s, H_0 := H, env := cenv, outer := X.stack, ex := fp, fn := fun x => scope.names.lookup x == some .cell, pn := [], xe := fun _ _ => False }
section
variable {X : Cx} {pins : List (Addr × Obj)} {σ : St} {H : Hp} {s : Shared}
theorem block_start {scope : Scope} {own : List (Str × Nat)} {fp : List Addr} (I : Inv X pins σ H s) (ok : BlkOk X.N X.env.scope scope own) (hN : X.N.Nodup) (hfp : ∀ b ∈ fp, FpOk X pins H b ∧ b < s.heap.objs.size) :
    Inv (X.blk s H scope (compEnvC scope (cellsFrom (s.heap.objs.size + 1) scope.names (cloFrom X.env.cells scope.names [])) s.heap.objs.size X.env) fp) [] (wipe σ (own.map (·.2))) H { s with heap := pushCells (s.heap.push { cls := .type "dict", data := .dict #[] }) scope.names } := by
  have hfree : ∀ y ∈ scope.names, y.2 = .free → ∃ c, X.env.cells.lookup y.1 = some c := fun y hy e => by
    rcases ok.free y hy e with k | k
    · exact I.ok.has _ (.inl k)
    · exact I.ok.has _ (.inr k)
  generalize hcenv : compEnvC scope (cellsFrom (s.heap.objs.size + 1) scope.names (cloFrom X.env.cells scope.names [])) s.heap.objs.size X.env = cenv
  have kp : ∀ b o, s.heap.get? b = some o → (pushCells (s.heap.push { cls := .type "dict", data := .dict #[] }) scope.names).get? b = some o := fun b o e => pushCells_keeps _ _ _ _ (Heap.get?_push_of_some _ e)
  have hL : cenv.locals = s.heap.objs.size := by rw [← hcenv]; rfl
  have hcl : cenv.cells = cellsFrom (s.heap.objs.size + 1) scope.names (cloFrom X.env.cells scope.names []) := by rw [← hcenv]; rfl
  have hsc : cenv.scope = relS scope X.env.scope := by rw [← hcenv]; rfl
  rw [← Heap.size_push s.heap { cls := .type "dict", data := .dict #[] }] at hcl
  have cm : ∀ {y c}, (y, c) ∈ cloFrom X.env.cells scope.names [] → X.env.cells.lookup y = some c ∧ c < s.heap.objs.size := fun {y c} hm => by
    rcases cloFrom_mem hm with hm | ⟨h1, rfl⟩
    · cases hm
    · obtain ⟨c, hc⟩ := hfree _ h1 rfl
      rw [hc]
      obtain ⟨w, z⟩ := I.cell _ _ hc
      exact ⟨rfl, z.lt⟩
  have mem : ∀ {y c}, cenv.cells.lookup y = some c → (X.env.cells.lookup y = some c ∧ c < s.heap.objs.size) ∨ (s.heap.objs.size + 1 ≤ c ∧ CellAt (pushCells (s.heap.push { cls := .type "dict", data := .dict #[] }) scope.names) c none) := fun {y c} e => by
    rw [hcl] at e
    rcases cells_mem (PySem.mem_of_lookup e) with hm | ⟨_, h2, h3⟩
    · exact .inl (cm hm)
    · rw [Heap.size_push] at h2; exact .inr ⟨h2, h3⟩
  have look : ∀ {y}, scope.names.lookup y = some .free → ∃ c, cenv.cells.lookup y = some c ∧ X.env.cells.lookup y = some c := fun {y} hl => by
    have hy : (y, NameKind.free) ∈ scope.names := PySem.mem_of_lookup hl
    obtain ⟨c', e'⟩ := mem_lookup (cells_acc (names := scope.names) (n := (s.heap.push { cls := .type "dict", data := .dict #[] }).objs.size) (cloFrom_has (cells := X.env.cells) (acc := []) hy))
    rw [← hcl] at e'
    refine ⟨c', e', ?_⟩
    rw [hcl] at e'
    rcases cells_mem (PySem.mem_of_lookup e') with hm | ⟨h1, _, _⟩
    · exact (cm hm).1
    · have := ok.uniq _ h1
      rw [hl] at this; cases this
  have okB : (X.blk s H scope cenv fp).Ok := by
    refine ⟨I.ok.mod, by show cenv.scope.kind = _; rw [hsc]; exact ok.kind, by show cenv.globals = _; rw [← hcenv]; exact I.ok.glob, by show cenv.builtins = _; rw [← hcenv]; exact I.ok.blt, by show s.heap.objs.size ≤ cenv.locals; rw [hL]; exact Nat.le_refl _,
      fun y z c e1 e2 => ?_, fun y hy => ?_, fun y c z e => ?_, I.ok.hd, I.ok.frames, .inl rfl, fun b hb => ⟨?_, fun y c e z => ?_⟩, I.bs, Nat.le_trans I.ok.bsz I.sz, fun b o e hb => ?_, fun b hb z => ?_, I.stack, I.stkFree⟩
    · have e1 : cenv.cells.lookup y = some c := e1
      have e2 : cenv.cells.lookup z = some c := e2
      rw [hcl] at e1 e2
      refine cells_inj (fun p hp => ?_) (fun y z c a b => I.ok.inj y z c (cm a).1 (cm b).1) (PySem.mem_of_lookup e1) (PySem.mem_of_lookup e2)
      rw [Heap.size_push]
      exact Nat.lt_succ_of_lt (cm (y := p.1) (c := p.2) hp).2
    · show ∃ c, cenv.cells.lookup y = some c
      have key : ∀ k, cenv.kindOf y = some k → (k = .cell ∨ k = .free) → ∃ c, cenv.cells.lookup y = some c := fun k hk hk' => by
        unfold Env.kindOf at hk
        rw [hsc] at hk
        obtain ⟨k', e, r⟩ := lookup_relS hk
        have : k' = .cell ∨ k' = .free := by
          rcases r with rfl | ⟨rfl, _⟩
          · exact hk'
          · exact .inr rfl
        rcases this with rfl | rfl
        · obtain ⟨c, hm⟩ := cells_has (n := (s.heap.push { cls := .type "dict", data := .dict #[] }).objs.size) (acc := cloFrom X.env.cells scope.names []) (PySem.mem_of_lookup e)
          obtain ⟨c', e'⟩ := mem_lookup hm
          exact ⟨c', by rw [hcl]; exact e'⟩
        · obtain ⟨c, h1, _⟩ := look e
          exact ⟨c, h1⟩
      rcases hy with hy | hy
      · exact key _ hy (.inl rfl)
      · exact key _ hy (.inr rfl)
    · have z : (scope.names.lookup y == some NameKind.cell) = true := z
      have z : scope.names.lookup y = some .cell := by simpa using z
      have e : cenv.cells.lookup y = some c := e
      rw [hcl] at e
      rcases cells_mem (PySem.mem_of_lookup e) with hm | ⟨_, h2, _⟩
      · rcases cloFrom_mem hm with hm | ⟨h1, _⟩
        · cases hm
        · have q := ok.uniq _ h1
          rw [z] at q; cases q
      · rw [Heap.size_push] at h2
        exact Nat.le_of_succ_le h2
    · show b ≠ cenv.locals
      rw [hL]; exact Nat.ne_of_lt (hfp b hb).2
    · have e : cenv.cells.lookup y = some c := e
      rcases mem e with ⟨h1, _⟩ | ⟨h1, _⟩
      · exact (hfp b hb).1.2.2.2.2.1 y c h1 z
      · have h2 : s.heap.objs.size + 1 ≤ b := by rw [← z]; exact h1
        exact absurd (Nat.lt_of_lt_of_le (hfp b hb).2 (Nat.le_of_succ_le h2)) (Nat.lt_irrefl _)
    · rcases (hfp b hb).1.2.2.2.1 with z | z
      · exact I.ok.noex b o e z
      · exact absurd (Nat.lt_of_lt_of_le (Heap.lt_size e) (Nat.le_trans I.ok.bsz z)) (Nat.lt_irrefl _)
    · rcases List.mem_cons.mp (I.stkSub b z) with z | z
      · exact (hfp b hb).1.2.1 z
      · exact (hfp b hb).1.2.2.1 z
  refine ⟨okB, rfl, I.bare, Un.kept kp, ⟨fun _ => none, ?_, fun i y av e1 e2 e3 => ?_⟩, fun y c e => ?_, ?_, fun y c e => ?_, fun p hp => ?_, I.hok.kept kp, by rw [wipe_length]; exact I.len⟩
  · show Heap.Ns _ cenv.locals _
    rw [hL]
    exact Heap.Ns.keeps (Heap.Ns.new ..) fun b o e => pushCells_keeps _ _ _ _ e
  · obtain ⟨e2, hne⟩ := wipe_some e2
    have hfr : scope.names.lookup y = some .free ∧ (cenv.kindOf y = some .cell ∨ cenv.kindOf y = some .free) := by
      have key : ∀ k, cenv.scope.names.lookup y = some k → k = .local ∨ k = .cell ∨ k = .free → scope.names.lookup y = some .free ∧ (cenv.kindOf y = some .cell ∨ cenv.kindOf y = some .free) := fun k hk hk' => by
        have hk0 := hk
        rw [hsc] at hk
        obtain ⟨k', e, r⟩ := lookup_relS hk
        have no : ¬ (k' = .local ∨ k' = .cell) := fun hh => by
          rcases ok.own _ (PySem.mem_of_lookup e) hh with e' | e'
          · obtain ⟨p, hp, hpy⟩ := List.mem_map.mp e'
            have e3 := ok.ix p hp
            have : p.1 = y := hpy
            rw [this] at e3
            exact hne (List.mem_map.mpr ⟨p, hp, nodup_ix hN e3 e1⟩)
          · exact e' (List.mem_of_getElem? e1)
        rcases r with rfl | ⟨rfl, rfl⟩
        · rcases hk' with rfl | rfl | rfl
          · exact absurd (.inl rfl) no
          · exact absurd (.inr rfl) no
          · exact ⟨e, .inr hk0⟩
        · exact ⟨e, .inl hk0⟩
      have e3 : Vis cenv.scope y := e3
      rcases e3 with e3 | e3 | e3
      · exact key _ e3 (.inl rfl)
      · exact key _ e3 (.inr (.inl rfl))
      · exact key _ e3 (.inr (.inr rfl))
    obtain ⟨m, hn, hl⟩ := I.loc
    have hvis : Vis X.env.scope y := (ok.free _ (PySem.mem_of_lookup hfr.1) rfl).elim (fun k => .inr (.inl k)) (fun k => .inr (.inr k))
    obtain ⟨w, r, q⟩ := hl i y av e1 e2 hvis
    refine ⟨w, r, .inr ⟨hfr.2, ?_⟩⟩
    obtain ⟨c, h1, h2⟩ := look hfr.1
    rcases q with ⟨k, _⟩ | ⟨_, c', e', z⟩
    · have k : X.env.scope.names.lookup y = some .local := k
      rcases ok.free _ (PySem.mem_of_lookup hfr.1) rfl with k' | k' <;> rw [show X.env.scope.names.lookup y = _ from k'] at k <;> cases k
    · rw [h2] at e'; cases e'
      exact ⟨c, h1, z.keeps kp⟩
  · have e : cenv.cells.lookup y = some c := e
    rcases mem e with ⟨h1, _⟩ | ⟨_, z⟩
    · obtain ⟨w, z⟩ := I.cell y c h1
      exact ⟨w, z.keeps kp⟩
    · exact ⟨_, z⟩
  · show H cenv.locals = none
    rw [hL]; exact I.hok.fresh (Nat.le_refl _)
  · have e : cenv.cells.lookup y = some c := e
    rcases mem e with ⟨h1, _⟩ | ⟨h1, _⟩
    · exact I.freeC y c h1
    · exact I.hok.fresh (Nat.le_of_succ_le h1)
  · exact absurd (show p ∈ ([] : List (Addr × Obj)) ++ [] from hp) (by simp)
theorem app_ok {E : Value → Shared → Prop} {D : Addr} {xs : List V} {y : V} {v : Value} {Q : Value → Shared → Prop} (I : Inv X pins σ H s) (hD : H D = some (.lst xs)) (hz : xs.length < sizeLine) (r : RelV y v)
    (h : ∀ s', Inv X pins σ (upd H D (.lst (xs ++ [y]))) s' → Q .none s') : wpAny (model X.prog X.w) X.A (call (.builtin "list.append") [.ref D, v]) Q E s := by
  obtain ⟨hz', its, n, ri, e⟩ := I.hok D _ hD
  have hl := ri.length
  refine append_at (hsz := by rw [List.size_toArray]; omega) e fun h' sb ho' => ?_
  refine h { s with heap := h' } (I.write (t' := s.toks) (by rw [hD]; trivial) (.inl rfl) (fun b u hb q => (sb.2 b hb).trans q) ⟨_, ho'⟩ ⟨by rw [List.length_append]; exact hz, its ++ [v], n + 1, ri.append (.cons r .nil), ?_⟩)
  rw [ho']
  simp
def PTs (X : Cx) (ifs : List Expr) (t : TT) : Prop :=
  ∀ (pins : List (Addr × Obj)) (s : Shared) (σ : St) (H : Hp) (Q : Bool → Hp → Prop), Inv X pins σ H s → t σ H Q →
    wpAny (model X.prog X.w) X.A (forIn ifs true fun c r => if r = true then do let ok ← isTrue c X.env (eval c X.env); pure (ForInStep.yield ok) else pure (ForInStep.yield r)) (TP X pins σ Q) X.xe s
def tYes : TT := fun _ H Q => Q true H
theorem pts_nil : PTs X [] tYes := fun _ _ _ H _ I h => wpAny_tests_nil ⟨H, I, h⟩
theorem pts_one {c : Expr} {t : TT} (h : PT X c t) : PTs X [c] t := fun pins s σ H Q I hw => wpAny_tests_one (h pins s σ H Q I hw)
end
theorem thnF {α : Type} {t : Sem α} {Q Q' : α → Shared → Prop} {M : Model} {A : Around} {E : Value → Shared → Prop} {s : Shared} (h : wpAny M A t Q (fun _ _ => False) s) (hQ : ∀ a s, Q a s → Q' a s) : wpAny M A t Q' E s := wpAny_mono h hQ fun _ _ z => False.elim z
theorem compLoop_any {prog : Program} {w : World} {A : Around} {R : Result → Shared → Prop} {s : Shared} {elt target iter : Expr} {ifs : List Expr} {scope : Scope} {pos : Pos} {it acc : Value} {env : Env} (I : Nat → Shared → Prop)
    (turn : ∀ n s, I n s → wpAny (model prog w) A (pyNext it) (fun r s₁ => match r with
      | none => R (.ok .next) s₁
      | some v => wpAny (model prog w) A (letOwnedTupleGo target it v) (fun _ s₁' => wpAny (model prog w) A (assign target env v) (fun _ s₂ =>
          wpAny (model prog w) A (forIn ifs true fun c r => if r = true then do let ok ← isTrue c env (eval c env); pure (ForInStep.yield ok) else pure (ForInStep.yield r)) (fun ok s₃ =>
            if ok = true then wpAny (model prog w) A (eval elt env) (fun x s₄ =>
              wpAny (model prog w) A (call (.builtin "list.append") [acc, x]) (fun _ s₅ => ∃ m, m < n ∧ I m s₅) (notedBy (model prog w) A env fun e s' => R (.error e) s') s₄) (notedBy (model prog w) A env fun e s' => R (.error e) s') s₃
            else ∃ m, m < n ∧ I m s₃) (notedBy (model prog w) A env fun e s' => R (.error e) s') s₂) (notedBy (model prog w) A env fun e s' => R (.error e) s') s₁') (notedBy (model prog w) A env fun e s' => R (.error e) s') s₁) (notedBy (model prog w) A env fun e s' => R (.error e) s') s)
    (n : Nat) (h : I n s) :
    codeAny (model prog w) A (.compLoop (.ListComp elt [⟨target, iter, ifs, 0⟩] scope pos) 0 it acc env) R s := by
  refine codeAny_loop rfl I (fun n s hI => ?_) n h
  show wpAny _ A ((compTurn (.ListComp elt [⟨target, iter, ifs, 0⟩] scope pos) 0 it acc env).onRaise (fun x => do noteFrame x env; theTreesLotGoes x)) _ _ s
  refine wpAny_noted ?_
  rw [compTurn_list]
  refine wpAny_bind (wpAny_standAt (wpAny_bind (wpAny_mono (turn n s hI) (fun r s₁ h₁ => ?_) fun _ _ h' => h')))
  cases r with
  | none => exact wpAny_pure h₁
  | some v =>
    refine wpAny_bind (wpAny_mono h₁ (fun _ s₁' h₁' => ?_) fun _ _ h' => h')
    refine wpAny_bind (wpAny_mono h₁' (fun _ s₂ h₂ => wpAny_bind (wpAny_mono h₂ (fun ok s₃ h₃ => ?_) fun _ _ h' => h')) fun _ _ h' => h')
    cases ok with
    | false => exact wpAny_pure ⟨rfl, h₃⟩
    | true =>
      exact wpAny_bind (wpAny_bind (wpAny_mono h₃ (fun x s₄ h₄ => wpAny_bind (wpAny_mono h₄ (fun _ s₅ h₅ => wpAny_pure (wpAny_pure ⟨rfl, h₅⟩)) fun _ _ h' => h')) fun _ _ h' => h'))
section
variable {X : Cx}
def tLc (wi : TI) (g : TG) (tt : TT) (te : TE) (vs : List Nat) : TE := fun σ H Q => wi σ H fun J H1 => ∀ D, H1 D = none → ∃ W : Nat → Nat → Hp → Prop, (∃ m, W 0 m (upd H1 D (.lst []))) ∧ ∀ i m H, W i m H →
  (J.stop i H ∧ Q (.ref D) H) ∨ (J.go i H ∧ ∃ Nx : Hp → Prop, (∀ H', Nx H' → ∃ m', m' < m ∧ W (i + 1) m' H') ∧ ∀ x H', J.yld i H x H' → g x (wipe σ vs) H' fun σ2 H2 => wipe σ2 vs = wipe σ vs ∧ tt σ2 H2 fun b H3 =>
    if b = true then te σ2 H3 fun y H4 => ∃ acc, H4 D = some (.lst acc) ∧ acc.length < sizeLine ∧ Nx (upd H4 D (.lst (acc ++ [y]))) else Nx H3)
theorem lc_core {pins : List (Addr × Obj)} {s : Shared} {σ : St} {H : Hp} {Q : VK} {elt tg iter : Expr} {ifs : List Expr} {scope : Scope} {own : List (Str × Nat)} {pos pos' : Pos} {wi : TI} {g : TG} {tt : TT} {te : TE} {use : Option (Value → Sem Unit)} {Qf : Value → Shared → Prop}
    (hc : X.calm = true) (hN : X.N.Nodup) (I : Inv X pins σ H s) (hi : PI X tg iter wi) (ok : BlkOk X.N X.env.scope scope own)
    (hg : ∀ (s : Shared) (H : Hp) (C : Addr) (cl : List (Str × Addr)) (fp : List Addr), PG (X.blk s H scope (compEnvC scope cl C X.env) fp) tg g) (ht : ∀ (s : Shared) (H : Hp) (C : Addr) (cl : List (Str × Addr)) (fp : List Addr), PTs (X.blk s H scope (compEnvC scope cl C X.env) fp) ifs tt)
    (he : ∀ (s : Shared) (H : Hp) (C : Addr) (cl : List (Str × Addr)) (fp : List Addr), PE (X.blk s H scope (compEnvC scope cl C X.env) fp) elt te) (hs : ∀ x, foldedSetIterable iter X.env x = pure x)
    (h : tLc wi g tt te (own.map (·.2)) σ H Q)
    (hRR : ∀ D C s' m H', Inv X pins σ H' s' → Q (.ref D) H' → s'.heap.Ns C m → FpOk X pins H' C → compPost (model X.prog X.w) X.A X.xe use Qf (.ref D) C (.ok .next) s') :
    wpAny (model X.prog X.w) X.A (comprehension (.ListComp elt [⟨tg, iter, ifs, 0⟩] scope pos) scope X.env pos' (newList []) false (eval iter X.env) use) Qf X.xe s := by
  have hfree : ∀ y ∈ scope.names, y.2 = .free → ∃ c, X.env.cells.lookup y.1 = some c := fun y hy e => by
    rcases ok.free y hy e with k | k
    · exact I.ok.has _ (.inl k)
    · exact I.ok.has _ (.inr k)
  refine wpAny_comprehension_free (use := use) rfl hs (closure_ok hfree) ok.kind (fun y hy e => by rw [ok.uniq y hy, e])
    (thn (hi pins s σ H _ I h) fun xv s1 hx => thn hx fun itv s2 h2 => ?_)
  obtain ⟨it, fp, tn, J, H2, e, I2, T, st2, f2, q⟩ := h2
  subst e
  refine wpAny_newObj_type (newEnv_comp ?_) (by show 0 ≤ sizeLine; decide)
  generalize hD : s2.heap.objs.size = D
  have hDn : H2 D = none := I2.hok.fresh (Nat.le_of_eq hD)
  obtain ⟨W, ⟨m0, w0⟩, turn⟩ := q D hDn
  -- the new list
  generalize hs3 : ({ s2 with heap := s2.heap.push { cls := .type "list", data := .seq ([] : List Value).toArray } } : Shared) = s3
  have I3 : Inv X pins σ (upd H2 D (.lst [])) s3 := by
    rw [← hs3]
    refine I2.laid (t' := s2.toks) (fun b o e => Heap.get?_push_of_some _ e) (Nat.le_of_eq hD) ⟨Nat.zero_le _, [], 0, .nil, ?_⟩
    rw [← hD]
    exact Heap.get?_push_size _ rfl
  have h3 : s3.heap = s2.heap.push { cls := .type "list", data := .seq ([] : List Value).toArray } := by rw [← hs3]
  have sz : ∀ b ∈ fp, b < s2.heap.objs.size := fun b hb => by
    obtain ⟨o, e, _⟩ := T.obj _ _ st2 b hb
    exact Heap.lt_size e
  have f3 : ∀ b ∈ fp, FpOk X pins (upd H2 D (.lst [])) b ∧ b < s3.heap.objs.size := fun b hb => by
    have hlt := sz b hb
    refine ⟨⟨?_, (f2 b hb).2⟩, by rw [h3, Heap.size_push]; exact Nat.lt_succ_of_lt hlt⟩
    rw [upd_ne (by rw [← hD]; exact Nat.ne_of_lt hlt)]
    exact (f2 b hb).1
  have st3 : tn 0 s3.heap := T.keep _ _ _ st2 fun b _ o e => by rw [h3]; exact Heap.get?_push_of_some _ e
  have I4 := block_start I3 ok hN f3
  have pg := hg s3 (upd H2 D (.lst [])) s3.heap.objs.size (cellsFrom (s3.heap.objs.size + 1) scope.names (cloFrom X.env.cells scope.names [])) fp
  have pt := ht s3 (upd H2 D (.lst [])) s3.heap.objs.size (cellsFrom (s3.heap.objs.size + 1) scope.names (cloFrom X.env.cells scope.names [])) fp
  have pe := he s3 (upd H2 D (.lst [])) s3.heap.objs.size (cellsFrom (s3.heap.objs.size + 1) scope.names (cloFrom X.env.cells scope.names [])) fp
  show codeAny _ _ (.compStart (.ListComp elt [⟨tg, iter, ifs, 0⟩] scope pos) 0 (.ref it) (.ref D) (compEnvC scope (cellsFrom (s3.heap.objs.size + 1) scope.names (cloFrom X.env.cells scope.names [])) s3.heap.objs.size X.env)) (compPost (model X.prog X.w) X.A X.xe use Qf (.ref D) s3.heap.objs.size) { s3 with heap := pushCells (s3.heap.push { cls := .type "dict", data := .dict #[] }) scope.names }
  have nfp : ∀ b ∈ fp, (upd H2 D (.lst [])) b = none := fun b hb => (f3 b hb).1.1
  generalize hce : compEnvC scope (cellsFrom (s3.heap.objs.size + 1) scope.names (cloFrom X.env.cells scope.names [])) s3.heap.objs.size X.env = ce at I4 pg pt pe ⊢
  have cL : ce.locals = s3.heap.objs.size := by subst hce; rfl
  generalize hH3 : upd H2 D (.lst []) = H3 at I3 I4 pg pt pe w0 nfp f3
  generalize hs4 : ({ s3 with heap := pushCells (s3.heap.push { cls := .type "dict", data := .dict #[] }) scope.names } : Shared) = s4 at I4 ⊢
  have st4 : tn 0 s4.heap := T.keep _ _ _ st3 fun b _ o e => by rw [← hs4]; exact pushCells_keeps _ _ _ _ (Heap.get?_push_of_some _ e)
  have stat : ∀ {σ' : St} {H' : Hp} {s' : Shared}, Inv (X.blk s3 H3 scope ce fp) [] σ' H' s' → (∀ b ∈ fp, H' b = none) → ∀ b ∈ fp, FpOk (X.blk s3 H3 scope ce fp) [] H' b := fun {σ' H' s'} I' hn b hb =>
    ⟨hn b hb, (I'.ok.exf b hb).1, I'.ok.exfs b hb, .inl hb, fun x c e => (I'.ok.exf b hb).2 x c e, fun p hp => absurd (show p ∈ ([] : List (Addr × Obj)) ++ [] from hp) (by simp)⟩
  have loop : codeAny (model X.prog X.w) X.A (.compLoop (.ListComp elt [⟨tg, iter, ifs, 0⟩] scope pos) 0 (.ref it) (.ref D) ce) (compPost (model X.prog X.w) X.A X.xe use Qf (.ref D) s3.heap.objs.size) s4 := by
    refine compLoop_any (fun n s' => ∃ i H', Inv (X.blk s3 H3 scope ce fp) [] (wipe σ (own.map (·.2))) H' s' ∧ tn i s'.heap ∧ (∀ b ∈ fp, H' b = none) ∧ W i n H') ?_ m0 ⟨0, H3, I4, st4, nfp, w0⟩
    rintro n s5 ⟨i, H5, I5, st5, n5, w5⟩
    rcases turn i n H5 w5 with ⟨stop, qq⟩ | ⟨go, Nx, hNx, step⟩
    · have td := T.done (X.blk s3 H3 scope ce fp) rfl rfl rfl hc i [] s5 _ H5 (fun _ _ => False) I5 (stat I5 n5) st5 stop
      refine thnF td fun r s6 ⟨hr, I6⟩ => ?_
      subst hr
      -- back in the def's context
      have I7 : Inv X pins σ H5 s6 := I3.call' (ch := fp) I6.os I6.base I6.hok I6.bare fun b hb => ⟨(f3 b hb).1.2.2.2.1, (f3 b hb).1.2.1, (f3 b hb).1.2.2.2.2.1, (f3 b hb).1.2.2.2.2.2⟩
      have nC : H5 s3.heap.objs.size = none := by
        have z : H5 ce.locals = none := I6.free
        rw [cL] at z
        exact z
      obtain ⟨m, hn, _⟩ := I6.loc
      have hn : s6.heap.Ns ce.locals m := hn
      rw [cL] at hn
      exact hRR D s3.heap.objs.size s6 m H5 I7 qq hn (I3.fpOk (Nat.le_refl _) nC)
    · have ti := T.item (X.blk s3 H3 scope ce fp) rfl rfl rfl hc i [] s5 _ H5 (fun _ _ => False) I5 (stat I5 n5) st5 go
      refine thnF ti fun r s6 ⟨u, hr, h6⟩ => ?_
      subst hr
      refine thnF h6 fun _ s7 ⟨x, H7, I7, r7, y7, st7, n7⟩ => ?_
      have I7' := I7.pinned (stat I7 n7) (T.obj _ _ st7)
      refine thnF (pg _ s7 _ H7 x u _ I7' r7 (step x H7 y7)) fun _ s8 ⟨σ8, H8, I8, hw8, q8⟩ => ?_
      refine thnF (pt _ s8 σ8 H8 _ I8 q8) fun b s9 ⟨H9, I9, q9⟩ => ?_
      -- the turn's end
      have fin : ∀ {s' : Shared} {H' : Hp}, Inv (X.blk s3 H3 scope ce fp) ([] ++ pinsAt fp s7.heap) σ8 H' s' → Nx H' → ∃ m, m < n ∧ ∃ i H', Inv (X.blk s3 H3 scope ce fp) [] (wipe σ (own.map (·.2))) H' s' ∧ tn i s'.heap ∧ (∀ b ∈ fp, H' b = none) ∧ W i m H' := fun {s' H'} I' nx => by
        obtain ⟨m', hm, w'⟩ := hNx H' nx
        have pin' : ∀ b ∈ fp, ∀ o, s7.heap.get? b = some o → s'.heap.get? b = some o ∧ H' b = none := fun b hb o e =>
          let z := I'.pin (b, o) (List.mem_append_right _ (List.mem_append_right _ (mem_pinsAt hb e)))
          ⟨z.1, z.2.1⟩
        have hl : (wipe σ (own.map (·.2))).length = σ8.length := by rw [← hw8, wipe_length]
        refine ⟨m', hm, i + 1, H', (I'.unpinned (pins := [])).weak hl (fun j v e => ?_), T.keep _ _ _ st7 fun b hb o e => (pin' b hb o e).1, fun b hb => ?_, w'⟩
        · rw [← hw8] at e
          exact (wipe_some e).1
        · obtain ⟨o, e, _⟩ := T.obj _ _ st7 b hb
          exact (pin' b hb o e).2
      cases b with
      | false =>
        simp only [Bool.false_eq_true, if_false] at q9 ⊢
        exact fin I9 q9
      | true =>
        simp only [if_true] at q9 ⊢
        refine thnF (pe _ s9 σ8 H9 _ I9 q9) fun z s10 ⟨yv, H10, I10, r10, acc, hD10, hz10, nx⟩ => ?_
        exact app_ok (X := X.blk s3 H3 scope ce fp) I10 hD10 hz10 r10 fun s11 I11 => fin I11 nx
  exact codeAny_compStart_list loop (T.self X.A 0 _ _ _ st4 loop)
theorem pe_lc {elt tg iter : Expr} {ifs : List Expr} {scope : Scope} {own : List (Str × Nat)} {pos : Pos} {wi : TI} {g : TG} {tt : TT} {te : TE} (hc : X.calm = true) (hN : X.N.Nodup) (hi : PI X tg iter wi) (ok : BlkOk X.N X.env.scope scope own)
    (hg : ∀ (s : Shared) (H : Hp) (C : Addr) (cl : List (Str × Addr)) (fp : List Addr), PG (X.blk s H scope (compEnvC scope cl C X.env) fp) tg g) (ht : ∀ (s : Shared) (H : Hp) (C : Addr) (cl : List (Str × Addr)) (fp : List Addr), PTs (X.blk s H scope (compEnvC scope cl C X.env) fp) ifs tt)
    (he : ∀ (s : Shared) (H : Hp) (C : Addr) (cl : List (Str × Addr)) (fp : List Addr), PE (X.blk s H scope (compEnvC scope cl C X.env) fp) elt te) (hs : ∀ x, foldedSetIterable iter X.env x = pure x := by intro _; rfl) :
    PE X (.ListComp elt [⟨tg, iter, ifs, 0⟩] scope pos) (tLc wi g tt te (own.map (·.2))) := by
  intro pins s σ H Q I h
  rw [eval_ListComp]
  refine lc_core hc hN I hi ok hg ht he hs h fun D C s' m H' I' q hn f => ⟨m, hn, fun h'' sb => ?_⟩
  obtain ⟨f0, f1, f2, f3, f4, f5⟩ := f
  exact ⟨.ref D, H', I'.turned (t' := s'.toks) (fun b o hb e => (sb.2 b hb).trans e) f0 f1 f3 f4 f5, rfl, q⟩
end
def blkC (N : List Str) (sc scope : Scope) (own : List (Str × Nat)) : Bool :=
  (match scope.kind with | .function => true | _ => false) && (scope.names.all fun y => decide (scope.names.lookup y.1 = some y.2)) && (own.all fun p => decide (N[p.2]? = some p.1)) &&
    (scope.names.all fun y => match y.2 with
      | .free => (match sc.names.lookup y.1 with | some .cell => true | some .free => true | _ => false)
      | .local => decide (y.1 ∈ own.map (·.1)) || decide (y.1 ∉ N)
      | .cell => decide (y.1 ∈ own.map (·.1)) || decide (y.1 ∉ N)
      | _ => true)
theorem blkOk_by {N : List Str} {sc scope : Scope} {own : List (Str × Nat)} (h : blkC N sc scope own = true) : BlkOk N sc scope own := by
  unfold blkC at h
  simp only [Bool.and_eq_true, List.all_eq_true, decide_eq_true_eq] at h
  obtain ⟨⟨⟨h1, h2⟩, h3⟩, h4⟩ := h
  refine ⟨?_, h2, h3, fun y hy e => ?_, fun y hy e => ?_⟩
  · split at h1
    · assumption
    · cases h1
  · have q := h4 y hy
    simp only [e] at q
    split at q <;> first | exact .inl (by assumption) | exact .inr (by assumption) | cases q
  · have q := h4 y hy
    rcases e with e | e <;> (simp only [e, Bool.or_eq_true, decide_eq_true_eq] at q; exact q)
end L2
namespace L2
open PySem PySem.Spec PyProof.Rows
section
variable {prog : Program} {w : World} {A : Around} {R : Result → Shared → Prop} {s : Shared} {elt t0 i0 t1 i1 : Expr} {ifs0 ifs1 : List Expr} {scope : Scope} {pos : Pos} {it acc : Value} {env : Env}
end
section
variable {X : Cx}
end
end L2
namespace L2
open PySem PySem.Spec PyProof.Rows
section
variable {κ : Type} [DecidableEq κ]
def valV (kvs : List (κ × V)) (k : κ) : Option V := (kvs.find? fun kv => decide (kv.1 = k)).map (·.2)
def putK (kvs : List (κ × V)) (k : κ) (v : V) : List (κ × V) :=
  if (kvs.any fun kv => decide (kv.1 = k)) = true then kvs.map (fun kv => if kv.1 = k then (kv.1, v) else kv) else kvs ++ [(k, v)]
def dropK (kvs : List (κ × V)) (k : κ) : List (κ × V) := kvs.filter fun kv => decide (kv.1 ≠ k)
theorem valV_pos {p : κ × V} {r : List (κ × V)} {k : κ} (e : p.1 = k) : valV (p :: r) k = some p.2 := by simp [valV, List.find?_cons, e]
theorem valV_neg {p : κ × V} {r : List (κ × V)} {k : κ} (e : ¬ p.1 = k) : valV (p :: r) k = valV r k := by simp [valV, List.find?_cons, e]
theorem valV_any (k : κ) : ∀ kvs : List (κ × V), (kvs.any fun kv => decide (kv.1 = k)) = (valV kvs k).isSome
  | [] => rfl
  | p :: r => by
    rw [List.any_cons]
    by_cases e : p.1 = k
    · simp only [valV_pos e, decide_eq_true e, Bool.true_or, Option.isSome_some]
    · rw [valV_neg e, decide_eq_false e, Bool.false_or]; exact valV_any k r
theorem length_putK (kvs : List (κ × V)) (k : κ) (v : V) : (putK kvs k v).length ≤ kvs.length + 1 := by
  unfold putK
  split
  · rw [List.length_map]; omega
  · rw [List.length_append, List.length_cons, List.length_nil]; omega
theorem RelO.isSome_eq {o : Option V} {u : Option Value} (r : RelO o u) : o.isSome = u.isSome := by
  cases o with
  | none => cases u with
    | none => rfl
    | some _ => exact (show False from r).elim
  | some _ => cases u with
    | none => exact (show False from r).elim
    | some _ => rfl
theorem RelO.getD {o : Option V} {u : Option Value} {d : V} {d' : Value} (r : RelO o u) (rd : RelV d d') : RelV (o.getD d) (u.getD d') := by
  cases o with
  | none => cases u with
    | none => exact rd
    | some _ => exact (show False from r).elim
  | some _ => cases u with
    | none => exact (show False from r).elim
    | some _ => exact r
theorem KV.val {kvs : List (κ × V)} {vs : List (κ × Value)} (r : KV kvs vs) (k : κ) : RelO (valV kvs k) (valueAt vs k) := by
  unfold KV at r
  induction r with
  | nil => exact True.intro
  | @cons p q ps qs h t ih =>
    obtain ⟨h1, h2⟩ := h
    by_cases e : p.1 = k
    · have e' : q.1 = k := h1.symm.trans e
      have b : valueAt (q :: qs) k = some q.2 := by simp [valueAt, List.find?_cons, e']
      rw [valV_pos e, b]; exact h2
    · have e' : ¬ q.1 = k := fun z => e (h1.trans z)
      have b : valueAt (q :: qs) k = valueAt qs k := by simp [valueAt, List.find?_cons, e']
      rw [valV_neg e, b]; exact ih
theorem KV.any {kvs : List (κ × V)} {vs : List (κ × Value)} (r : KV kvs vs) (k : κ) : (kvs.any fun kv => decide (kv.1 = k)) = vs.any fun kv => decide (kv.1 = k) := by
  unfold KV at r
  induction r with
  | nil => rfl
  | cons h t ih => rw [List.any_cons, List.any_cons, ih, h.1]
theorem KV.repl {kvs : List (κ × V)} {vs : List (κ × Value)} (r : KV kvs vs) (k : κ) {y : V} {u : Value} (ry : RelV y u) :
    KV (kvs.map fun kv => if kv.1 = k then (kv.1, y) else kv) (vs.map fun kv => if kv.1 = k then (kv.1, u) else kv) := by
  unfold KV at r ⊢
  induction r with
  | nil => exact .nil
  | @cons p q ps qs h t ih =>
    rw [List.map_cons, List.map_cons]
    refine .cons ?_ ih
    obtain ⟨h1, h2⟩ := h
    by_cases e : p.1 = k
    · rw [if_pos e, if_pos (h1.symm.trans e)]; exact ⟨h1, ry⟩
    · rw [if_neg e, if_neg (fun z => e (h1.trans z))]; exact ⟨h1, h2⟩
theorem KV.put {kvs : List (κ × V)} {vs : List (κ × Value)} (r : KV kvs vs) (k : κ) {y : V} {u : Value} (ry : RelV y u) : KV (putK kvs k y) (stored vs k u) := by
  unfold putK stored
  rw [r.any k]
  by_cases e : (vs.any fun kv => decide (kv.1 = k)) = true
  · rw [if_pos e, if_pos e]; exact r.repl k ry
  · rw [if_neg e, if_neg e]; exact Paired.snoc r ⟨rfl, ry⟩
theorem KV.drop {kvs : List (κ × V)} {vs : List (κ × Value)} (r : KV kvs vs) (k : κ) : KV (dropK kvs k) (without vs k) := by
  unfold KV at r ⊢
  unfold dropK without
  induction r with
  | nil => exact .nil
  | @cons p q ps qs h t ih =>
    obtain ⟨h1, h2⟩ := h
    rw [List.filter_cons, List.filter_cons]
    by_cases e : p.1 = k
    · have a : ¬ decide (p.1 ≠ k) = true := by simp [e]
      have b : ¬ decide (q.1 ≠ k) = true := by simp [h1.symm.trans e]
      rw [if_neg a, if_neg b]; exact ih
    · have e' : ¬ q.1 = k := fun z => e (h1.trans z)
      have a : decide (p.1 ≠ k) = true := by simp [e]
      have b : decide (q.1 ≠ k) = true := by simp [e']
      rw [if_pos a, if_pos b]; exact .cons ⟨h1, h2⟩ ih
theorem KV.keys {kvs : List (κ × V)} {vs : List (κ × Value)} (r : KV kvs vs) : kvs.map (·.1) = vs.map (·.1) := by
  unfold KV at r
  induction r with
  | nil => rfl
  | cons h t ih => rw [List.map_cons, List.map_cons, ih, h.1]
theorem KV.length {kvs : List (κ × V)} {vs : List (κ × Value)} (r : KV kvs vs) : kvs.length = vs.length := Paired.length r
theorem dropK_le (kvs : List (κ × V)) (k : κ) : (dropK kvs k).length ≤ kvs.length := List.length_filter_le _ _
end
theorem kV_is {P : Program} {w : World} {k : Key} {u : Value} (r : RelV (kV k) u) : (mixKind P w).is k u = true := by
  cases k with
  | inl i => obtain ⟨t, e⟩ := (show ∃ t, u = Value.int i t from r); subst e; exact mixKind_int P w i t
  | inr x => obtain ⟨t, e⟩ := (show ∃ t, u = Value.str x t from r); subst e; exact mixKind_str P w x t
theorem items_are {P : Program} {w : World} : ∀ {ks : List Key} {us : List Value}, Vals (ks.map kV) us → ItemsAre (mixKind P w) ks us
  | [], _, r => by rw [List.map_nil] at r; cases r; exact .nil
  | k :: ks, _, r => by
    rw [List.map_cons] at r
    cases r with
    | cons h t => exact .cons (kV_is h) (items_are t)
abbrev KT (H : Hp) : List (List Key × V) → List (List Key × Addr × Value) → Prop := Paired fun p q => p.1 = q.1 ∧ H q.2.1 = some (.tup (p.1.map kV)) ∧ RelV p.2 q.2.2
theorem KT.val {H : Hp} {kvs : List (List Key × V)} {xs : List (List Key × Addr × Value)} (r : KT H kvs xs) (k : List Key) : RelO (valV kvs k) ((atKey xs k).map (·.2)) := by
  induction r with
  | nil => exact True.intro
  | @cons p q ps qs h t ih =>
    obtain ⟨h1, _, h2⟩ := h
    by_cases e : p.1 = k
    · have e' : q.1 = k := h1.symm.trans e
      have b : atKey (q :: qs) k = some q.2 := by simp [atKey, List.find?_cons, e']
      rw [valV_pos e, b]; exact h2
    · have e' : ¬ q.1 = k := fun z => e (h1.trans z)
      have b : atKey (q :: qs) k = atKey qs k := by simp [atKey, List.find?_cons, e']
      rw [valV_neg e, b]; exact ih
theorem KT.repl {H : Hp} {kvs : List (List Key × V)} {xs : List (List Key × Addr × Value)} (r : KT H kvs xs) (k : List Key) {y : V} {u : Value} (ry : RelV y u) :
    KT H (kvs.map fun kv => if kv.1 = k then (kv.1, y) else kv) (xs.map (putAt k u)) := by
  induction r with
  | nil => exact .nil
  | @cons p q ps qs h t ih =>
    rw [List.map_cons, List.map_cons]
    refine .cons ?_ ih
    obtain ⟨h1, h2, h3⟩ := h
    unfold putAt
    by_cases e : p.1 = k
    · rw [if_pos e, if_pos (h1.symm.trans e)]; exact ⟨h1, h2, ry⟩
    · rw [if_neg e, if_neg (fun z => e (h1.trans z))]; exact ⟨h1, h2, h3⟩
theorem KT.put {H : Hp} {kvs : List (List Key × V)} {xs : List (List Key × Addr × Value)} (r : KT H kvs xs) (k : List Key) {b : Addr} {y : V} {u : Value} (hb : H b = some (.tup (k.map kV))) (ry : RelV y u) :
    KT H (putK kvs k y) (storedH xs k b u) := by
  have e : (kvs.any fun kv => decide (kv.1 = k)) = (atKey xs k).isSome := by
    rw [valV_any, (r.val k).isSome_eq, Option.isSome_map]
  unfold putK storedH
  rw [e]
  by_cases q : (atKey xs k).isSome = true
  · rw [if_pos q, if_pos q]; exact r.repl k ry
  · rw [if_neg q, if_neg q]; exact Paired.snoc r ⟨rfl, hb, ry⟩
theorem KT.keeps {H H' : Hp} {kvs : List (List Key × V)} {xs : List (List Key × Addr × Value)} (r : KT H kvs xs) (ht : ∀ b ys, H b = some (.tup ys) → H' b = some (.tup ys)) : KT H' kvs xs :=
  Paired.mapP r fun _ _ z => ⟨z.1, ht _ _ z.2.1, z.2.2⟩
section
variable {P : Program} {w : World} {H : Hp} {h : Heap} {a : Addr}
theorem rd_of {u : HO} (ok : HOk P w H h) (e : Rd H a u) : ObjOk P w H h a u := e.ok ok
theorem dk_rd {kvs : List (Key × V)} (ok : HOk P w H h) (e : Rd H a (.dK kvs)) : kvs.length ≤ sizeLine ∧ (a == sysModules) = false ∧ ∃ vs, KV kvs vs ∧ h.DictOf (mixKind P w) a vs :=
  show ObjOk P w H h a (.dK kvs) from rd_of ok e
theorem dk_of {kvs : List (Key × V)} (ok : HOk P w H h) (e : H a = some (.dK kvs)) : kvs.length ≤ sizeLine ∧ (a == sysModules) = false ∧ ∃ vs, KV kvs vs ∧ h.DictOf (mixKind P w) a vs := dk_rd ok (.inl e)
theorem key_of {ks : List Key} (ok : HOk P w H h) (e : H a = some (.tup (ks.map kV))) : (tupleKind (mixKind P w)).is h ks a := by
  obtain ⟨_, its, r, o, h1, h2, n, h3⟩ := (show ObjOk P w H h a (.tup (ks.map kV)) from ok a _ e)
  exact ⟨o, its.toArray, n, h1, h2, h3, by simpa using items_are r⟩
theorem dt_rd {kvs : List (List Key × V)} (ok : HOk P w H h) (e : Rd H a (.dT kvs)) : kvs.length ≤ sizeLine ∧ (a == sysModules) = false ∧
    ∃ xs, KT H kvs xs ∧ h.DictOfH (tupleKind (mixKind P w)) a xs := by
  obtain ⟨z, y, xs, r, o, es, ep, h1, h2, h3, h4, h5⟩ := (show ObjOk P w H h a (.dT kvs) from rd_of ok e)
  refine ⟨z, y, xs, r, o, es, ep, h1, h2, h3, h4, fun x hx => ?_, h5⟩
  have all : ∀ {l : List (List Key × V)} {m : List (List Key × Addr × Value)}, KT H l m → ∀ x ∈ m, (tupleKind (mixKind P w)).is h x.1 x.2.1 := by
    intro l m q
    induction q with
    | nil => intro x hx; exact nomatch hx
    | @cons p q ps qs hq t ih =>
      intro x hx
      rcases List.mem_cons.mp hx with e | hx
      · subst e
        exact key_of ok (by rw [← hq.1]; exact hq.2.1)
      · exact ih x hx
  exact all r x hx
theorem dt_of {kvs : List (List Key × V)} (ok : HOk P w H h) (e : H a = some (.dT kvs)) : kvs.length ≤ sizeLine ∧ (a == sysModules) = false ∧
    ∃ xs, KT H kvs xs ∧ h.DictOfH (tupleKind (mixKind P w)) a xs := dt_rd ok (.inl e)
end
def DGet (H : Hp) (a : Addr) (y : V) (r : Option V) : Prop :=
  (∃ kvs k, Rd H a (.dK kvs) ∧ y = kV k ∧ r = valV kvs k) ∨ ∃ kvs k b, Rd H a (.dT kvs) ∧ y = .ref b ∧ H b = some (.tup (k.map kV)) ∧ r = valV kvs k
def DPut (H : Hp) (a : Addr) (y v : V) (H' : Hp) : Prop :=
  (∃ kvs k, H a = some (.dK kvs) ∧ y = kV k ∧ kvs.length < sizeLine ∧ H' = upd H a (.dK (putK kvs k v))) ∨
  ∃ kvs k b, H a = some (.dT kvs) ∧ y = .ref b ∧ H b = some (.tup (k.map kV)) ∧ kvs.length < sizeLine ∧ H' = upd H a (.dT (putK kvs k v))
theorem DGet.k {H : Hp} {a : Addr} {kvs : List (Key × V)} {k : Key} (e : H a = some (.dK kvs)) : DGet H a (kV k) (valV kvs k) := .inl ⟨kvs, k, .inl e, rfl, rfl⟩
theorem DGet.t {H : Hp} {a b : Addr} {kvs : List (List Key × V)} {k : List Key} (e : H a = some (.dT kvs)) (eb : H b = some (.tup (k.map kV))) : DGet H a (.ref b) (valV kvs k) := .inr ⟨kvs, k, b, .inl e, rfl, eb, rfl⟩
theorem DPut.k {H : Hp} {a : Addr} {kvs : List (Key × V)} {k : Key} {v : V} (e : H a = some (.dK kvs)) (hl : kvs.length < sizeLine) : DPut H a (kV k) v (upd H a (.dK (putK kvs k v))) := .inl ⟨kvs, k, e, rfl, hl, rfl⟩
theorem DPut.t {H : Hp} {a b : Addr} {kvs : List (List Key × V)} {k : List Key} {v : V} (e : H a = some (.dT kvs)) (eb : H b = some (.tup (k.map kV))) (hl : kvs.length < sizeLine) :
    DPut H a (.ref b) v (upd H a (.dT (putK kvs k v))) := .inr ⟨kvs, k, b, e, rfl, eb, hl, rfl⟩
section
variable {X : Cx} {pins : List (Addr × Obj)} {σ : St} {H : Hp} {s : Shared} {a : Addr} {y v : V} {u r : Value} {o : Option V} {A : Around} {E : Value → Shared → Prop}
theorem Inv.big (I : Inv X pins σ H s) : sysModules < s.heap.objs.size := by
  have h : mainGlobals < s.heap.objs.size := (I.mod.glob.keeps I.bk).lt
  exact Nat.lt_trans (by decide) h
theorem d_getItem {Q : Value → Shared → Prop} (hu : A.units + 1 < cLine) (I : Inv X pins σ H s) (g : DGet H a y (some v)) (ry : RelV y u) (h : ∀ w' s', Inv X pins σ H s' → RelV v w' → Q w' s') :
    wpAny (model X.prog X.w) A (getItem (.ref a) u) Q E s := by
  rcases g with ⟨kvs, k, e, ey, l⟩ | ⟨kvs, k, b, e, ey, eb, l⟩
  · subst ey
    obtain ⟨z, hd, vs, rel, dd⟩ := dk_rd I.hok e
    obtain ⟨w', hw, rw'⟩ := RelO.some_of (v := v) (o := valueAt vs k) (by rw [l]; exact rel.val k)
    exact wpAny_getItem_of (kV_is ry) dd.mapOf hw (h w' _ (I.tok _) rw')
  · subst ey
    cases (show u = Value.ref b from ry)
    obtain ⟨z, hd, xs, rel, dd⟩ := dt_rd I.hok e
    obtain ⟨w', hw, rw'⟩ := RelO.some_of (v := v) (o := (atKey xs k).map (·.2)) (by rw [l]; exact rel.val k)
    obtain ⟨p, hp, hp2⟩ := Option.map_eq_some_iff.mp hw
    refine wpAny_getItem_heap (tupleKind_room_in1 hu) (key_of I.hok eb) dd hp ?_
    rw [hp2]
    exact h w' _ (I.tok _) rw'
theorem d_in {Q : Value → Shared → Prop} (hu : A.units + 1 < cLine) (I : Inv X pins σ H s) (g : DGet H a y o) (ry : RelV y u) (h : ∀ s', Inv X pins σ H s' → Q (.bool o.isSome) s') :
    wpAny (model X.prog X.w) A (compareOp .In u (.ref a)) Q E s := by
  rcases g with ⟨kvs, k, e, ey, l⟩ | ⟨kvs, k, b, e, ey, eb, l⟩
  · subst ey
    obtain ⟨z, hd, vs, rel, dd⟩ := dk_rd I.hok e
    refine wpAny_in_of (kV_is ry) hd dd.mapOf ?_
    rw [← (rel.val k).isSome_eq, ← l]
    exact h _ (I.tok _)
  · subst ey
    cases (show u = Value.ref b from ry)
    obtain ⟨z, hd, xs, rel, dd⟩ := dt_rd I.hok e
    refine wpAny_in_heap (tupleKind_room_in1 hu) (key_of I.hok eb) hd dd ?_
    have q := (rel.val k).isSome_eq
    rw [Option.isSome_map] at q
    rw [← q, ← l]
    exact h _ (I.tok _)
theorem d_notIn {Q : Value → Shared → Prop} (hu : A.units + 1 < cLine) (I : Inv X pins σ H s) (g : DGet H a y o) (ry : RelV y u) (h : ∀ s', Inv X pins σ H s' → Q (.bool (!o.isSome)) s') :
    wpAny (model X.prog X.w) A (compareOp .NotIn u (.ref a)) Q E s := by
  rcases g with ⟨kvs, k, e, ey, l⟩ | ⟨kvs, k, b, e, ey, eb, l⟩
  · subst ey
    obtain ⟨z, hd, vs, rel, dd⟩ := dk_rd I.hok e
    refine wpAny_notIn_of (kV_is ry) hd dd.mapOf ?_
    rw [← (rel.val k).isSome_eq, ← l]
    exact h _ (I.tok _)
  · subst ey
    cases (show u = Value.ref b from ry)
    obtain ⟨z, hd, xs, rel, dd⟩ := dt_rd I.hok e
    refine wpAny_notIn_heap (tupleKind_room_in1 hu) (key_of I.hok eb) hd dd ?_
    have q := (rel.val k).isSome_eq
    rw [Option.isSome_map] at q
    rw [← q, ← l]
    exact h _ (I.tok _)
theorem d_write {h' : Heap} {t' : Nat} {ob : HO} (I : Inv X pins σ H s) (mu : Mut (H a)) (hs : Heap.SameBut a s.heap h') (he : ∃ q, h'.get? a = some q) (new : ObjOk X.prog X.w (upd H a ob) h' a ob) :
    Inv X pins σ (upd H a ob) { s with heap := h', toks := t' } :=
  I.write (x := a) (e := a) mu (.inl rfl) (fun b q hb z => (hs.2 b hb).trans z) he new
theorem dk_new {P : Program} {w : World} {H' : Hp} {h' : Heap} {kvs : List (Key × V)} {vs : List (Key × Value)} (z : kvs.length ≤ sizeLine) (hd : (a == sysModules) = false) (rel : KV kvs vs) (dd : h'.DictOf (mixKind P w) a vs) :
    ObjOk P w H' h' a (.dK kvs) := ⟨z, hd, vs, rel, dd⟩
theorem d_setItem {H' : Hp} {Q : Unit → Shared → Prop} (hu : A.units + 1 < cLine) (I : Inv X pins σ H s) (g : DPut H a y v H') (ry : RelV y u) (rv : RelV v r) (h : ∀ s', Inv X pins σ H' s' → Q () s') :
    wpAny (model X.prog X.w) A (setItem (.ref a) u r) Q E s := by
  rcases g with ⟨kvs, k, e, ey, l, eH⟩ | ⟨kvs, k, b, e, ey, eb, l, eH⟩
  · subst ey eH
    obtain ⟨z, hd, vs, rel, dd⟩ := dk_of I.hok e
    have hz : vs.length ≤ sizeLine := by rw [← rel.length]; exact z
    have hl : (putK kvs k v).length ≤ sizeLine := by have := length_putK kvs k v; omega
    refine wpAny_setItem_pairs (hsz := hz) (kV_is ry) dd fun h' dd' hs => h _ ?_
    have he : ∃ q, h'.get? a = some q := let ⟨q, _, _, hq, _⟩ := dd'; ⟨q, hq⟩
    exact d_write I (by rw [e]; exact True.intro) hs he (dk_new hl hd (rel.put k rv) dd')
  · subst ey eH
    cases (show u = Value.ref b from ry)
    obtain ⟨z, hd, xs, rel, dd⟩ := dt_of I.hok e
    have hz : xs.length ≤ sizeLine := by rw [← Paired.length rel]; exact z
    have hl : (putK kvs k v).length ≤ sizeLine := by have := length_putK kvs k v; omega
    refine wpAny_setItem_heap (hsz := hz) (tupleKind_room_in1 hu) (key_of I.hok eb) dd fun h' dd' hs => h _ ?_
    obtain ⟨q, es, ep, hq, h2, h3, h4, _, h5⟩ := dd'
    refine d_write I (by rw [e]; exact True.intro) hs ⟨q, hq⟩ ⟨hl, hd, _, (rel.put k eb rv).keeps fun c ys ec => ?_, q, es, ep, hq, h2, h3, h4, h5⟩
    rw [upd_ne (ne_of ec e (fun z => nomatch z))]
    exact ec
end
section
variable {X : Cx} {pins : List (Addr × Obj)} {σ : St} {H : Hp} {s : Shared} {a : Addr} {kvs : List (Key × V)} {k : Key} {u : Value} {A : Around} {E : Value → Shared → Prop}
theorem d_delItem {Q : Unit → Shared → Prop} (I : Inv X pins σ H s) (e : H a = some (.dK kvs)) (ry : RelV (kV k) u) (l : (valV kvs k).isSome = true) (h : ∀ s', Inv X pins σ (upd H a (.dK (dropK kvs k))) s' → Q () s') :
    wpAny (model X.prog X.w) A (delItem (.ref a) u) Q E s := by
  obtain ⟨z, hd, vs, rel, dd⟩ := dk_of I.hok e
  refine wpAny_delItem_slot dd.typeIs (by decide) PySem.F.slot_dict_delitem
    (call_meetsIn PySem.F.slot_dict_delitem dd.typeIs PySem.F.entry_dict_delitem (PySem.F.args_dict_delitem_2 _ _) (meets_dict_delitem_pairs (mixKind X.prog X.w) a (kV_is ry)) ⟨vs, dd, by rw [← rel.length]; exact z, by rw [← (rel.val k).isSome_eq]; exact l, fun h' dd' hs => h _ ?_⟩)
  have he : ∃ q, h'.get? a = some q := let ⟨q, _, _, hq, _⟩ := dd'; ⟨q, hq⟩
  exact d_write I (by rw [e]; exact True.intro) hs he (dk_new (Nat.le_trans (dropK_le kvs k) z) hd (rel.drop k) dd')
theorem d_pop {v : V} {more : List Value} {Q : Value → Shared → Prop} (I : Inv X pins σ H s) (e : H a = some (.dK kvs)) (ry : RelV (kV k) u) (l : valV kvs k = some v) (hm : more = [] ∨ ∃ x, more = [x])
    (h : ∀ w' s', Inv X pins σ (upd H a (.dK (dropK kvs k))) s' → RelV v w' → Q w' s') : wpAny (model X.prog X.w) A (call (.builtin "dict.pop") (.ref a :: u :: more)) Q E s := by
  obtain ⟨z, hd, vs, rel, dd⟩ := dk_of I.hok e
  obtain ⟨w', hw, rw'⟩ := RelO.some_of (v := v) (o := valueAt vs k) (by rw [← l]; exact rel.val k)
  have hp : (keyPart u).isSome = true := by
    cases k with
    | inl i => obtain ⟨t, q⟩ := (show ∃ t, u = Value.int i t from ry); subst q; rfl
    | inr x => obtain ⟨t, q⟩ := (show ∃ t, u = Value.str x t from ry); subst q; rfl
  have ha : argsOk "dict.pop" ⟨.ref a :: u :: more, []⟩ := by
    rcases hm with q | ⟨x, q⟩
    · subst q; exact PySem.F.args_dict_pop_2 _ _
    · subst q; exact PySem.F.args_dict_pop_3 _ _ _
  refine call_meetsIn PySem.F.slot_dict_pop dd.typeIs PySem.F.entry_dict_pop ha (meets_dict_pop_there (mixKind X.prog X.w) a (kV_is ry) more hm hp)
    ⟨vs, w', dd, by rw [← rel.length]; exact z, hw, fun h' dd' hs => h w' _ ?_ rw'⟩
  have he : ∃ q, h'.get? a = some q := let ⟨q, _, _, hq, _⟩ := dd'; ⟨q, hq⟩
  exact d_write I (by rw [e]; exact True.intro) hs he (dk_new (Nat.le_trans (dropK_le kvs k) z) hd (rel.drop k) dd')
end
def NoSl (i : Expr) : Prop := ∀ ov iv, subscripted i false ov iv = operate [ov, iv] (getItem ov iv)
theorem subD_of {prog : Program} {w : World} {A : Around} {E : Value → Shared → Prop} {s : Shared} {env : Env} {value slice : Expr} {pos : Pos} {T id : String} {Q : Value → Shared → Prop}
    (hl : typeLookup (.type T) "__getitem__" = pure (some (.builtin id))) (hs : NoSl slice)
    (h : wpAny (model prog w) A (eval value env) (fun o s₁ => wpAny (model prog w) A (eval slice env) (fun i s₂ => s₂.TypeIs o T ∧ wpAny (model prog w) A (getItem o i) Q E s₂) E s₁) E s) :
    wpAny (model prog w) A (eval (.Subscript value slice pos) env) Q E s := by
  refine Subscript_ (wpAny_mono h (fun o s₁ h₁ => wpAny_mono h₁ (fun i s₂ h₂ => ?_) fun _ _ x => x) fun _ _ x => x)
  obtain ⟨hT, h₂⟩ := h₂
  unfold subscriptTail
  refine wpAny_bind ?_
  rw [getitemInPython_of_ne hT.not_modules]
  refine wpAny_bind (wpAny_specialOf hT hl ?_)
  have fin : wpAny (model prog w) A (subscripted slice false o i) (fun r s₃ => wpAny (model prog w) A (letTemporaryGo value o r >>= fun _ => pure r) Q E s₃) E s₂ := by
    rw [hs o i]
    exact wpAny_operating (wpAny_mono h₂ (fun r s₃ h₃ => wpAny_bind (wpAny_letTemporaryGo (wpAny_pure h₃))) fun _ _ x => x)
  first
    | exact wpAny_pure (wpAny_bind fin)
    | exact wpAny_bind (wpAny_pure (wpAny_bind fin))
    | exact wpAny_bind fin
theorem dict_typeIs {X : Cx} {pins : List (Addr × Obj)} {σ : St} {H : Hp} {s : Shared} {a : Addr} {y : V} {o : Option V} (I : Inv X pins σ H s) (g : DGet H a y o) : s.TypeIs (.ref a) "dict" := by
  rcases g with ⟨kvs, k, e, _, _⟩ | ⟨kvs, k, b, e, _, _, _⟩
  · obtain ⟨_, _, vs, _, dd⟩ := dk_rd I.hok e
    exact dd.typeIs
  · obtain ⟨_, _, xs, _, dd⟩ := dt_rd I.hok e
    exact dd.typeIs
def tDGet (td ty : TE) : TE := fun σ H Q => td σ H fun x H1 => ty σ H1 fun y H2 => ∃ a v, x = .ref a ∧ DGet H2 a y (some v) ∧ Q v H2
def sDPut (td ty tv : TE) : TS := fun D σ H => tv σ H fun v H1 => td σ H1 fun x H2 => ty σ H2 fun y H3 => ∃ a H4, x = .ref a ∧ DPut H3 a y v H4 ∧ D.nx σ H4
def sDDel (td ty : TE) : TS := fun D σ H => td σ H fun x H1 => ty σ H1 fun y H2 => ∃ a kvs k, x = .ref a ∧ H2 a = some (.dK kvs) ∧ y = kV k ∧ (valV kvs k).isSome = true ∧ D.nx σ (upd H2 a (.dK (dropK kvs k)))
section
variable {X : Cx} {o i e value : Expr} {pos pos' tpos : Pos} {td ty tv : TE}
theorem pe_dget (hu : X.A.units + 1 < cLine) (ho : PE X o td) (hi : PE X i ty) (hs : NoSl i) : PE X (.Subscript o i pos) (tDGet td ty) := by
  intro pins s σ H Q I h
  refine subD_of PySem.F.slot_dict_getitem.lookup hs (thn (ho pins s σ H _ I h) fun u s1 ⟨x, H1, I1, rx, q1⟩ => thn (hi pins s1 σ H1 _ I1 q1) fun iv s2 ⟨y, H2, I2, ry, a, v, ex, g, q2⟩ => ?_)
  subst ex
  obtain rfl : u = Value.ref a := rx
  exact ⟨dict_typeIs I2 g, d_getItem hu I2 g ry fun w' s3 I3 rw' => ⟨v, H2, I3, rw', q2⟩⟩
theorem ps_dput (hu : X.A.units + 1 < cLine) (ho : PE X o td) (hi : PE X i ty) (hv : PE X value tv) (hs : swapsWith value (some (.Subscript o i pos')) pos.line X.env = pure false) :
    PS X (.Assign [.Subscript o i pos'] value pos) (sDPut td ty tv) := by
  intro pins s σ H D I h
  refine wpAny_Assign_Subscript (thn (hv pins s σ H _ I h) fun r s1 ⟨v, H1, I1, rv, q1⟩ => thn (ho pins s1 σ H1 _ I1 q1) fun u s2 ⟨x, H2, I2, rx, q2⟩ => thn (hi pins s2 σ H2 _ I2 q2) fun iv s3 ⟨y, H3, I3, ry, a, H4, ex, g, q3⟩ => ?_) hs
  subst ex
  obtain rfl : u = Value.ref a := rx
  exact d_setItem hu I3 g ry rv fun s4 I4 => ⟨σ, H4, I4, q3⟩
theorem ps_ddel (ho : PE X o td) (hi : PE X i ty) : PS X (.Delete [.Subscript o i tpos] pos) (sDDel td ty) := by
  intro pins s σ H D I h
  refine wpAny_Delete (wpAny_deleteEach_cons (wpAny_delete_Subscript (thn (ho pins s σ H _ I h) fun u s1 ⟨x, H1, I1, rx, q1⟩ => thn (hi pins s1 σ H1 _ I1 q1) fun iv s2 ⟨y, H2, I2, ry, a, kvs, k, ex, e, ey, l, q2⟩ => ?_)))
  subst ex ey
  obtain rfl : u = Value.ref a := rx
  exact d_delItem I2 e ry l fun s3 I3 => wpAny_deleteEach_nil ⟨σ, _, I3, q2⟩
end
theorem dk_empty {P : Program} {w : World} {H : Hp} (h : Heap) (hb : sysModules < h.objs.size) : ObjOk P w H (h.push { cls := .type "dict", data := .dict #[] }) h.objs.size (.dK []) :=
  ⟨Nat.zero_le _, beq_eq_false_iff_ne.mpr (Ne.symm (Nat.ne_of_lt hb)), [], .nil, Heap.DictOf.new h⟩
section
variable {X : Cx} {pos : Pos}
end
def tPairs : List (TE × TE) → St → Hp → (List (V × V) → Hp → Prop) → Prop
  | [], _, H, Q => Q [] H
  | (tk, tv) :: r, σ, H, Q => tk σ H fun x H1 => tv σ H1 fun y H2 => tPairs r σ H2 fun ps H3 => Q ((x, y) :: ps) H3
abbrev VV : List (V × V) → List (Value × Value) → Prop := Paired fun p q => RelV p.1 q.1 ∧ RelV p.2 q.2
def PPs (X : Cx) (pos : Pos) (keys : List (Option Expr)) (values : List Expr) (trs : List (TE × TE)) : Prop :=
  ∀ (pins : List (Addr × Obj)) (s : Shared) (σ : St) (H : Hp) (Q : List (V × V) → Hp → Prop), Inv X pins σ H s → tPairs trs σ H Q →
    wpAny (model X.prog X.w) X.A (evalPairs (pairTrees keys values X.env pos)) (fun vs s' => ∃ ps H', Inv X pins σ H' s' ∧ VV ps vs ∧ Q ps H') X.xe s
def mergeK (kvs more : List (Key × V)) : List (Key × V) := more.foldl (fun acc kv => putK acc kv.1 kv.2) kvs
theorem KV.merge : ∀ {more : List (Key × V)} {rs : List (Key × Value)} {kvs : List (Key × V)} {vs : List (Key × Value)}, KV more rs → KV kvs vs → KV (mergeK kvs more) (merged vs rs) := by
  intro more rs kvs vs r
  unfold KV at r
  induction r generalizing kvs vs with
  | nil => intro q; exact q
  | @cons p q ps qs h t ih =>
    intro r0
    have e : KV (putK kvs p.1 p.2) (stored vs q.1 q.2) := by
      have := r0.put p.1 h.2
      rw [← h.1]; exact this
    exact ih e
theorem length_mergeK : ∀ (more kvs : List (Key × V)), (mergeK kvs more).length ≤ kvs.length + more.length
  | [], kvs => by show kvs.length ≤ kvs.length + 0; omega
  | p :: r, kvs => by
    have h1 := length_mergeK r (putK kvs p.1 p.2)
    have h2 := length_putK kvs p.1 p.2
    show (mergeK (putK kvs p.1 p.2) r).length ≤ _
    rw [List.length_cons]; omega
structure M1 (X : Cx) (o : Expr) (m : Str) (apos : Pos) (e : Expr) (cpos : Pos) : Prop where
  base : attributeBase o m X.env (eval o X.env) = eval o X.env
  few : ((backTo cpos (starEach [e] X.env)).all (fun x => !x.1) && (backToKw cpos (keywordEach [] X.env)).all (fun x => x.1.isSome)
    && decide (([e] : List Expr).length + ([] : List Keyword).length + (if ([] : List Keyword).isEmpty then 0 else 1) < 30)) = true
  line : (apos.endLine == cpos.line) = true
  trees : backTo cpos (starEach [e] X.env) = [(false, eval e X.env)]
structure M2 (X : Cx) (o : Expr) (m : Str) (apos : Pos) (e f : Expr) (cpos : Pos) : Prop where
  base : attributeBase o m X.env (eval o X.env) = eval o X.env
  few : ((backTo cpos (starEach [e, f] X.env)).all (fun x => !x.1) && (backToKw cpos (keywordEach [] X.env)).all (fun x => x.1.isSome)
    && decide (([e, f] : List Expr).length + ([] : List Keyword).length + (if ([] : List Keyword).isEmpty then 0 else 1) < 30)) = true
  line : (apos.endLine == cpos.line) = true
  trees : backTo cpos (starEach [e, f] X.env) = [(false, eval e X.env), (false, eval f X.env)]
def IsD (H : Hp) (a : Addr) : Prop := (∃ kvs, Rd H a (.dK kvs)) ∨ ∃ kvs, Rd H a (.dT kvs)
theorem isD_at {X : Cx} {pins : List (Addr × Obj)} {σ : St} {H : Hp} {s : Shared} {a : Addr} (I : Inv X pins σ H s) (d : IsD H a) :
    s.TypeIs (.ref a) "dict" ∧ (∀ b, Value.ref a = .ref b → ∃ ob, s.heap.get? b = some ob ∧ ob.dict = none) ∧ (a == sysModules) = false := by
  rcases d with ⟨kvs, e⟩ | ⟨kvs, e⟩
  · obtain ⟨_, hd, vs, _, dd⟩ := dk_rd I.hok e
    refine ⟨dd.typeIs, fun b q => ?_, hd⟩
    cases q
    obtain ⟨ob, _, _, h1, h2, _⟩ := dd
    exact ⟨ob, h1, h2.2.1⟩
  · obtain ⟨_, hd, xs, _, dd⟩ := dt_rd I.hok e
    refine ⟨dd.typeIs, fun b q => ?_, hd⟩
    cases q
    obtain ⟨ob, _, _, h1, h2, _⟩ := dd
    exact ⟨ob, h1, h2.2.1⟩
section
variable {X : Cx} {pins : List (Addr × Obj)} {σ : St} {H : Hp} {s : Shared} {a : Addr} {y d : V} {u r : Value} {o : Option V} {A : Around} {E : Value → Shared → Prop}
end
def tDPop1 (td ty : TE) : TE := fun σ H Q => td σ H fun x H1 => ∃ a, x = .ref a ∧ IsD H1 a ∧ ty σ H1 fun y H2 => ∃ kvs k v, H2 a = some (.dK kvs) ∧ y = kV k ∧ valV kvs k = some v ∧ Q v (upd H2 a (.dK (dropK kvs k)))
section
variable {X : Cx} {o e f : Expr} {apos cpos : Pos} {td ty tx : TE}
theorem pe_dpop1 (ho : PE X o td) (he : PE X e ty) (m : M1 X o "pop" apos e cpos) : PE X (.Call (.Attribute o "pop" apos) [e] [] cpos) (tDPop1 td ty) := by
  intro pins s σ H Q I h
  refine wpAny_Call_method m.base m.few m.line PySem.F.plainAttrs_dict PySem.F.slot_dict_pop PySem.F.type_dict_pop (thn (ho pins s σ H _ I h) fun u s1 ⟨x, H1, I1, rx, a, ex, d, q1⟩ => ?_)
  subst ex
  obtain rfl : u = Value.ref a := rx
  obtain ⟨t1, t2, _⟩ := isD_at I1 d
  refine ⟨t1, t2, ?_⟩
  rw [m.trees]
  refine Calls.callWith_builtin rfl (Calls.evalArgs_plain (Calls.spliced_cons (thn (he pins s1 σ H1 _ I1 q1) fun iv s2 ⟨y, H2, I2, ry, kvs, k, v, ea, ey, l, q2⟩ => Calls.spliced_nil ?_)))
  subst ey
  exact d_pop I2 ea ry l (.inl rfl) fun w' s3 I3 rw' => ⟨v, _, I3, rw', q2⟩
end
section
variable {X : Cx} {pins : List (Addr × Obj)} {σ : St} {H : Hp} {s : Shared} {a : Addr} {kvs : List (Key × V)} {A : Around} {E : Value → Shared → Prop}
end
section
variable {X : Cx} {pins : List (Addr × Obj)} {σ : St} {H : Hp} {s : Shared} {a : Addr} {y : V} {u : Value} {A : Around} {E : Value → Shared → Prop}
end
end L2
namespace L2
open PySem PySem.Spec PyProof.Rows
theorem list_keys_none : typeLookup (.type "list") "keys" = pure none := am_miss_of_fast (by first | decide +kernel | rfl)
theorem ud_entry : entryFor table "dict.update.loop" = some Builtin.«dict.update.loop» := entryFor_of_tree (by kernel_rfl)
theorem ud_plain : plainId "dict.update.loop" = true := by decide +kernel
section
variable {prog : Program} {w : World} {A : Around} {E : Value → Shared → Prop}
theorem miss_list {s : Shared} {a : Addr} {o : Obj} {xs : Array Value} {k : Nat} {Q : Option Value → Shared → Prop} (hx : s.heap.get? a = some o) (hc : o.cls = .type "list") (hdat : o.data = .seq xs k) (hd : o.dict = none) (hA : A.handled = none)
    (h : ∀ h' tk, (∀ b ob, s.heap.get? b = some ob → h'.get? b = some ob) → Q none { s with heap := h', toks := tk }) : wpAny (model prog w) A (getAttr? (.ref a) "keys") Q E s := by
  obtain ⟨c, dct, dat, sl⟩ := o
  simp only at hc hdat hd
  subst hc hdat hd
  obtain ⟨hp, g, d, tk, os⟩ := s
  have hT : ∀ tk', (⟨hp, g, d, tk', os⟩ : Shared).TypeIs (.ref a) "list" := fun _ => ⟨_, hx, rfl⟩
  have hmiss := list_keys_none
  have hname : (["__module__", "__name__", "__qualname__", "__doc__", "__annotations__"] : List Str).contains "keys" = false := by decide +kernel
  have hsz : ("keys" : Str).length + 100 ≤ sizeLine := by first | size_fits | decide +kernel
  have f1 := sub_AttributeError
  have f3 := PySem.F.slot_list_getattribute.lookup
  have f4 := PySem.F.slot_list_getattribute.bind (.ref a)
  have f5 := am_list_getattr_none
  unfold getAttr? getAttrBy? getAttrBy
  repeat (any_goals (first | assumption | exact hT _ | ((with_reducible show wpAny _ _ (call (Value.builtin "list.__getattribute__") _ _) _ _ _); refine call_meets PySem.F.slot_list_getattribute (hT _) am_entry_list_getattribute (PySem.F.args_list_getattribute_2 _ _) (meets_getattribute_miss_list a xs k sl "keys" _ hmiss hname hsz) ⟨hx, hA, fun h' tk' e hx' => ?_⟩) | wp_step))
  obtain ⟨t', u', he⟩ := hx'.there
  show wpAny _ _ (getattributeRaised _ _ _ _ _ _ _) _ _ _
  unfold getattributeRaised
  repeat (any_goals (first | assumption | wp_step))
  all_goals first | exact h _ _ hx'.keeps | (dsimp only; repeat (any_goals (first | assumption | exact h _ _ hx'.keeps | wp_step)))
theorem upd_loop {R : Result → Shared → Prop} {S I l : Addr} {items : Array Value} {res : Value} (hh : A.handled = none) (hlI : l ≠ I) (hSI : S ≠ I) (hSl : S ≠ l) :
    ∀ (rest : List (Key × Value)) (i : Nat) (acc : List (Key × Value)) (ix : Int) (t : Tok) (s : Shared), items.size = i + rest.length → acc.length + rest.length ≤ sizeLine →
      (∀ (j : Nat) (q : Key × Value), rest[j]? = some q → ∃ (b : Addr) (u : Value), items[i + j]? = some (.ref b) ∧ b ≠ S ∧ b ≠ I ∧ IsTup s.heap b #[u, q.2] ∧ keyIs q.1 u = true) →
      s.heap.IsListIter I l i → s.heap.IsList l items → s.heap.DictOf (mixKind prog w) S acc →
      (∀ h' tk, h'.DictOf (mixKind prog w) S (merged acc rest) → (∀ b o, b ≠ S → b ≠ I → s.heap.get? b = some o → h'.get? b = some o) → R (.ok (.ret res)) { s with heap := h', toks := tk }) →
      codeAny (model prog w) A (.builtin "dict.update.loop" ⟨[.ref S, .ref I, .int ix t, res], []⟩) R s
  | [], i, acc, ix, t, s, hsz, hln, ht, hit, hl, hm, hR => by
    refine codeAny_builtin ud_entry ?_
    rw [Around.under_plainId ud_plain _]
    show wpAny _ A.in1 (pyNext (.ref I) >>= _) _ _ s
    refine wpAny_bind (wpAny_pyNext_list_end (A := A.in1) hh hit hl (by first | exact Array.getElem?_eq_none (Nat.le_of_eq hsz) | (simp at hsz; simp; omega)) fun h' he => ?_)
    show wpAny _ A.in1 (Builtin.Dict.addKeywords S [] >>= _) _ _ _
    refine wpAny_bind (wpAny_pure (wpAny_pure ?_))
    exact hR h' s.toks (hm.extBut he hSI) fun b o _ hb e => he b o hb e
  | q :: rest, i, acc, ix, t, s, hsz, hln, ht, hit, hl, hm, hR => by
    obtain ⟨b, u, hb, hbS, hbI, htup, hk⟩ := ht 0 q rfl
    rw [List.length_cons] at hsz hln
    refine codeAny_builtin ud_entry ?_
    rw [Around.under_plainId ud_plain _]
    show wpAny _ A.in1 (pyNext (.ref I) >>= _) _ _ s
    refine wpAny_bind (wpAny_pyNext_list_item (x := .ref b) hit hl (by simpa using hb) fun h1 hit1 hs1 => ?_)
    have ht1 : IsTup h1 b #[u, q.2] := htup.extBut hs1.extBut hbI
    have hl1 : h1.IsList l items := hl.extBut hs1.extBut hlI
    have hm1 : h1.DictOf (mixKind prog w) S acc := hm.extBut hs1.extBut hSI
    obtain ⟨o, ho, hc, n, hd⟩ := id ht1
    show wpAny _ A.in1 (holding [Value.ref b] _ >>= _) _ _ _
    refine wpAny_bind (wpAny_holding ?_)
    refine wpAny_bind (wpAny_tryCatch ?_)
    unfold Builtin.Dict.pairItems
    refine wpAny_bind (wpAny_typeOf (T := "tuple") ⟨o, ho, hc⟩ ?_)
    rw [if_pos (by first | decide | rfl | simp)]
    refine wpAny_bind (wpAny_seqItems ho hd (wpAny_pure ?_))
    show wpAny _ A.in1 (holding [u, q.2] (dictSet S u q.2)) _ _ _
    refine wpAny_holding (wpAny_dictSet_pairs (knd := mixKind prog w) (k := q.1) hk hm1 (fun h2 hm2 hs2 => ?_) (by omega))
    refine wpAny_pure ⟨plainId_quiet ud_plain _, upd_loop (items := items) hh hlI hSI hSl rest (i + 1) (stored acc q.1 q.2) (ix + 1) 0 _ (show items.size = i + 1 + rest.length by omega) ?_ (fun j q' e => ?_) ?_ ?_ hm2 fun h' tk hd' k => ?_⟩
    · have z := stored_length_le acc q.1 q.2
      omega
    · obtain ⟨b', u', hb', hbS', hbI', htup', hk'⟩ := ht (j + 1) q' (by simpa using e)
      refine ⟨b', u', ?_, hbS', hbI', (htup'.extBut hs1.extBut hbI').extBut hs2.extBut hbS', hk'⟩
      rw [show i + 1 + j = i + (j + 1) by omega]
      exact hb'
    · exact hit1.at fun o' e => hs2.extBut I o' (Ne.symm hSI) e
    · exact hl1.extBut hs2.extBut (Ne.symm hSl)
    · exact hR h' tk hd' fun c oc h3 h4 e => k c oc h3 h4 (hs2.extBut c oc h3 (hs1.extBut c oc h4 e))
theorem call_dict_pairs {s : Shared} {l : Addr} {ol : Obj} {items : Array Value} {n : Nat} {prs : List (Key × Value)} {Q : Value → Shared → Prop} (hh : A.handled = none) (hl : s.heap.get? l = some ol) (hc : ol.cls = .type "list") (hd : ol.dict = none)
    (hdat : ol.data = .seq items n) (hsz : items.size = prs.length) (hln : prs.length ≤ sizeLine)
    (ht : ∀ (j : Nat) (q : Key × Value), prs[j]? = some q → ∃ (b : Addr) (u : Value), items[j]? = some (.ref b) ∧ IsTup s.heap b #[u, q.2] ∧ keyIs q.1 u = true)
    (h : ∀ h' tk, h'.DictOf (mixKind prog w) s.heap.objs.size (merged [] prs) → (∀ b o, s.heap.get? b = some o → h'.get? b = some o) → Q (.ref s.heap.objs.size) { s with heap := h', toks := tk }) :
    wpAny (model prog w) A (call (.type "dict") [.ref l]) Q E s := by
  refine callType_codes (Q₁ := fun obj s₁ => obj = .ref s.heap.objs.size ∧ s₁ = { s with heap := s.heap.push { cls := .type "dict", data := .dict #[] } }) PySem.F.kt_called_dict (PySem.F.kt_typeCall_dict_1 _) PySem.F.entry_dict_init (kt_code_dict_new _ ⟨rfl, rfl⟩) ?_
  rintro obj s₁ ⟨rfl, rfl⟩
  have hnew : (s.heap.push { cls := .type "dict", data := .dict #[] }).DictOf (mixKind prog w) s.heap.objs.size [] := Heap.DictOf.new s.heap
  have k0 : ∀ b o, s.heap.get? b = some o → (s.heap.push { cls := .type "dict", data := .dict #[] }).get? b = some o := fun b o e => Heap.get?_push_of_some _ e
  refine ⟨hnew.typeIs, PySem.F.args_dict_init_2 _ _, ?_⟩
  unfold Builtin.«dict.__init__»
  refine wpAny_bind ?_
  unfold Builtin.Dict.selfAndRest
  refine wpAny_bind (wpAny_notOrdered_dict hnew.typeIs ?_)
  show wpAny _ _ (pure (s.heap.objs.size, [Value.ref l])) _ _ _
  refine wpAny_pure ?_
  show wpAny _ _ (Builtin.Dict.updateFrom "dict.__init__" s.heap.objs.size (.ref l) [] .none) _ _ _
  unfold Builtin.Dict.updateFrom
  refine wpAny_bind (wpAny_typeOf (T := "list") ⟨ol, k0 _ _ hl, hc⟩ ?_)
  rw [if_pos (by first | decide | rfl | simp)]
  refine wpAny_bind (miss_list (k0 _ _ hl) hc hdat hd hh fun h1 tk1 hk1 => ?_)
  rw [if_pos (show (none : Option Value).isNone = true from rfl)]
  refine wpAny_bind (wpAny_rule ?_)
  have hl1 : h1.IsList l items := ⟨ol, hk1 _ _ (k0 _ _ hl), hc, n, hdat⟩
  have hS1 : s.heap.objs.size < h1.objs.size := by
    have e : (s.heap.push { cls := .type "dict", data := .dict #[] }).get? s.heap.objs.size = some { cls := .type "dict", data := .dict #[] } := Heap.get?_push_size _ rfl
    exact Heap.lt_size (hk1 _ _ e)
  refine wpAny_bind (wpAny_pyIter_list hl1 ?_)
  have k2 : ∀ b o, h1.get? b = some o → (h1.push { cls := .type "list_iterator", data := .fields #[.ref l, .int 0 0] }).get? b = some o := fun b o e => Heap.get?_push_of_some _ e
  have hlt : l < s.heap.objs.size := Heap.lt_size hl
  have key := upd_loop (prog := prog) (w := w) (A := A.in1) (R := wants (fun r s₂ => r = .none ∧ Q (.ref s.heap.objs.size) s₂) E) (S := s.heap.objs.size) (I := h1.objs.size) (l := l) (items := items) (res := Value.none) hh
    (Nat.ne_of_lt (Nat.lt_trans hlt hS1)) (Nat.ne_of_lt hS1) (Nat.ne_of_gt hlt) prs 0 [] 0 0
    { s with heap := h1.push { cls := .type "list_iterator", data := .fields #[.ref l, .int 0 0] }, toks := tk1 } (by rw [hsz, Nat.zero_add]) (by rw [List.length_nil, Nat.zero_add]; exact hln)
    (fun j q e => by
      obtain ⟨b, u, e1, e2, e3⟩ := ht j q e
      have hb : b < s.heap.objs.size := e2.lt
      exact ⟨b, u, by rw [Nat.zero_add]; exact e1, Nat.ne_of_lt hb, Nat.ne_of_lt (Nat.lt_trans hb hS1), e2.keeps fun c o z => k2 _ _ (hk1 _ _ (k0 _ _ z)), e3⟩)
    ⟨_, Heap.get?_push_size _ rfl, rfl, rfl⟩ (hl1.at fun o e => k2 _ _ e) ((hnew.at fun o e => hk1 _ _ e).at fun o e => k2 _ _ e)
    (fun h' tk hd' k => ⟨rfl, h h' tk hd' fun b o e => k b o (Nat.ne_of_lt (Heap.lt_size e)) (Nat.ne_of_lt (Nat.lt_trans (Heap.lt_size e) hS1)) (k2 _ _ (hk1 _ _ (k0 _ _ e)))⟩)
  first
    | exact wpAny_pure ⟨plainId_quiet ud_plain _, key⟩
    | exact wpAny_bind (wpAny_pure (wpAny_pure ⟨plainId_quiet ud_plain _, key⟩))
end
section
variable {X : Cx}
theorem pairs_of {pins : List (Addr × Obj)} {σ : St} {H : Hp} {s : Shared} (I : Inv X pins σ H s) : ∀ {ps : List Addr} {kvs : List (Key × V)}, Paired (fun p kv => SqT X.K H p [kV kv.1, kv.2]) ps kvs →
    ∃ prs : List (Key × Value), KV kvs prs ∧ prs.length = ps.length ∧ ∀ (j : Nat) (q : Key × Value), prs[j]? = some q → ∃ (b : Addr) (u : Value), ps[j]? = some b ∧ IsTup s.heap b #[u, q.2] ∧ keyIs q.1 u = true
  | _, _, .nil => ⟨[], .nil, rfl, fun j q e => by simp at e⟩
  | _, _, .cons (a := p) (b := kv) h t => by
    obtain ⟨prs, r, hl, hp⟩ := pairs_of I t
    obtain ⟨its, rv, ht, _⟩ := I.tuple h
    obtain ⟨u, y, ei, ru, ry⟩ := vals2 rv
    subst ei
    refine ⟨(kv.1, y) :: prs, .cons ⟨rfl, ry⟩ r, by rw [List.length_cons, List.length_cons, hl], fun j q e => ?_⟩
    cases j with
    | zero =>
      have e' : (kv.1, y) = q := Option.some.inj e
      subst e'
      exact ⟨p, u, rfl, ht, kV_is (P := X.prog) (w := X.w) ru⟩
    | succ j =>
      obtain ⟨b, u', e1, e2, e3⟩ := hp j q (by simpa using e)
      exact ⟨b, u', by simpa using e1, e2, e3⟩
theorem refs_at : ∀ {ps : List Addr} {us : List Value}, Vals (ps.map V.ref) us → us = ps.map Value.ref
  | [], us, r => by
    rw [List.map_nil] at r
    cases r
    rfl
  | p :: ps, us, r => by
    rw [List.map_cons] at r
    cases r with
    | cons h t =>
      cases h
      rw [List.map_cons, ← refs_at t]
theorem call_dictP (hcalm : X.calm = true) : CallR X (.type "dict") (fun xs H Q => ∃ (a : Addr) (ps : List Addr) (kvs : List (Key × V)), xs = [.ref a] ∧ SqL X.K H a (ps.map V.ref) ∧ Paired (fun p kv => SqT X.K H p [kV kv.1, kv.2]) ps kvs ∧
    ∀ p, H p = none → Q (.ref p) (upd H p (.dK (mergeK [] kvs)))) := by
  intro pins s σ H xs us Q I r q
  obtain ⟨a, ps, kvs, ex, hq, hp, q⟩ := q
  subst ex
  obtain ⟨u, eu, rx⟩ := vals1 r
  subst eu
  cases rx
  obtain ⟨its, rv, pl, hz⟩ := I.list hq
  have ei := refs_at rv
  subst ei
  rw [List.length_map] at hz
  obtain ⟨prs, rel, hl, hpr⟩ := pairs_of I hp
  obtain ⟨o, n, ho, hc, hd, hdat⟩ := pl
  refine call_dict_pairs (prs := prs) (I.ok.hd hcalm) ho hc hd hdat (by simp [hl]) (by rw [hl]; exact hz) (fun j q' e => ?_) fun h' tk hd' k => ?_
  · obtain ⟨b, u, e1, e2, e3⟩ := hpr j q' e
    exact ⟨b, u, by simp [e1], e2, e3⟩
  · have hm : (s.heap.objs.size == sysModules) = false := beq_eq_false_iff_ne.mpr (Nat.ne_of_gt I.big)
    have hlen : (mergeK [] kvs).length ≤ sizeLine := by
      refine Nat.le_trans (length_mergeK kvs []) ?_
      rw [List.length_nil, Nat.zero_add, rel.length, hl]
      exact hz
    exact ⟨.ref s.heap.objs.size, upd H s.heap.objs.size (.dK (mergeK [] kvs)), I.laid (t' := tk) k (Nat.le_refl _) (show ObjOk X.prog X.w _ _ _ (.dK (mergeK [] kvs)) from ⟨hlen, hm, merged [] prs, KV.merge rel .nil, hd'⟩), rfl, q _ (I.hok.fresh (Nat.le_refl _))⟩
end
end L2
namespace L2
open PySem PySem.Spec PyProof.Rows
section
variable {X : Cx} {pins : List (Addr × Obj)} {σ : St} {H : Hp} {s : Shared} {h' : Heap}
theorem Inv.turnedNew {t' : Nat} {ch : List Addr} {T : Addr} {ob : HO} (I : Inv X pins σ H s) (k : ∀ b o, b ∉ ch → s.heap.get? b = some o → h'.get? b = some o) (hf : ∀ b ∈ ch, FpOk X pins H b) (hT : s.heap.objs.size ≤ T)
    (new : ObjOk X.prog X.w (upd H T ob) h' T ob) : Inv X pins σ (upd H T ob) { s with heap := h', toks := t' } := by
  have hn : H T = none := I.hok.fresh hT
  have nit : ∀ b u, H b = some u → b ∉ ch := fun b u e z => by
    have q := (hf b z).1
    rw [q] at e; cases e
  refine I.step (g' := s.gens) (d' := s.drawn) (ch := ch) (fun b hb => ⟨(hf b hb).2.2.2.1, (hf b hb).2.1, (hf b hb).2.2.2.2.1, (hf b hb).2.2.2.2.2⟩) (fun b o _ _ hc e _ => k b o hc e) (fun b o _ _ hc e _ => ⟨o.slots, k b o hc e⟩)
    (fun b o _ e n => ?_) (fun b o hc e => ⟨o, k b o hc e⟩) (fun b xs e => ?_) (fun b o u e => ?_) (fun b ps e => ⟨#[], ?_⟩) (fun m hm => ?_) (fun b u e => ?_) I.bare
  · rw [upd_ne (Nat.ne_of_lt (Nat.lt_of_lt_of_le (Heap.lt_size e) hT))]; exact n
  · rw [upd_ne (ne_of_none e hn)]; exact e
  · rw [upd_ne (ne_of_none e hn)]; exact e
  · rw [upd_ne (ne_of_none e hn), e]; simp
  · obtain ⟨o, es, ep, ho, r⟩ := hm
    exact ⟨o, es, ep, k _ o (fun z => (hf _ z).2.1 rfl) ho, r⟩
  · by_cases hb : b = T
    · subst hb
      rw [upd_same] at e
      cases e
      exact new
    · rw [upd_ne hb] at e
      refine (I.hok b u e).stay (fun c v hc q => k c v ?_ q) (fun c q => by rw [upd_ne (ne_of_none q hn)]; exact q) fun c xs q => by rw [upd_ne (ne_of_none q hn)]; exact q
      rcases hc with z | z
      · rw [z]; exact nit b u e
      · exact nit c _ z
end
section
variable {X : Cx}
end
def RgC (i j c : Int) (n : Nat) : Prop := c ≠ 0 ∧ c.natAbs < 1073741824 ∧ Builtin.Range.small i j c = true ∧ Builtin.Range.rangeSize i j c = n
theorem RgC.neg {i j : Int} (ha : -(2 ^ 62) ≤ i) (ha' : i < 2 ^ 62) (hb : -(2 ^ 62) ≤ j) (hb' : j < 2 ^ 62) : RgC i j (-1) (i - j).toNat :=
  ⟨by decide, by decide, PySem.W.small_down ha ha' hb hb', PySem.W.rangeSize_downNat i j⟩
section
variable {X : Cx} {tg : Expr}
end
section
variable {X : Cx} {tg : Expr}
end
section
variable {prog : Program} {w : World} {A : Around} {E : Value → Shared → Prop} {s : Shared}
end
section
variable {X : Cx} {pins : List (Addr × Obj)} {σ : St} {H : Hp} {s : Shared} {d : Addr} {o : Obj}
end
section
variable {P : Program} {w : World} {K : PySem.W.Frag} {tg : Expr} {d : Addr} {o : Obj} {es : Array DictEntry} {ep : Nat}
end
section
variable {X : Cx} {tg e : Expr} {td : TE} {apos cpos : Pos}
end
def Ite (K : PySem.W.Frag) (a : Addr) : It :=
  ⟨fun i H => ∃ (xs : List V) (x : V), SqL K H a xs ∧ xs[i]? = some x, fun i H v H' => ∃ T x, v = .ref T ∧ H T = none ∧ H' = upd H T (.tup [.int (i : Nat), x]) ∧ ∀ xs, SqL K H a xs → xs[i]? = some x, fun i H => ∃ xs : List V, SqL K H a xs ∧ xs.length ≤ i⟩
theorem turn_enum {P : Program} {w : World} {K : PySem.W.Frag} {elts : List Expr} {kk : Nat} {tpos : Pos} (a e it : Addr) :
    Turn P w K (.Tuple elts kk tpos) (Ite K a) [e, it] e (fun i h => (∃ old, IsEnum h e it ((i : Nat) : Int) old) ∧ h.IsListIter it a i ∧ e ≠ it) where
  mem := by simp
  obj := fun i h st b hb => by
    obtain ⟨⟨old, he⟩, ⟨o, ho, hc, hd⟩, _⟩ := st
    have e' : b = e ∨ b = it := by simpa using hb
    rcases e' with z | z
    · rw [z]; exact ⟨_, he, fun v q => nomatch q⟩
    · rw [z]; exact ⟨o, ho, fun v q => by rw [hd] at q; cases q⟩
  keep := fun i h h' st k => let ⟨⟨old, he⟩, hi, hne⟩ := st; ⟨⟨old, k e (by simp) _ he⟩, hi.at fun o q => k it (by simp) o q, hne⟩
  item := by
    intro X hP hw hK hc i pins s σ H E I hf st hg
    subst hP hw hK
    obtain ⟨⟨old, he⟩, hit, hne⟩ := st
    obtain ⟨xs, x, hq, hx⟩ := hg
    obtain ⟨its, rv, p, hz⟩ := I.list hq
    obtain ⟨u, hu, ru⟩ := rv.get hx
    have hel : e < s.heap.objs.size := Heap.lt_size he
    have hil : it < s.heap.objs.size := by obtain ⟨_, q, _⟩ := hit; exact Heap.lt_size q
    refine wpAny_pyNext_enum_item he hit p.isList (x := u) (by simpa using hu) hne fun h' ho hit' hT hsz hk => ?_
    refine ⟨_, rfl, wpAny_letOwnedTupleGo_enum (s := { s with heap := h', toks := s.toks + 1 }) ho fun h'' he' sb => ?_⟩
    have hT2 : h''.get? s.heap.objs.size = some { cls := .type "tuple", data := .seq #[.int i s.toks, u] } := (sb.2 _ (Nat.ne_of_gt hel)).trans hT
    have new : ObjOk X.prog X.w (upd H s.heap.objs.size (.tup [.int (i : Nat), x])) h'' s.heap.objs.size (.tup [.int (i : Nat), x]) :=
      ⟨by show 2 ≤ sizeLine; decide, [.int i s.toks, u], .cons ⟨_, rfl⟩ (.cons ru .nil), ⟨_, hT2, rfl, _, rfl⟩⟩
    have I1 : Inv X pins σ (upd H s.heap.objs.size (.tup [.int (i : Nat), x])) { s with heap := h'', toks := s.toks + 1 } :=
      I.turnedNew (ch := [e, it]) (fun b ob hb q => (sb.2 b (fun z => hb (by simp [z]))).trans (hk b ob (fun z => hb (by simp [z])) (fun z => hb (by simp [z])) q)) hf (Nat.le_refl _) new
    refine ⟨.ref s.heap.objs.size, _, I1, rfl, ⟨_, x, rfl, I.hok.fresh (Nat.le_refl _), rfl, fun ys hy => by rw [I.list_inj hy hq]; exact hx⟩, ⟨⟨u, ?_⟩, hit'.at fun o q => (sb.2 it (Ne.symm hne)).trans q, hne⟩, fun b hb => ?_⟩
    · have e1 : ((i + 1 : Nat) : Int) = (i : Int) + 1 := by omega
      rw [e1]; exact he'
    · have hb' : b < s.heap.objs.size := by
        have e' : b = e ∨ b = it := by simpa using hb
        rcases e' with z | z
        · rw [z]; exact hel
        · rw [z]; exact hil
      rw [upd_ne (Nat.ne_of_lt hb')]
      exact (hf b hb).1
  done := by
    intro X hP hw hK hc i pins s σ H E I hf st hg
    subst hP hw hK
    obtain ⟨⟨old, he⟩, hit, hne⟩ := st
    obtain ⟨xs, hq, hx⟩ := hg
    obtain ⟨its, rv, p, hz⟩ := I.list hq
    obtain ⟨f0, f1, f2, f3, f4, f5⟩ := hf it (by simp)
    have hl := rv.length
    exact wpAny_pyNext_enum_end (I.ok.hd hc) he hit p.isList (by simp; omega) fun h' eb => ⟨rfl, I.turned (t' := s.toks) (fun b o hb q => eb b o hb q) f0 f1 f3 f4 f5⟩
  self := fun A i s Q E st h => let ⟨⟨_, he⟩, _⟩ := st; wpAny_pyIter_enum he h
def iEnum (K : PySem.W.Frag) (ta : TA) : TI := fun σ H R => ta σ H fun vs H1 => ∃ a xs, vs = [.ref a] ∧ SqL K H1 a xs ∧ R (Ite K a) H1
theorem pi_enum {X : Cx} {e : Expr} {ta : TA} {p pos tpos : Pos} {elts : List Expr} {kk : Nat} (hg : Gl X "enumerate") (hm : X.mg "enumerate" = none) (ha : PA X [e] ta) (hs : starEach [e] X.env = [(false, eval e X.env)] := by rfl) :
    PI X (.Tuple elts kk tpos) (.Call (.Name "enumerate" p) [e] [] pos) (iEnum X.K ta) := by
  intro pins s σ H R I h
  refine Call_ (ld_blt I hg hm boot_enumerate (PyProof.Rows.callWith_type1 (thn (ha pos pins s σ H _ I h) fun us s1 ⟨vs, H1, I1, r1, q1⟩ => ?_) hs rfl))
  obtain ⟨a, xs, ex, hq, q⟩ := q1
  subst ex
  cases r1 with
  | cons r rr =>
    cases rr
    cases r
    obtain ⟨its, rv, p', hz⟩ := I1.list hq
    refine call_enumerate_list p'.isList fun h' he hit hsz hk => wpAny_pyIter_enum he ?_
    have I2 : Inv X pins σ H1 { s1 with heap := h' } := I1.kept (t' := s1.toks) hk
    refine ⟨s1.heap.objs.size + 1, [s1.heap.objs.size + 1, s1.heap.objs.size], _, _, H1, rfl, I2, turn_enum a (s1.heap.objs.size + 1) s1.heap.objs.size, ⟨⟨.none, he⟩, hit, Nat.succ_ne_self _⟩, fun b hb => ?_, q⟩
    have e' : b = s1.heap.objs.size + 1 ∨ b = s1.heap.objs.size := by simpa using hb
    have hle : s1.heap.objs.size ≤ b := by
      rcases e' with z | z
      · rw [z]; exact Nat.le_add_right _ _
      · rw [z]; exact Nat.le_refl _
    exact I1.fpOk hle (I1.hok.fresh hle)
end L2
section 
namespace Bits
open PySem PyProof.Rows
end Bits
end 
section 
namespace TL
open PySem PySem.Builtin PySem.Builtin.Str PySem.StrLaws
abbrev tl (x : Str) : List Nat := x.cps.toList
def pre (S l : List Nat) : Bool := l.take S.length == S
def par (S : List Nat) : List Nat → List Nat → Option (List Nat × List Nat)
  | _, [] => none
  | acc, c :: r => if pre S (c :: r) = true then some (acc, (c :: r).drop S.length) else par S (acc ++ [c]) r
end TL
end 
namespace L2
open PySem PySem.Spec PyProof.Rows
theorem vals_strs : ∀ l : List (Str × Tok), Vals ((l.map (·.1)).map V.str) (strValues l)
  | [] => .nil
  | p :: r => .cons ⟨p.2, rfl⟩ (vals_strs r)
section
variable {X : Cx} {pins : List (Addr × Obj)} {σ : St} {H : Hp} {s : Shared} {Q : VK}
end
section
variable {X : Cx}
end
section
variable {X : Cx} {o e : Expr} {to te : TE}
end
end L2
namespace L2
open PySem PySem.Spec PyProof.Rows
section
variable {X : Cx}
end
end L2
namespace Att
open PySem PySem.W PySem.Calls PyProof.Rows
theorem ints_of_wellAll {P : Params} {h : Heap} : ∀ (ns : List Int) (vs : List Value), WellAll P h vs (ns.map WData.int) → IntsAre vs ns := by
  intro ns
  induction ns with
  | nil =>
    intro vs w
    rw [List.map_nil] at w
    cases w
    exact .nil
  | cons n ns ih =>
    intro vs w
    rw [List.map_cons] at w
    cases w with
    | cons a b =>
      cases a
      exact .cons _ _ (ih _ b)
theorem script_of {l : OpenLaw} {n : Nat} (hn : l.most = some n) {P : Params} {h : Heap} {args : List WData} {vals : List Value}
    (hpre : l.row.toRowW.claim.pre args = true) (hwl : WellAll P h vals args) :
    ∃ a vs ns, vals = [Value.ref a] ∧ args = [WData.list (ns.map WData.int)] ∧ h.get? a = some { cls := .type "list", data := .seq vs.toArray } ∧ IntsAre vs ns ∧ ns.length ≤ n := by
  have hsh : WShape.hasAll [] args [.list .int] = true := (pre_splitW hpre).1
  have hc : l.pre.holds [] { args := args } = true := (pre_splitW hpre).2
  obtain ⟨d, r, rfl, h1, h2⟩ := hasAllW_cons hsh
  obtain rfl := hasAllW_nil h2
  obtain ⟨xs, rfl, h3⟩ := hasW_list h1
  obtain ⟨ns, rfl⟩ := items_int h3
  have hlen : ns.length ≤ n := by
    unfold OpenLaw.pre at hc
    have h4 : (WTm.not (.lt (.lit (.int (n : Int))) (.len (.arg 0)))).holds [] { args := [.list (ns.map .int)] } = true := by
      have h4 := (holds_andW hc).1
      rw [hn] at h4
      exact h4
    have h5 := condW_of h4 (w_not (w_lt w_lit (w_len_list (w_arg rfl))))
    rw [List.length_map] at h5
    refine Nat.le_of_not_lt fun q => ?_
    have q' : (n : Int) < ((ns.length : Nat) : Int) := by omega
    first
      | (rw [decide_eq_true q'] at h5; exact absurd h5 (by decide))
      | (simp at h5; omega)
  cases hwl with
  | cons w1 w2 =>
    cases w2
    cases w1 with
    | list ho hall => exact ⟨_, _, ns, rfl, rfl, ho, ints_of_wellAll ns _ hall, hlen⟩
theorem post_true (l : OpenLaw) (args : List WData) : l.row.toRowW.claim.post args (.bool true) args = true :=
  postW_of (r := l.row.toRowW) (X := (true == true))
    (show WShape.has [] (.bool true) .bool = true by first | rfl | decide | simp [WShape.has, WShape.arms, WShape.armsAll])
    (show (WTm.eq .res (.lit (.bool true))).value [] { args := args, res := some (.bool true), after := args } = some (.bool (true == true)) from w_eq_bool (w_res rfl) w_lit) rfl
theorem attach_call {l : OpenLaw} {n : Nat} {q : Program} {loose : List Str} {XP : (Str → Option Value) → Heap → Prop} {YP : World → Heap → Prop} {d : DefRec}
    (hn : l.most = some n) (hdf : d.params.defaults = [])
    (call : ∀ (w : World) (s₀ s₁ : Shared) (mg mb : Str → Option Value) (fa : Addr) (o : Obj) (pm cd doc : Value) (a : Addr) (vs : List Value) (ns : List Int),
      Ground q loose [] XP w s₀ mg mb s₁.heap → YP w s₁.heap →
      s₁.heap.get? fa = some o → o.data = .func (docDef d.name d.params d.body d.scope pm cd doc) → s₁.heap.CodeRec cd d.name → mg d.name = some (.ref fa) →
      s₁.heap.get? a = some { cls := .type "list", data := .seq vs.toArray } → IntsAre vs ns → ns.length ≤ n → s₁.gens = #[] →
      codeAny (model l.prog w) callerA (.call (.ref fa) ⟨[.ref a], []⟩) (fun r s' => r = .ok (.ret (.bool true)) ∧ OldK s₁.heap s'.heap ∧ s'.os = s₁.os ∧ AllBare s'.gens) s₁) :
    WalkO q loose XP YP l.row.toRowW d [] (fun f vs => PySem.call f vs) := by
  intro w s₀ s₁ mg mb G Y fa o pm cd doc dV kV ho hd hcd hD hmg hg args vals as hpre hlay hrd hwl hlo
  obtain rfl : dV = .none := Dflts.none hD hdf
  obtain rfl : kV = .none := Dflts.noKw hD
  obtain ⟨a, vs, ns, rfl, rfl, hobj, hints, hlen⟩ := script_of hn hpre hwl
  refine enter_call (codeAny_mono (call w s₀ s₁ mg mb fa o pm cd doc a vs ns G Y ho (fd_plain hd) hcd hmg hobj hints hlen hg) fun r s' hq => ?_)
  obtain ⟨rfl, h2, h3, h4⟩ := hq
  exact ⟨.inl ⟨.bool true, .bool true, [], rfl, fun _ => rfl, .bool true, post_true l _, fun _ => ⟨List.Pairwise.nil, fun _ hm => (nomatch hm)⟩⟩, h2, h3, h4⟩
section
variable {prog : Program} {w : World} {A : Around} {E : Value → Shared → Prop} {s : Shared} {K : Frag}
end
end Att
namespace L2
open PySem PySem.Spec PyProof.Rows
theorem vals_ints : ∀ {vs : List Value} {ns : List Int}, IntsAre vs ns → Vals (ns.map V.int) vs
  | _, _, .nil => .nil
  | _, _, .cons n t h => .cons ⟨t, rfl⟩ (vals_ints h)
end L2
namespace L2
open PySem PySem.Spec PyProof.Rows
end L2
namespace L2
open PySem PySem.Spec PyProof.Rows
def defArgs (s : Stmt) : Arguments := match s with
  | .FunctionDef _ a _ _ _ _ _ _ _ _ => a
  | _ => { posonlyargs := [], args := [], vararg := none, kwonlyargs := [], kw_defaults := [], kwarg := none, defaults := [] }
def defBody (s : Stmt) : List Stmt := match s with
  | .FunctionDef _ _ b _ _ _ _ _ _ _ => b
  | _ => []
def defScope (s : Stmt) : Scope := match s with
  | .FunctionDef _ _ _ _ _ _ sc _ _ _ => sc
  | _ => { kind := .function, names := [], isGenerator := false, isCoroutine := false }
abbrev CX0 : CXT := fun _ _ _ _ _ _ => False
abbrev E0 : XK := fun _ _ _ => False
theorem pass0 {X : Cx} : Passes CX0 X E0 := fun _ _ _ _ _ _ _ h => h.elim
structure Fun (K : PySem.W.Frag) (x qual : Str) (st : Stmt) (f : Addr) (fd : FuncData) : Prop where
  ex : ∃ (oc : Value) (od : Option Addr) (kV doc pm : Value) (an : Option Addr) (cdv ct : Value) (osl : Array (Option Value)),
    fd = PySem.W.fnOf x qual (defArgs st) (defBody st) (defScope st) .none kV doc pm an cdv ct ∧ K.lookup f = some ⟨oc, od, .func fd, osl⟩ ∧ PySem.W.codeIn K cdv qual = true
  kp : PySem.W.keepIn K (.ref f) = true
section
variable {P : Program} {w : World} {K : PySem.W.Frag} {mg : Str → Option Value} {base : Heap}
theorem Fun.ok {x qual : Str} {st : Stmt} {f : Addr} {fd : FuncData} {N ps : List Str} {k : Nat} {sp : Sp} (F : Fun K x qual st f fd) (S : FnScope N ps (defScope st)) (len : ∀ vs H Q E, sp vs H Q E → vs.length = ps.length)
    (hbody : ∀ (cdv : Value) (A : Around) (outer : List Env) (s : Shared) (H : Hp) (vs : List V) (Q : VK) (E : XK), Room k (A.deeper (envOfC qual (defScope st) s.heap.objs.size f cdv)) → sp vs H Q E →
      ∃ t, PSs (cxOf CX0 P w K mg base N qual (defScope st) f cdv A outer s H E).nox (defBody st) t ∧ t { nx := fun _ H' => Q .non H', rt := Q } (start N vs) H) : FnOk P w K mg base CX0 (k + 1) f fd ps sp := by
  obtain ⟨oc, od, kV, doc, pm, an, cdv, ct, osl, rfl, lk, hcd⟩ := F.ex
  refine fn_of lk hcd S len fun A outer s H vs Q E hr hsp => ?_
  obtain ⟨t, h, q⟩ := hbody cdv A outer s H vs Q E hr hsp
  exact ⟨t, h.nox, q⟩
theorem Fun.binds {x qual : Str} {st : Stmt} {f : Addr} {fd : FuncData} {ps : List Str} (F : Fun K x qual st f fd)
    (h : ∀ (kV doc pm : Value) (an : Option Addr) (cdv ct : Value) (us : List Value), us.length = ps.length → bindArgs (PySem.W.fnOf x qual (defArgs st) (defBody st) (defScope st) .none kV doc pm an cdv ct) ⟨us, []⟩ = pure (ps.zip us)) : Binds K fd ps [] := by
  obtain ⟨oc, od, kV, doc, pm, an, cdv, ct, osl, rfl, lk, hcd⟩ := F.ex
  exact .all (h kV doc pm an cdv ct)
theorem fun_mk {x qual : Str} {st : Stmt} {f : Addr} {oc : Value} {od an : Option Addr} {osl : Array (Option Value)} {kV doc pm cdv ct : Value} (l : K.lookup f = some ⟨oc, od, .func (PySem.W.fnOf x qual (defArgs st) (defBody st) (defScope st) .none kV doc pm an cdv ct), osl⟩)
    (c : PySem.W.codeIn K cdv qual = true) (k : PySem.W.keepIn K (.ref f) = true) : Fun K x qual st f (PySem.W.fnOf x qual (defArgs st) (defBody st) (defScope st) .none kV doc pm an cdv ct) := ⟨⟨oc, od, kV, doc, pm, an, cdv, ct, osl, rfl, l, c⟩, k⟩
end
theorem hu_of {A : Around} {k : Nat} (hr : Room k A) : A.units + 1 < cLine := Nat.lt_of_le_of_lt (Nat.add_le_add_left (by decide : 1 ≤ 64) _) hr.units
theorem small1000 {n : Nat} (h : n ≤ 1000) : n < sizeLine := Nat.lt_of_le_of_lt h (by decide)
section
variable {X : Cx}
end
theorem iteF {A B : Prop} (h : B) : if false = true then A else B := by
  rw [if_neg Bool.false_ne_true]
  exact h
theorem iteT {A B : Prop} (h : A) : if true = true then A else B := by
  rw [if_pos rfl]
  exact h
def Same (H H' : Hp) : Prop := ∀ b o, H b = some o → H' b = some o
theorem Same.refl (H : Hp) : Same H H := fun _ _ h => h
theorem Same.trans {H H1 H2 : Hp} (a : Same H H1) (b : Same H1 H2) : Same H H2 := fun c o h => b c o (a c o h)
theorem Same.free {H H' : Hp} (e : Same H H') {l : Addr} (h : H' l = Option.none) : H l = Option.none := by
  cases q : H l with
  | none => rfl
  | some o =>
    rw [e l o q] at h
    cases h
theorem Same.seq {K : PySem.W.Frag} {H H' : Hp} {a : Addr} {xs : List V} (e : Same H H') (h : SqL K H a xs) : SqL K H' a xs := by
  rcases h with (h | ⟨o, h⟩) | h
  · exact .inl (.inl (e _ _ h))
  · exact .inl (.inr ⟨o, e _ _ h⟩)
  · exact .inr h
section
variable {κ : Type} [DecidableEq κ]
end
theorem at_of {xs : List V} {z : Int} {j : Nat} {v : V} (e : z = (j : Int)) (h : xs[j]? = some v) : atI xs z = some v := by
  rw [e]
  exact atI_nat h
theorem Same.made {H H1 : Hp} {x dx C : Addr} (nx : H x = Option.none) (nd : H dx = Option.none) (k : ∀ b o, (upd (upd H dx (.own x)) x (.ins C dx [])) b = some o → b ≠ x → H1 b = some o) : Same H H1 := fun b o e =>
  k b o (by rw [upd_ne (ne_of_none e nx), upd_ne (ne_of_none e nd)]; exact e) (ne_of_none e nx)
end L2
namespace L3
open PySem PySem.Spec PyProof.Rows L2
inductive D where
  | non | bl (b : Bool) | int (i : Int) | str (x : Str) | tup (xs : List D) | ref (n : Nat) | ro (xs : List D)
  /-- any other thing, by its address -/
  | adr (a : Addr)
inductive O where
  | lst (xs : List D)
  /-- a dict whose keys are tuples of numbers -/
  | dic (kvs : List (List Int × D))
  /-- a dict whose keys are numbers and texts -/
  | dkv (kvs : List (Key × D))
  /-- an instance of a class of the text, its attributes -/
  | ins (C : Addr) (fs : List (Str × D))
abbrev Sto := List O
abbrev Env := List (Option D)
def SqR (K : PySem.W.Frag) (H : Hp) (a : Addr) (xs : List V) : Prop :=
  (∃ o, H a = some (.frz o (.lst xs))) ∨ ∃ (o : Obj) (its : Array Value) (n : Nat), K.lookup a = some o ∧ o.cls = .type "list" ∧ o.dict = none ∧ o.data = .seq its n ∧ its.size ≤ sizeLine ∧ Vals xs its.toList
theorem SqR.sqL {K : PySem.W.Frag} {H : Hp} {a : Addr} {xs : List V} (h : SqR K H a xs) : SqL K H a xs := by
  rcases h with h | h
  · exact .inl (.inr h)
  · exact .inr h
mutual
inductive Rep (K : PySem.W.Frag) (H : Hp) (μ : List Addr) : D → V → Prop
  | non : Rep K H μ .non .non
  | bl (b : Bool) : Rep K H μ (.bl b) (.bl b)
  | int (i : Int) : Rep K H μ (.int i) (.int i)
  | str (x : Str) : Rep K H μ (.str x) (.str x)
  | tup {a : Addr} {vs : List V} {ds : List D} : SqT K H a vs → Reps K H μ ds vs → Rep K H μ (.tup ds) (.ref a)
  | ref {n : Nat} {a : Addr} : μ[n]? = some a → Rep K H μ (.ref n) (.ref a)
  | ro {a : Addr} {vs : List V} {ds : List D} : SqR K H a vs → Reps K H μ ds vs → Rep K H μ (.ro ds) (.ref a)
  | adr (a : Addr) : Rep K H μ (.adr a) (.ref a)
inductive Reps (K : PySem.W.Frag) (H : Hp) (μ : List Addr) : List D → List V → Prop
  | nil : Reps K H μ [] []
  | cons {d : D} {v : V} {ds : List D} {vs : List V} : Rep K H μ d v → Reps K H μ ds vs → Reps K H μ (d :: ds) (v :: vs)
end
section
variable {K : PySem.W.Frag} {H H' : Hp} {μ μ' : List Addr}
theorem Reps.length : ∀ {ds : List D} {vs : List V}, Reps K H μ ds vs → ds.length = vs.length
  | [], _, h => by cases h; rfl
  | _ :: _, _, h => by cases h with | cons _ t => rw [List.length_cons, List.length_cons, Reps.length t]
theorem Reps.get : ∀ {ds : List D} {vs : List V} {i : Nat} {d : D}, Reps K H μ ds vs → ds[i]? = some d → ∃ v, vs[i]? = some v ∧ Rep K H μ d v
  | [], _, _, _, _, e => by simp at e
  | _ :: _, _, 0, _, h, e => by cases h with | cons r t => simp at e; subst e; exact ⟨_, rfl, r⟩
  | _ :: ds, _, i + 1, d, h, e => by
    cases h with
    | cons r t =>
      obtain ⟨v, h1, h2⟩ := Reps.get (i := i) t (by simpa using e)
      exact ⟨v, by simpa using h1, h2⟩
theorem Reps.append : ∀ {ds es : List D} {vs us : List V}, Reps K H μ ds vs → Reps K H μ es us → Reps K H μ (ds ++ es) (vs ++ us)
  | [], _, _, _, h, g => by cases h; exact g
  | _ :: _, _, _, _, h, g => by cases h with | cons r t => exact .cons r (Reps.append t g)
theorem Reps.set : ∀ {ds : List D} {vs : List V} {d : D} {v : V} (i : Nat), Rep K H μ d v → Reps K H μ ds vs → Reps K H μ (ds.set i d) (vs.set i v)
  | [], _, _, _, _, _, h => by cases h; exact .nil
  | _ :: _, _, _, _, 0, q, h => by cases h with | cons r t => exact .cons q t
  | _ :: _, _, _, _, i + 1, q, h => by cases h with | cons r t => exact .cons r (Reps.set i q t)
theorem Reps.drop : ∀ {ds : List D} {vs : List V} (n : Nat), Reps K H μ ds vs → Reps K H μ (ds.drop n) (vs.drop n)
  | _, _, 0, h => h
  | [], _, _ + 1, h => by cases h; exact .nil
  | _ :: _, _, n + 1, h => by cases h with | cons r t => exact Reps.drop n t
theorem Reps.take : ∀ {ds : List D} {vs : List V} (n : Nat), Reps K H μ ds vs → Reps K H μ (ds.take n) (vs.take n)
  | _, _, 0, h => .nil
  | [], _, _ + 1, h => by cases h; exact .nil
  | _ :: _, _, n + 1, h => by cases h with | cons r t => exact .cons r (Reps.take n t)
theorem Reps.reverse : ∀ {ds : List D} {vs : List V}, Reps K H μ ds vs → Reps K H μ ds.reverse vs.reverse
  | [], _, h => by cases h; exact .nil
  | _ :: _, _, h => by cases h with | cons r t => rw [List.reverse_cons, List.reverse_cons]; exact (Reps.reverse t).append (.cons r .nil)
theorem Reps.eraseIdx : ∀ {ds : List D} {vs : List V} (i : Nat), Reps K H μ ds vs → Reps K H μ (ds.eraseIdx i) (vs.eraseIdx i)
  | [], _, _, h => by cases h; exact .nil
  | _ :: _, _, 0, h => by cases h with | cons r t => exact t
  | _ :: _, _, i + 1, h => by cases h with | cons r t => exact .cons r (Reps.eraseIdx i t)
theorem Reps.ints : ∀ {ns : List Int} {vs : List V}, Reps K H μ (ns.map D.int) vs → vs = ns.map V.int
  | [], _, h => by cases h; rfl
  | _ :: _, _, h => by cases h with | cons r t => cases r; rw [Reps.ints t]; rfl
theorem Reps.bls : ∀ {ns : List Bool} {vs : List V}, Reps K H μ (ns.map D.bl) vs → vs = ns.map V.bl
  | [], _, h => by cases h; rfl
  | _ :: _, _, h => by cases h with | cons r t => cases r; rw [Reps.bls t]; rfl
theorem reps_ints : ∀ (ns : List Int), Reps K H μ (ns.map D.int) (ns.map V.int)
  | [] => .nil
  | _ :: t => .cons (.int _) (reps_ints t)
end
def dEnt (x : List Int × Addr × Value) : DictEntry := ⟨reduceHash (Builtin.Tuple.tupleHashOf (x.1.map hashInt)), .ref x.2.1, x.2.2⟩
def DicO (a : Addr) (xs : List (List Int × Addr × Value)) : HO := .ext fun h => ∃ o es ep, h.get? a = some o ∧ o.ExactDict ∧ o.data = .dict es ep ∧ es.toList = xs.map dEnt
inductive DReps (K : PySem.W.Frag) (H : Hp) (μ : List Addr) : List (List Int × D) → List (List Int × Addr × Value) → Prop
  | nil : DReps K H μ [] []
  | cons {k : List Int} {d : D} {b : Addr} {u : Value} {v : V} {r : List (List Int × D)} {t : List (List Int × Addr × Value)} : SqT K H b (k.map V.int) → RelV v u → Rep K H μ d v → DReps K H μ r t → DReps K H μ ((k, d) :: r) ((k, b, u) :: t)
structure KReps {κ : Type} (K : PySem.W.Frag) (H : Hp) (μ : List Addr) (kvs : List (κ × D)) (ws : List (κ × V)) : Prop where
  keys : ws.map (·.1) = kvs.map (·.1)
  vals : Reps K H μ (kvs.map (·.2)) (ws.map (·.2))
def lamFns : List Str := ["check_report", "check_rows", "in_order", "side_keys", "check_masters", "_law_rows"]
def lamQ (x : Str) : Str := x ++ ".<locals>." ++ "<lambda>"
def tabsOf (K : PySem.W.Frag) : List (Str × Addr) := lamFns.filterMap fun x => (PySem.W.tabIn K x).map fun q => (x, q.2)
def CodeO (o : Obj) (q : Str) : Prop := ∃ vs t, o.data = .fields vs ∧ vs[1]? = some (Value.str q t)
def TabOk (H : Hp) (x : Str) (ps : Array Value) : Prop := TriplesOk ps.toList ∧ ∀ pos cv, codeAmong pos ps.toList = some cv → ∃ c oC, cv = Value.ref c ∧ H c = some (HO.frz oC (.own c)) ∧ CodeO oC (lamQ x)
def isOwn : HO → Bool
  | .own _ => true
  | _ => false
def noTbl : HO → Bool
  | .tbl _ => false
  | _ => true
structure Go (H : Hp) (μ : List Addr) (H' : Hp) (μ' : List Addr) : Prop where
  pre : ∃ l, μ' = μ ++ l
  new : ∀ b ∈ μ', b ∉ μ → H b = none
  keep : ∀ b o, H b = some o → b ∉ μ → noTbl o = true → H' b = some o
  tbl : ∀ b ps, H b = some (HO.tbl ps) → ∃ ps', H' b = some (HO.tbl ps')
theorem Go.refl {H : Hp} {μ : List Addr} : Go H μ H μ := ⟨⟨[], by simp⟩, fun b h n => absurd h n, fun _ _ h _ _ => h, fun b ps h => ⟨ps, h⟩⟩
theorem Go.stay {H H' : Hp} {μ μ' : List Addr} (g : Go H μ H' μ') {b : Addr} {o : HO} (h : H b = some o) (n : b ∉ μ) : H' b ≠ none := by
  intro z
  cases o with
  | tbl ps => obtain ⟨_, e⟩ := g.tbl b ps h; rw [z] at e; cases e
  | _ => have e := g.keep b _ h n rfl; rw [z] at e; cases e
theorem Go.get {H H' : Hp} {μ μ' : List Addr} (g : Go H μ H' μ') {n : Nat} {a : Addr} (h : μ[n]? = some a) : μ'[n]? = some a := by
  obtain ⟨l, rfl⟩ := g.pre
  rw [List.getElem?_append_left (List.getElem?_eq_some_iff.mp h).1]
  exact h
theorem Go.mem {H H' : Hp} {μ μ' : List Addr} (g : Go H μ H' μ') {a : Addr} (h : a ∈ μ) : a ∈ μ' := by
  obtain ⟨l, rfl⟩ := g.pre
  exact List.mem_append_left _ h
theorem Go.trans {H H1 H2 : Hp} {μ μ1 μ2 : List Addr} (a : Go H μ H1 μ1) (b : Go H1 μ1 H2 μ2) : Go H μ H2 μ2 := by
  refine ⟨?_, fun c h n => ?_, fun c o h n t => ?_, fun c ps h => ?_⟩
  · obtain ⟨l, rfl⟩ := a.pre
    obtain ⟨l', rfl⟩ := b.pre
    exact ⟨l ++ l', by simp⟩
  · by_cases q : c ∈ μ1
    · exact a.new c q n
    · have z := b.new c h q
      cases e : H c with
      | none => rfl
      | some o => exact absurd z (a.stay e n)
  · refine b.keep c o (a.keep c o h n t) (fun q => ?_) t
    rw [a.new c q n] at h; cases h
  · obtain ⟨ps', h'⟩ := a.tbl c ps h
    exact b.tbl c ps' h'
def OOk (K : PySem.W.Frag) (H : Hp) (μ : List Addr) (a : Addr) : O → Prop
  | .lst ds => ∃ vs, H a = some (HO.lst vs) ∧ Reps K H μ ds vs
  | .dic kvs => ∃ xs, H a = some (DicO a xs) ∧ (a == sysModules) = false ∧ (kvs.map (·.1)).Nodup ∧ DReps K H μ kvs xs
  | .dkv kvs => ∃ ws, H a = some (HO.dK ws) ∧ KReps K H μ kvs ws
  | .ins C fs => ∃ dx ws, H a = some (HO.ins C dx ws) ∧ KReps K H μ fs ws
structure Sim (K : PySem.W.Frag) (H : Hp) (μ : List Addr) (S : Sto) : Prop where
  len : μ.length = S.length
  nd : μ.Nodup
  obj : ∀ (n : Nat) (o : O), S[n]? = some o → ∃ a, μ[n]? = some a ∧ OOk K H μ a o
  frm : ∀ a ∈ μ, ∀ xs, H a ≠ some (HO.tup xs)
  frf : ∀ a ∈ μ, ∀ o u, H a ≠ some (HO.frz o u)
  non : ∀ a ∈ μ, H a ≠ none
  tab : ∀ q ∈ tabsOf K, ∃ ps, H q.2 = some (HO.tbl ps) ∧ TabOk H q.1 ps
  ntb : ∀ a ∈ μ, ∀ ps, H a ≠ some (HO.tbl ps)
section
variable {K : PySem.W.Frag} {H : Hp} {μ : List Addr} {S : Sto}
theorem Sim.lst (m : Sim K H μ S) (n : Nat) (ds : List D) (h : S[n]? = some (O.lst ds)) : ∃ a vs, μ[n]? = some a ∧ H a = some (HO.lst vs) ∧ Reps K H μ ds vs := by
  obtain ⟨a, e, vs, h1, h2⟩ := m.obj n _ h
  exact ⟨a, vs, e, h1, h2⟩
theorem Sim.dic (m : Sim K H μ S) (n : Nat) (kvs : List (List Int × D)) (h : S[n]? = some (O.dic kvs)) : ∃ a xs, μ[n]? = some a ∧ H a = some (DicO a xs) ∧ (a == sysModules) = false ∧ (kvs.map (·.1)).Nodup ∧ DReps K H μ kvs xs := by
  obtain ⟨a, e, xs, h1, h2, h3, h4⟩ := m.obj n _ h
  exact ⟨a, xs, e, h1, h2, h3, h4⟩
theorem Sim.dkv (m : Sim K H μ S) (n : Nat) (kvs : List (Key × D)) (h : S[n]? = some (O.dkv kvs)) : ∃ a ws, μ[n]? = some a ∧ H a = some (HO.dK ws) ∧ KReps K H μ kvs ws := by
  obtain ⟨a, e, xs, h1, h2⟩ := m.obj n _ h
  exact ⟨a, xs, e, h1, h2⟩
theorem Sim.ins (m : Sim K H μ S) (n : Nat) (C : Addr) (fs : List (Str × D)) (h : S[n]? = some (O.ins C fs)) : ∃ a dx ws, μ[n]? = some a ∧ H a = some (HO.ins C dx ws) ∧ KReps K H μ fs ws := by
  obtain ⟨a, e, dx, xs, h1, h2⟩ := m.obj n _ h
  exact ⟨a, dx, xs, e, h1, h2⟩
end
section
variable {K : PySem.W.Frag} {H H' : Hp} {μ μ' : List Addr} {S S' : Sto}
theorem sqT_map (tt : ∀ b xs, H b = some (HO.tup xs) → H' b = some (HO.tup xs)) (tz : ∀ b o u, isOwn u = false → H b = some (HO.frz o u) → H' b = some (HO.frz o u)) {a : Addr} {vs : List V} (h : SqT K H a vs) : SqT K H' a vs := by
  rcases h with (h | ⟨o, h⟩) | h
  · exact .inl (.inl (tt _ _ h))
  · exact .inl (.inr ⟨o, tz _ _ _ rfl h⟩)
  · exact .inr h
theorem sqR_map (tz : ∀ b o u, isOwn u = false → H b = some (HO.frz o u) → H' b = some (HO.frz o u)) {a : Addr} {vs : List V} (h : SqR K H a vs) : SqR K H' a vs := by
  rcases h with ⟨o, h⟩ | h
  · exact .inl ⟨o, tz _ _ _ rfl h⟩
  · exact .inr h
theorem Reps.map (tt : ∀ b xs, H b = some (HO.tup xs) → H' b = some (HO.tup xs)) (tz : ∀ b o u, isOwn u = false → H b = some (HO.frz o u) → H' b = some (HO.frz o u)) (tm : ∀ (n : Nat) (a : Addr), μ[n]? = some a → μ'[n]? = some a) {ds : List D} {vs : List V} (h : Reps K H μ ds vs) : Reps K H' μ' ds vs :=
  Reps.rec (motive_1 := fun d v _ => Rep K H' μ' d v) (motive_2 := fun ds vs _ => Reps K H' μ' ds vs) .non (fun b => .bl b) (fun i => .int i) (fun x => .str x) (fun h _ r => .tup (sqT_map tt tz h) r) (fun h => .ref (tm _ _ h)) (fun h _ r => .ro (sqR_map tz h) r) (fun a => .adr a) .nil (fun _ _ r t => .cons r t) h
theorem Rep.map (tt : ∀ b xs, H b = some (HO.tup xs) → H' b = some (HO.tup xs)) (tz : ∀ b o u, isOwn u = false → H b = some (HO.frz o u) → H' b = some (HO.frz o u)) (tm : ∀ (n : Nat) (a : Addr), μ[n]? = some a → μ'[n]? = some a) {d : D} {v : V} (h : Rep K H μ d v) : Rep K H' μ' d v := by
  have := Reps.map tt tz tm (.cons h .nil)
  cases this with | cons r _ => exact r
theorem DReps.map (tt : ∀ b xs, H b = some (HO.tup xs) → H' b = some (HO.tup xs)) (tz : ∀ b o u, isOwn u = false → H b = some (HO.frz o u) → H' b = some (HO.frz o u)) (tm : ∀ (n : Nat) (a : Addr), μ[n]? = some a → μ'[n]? = some a) : ∀ {kvs : List (List Int × D)} {xs : List (List Int × Addr × Value)}, DReps K H μ kvs xs → DReps K H' μ' kvs xs
  | _, _, .nil => .nil
  | _, _, .cons a b c d => .cons (sqT_map tt tz a) b (Rep.map tt tz tm c) (DReps.map tt tz tm d)
theorem KReps.map {κ : Type} (tt : ∀ b xs, H b = some (HO.tup xs) → H' b = some (HO.tup xs)) (tz : ∀ b o u, isOwn u = false → H b = some (HO.frz o u) → H' b = some (HO.frz o u)) (tm : ∀ (n : Nat) (a : Addr), μ[n]? = some a → μ'[n]? = some a) {kvs : List (κ × D)} {ws : List (κ × V)} (h : KReps K H μ kvs ws) : KReps K H' μ' kvs ws := ⟨h.keys, Reps.map tt tz tm h.vals⟩
theorem Go.tt (g : Go H μ H' μ') (m : Sim K H μ S) : ∀ b xs, H b = some (HO.tup xs) → H' b = some (HO.tup xs) := fun b xs h => g.keep b _ h (fun q => m.frm b q xs h) rfl
theorem Go.tz (g : Go H μ H' μ') (m : Sim K H μ S) : ∀ b o u, H b = some (HO.frz o u) → H' b = some (HO.frz o u) := fun b o u h => g.keep b _ h (fun q => m.frf b q o u h) rfl
theorem SqT.go {a : Addr} {vs : List V} (h : SqT K H a vs) (g : Go H μ H' μ') (m : Sim K H μ S) : SqT K H' a vs := sqT_map (g.tt m) (fun b o u _ => g.tz m b o u) h
theorem SqR.go {a : Addr} {vs : List V} (h : SqR K H a vs) (g : Go H μ H' μ') (m : Sim K H μ S) : SqR K H' a vs := sqR_map (fun b o u _ => g.tz m b o u) h
theorem Reps.go (g : Go H μ H' μ') (m : Sim K H μ S) {ds : List D} {vs : List V} (h : Reps K H μ ds vs) : Reps K H' μ' ds vs := Reps.map (g.tt m) (fun b o u _ => g.tz m b o u) (fun _ _ q => g.get q) h
theorem DReps.go (g : Go H μ H' μ') (m : Sim K H μ S) {kvs : List (List Int × D)} {xs : List (List Int × Addr × Value)} (h : DReps K H μ kvs xs) : DReps K H' μ' kvs xs := DReps.map (g.tt m) (fun b o u _ => g.tz m b o u) (fun _ _ q => g.get q) h
theorem Rep.go (g : Go H μ H' μ') (m : Sim K H μ S) {d : D} {v : V} (h : Rep K H μ d v) : Rep K H' μ' d v := Rep.map (g.tt m) (fun b o u _ => g.tz m b o u) (fun _ _ q => g.get q) h
theorem TabOk.map (tz : ∀ b o u, H b = some (HO.frz o u) → H' b = some (HO.frz o u)) {x : Str} {ps : Array Value} (h : TabOk H x ps) : TabOk H' x ps := ⟨h.1, fun pos cv e => let ⟨c, oC, h1, h2, h3⟩ := h.2 pos cv e; ⟨c, oC, h1, tz _ _ _ h2, h3⟩⟩
theorem Sim.at (m : Sim K H μ S) {n : Nat} {ds : List D} (h : S[n]? = some (O.lst ds)) {a : Addr} (e : μ[n]? = some a) : ∃ vs, H a = some (HO.lst vs) ∧ Reps K H μ ds vs := by
  obtain ⟨b, vs, h1, h2, h3⟩ := m.lst n ds h
  rw [e] at h1; cases h1
  exact ⟨vs, h2, h3⟩
theorem Sim.ix (m : Sim K H μ S) {i j : Nat} {a : Addr} (h : μ[i]? = some a) (h' : μ[j]? = some a) : i = j := by
  obtain ⟨h1, e1⟩ := List.getElem?_eq_some_iff.mp h
  obtain ⟨h2, e2⟩ := List.getElem?_eq_some_iff.mp h'
  exact (List.getElem_inj m.nd).mp (e1.trans e2.symm)
theorem upd_tt {p : Addr} {o : HO} (n1 : ∀ xs, H p ≠ some (HO.tup xs)) : ∀ b xs, H b = some (HO.tup xs) → upd H p o b = some (HO.tup xs) := fun b xs h => by rw [upd_ne (show b ≠ p from fun e => n1 xs (by rw [← e]; exact h))]; exact h
theorem upd_tz {p : Addr} {o : HO} (n2 : ∀ o u, H p ≠ some (HO.frz o u)) : ∀ b o' u, H b = some (HO.frz o' u) → upd H p o b = some (HO.frz o' u) := fun b o' u h => by rw [upd_ne (show b ≠ p from fun e => n2 o' u (by rw [← e]; exact h))]; exact h
theorem upd_tab (m : Sim K H μ S) {p : Addr} {o : HO} (n2 : ∀ o u, H p ≠ some (HO.frz o u)) (n3 : ∀ ps, H p ≠ some (HO.tbl ps)) : ∀ q ∈ tabsOf K, ∃ ps, upd H p o q.2 = some (HO.tbl ps) ∧ TabOk (upd H p o) q.1 ps := fun q hq => by
  obtain ⟨ps, h1, h2⟩ := m.tab q hq
  exact ⟨ps, by rw [upd_ne (show q.2 ≠ p from fun e => n3 ps (by rw [← e]; exact h1))]; exact h1, h2.map (upd_tz n2)⟩
def mutb : HO → Bool
  | .tup _ => false
  | .frz _ _ => false
  | .tbl _ => false
  | _ => true
theorem OOk.map (tt : ∀ b xs, H b = some (HO.tup xs) → H' b = some (HO.tup xs)) (tz : ∀ b o u, isOwn u = false → H b = some (HO.frz o u) → H' b = some (HO.frz o u)) (tm : ∀ (n : Nat) (a : Addr), μ[n]? = some a → μ'[n]? = some a) {a : Addr} {o : O} (hp : ∀ ho, H a = some ho → H' a = some ho) (h : OOk K H μ a o) : OOk K H' μ' a o := by
  cases o with
  | lst ds => obtain ⟨vs, h1, h2⟩ := h; exact ⟨vs, hp _ h1, Reps.map tt tz tm h2⟩
  | dic kvs => obtain ⟨xs, h1, h2, h3, h4⟩ := h; exact ⟨xs, hp _ h1, h2, h3, DReps.map tt tz tm h4⟩
  | dkv kvs => obtain ⟨ws, h1, h2⟩ := h; exact ⟨ws, hp _ h1, h2.map tt tz tm⟩
  | ins C fs => obtain ⟨dx, ws, h1, h2⟩ := h; exact ⟨dx, ws, hp _ h1, h2.map tt tz tm⟩
theorem Sim.move (m : Sim K H μ S) (ha : ∀ a ∈ μ, H' a = H a) (tt : ∀ b xs, H b = some (HO.tup xs) → H' b = some (HO.tup xs)) (tz : ∀ b o u, isOwn u = false → H b = some (HO.frz o u) → H' b = some (HO.frz o u)) (tab : ∀ q ∈ tabsOf K, ∃ ps, H' q.2 = some (HO.tbl ps) ∧ TabOk H' q.1 ps) : Sim K H' μ S := by
  refine ⟨m.len, m.nd, fun n o h => ?_, fun a h => by rw [ha a h]; exact m.frm a h, fun a h => by rw [ha a h]; exact m.frf a h, fun a h => by rw [ha a h]; exact m.non a h, tab, fun a h => by rw [ha a h]; exact m.ntb a h⟩
  obtain ⟨a, e, q⟩ := m.obj n o h
  exact ⟨a, e, q.map tt tz (fun _ _ z => z) fun ho z => by rw [ha a (List.mem_of_getElem? e)]; exact z⟩
theorem Sim.junk (m : Sim K H μ S) {p : Addr} {o : HO} (hp : H p = none) : Go H μ (upd H p o) μ ∧ Sim K (upd H p o) μ S := by
  have hpm : p ∉ μ := fun q => m.non p q hp
  have ne : ∀ a ∈ μ, a ≠ p := fun a h e => hpm (e ▸ h)
  refine ⟨⟨⟨[], by simp⟩, fun b h n => absurd h n, fun b u h _ _ => by rw [upd_ne (ne_of_none h hp)]; exact h, fun b ps h => ⟨ps, by rw [upd_ne (ne_of_none h hp)]; exact h⟩⟩, ?_⟩
  exact m.move (fun a h => upd_ne (ne a h)) (fun b xs h => by rw [upd_ne (ne_of_none h hp)]; exact h) (fun b o u _ h => by rw [upd_ne (ne_of_none h hp)]; exact h) (upd_tab m (fun _ _ e => by rw [hp] at e; cases e) (fun _ e => by rw [hp] at e; cases e))
theorem Sim.other (m : Sim K H μ S) {p : Addr} {o o' : HO} (hp : H p = some o) (hpm : p ∉ μ) (n1 : ∀ xs, o ≠ HO.tup xs) (n2 : ∀ a u, o ≠ HO.frz a u) (n3 : ∀ ps, o ≠ HO.tbl ps) : Sim K (upd H p o') μ S ∧ (∀ d v, Rep K H μ d v → Rep K (upd H p o') μ d v) ∧ (∀ ds vs, Reps K H μ ds vs → Reps K (upd H p o') μ ds vs) := by
  have ne : ∀ a ∈ μ, a ≠ p := fun a h e => hpm (e ▸ h)
  have q1 : ∀ xs, H p ≠ some (HO.tup xs) := fun xs e => n1 xs (Option.some.inj (hp.symm.trans e))
  have q2 : ∀ a u, H p ≠ some (HO.frz a u) := fun a u e => n2 a u (Option.some.inj (hp.symm.trans e))
  have q3 : ∀ ps, H p ≠ some (HO.tbl ps) := fun ps e => n3 ps (Option.some.inj (hp.symm.trans e))
  exact ⟨m.move (fun a h => upd_ne (ne a h)) (upd_tt q1) (fun b o u _ => upd_tz q2 b o u) (upd_tab m q2 q3), fun d v r => Rep.map (upd_tt q1) (fun b o u _ => upd_tz q2 b o u) (fun _ _ q => q) r, fun ds vs r => Reps.map (upd_tt q1) (fun b o u _ => upd_tz q2 b o u) (fun _ _ q => q) r⟩
theorem Sim.side (m : Sim K H μ S) {p : Addr} {xs ys : List V} (hp : H p = some (HO.lst xs)) (hpm : p ∉ μ) : Sim K (upd H p (.lst ys)) μ S := (m.other hp hpm (fun _ z => by cases z) (fun _ _ z => by cases z) (fun _ z => by cases z)).1
theorem Reps.side (h : Reps K H μ ds vs) {p : Addr} {xs ys : List V} (hp : H p = some (HO.lst xs)) : Reps K (upd H p (.lst ys)) μ ds vs :=
  Reps.map (upd_tt fun _ e => by rw [hp] at e; cases e) (fun b o u _ => upd_tz (fun _ _ e => by rw [hp] at e; cases e) b o u) (fun _ _ q => q) h
theorem Go.side {H0 : Hp} {μ0 : List Addr} (g : Go H0 μ0 H μ) {p : Addr} {o : HO} (hp : H0 p = none) : Go H0 μ0 (upd H p o) μ :=
  ⟨g.pre, g.new, fun b u h n t => by rw [upd_ne (ne_of_none h hp)]; exact g.keep b u h n t, fun b ps h => by rw [upd_ne (ne_of_none h hp)]; exact g.tbl b ps h⟩
theorem Sim.putO (m : Sim K H μ S) {n : Nat} {a : Addr} {o o' : O} {ho : HO} (h : S[n]? = some o) (e : μ[n]? = some a) (hm : mutb ho = true)
    (r : (∀ ds vs, Reps K H μ ds vs → Reps K (upd H a ho) μ ds vs) → (∀ kvs xs, DReps K H μ kvs xs → DReps K (upd H a ho) μ kvs xs) → OOk K (upd H a ho) μ a o') :
    Go H μ (upd H a ho) μ ∧ Sim K (upd H a ho) μ (S.set n o') := by
  have am := List.mem_of_getElem? e
  have hn : n < S.length := (List.getElem?_eq_some_iff.mp h).1
  have q1 := m.frm a am
  have q2 := m.frf a am
  have q3 := m.ntb a am
  have tt := upd_tt (o := ho) q1
  have tz : ∀ b o u, isOwn u = false → H b = some (HO.frz o u) → upd H a ho b = some (HO.frz o u) := fun b o u _ => upd_tz q2 b o u
  refine ⟨⟨⟨[], by simp⟩, fun b h n => absurd h n, fun b u q nb _ => by rw [upd_ne (show b ≠ a from fun z => nb (by rw [z]; exact am))]; exact q, fun b ps q => ⟨ps, by rw [upd_ne (show b ≠ a from fun z => q3 ps (by rw [← z]; exact q))]; exact q⟩⟩,
    by rw [List.length_set]; exact m.len, m.nd, fun k o2 q => ?_, fun b hb xs => ?_, fun b hb o u => ?_, fun b hb => ?_, upd_tab m q2 q3, fun b hb ps => ?_⟩
  · by_cases ek : k = n
    · subst ek
      rw [List.getElem?_set_self hn] at q
      cases q
      exact ⟨a, e, r (fun ds vs z => Reps.map tt tz (fun _ _ q => q) z) (fun kvs xs z => DReps.map tt tz (fun _ _ q => q) z)⟩
    · rw [List.getElem?_set_ne (Ne.symm ek)] at q
      obtain ⟨b, h1, h2⟩ := m.obj k o2 q
      have nb : b ≠ a := fun z => ek (m.ix h1 (z ▸ e))
      exact ⟨b, h1, h2.map tt tz (fun _ _ q => q) fun o z => by rw [upd_ne nb]; exact z⟩
  · by_cases z : b = a
    · subst z; rw [upd_same]; intro y; cases Option.some.inj y; cases hm
    · rw [upd_ne z]; exact m.frm b hb xs
  · by_cases z : b = a
    · subst z; rw [upd_same]; intro y; cases Option.some.inj y; cases hm
    · rw [upd_ne z]; exact m.frf b hb o u
  · by_cases z : b = a
    · subst z; rw [upd_same]; intro y; cases y
    · rw [upd_ne z]; exact m.non b hb
  · by_cases z : b = a
    · subst z; rw [upd_same]; intro y; cases Option.some.inj y; cases hm
    · rw [upd_ne z]; exact m.ntb b hb ps
theorem Sim.write (m : Sim K H μ S) {n : Nat} {a : Addr} {ds es : List D} {us : List V} (h : S[n]? = some (O.lst ds)) (e : μ[n]? = some a) (r : Reps K H μ es us) :
    Go H μ (upd H a (.lst us)) μ ∧ Sim K (upd H a (.lst us)) μ (S.set n (O.lst es)) := m.putO h e rfl fun k _ => ⟨us, upd_same, k _ _ r⟩
theorem Sim.writeK (m : Sim K H μ S) {n : Nat} {a : Addr} {kvs kws : List (Key × D)} {xs ys : List (Key × V)} (h : S[n]? = some (O.dkv kvs)) (e : μ[n]? = some a) (hp : H a = some (HO.dK xs)) (r : KReps K H μ kws ys) :
    Go H μ (upd H a (.dK ys)) μ ∧ Sim K (upd H a (.dK ys)) μ (S.set n (O.dkv kws)) := m.putO h e rfl fun k _ => ⟨ys, upd_same, r.keys, k _ _ r.vals⟩
theorem Sim.addO (m : Sim K H μ S) {H0 : Hp} {μ0 : List Addr} (g : Go H0 μ0 H μ) {p : Addr} {ho : HO} {o : O} (hp : H p = some ho) (hm : mutb ho = true) (hpm : p ∉ μ) (h0 : H0 p = none)
    (r : (∀ ds vs, Reps K H μ ds vs → Reps K H (μ ++ [p]) ds vs) → OOk K H (μ ++ [p]) p o) :
    Go H0 μ0 H (μ ++ [p]) ∧ Sim K H (μ ++ [p]) (S ++ [o]) ∧ Rep K H (μ ++ [p]) (.ref S.length) (.ref p) := by
  have tm : ∀ (n : Nat) (a : Addr), μ[n]? = some a → (μ ++ [p])[n]? = some a := fun n a e => by rw [List.getElem?_append_left (List.getElem?_eq_some_iff.mp e).1]; exact e
  have last : (μ ++ [p])[S.length]? = some p := by rw [← m.len]; simp
  have each : ∀ {P : Addr → Prop}, (∀ b ∈ μ, P b) → P p → ∀ b ∈ μ ++ [p], P b := fun {P} h1 h2 b hb => (List.mem_append.mp hb).elim (h1 b) fun z => by
    have : b = p := by simpa using z
    rw [this]; exact h2
  refine ⟨⟨?_, each (P := fun b => b ∉ μ0 → H0 b = none) g.new (fun _ => h0), g.keep, g.tbl⟩, ⟨by simp [m.len], ?_, fun n o2 q => ?_, each (P := fun b => ∀ xs, H b ≠ some (HO.tup xs)) m.frm (fun xs => by rw [hp]; intro y; cases Option.some.inj y; cases hm), each (P := fun b => ∀ o u, H b ≠ some (HO.frz o u)) m.frf (fun o u => by rw [hp]; intro y; cases Option.some.inj y; cases hm),
    each (P := fun b => H b ≠ none) m.non (by rw [hp]; intro y; cases y), m.tab, each (P := fun b => ∀ ps, H b ≠ some (HO.tbl ps)) m.ntb (fun ps => by rw [hp]; intro y; cases Option.some.inj y; cases hm)⟩, .ref last⟩
  · obtain ⟨l, rfl⟩ := g.pre
    exact ⟨l ++ [p], by simp⟩
  · rw [List.nodup_append]
    refine ⟨m.nd, by simp, fun a ha b hb e => ?_⟩
    have : b = p := by simpa using hb
    subst this; subst e; exact hpm ha
  · by_cases hn : n < S.length
    · rw [List.getElem?_append_left hn] at q
      obtain ⟨a, h1, h2⟩ := m.obj n o2 q
      exact ⟨a, tm _ _ h1, h2.map (fun _ _ q => q) (fun _ _ _ _ q => q) tm fun _ z => z⟩
    · rw [List.getElem?_append_right (by omega)] at q
      have e : n - S.length = 0 := by
        by_cases z : n - S.length = 0
        · exact z
        · rw [List.getElem?_eq_none (by simp; omega)] at q; cases q
      rw [e] at q
      have q' : o = o2 := by simpa using q
      subst q'
      have en : n = S.length := by omega
      subst en
      exact ⟨p, last, r fun ds vs z => Reps.map (fun _ _ q => q) (fun _ _ _ _ q => q) tm z⟩
theorem Sim.number (m : Sim K H μ S) {H0 : Hp} {μ0 : List Addr} (g : Go H0 μ0 H μ) {p : Addr} {ds : List D} {vs : List V} (hp : H p = some (HO.lst vs)) (hpm : p ∉ μ) (h0 : H0 p = none) (r : Reps K H μ ds vs) :
    Go H0 μ0 H (μ ++ [p]) ∧ Sim K H (μ ++ [p]) (S ++ [O.lst ds]) ∧ Rep K H (μ ++ [p]) (.ref S.length) (.ref p) := m.addO g hp rfl hpm h0 fun k => ⟨vs, hp, k _ _ r⟩
theorem Sim.numberK (m : Sim K H μ S) {H0 : Hp} {μ0 : List Addr} (g : Go H0 μ0 H μ) {p : Addr} {kws : List (Key × D)} {ys : List (Key × V)} (hp : H p = some (HO.dK ys)) (r : KReps K H μ kws ys) (hpm : p ∉ μ) (h0 : H0 p = none) :
    Go H0 μ0 H (μ ++ [p]) ∧ Sim K H (μ ++ [p]) (S ++ [O.dkv kws]) ∧ Rep K H (μ ++ [p]) (.ref S.length) (.ref p) := m.addO g hp rfl hpm h0 fun k => ⟨ys, hp, r.keys, k _ _ r.vals⟩
end
structure EnvOk (K : PySem.W.Frag) (H : Hp) (μ : List Addr) (ρ : Env) (σ : L2.St) : Prop where
  len : ρ.length = σ.length
  get : ∀ (i : Nat) (d : D), ρ[i]? = some (some d) → ∃ v, σ[i]? = some (some v) ∧ Rep K H μ d v
section
variable {K : PySem.W.Frag} {H H' : Hp} {μ μ' : List Addr} {S S' : Sto} {ρ : Env} {σ : L2.St}
theorem EnvOk.go (e : EnvOk K H μ ρ σ) (g : Go H μ H' μ') (m : Sim K H μ S) : EnvOk K H' μ' ρ σ := ⟨e.len, fun i d h => let ⟨v, h1, h2⟩ := e.get i d h; ⟨v, h1, Rep.go g m h2⟩⟩
theorem EnvOk.set (e : EnvOk K H μ ρ σ) (i : Nat) {d : D} {v : V} (r : Rep K H μ d v) : EnvOk K H μ (ρ.set i (some d)) (σ.set i (some v)) := by
  refine ⟨by rw [List.length_set, List.length_set]; exact e.len, fun j d' h => ?_⟩
  by_cases z : i = j
  · subst z
    by_cases hi : i < ρ.length
    · rw [List.getElem?_set_self hi] at h
      cases h
      exact ⟨v, by rw [List.getElem?_set_self (by rw [← e.len]; exact hi)], r⟩
    · rw [List.getElem?_eq_none (by rw [List.length_set]; omega)] at h; cases h
  · rw [List.getElem?_set_ne z] at h ⊢
    exact e.get j d' h
end
end L3
namespace L3
open PySem PySem.Spec L2
abbrev W (α : Type) := Env → Sto → (α → Sto → Prop) → Prop
abbrev PN := List D → Sto → (D → Sto → Prop) → Prop
def Kn (K : PySem.W.Frag) (H : Hp) (μ : List Addr) (Q3 : D → Sto → Prop) (Q : VK) : Prop :=
  ∀ d S' v H' μ', Q3 d S' → Go H μ H' μ' → Sim K H' μ' S' → Rep K H' μ' d v → Q v H'
theorem Kn.go {K : PySem.W.Frag} {H H1 : Hp} {μ μ1 : List Addr} {Q3 : D → Sto → Prop} {Q : VK} (k : Kn K H μ Q3 Q) (g : Go H μ H1 μ1) : Kn K H1 μ1 Q3 Q := fun d S' v H' μ' q g' m r => k d S' v H' μ' q (g.trans g') m r
def KnB (K : PySem.W.Frag) (H : Hp) (μ : List Addr) (Q3 : Bool → Sto → Prop) (Q : Bool → Hp → Prop) : Prop :=
  ∀ b S' H' μ', Q3 b S' → Go H μ H' μ' → Sim K H' μ' S' → Q b H'
theorem KnB.go {K : PySem.W.Frag} {H H1 : Hp} {μ μ1 : List Addr} {Q3 : Bool → Sto → Prop} {Q : Bool → Hp → Prop} (k : KnB K H μ Q3 Q) (g : Go H μ H1 μ1) : KnB K H1 μ1 Q3 Q := fun b S' H' μ' q g' m => k b S' H' μ' q (g.trans g') m
def KnA (K : PySem.W.Frag) (H : Hp) (μ : List Addr) (Q3 : List D → Sto → Prop) (Q : List V → Hp → Prop) : Prop :=
  ∀ ds S' vs H' μ', Q3 ds S' → Go H μ H' μ' → Sim K H' μ' S' → Reps K H' μ' ds vs → Q vs H'
def KnL (K : PySem.W.Frag) (H : Hp) (μ : List Addr) (Q3 : List D → Sto → Prop) (Q : VK) : Prop :=
  ∀ ds S' p vs H' μ', Q3 ds S' → Go H μ H' μ' → Sim K H' μ' S' → H p = none → H' p = some (HO.lst vs) → p ∉ μ' → Reps K H' μ' ds vs → Q (.ref p) H'
def liftE (K : PySem.W.Frag) (w : W D) : TE := fun σ H Q => ∃ ρ μ S Q3, EnvOk K H μ ρ σ ∧ Sim K H μ S ∧ Kn K H μ Q3 Q ∧ w ρ S Q3
def liftT (K : PySem.W.Frag) (w : W Bool) : TT := fun σ H Q => ∃ ρ μ S Q3, EnvOk K H μ ρ σ ∧ Sim K H μ S ∧ KnB K H μ Q3 Q ∧ w ρ S Q3
def liftA (K : PySem.W.Frag) (w : W (List D)) : TA := fun σ H Q => ∃ ρ μ S Q3, EnvOk K H μ ρ σ ∧ Sim K H μ S ∧ KnA K H μ Q3 Q ∧ w ρ S Q3
def liftL (K : PySem.W.Frag) (w : W (List D)) : TE := fun σ H Q => ∃ ρ μ S Q3, EnvOk K H μ ρ σ ∧ Sim K H μ S ∧ KnL K H μ Q3 Q ∧ w ρ S Q3
structure QE (X : Cx) (e : Expr) (w : W D) : Prop where
  pe : PE X e (liftE X.K w)
structure QT (X : Cx) (e : Expr) (w : W Bool) : Prop where
  pt : PT X e (liftT X.K w)
structure QW (X : Cx) (e : Expr) (w : W Bool) : Prop where
  pw : PW X e (liftT X.K w)
structure QA (X : Cx) (es : List Expr) (w : W (List D)) : Prop where
  pa : PA X es (liftA X.K w)
structure QL (X : Cx) (e : Expr) (w : W (List D)) : Prop where
  pl : PE X e (liftL X.K w)
theorem PE.imp {X : Cx} {e : Expr} {t t' : TE} (h : PE X e t) (k : ∀ σ H Q, t' σ H Q → t σ H Q) : PE X e t' := fun pins s σ H Q I q => h pins s σ H Q I (k σ H Q q)
theorem PT.imp {X : Cx} {e : Expr} {t t' : TT} (h : PT X e t) (k : ∀ σ H Q, t' σ H Q → t σ H Q) : PT X e t' := fun pins s σ H Q I q => h pins s σ H Q I (k σ H Q q)
theorem PW.imp {X : Cx} {e : Expr} {t t' : TT} (h : PW X e t) (k : ∀ σ H Q, t' σ H Q → t σ H Q) : PW X e t' := fun wh pins s σ H Q I q => h wh pins s σ H Q I (k σ H Q q)
theorem PA.imp {X : Cx} {es : List Expr} {t t' : TA} (h : PA X es t) (k : ∀ σ H Q, t' σ H Q → t σ H Q) : PA X es t' := fun pos pins s σ H Q I q => h pos pins s σ H Q I (k σ H Q q)
def lk : Env → Nat → Option D
  | [], _ => none
  | x :: _, 0 => x
  | _ :: r, i + 1 => lk r i
theorem lk_get : ∀ {ρ : Env} {i : Nat} {d : D}, lk ρ i = some d → ρ[i]? = some (some d)
  | [], _, _, h => by cases h
  | x :: _, 0, d, h => by have h : x = some d := h; rw [h]; rfl
  | _ :: r, i + 1, d, h => by have := lk_get (ρ := r) (i := i) h; simpa using this
def wVar (i : Nat) : W D := fun ρ S Q => match lk ρ i with | some d => Q d S | none => False
def wC (d : D) : W D := fun _ S Q => Q d S
section
variable {X : Cx} {a b c e : Expr} {es : List Expr} {wa wb wc we : W D} {wA wB : W Bool} {ws : W (List D)} {pos : Pos}
theorem qe_var (i : Nat) {x : Str} (hN : X.N[i]? = some x := by rfl) (hv : Vis X.env.scope x := by first | exact Or.inl rfl | exact Or.inr (Or.inl rfl) | exact Or.inr (Or.inr rfl))
    (hd : (x == ("__debug__" : Str)) = false := by decide) (hcd : (x == ("__classdict__" : Str)) = false := by decide) : QE X (.Name x pos) (wVar i) :=
  ⟨PE.imp (pe_var hN hv hd hcd) fun σ H Q ⟨ρ, μ, S, Q3, eo, m, k, h⟩ => by
    unfold wVar at h
    split at h
    · rename_i d e
      obtain ⟨v, h1, h2⟩ := eo.get i d (lk_get e)
      exact ⟨v, h1, k d S v H μ h .refl m h2⟩
    · exact h.elim⟩
theorem qe_con {v : V} {d : D} (h : PE X e (tC v)) (r : ∀ H μ, Rep X.K H μ d v) : QE X e (wC d) :=
  ⟨PE.imp h fun σ H Q ⟨ρ, μ, S, Q3, eo, m, k, q⟩ => k d S v H μ q .refl m (r H μ)⟩
theorem qe_int {i j} : QE X (.Constant (.int i) j pos) (wC (.int i)) := qe_con pe_int fun _ _ => .int i
theorem qe_bl {b j} : QE X (.Constant (.bool b) j pos) (wC (.bl b)) := qe_con pe_bl fun _ _ => .bl b
theorem qe_str {x j} : QE X (.Constant (.str x) j pos) (wC (.str x)) := qe_con pe_str fun _ _ => .str x
theorem qe_gint {x : Str} {i : Int} {t : Tok} (hm : X.mg x = some (.int i t)) (hg : Gl X x := by rfl) (hd : (x == ("__debug__" : Str)) = false := by decide) : QE X (.Name x pos) (wC (.int i)) :=
  qe_con (pe_glob (v := .int i) hg hm ⟨t, rfl⟩ hd) fun _ _ => .int i
theorem qe_gval {x : Str} {a : Addr} {d : D} (hm : X.mg x = some (.ref a)) (r : ∀ H μ, Rep X.K H μ d (.ref a)) (hg : Gl X x := by rfl) (hd : (x == ("__debug__" : Str)) = false := by decide) : QE X (.Name x pos) (wC d) :=
  qe_con (pe_glob (v := .ref a) hg hm rfl hd) r
abbrev P2 := D → D → Sto → (D → Sto → Prop) → Prop
def Ref2 (K : PySem.W.Frag) (r : R2) (f : P2) : Prop := ∀ d1 d2 S Q3 v1 v2 H μ Q, Sim K H μ S → Rep K H μ d1 v1 → Rep K H μ d2 v2 → Kn K H μ Q3 Q → f d1 d2 S Q3 → r v1 v2 H Q
def RefN (K : PySem.W.Frag) (r : List V → Hp → VK → Prop) (f : PN) : Prop := ∀ ds S Q3 vs H μ Q, Sim K H μ S → Reps K H μ ds vs → Kn K H μ Q3 Q → f ds S Q3 → r vs H Q
def wOp (f : P2) (wa wb : W D) : W D := fun ρ S Q => wa ρ S fun x S1 => wb ρ S1 fun y S2 => f x y S2 Q
theorem op2 {r : R2} {f : P2} (R : Ref2 X.K r f) : ∀ σ H Q, liftE X.K (wOp f wa wb) σ H Q → tOp r (liftE X.K wa) (liftE X.K wb) σ H Q := fun σ H Q ⟨ρ, μ, S, Q3, eo, m, k, h⟩ =>
  ⟨ρ, μ, S, _, eo, m, fun d S1 v H1 μ1 q g1 m1 r1 => ⟨ρ, μ1, S1, _, eo.go g1 m, m1, fun d2 S2 v2 H2 μ2 q2 g2 m2 r2 => R d d2 S2 Q3 v v2 H2 μ2 Q m2 (Rep.go g2 m1 r1) r2 (k.go (g1.trans g2)) q2, q⟩, h⟩
theorem qe_op {op : Operator} {r : R2} {f : P2} (ho : OpR X (binaryOp op) r) (R : Ref2 X.K r f) (ha : QE X a wa) (hb : QE X b wb) : QE X (.BinOp a op b pos) (wOp f wa wb) := ⟨PE.imp (pe_op ho ha.pe hb.pe) (op2 R)⟩
theorem qe_cmp {op : CmpOp} {r : R2} {f : P2} (ho : OpR X (compareOp op) r) (R : Ref2 X.K r f) (ha : QE X a wa) (hb : QE X b wb) (hm : behindInMarks op b = false := by first | exact nobehind _ (by decide) (by decide) | rfl) : QE X (.Compare a [op] [b] pos) (wOp f wa wb) :=
  ⟨PE.imp (pe_cmpR ho ha.pe hb.pe hm) (op2 R)⟩
def wTst (w : W D) : W Bool := fun ρ S Q => w ρ S fun d S1 => match d with | .bl b => Q b S1 | _ => False
theorem tst {t : TE} (k0 : ∀ σ H Q, liftE X.K we σ H Q → t σ H Q) : ∀ σ H Q, liftT X.K (wTst we) σ H Q → tB t σ H Q := fun σ H Q ⟨ρ, μ, S, Q3, eo, m, k, h⟩ =>
  k0 σ H _ ⟨ρ, μ, S, _, eo, m, fun d S1 v H1 μ1 q g1 m1 r1 => by
    cases r1 with
    | bl b => exact ⟨b, rfl, k b S1 H1 μ1 q g1 m1⟩
    | _ => exact False.elim q, h⟩
theorem qt_cmp {op : CmpOp} {r : R2} {f : P2} (ho : OpR X (compareOp op) r) (R : Ref2 X.K r f) (ha : QE X a wa) (hb : QE X b wb) (hm : behindInMarks op b = false := by first | exact nobehind _ (by decide) (by decide) | rfl) : QT X (.Compare a [op] [b] pos) (wTst (wOp f wa wb)) :=
  ⟨PT.imp (pt_cmpR ho ha.pe hb.pe hm) (tst (op2 R))⟩
theorem qt_val (h : QE X e we) (he : ∀ whole, isTrue e X.env whole = (do let v ← whole; standAt e.pos; holding [v] (truthy v)) := by intro _; rfl) : QT X e (wTst we) :=
  ⟨PT.imp (pt_val h.pe he) (tst fun _ _ _ q => q)⟩
def wAnd (t u : W Bool) : W Bool := fun ρ S Q => t ρ S fun c S1 => if c = true then u ρ S1 Q else Q false S1
def wOr (t u : W Bool) : W Bool := fun ρ S Q => t ρ S fun c S1 => if c = true then Q true S1 else u ρ S1 Q
def wNot (t : W Bool) : W Bool := fun ρ S Q => t ρ S fun c S1 => Q (!c) S1
theorem qw_pt (h : QW X e wA) : QT X e wA := ⟨PW.pt h.pw⟩
theorem qw_and1 (ha : QT X a wA) : QW X (.BoolOp .And [a] pos) wA := ⟨pw_and1 ha.pt⟩
theorem qw_or1 (ha : QT X a wA) : QW X (.BoolOp .Or [a] pos) wA := ⟨pw_or1 ha.pt⟩
theorem qw_and {rest} (ha : QT X a wA) (hb : QW X (.BoolOp .And (b :: rest) pos) wB) : QW X (.BoolOp .And (a :: b :: rest) pos) (wAnd wA wB) :=
  ⟨PW.imp (pw_and ha.pt hb.pw) fun σ H Q ⟨ρ, μ, S, Q3, eo, m, k, h⟩ => ⟨ρ, μ, S, _, eo, m, fun c S1 H1 μ1 q g1 m1 => by
    cases c with
    | true => exact ⟨ρ, μ1, S1, Q3, eo.go g1 m, m1, k.go g1, q⟩
    | false => exact k false S1 H1 μ1 q g1 m1, h⟩⟩
theorem qw_or {rest} (ha : QT X a wA) (hb : QW X (.BoolOp .Or (b :: rest) pos) wB) : QW X (.BoolOp .Or (a :: b :: rest) pos) (wOr wA wB) :=
  ⟨PW.imp (pw_or ha.pt hb.pw) fun σ H Q ⟨ρ, μ, S, Q3, eo, m, k, h⟩ => ⟨ρ, μ, S, _, eo, m, fun c S1 H1 μ1 q g1 m1 => by
    cases c with
    | false => exact ⟨ρ, μ1, S1, Q3, eo.go g1 m, m1, k.go g1, q⟩
    | true => exact k true S1 H1 μ1 q g1 m1, h⟩⟩
theorem qt_not (ha : QT X a wA) : QT X (.UnaryOp .Not a pos) (wNot wA) :=
  ⟨PT.imp (pt_not ha.pt) fun σ H Q ⟨ρ, μ, S, Q3, eo, m, k, h⟩ => ⟨ρ, μ, S, _, eo, m, fun c S1 H1 μ1 q g1 m1 => k (!c) S1 H1 μ1 q g1 m1, h⟩⟩
def wAndV (wa wb : W D) : W D := fun ρ S Q => wa ρ S fun d S1 => match d with | .bl c => if c = true then wb ρ S1 Q else Q (.bl false) S1 | _ => False
def wOrV (wa wb : W D) : W D := fun ρ S Q => wa ρ S fun d S1 => match d with | .bl c => if c = true then Q (.bl true) S1 else wb ρ S1 Q | _ => False
def wNotV (wa : W D) : W D := fun ρ S Q => wa ρ S fun d S1 => match d with | .bl b => Q (.bl (!b)) S1 | _ => False
theorem qe_one {op} (h : QE X a wa) : QE X (.BoolOp op [a] pos) wa := ⟨pe_one h.pe⟩
theorem qe_and {rest} (ha : QE X a wa) (hb : QE X (.BoolOp .And (b :: rest) pos) wb) : QE X (.BoolOp .And (a :: b :: rest) pos) (wAndV wa wb) :=
  ⟨PE.imp (pe_and ha.pe hb.pe) fun σ H Q ⟨ρ, μ, S, Q3, eo, m, k, h⟩ => ⟨ρ, μ, S, _, eo, m, fun d S1 v H1 μ1 q g1 m1 r1 => by
    cases r1 with
    | bl b =>
      cases b with
      | true => exact ⟨true, rfl, ρ, μ1, S1, Q3, eo.go g1 m, m1, k.go g1, q⟩
      | false => exact ⟨false, rfl, k _ S1 _ H1 μ1 q g1 m1 (.bl false)⟩
    | _ => exact False.elim q, h⟩⟩
def wIf (t : W Bool) (wa wb : W D) : W D := fun ρ S Q => t ρ S fun c S1 => if c = true then wa ρ S1 Q else wb ρ S1 Q
theorem qe_if (hc : QT X c wA) (ha : QE X a wa) (hb : QE X b wb) : QE X (.IfExp c a b pos) (wIf wA wa wb) :=
  ⟨PE.imp (pe_ifExp hc.pt ha.pe hb.pe) fun σ H Q ⟨ρ, μ, S, Q3, eo, m, k, h⟩ => ⟨ρ, μ, S, _, eo, m, fun c S1 H1 μ1 q g1 m1 => by
    cases c with
    | false => exact ⟨ρ, μ1, S1, Q3, eo.go g1 m, m1, k.go g1, q⟩
    | true => exact ⟨ρ, μ1, S1, Q3, eo.go g1 m, m1, k.go g1, q⟩, h⟩⟩
def wCh (f g : P2) (wa wb wc : W D) : W D := fun ρ S Q => wa ρ S fun x S1 => wb ρ S1 fun y S2 => f x y S2 fun d S3 => match d with | .bl c => if c = true then wc ρ S3 fun z S4 => g y z S4 Q else Q (.bl false) S3 | _ => False
def wNil : W (List D) := fun _ S Q => Q [] S
def wCons (wa : W D) (ws : W (List D)) : W (List D) := fun ρ S Q => wa ρ S fun x S1 => ws ρ S1 fun xs S2 => Q (x :: xs) S2
theorem qa_nil : QA X [] wNil := ⟨PA.imp pa_nil fun σ H Q ⟨ρ, μ, S, Q3, eo, m, k, h⟩ => k [] S [] H μ h .refl m .nil⟩
theorem qa_cons (ha : QE X e we) (hr : QA X es ws) (hs : starEach (e :: es) X.env = (false, eval e X.env) :: starEach es X.env := by rfl) : QA X (e :: es) (wCons we ws) :=
  ⟨PA.imp (pa_cons ha.pe hr.pa hs) fun σ H Q ⟨ρ, μ, S, Q3, eo, m, k, h⟩ => ⟨ρ, μ, S, _, eo, m, fun d S1 v H1 μ1 q g1 m1 r1 => ⟨ρ, μ1, S1, _, eo.go g1 m, m1, fun ds S2 vs H2 μ2 q2 g2 m2 r2 => k _ S2 _ H2 μ2 q2 (g1.trans g2) m2 (.cons (Rep.go g2 m1 r1) r2), q⟩, h⟩⟩
def wCall (f : PN) (ws : W (List D)) : W D := fun ρ S Q => ws ρ S fun ds S1 => f ds S1 Q
theorem callN {r : List V → Hp → VK → Prop} {f : PN} (R : RefN X.K r f) : ∀ σ H Q, liftE X.K (wCall f ws) σ H Q → tCB r (liftA X.K ws) σ H Q := fun σ H Q ⟨ρ, μ, S, Q3, eo, m, k, h⟩ =>
  ⟨ρ, μ, S, _, eo, m, fun ds S1 vs H1 μ1 q g1 m1 r1 => R ds S1 Q3 vs H1 μ1 Q m1 r1 (k.go g1) q, h⟩
theorem qe_callB {id : String} {x : Str} {p : Pos} {r : List V → Hp → VK → Prop} {f : PN} (hc : CallR X (.builtin id) r) (R : RefN X.K r f) (hm : X.mg x = none) (ha : QA X (e :: es) ws) (hg : Gl X x := by rfl) (hv : bootBuiltins x = some (.builtin id) := by decide +kernel)
    (hn : x ≠ "__name__" := by decide) (hdb : (x == ("__debug__" : Str)) = false := by decide) (hs : starEach (e :: es) X.env = (false, eval e X.env) :: starEach es X.env := by rfl) (hpl : (backTo pos (starEach es X.env)).any (·.1) = false := by rfl) : QE X (.Call (.Name x p) (e :: es) [] pos) (wCall f ws) :=
  ⟨PE.imp (pe_callB hc hg hm hv ha.pa hn hdb hs hpl) (callN R)⟩
theorem qe_callTy {T : String} {x : Str} {p : Pos} {r : List V → Hp → VK → Prop} {f : PN} (hc : CallR X (.type T) r) (R : RefN X.K r f) (hm : X.mg x = none) (ha : QA X (e :: es) ws) (hg : Gl X x := by rfl) (hv : bootBuiltins x = some (.type T) := by decide +kernel)
    (hn : x ≠ "__name__" := by decide) (hdb : (x == ("__debug__" : Str)) = false := by decide) (hs : starEach (e :: es) X.env = (false, eval e X.env) :: starEach es X.env := by rfl) (hpl : (backTo pos (starEach es X.env)).any (·.1) = false := by rfl) : QE X (.Call (.Name x p) (e :: es) [] pos) (wCall f ws) :=
  ⟨PE.imp (pe_callTy hc hg hm hv ha.pa hn hdb hs hpl) (callN R)⟩
def small (n : Nat) : Prop := n ≤ 1000000
theorem small_line {n : Nat} (h : small n) : n < sizeLine := Nat.lt_of_le_of_lt h (by decide)
def wTup (ws : W (List D)) : W D := fun ρ S Q => ws ρ S fun ds S1 => small ds.length ∧ Q (.tup ds) S1
theorem qe_tup {x1} (h : QA X es ws) : QE X (.Tuple es x1 pos) (wTup ws) :=
  ⟨PE.imp (pe_tup h.pa) fun σ H Q ⟨ρ, μ, S, Q3, eo, m, k, h⟩ => ⟨ρ, μ, S, _, eo, m, fun ds S1 vs H1 μ1 ⟨z, q⟩ g1 m1 r1 => ⟨by rw [← r1.length]; exact Nat.le_of_lt (small_line z), fun p hp => by
    obtain ⟨g2, m2⟩ := m1.junk (o := .tup vs) hp
    exact k _ S1 _ _ μ1 q (g1.trans g2) m2 (.tup (SqT.of upd_same) (Reps.go g2 m1 r1))⟩, h⟩⟩
def wLst (ws : W (List D)) : W (List D) := fun ρ S Q => ws ρ S fun ds S1 => small ds.length ∧ Q ds S1
theorem Go.back {K : PySem.W.Frag} {H H' : Hp} {μ μ' : List Addr} {S' : Sto} (g : Go H μ H' μ') (m : Sim K H' μ' S') {p : Addr} (h : H' p = none) : H p = none := by
  cases e : H p with
  | none => rfl
  | some o =>
    by_cases q : p ∈ μ
    · exact absurd h (m.non p (g.mem q))
    · exact absurd h (g.stay e q)
theorem ql_lst (h : QA X es ws) : QL X (.List es pos) (wLst ws) :=
  ⟨PE.imp (pe_lst h.pa) fun σ H Q ⟨ρ, μ, S, Q3, eo, m, k, h⟩ => ⟨ρ, μ, S, _, eo, m, fun ds S1 vs H1 μ1 ⟨z, q⟩ g1 m1 r1 => ⟨by rw [← r1.length]; exact Nat.le_of_lt (small_line z), fun p hp => by
    obtain ⟨g2, m2⟩ := m1.junk (o := .lst vs) hp
    exact k ds S1 p vs _ μ1 q (g1.trans g2) m2 (g1.back m1 hp) upd_same (fun z => m1.non p z hp) (Reps.go g2 m1 r1)⟩, h⟩⟩
def wNew (ws : W (List D)) : W D := fun ρ S Q => ws ρ S fun ds S1 => Q (.ref S1.length) (S1 ++ [O.lst ds])
theorem qe_new (h : QL X e ws) : QE X e (wNew ws) :=
  ⟨PE.imp h.pl fun σ H Q ⟨ρ, μ, S, Q3, eo, m, k, h⟩ => ⟨ρ, μ, S, _, eo, m, fun ds S1 p vs H1 μ1 q g1 m1 h0 hp hpm r1 => by
    obtain ⟨g2, m2, r2⟩ := m1.number g1 hp hpm h0 r1
    exact k _ _ _ H1 _ q g2 m2 r2, h⟩⟩
end
end L3
namespace L3
open PySem PySem.Spec L2
def pI (g : Int → Int → D) : P2 := fun a b S Q => match a, b with | .int i, .int j => Q (g i j) S | _, _ => False
def pIC (C : Int → Int → Prop) (g : Int → Int → D) : P2 := fun a b S Q => match a, b with | .int i, .int j => C i j ∧ Q (g i j) S | _, _ => False
section
variable {K : PySem.W.Frag}
theorem ref_I {g : Int → Int → D} {g' : Int → Int → V} (h : ∀ i j H μ, Rep K H μ (g i j) (g' i j)) : Ref2 K (rI0 g') (pI g) := by
  intro d1 d2 S Q3 v1 v2 H μ Q m r1 r2 k q
  unfold pI at q
  split at q
  · cases r1; cases r2
    exact ⟨_, _, rfl, rfl, k _ S _ H μ q .refl m (h _ _ H μ)⟩
  · exact q.elim
theorem ref_IC {C : Int → Int → Prop} {g : Int → Int → D} {g' : Int → Int → V} (h : ∀ i j H μ, Rep K H μ (g i j) (g' i j)) : Ref2 K (rI C g') (pIC C g) := by
  intro d1 d2 S Q3 v1 v2 H μ Q m r1 r2 k q
  unfold pIC at q
  split at q
  · cases r1; cases r2
    exact ⟨_, _, rfl, rfl, q.1, k _ S _ H μ q.2 .refl m (h _ _ H μ)⟩
  · exact q.elim
end
abbrev pSub : P2 := pI fun i j => .int (i - j)
abbrev pMul : P2 := pIC CMul fun i j => .int (i * j)
abbrev pDiv : P2 := pIC CDiv fun i j => .int (i / j)
abbrev pMod : P2 := pIC (fun _ j => 0 < j) fun i j => .int (i % j)
abbrev pPow : P2 := pIC CPow fun i j => .int (i ^ j.toNat)
abbrev pLe : P2 := pI fun i j => .bl (decide (i ≤ j))
abbrev pGt : P2 := pI fun i j => .bl (decide (j < i))
def pAdd : P2 := fun a b S Q => match a, b with
  | .int i, .int j => Q (.int (i + j)) S
  | .tup xs, .tup ys => small (xs.length + ys.length) ∧ xs ≠ [] ∧ Q (.tup (xs ++ ys)) S
  | .str x, .str y => x.length + y.length ≤ sizeLine ∧ Q (.str (x ++ y)) S
  | _, _ => False
def intsOf : List D → Option (List Int)
  | [] => some []
  | .int i :: r => (intsOf r).map (i :: ·)
  | _ => none
theorem intsOf_map : ∀ {xs : List D} {ns : List Int}, intsOf xs = some ns → xs = ns.map D.int
  | [], ns, h => by cases h; rfl
  | .int i :: r, ns, h => by
    unfold intsOf at h
    cases e : intsOf r with
    | none => rw [e] at h; cases h
    | some ms => rw [e] at h; cases h; rw [intsOf_map e]; rfl
  | .non :: _, _, h => by cases h
  | .bl _ :: _, _, h => by cases h
  | .str _ :: _, _, h => by cases h
  | .tup _ :: _, _, h => by cases h
  | .ref _ :: _, _, h => by cases h
  | .ro _ :: _, _, h => by cases h
  | .adr _ :: _, _, h => by cases h
def pLt : P2 := fun a b S Q => match a, b with
  | .int i, .int j => Q (.bl (decide (i < j))) S
  | .tup xs, .tup ys => ∃ ns ms, intsOf xs = some ns ∧ intsOf ys = some ms ∧ Q (.bl (HT.lexLt ns ms)) S
  | _, _ => False
def pGe : P2 := fun a b S Q => match a, b with
  | .int i, .int j => Q (.bl (decide (j ≤ i))) S
  | _, _ => False
def flatD : D → Bool
  | .non => true | .bl _ => true | .int _ => true | .str _ => true
  | _ => false
def eqF : D → D → Bool
  | .non, .non => true
  | .bl a, .bl b => a == b
  | .bl a, .int b => (if a then 1 else 0) == b
  | .int a, .bl b => a == (if b then 1 else 0)
  | .int a, .int b => a == b
  | .str a, .str b => a == b
  | _, _ => false
def inD (x : D) (xs : List D) : Bool := xs.any fun y => eqF y x
def itemsAre (S : Sto) : D → List D → Prop
  | .tup xs, ys => xs = ys
  | .ro xs, ys => xs = ys
  | .ref n, ys => S[n]? = some (O.lst ys)
  | _, _ => False
def pIn (neg : Bool) : P2 := fun a b S Q => ∃ xs, itemsAre S b xs ∧ flatD a = true ∧ xs.all flatD = true ∧ Q (.bl (if neg then !inD a xs else inD a xs)) S
def pIsN : P2 := fun a b S Q => match b with | .non => Q (.bl (match a with | .non => true | _ => false)) S | _ => False
def pNotN : P2 := fun a b S Q => match b with | .non => Q (.bl (match a with | .non => false | _ => true)) S | _ => False
mutual
inductive Deep (S : Sto) : D → PyData → Prop
  | non : Deep S .non .none
  | bl (b : Bool) : Deep S (.bl b) (.bool b)
  | int (i : Int) : Deep S (.int i) (.int i)
  | str (x : Str) : Deep S (.str x) (.str x)
  | tup {ds : List D} {ps : List PyData} : Deeps S ds ps → Deep S (.tup ds) (.tuple ps)
  | ro {ds : List D} {ps : List PyData} : Deeps S ds ps → Deep S (.ro ds) (.list ps)
  | ref {n : Nat} {ds : List D} {ps : List PyData} : S[n]? = some (O.lst ds) → Deeps S ds ps → Deep S (.ref n) (.list ps)
inductive Deeps (S : Sto) : List D → List PyData → Prop
  | nil : Deeps S [] []
  | cons {d : D} {p : PyData} {ds : List D} {ps : List PyData} : Deep S d p → Deeps S ds ps → Deeps S (d :: ds) (p :: ps)
end
inductive EqIs (S : Sto) (a b : D) (c : Bool) : Prop
  | deep {p q : PyData} : Deep S a p → Deep S b q → SeqAt.shaped p = true → SeqAt.shaped q = true → c = PyData.eqv p q → EqIs S a b c
def pEq : P2 := fun a b S Q => match a, b with
  | .int i, .int j => Q (.bl (decide (i = j))) S
  | .str i, .str j => Q (.bl (decide (i = j))) S
  | .bl i, .bl j => Q (.bl (decide (i = j))) S
  | _, _ => ∃ c, EqIs S a b c ∧ Q (.bl c) S
def pNe : P2 := fun a b S Q => match a, b with
  | .int i, .int j => Q (.bl (!decide (i = j))) S
  | .str i, .str j => Q (.bl (!decide (i = j))) S
  | .bl i, .bl j => Q (.bl (!decide (i = j))) S
  | _, _ => ∃ c, EqIs S a b c ∧ Q (.bl (!c)) S
section
variable {K : PySem.W.Frag} {H : Hp} {μ : List Addr} {S : Sto}
theorem flat_rep {d : D} {v : V} (r : Rep K H μ d v) (f : flatD d = true) : flatV v = true := by cases r <;> first | rfl | cases f
theorem eqF_rep {a b : D} {x y : V} (r : Rep K H μ a x) (q : Rep K H μ b y) : flatD a = true → flatD b = true → eqV x y = eqF a b := by
  intro fa fb
  cases r <;> cases q <;> first | rfl | cases fa | cases fb
theorem flats_rep : ∀ {ds : List D} {vs : List V}, Reps K H μ ds vs → ds.all flatD = true → vs.all flatV = true
  | [], _, h, _ => by cases h; rfl
  | d :: ds, _, h, f => by
    cases h with
    | cons r t =>
      rw [List.all_cons, Bool.and_eq_true] at f
      rw [List.all_cons, flat_rep r f.1, flats_rep t f.2]; rfl
theorem in_rep {a : D} {x : V} (r : Rep K H μ a x) (fa : flatD a = true) : ∀ {ds : List D} {vs : List V}, Reps K H μ ds vs → ds.all flatD = true → inV x vs = inD a ds
  | [], _, h, _ => by cases h; rfl
  | d :: ds, _, h, f => by
    cases h with
    | cons q t =>
      rw [List.all_cons, Bool.and_eq_true] at f
      have ih := in_rep r fa t f.2
      unfold inV inD at ih ⊢
      rw [List.any_cons, List.any_cons, ih, eqF_rep q r f.1 fa]
theorem items_rep (m : Sim K H μ S) {d : D} {v : V} {xs : List D} (r : Rep K H μ d v) (h : itemsAre S d xs) : ∃ a vs, v = .ref a ∧ (SqL K H a vs ∨ SqT K H a vs) ∧ Reps K H μ xs vs := by
  cases r with
  | tup h1 r1 => cases h; exact ⟨_, _, rfl, .inr h1, r1⟩
  | ro h1 r1 => cases h; exact ⟨_, _, rfl, .inl h1.sqL, r1⟩
  | ref e =>
    obtain ⟨vs, h1, h2⟩ := m.at h e
    exact ⟨_, vs, rfl, .inl (SqL.of h1), h2⟩
  | _ => exact h.elim
mutual
theorem Deep.dp (m : Sim K H μ S) : ∀ {d : D} {p : PyData}, Deep S d p → ∀ {v : V}, Rep K H μ d v → Dp K H v p
  | _, _, .non, _, r => by cases r; exact .non
  | _, _, .bl b, _, r => by cases r; exact .bl b
  | _, _, .int b, _, r => by cases r; exact .int b
  | _, _, .str b, _, r => by cases r; exact .str b
  | _, _, .tup h, _, r => by cases r with | tup h1 r1 => exact .tup h1 (Deeps.dp m h r1)
  | _, _, .ro h, _, r => by cases r with | ro h1 r1 => exact .lst h1.sqL (Deeps.dp m h r1)
  | _, _, .ref e h, _, r => by
    cases r with
    | ref e1 =>
      obtain ⟨vs, h1, h2⟩ := m.at e e1
      exact .lst (SqL.of h1) (Deeps.dp m h h2)
theorem Deeps.dp (m : Sim K H μ S) : ∀ {ds : List D} {ps : List PyData}, Deeps S ds ps → ∀ {vs : List V}, Reps K H μ ds vs → DpAll K H vs ps
  | _, _, .nil, _, r => by cases r; exact .nil
  | _, _, .cons h t, _, r => by cases r with | cons r1 r2 => exact .cons (Deep.dp m h r1) (Deeps.dp m t r2)
end
theorem ref_Add : Ref2 K (fun x y H Q => rI0 (fun i j => .int (i + j)) x y H Q ∨ rCatT K x y H Q ∨ (∃ i j, x = .str i ∧ y = .str j ∧ i.length + j.length ≤ sizeLine ∧ Q (.str (i ++ j)) H)) pAdd := by
  intro d1 d2 S Q3 v1 v2 H μ Q m r1 r2 k q
  unfold pAdd at q
  split at q
  · cases r1; cases r2
    exact .inl ⟨_, _, rfl, rfl, k _ S _ H μ q .refl m (.int _)⟩
  · rename_i xs ys
    obtain ⟨z, ne, q⟩ := q
    cases r1 with
    | tup h1 s1 =>
      cases r2 with
      | tup h2 s2 =>
        refine .inr (.inl ⟨_, _, _, _, rfl, rfl, h1, h2, fun e => ne ?_, ?_, fun e => ?_, fun _ p hp => ?_⟩)
        · have := s1.length; rw [e] at this; exact List.length_eq_zero_iff.mp this
        · rw [← s1.length, ← s2.length]; exact Nat.le_of_lt (small_line z)
        · subst e
          cases s2
          rw [List.append_nil] at q
          exact k _ S _ H μ q .refl m (.tup h1 s1)
        · obtain ⟨g2, m2⟩ := m.junk (o := .tup _) hp
          exact k _ S _ _ μ q g2 m2 (.tup (SqT.of upd_same) (Reps.go g2 m (s1.append s2)))
  · cases r1; cases r2
    exact .inr (.inr ⟨_, _, rfl, rfl, q.1, k _ S _ H μ q.2 .refl m (.str _)⟩)
  · exact q.elim
theorem ref_Lt : Ref2 K (fun x y H Q => rI0 (fun i j => .bl (decide (i < j))) x y H Q ∨ rLtT K x y H Q) pLt := by
  intro d1 d2 S Q3 v1 v2 H μ Q m r1 r2 k q
  unfold pLt at q
  split at q
  · cases r1; cases r2
    exact .inl ⟨_, _, rfl, rfl, k _ S _ H μ q .refl m (.bl _)⟩
  · obtain ⟨ns, ms, e1, e2, q⟩ := q
    have e1 := intsOf_map e1
    have e2 := intsOf_map e2
    subst e1 e2
    cases r1 with
    | tup h1 s1 =>
      cases r2 with
      | tup h2 s2 =>
        have e1 := s1.ints
        have e2 := s2.ints
        subst e1 e2
        exact .inr ⟨_, _, ns, ms, rfl, rfl, h1, h2, k _ S _ H μ q .refl m (.bl _)⟩
  · exact q.elim
theorem ref_Ge : Ref2 K (rI0 fun i j => .bl (decide (j ≤ i))) pGe := by
  intro d1 d2 S Q3 v1 v2 H μ Q m r1 r2 k q
  unfold pGe at q
  split at q
  · cases r1; cases r2
    exact ⟨_, _, rfl, rfl, k _ S _ H μ q .refl m (.bl _)⟩
  · exact q.elim
theorem ref_In (neg : Bool) : Ref2 K (rIn K neg) (pIn neg) := by
  intro d1 d2 S Q3 v1 v2 H μ Q m r1 r2 k q
  obtain ⟨xs, h, f1, f2, q⟩ := q
  obtain ⟨a, vs, rfl, hq, rs⟩ := items_rep m r2 h
  refine ⟨a, vs, rfl, hq, flat_rep r1 f1, flats_rep rs f2, ?_⟩
  rw [in_rep r1 f1 rs f2]
  exact k _ S _ H μ q .refl m (.bl _)
theorem ref_Eq : Ref2 K (fun x y H Q => rEq x y H Q ∨ rEqD K x y H Q) pEq := by
  intro d1 d2 S Q3 v1 v2 H μ Q m r1 r2 k q
  unfold pEq at q
  split at q
  · cases r1; cases r2
    exact .inl ⟨rfl, k _ S _ H μ (by have := q; simpa using this) .refl m (.bl _)⟩
  · cases r1; cases r2
    exact .inl ⟨rfl, k _ S _ H μ (by have := q; simpa using this) .refl m (.bl _)⟩
  · cases r1; cases r2
    exact .inl ⟨rfl, k _ S _ H μ (by have := q; simpa using this) .refl m (.bl _)⟩
  · obtain ⟨c, ⟨h1, h2, s1, s2, rfl⟩, q⟩ := q
    exact .inr ⟨_, _, h1.dp m r1, h2.dp m r2, s1, s2, k _ S _ H μ q .refl m (.bl _)⟩
theorem ref_Ne : Ref2 K (fun x y H Q => rNe x y H Q ∨ rNeD K x y H Q) pNe := by
  intro d1 d2 S Q3 v1 v2 H μ Q m r1 r2 k q
  unfold pNe at q
  split at q
  · cases r1; cases r2
    exact .inl ⟨rfl, k _ S _ H μ (by have := q; simpa using this) .refl m (.bl _)⟩
  · cases r1; cases r2
    exact .inl ⟨rfl, k _ S _ H μ (by have := q; simpa using this) .refl m (.bl _)⟩
  · cases r1; cases r2
    exact .inl ⟨rfl, k _ S _ H μ (by have := q; simpa using this) .refl m (.bl _)⟩
  · obtain ⟨c, ⟨h1, h2, s1, s2, rfl⟩, q⟩ := q
    exact .inr ⟨_, _, h1.dp m r1, h2.dp m r2, s1, s2, k _ S _ H μ q .refl m (.bl _)⟩
end
section
variable {X : Cx} {a b c : Expr} {wa wb wc : W D} {pos : Pos}
theorem qe_sub (ha : QE X a wa) (hb : QE X b wb) : QE X (.BinOp a .Sub b pos) (wOp pSub wa wb) := qe_op op_sub (ref_I fun _ _ _ _ => .int _) ha hb
theorem qe_mul (ha : QE X a wa) (hb : QE X b wb) : QE X (.BinOp a .Mult b pos) (wOp pMul wa wb) := qe_op op_mul (ref_IC fun _ _ _ _ => .int _) ha hb
theorem qe_div (ha : QE X a wa) (hb : QE X b wb) : QE X (.BinOp a .FloorDiv b pos) (wOp pDiv wa wb) := qe_op op_fdiv (ref_IC fun _ _ _ _ => .int _) ha hb
theorem qe_mod (ha : QE X a wa) (hb : QE X b wb) : QE X (.BinOp a .Mod b pos) (wOp pMod wa wb) := qe_op op_mod (ref_IC fun _ _ _ _ => .int _) ha hb
theorem qe_pow (ha : QE X a wa) (hb : QE X b wb) : QE X (.BinOp a .Pow b pos) (wOp pPow wa wb) := qe_op op_pow (ref_IC fun _ _ _ _ => .int _) ha hb
structure CmpR (X : Cx) (op : CmpOp) (f : P2) : Prop where
  ok : ∃ r : R2, OpR X (compareOp op) r ∧ Ref2 X.K r f
theorem qe_cp {op : CmpOp} {f : P2} (h : CmpR X op f) (ha : QE X a wa) (hb : QE X b wb) (hm : behindInMarks op b = false := by first | exact nobehind _ (by decide) (by decide) | rfl) : QE X (.Compare a [op] [b] pos) (wOp f wa wb) :=
  let ⟨_, h1, h2⟩ := h.ok; qe_cmp h1 h2 ha hb hm
theorem qt_cp {op : CmpOp} {f : P2} (h : CmpR X op f) (ha : QE X a wa) (hb : QE X b wb) (hm : behindInMarks op b = false := by first | exact nobehind _ (by decide) (by decide) | rfl) : QT X (.Compare a [op] [b] pos) (wTst (wOp f wa wb)) :=
  let ⟨_, h1, h2⟩ := h.ok; qt_cmp h1 h2 ha hb hm
theorem c_lt {k : Nat} (hr : Room k X.A) : CmpR X .Lt pLt := ⟨_, op_lt.or (op_ltT hr.units0), ref_Lt⟩
theorem c_le : CmpR X .LtE pLe := ⟨_, op_le, ref_I fun _ _ _ _ => .bl _⟩
theorem c_gt : CmpR X .Gt pGt := ⟨_, op_gt, ref_I fun _ _ _ _ => .bl _⟩
theorem c_ge : CmpR X .GtE pGe := ⟨_, op_ge, ref_Ge⟩
theorem c_in : CmpR X .In (pIn false) := ⟨_, op_in_seq, ref_In false⟩
theorem c_eq {k : Nat} (hr : Room k X.A) : CmpR X .Eq pEq := ⟨_, op_eq.or (op_eqD hr.units), ref_Eq⟩
theorem c_ne {k : Nat} (hr : Room k X.A) : CmpR X .NotEq pNe := ⟨_, op_ne.or (op_neD hr.units), ref_Ne⟩
theorem qe_ch {op op' : CmpOp} {f g : P2} (h : CmpR X op f) (h' : CmpR X op' g) (ha : QE X a wa) (hb : QE X b wb) (hc : QE X c wc) (hm : lastMarks [op, op'] [b, c] = false := by with_unfolding_all rfl) : QE X (.Compare a [op, op'] [b, c] pos) (wCh f g wa wb wc) := by
  obtain ⟨r, h1, h2⟩ := h.ok
  obtain ⟨r', h1', h2'⟩ := h'.ok
  refine ⟨PE.imp (pe_chain h1 h1' ha.pe hb.pe hc.pe hm) fun σ H Q ⟨ρ, μ, S, Q3, eo, m, k, h⟩ => ?_⟩
  refine ⟨ρ, μ, S, _, eo, m, fun d S1 v H1 μ1 q g1 m1 r1 => ⟨ρ, μ1, S1, _, eo.go g1 m, m1, fun d2 S2 v2 H2 μ2 q2 g2 m2 r2 => ?_, q⟩, h⟩
  refine h2 d d2 S2 _ v v2 H2 μ2 _ m2 (Rep.go g2 m1 r1) r2 (fun d3 S3 v3 H3 μ3 q3 g3 m3 r3 => ?_) q2
  cases r3 with
  | bl b =>
    refine ⟨b, rfl, ?_⟩
    cases b with
    | true =>
      refine iteT ⟨ρ, μ3, S3, _, ((eo.go g1 m).go g2 m1).go g3 m2, m3, fun d4 S4 v4 H4 μ4 q4 g4 m4 r4 => ?_, q3⟩
      exact h2' d2 d4 S4 Q3 v2 v4 H4 μ4 Q m4 (Rep.go g4 m3 (Rep.go g3 m2 r2)) r4 (k.go (((g1.trans g2).trans g3).trans g4)) q4
    | false => exact iteF (k _ S3 _ H3 μ3 q3 ((g1.trans g2).trans g3) m3 (.bl _))
  | _ => exact False.elim q3
end
end L3
namespace L3
open PySem PySem.Spec L2
inductive Tg where
  | one (i : Nat) | many (is : List Nat)
  /-- a name, and a tuple of names behind it -/
  | pr (i : Nat) (is : List Nat)
def gNames : List Nat → TGs
  | [] => gNil
  | i :: r => gCons (gName i) (gNames r)
def tgL (K : PySem.W.Frag) : Tg → TG
  | .one i => gName i
  | .many is => gTup K is.length (gNames is)
  | .pr i is => gTup K 2 (gCons (gName i) (gCons (gTup K is.length (gNames is)) gNil))
def Tg.slots : Tg → List Nat
  | .one i => [i]
  | .many is => is
  | .pr i is => i :: is
def setAll (ρ : Env) : List Nat → List D → Env
  | i :: is, d :: ds => setAll (ρ.set i (some d)) is ds
  | _, _ => ρ
def tg3 : Tg → D → Env → Sto → (Env → Sto → Prop) → Prop
  | .one i, d, ρ, S, Q => Q (ρ.set i (some d)) S
  | .many is, d, ρ, S, Q => match d with
    | .tup ds => ds.length = is.length ∧ Q (setAll ρ is ds) S
    | _ => False
  | .pr i is, d, ρ, S, Q => match d with
    | .tup [a, .tup ds] => ds.length = is.length ∧ Q (setAll (ρ.set i (some a)) is ds) S
    | _ => False
structure QG (X : Cx) (e : Expr) (t : Tg) : Prop where
  pg : PG X e (tgL X.K t)
structure QGs (X : Cx) (es : List Expr) (is : List Nat) : Prop where
  pgs : PGs X es (gNames is)
section
variable {X : Cx} {pos : Pos} {e : Expr} {es : List Expr} {i : Nat} {is : List Nat} {x : Str}
theorem qg_one (hN : X.N.Nodup) (i : Nat) (hi : X.N[i]? = some x := by rfl) (hx : Loc X.env.scope x := by first | exact Or.inl rfl | exact Or.inr rfl) (hf : X.fn x = true ∨ X.env.scope.names.lookup x = some .local := by first | exact .inl rfl | exact .inr rfl) : QG X (.Name x pos) (.one i) :=
  ⟨pg_name hN hi hx hf⟩
theorem qgs_nil : QGs X [] [] := ⟨pgs_nil⟩
theorem qgs_cons (hN : X.N.Nodup) (i : Nat) (h : QGs X es is) (hi : X.N[i]? = some x := by rfl) (hx : Loc X.env.scope x := by first | exact Or.inl rfl | exact Or.inr rfl) (hf : X.fn x = true ∨ X.env.scope.names.lookup x = some .local := by first | exact .inl rfl | exact .inr rfl)
    (hs : (assignEach (.Name x pos :: es) X.env).map (·.2) = assign (.Name x pos) X.env :: (assignEach es X.env).map (·.2) := by rfl) : QGs X (.Name x pos :: es) (i :: is) :=
  ⟨pgs_cons (pg_name hN hi hx hf) h.pgs hs⟩
theorem qg_many {k : Nat} (hc : X.calm = true) (h : QGs X es is) (hn : (assignEach es X.env).length = is.length := by rfl) (hst : (assignEach es X.env).findIdx? (·.1) = none := by rfl) : QG X (.Tuple es k pos) (.many is) :=
  ⟨pg_tup hc h.pgs hn hst⟩
theorem qg_pr {k k2 : Nat} {px pos2 : Pos} (hc : X.calm = true) (hN : X.N.Nodup) (i : Nat) (h : QGs X es is) (hi : X.N[i]? = some x := by rfl) (hx : Loc X.env.scope x := by first | exact Or.inl rfl | exact Or.inr rfl) (hf : X.fn x = true ∨ X.env.scope.names.lookup x = some .local := by first | exact .inl rfl | exact .inr rfl)
    (hn : (assignEach es X.env).length = is.length := by rfl) (hst : (assignEach es X.env).findIdx? (·.1) = none := by rfl) (hn2 : (assignEach [.Name x px, .Tuple es k pos2] X.env).length = 2 := by rfl) (hst2 : (assignEach [.Name x px, .Tuple es k pos2] X.env).findIdx? (·.1) = none := by rfl)
    (hs : (assignEach [.Name x px, .Tuple es k pos2] X.env).map (·.2) = assign (.Name x px) X.env :: (assignEach [.Tuple es k pos2] X.env).map (·.2) := by rfl) (hs2 : (assignEach [.Tuple es k pos2] X.env).map (·.2) = assign (.Tuple es k pos2) X.env :: (assignEach [] X.env).map (·.2) := by rfl) : QG X (.Tuple [.Name x px, .Tuple es k pos2] k2 pos) (.pr i is) :=
  ⟨pg_tup hc (pgs_cons (pg_name hN hi hx hf) (pgs_cons (pg_tup hc h.pgs hn hst) pgs_nil hs2) hs) hn2 hst2⟩
end
def OnlyAt (vs : List Nat) (σ σ' : L2.St) : Prop := σ'.length = σ.length ∧ ∀ i : Nat, i ∉ vs → σ'[i]? = σ[i]?
theorem OnlyAt.refl {vs : List Nat} {σ : L2.St} : OnlyAt vs σ σ := ⟨rfl, fun _ _ => rfl⟩
theorem OnlyAt.set {vs : List Nat} {σ σ' : L2.St} {i : Nat} {o : Option V} (h : OnlyAt vs σ σ') (hi : i ∈ vs) : OnlyAt vs σ (σ'.set i o) :=
  ⟨by rw [List.length_set]; exact h.1, fun j hj => by rw [List.getElem?_set_ne (show i ≠ j from fun z => hj (by rw [← z]; exact hi))]; exact h.2 j hj⟩
theorem wipe_at (σ : L2.St) : ∀ (vs : List Nat) (i : Nat), (wipe σ vs)[i]? = if i ∈ vs then (σ[i]?).map (fun _ => none) else σ[i]?
  | [], i => by simp [wipe]
  | v :: vs, i => by
    unfold wipe
    rw [List.getElem?_set]
    have ih := wipe_at σ vs i
    by_cases e : v = i
    · subst e
      rw [if_pos rfl, wipe_length, if_pos List.mem_cons_self]
      by_cases hl : v < σ.length
      · rw [if_pos hl, List.getElem?_eq_getElem hl]; rfl
      · rw [if_neg hl, List.getElem?_eq_none (by omega)]; rfl
    · rw [if_neg e, ih]
      by_cases q : i ∈ vs
      · rw [if_pos q, if_pos (List.mem_cons_of_mem _ q)]
      · rw [if_neg q, if_neg (fun z => (List.mem_cons.mp z).elim (fun z => e z.symm) q)]
theorem OnlyAt.wipe {vs : List Nat} {σ σ' : L2.St} (h : OnlyAt vs (wipe σ vs) σ') : L2.wipe σ' vs = L2.wipe σ vs := by
  apply List.ext_getElem?
  intro i
  have hl := h.1
  rw [wipe_length] at hl
  rw [wipe_at, wipe_at]
  by_cases q : i ∈ vs
  · rw [if_pos q, if_pos q]
    by_cases z : i < σ.length
    · rw [List.getElem?_eq_getElem z, List.getElem?_eq_getElem (by omega)]; rfl
    · rw [List.getElem?_eq_none (by omega), List.getElem?_eq_none (by omega)]
  · rw [if_neg q, if_neg q, h.2 i q, wipe_at, if_neg q]
section
variable {K : PySem.W.Frag} {H : Hp} {μ : List Addr} {S : Sto} {ρ : Env} {σ : L2.St} {vs : List Nat}
theorem names_ok {σ0 : L2.St} : ∀ {is : List Nat} {ds : List D} {us : List V} {ρ : Env} {σ : L2.St} {Q : L2.St → Hp → Prop}, EnvOk K H μ ρ σ → Reps K H μ ds us → ds.length = is.length → (∀ i ∈ is, i ∈ vs) → OnlyAt vs σ0 σ →
    (∀ σ', EnvOk K H μ (setAll ρ is ds) σ' → OnlyAt vs σ0 σ' → Q σ' H) → gNames is us σ H Q
  | [], ds, us, ρ, σ, Q, eo, r, hl, hv, o, k => by
    have : ds = [] := List.length_eq_zero_iff.mp hl
    subst this
    cases r
    exact ⟨rfl, k σ eo o⟩
  | i :: is, [], us, ρ, σ, Q, eo, r, hl, hv, o, k => by simp at hl
  | i :: is, d :: ds, us, ρ, σ, Q, eo, r, hl, hv, o, k => by
    cases r with
    | cons r1 r2 => exact ⟨_, _, rfl, names_ok (eo.set i r1) r2 (by simpa using hl) (fun j hj => hv j (List.mem_cons_of_mem _ hj)) (o.set (hv i List.mem_cons_self)) k⟩
theorem tg_ok {t : Tg} {d : D} {v : V} {Q3 : Env → Sto → Prop} {Q : L2.St → Hp → Prop} (eo : EnvOk K H μ ρ σ) (r : Rep K H μ d v) (hv : ∀ i ∈ t.slots, i ∈ vs) (h : tg3 t d ρ S Q3)
    (k : ∀ ρ' σ', Q3 ρ' S → EnvOk K H μ ρ' σ' → OnlyAt vs σ σ' → Q σ' H) : tgL K t v σ H Q := by
  cases t with
  | one i => exact k _ _ h (eo.set i r) (OnlyAt.refl.set (hv i List.mem_cons_self))
  | many is =>
    unfold tg3 at h
    cases r with
    | tup h1 r1 =>
      obtain ⟨hl, h⟩ := h
      exact ⟨_, _, rfl, h1, by rw [← r1.length]; exact hl, names_ok eo r1 hl hv OnlyAt.refl fun σ' e o => k _ _ h e o⟩
    | _ => exact h.elim
  | pr i is =>
    simp only [tg3] at h
    split at h
    · obtain ⟨hl, h⟩ := h
      cases r with
      | tup h1 r1 =>
        cases r1 with
        | cons ra rb =>
          cases rb with
          | cons rb rn =>
            cases rn
            cases rb with
            | tup h2 r2 =>
              refine ⟨_, _, rfl, h1, rfl, _, _, rfl, _, _, rfl, ?_⟩
              refine ⟨_, _, rfl, h2, by rw [← r2.length]; exact hl, ?_⟩
              exact names_ok (σ0 := σ) (eo.set i ra) r2 hl (fun j hj => hv j (List.mem_cons_of_mem _ hj)) (OnlyAt.refl.set (hv i List.mem_cons_self)) fun σ' e o => ⟨rfl, k _ _ h e o⟩
    · exact h.elim
end
structure E3 where
  nx : Env → Sto → Prop
  rt : D → Sto → Prop
  bk : Env → Sto → Prop := fun _ _ => False
  ct : Env → Sto → Prop := fun _ _ => False
abbrev WS := E3 → Env → Sto → Prop
def KnG (K : PySem.W.Frag) (H : Hp) (μ : List Addr) (Q3 : Env → Sto → Prop) (Q : L2.St → Hp → Prop) : Prop := ∀ ρ' S' σ' H' μ', Q3 ρ' S' → Go H μ H' μ' → Sim K H' μ' S' → EnvOk K H' μ' ρ' σ' → Q σ' H'
theorem KnG.go {K : PySem.W.Frag} {H H1 : Hp} {μ μ1 : List Addr} {Q3 : Env → Sto → Prop} {Q : L2.St → Hp → Prop} (k : KnG K H μ Q3 Q) (g : Go H μ H1 μ1) : KnG K H1 μ1 Q3 Q := fun ρ' S' σ' H' μ' q g' m e => k ρ' S' σ' H' μ' q (g.trans g') m e
structure Dn (K : PySem.W.Frag) (H : Hp) (μ : List Addr) (D3 : E3) (D : Ends) : Prop where
  nx : KnG K H μ D3.nx D.nx
  rt : Kn K H μ D3.rt D.rt
  bk : KnG K H μ D3.bk D.bk
  ct : KnG K H μ D3.ct D.ct
theorem Dn.go {K : PySem.W.Frag} {H H1 : Hp} {μ μ1 : List Addr} {D3 : E3} {D : Ends} (d : Dn K H μ D3 D) (g : Go H μ H1 μ1) : Dn K H1 μ1 D3 D := ⟨d.nx.go g, d.rt.go g, d.bk.go g, d.ct.go g⟩
def liftS (K : PySem.W.Frag) (w : WS) : TS := fun D σ H => ∃ ρ μ S D3, EnvOk K H μ ρ σ ∧ Sim K H μ S ∧ Dn K H μ D3 D ∧ w D3 ρ S
structure QS (X : Cx) (st : Stmt) (w : WS) : Prop where
  ps : PS X st (liftS X.K w)
structure QSs (X : Cx) (st : List Stmt) (w : WS) : Prop where
  pss : PSs X st (liftS X.K w)
theorem PS.imp {X : Cx} {e : Stmt} {t t' : TS} (h : PS X e t) (k : ∀ D σ H, t' D σ H → t D σ H) : PS X e t' := fun pins s σ H D I q => h pins s σ H D I (k D σ H q)
theorem PSs.imp {X : Cx} {e : List Stmt} {t t' : TS} (h : PSs X e t) (k : ∀ D σ H, t' D σ H → t D σ H) : PSs X e t' := fun pins s σ H D I q => h pins s σ H D I (k D σ H q)
def wNext : WS := fun D ρ S => D.nx ρ S
def wSeq (w1 w2 : WS) : WS := fun D ρ S => w1 { D with nx := w2 D } ρ S
def wDrop (we : W D) : WS := fun D ρ S => we ρ S fun _ S1 => D.nx ρ S1
def wRet (we : W D) : WS := fun D ρ S => we ρ S D.rt
def wIfS (wc : W Bool) (w1 w2 : WS) : WS := fun D ρ S => wc ρ S fun b S1 => if b = true then w1 D ρ S1 else w2 D ρ S1
def wNever : WS := fun _ _ _ => False
def wAsg (we : W D) (t : Tg) : WS := fun D ρ S => we ρ S fun d S1 => tg3 t d ρ S1 D.nx
section
variable {X : Cx} {st : Stmt} {rest : List Stmt} {w1 w2 : WS} {we wo wi : W D} {wc : W Bool} {e o i tg : Expr} {es : List Expr} {pos : Pos} {t : Tg}
theorem qss_nil : QSs X [] wNext := ⟨PSs.imp pss_nil fun D σ H ⟨ρ, μ, S, D3, eo, m, dn, h⟩ => dn.nx ρ S σ H μ h .refl m eo⟩
theorem qss_cons (h1 : QS X st w1) (h2 : QSs X rest w2) : QSs X (st :: rest) (wSeq w1 w2) :=
  ⟨PSs.imp (pss_cons h1.ps h2.pss) fun D σ H ⟨ρ, μ, S, D3, eo, m, dn, h⟩ => ⟨ρ, μ, S, { D3 with nx := w2 D3 }, eo, m, ⟨fun ρ' S' σ' H' μ' q g m' e => ⟨ρ', μ', S', D3, e, m', dn.go g, q⟩, dn.rt, dn.bk, dn.ct⟩, h⟩⟩
theorem qss_one (h1 : QS X st w1) : QSs X [st] w1 := ⟨pss_one h1.ps⟩
theorem qs_expr (he : QE X e we) (hs : swapsWith e none pos.line X.env = pure false := by rfl) : QS X (.Expr e pos) (wDrop we) :=
  ⟨PS.imp (ps_expr he.pe hs) fun D σ H ⟨ρ, μ, S, D3, eo, m, dn, h⟩ => ⟨ρ, μ, S, _, eo, m, fun d S' v H' μ' q g m' r => dn.nx ρ S' σ H' μ' q g m' (eo.go g m), h⟩⟩
theorem qs_ret (he : QE X e we) : QS X (.Return (some e) pos) (wRet we) :=
  ⟨PS.imp (ps_ret he.pe) fun D σ H ⟨ρ, μ, S, D3, eo, m, dn, h⟩ => ⟨ρ, μ, S, _, eo, m, dn.rt, h⟩⟩
theorem qs_if {a b : List Stmt} (hc : QT X e wc) (ha : QSs X a w1) (hb : QSs X b w2) : QS X (.If e a b pos) (wIfS wc w1 w2) :=
  ⟨PS.imp (ps_if hc.pt ha.pss hb.pss) fun D σ H ⟨ρ, μ, S, D3, eo, m, dn, h⟩ => ⟨ρ, μ, S, _, eo, m, fun b S1 H1 μ1 q g m1 => by
    cases b with
    | true => exact iteT ⟨ρ, μ1, S1, D3, eo.go g m, m1, dn.go g, q⟩
    | false => exact iteF ⟨ρ, μ1, S1, D3, eo.go g m, m1, dn.go g, q⟩, h⟩⟩
theorem qs_never : QS X st wNever := ⟨PS.imp ps_never fun D σ H ⟨ρ, μ, S, D3, eo, m, dn, h⟩ => h⟩
theorem asg_ok : ∀ D σ H, liftS X.K (wAsg we t) D σ H → tAsg (liftE X.K we) (tgL X.K t) D σ H := fun D σ H ⟨ρ, μ, S, D3, eo, m, dn, h⟩ =>
  ⟨ρ, μ, S, _, eo, m, fun d S' v H' μ' q g m' r => tg_ok (vs := t.slots) (eo.go g m) r (fun _ h => h) q fun ρ' σ' q' e' _ => dn.nx ρ' S' σ' H' μ' q' g m' e', h⟩
theorem qs_asg (he : QE X e we) (hg : QG X tg t) (hs : swapsWithSole [tg] e pos.line X.env = pure false := by rfl) (hw : swappedStores [tg] e X.env = pure none := by rfl)
    (h1 : (assignEach [tg] X.env).map (·.2) = [assign tg X.env] := by rfl) : QS X (.Assign [tg] e pos) (wAsg we t) := ⟨PS.imp (ps_asg he.pe hg.pg hs hw h1) asg_ok⟩
def pSet : D → D → D → Sto → (Sto → Prop) → Prop := fun o i d S Q => match o, i with
  | .ref n, .int k => ∃ xs j, S[n]? = some (O.lst xs) ∧ ixN xs.length k = some j ∧ Q (S.set n (O.lst (xs.set j d)))
  | _, _ => False
def wPut (we wo wi : W D) : WS := fun D ρ S => we ρ S fun d S1 => wo ρ S1 fun o S2 => wi ρ S2 fun i S3 => pSet o i d S3 fun S4 => D.nx ρ S4
theorem qs_put {tpos : Pos} (he : QE X e we) (ho : QE X o wo) (hi : QE X i wi) (ha : ∀ v, assign (.Subscript o i tpos) X.env v = (do
      let ov ← holding [v] (eval o X.env)
      let iv ← holding [v, ov] (eval i X.env)
      standAt tpos
      holding [v, ov, iv] (setItem ov iv v)
      release [v, ov, iv] []) := by intro _; rfl)
    (hs : swapsWithSole [.Subscript o i tpos] e pos.line X.env = pure false := by rfl) (hw : swappedStores [.Subscript o i tpos] e X.env = pure none := by rfl)
    (h1 : (assignEach [.Subscript o i tpos] X.env).map (·.2) = [assign (.Subscript o i tpos) X.env] := by rfl) : QS X (.Assign [.Subscript o i tpos] e pos) (wPut we wo wi) := by
  refine ⟨PS.imp (ps_asg he.pe (pg_sub ho.pe hi.pe set_list ha) hs hw h1) fun D σ H ⟨ρ, μ, S, D3, eo, m, dn, h⟩ => ?_⟩
  refine ⟨ρ, μ, S, _, eo, m, fun d S1 v H1 μ1 q1 g1 m1 r1 => ?_, h⟩
  refine ⟨ρ, μ1, S1, _, eo.go g1 m, m1, fun o S2 vo H2 μ2 q2 g2 m2 r2 => ?_, q1⟩
  refine ⟨ρ, μ2, S2, _, (eo.go g1 m).go g2 m1, m2, fun k S3 vk H3 μ3 q3 g3 m3 r3 => ?_, q2⟩
  unfold pSet at q3
  split at q3
  · rename_i n z
    obtain ⟨xs, j, e1, e2, q3⟩ := q3
    have r2' := Rep.go g3 m2 r2
    have r1' := Rep.go g3 m2 (Rep.go g2 m1 r1)
    cases r2' with
    | ref ea =>
      cases r3
      obtain ⟨vs, hv, rs⟩ := m3.at e1 ea
      obtain ⟨g4, m4⟩ := m3.write e1 ea (rs.set j r1')
      exact ⟨_, vs, _, j, rfl, rfl, hv, by rw [← rs.length]; exact e2, dn.nx ρ _ σ _ μ3 q3 (((g1.trans g2).trans g3).trans g4) m4 ((((eo.go g1 m).go g2 m1).go g3 m2).go g4 m3)⟩
  · exact q3.elim
end
structure Src where
  items : List D
  stay : Sto → Prop
def ItOk (K : PySem.W.Frag) (H0 : Hp) (μ0 : List Addr) (J : It) (src : Src) : Prop :=
  ∀ (i : Nat) H μ S, Go H0 μ0 H μ → Sim K H μ S → src.stay S →
    (∀ x, src.items[i]? = some x → J.go i H ∧ ∀ v H', J.yld i H v H' → (∀ p o, H p = some o → H' p = some o) ∧ Go H μ H' μ ∧ Sim K H' μ S ∧ Rep K H' μ x v) ∧ (src.items.length ≤ i → J.stop i H)
abbrev WI := Env → Sto → (Src → Sto → Prop) → Prop
def KnI (K : PySem.W.Frag) (H : Hp) (μ : List Addr) (Q3 : Src → Sto → Prop) (R : It → Hp → Prop) : Prop := ∀ src S' J H' μ', Q3 src S' → Go H μ H' μ' → Sim K H' μ' S' → ItOk K H' μ' J src → R J H'
def liftI (K : PySem.W.Frag) (w : WI) : TI := fun σ H R => ∃ ρ μ S Q3, EnvOk K H μ ρ σ ∧ Sim K H μ S ∧ KnI K H μ Q3 R ∧ w ρ S Q3
structure QI (X : Cx) (tg e : Expr) (w : WI) : Prop where
  pi : PI X tg e (liftI X.K w)
theorem PI.imp {X : Cx} {tg e : Expr} {t t' : TI} (h : PI X tg e t) (k : ∀ σ H R, t' σ H R → t σ H R) : PI X tg e t' := fun pins s σ H R I q => h pins s σ H R I (k σ H R q)
def wLoop (stay : Sto → Prop) (step : D → WS) : List D → WS
  | [], D, ρ, S => stay S ∧ D.nx ρ S
  | x :: r, D, ρ, S => stay S ∧ step x { D with nx := wLoop stay step r D, ct := wLoop stay step r D, bk := D.nx } ρ S
def wFor (wi : WI) (t : Tg) (wb : WS) : WS := fun D ρ S => wi ρ S fun src S1 => wLoop src.stay (fun x D' ρ' S' => tg3 t x ρ' S' fun ρ2 S2 => wb D' ρ2 S2) src.items D ρ S1
theorem wLoop_stay {stay : Sto → Prop} {step : D → WS} {l : List D} {D : E3} {ρ : Env} {S : Sto} (h : wLoop stay step l D ρ S) : stay S := by
  cases l with
  | nil => exact h.1
  | cons x r => exact h.1
section
variable {X : Cx} {tg iter : Expr} {body : List Stmt} {wi : WI} {wb : WS} {pos : Pos} {t : Tg}
theorem qs_for (hp : PassesOwn (model X.prog X.w) X.A X.env X.xe) (hc : X.calm = true) (hi : QI X tg iter wi) (hg : QG X tg t) (hb : QSs X body wb) (hs : ∀ x, foldedSetIterable iter X.env x = pure x := by intro _; rfl) : QS X (.For tg iter body [] pos) (wFor wi t wb) := by
  refine ⟨PS.imp (ps_for hp hc hi.pi hg.pg hb.pss hs) fun D σ H ⟨ρ, μ, S, D3, eo, m, dn, h⟩ => ?_⟩
  refine ⟨ρ, μ, S, _, eo, m, fun src S1 J H1 μ1 q g1 m1 it => ?_, h⟩
  refine ⟨fun i k σ' H' => k = src.items.length - i ∧ i ≤ src.items.length ∧ ∃ ρ' μ' S', Go H1 μ1 H' μ' ∧ EnvOk X.K H' μ' ρ' σ' ∧ Sim X.K H' μ' S' ∧ wLoop src.stay (fun x D' ρ' S' => tg3 t x ρ' S' fun ρ2 S2 => wb D' ρ2 S2) (src.items.drop i) D3 ρ' S', ⟨_, rfl, Nat.zero_le _, ρ, μ1, S1, .refl, eo.go g1 m, m1, q⟩, ?_⟩
  rintro i k σ' H' ⟨rfl, hle, ρ', μ', S', g', e', m', hw⟩
  have st := wLoop_stay hw
  obtain ⟨itm, stp⟩ := it i H' μ' S' g' m' st
  by_cases hlt : i < src.items.length
  · rw [List.drop_eq_getElem_cons hlt] at hw
    obtain ⟨go, yl⟩ := itm _ (List.getElem?_eq_getElem hlt)
    refine .inr ⟨go, fun σ2 H2 => ∃ ρ2 μ2 S2, Go H1 μ1 H2 μ2 ∧ EnvOk X.K H2 μ2 ρ2 σ2 ∧ Sim X.K H2 μ2 S2 ∧ wLoop src.stay (fun x D' ρ' S' => tg3 t x ρ' S' fun ρ2 S2 => wb D' ρ2 S2) (src.items.drop (i + 1)) D3 ρ2 S2, fun σ2 H2 z => ⟨_, by omega, rfl, hlt, z⟩, fun v H2 y => ?_⟩
    obtain ⟨_, g2, m2, r2⟩ := yl v H2 y
    refine tg_ok (vs := t.slots) (e'.go g2 m') r2 (fun _ h => h) hw.2 fun ρ3 σ3 q3 e3 _ => ?_
    refine ⟨ρ3, μ', S', { D3 with nx := wLoop src.stay (fun x D' ρ' S' => tg3 t x ρ' S' fun ρ2 S2 => wb D' ρ2 S2) (src.items.drop (i + 1)) D3, ct := wLoop src.stay (fun x D' ρ' S' => tg3 t x ρ' S' fun ρ2 S2 => wb D' ρ2 S2) (src.items.drop (i + 1)) D3, bk := D3.nx }, e3, m2, ⟨fun ρ4 S4 σ4 H4 μ4 q4 g4 m4 e4 => ⟨ρ4, μ4, S4, (g'.trans g2).trans g4, e4, m4, q4⟩, dn.rt.go ((g1.trans g').trans g2), dn.nx.go ((g1.trans g').trans g2), fun ρ4 S4 σ4 H4 μ4 q4 g4 m4 e4 => ⟨ρ4, μ4, S4, (g'.trans g2).trans g4, e4, m4, q4⟩⟩, q3⟩
  · rw [List.drop_eq_nil_of_le (by omega)] at hw
    exact .inl ⟨stp (by omega), dn.nx ρ' S' σ' H' μ' hw.2 (g1.trans g') m' e'⟩
end
end L3
namespace L3
open PySem PySem.Spec L2
def rngD (lo : Int) : Nat → List D
  | 0 => []
  | n + 1 => .int lo :: rngD (lo + 1) n
theorem rngD_length : ∀ (lo : Int) (n : Nat), (rngD lo n).length = n
  | _, 0 => rfl
  | lo, n + 1 => by unfold rngD; rw [List.length_cons, rngD_length]
theorem rngD_get : ∀ (lo : Int) (n i : Nat), i < n → (rngD lo n)[i]? = some (.int (lo + i))
  | lo, n + 1, 0, _ => by simp [rngD]
  | lo, n + 1, i + 1, h => by
    unfold rngD
    rw [List.getElem?_cons_succ, rngD_get (lo + 1) n i (by omega)]
    congr 2
    push_cast
    omega
def enumD (k : Nat) : List D → List D
  | [] => []
  | x :: r => .tup [.int (k : Nat), x] :: enumD (k + 1) r
theorem enumD_length : ∀ (k : Nat) (xs : List D), (enumD k xs).length = xs.length
  | _, [] => rfl
  | k, x :: r => by unfold enumD; rw [List.length_cons, enumD_length, List.length_cons]
theorem enumD_get : ∀ (k : Nat) (xs : List D) (i : Nat) (x : D), (enumD k xs)[i]? = some x → ∃ y, xs[i]? = some y ∧ x = .tup [.int ((k + i : Nat) : Int), y]
  | _, [], _, _, h => by simp [enumD] at h
  | k, y :: r, 0, x, h => by unfold enumD at h; simp at h; exact ⟨y, rfl, by rw [← h]; rfl⟩
  | k, y :: r, i + 1, x, h => by
    unfold enumD at h
    rw [List.getElem?_cons_succ] at h
    obtain ⟨z, h1, h2⟩ := enumD_get (k + 1) r i x h
    exact ⟨z, by rw [List.getElem?_cons_succ]; exact h1, by rw [h2]; congr 4; omega⟩
def zipD : List D → List D → List D
  | x :: xs, y :: ys => .tup [x, y] :: zipD xs ys
  | _, _ => []
section
variable {K : PySem.W.Frag} {H : Hp} {μ : List Addr} {S : Sto}
def stayOf (d : D) (xs : List D) : Sto → Prop := fun S => itemsAre S d xs
structure LstAt (K : PySem.W.Frag) (H0 : Hp) (μ0 : List Addr) (a : Addr) (xs : List D) (stay : Sto → Prop) : Prop where
  get : ∀ H μ S, Go H0 μ0 H μ → Sim K H μ S → stay S → ∃ vs, SqL K H a vs ∧ Reps K H μ xs vs
structure TupAt (K : PySem.W.Frag) (H0 : Hp) (μ0 : List Addr) (a : Addr) (xs : List D) (stay : Sto → Prop) : Prop where
  get : ∀ H μ S, Go H0 μ0 H μ → Sim K H μ S → stay S → ∃ vs, SqT K H a vs ∧ Reps K H μ xs vs
theorem walked (m : Sim K H μ S) {d : D} {v : V} {xs : List D} (r : Rep K H μ d v) (h : itemsAre S d xs) : ∃ a, v = .ref a ∧ (((∃ vs, SqL K H a vs) ∧ LstAt K H μ a xs (stayOf d xs)) ∨ ((∃ vs, SqT K H a vs) ∧ TupAt K H μ a xs (stayOf d xs))) := by
  cases r with
  | tup h1 r1 => cases h; exact ⟨_, rfl, .inr ⟨⟨_, h1⟩, ⟨fun H' μ' S' g m' _ => ⟨_, SqT.go h1 g m, Reps.go g m r1⟩⟩⟩⟩
  | ro h1 r1 => cases h; exact ⟨_, rfl, .inl ⟨⟨_, h1.sqL⟩, ⟨fun H' μ' S' g m' _ => ⟨_, (SqR.go h1 g m).sqL, Reps.go g m r1⟩⟩⟩⟩
  | ref e =>
    obtain ⟨vs, h1, h2⟩ := m.at h e
    refine ⟨_, rfl, .inl ⟨⟨vs, SqL.of h1⟩, ⟨fun H' μ' S' g m' st => ?_⟩⟩⟩
    obtain ⟨ws, h3, h4⟩ := m'.at (show S'[_]? = some (O.lst xs) from st) (g.get e)
    exact ⟨ws, SqL.of h3, h4⟩
  | _ => exact h.elim
theorem it_list {a : Addr} {xs : List D} {stay : Sto → Prop} (h : LstAt K H μ a xs stay) : ItOk K H μ (Itl K a) ⟨xs, stay⟩ := by
  intro i H' μ' S' g m st
  obtain ⟨vs, hq, rs⟩ := h.get H' μ' S' g m st
  refine ⟨fun x hx => ?_, fun hl => ⟨vs, hq, by rw [← rs.length]; exact hl⟩⟩
  obtain ⟨v, hv, r⟩ := rs.get hx
  refine ⟨⟨vs, v, hq, hv⟩, fun y H2 ⟨e, hy⟩ => ?_⟩
  subst e
  have := hy vs hq
  rw [hv] at this; cases this
  exact ⟨fun _ _ h => h, .refl, m, r⟩
theorem it_tup {a : Addr} {xs : List D} {stay : Sto → Prop} (h : TupAt K H μ a xs stay) : ItOk K H μ (Itt K a) ⟨xs, stay⟩ := by
  intro i H' μ' S' g m st
  obtain ⟨vs, hq, rs⟩ := h.get H' μ' S' g m st
  refine ⟨fun x hx => ?_, fun hl => ⟨vs, hq, by rw [← rs.length]; exact hl⟩⟩
  obtain ⟨v, hv, r⟩ := rs.get hx
  refine ⟨⟨vs, v, hq, hv⟩, fun y H2 ⟨e, hy⟩ => ?_⟩
  subst e
  have := hy vs hq
  rw [hv] at this; cases this
  exact ⟨fun _ _ h => h, .refl, m, r⟩
theorem it_range {lo : Int} {n : Nat} : ItOk K H μ (Itr lo n) ⟨rngD lo n, fun _ => True⟩ := by
  intro i H' μ' S' g m st
  refine ⟨fun x hx => ?_, fun hl => by rw [rngD_length] at hl; exact hl⟩
  have hi : i < n := by
    have := (List.getElem?_eq_some_iff.mp hx).1
    rw [rngD_length] at this; exact this
  have hx : (rngD lo n)[i]? = some x := hx
  rw [rngD_get lo n i hi] at hx
  cases hx
  refine ⟨hi, fun y H2 ⟨e, hy⟩ => ?_⟩
  subst e hy
  exact ⟨fun _ _ h => h, .refl, m, .int _⟩
theorem it_enum {a : Addr} {xs : List D} {stay : Sto → Prop} (h : LstAt K H μ a xs stay) : ItOk K H μ (Ite K a) ⟨enumD 0 xs, stay⟩ := by
  intro i H' μ' S' g m st
  obtain ⟨vs, hq, rs⟩ := h.get H' μ' S' g m st
  refine ⟨fun x hx => ?_, fun hl => ⟨vs, hq, by rw [← rs.length]; rw [enumD_length] at hl; exact hl⟩⟩
  obtain ⟨y, hy, rfl⟩ := enumD_get 0 xs i x hx
  obtain ⟨v, hv, r⟩ := rs.get hy
  refine ⟨⟨vs, v, hq, hv⟩, fun z H2 ⟨T, x, e, hT, e2, hz⟩ => ?_⟩
  subst e e2
  have := hz vs hq
  rw [hv] at this; cases this
  obtain ⟨g2, m2⟩ := m.junk (o := .tup [.int (i : Nat), v]) hT
  refine ⟨fun p o hp => by rw [upd_ne (ne_of_none hp hT)]; exact hp, g2, m2, .tup (SqT.of upd_same) ?_⟩
  rw [Nat.zero_add]
  exact .cons (.int _) (.cons (Rep.go g2 m r) .nil)
end
section
variable {X : Cx} {tg e e2 : Expr} {es : List Expr} {we : W D} {ws : W (List D)} {pos p : Pos}
theorem pi_any {te : TE} (hl : PE X e te) : PI X tg e (fun σ H R => te σ H fun x H1 => ∃ a, x = .ref a ∧ (((∃ xs, SqL X.K H1 a xs) ∧ R (Itl X.K a) H1) ∨ ((∃ xs, SqT X.K H1 a xs) ∧ R (Itt X.K a) H1))) := by
  intro pins s σ H R I h
  refine thn (hl pins s σ H _ I h) fun v s1 ⟨x, H1, I1, r1, q1⟩ => ?_
  obtain ⟨a, e, q⟩ := q1
  subst e
  cases r1
  rcases q with ⟨⟨xs, hq⟩, q⟩ | ⟨⟨xs, hq⟩, q⟩
  · obtain ⟨its, rv, p, hz⟩ := I1.list hq
    refine wpAny_pyIter_list p.isList ?_
    refine ⟨s1.heap.objs.size, [s1.heap.objs.size], _, _, H1, rfl, I1.kept (t' := s1.toks) fun b o e => Heap.get?_push_of_some _ e, turn_list a _, ⟨_, Heap.get?_push_size _ rfl, rfl, rfl⟩, fun b hb => ?_, q⟩
    have e : b = s1.heap.objs.size := by simpa using hb
    subst e
    exact I1.fpOk (Nat.le_refl _) (I1.hok.fresh (Nat.le_refl _))
  · obtain ⟨its, rv, p, hz⟩ := I1.tuple hq
    refine wpAny_pyIter_tuple (show s1.heap.IsTuple a its.toArray from p) ?_
    refine ⟨s1.heap.objs.size, [s1.heap.objs.size], _, _, H1, rfl, I1.kept (t' := s1.toks) fun b o e => Heap.get?_push_of_some _ e, turn_tuple a _, ⟨_, Heap.get?_push_size _ rfl, rfl, rfl⟩, fun b hb => ?_, q⟩
    have e : b = s1.heap.objs.size := by simpa using hb
    subst e
    exact I1.fpOk (Nat.le_refl _) (I1.hok.fresh (Nat.le_refl _))
def wItm (we : W D) : WI := fun ρ S Q => we ρ S fun d S1 => ∃ xs, itemsAre S1 d xs ∧ Q ⟨xs, stayOf d xs⟩ S1
theorem qi_seq (h : QE X e we) : QI X tg e (wItm we) :=
  ⟨PI.imp (pi_any h.pe) fun σ H R ⟨ρ, μ, S, Q3, eo, m, k, h⟩ => ⟨ρ, μ, S, _, eo, m, fun d S1 v H1 μ1 ⟨xs, hi, q⟩ g1 m1 r1 => by
    obtain ⟨a, rfl, z⟩ := walked m1 r1 hi
    refine ⟨a, rfl, ?_⟩
    rcases z with ⟨z1, z2⟩ | ⟨z1, z2⟩
    · exact .inl ⟨z1, k _ S1 _ H1 μ1 q g1 m1 (it_list z2)⟩
    · exact .inr ⟨z1, k _ S1 _ H1 μ1 q g1 m1 (it_tup z2)⟩, h⟩⟩
def wItn (ws : W (List D)) : WI := fun ρ S Q => ws ρ S fun xs S1 => Q ⟨xs, fun _ => True⟩ S1
theorem fresh_at {K : PySem.W.Frag} {H : Hp} {μ : List Addr} {S : Sto} (m : Sim K H μ S) {p : Addr} {xs : List D} {vs : List V} (hp : H p = some (HO.lst vs)) (hpm : p ∉ μ) (r : Reps K H μ xs vs) : LstAt K H μ p xs fun _ => True :=
  ⟨fun H' μ' S' g m' _ => ⟨vs, SqL.of (g.keep _ _ hp hpm rfl), Reps.go g m r⟩⟩
theorem qi_new (h : QL X e ws) : QI X tg e (wItn ws) :=
  ⟨PI.imp (pi_list h.pl) fun σ H R ⟨ρ, μ, S, Q3, eo, m, k, h⟩ => ⟨ρ, μ, S, _, eo, m, fun xs S1 p vs H1 μ1 q g1 m1 h0 hp hpm r1 => ⟨p, rfl, ⟨vs, SqL.of hp⟩, k _ S1 _ H1 μ1 q g1 m1 (it_list (fresh_at m1 hp hpm r1))⟩, h⟩⟩
def rng62 (j : Int) : Prop := -(2 ^ 62) ≤ j ∧ j < 2 ^ 62
def wRng1 (ws : W (List D)) : WI := fun ρ S Q => ws ρ S fun ds S1 => match ds with
  | [.int j] => rng62 j ∧ Q ⟨rngD 0 j.toNat, fun _ => True⟩ S1
  | _ => False
def wRng2 (ws : W (List D)) : WI := fun ρ S Q => ws ρ S fun ds S1 => match ds with
  | [.int i, .int j] => rng62 i ∧ rng62 j ∧ Q ⟨rngD i (j - i).toNat, fun _ => True⟩ S1
  | _ => False
theorem qi_range1 (hm : X.mg "range" = none) (ha : QA X [e] ws) (hg : Gl X "range" := by rfl) (hs : starEach [e] X.env = [(false, eval e X.env)] := by rfl) : QI X tg (.Call (.Name "range" p) [e] [] pos) (wRng1 ws) := by
  refine ⟨PI.imp (pi_range1 hg hm ha.pa hs) fun σ H R ⟨ρ, μ, S, Q3, eo, m, k, h⟩ => ⟨ρ, μ, S, _, eo, m, fun ds S1 vs H1 μ1 q g1 m1 r1 => ?_, h⟩⟩
  split at q
  · cases r1 with
    | cons r1 r2 =>
      cases r2
      cases r1
      exact ⟨_, rfl, q.1.1, q.1.2, k _ S1 _ H1 μ1 q.2 g1 m1 it_range⟩
  · exact q.elim
theorem qi_range2 (hm : X.mg "range" = none) (ha : QA X [e, e2] ws) (hg : Gl X "range" := by rfl) (hs : starEach [e, e2] X.env = [(false, eval e X.env), (false, eval e2 X.env)] := by rfl) (hs2 : starEach [e2] X.env = [(false, eval e2 X.env)] := by rfl) :
    QI X tg (.Call (.Name "range" p) [e, e2] [] pos) (wRng2 ws) := by
  refine ⟨PI.imp (pi_range2 hg hm ha.pa hs hs2) fun σ H R ⟨ρ, μ, S, Q3, eo, m, k, h⟩ => ⟨ρ, μ, S, _, eo, m, fun ds S1 vs H1 μ1 q g1 m1 r1 => ?_, h⟩⟩
  split at q
  · cases r1 with
    | cons r1 r2 =>
      cases r2 with
      | cons r2 r3 =>
        cases r3
        cases r1; cases r2
        exact ⟨_, _, rfl, ⟨q.1.1, q.1.2, q.2.1.1, q.2.1.2⟩, k _ S1 _ H1 μ1 q.2.2 g1 m1 it_range⟩
  · exact q.elim
def lstAre (S : Sto) : D → List D → Prop
  | .ro xs, ys => xs = ys
  | .ref n, ys => S[n]? = some (O.lst ys)
  | _, _ => False
theorem walkedL {K : PySem.W.Frag} {H : Hp} {μ : List Addr} {S : Sto} (m : Sim K H μ S) {d : D} {v : V} {xs : List D} (r : Rep K H μ d v) (h : lstAre S d xs) : ∃ a vs, v = .ref a ∧ SqL K H a vs ∧ LstAt K H μ a xs (fun S' => lstAre S' d xs) := by
  cases r with
  | ro h1 r1 => cases h; exact ⟨_, _, rfl, h1.sqL, ⟨fun H' μ' S' g m' _ => ⟨_, (SqR.go h1 g m).sqL, Reps.go g m r1⟩⟩⟩
  | ref e =>
    obtain ⟨vs, h1, h2⟩ := m.at h e
    refine ⟨_, vs, rfl, SqL.of h1, ⟨fun H' μ' S' g m' st => ?_⟩⟩
    obtain ⟨ws, h3, h4⟩ := m'.at (show S'[_]? = some (O.lst xs) from st) (g.get e)
    exact ⟨ws, SqL.of h3, h4⟩
  | _ => exact h.elim
def wEnum (ws : W (List D)) : WI := fun ρ S Q => ws ρ S fun ds S1 => match ds with
  | [d] => ∃ xs, lstAre S1 d xs ∧ Q ⟨enumD 0 xs, fun S' => lstAre S' d xs⟩ S1
  | _ => False
theorem qi_enum {tpos : Pos} {elts : List Expr} {kk : Nat} (hm : X.mg "enumerate" = none) (ha : QA X [e] ws) (hg : Gl X "enumerate" := by rfl) (hs : starEach [e] X.env = [(false, eval e X.env)] := by rfl) : QI X (.Tuple elts kk tpos) (.Call (.Name "enumerate" p) [e] [] pos) (wEnum ws) := by
  refine ⟨PI.imp (pi_enum hg hm ha.pa hs) fun σ H R ⟨ρ, μ, S, Q3, eo, m, k, h⟩ => ⟨ρ, μ, S, _, eo, m, fun ds S1 vs H1 μ1 q g1 m1 r1 => ?_, h⟩⟩
  split at q
  · cases r1 with
    | cons r1 r2 =>
      cases r2
      obtain ⟨xs, hx, q⟩ := q
      obtain ⟨a, us, rfl, h1, h2⟩ := walkedL m1 r1 hx
      exact ⟨a, us, rfl, h1, k _ S1 _ H1 μ1 q g1 m1 (it_enum h2)⟩
  · exact q.elim
def wZip (ws : W (List D)) : WI := fun ρ S Q => ws ρ S fun ds S1 => match ds with
  | [d, d'] => ∃ xs ys, lstAre S1 d xs ∧ lstAre S1 d' ys ∧ Q ⟨zipD xs ys, fun S' => lstAre S' d xs ∧ lstAre S' d' ys⟩ S1
  | _ => False
end
def wipe3 (ρ : Env) : List Nat → Env
  | [] => ρ
  | v :: vs => (wipe3 ρ vs).set v none
theorem EnvOk.wipe {K : PySem.W.Frag} {H : Hp} {μ : List Addr} {ρ : Env} {σ : L2.St} (e : EnvOk K H μ ρ σ) : ∀ vs : List Nat, EnvOk K H μ (wipe3 ρ vs) (L2.wipe σ vs)
  | [] => e
  | v :: vs => by
    have ih := EnvOk.wipe e vs
    unfold wipe3 L2.wipe
    refine ⟨by rw [List.length_set, List.length_set]; exact ih.len, fun i d h => ?_⟩
    by_cases z : v = i
    · subst z
      rw [List.getElem?_set] at h
      simp only [if_true] at h
      split at h <;> cases h
    · rw [List.getElem?_set_ne z] at h ⊢
      exact ih.get i d h
structure QTs (X : Cx) (ifs : List Expr) (w : W Bool) : Prop where
  pts : PTs X ifs (liftT X.K w)
def wYes : W Bool := fun _ S Q => Q true S
theorem PTs.imp {X : Cx} {ifs : List Expr} {t t' : TT} (h : PTs X ifs t) (k : ∀ σ H Q, t' σ H Q → t σ H Q) : PTs X ifs t' := fun pins s σ H Q I q => h pins s σ H Q I (k σ H Q q)
theorem qts_nil {X : Cx} : QTs X [] wYes := ⟨PTs.imp pts_nil fun σ H Q ⟨ρ, μ, S, Q3, eo, m, k, h⟩ => k true S H μ h .refl m⟩
theorem qts_one {X : Cx} {c : Expr} {w : W Bool} (h : QT X c w) : QTs X [c] w := ⟨pts_one h.pt⟩
def wComp (stay : Sto → Prop) (step : D → Sto → (Option D → Sto → Prop) → Prop) : List D → List D → Sto → (List D → Sto → Prop) → Prop
  | [], acc, S, Q => stay S ∧ Q acc S
  | x :: r, acc, S, Q => stay S ∧ small acc.length ∧ step x S fun o S1 => wComp stay step r (acc ++ o.toList) S1 Q
def stepLc (t : Tg) (wt : W Bool) (we : W D) (ρ : Env) : D → Sto → (Option D → Sto → Prop) → Prop := fun x S R =>
  tg3 t x ρ S fun ρ2 S2 => wt ρ2 S2 fun b S3 => if b = true then we ρ2 S3 fun d S4 => R (some d) S4 else R none S3
def wLc (wi : WI) (t : Tg) (wt : W Bool) (we : W D) (vs : List Nat) : W (List D) := fun ρ S Q => wi ρ S fun src S1 => wComp src.stay (stepLc t wt we (wipe3 ρ vs)) src.items [] S1 Q
theorem wComp_stay {stay : Sto → Prop} {step : D → Sto → (Option D → Sto → Prop) → Prop} {l acc : List D} {S : Sto} {Q : List D → Sto → Prop} (h : wComp stay step l acc S Q) : stay S := by
  cases l with
  | nil => exact h.1
  | cons x r => exact h.1
theorem lc_ok {K : PySem.W.Frag} {wi : WI} {t : Tg} {wt : W Bool} {we : W D} {vs : List Nat} (hv : ∀ i ∈ t.slots, i ∈ vs) : ∀ σ H Q, liftL K (wLc wi t wt we vs) σ H Q → tLc (liftI K wi) (tgL K t) (liftT K wt) (liftE K we) vs σ H Q := by
  intro σ H Q ⟨ρ, μ, S, Q3, eo, m, k, h⟩
  refine ⟨ρ, μ, S, _, eo, m, fun src S1 J H1 μ1 q g1 m1 it => fun Dd hD => ?_, h⟩
  have gD : Go H1 μ1 (upd H1 Dd (.lst [])) μ1 := (m1.junk hD).1
  refine ⟨fun i kk H' => kk = src.items.length - i ∧ i ≤ src.items.length ∧ ∃ acc accv μ' S', Go H1 μ1 H' μ' ∧ Sim K H' μ' S' ∧ Dd ∉ μ' ∧ H' Dd = some (HO.lst accv) ∧ Reps K H' μ' acc accv ∧ wComp src.stay (stepLc t wt we (wipe3 ρ vs)) (src.items.drop i) acc S' Q3,
    ⟨_, rfl, Nat.zero_le _, [], [], μ1, S1, gD, (m1.junk hD).2, fun z => m1.non _ z hD, upd_same, .nil, q⟩, ?_⟩
  rintro i kk H' ⟨rfl, hle, acc, accv, μ', S', g', m', nD, eD, ra, hw⟩
  have st := wComp_stay hw
  obtain ⟨itm, stp⟩ := it i H' μ' S' g' m' st
  by_cases hlt : i < src.items.length
  · rw [List.drop_eq_getElem_cons hlt] at hw
    obtain ⟨go, yl⟩ := itm _ (List.getElem?_eq_getElem hlt)
    obtain ⟨_, hsm, hw⟩ := hw
    refine .inr ⟨go, fun H2 => ∃ acc accv μ' S', Go H1 μ1 H2 μ' ∧ Sim K H2 μ' S' ∧ Dd ∉ μ' ∧ H2 Dd = some (HO.lst accv) ∧ Reps K H2 μ' acc accv ∧ wComp src.stay (stepLc t wt we (wipe3 ρ vs)) (src.items.drop (i + 1)) acc S' Q3, fun H2 z => ⟨_, by omega, rfl, hlt, z⟩, fun v H2 y => ?_⟩
    obtain ⟨kp, g2, m2, r2⟩ := yl v H2 y
    have e2 : EnvOk K H2 μ' (wipe3 ρ vs) (L2.wipe σ vs) := ((((eo.go g1 m).go g' m1).go g2 m').wipe vs)
    have eD2 : H2 Dd = some (HO.lst accv) := kp _ _ eD
    have ra2 : Reps K H2 μ' acc accv := Reps.go g2 m' ra
    refine tg_ok (vs := vs) e2 r2 hv hw fun ρ3 σ3 q3 e3 o3 => ⟨o3.wipe, ?_⟩
    -- what a turn leaves
    have away : ∀ {H4 μ4}, Go H2 μ' H4 μ4 → Dd ∉ μ4 ∧ H4 Dd = some (HO.lst accv) := fun {H4 μ4} g => ⟨fun z => (by have q := g.new _ z nD; rw [eD2] at q; cases q), g.keep _ _ eD2 nD rfl⟩
    refine ⟨ρ3, μ', S', _, e3, m2, fun b S3 H3 μ3 q4 g3 m3 => ?_, q3⟩
    cases b with
    | false =>
      have q4 : wComp _ _ _ (acc ++ []) S3 Q3 := q4
      rw [List.append_nil] at q4
      exact iteF ⟨acc, accv, μ3, S3, (g'.trans g2).trans g3, m3, (away g3).1, (away g3).2, Reps.go g3 m2 ra2, q4⟩
    | true =>
      refine iteT ⟨ρ3, μ3, S3, _, e3.go g3 m2, m3, fun d S4 v4 H4 μ4 q5 g4 m4 r4 => ?_, q4⟩
      obtain ⟨n4, e4⟩ := away (g3.trans g4)
      refine ⟨accv, e4, by rw [← ra.length]; exact small_line hsm, acc ++ [d], accv ++ [v4], μ4, S4, ((((g'.trans g2).trans g3).trans g4).side hD), m4.side e4 n4, n4, upd_same, ?_, q5⟩
      exact ((Reps.go (g3.trans g4) m2 ra2).append (.cons r4 .nil)).side e4
  · rw [List.drop_eq_nil_of_le (by omega)] at hw
    exact .inl ⟨stp (by omega), k acc S' Dd accv H' μ' hw.2 (g1.trans g') m' (g1.back m1 hD) eD nD ra⟩
section
variable {X : Cx} {elt tg iter : Expr} {ifs : List Expr} {scope : Scope} {own : List (Str × Nat)} {pos : Pos} {wi : WI} {t : Tg} {wt : W Bool} {we : W D}
theorem ql_lc (hc : X.calm = true) (hN : X.N.Nodup) (hi : QI X tg iter wi) (ok : BlkOk X.N X.env.scope scope own)
    (hg : ∀ (s : Shared) (H : Hp) (C : Addr) (cl : List (Str × Addr)) (fp : List Addr), QG (X.blk s H scope (compEnvC scope cl C X.env) fp) tg t) (ht : ∀ (s : Shared) (H : Hp) (C : Addr) (cl : List (Str × Addr)) (fp : List Addr), QTs (X.blk s H scope (compEnvC scope cl C X.env) fp) ifs wt)
    (he : ∀ (s : Shared) (H : Hp) (C : Addr) (cl : List (Str × Addr)) (fp : List Addr), QE (X.blk s H scope (compEnvC scope cl C X.env) fp) elt we) (hv : ∀ i ∈ t.slots, i ∈ own.map (·.2) := by decide) (hs : ∀ x, foldedSetIterable iter X.env x = pure x := by intro _; rfl) :
    QL X (.ListComp elt [⟨tg, iter, ifs, 0⟩] scope pos) (wLc wi t wt we (own.map (·.2))) :=
  ⟨PE.imp (pe_lc (g := tgL X.K t) (tt := liftT X.K wt) (te := liftE X.K we) hc hN hi.pi ok (fun s H C cl fp => (hg s H C cl fp).pg) (fun s H C cl fp => (ht s H C cl fp).pts) (fun s H C cl fp => (he s H C cl fp).pe) hs) (lc_ok hv)⟩
end
end L3
namespace L3
open PySem PySem.Spec L2
def pIx : P2 := fun a b S Q => match b with
  | .int i => ∃ xs x, itemsAre S a xs ∧ atI xs i = some x ∧ Q x S
  | _ => False
section
variable {K : PySem.W.Frag} {H : Hp} {μ : List Addr} {S : Sto}
theorem Reps.atI {ds : List D} {vs : List V} {i : Int} {x : D} (r : Reps K H μ ds vs) (h : L2.atI ds i = some x) : ∃ v, L2.atI vs i = some v ∧ Rep K H μ x v := by
  unfold L2.atI at h ⊢
  rw [← r.length]
  cases e : ixN ds.length i with
  | none => rw [e] at h; cases h
  | some j =>
    rw [e] at h
    exact r.get (i := j) h
theorem ref_Ix : Ref2 K (fun x y H Q => rIxL K x y H Q ∨ rIxT K x y H Q) pIx := by
  intro d1 d2 S Q3 v1 v2 H μ Q m r1 r2 k q
  unfold pIx at q
  split at q
  · obtain ⟨xs, x, h1, h2, q⟩ := q
    cases r2
    obtain ⟨a, vs, rfl, hq, rs⟩ := items_rep m r1 h1
    obtain ⟨v, h3, r⟩ := rs.atI h2
    rcases hq with hq | hq
    · exact .inl ⟨a, vs, _, v, rfl, rfl, hq, h3, k _ S _ H μ q .refl m r⟩
    · exact .inr ⟨a, vs, _, v, rfl, rfl, hq, h3, k _ S _ H μ q .refl m r⟩
  · exact q.elim
end
section
variable {X : Cx} {a b e : Expr} {es : List Expr} {wa wb we wo : W D} {ws : W (List D)} {pos p : Pos}
theorem qe_ix (ha : QE X a wa) (hb : QE X b wb) (hs : PlainIx b := by intro _ _; rfl) : QE X (.Subscript a b pos) (wOp pIx wa wb) := ⟨PE.imp (pe_ix (ix_list.or ix_tup) ha.pe hb.pe hs) (op2 ref_Ix)⟩
def liftO (K : PySem.W.Frag) (w : W (Option Int)) : TO := fun σ H Q => ∃ ρ μ S Q3, EnvOk K H μ ρ σ ∧ Sim K H μ S ∧ (∀ o S' H' μ', Q3 o S' → Go H μ H' μ' → Sim K H' μ' S' → Q o H') ∧ w ρ S Q3
structure QO (X : Cx) (e : Option Expr) (w : W (Option Int)) : Prop where
  po : PO X e (liftO X.K w)
theorem PO.imp {X : Cx} {e : Option Expr} {t t' : TO} (h : PO X e t) (k : ∀ σ H Q, t' σ H Q → t σ H Q) : PO X e t' := by
  intro pins s σ H Q I q
  exact h pins s σ H Q I (k σ H Q q)
def wNoP : W (Option Int) := fun _ S Q => Q none S
def wP (we : W D) : W (Option Int) := fun ρ S Q => we ρ S fun d S1 => match d with | .int i => Q (some i) S1 | _ => False
def cutD (xs : List D) (lo hi : Option Int) : List D := (xs.drop (HT.sIx xs.length 0 lo)).take (HT.sIx xs.length xs.length hi - HT.sIx xs.length 0 lo)
theorem Reps.cut {K : PySem.W.Frag} {H : Hp} {μ : List Addr} {ds : List D} {vs : List V} (r : Reps K H μ ds vs) (lo hi : Option Int) : Reps K H μ (cutD ds lo hi) (cutV vs lo hi) := by
  unfold cutD cutV
  rw [← r.length]
  exact (r.drop _).take _
def wSlL (we : W D) (wl wh : W (Option Int)) : W (List D) := fun ρ S Q => we ρ S fun d S1 => wl ρ S1 fun lo S2 => wh ρ S2 fun hi S3 => ∃ xs, lstAre S3 d xs ∧ Q (cutD xs lo hi) S3
def pLen : PN := fun ds S Q => match ds with
  | [.str x] => x.length ≤ sizeLine ∧ Q (.int x.length) S
  | [d] => ∃ xs, itemsAre S d xs ∧ Q (.int xs.length) S
  | _ => False
theorem ref_len {K : PySem.W.Frag} : RefN K (fun xs H Q => (∃ p ys, xs = [.ref p] ∧ (SqL K H p ys ∨ SqT K H p ys) ∧ Q (.int ys.length) H) ∨ (∃ z, xs = [.str z] ∧ z.length ≤ sizeLine ∧ Q (.int z.length) H)) pLen := by
  intro ds S Q3 vs H μ Q m r k q
  unfold pLen at q
  split at q
  · cases r with | cons r t => cases t; cases r; exact .inr ⟨_, rfl, q.1, k _ S _ H μ q.2 .refl m (.int _)⟩
  · cases r with
    | cons r t =>
      cases t
      obtain ⟨xs, hx, q⟩ := q
      obtain ⟨a, us, rfl, hq, rs⟩ := items_rep m r hx
      exact .inl ⟨a, us, rfl, hq, k _ S _ H μ q .refl m (by rw [rs.length]; exact .int _)⟩
  · exact q.elim
theorem qe_len (hm : X.mg "len" = none) (ha : QA X [e] ws) (hg : Gl X "len" := by rfl) (hs : starEach [e] X.env = (false, eval e X.env) :: starEach [] X.env := by rfl) : QE X (.Call (.Name "len" p) [e] [] pos) (wCall pLen ws) :=
  qe_callB (call_len_seq.or call_len_str) ref_len hm ha hg (by decide +kernel) (by decide) (by decide) hs (by rfl)
def pTuple : PN := fun ds S Q => match ds with
  | [d] => ∃ xs, itemsAre S d xs ∧ Q (.tup xs) S
  | _ => False
def RefL (K : PySem.W.Frag) (r : List V → Hp → VK → Prop) (f : PN) : Prop := ∀ ds S Q3 p vs H μ Q, Sim K H μ S → H p = some (HO.lst vs) → p ∉ μ → Reps K H μ ds vs → Kn K H μ Q3 Q → f ds S Q3 → r [.ref p] H Q
theorem callL {r : List V → Hp → VK → Prop} {f : PN} (R : RefL X.K r f) : ∀ σ H Q, liftE X.K (wCall f ws) σ H Q → tCB r (tCons (liftL X.K ws) tNil) σ H Q := fun σ H Q ⟨ρ, μ, S, Q3, eo, m, k, h⟩ =>
  ⟨ρ, μ, S, _, eo, m, fun ds S1 p vs H1 μ1 q g1 m1 h0 hp hpm r1 => R ds S1 Q3 p vs H1 μ1 Q m1 hp hpm r1 (k.go g1) q, h⟩
def pTupL : PN := fun ds S Q => Q (.tup ds) S
def pAllL : PN := fun ds S Q => ∃ bs : List Bool, ds = bs.map D.bl ∧ Q (.bl (bs.all id)) S
theorem ref_allL {K : PySem.W.Frag} : RefL K (rAll K) pAllL := by
  intro ds S Q3 p vs H μ Q m hp hpm r k ⟨bs, e, q⟩
  subst e
  have := r.bls
  subst this
  exact ⟨p, bs, rfl, SqL.of hp, k _ S _ H μ q .refl m (.bl _)⟩
theorem qe_allL (hc : X.calm = true) (hm : X.mg "all" = none) (ha : QL X e ws) (hg : Gl X "all" := by rfl) (hs : starEach [e] X.env = (false, eval e X.env) :: starEach [] X.env := by rfl) : QE X (.Call (.Name "all" p) [e] [] pos) (wCall pAllL ws) :=
  ⟨PE.imp (pe_callB (cr_all hc) hg hm (by decide +kernel) (pa_cons ha.pl pa_nil hs) (by decide) (by decide) hs (by rfl)) (callL ref_allL)⟩
def pAnyL : PN := fun ds S Q => ∃ bs : List Bool, ds = bs.map D.bl ∧ Q (.bl (bs.any id)) S
def pMin2 : PN := fun ds S Q => match ds with
  | [.int i, .int j] => Q (.int (if j < i then j else i)) S
  | _ => False
def pMax2 : PN := fun ds S Q => match ds with
  | [.int i, .int j] => Q (.int (if j > i then j else i)) S
  | _ => False
def wListOf (we : W D) : W (List D) := fun ρ S Q => we ρ S fun d S1 => ∃ xs, itemsAre S1 d xs ∧ Q xs S1
theorem ql_list (hm : X.mg "list" = none) (ha : QE X e we) (hg : Gl X "list" := by rfl) (hs : starEach [e] X.env = (false, eval e X.env) :: starEach [] X.env := by rfl) : QL X (.Call (.Name "list" p) [e] [] pos) (wListOf we) := by
  refine ⟨PE.imp (pe_callTy call_list_of hg hm (by decide +kernel) (pa_cons ha.pe pa_nil hs) (by decide) (by decide) hs (by rfl)) fun σ H Q ⟨ρ, μ, S, Q3, eo, m, k, h⟩ => ?_⟩
  refine ⟨ρ, μ, S, _, eo, m, fun d S1 v H1 μ1 ⟨xs, hx, q⟩ g1 m1 r1 => ?_, h⟩
  obtain ⟨a, us, rfl, hq, rs⟩ := items_rep m1 r1 hx
  refine ⟨a, us, rfl, hq, fun l hl => ?_⟩
  obtain ⟨g2, m2⟩ := m1.junk (o := .lst us) hl
  exact k xs S1 l us _ μ1 q (g1.trans g2) m2 (g1.back m1 hl) upd_same (fun z => m1.non l z hl) (Reps.go g2 m1 rs)
def isLst (S : Sto) : D → Prop
  | .ref n => ∃ xs, S[n]? = some (O.lst xs)
  | _ => False
abbrev PM := D → List D → Sto → (D → Sto → Prop) → Prop
def wMeth (f : PM) (wo : W D) (ws : W (List D)) : W D := fun ρ S Q => wo ρ S fun o S1 => isLst S1 o ∧ ws ρ S1 fun ds S2 => f o ds S2 Q
def RefM (K : PySem.W.Frag) (r : V → List V → Hp → VK → Prop) (f : PM) : Prop := ∀ d ds S Q3 v vs H μ Q, Sim K H μ S → Rep K H μ d v → Reps K H μ ds vs → Kn K H μ Q3 Q → f d ds S Q3 → r v vs H Q
theorem isLst_ty {K : PySem.W.Frag} {H : Hp} {μ : List Addr} {S : Sto} (m : Sim K H μ S) {d : D} {v : V} (r : Rep K H μ d v) (h : isLst S d) : tyV K "list" v H := by
  cases r with
  | ref e =>
    obtain ⟨xs, h⟩ := h
    obtain ⟨vs, h1, _⟩ := m.at h e
    exact .inl ⟨rfl, vs, SqL.of h1⟩
  | _ => exact h.elim
theorem methN {r : V → List V → Hp → VK → Prop} {f : PM} (R : RefM X.K r f) : ∀ σ H Q, liftE X.K (wMeth f wo ws) σ H Q → tBM X.K "list" r (liftE X.K wo) (liftA X.K ws) σ H Q := fun σ H Q ⟨ρ, μ, S, Q3, eo, m, k, h⟩ =>
  ⟨ρ, μ, S, _, eo, m, fun d S1 v H1 μ1 ⟨il, q⟩ g1 m1 r1 => ⟨isLst_ty m1 r1 il, ρ, μ1, S1, _, eo.go g1 m, m1, fun ds S2 vs H2 μ2 q2 g2 m2 r2 => R d ds S2 Q3 v vs H2 μ2 Q m2 (Rep.go g2 m1 r1) r2 (k.go (g1.trans g2)) q2, q⟩, h⟩
theorem meth0 {r : V → List V → Hp → VK → Prop} {f : PM} (R : RefM X.K r f) : ∀ σ H Q, liftE X.K (wMeth f wo wNil) σ H Q → tBM0 X.K "list" r (liftE X.K wo) σ H Q := fun σ H Q ⟨ρ, μ, S, Q3, eo, m, k, h⟩ =>
  ⟨ρ, μ, S, _, eo, m, fun d S1 v H1 μ1 ⟨il, q⟩ g1 m1 r1 => ⟨isLst_ty m1 r1 il, R d [] S1 Q3 v [] H1 μ1 Q m1 r1 .nil (k.go g1) q⟩, h⟩
def pAppend : PM := fun o ds S Q => match o, ds with
  | .ref n, [d] => ∃ xs, S[n]? = some (O.lst xs) ∧ small xs.length ∧ Q .non (S.set n (O.lst (xs ++ [d])))
  | _, _ => False
theorem ref_append {K : PySem.W.Frag} : RefM K rAppend pAppend := by
  intro d ds S Q3 v vs H μ Q m r rs k q
  unfold pAppend at q
  split at q
  · obtain ⟨xs, h1, z, q⟩ := q
    cases r with
    | ref e =>
      cases rs with
      | cons r1 t =>
        cases t
        obtain ⟨us, h2, h3⟩ := m.at h1 e
        obtain ⟨g4, m4⟩ := m.write h1 e (h3.append (.cons r1 .nil))
        exact ⟨_, us, _, rfl, rfl, h2, by rw [← h3.length]; exact small_line z, k _ _ _ _ μ q g4 m4 .non⟩
  · exact q.elim
def pExtend : PM := fun o ds S Q => match o, ds with
  | .ref n, [.ref j] => ∃ xs ys, S[n]? = some (O.lst xs) ∧ S[j]? = some (O.lst ys) ∧ small (xs.length + ys.length) ∧ Q .non (S.set n (O.lst (xs ++ ys)))
  | _, _ => False
def pReverse : PM := fun o ds S Q => match o, ds with
  | .ref n, [] => ∃ xs, S[n]? = some (O.lst xs) ∧ Q .non (S.set n (O.lst xs.reverse))
  | _, _ => False
theorem ref_reverse {K : PySem.W.Frag} : RefM K rReverse pReverse := by
  intro d ds S Q3 v vs H μ Q m r rs k q
  unfold pReverse at q
  split at q
  · obtain ⟨xs, h1, q⟩ := q
    cases r with
    | ref e =>
      cases rs
      obtain ⟨us, h2, h3⟩ := m.at h1 e
      obtain ⟨g4, m4⟩ := m.write h1 e h3.reverse
      exact ⟨_, us, rfl, rfl, h2, k _ _ _ _ μ q g4 m4 .non⟩
  · exact q.elim
variable {o : Expr} {apos : Pos}
theorem qe_append (ho : QE X o wo) (ha : QA X [e] ws) (hbase : attributeBase o "append" X.env (eval o X.env) = eval o X.env := by rfl)
    (hfew : ((backTo pos (starEach [e] X.env)).all (fun x => !x.1) && (backToKw pos (keywordEach [] X.env)).all (fun x => x.1.isSome) && decide ([e].length + ([] : List Keyword).length + (if ([] : List Keyword).isEmpty then 0 else 1) < 30)) = true := by rfl)
    (hline : (apos.endLine == pos.line) = true := by rfl) (hs : starEach [e] X.env = (false, eval e X.env) :: starEach [] X.env := by rfl) (hplain : (backTo pos (starEach [] X.env)).any (·.1) = false := by rfl) :
    QE X (.Call (.Attribute o "append" apos) [e] [] pos) (wMeth pAppend wo ws) := ⟨PE.imp (pe_bm PySem.F.plainAttrs_list PySem.F.slot_list_append PySem.F.type_list_append mt_append ho.pe ha.pa hbase hfew hline hs hplain) (methN ref_append)⟩
theorem qe_reverse (ho : QE X o wo) (hbase : attributeBase o "reverse" X.env (eval o X.env) = eval o X.env := by rfl) (hline : (apos.endLine == pos.line) = true := by rfl) :
    QE X (.Call (.Attribute o "reverse" apos) [] [] pos) (wMeth pReverse wo wNil) := ⟨PE.imp (pe_bm0 PySem.F.plainAttrs_list PySem.F.slot_list_reverse PySem.F.type_list_reverse mt_reverse ho.pe hbase hline) (meth0 ref_reverse)⟩
end
def liftSp (K : PySem.W.Frag) (sp : PN) : Sp := fun vs H Q _ => ∃ ds μ S Q3, Reps K H μ ds vs ∧ Sim K H μ S ∧ Kn K H μ Q3 Q ∧ sp ds S Q3
structure Fn3 (P : Program) (w : World) (K : PySem.W.Frag) (mg : Str → Option Value) (base : Heap) (k : Nat) (x : Str) (sp : PN) : Prop where
  ex : ∃ f fd ps, FnOk P w K mg base CX0 k f fd ps (liftSp K sp) ∧ mg x = some (.ref f) ∧ PySem.W.keepIn K (.ref f) = true ∧ Binds K fd ps []
theorem Fn3.mono {P : Program} {w : World} {K : PySem.W.Frag} {mg : Str → Option Value} {base : Heap} {j k : Nat} {x : Str} {sp : PN} (F : Fn3 P w K mg base j x sp) (h : j ≤ k) : Fn3 P w K mg base k x sp :=
  let ⟨f, fd, ps, a, b⟩ := F.ex; ⟨f, fd, ps, a.mono h, b⟩
theorem Fn3.imp {P : Program} {w : World} {K : PySem.W.Frag} {mg : Str → Option Value} {base : Heap} {k : Nat} {x : Str} {sp sp' : PN} (F : Fn3 P w K mg base k x sp) (h : ∀ ds S Q, sp' ds S Q → sp ds S Q) : Fn3 P w K mg base k x sp' :=
  let ⟨f, fd, ps, a, b⟩ := F.ex; ⟨f, fd, ps, a.imp fun vs H Q E ⟨ds, μ, S, Q3, h1, h2, h3, h4⟩ => ⟨ds, μ, S, Q3, h1, h2, h3, h ds S Q3 h4⟩, b⟩
section
variable {X : Cx} {e : Expr} {es : List Expr} {ws : W (List D)} {pos p : Pos} {x : Str} {k : Nat} {sp : PN}
theorem qe_call (F : Fn3 X.prog X.w X.K X.mg X.base k x sp) (hr : Room k X.A) (ha : QA X (e :: es) ws) (hg : Gl X x := by rfl) (hdb : (x == ("__debug__" : Str)) = false := by decide) (hs : starEach (e :: es) X.env = (false, eval e X.env) :: starEach es X.env := by rfl)
    (hpl : (backTo pos (starEach es X.env)).any (·.1) = false := by rfl) : QE X (.Call (.Name x p) (e :: es) [] pos) (wCall sp ws) := by
  obtain ⟨f, fd, ps, h1, h2, h3, h4⟩ := F.ex
  refine ⟨PE.imp (pe_call h1 hr hg h2 h3 h4 .nil pass0 ha.pa hdb hs hpl) fun σ H Q ⟨ρ, μ, S, Q3, eo, m, k, h⟩ => ?_⟩
  refine ⟨ρ, μ, S, _, eo, m, fun ds S1 vs H1 μ1 q g1 m1 r1 => ?_, h⟩
  show liftSp X.K sp (vs ++ []) H1 Q E0
  rw [List.append_nil]
  exact ⟨ds, μ1, S1, Q3, r1, m1, k.go g1, q⟩
end
def start3 (N : List Str) (ds : List D) : Env := ds.map some ++ List.replicate (N.length - ds.length) none
section
variable {P : Program} {w : World} {K : PySem.W.Frag} {mg : Str → Option Value} {base : Heap}
theorem start_ok {H : Hp} {μ : List Addr} {N : List Str} : ∀ {ds : List D} {vs : List V}, Reps K H μ ds vs → EnvOk K H μ (start3 N ds) (L2.start N vs) := by
  intro ds vs r
  have hl := r.length
  refine ⟨by unfold start3 L2.start; simp [hl], fun i d h => ?_⟩
  unfold start3 at h
  unfold L2.start
  by_cases hi : i < ds.length
  · rw [List.getElem?_append_left (by simpa using hi), List.getElem?_map] at h
    cases e : ds[i]? with
    | none => rw [e] at h; cases h
    | some d' =>
      rw [e] at h
      have h' : some (some d') = some (some d) := h
      cases h'
      obtain ⟨v, h1, h2⟩ := r.get e
      exact ⟨v, by rw [List.getElem?_append_left (by simp; omega), List.getElem?_map, h1]; rfl, h2⟩
  · rw [List.getElem?_append_right (by simpa using hi), List.getElem?_replicate] at h
    split at h <;> cases h
theorem fn3 {x qual : Str} {st : Stmt} {f : Addr} {fd : FuncData} {N ps : List Str} {k : Nat} {sp : PN} {wb : WS} (F : Fun K x qual st f fd) (Sc : FnScope N ps (defScope st)) (hm : mg x = some (.ref f)) (hb : Binds K fd ps [])
    (body : ∀ (cdv : Value) (A : Around) (outer : List PySem.Env) (s : Shared) (H : Hp) (E : XK), Room k (A.deeper (PyProof.Rows.envOfC qual (defScope st) s.heap.objs.size f cdv)) → QSs (cxOf CX0 P w K mg base N qual (defScope st) f cdv A outer s H E).nox (defBody st) wb)
    (len : ∀ ds S Q, sp ds S Q → ds.length = ps.length) (math : ∀ ds S Q, sp ds S Q → wb { nx := fun _ S' => Q .non S', rt := Q } (start3 N ds) S) : Fn3 P w K mg base (k + 1) x sp := by
  refine ⟨f, fd, ps, F.ok Sc (fun vs H Q E ⟨ds, μ, S, Q3, h1, h2, h3, h4⟩ => by rw [← h1.length]; exact len ds S Q3 h4) (fun cdv A outer s H vs Q E hr ⟨ds, μ, S, Q3, h1, h2, h3, h4⟩ => ?_), hm, F.kp, hb⟩
  refine ⟨_, (body cdv A outer s H E hr).pss, start3 N ds, μ, S, { nx := fun _ S' => Q3 .non S', rt := Q3 }, start_ok h1, h2, ⟨fun ρ' S' σ' H' μ' q g m e => h3 .non S' .non H' μ' q g m .non, h3, fun ρ' S' σ' H' μ' q g m e => q.elim, fun ρ' S' σ' H' μ' q g m e => q.elim⟩, math ds S Q3 h4⟩
end
end L3
namespace L3
open PySem PySem.Spec PyProof.Rows L2
def rCat0 (K : PySem.W.Frag) : R2 := fun x y H Q => ∃ a b ys, x = .ref a ∧ y = .ref b ∧ SqT K H a [] ∧ SqT K H b ys ∧ Q (.ref b) H
theorem op_cat0 {X : Cx} : OpR X (binaryOp .Add) (rCat0 X.K) := by
  intro pins s σ H x y v u Q I rx ry h
  obtain ⟨a, b, ys, rfl, rfl, h1, h2, q⟩ := h
  cases rx; cases ry
  obtain ⟨i1, v1, p1, z1⟩ := I.tuple h1
  obtain ⟨i2, v2, p2, z2⟩ := I.tuple h2
  have e1 : i1 = [] := by cases v1; rfl
  subst e1
  obtain ⟨⟨cls, dd, data, sl⟩, ho, hc, n, hd⟩ := id p1
  obtain ⟨⟨cls2, dd2, data2, sl2⟩, ho2, hc2, n2, hd2⟩ := id p2
  simp only at hc hd hc2 hd2
  subst hc hd hc2 hd2
  exact concat_meets ⟨_, ho, rfl⟩ ⟨_, ho2, rfl⟩ noFill_tuple_add seq_tuple_add PySem.F.slot_tuple_add PySem.F.entry_tuple_add (PySem.F.args_tuple_add_2 _ _)
      (tuple_addW0 a b _ i2.toArray n n2 dd dd2 sl sl2 (by simp)) ⟨ho, ho2, ⟨.ref b, H, I, rfl, q⟩⟩
def pPlus : P2 := fun a b S Q => match a, b with
  | .int i, .int j => Q (.int (i + j)) S
  | .tup xs, .tup ys => small (xs.length + ys.length) ∧ Q (.tup (xs ++ ys)) S
  | .str x, .str y => x.length + y.length ≤ sizeLine ∧ Q (.str (x ++ y)) S
  | _, _ => False
theorem ref_Plus {K : PySem.W.Frag} : Ref2 K (fun x y H Q => rCat0 K x y H Q ∨ (rI0 (fun i j => .int (i + j)) x y H Q ∨ rCatT K x y H Q ∨ (∃ i j, x = .str i ∧ y = .str j ∧ i.length + j.length ≤ sizeLine ∧ Q (.str (i ++ j)) H))) pPlus := by
  intro d1 d2 S Q3 v1 v2 H μ Q m r1 r2 k q
  unfold pPlus at q
  split at q
  · exact .inr (ref_Add _ _ S Q3 v1 v2 H μ Q m r1 r2 k q)
  · rename_i xs ys
    by_cases e : xs = []
    · subst e
      cases r1 with
      | tup h1 s1 =>
        cases r2 with
        | tup h2 s2 =>
          cases s1
          exact .inl ⟨_, _, _, rfl, rfl, h1, h2, k _ S _ H μ q.2 .refl m (.tup h2 s2)⟩
    · exact .inr (ref_Add _ _ S Q3 v1 v2 H μ Q m r1 r2 k (show pAdd (.tup xs) (.tup ys) S Q3 from ⟨q.1, e, q.2⟩))
  · exact .inr (ref_Add _ _ S Q3 v1 v2 H μ Q m r1 r2 k q)
  · exact q.elim
theorem qe_plus {X : Cx} {a b : Expr} {wa wb : W D} {pos : Pos} (ha : QE X a wa) (hb : QE X b wb) : QE X (.BinOp a .Add b pos) (wOp pPlus wa wb) := qe_op (op_cat0.or (op_add.or (op_catT.or op_add_str))) ref_Plus ha hb
def wSlT (we : W D) (wl wh : W (Option Int)) : W D := fun ρ S Q => we ρ S fun d S1 => wl ρ S1 fun lo S2 => wh ρ S2 fun hi S3 => match d with | .tup xs => Q (.tup (cutD xs lo hi)) S3 | _ => False
inductive Ty where
  | int | bool | tuple | list | str
def Ty.name : Ty → String
  | .int => "int" | .bool => "bool" | .tuple => "tuple" | .list => "list" | .str => "str"
def isTy (S : Sto) : Ty → D → Option Bool
  | .int, .int _ => some true
  | .int, .bl _ => some true
  | .bool, .bl _ => some true
  | .str, .str _ => some true
  | .tuple, .tup _ => some true
  | .list, .ro _ => some true
  | _, .adr _ => none
  | T, .ref n => match S[n]? with | some (O.lst _) => some (match T with | .list => true | _ => false) | _ => none
  | _, _ => some false
theorem isi_none {prog : Program} {w : World} {A : Around} {E : Value → Shared → Prop} {s : Shared} {Q : Value → Shared → Prop} : ∀ T : Ty, (∀ tk, Q (.bool false) { s with toks := tk }) → wpAny (model prog w) A (call (.builtin "isinstance") [.none, .type T.name]) Q E s := by
  intro T q
  cases T
  · exact IsiPair.NoneType_int (q _)
  · exact IsiPair.NoneType_bool (q _)
  · exact IsiPair.NoneType_tuple (q _)
  · exact IsiPair.NoneType_list (q _)
  · exact IsiPair.NoneType_str (q _)
theorem isi_run {X : Cx} {pins : List (Addr × Obj)} {σ : L2.St} {H : Hp} {s : Shared} {μ : List Addr} {S : Sto} {d : D} {v : V} {u : Value} (I : Inv X pins σ H s) (m : Sim X.K H μ S) (r : Rep X.K H μ d v) (ru : RelV v u) (T : Ty) {b : Bool} (h : isTy S T d = some b) {E : Value → Shared → Prop} {Q : Value → Shared → Prop}
    (q : ∀ tk, Q (.bool b) { s with toks := tk }) : wpAny (model X.prog X.w) X.A (call (.builtin "isinstance") [u, .type T.name]) Q E s := by
  cases r with
  | non => cases ru; cases T <;> (cases h; exact isi_none _ q)
  | bl c =>
    cases ru
    cases T <;> cases h
    · exact IsiPair.bool_int (q s.toks)
    · exact IsiPair.bool_bool (q s.toks)
    · exact IsiPair.bool_tuple (q _)
    · exact IsiPair.bool_list (q _)
    · exact IsiPair.bool_str (q _)
  | int i =>
    obtain ⟨t, rfl⟩ := ru
    cases T <;> cases h
    · exact IsiPair.int_int (q s.toks)
    · exact IsiPair.int_bool (q _)
    · exact IsiPair.int_tuple (q _)
    · exact IsiPair.int_list (q _)
    · exact IsiPair.int_str (q _)
  | str x =>
    obtain ⟨t, rfl⟩ := ru
    cases T <;> cases h
    · exact IsiPair.str_int (q _)
    · exact IsiPair.str_bool (q _)
    · exact IsiPair.str_tuple (q _)
    · exact IsiPair.str_list (q _)
    · exact IsiPair.str_str (q s.toks)
  | tup h1 r1 =>
    cases ru
    obtain ⟨its, _, ⟨o, ho, hc, _⟩, _⟩ := I.tuple h1
    cases T <;> cases h
    · exact IsiPair.tuple_int ho hc (q _)
    · exact IsiPair.tuple_bool ho hc (q _)
    · exact IsiPair.tuple_tuple ho hc (q s.toks)
    · exact IsiPair.tuple_list ho hc (q _)
    · exact IsiPair.tuple_str ho hc (q _)
  | ro h1 r1 =>
    cases ru
    obtain ⟨its, _, p, _⟩ := I.list h1.sqL
    obtain ⟨o, ho, hc⟩ : ∃ o, s.heap.get? _ = some o ∧ o.cls = .type "list" := p.isList.typeIs
    cases T <;> cases h
    · exact IsiPair.list_int ho hc (q _)
    · exact IsiPair.list_bool ho hc (q _)
    · exact IsiPair.list_tuple ho hc (q _)
    · exact IsiPair.list_list ho hc (q s.toks)
    · exact IsiPair.list_str ho hc (q _)
  | ref e =>
    rename_i n a
    cases ru
    cases hS : S[n]? with
    | none => cases T <;> (simp only [isTy, hS] at h; cases h)
    | some o =>
      cases o with
      | dic kvs => cases T <;> (simp only [isTy, hS] at h; cases h)
      | dkv kvs => cases T <;> (simp only [isTy, hS] at h; cases h)
      | ins C fs => cases T <;> (simp only [isTy, hS] at h; cases h)
      | lst xs =>
        obtain ⟨vs, h1, h2⟩ := m.at hS e
        obtain ⟨its, _, p, _⟩ := I.list (SqL.of h1)
        obtain ⟨o, ho, hc⟩ : ∃ o, s.heap.get? _ = some o ∧ o.cls = .type "list" := p.isList.typeIs
        cases T <;> (simp only [isTy, hS] at h; cases h)
        · exact IsiPair.list_int ho hc (q _)
        · exact IsiPair.list_bool ho hc (q _)
        · exact IsiPair.list_tuple ho hc (q _)
        · exact IsiPair.list_list ho hc (q s.toks)
        · exact IsiPair.list_str ho hc (q _)
  | adr _ => cases T <;> cases h
theorem isi_ans {X : Cx} {pins : List (Addr × Obj)} {σ : L2.St} {H : Hp} {s : Shared} {μ : List Addr} {S : Sto} {d : D} {v : V} {u : Value} (I : Inv X pins σ H s) (m : Sim X.K H μ S) (r : Rep X.K H μ d v) (ru : RelV v u) (h0 : ∃ T b, isTy S T d = some b) :
    ∃ Tx, s.TypeIs u Tx ∧ ∀ (T : Ty) {b : Bool}, isTy S T d = some b → Answers (fun s => s.TypeIs u Tx) u (.type T.name) b := by
  cases r with
  | non =>
    cases ru
    refine ⟨"NoneType", rfl, fun T b h => ?_⟩
    cases T <;> cases h
    · exact Answers.of_false_none (by decide) F.isi_meta_int F.sub_NoneType_int
    · exact Answers.of_false_none (by decide) F.isi_meta_bool F.sub_NoneType_bool
    · exact Answers.of_false_none (by decide) F.isi_meta_tuple F.sub_NoneType_tuple
    · exact Answers.of_false_none (by decide) F.isi_meta_list F.sub_NoneType_list
    · exact Answers.of_false_none (by decide) F.isi_meta_str F.sub_NoneType_str
  | bl c =>
    cases ru
    refine ⟨"bool", rfl, fun T b h => ?_⟩
    cases T <;> cases h
    · exact Answers.of_true F.isi_meta_int F.sub_bool_int
    · exact Answers.of_true F.isi_meta_bool F.sub_bool_bool
    · exact Answers.of_false_bool (by decide) F.isi_meta_tuple F.sub_bool_tuple
    · exact Answers.of_false_bool (by decide) F.isi_meta_list F.sub_bool_list
    · exact Answers.of_false_bool (by decide) F.isi_meta_str F.sub_bool_str
  | int i =>
    obtain ⟨t, rfl⟩ := ru
    refine ⟨"int", rfl, fun T b h => ?_⟩
    cases T <;> cases h
    · exact Answers.of_true F.isi_meta_int F.sub_int_int
    · exact Answers.of_false_int (by decide) F.isi_meta_bool F.sub_int_bool
    · exact Answers.of_false_int (by decide) F.isi_meta_tuple F.sub_int_tuple
    · exact Answers.of_false_int (by decide) F.isi_meta_list F.sub_int_list
    · exact Answers.of_false_int (by decide) F.isi_meta_str F.sub_int_str
  | str x =>
    obtain ⟨t, rfl⟩ := ru
    refine ⟨"str", rfl, fun T b h => ?_⟩
    cases T <;> cases h
    · exact Answers.of_false_str (by decide) F.isi_meta_int F.sub_str_int
    · exact Answers.of_false_str (by decide) F.isi_meta_bool F.sub_str_bool
    · exact Answers.of_false_str (by decide) F.isi_meta_tuple F.sub_str_tuple
    · exact Answers.of_false_str (by decide) F.isi_meta_list F.sub_str_list
    · exact Answers.of_true F.isi_meta_str F.sub_str_str
  | tup h1 r1 =>
    cases ru
    obtain ⟨its, _, p, _⟩ := I.tuple h1
    refine ⟨"tuple", p.typeIs, fun T b h => ?_⟩
    cases T <;> cases h
    · exact Answers.of_false_tuple (by decide) F.isi_meta_int F.sub_tuple_int
    · exact Answers.of_false_tuple (by decide) F.isi_meta_bool F.sub_tuple_bool
    · exact Answers.of_true F.isi_meta_tuple F.sub_tuple_tuple
    · exact Answers.of_false_tuple (by decide) F.isi_meta_list F.sub_tuple_list
    · exact Answers.of_false_tuple (by decide) F.isi_meta_str F.sub_tuple_str
  | ro h1 r1 =>
    cases ru
    obtain ⟨its, _, p, _⟩ := I.list h1.sqL
    refine ⟨"list", p.isList.typeIs, fun T b h => ?_⟩
    cases T <;> cases h
    · exact Answers.of_false_list (by decide) F.isi_meta_int F.sub_list_int
    · exact Answers.of_false_list (by decide) F.isi_meta_bool F.sub_list_bool
    · exact Answers.of_false_list (by decide) F.isi_meta_tuple F.sub_list_tuple
    · exact Answers.of_true F.isi_meta_list F.sub_list_list
    · exact Answers.of_false_list (by decide) F.isi_meta_str F.sub_list_str
  | ref e =>
    rename_i n a
    cases ru
    cases hS : S[n]? with
    | none => obtain ⟨T, b, h⟩ := h0; cases T <;> (simp only [isTy, hS] at h; cases h)
    | some o =>
      cases o with
      | dic kvs => obtain ⟨T, b, h⟩ := h0; cases T <;> (simp only [isTy, hS] at h; cases h)
      | dkv kvs => obtain ⟨T, b, h⟩ := h0; cases T <;> (simp only [isTy, hS] at h; cases h)
      | ins C fs => obtain ⟨T, b, h⟩ := h0; cases T <;> (simp only [isTy, hS] at h; cases h)
      | lst xs =>
        obtain ⟨vs, h1, h2⟩ := m.at hS e
        obtain ⟨its, _, p, _⟩ := I.list (SqL.of h1)
        refine ⟨"list", p.isList.typeIs, fun T b h => ?_⟩
        cases T <;> (simp only [isTy, hS] at h; cases h)
        · exact Answers.of_false_list (by decide) F.isi_meta_int F.sub_list_int
        · exact Answers.of_false_list (by decide) F.isi_meta_bool F.sub_list_bool
        · exact Answers.of_false_list (by decide) F.isi_meta_tuple F.sub_list_tuple
        · exact Answers.of_true F.isi_meta_list F.sub_list_list
        · exact Answers.of_false_list (by decide) F.isi_meta_str F.sub_list_str
  | adr _ => obtain ⟨T, b, h⟩ := h0; cases T <;> cases h
def wIsi (T : Ty) (we : W D) : W D := fun ρ S Q => we ρ S fun d S1 => match isTy S1 T d with | some b => Q (.bl b) S1 | none => False
def wIsi2 (T U : Ty) (we : W D) : W D := fun ρ S Q => we ρ S fun d S1 => match isTy S1 T d, isTy S1 U d with | some b, some c => Q (.bl (b || c)) S1 | _, _ => False
section
variable {X : Cx} {e : Expr} {we : W D} {pos p pT pU : Pos} {xT xU : Str}
theorem qe_isi (T : Ty) (hm : X.mg "isinstance" = none) (hmT : X.mg xT = none) (he : QE X e we) (hbT : bootBuiltins xT = some (.type T.name) := by decide +kernel) (hgT : Gl X xT := by rfl) (hnT : xT ≠ "__name__" := by decide) (hdT : (xT == ("__debug__" : Str)) = false := by decide)
    (hg : Gl X "isinstance" := by rfl) (hs : starEach [e, .Name xT pT] X.env = (false, eval e X.env) :: starEach [.Name xT pT] X.env := by rfl) (hs2 : starEach [.Name xT pT] X.env = (false, eval (.Name xT pT) X.env) :: starEach [] X.env := by rfl)
    (hpl : (backTo pos (starEach [.Name xT pT] X.env)).any (·.1) = false := by rfl) : QE X (.Call (.Name "isinstance" p) [e, .Name xT pT] [] pos) (wIsi T we) := by
  have hc : CallR X (.builtin "isinstance") (fun xs H Q => ∃ x μ S d b, xs = [x, .ty T.name] ∧ Sim X.K H μ S ∧ Rep X.K H μ d x ∧ isTy S T d = some b ∧ Q (.bl b) H) := by
    intro pins s σ H xs us Q I r h
    obtain ⟨x, μ, S, d, b, rfl, m, rx, hb, q⟩ := h
    obtain ⟨u, u2, rfl, ru, ru2⟩ := Vals.two r
    have ru2 : u2 = Value.type T.name := ru2
    subst ru2
    exact isi_run I m rx ru T hb fun tk => ⟨.bl b, H, I.tok tk, rfl, q⟩
  refine ⟨PE.imp (pe_callB hc hg hm (by decide +kernel) (pa_cons he.pe (pa_cons (pe_bltn (v := .ty T.name) hgT hmT hbT rfl hnT hdT) pa_nil hs2) hs) (by decide) (by decide) hs hpl) fun σ H Q ⟨ρ, μ, S, Q3, eo, m, k, h⟩ => ?_⟩
  refine ⟨ρ, μ, S, _, eo, m, fun d S1 v H1 μ1 q1 g1 m1 r1 => ?_, h⟩
  split at q1
  · rename_i b e
    exact ⟨v, μ1, S1, d, b, rfl, m1, r1, e, k _ S1 _ H1 μ1 q1 g1 m1 (.bl b)⟩
  · exact q1.elim
theorem qe_isi2 (T U : Ty) {kT : Nat} {pt : Pos} (hm : X.mg "isinstance" = none) (hmT : X.mg xT = none) (hmU : X.mg xU = none) (he : QE X e we) (hbT : bootBuiltins xT = some (.type T.name) := by decide +kernel) (hbU : bootBuiltins xU = some (.type U.name) := by decide +kernel)
    (hgT : Gl X xT := by rfl) (hnT : xT ≠ "__name__" := by decide) (hdT : (xT == ("__debug__" : Str)) = false := by decide) (hgU : Gl X xU := by rfl) (hnU : xU ≠ "__name__" := by decide) (hdU : (xU == ("__debug__" : Str)) = false := by decide)
    (hg : Gl X "isinstance" := by rfl) (hs : starEach [e, .Tuple [.Name xT pT, .Name xU pU] kT pt] X.env = (false, eval e X.env) :: starEach [.Tuple [.Name xT pT, .Name xU pU] kT pt] X.env := by rfl)
    (hs2 : starEach [.Tuple [.Name xT pT, .Name xU pU] kT pt] X.env = (false, eval (.Tuple [.Name xT pT, .Name xU pU] kT pt) X.env) :: starEach [] X.env := by rfl)
    (hs3 : starEach [.Name xT pT, .Name xU pU] X.env = (false, eval (.Name xT pT) X.env) :: starEach [.Name xU pU] X.env := by rfl) (hs4 : starEach [.Name xU pU] X.env = (false, eval (.Name xU pU) X.env) :: starEach [] X.env := by rfl)
    (hpl : (backTo pos (starEach [.Tuple [.Name xT pT, .Name xU pU] kT pt] X.env)).any (·.1) = false := by rfl) : QE X (.Call (.Name "isinstance" p) [e, .Tuple [.Name xT pT, .Name xU pU] kT pt] [] pos) (wIsi2 T U we) := by
  refine ⟨fun pins s σ H Q I ⟨ρ, μ, S, Q3, eo, m, k, h⟩ => ?_⟩
  refine wpAny_Call_Name_kw (ld_blt (u := .builtin "isinstance") I hg hm (by decide +kernel) ?_ (by decide) (by decide))
  refine PyProof.Rows.callWith_builtin1 ?_ hs hpl
  rw [hs]
  show wpAny _ _ (spliced ((false, eval e X.env) :: backTo pos (starEach [.Tuple [.Name xT pT, .Name xU pU] kT pt] X.env))) _ _ s
  refine Calls.spliced_cons (thn (he.pe pins s σ H (fun v H1 => ∃ d S1 μ1, Rep X.K H1 μ1 d v ∧ Sim X.K H1 μ1 S1 ∧ Go H μ H1 μ1 ∧ (match isTy S1 T d, isTy S1 U d with | some b, some c => Q3 (.bl (b || c)) S1 | _, _ => False)) I ⟨ρ, μ, S, _, eo, m, fun d S1 v H1 μ1 q g r z => ⟨d, S1, μ1, z, r, g, q⟩, h⟩) fun u s1 ⟨v, H1, I1, ru, d, S1, μ1, rd, m1, g1, q1⟩ => ?_)
  rw [hs2]
  show wpAny _ _ (spliced ((false, eval (.Tuple [.Name xT pT, .Name xU pU] kT pt) X.env) :: backTo pos (starEach [] X.env))) _ _ s1
  refine Calls.spliced_cons (wpAny_Tuple_spliced (thn ((pa_cons (pe_bltn (v := .ty T.name) hgT hmT hbT rfl hnT hdT) (pa_cons (pe_bltn (v := .ty U.name) hgU hmU hbU rfl hnU hdU) pa_nil hs4) hs3) pt pins s1 σ H1 (fun vs H2 => vs = [.ty T.name, .ty U.name] ∧ H2 = H1) I1 ⟨rfl, rfl⟩) fun us s2 ⟨vs, H2, I2, rv, e1, e2⟩ => ?_))
  subst e1 e2
  obtain ⟨u1, u2, rfl, r1, r2⟩ := Vals.two rv
  have r1 : u1 = Value.type T.name := r1
  have r2 : u2 = Value.type U.name := r2
  subst r1 r2
  refine ⟨(show 2 ≤ sizeLine by decide), ?_⟩
  show wpAny _ _ (spliced (backTo pos (starEach [] X.env))) _ _ _
  refine Calls.spliced_nil ?_
  have I3 : Inv X pins σ H2 { s2 with heap := s2.heap.push { cls := .type "tuple", data := .seq [Value.type T.name, Value.type U.name].toArray } } := I2.kept (t' := s2.toks) fun b o e => Heap.get?_push_of_some _ e
  split at q1
  · rename_i b c eb ec
    obtain ⟨Tx, ht, ans⟩ := isi_ans I3 m1 rd ru ⟨T, b, eb⟩
    refine IsiPair.tupleOf (cs := [.type T.name, .type U.name]) (vs := [b, c]) (show AnswersAll _ _ [.type T.name, .type U.name] [b, c] from ⟨ans T eb, ans U ec, trivial⟩) ht (Heap.get?_push_size _ rfl) fun tk => ⟨.bl (b || c), H2, I3.tok tk, ?_, k _ S1 _ H2 μ1 q1 g1 m1 (.bl _)⟩
    show Value.bool ([b, c].any id) = Value.bool (b || c)
    simp
  · exact q1.elim
end
end L3
namespace L3
open PySem PySem.Spec PyProof.Rows L2
def wLR (ws : W (List D)) : W (List D) := fun ρ S Q => ws ρ S fun ds S1 => match ds with
  | [.int j] => (0 ≤ j ∧ j ≤ 100000) ∧ Q (rngD 0 j.toNat) S1
  | _ => False
section
variable {X : Cx} {e : Expr} {es : List Expr} {we : W D} {ws : W (List D)} {pos p p2 p3 : Pos}
end
end L3
namespace L3
open PySem PySem.Spec PyProof.Rows L2
def mmB (big : Bool) (b x : Int) : Int := match big with
  | true => if x > b then x else b
  | false => if x < b then x else b
abbrev two (x : Value) (c : Nat) : Obj := { cls := .type "list", dict := none, data := .seq #[x, x] c, slots := #[] }
section
variable {prog : Program} {w : World} {A : Around} {R : Result → Shared → Prop} {I l S : Addr} {its : List Value} {dv : Value}
end
end L3
namespace L3
open PySem PySem.Spec PyProof.Rows L2
section
variable {prog : Program} {w : World} {A : Around} {E : Value → Shared → Prop} {R : Result → Shared → Prop} {I l S : Addr} {its : List Value}
def mmOf (big : Bool) : List Int → Option Int
  | [] => none
  | n :: r => some (r.foldl (mmB big) n)
end
end L3
namespace L3
open PySem PySem.Spec PyProof.Rows L2
def optD : Option Int → D
  | none => .non
  | some n => .int n
def wMM (big : Bool) (we : W D) : W D := fun ρ S Q => we ρ S fun d S1 => ∃ ns : List Int, lstAre S1 d (ns.map D.int) ∧ Q (optD (mmOf big ns)) S1
section
variable {X : Cx} {e : Expr} {es : List Expr} {we : W D} {ws : W (List D)} {pos p kp cp : Pos} {j : Nat}
end
def wVals : List (W D) → W (List D)
  | [] => wNil
  | w :: r => wCons w (wVals r)
def dictAt (ks : List Str) (ds : List D) (x : Str) : Option D := (((ks.zip ds).reverse).find? fun kd => decide (kd.1 = x)).map (·.2)
def wDict (ks : List Str) (ws : W (List D)) (wi : W D) : W D := fun ρ S Q => ws ρ S fun ds S1 => wi ρ S1 fun i S2 => match i with
  | .str x => match dictAt ks ds x with | some d => Q d S2 | none => False
  | _ => False
structure QD (X : Cx) (pos : Pos) (keys : List (Option Expr)) (values : List Expr) (ks : List Str) (ws : W (List D)) : Prop where
  pd : ∃ trs, PPs X pos keys values trs ∧ ∀ σ H R, (∃ ρ μ S Q3, EnvOk X.K H μ ρ σ ∧ Sim X.K H μ S ∧ (∀ ds S' vs H' μ', Q3 ds S' → Go H μ H' μ' → Sim X.K H' μ' S' → Reps X.K H' μ' ds vs → ds.length = ks.length → R ((ks.map V.str).zip vs) H') ∧ ws ρ S Q3) → tPairs trs σ H R
section
variable {X : Cx} {pos kp : Pos} {keys : List (Option Expr)} {values : List Expr} {ks : List Str} {ws : W (List D)} {e : Expr} {we wi : W D} {x : Str} {j : Nat}
end
end L3
namespace L3
open PySem PySem.Spec PyProof.Rows L2
abbrev Zs := Addr → Option Obj
structure Fz (Z : Zs) (H Hm : Hp) : Prop where
  up : ∀ b o, Z b = some o → H b = some (HO.frz o (.own b))
  dn : ∀ b o, Z b = some o → Hm b = none
  eq : ∀ b, Z b = none → H b = Hm b
  nf : ∀ b o, Z b = some o → ∀ vs, o.data ≠ .fields vs
def frzUp (H : Hp) (Z : Zs) : Hp := fun b => match Z b with | some o => some (.frz o (.own b)) | none => H b
def thaw (H : Hp) (Z : Zs) : Hp := fun b => match Z b with | some _ => none | none => H b
theorem fz_up {Z : Zs} {H : Hp} (h : ∀ b o, Z b = some o → H b = none) (nf : ∀ b o, Z b = some o → ∀ vs, o.data ≠ .fields vs) : Fz Z (frzUp H Z) H :=
  ⟨fun b o e => by unfold frzUp; rw [e], h, fun b e => by unfold frzUp; rw [e], nf⟩
theorem fz_thaw {Z : Zs} {H : Hp} (h : ∀ b o, Z b = some o → H b = some (HO.frz o (.own b))) (nf : ∀ b o, Z b = some o → ∀ vs, o.data ≠ .fields vs) : Fz Z H (thaw H Z) :=
  ⟨h, fun b o e => by unfold thaw; rw [e], fun b e => by unfold thaw; rw [e], nf⟩
section
variable {Z : Zs} {H Hm H' Hm' : Hp} {K : PySem.W.Frag} {μ μ' : List Addr} {S : Sto} {P : Program} {w : World} {h h' : Heap}
theorem Fz.of_dn (f : Fz Z H Hm) {b : Addr} {o : HO} (e : Hm b = some o) : H b = some o := by
  cases z : Z b with
  | none => rw [f.eq b z]; exact e
  | some q => rw [f.dn b q z] at e; cases e
theorem Fz.of_up (f : Fz Z H Hm) {b : Addr} {o : HO} (e : H b = some o) (n : ∀ q, o ≠ HO.frz q (.own b)) : Hm b = some o := by
  cases z : Z b with
  | none => rw [← f.eq b z]; exact e
  | some q => rw [f.up b q z] at e; exact absurd (Option.some.inj e).symm (n q)
theorem Fz.none_dn (f : Fz Z H Hm) {b : Addr} (e : H b = none) : Hm b = none := by
  cases z : Z b with
  | none => rw [← f.eq b z]; exact e
  | some q => exact f.dn b q z
theorem Fz.hok_dn (f : Fz Z H Hm) (x : HOk P w H h) : HOk P w Hm h := fun b o e => (x b o (f.of_dn e)).stay (fun _ _ _ q => q) (fun c q => f.of_up q fun _ z => by cases z) fun c xs q => f.of_up q fun _ z => by cases z
theorem Fz.hok_up (f : Fz Z H Hm) (x : HOk P w Hm h) (z : ∀ b o, Z b = some o → h.get? b = some o) : HOk P w H h := fun b o e => by
  cases q : Z b with
  | none =>
    rw [f.eq b q] at e
    exact (x b o e).stay (fun _ _ _ q => q) (fun c q => f.of_dn q) fun c xs q => f.of_dn q
  | some oz =>
    rw [f.up b oz q] at e
    cases e
    exact ⟨z b oz q, oz, z b oz q⟩
theorem Fz.get (f : Fz Z H Hm) (x : HOk P w H h) : ∀ b o, Z b = some o → h.get? b = some o := fun b o e => (x b _ (f.up b o e)).1
theorem Fz.rep_up (f : Fz Z H Hm) {d : D} {v : V} (r : Rep K Hm μ d v) : Rep K H μ d v := Rep.map (fun _ _ q => f.of_dn q) (fun _ _ _ _ q => f.of_dn q) (fun _ _ q => q) r
theorem Fz.reps_up (f : Fz Z H Hm) {ds : List D} {vs : List V} (r : Reps K Hm μ ds vs) : Reps K H μ ds vs := Reps.map (fun _ _ q => f.of_dn q) (fun _ _ _ _ q => f.of_dn q) (fun _ _ q => q) r
theorem Fz.rep_dn (f : Fz Z H Hm) {d : D} {v : V} (r : Rep K H μ d v) : Rep K Hm μ d v := Rep.map (fun _ _ q => f.of_up q fun _ z => by cases z) (fun _ _ u n q => f.of_up q fun _ z => by cases z; cases n) (fun _ _ q => q) r
theorem Fz.reps_dn (f : Fz Z H Hm) {ds : List D} {vs : List V} (r : Reps K H μ ds vs) : Reps K Hm μ ds vs := Reps.map (fun _ _ q => f.of_up q fun _ z => by cases z) (fun _ _ u n q => f.of_up q fun _ z => by cases z; cases n) (fun _ _ q => q) r
theorem Fz.code_dn (f : Fz Z H Hm) {c : Addr} {oC : Obj} {q : Str} (e : H c = some (HO.frz oC (.own c))) (k : CodeO oC q) : Hm c = some (HO.frz oC (.own c)) := by
  cases z : Z c with
  | none => rw [← f.eq c z]; exact e
  | some o =>
    rw [f.up c o z] at e
    cases e
    obtain ⟨vs, _, hd, _⟩ := k
    exact absurd hd (f.nf c _ z vs)
theorem Fz.tab_dn (f : Fz Z H Hm) {x : Str} {ps : Array Value} (t : TabOk H x ps) : TabOk Hm x ps := ⟨t.1, fun pos cv e => let ⟨c, oC, h1, h2, h3⟩ := t.2 pos cv e; ⟨c, oC, h1, f.code_dn h2 h3, h3⟩⟩
theorem Fz.tab_up (f : Fz Z H Hm) {x : Str} {ps : Array Value} (t : TabOk Hm x ps) : TabOk H x ps := ⟨t.1, fun pos cv e => let ⟨c, oC, h1, h2, h3⟩ := t.2 pos cv e; ⟨c, oC, h1, f.of_dn h2, h3⟩⟩
theorem Fz.sim_dn (f : Fz Z H Hm) (m : Sim K H μ S) : Sim K Hm μ S := by
  refine ⟨m.len, m.nd, fun n ds e => ?_, fun a ha xs e => m.frm a ha xs (f.of_dn e), fun a ha o u e => m.frf a ha o u (f.of_dn e), fun a ha e => ?_, fun q hq => ?_, fun a ha ps e => m.ntb a ha ps (f.of_dn e)⟩
  · obtain ⟨a, h1, h2⟩ := m.obj n ds e
    exact ⟨a, h1, h2.map (fun _ _ q => f.of_up q fun _ z => by cases z) (fun _ _ u n q => f.of_up q fun _ z => by cases z; cases n) (fun _ _ q => q) fun ho z => f.of_up z fun q y => m.frf a (List.mem_of_getElem? h1) q (.own a) (z.trans (congrArg some y))⟩
  · cases z : Z a with
    | none => rw [← f.eq a z] at e; exact m.non a ha e
    | some o => exact m.frf a ha _ _ (f.up a o z)
  · obtain ⟨ps, h1, h2⟩ := m.tab q hq
    exact ⟨ps, f.of_up h1 (fun _ z => by cases z), f.tab_dn h2⟩
theorem Fz.sim_up (f : Fz Z H Hm) (m : Sim K Hm μ S) : Sim K H μ S := by
  have nz : ∀ a ∈ μ, Z a = none := fun a ha => by
    cases z : Z a with
    | none => rfl
    | some o => exact absurd (f.dn a o z) (m.non a ha)
  refine ⟨m.len, m.nd, fun n ds e => ?_, fun a ha xs => by rw [f.eq a (nz a ha)]; exact m.frm a ha xs, fun a ha o u => by rw [f.eq a (nz a ha)]; exact m.frf a ha o u, fun a ha => by rw [f.eq a (nz a ha)]; exact m.non a ha, fun q hq => ?_, fun a ha ps => by rw [f.eq a (nz a ha)]; exact m.ntb a ha ps⟩
  · obtain ⟨a, h1, h2⟩ := m.obj n ds e
    exact ⟨a, h1, h2.map (fun _ _ q => f.of_dn q) (fun _ _ _ _ q => f.of_dn q) (fun _ _ q => q) fun ho z => f.of_dn z⟩
  · obtain ⟨ps, h1, h2⟩ := m.tab q hq
    exact ⟨ps, f.of_dn h1, f.tab_up h2⟩
theorem Fz.go_dn (f : Fz Z H Hm) (f' : Fz Z H' Hm') (g : Go H μ H' μ') : Go Hm μ Hm' μ' := by
  refine ⟨g.pre, fun b hb n => f.none_dn (g.new b hb n), fun b o e n t => ?_, fun b ps e => ?_⟩
  · have e' := g.keep b o (f.of_dn e) n t
    cases z : Z b with
    | none => rw [← f'.eq b z]; exact e'
    | some q => rw [f.dn b q z] at e; cases e
  · obtain ⟨ps', e'⟩ := g.tbl b ps (f.of_dn e)
    exact ⟨ps', f'.of_up e' fun _ z => by cases z⟩
theorem Fz.go_up (f : Fz Z H Hm) (f' : Fz Z H' Hm') (g : Go Hm μ Hm' μ') (m' : Sim K Hm' μ' S) : Go H μ H' μ' := by
  refine ⟨g.pre, fun b hb n => ?_, fun b o e n t => ?_, fun b ps e => ?_⟩
  · cases z : Z b with
    | none => rw [f.eq b z]; exact g.new b hb n
    | some q => exact absurd (f'.dn b q z) (m'.non b hb)
  · cases z : Z b with
    | none =>
      rw [f.eq b z] at e
      rw [f'.eq b z]
      exact g.keep b o e n t
    | some q =>
      rw [f.up b q z] at e
      rw [f'.up b q z]
      exact e
  · obtain ⟨ps', e'⟩ := g.tbl b ps (f.of_up e fun _ z => by cases z)
    exact ⟨ps', f'.of_dn e'⟩
theorem Fz.un_dn {fs : List Addr} (f : Fz Z H Hm) (f' : Fz Z H' Hm') (u : Un fs [] H H' h h') (x : HOk P w H h) (x' : HOk P w H' h') : Un fs [] Hm Hm' h h' := by
  have up : ∀ b o, h.get? b = some o → Hm b = none → (∃ q, Z b = some q) ∨ H b = none := fun b o e n => by
    cases z : Z b with
    | none => exact .inr (by rw [f.eq b z]; exact n)
    | some q => exact .inl ⟨q, rfl⟩
  have kz : ∀ b o q, h.get? b = some o → Z b = some q → h'.get? b = some o := fun b o q e z => by
    have := f.get x b q z
    rw [e] at this; cases this
    exact f'.get x' b _ z
  refine ⟨fun b o e n nf _ => ?_, fun b o e n hf _ => ?_, fun b o e n _ => ?_, u.there, fun b xs e => ?_, fun b o v e => ?_, fun b ps e => ?_⟩
  · rcases up b o e n with ⟨q, z⟩ | n'
    · exact kz b o q e z
    · exact u.keep b o e n' nf (by simp)
  · rcases up b o e n with ⟨q, z⟩ | n'
    · exact ⟨o.slots, kz b o q e z⟩
    · exact u.slot b o e n' hf (by simp)
  · rcases up b o e n with ⟨q, z⟩ | n'
    · exact f'.dn b q z
    · exact f'.none_dn (u.free b o e n' (by simp))
  · exact f'.of_up (u.tups b xs (f.of_dn e)) fun _ z => by cases z
  · have e' := u.frzs b o v (f.of_dn e)
    cases z : Z b with
    | none => rw [← f'.eq b z]; exact e'
    | some q => rw [f.dn b q z] at e; cases e
  · obtain ⟨more, e'⟩ := u.tbls b ps (f.of_dn e)
    exact ⟨more, f'.of_up e' fun _ z => by cases z⟩
theorem Fz.un_up {fs : List Addr} (f : Fz Z H Hm) (f' : Fz Z H' Hm') (u : Un fs [] Hm Hm' h h') : Un fs [] H H' h h' := by
  refine ⟨fun b o e n nf _ => u.keep b o e (f.none_dn n) nf (by simp), fun b o e n hf _ => u.slot b o e (f.none_dn n) hf (by simp), fun b o e n _ => ?_, u.there, fun b xs e => f'.of_dn (u.tups b xs (f.of_up e fun _ z => by cases z)), fun b o v e => ?_, fun b ps e => ?_⟩
  · cases z : Z b with
    | none => rw [f'.eq b z]; exact u.free b o e (f.none_dn n) (by simp)
    | some q => rw [f.up b q z] at n; cases n
  · cases z : Z b with
    | none =>
      rw [f.eq b z] at e
      rw [f'.eq b z]
      exact u.frzs b o v e
    | some q =>
      rw [f.up b q z] at e
      rw [f'.up b q z]
      exact e
  · obtain ⟨more, e'⟩ := u.tbls b ps (f.of_up e fun _ z => by cases z)
    exact ⟨more, f'.of_dn e'⟩
end
end L3
namespace L3
open PySem PySem.Spec PyProof.Rows L2
structure LamB (K : PySem.W.Frag) (mg : Str → Option Value) (base : Heap) : Prop where
  code : ∀ x ∈ lamFns, ∀ c P, PySem.W.tabIn K x = some (c, P) → PySem.W.CodeHd base c P
  blt : ∃ bm ob, mg "__builtins__" = some (.ref bm) ∧ bm ≠ builtinsNs ∧ bm ≠ mainGlobals ∧ base.get? bm = some ob ∧ ob.cls = .type "module" ∧ ob.dict = some builtinsNs ∧ ob.data = .plain
  nd : ((tabsOf K).map (·.2)).Nodup
section
variable {X : Cx} {pins : List (Addr × Obj)} {σ : L2.St} {H : Hp} {s : Shared} {μ : List Addr} {S : Sto}
theorem grown (I : Inv X pins σ H s) {P : Addr} {ps more : Array Value} {h' : Heap} {tk : Nat} (hP : H P = some (HO.tbl ps)) (kp : ∀ b o, b ≠ P → s.heap.get? b = some o → h'.get? b = some o) (hP' : h'.get? P = some { cls := .none, data := .fields (ps ++ more) }) :
    Inv X pins σ (upd H P (.tbl (ps ++ more))) { s with heap := h', toks := tk } := by
  have ne : ∀ b, H b = none → b ≠ P := fun b n z => by rw [z, hP] at n; cases n
  have ne2 : ∀ b o, H b = some o → (∀ q, o ≠ HO.tbl q) → b ≠ P := fun b o e n z => by rw [z, hP] at e; exact n _ (Option.some.inj e).symm
  refine I.un ⟨fun b o e n _ _ => kp b o (ne b n) e, fun b o e n _ _ => ⟨o.slots, kp b o (ne b n) e⟩, fun b o e n _ => by rw [upd_ne (ne b n)]; exact n, fun b o e _ => ?_, fun b xs e => by rw [upd_ne (ne2 b _ e fun _ z => by cases z)]; exact e,
    fun b o u e => by rw [upd_ne (ne2 b _ e fun _ z => by cases z)]; exact e, fun b qs e => ?_⟩ fun b o e => ?_
  · by_cases z : b = P
    · subst z; exact ⟨_, hP'⟩
    · exact ⟨o, kp b o z e⟩
  · by_cases z : b = P
    · subst z
      rw [hP] at e; cases e
      exact ⟨more, upd_same⟩
    · exact ⟨#[], by rw [upd_ne z, e]; simp⟩
  · by_cases z : b = P
    · subst z
      rw [upd_same] at e; cases e
      exact hP'
    · rw [upd_ne z] at e
      refine (I.hok b o e).stay (fun c u hc q => kp c u ?_ q) (fun c q => ?_) fun c xs q => ?_
      · rcases hc with rfl | hc
        · exact z
        · exact ne2 c _ hc fun _ y => by cases y
      · rw [upd_ne (ne2 c _ q fun _ y => by cases y)]; exact q
      · rw [upd_ne (ne2 c _ q fun _ y => by cases y)]; exact q
theorem tracked (I : Inv X pins σ H s) {c : Addr} {oC : Obj} (hc : H c = none) (ho : s.heap.get? c = some oC) (young : X.s_0.heap.objs.size ≤ c) (n1 : c ≠ X.env.locals) (n2 : ∀ x q, X.env.cells.lookup x = some q → q ≠ c) (n3 : ∀ p ∈ X.pn ++ pins, p.1 ≠ c) : Inv X pins σ (upd H c (.frz oC (.own c))) s := by
  have ne : ∀ b o, H b = some o → b ≠ c := fun b o e z => by rw [z, hc] at e; cases e
  refine ⟨I.ok, I.os, I.bare, ⟨I.base.keep, I.base.slot, fun b o e n hx => ?_, I.base.there, fun b xs e => ?_, fun b o u e => ?_, fun b ps e => ?_⟩, I.loc, I.cell, by rw [upd_ne (Ne.symm n1)]; exact I.free, fun x q e => by rw [upd_ne (n2 x q e)]; exact I.freeC x q e, fun p hp => ?_, fun b o e => ?_, I.len⟩
  · rw [upd_ne (Nat.ne_of_lt (Nat.lt_of_lt_of_le (Heap.lt_size e) young))]
    exact I.base.free b o e n hx
  · have := I.base.tups b xs e; rw [upd_ne (ne b _ this)]; exact this
  · have := I.base.frzs b o u e; rw [upd_ne (ne b _ this)]; exact this
  · obtain ⟨m, this⟩ := I.base.tbls b ps e; exact ⟨m, by rw [upd_ne (ne b _ this)]; exact this⟩
  · obtain ⟨h1, h2, h3⟩ := I.pin p hp
    exact ⟨h1, by rw [upd_ne (n3 p hp)]; exact h2, h3⟩
  · by_cases z : b = c
    · subst z
      rw [upd_same] at e; cases e
      exact ⟨ho, oC, ho⟩
    · rw [upd_ne z] at e
      exact (I.hok b o e).stay (fun _ _ _ q => q) (fun d q => by rw [upd_ne (ne d _ q)]; exact q) fun d xs q => by rw [upd_ne (ne d _ q)]; exact q
theorem among_snoc {pos pos' : Pos} {c cv : Value} : ∀ (l : List Value), TriplesOk l → codeAmong pos' (l ++ [rawInt pos.line, rawInt pos.col, c]) = some cv → codeAmong pos' l = some cv ∨ cv = c
  | [], _, h => by
    have h : (if ((pos.line : Int) == pos'.line && (pos.col : Int) == pos'.col) = true then some c else none) = some cv := h
    split at h
    · exact .inr (Option.some.inj h).symm
    · cases h
  | [x], h, _ => by cases x <;> exact h.elim
  | [x, y], h, _ => by cases x <;> first | exact h.elim | (cases y <;> exact h.elim)
  | x :: y :: z :: l, h, e => by
    cases x with
    | int i t =>
      cases y with
      | int j u =>
        have h : TriplesOk l := h
        have e : (if (i == pos'.line && j == pos'.col) = true then some z else codeAmong pos' (l ++ [rawInt pos.line, rawInt pos.col, c])) = some cv := e
        show (if (i == pos'.line && j == pos'.col) = true then some z else codeAmong pos' l) = some cv ∨ cv = c
        split at e
        · rename_i q; rw [if_pos q]; exact .inl e
        · rename_i q; rw [if_neg q]; exact among_snoc l h e
      | _ => exact h.elim
    | _ => exact h.elim
theorem triples_snoc {pos : Pos} {c : Value} : ∀ (l : List Value), TriplesOk l → TriplesOk (l ++ [rawInt pos.line, rawInt pos.col, c])
  | [], _ => trivial
  | [x], h => by cases x <;> exact h.elim
  | [x, y], h => by cases x <;> first | exact h.elim | (cases y <;> exact h.elim)
  | x :: y :: z :: l, h => by
    cases x with
    | int i t =>
      cases y with
      | int j u => exact triples_snoc l h
      | _ => exact h.elim
    | _ => exact h.elim
theorem tabs_of {K : PySem.W.Frag} {x : Str} {c P : Addr} (hx : x ∈ lamFns) (ht : PySem.W.tabIn K x = some (c, P)) : (x, P) ∈ tabsOf K := List.mem_filterMap.mpr ⟨x, hx, by rw [ht]; rfl⟩
theorem tabs_one {K : PySem.W.Frag} (nd : ((tabsOf K).map (·.2)).Nodup) {x y : Str} {P : Addr} (h1 : (x, P) ∈ tabsOf K) (h2 : (y, P) ∈ tabsOf K) : x = y := by
  obtain ⟨i, hi, e1⟩ := List.mem_iff_getElem.mp h1
  obtain ⟨j, hj, e2⟩ := List.mem_iff_getElem.mp h2
  have : i = j := (List.getElem_inj nd (h₀ := by simpa using hi) (h₁ := by simpa using hj)).mp (by simp [e1, e2])
  subst this
  rw [e1] at e2
  exact congrArg Prod.fst e2
set_option maxHeartbeats 4000000 in
theorem lam_eval {x : Str} {c P : Addr} {params : Arguments} {body : Expr} {scope : Scope} {lpos : Pos} (B : LamB X.K X.mg X.base) (hx : x ∈ lamFns) (ht : PySem.W.tabIn X.K x = some (c, P)) (hcode : X.env.code = .ref c) (hqual : X.env.qual = x ++ ".<locals>.")
    (hdef : defaultsOf params X.env = ([], [])) (hfree : ∀ y ∈ scope.names, y.2 = .free → ∃ q, X.env.cells.lookup y.1 = some q) (I : Inv X pins σ H s) (m : Sim X.K H μ S) {Q : Value → Shared → Prop} {E : Value → Shared → Prop}
    (h : ∀ a c' oC ctv pm H1 s1, Inv X pins σ H1 s1 → Go H μ H1 μ → Sim X.K H1 μ S → s1.heap.get? a = some (PySem.W.kla_obj "<lambda>" (lamQ x) params body scope (cloFrom X.env.cells scope.names []) pm c' ctv) → H1 a = none → s.heap.objs.size ≤ a →
      H1 c' = some (HO.frz oC (.own c')) → CodeO oC (lamQ x) → Q (.ref a) s1) : wpAny (model X.prog X.w) X.A (eval (.Lambda params body scope lpos) X.env) Q E s := by
  refine PySem.W.kla_eval hdef ?_
  have eq : X.env.qual ++ "<lambda>" = lamQ x := by rw [hqual]; rfl
  rw [eq]
  obtain ⟨ps, hP, tr, tc⟩ := m.tab (x, P) (tabs_of hx ht)
  have hPn : X.base.get? P = none := by
    cases e : X.base.get? P with
    | none => rfl
    | some o => have := (I.bs P o e).2; rw [hP] at this; cases this
  have C : PySem.W.CodeHd s.heap c P := (B.code x hx c P ht).keeps I.bk
  have hPo : s.heap.get? P = some (PySem.W.tabObj ps) := I.hok P _ hP
  have hg : s.heap.Ns mainGlobals X.mg := I.mod.glob.keeps I.bk
  have hgP : mainGlobals ≠ P := fun z => by
    obtain ⟨o, _, _, e, _⟩ := I.mod.glob
    rw [z, hPn] at e; cases e
  obtain ⟨bm, ob, b1, b2, b3, b4, b5⟩ := B.blt
  have hbP : bm ≠ P := fun z => by rw [z, hPn] at b4; cases b4
  have hb : s.heap.BuiltinsAt X.mg P := ⟨bm, ob, b1, b2, b3, hbP, I.bk _ _ b4, b5⟩
  cases hit : codeAmong lpos ps.toList with
  | some cv =>
    obtain ⟨c', oC, rfl, hc', kC⟩ := tc lpos cv hit
    refine PySem.W.kla_makeFunctionHit (closure_ok hfree) I.ok.glob hg hcode C hPo tr hit hb fun ctv h' tk kp sz => ?_
    have I1 : Inv X pins σ H { s with heap := h'.push { cls := .type "function", data := .func (PySem.W.kla_fn "<lambda>" (lamQ x) params body scope (cloFrom X.env.cells scope.names []) ((X.mg "__name__").getD .none) (.ref c') ctv) }, toks := tk } := I.kept fun b o e => Heap.get?_push_of_some _ (kp b o e)
    exact h h'.objs.size c' oC ctv _ H _ I1 .refl m (Heap.get?_push_size _ rfl) (I.hok.fresh sz) sz hc' kC
  | none =>
    refine PySem.W.kla_makeFunction (closure_ok hfree) I.ok.glob hg hcode C hPo tr hit hgP hb fun c' ctv h' tk ext ge lt hrec hP' => ?_
    obtain ⟨c2, oC, vs, t, e2, hoC, hd, hv⟩ := hrec
    cases e2
    have I1 := grown (tk := tk) I hP (fun b o n e => ext b o n e) hP'
    have hc0 : H c' = none := I.hok.fresh ge
    have neP : c' ≠ P := fun z => by rw [z, hP] at hc0; cases hc0
    have I2 := tracked I1 (c := c') (oC := oC) (by rw [upd_ne neP]; exact hc0) hoC (Nat.le_trans I.sz ge) (Nat.ne_of_gt (Nat.lt_of_lt_of_le I.lt ge)) (fun y q e z => by
      obtain ⟨v, hq⟩ := I.cell y q e
      exact absurd (Nat.lt_of_lt_of_le hq.lt (by rw [z]; exact ge)) (Nat.lt_irrefl _)) (fun p hp z => absurd (Nat.lt_of_lt_of_le (Heap.lt_size (I.pin p hp).1) (by rw [z]; exact ge)) (Nat.lt_irrefl _))
    have I3 : Inv X pins σ (upd (upd H P (.tbl (ps ++ #[rawInt lpos.line, rawInt lpos.col, .ref c']))) c' (.frz oC (.own c'))) { s with heap := h'.push (PySem.W.kla_obj "<lambda>" (lamQ x) params body scope (cloFrom X.env.cells scope.names []) ((X.mg "__name__").getD .none) c' ctv), toks := tk } :=
      I2.kept (t' := tk) fun b o e => Heap.get?_push_of_some _ e
    have tz : ∀ b o u, H b = some (HO.frz o u) → upd (upd H P (.tbl (ps ++ #[rawInt lpos.line, rawInt lpos.col, .ref c']))) c' (.frz oC (.own c')) b = some (HO.frz o u) := fun b o u e => by
      rw [upd_ne (ne_of_none e hc0), upd_ne (ne_of e hP fun z => by cases z)]; exact e
    have tt : ∀ b xs, H b = some (HO.tup xs) → upd (upd H P (.tbl (ps ++ #[rawInt lpos.line, rawInt lpos.col, .ref c']))) c' (.frz oC (.own c')) b = some (HO.tup xs) := fun b o e => by
      rw [upd_ne (ne_of_none e hc0), upd_ne (ne_of e hP fun z => by cases z)]; exact e
    have at_mu : ∀ b ∈ μ, upd (upd H P (.tbl (ps ++ #[rawInt lpos.line, rawInt lpos.col, .ref c']))) c' (.frz oC (.own c')) b = H b := fun b hb => by
      rw [upd_ne (show b ≠ c' from fun z => m.non b hb (by rw [z]; exact hc0)), upd_ne (show b ≠ P from fun z => m.ntb b hb ps (by rw [z]; exact hP))]
    have g1 : Go H μ (upd (upd H P (.tbl (ps ++ #[rawInt lpos.line, rawInt lpos.col, .ref c']))) c' (.frz oC (.own c'))) μ := by
      refine ⟨⟨[], by simp⟩, fun b h n => absurd h n, fun b o e n nt => ?_, fun b qs e => ?_⟩
      · rw [upd_ne (ne_of_none e hc0), upd_ne (ne_of e hP fun z => by rw [z] at nt; cases nt)]; exact e
      · rw [upd_ne (ne_of_none e hc0)]
        by_cases z : b = P
        · subst z; exact ⟨_, upd_same⟩
        · exact ⟨qs, by rw [upd_ne z]; exact e⟩
    have m1 : Sim X.K (upd (upd H P (.tbl (ps ++ #[rawInt lpos.line, rawInt lpos.col, .ref c']))) c' (.frz oC (.own c'))) μ S := by
      refine ⟨m.len, m.nd, fun n ds e => ?_, fun b hb => by rw [at_mu b hb]; exact m.frm b hb, fun b hb => by rw [at_mu b hb]; exact m.frf b hb, fun b hb => by rw [at_mu b hb]; exact m.non b hb, fun q hq => ?_, fun b hb => by rw [at_mu b hb]; exact m.ntb b hb⟩
      · obtain ⟨b, h1, h2⟩ := m.obj n ds e
        exact ⟨b, h1, h2.map tt (fun b o u _ => tz b o u) (fun _ _ q => q) fun ho z => by rw [at_mu b (List.mem_of_getElem? h1)]; exact z⟩
      · obtain ⟨y, Py⟩ := q
        obtain ⟨qs, h1, h2⟩ := m.tab (y, Py) hq
        by_cases z : Py = P
        · subst z
          have := tabs_one B.nd hq (tabs_of hx ht)
          subst this
          refine ⟨ps ++ #[rawInt lpos.line, rawInt lpos.col, .ref c'], by rw [upd_ne (ne_of_none h1 hc0), upd_same], ?_, fun pos cv e => ?_⟩
          · rw [Array.toList_append]; exact triples_snoc _ tr
          · rw [Array.toList_append] at e
            rcases among_snoc _ tr e with e | e
            · obtain ⟨q, oq, r1, r2, r3⟩ := tc pos cv e
              exact ⟨q, oq, r1, tz _ _ _ r2, r3⟩
            · exact ⟨c', oC, e, upd_same, vs, t, hd, hv⟩
        · exact ⟨qs, by rw [upd_ne (ne_of_none h1 hc0), upd_ne z]; exact h1, h2.map tz⟩
    refine h h'.objs.size c' oC ctv _ _ _ I3 g1 m1 (Heap.get?_push_size _ rfl) ?_ (Nat.le_of_lt (Nat.lt_of_le_of_lt ge lt)) upd_same ⟨vs, t, hd, hv⟩
    have hn : H h'.objs.size = none := I.hok.fresh (Nat.le_of_lt (Nat.lt_of_le_of_lt ge lt))
    rw [upd_ne (Nat.ne_of_gt lt), upd_ne (fun z => by rw [z, hP] at hn; cases hn)]
    exact hn
end
end L3
namespace L3
open PySem PySem.Spec PyProof.Rows L2
def spClo (K : PySem.W.Frag) (Z Zp : Zs) (capD : List D) (capV : List V) (f : List D → Option D) (inv : Sto → Prop) : Sp := fun vs H Q _ =>
  (∀ b o, Z b = some o → H b = some (HO.frz o (.own b))) ∧ (∀ b o, Zp b = some o → H b = some (HO.frz o (.own b))) ∧ ∃ ds μ S Q3, Reps K H μ capD capV ∧ Reps K H μ ds vs ∧ Sim K H μ S ∧ Kn K H μ Q3 Q ∧ inv S ∧ ∃ d, f ds = some d ∧ Q3 d S
structure Clo3 (P : Program) (w : World) (K : PySem.W.Frag) (mg : Str → Option Value) (base : Heap) (k : Nat) (a : Addr) (Z Zp : Zs) (capD : List D) (capV : List V) (f : List D → Option D) (inv : Sto → Prop) : Prop where
  ex : ∃ fd ps o, FnOk P w K mg base CX0 k a fd ps (spClo K Z Zp capD capV f inv) ∧ Binds K fd ps [] ∧ Zp a = some o ∧ o.data = .func fd
def cxLam (P : Program) (w : World) (K : PySem.W.Frag) (mg : Str → Option Value) (base : Heap) (N : List Str) (qual : Str) (scope : Scope) (a : Addr) (cd : Value) (clos : List (Str × Addr)) (A : Around) (outer : List PySem.Env) (s : Shared) (Hm : Hp) : Cx where
  prog := P
  w := w
  K := K
  mg := mg
  base := base
  A := A.deeper (PySem.W.envX qual scope s.heap.objs.size a cd clos)
  N := N
  s_0 := s
  H_0 := Hm
  env := PySem.W.envX qual scope s.heap.objs.size a cd clos
  outer := outer
  stack := PySem.W.envX qual scope s.heap.objs.size a cd clos :: outer
  ex := []
  calm := true
  fn := fun _ => false
  pn := []
  xe := fun _ _ => False
structure LamScope (N ps cs : List Str) (sc : Scope) : Prop where
  kind : sc.kind = .function
  co : sc.isCoroutine = false
  gen : sc.isGenerator = false
  nd : N.Nodup
  eq : N = ps ++ cs
  par : ∀ x ∈ ps, sc.names.lookup x = some .local
  cap : ∀ x ∈ cs, sc.names.lookup x = some .free
  nocell : ∀ y ∈ sc.names, y.2 ≠ .cell
theorem rev_lookup : ∀ {ps : List Str} {us : List Value} {i : Nat} {x : Str} {u : Value}, ps.Nodup → ps.length = us.length → ps[i]? = some x → us[i]? = some u → (ps.zip us).reverse.lookup x = some u := by
  intro ps
  induction ps with
  | nil => intro us i x u _ _ h; simp at h
  | cons p ps ih =>
    intro us i x u nd hl h1 h2
    cases us with
    | nil => simp at h2
    | cons v us =>
      rw [List.zip_cons_cons, List.reverse_cons]
      cases i with
      | zero =>
        simp at h1 h2
        subst h1 h2
        have no : (ps.zip us).reverse.lookup p = none := by
          rw [List.lookup_eq_none_iff]
          intro q hq
          rw [List.mem_reverse] at hq
          have := (List.of_mem_zip (a := q.1) (b := q.2) hq).1
          simp only [bne_iff_ne, ne_eq]
          intro e
          exact (List.nodup_cons.mp nd).1 (e ▸ this)
        rw [List.lookup_append, no]
        simp
      | succ i =>
        have := ih (us := us) (i := i) (List.nodup_cons.mp nd).2 (by simpa using hl) (by simpa using h1) (by simpa using h2)
        rw [List.lookup_append, this]
        rfl
section
variable {P : Program} {w : World} {K : PySem.W.Frag} {mg : Str → Option Value} {base : Heap}
set_option maxHeartbeats 4000000 in
theorem clo_ok {k : Nat} {a c' : Addr} {oC : Obj} {qual : Str} {params : Arguments} {body : Expr} {scope : Scope} {clos : List (Str × Addr)} {pm ctv : Value} {N ps cs : List Str} {Z Zp : Zs} {capD : List D} {capV : List V} {f : List D → Option D} {inv : Sto → Prop} {wB : W D}
    (Sc : LamScope N ps cs scope) (bind : ∀ us : List Value, us.length = ps.length → bindArgs (PySem.W.kla_fn "<lambda>" qual params body scope clos pm (.ref c') ctv) ⟨us, []⟩ = pure (ps.zip us))
    (has : ∀ y, scope.names.lookup y = some .free → ∃ c, clos.lookup y = some c) (inj : ∀ x y c, clos.lookup x = some c → clos.lookup y = some c → x = y)
    (za : Zp a = some (PySem.W.kla_obj "<lambda>" qual params body scope clos pm c' ctv)) (zc : ∀ y c, clos.lookup y = some c → ∃ o v, Z c = some o ∧ o.data = .cell v) (znf : ∀ b o, Z b = some o → ∀ vs, o.data ≠ .fields vs)
    (zof : ∀ b o, Z b = some o → ∃ y, clos.lookup y = some b)
    (hcap : ∀ (i : Nat) y v, cs[i]? = some y → capV[i]? = some v → ∃ c o u, clos.lookup y = some c ∧ Z c = some o ∧ o.data = .cell (some u) ∧ RelV v u) (hcl : capV.length = cs.length)
    (codeO : CodeO oC qual) (hcode : Zp c' = some oC)
    (hB : ∀ (A : Around) (outer : List PySem.Env) (s : Shared) (Hm : Hp), Room k (A.deeper (PySem.W.envX qual scope s.heap.objs.size a (.ref c') clos)) → QE (cxLam P w K mg base N qual scope a (.ref c') clos A outer s Hm) body wB)
    (math : ∀ ds d, f ds = some d → ds.length = ps.length ∧ ∀ S, inv S → wB (ds.map some ++ capD.map some) S fun r S' => r = d ∧ S' = S) :
    FnOk P w K mg base CX0 (k + 1) a (PySem.W.kla_fn "<lambda>" qual params body scope clos pm (.ref c') ctv) ps (spClo K Z Zp capD capV f inv) := by
  refine ⟨fun vs H Q E ⟨_, _, ds, μ, S, Q3, _, r, _, _, _, d, e, _⟩ => by rw [← r.length]; exact (math ds d e).1, fun A outer s H args us vs Q E hr e0 hb rv hsp => ?_⟩
  obtain ⟨hz, hzp, ds, μ, S, Q3, hcp, rds, m, kn, hinv, d, hf, q3⟩ := hsp
  obtain ⟨hlen, hmath⟩ := math ds d hf
  have hvl : vs.length = ps.length := by rw [← rds.length]; exact hlen
  have hul : us.length = ps.length := by rw [← rv.length]; exact hvl
  have Fm := fz_thaw hz znf
  have getZ := Fm.get e0.hok
  have KX : K.In s.heap := e0.mod.kin.keeps fun b o e => (e0.bs b o e).1
  have lim : s.heap.NoLimit := e0.mod.nolimit.keeps fun b o e => (e0.bs b o e).1
  obtain ⟨hcg, _⟩ := e0.hok c' _ (hzp c' oC hcode)
  obtain ⟨hag, _⟩ := e0.hok a _ (hzp a _ za)
  have crec : s.heap.CodeRec (.ref c') qual := by obtain ⟨vs', t, h1, h2⟩ := codeO; exact ⟨c', oC, vs', t, rfl, hcg, h1, h2⟩
  have ndP : ps.Nodup := by have := Sc.nd; rw [Sc.eq] at this; exact (List.nodup_append.mp this).1
  refine PySem.W.kla_callFunE hr.depth hag rfl Sc.co Sc.gen rfl crec (hb _ _ _ _ ?_)
  refine wpAny_newFunctionEnv Sc.nocell (fun y hy => Sc.par y.1 (List.of_mem_zip (a := y.1) (b := y.2) hy).1) (fun h1 hns hsb => ?_) Sc.kind
  have kp : ∀ b o, s.heap.get? b = some o → h1.get? b = some o := fun b o e => hsb.extBut b o (Nat.ne_of_lt (Heap.lt_size e)) (Heap.get?_push_of_some _ e)
  refine ⟨lim.keeps kp, PySem.W.kla_codeExpr ?_⟩
  show wpAny _ (A.deeper (PySem.W.envX qual scope s.heap.objs.size a (.ref c') clos)) (eval body (PySem.W.envX qual scope s.heap.objs.size a (.ref c') clos)) _ _ _
  have cellIn : ∀ y c, clos.lookup y = some c → ∃ o v, s.heap.get? c = some o ∧ o.data = .cell v := fun y c e => let ⟨o, v, h1, h2⟩ := zc y c e; ⟨o, v, getZ c o h1, h2⟩
  have noA : ∀ b : Addr, b ∉ (cxLam P w K mg base N qual scope a (.ref c') clos A outer s (thaw H Z)).ex := fun b z => absurd (show b ∈ ([] : List Addr) from z) (by simp)
  -- the state at the body's begin
  have I : Inv (cxLam P w K mg base N qual scope a (.ref c') clos A outer s (thaw H Z)) [] (vs.map some ++ capV.map some) (thaw H Z) { s with heap := h1, toks := s.toks + (ps.zip us).length } := by
    refine ⟨⟨e0.mod, Sc.kind, rfl, rfl, Nat.le_refl _, inj, fun y hy => ?_, fun y c hf _ => (by cases hf), fun _ => hr.hd, Around.frames_deeper e0.frames, .inr ⟨rfl, rfl⟩, fun b z => absurd z (noA b), fun b o e => ⟨(e0.bs b o e).1, Fm.none_dn (e0.bs b o e).2⟩, e0.bsz, fun b _ _ => noA b, fun b z => absurd z (noA b), e0.funs, fun b hb => Fm.none_dn (e0.frf b hb)⟩,
      rfl, e0.bare, Un.kept kp, ⟨_, hns, fun i y v h1' h2 h3 => ?_⟩, fun y c e => ?_, Fm.none_dn (e0.hok.fresh (Nat.le_refl _)), fun y c e => ?_, fun p hp => absurd (show p ∈ ([] : List (Addr × Obj)) from hp) (by simp), (Fm.hok_dn e0.hok).kept kp, ?_⟩
    · have hy : scope.names.lookup y = some .cell ∨ scope.names.lookup y = some .free := hy
      rcases hy with hy | hy
      · exact absurd rfl (Sc.nocell _ (PySem.mem_of_lookup hy))
      · exact has y hy
    · have h1' : N[i]? = some y := h1'
      rw [Sc.eq] at h1'
      by_cases hi : i < ps.length
      · rw [List.getElem?_append_left hi] at h1'
        rw [List.getElem?_append_left (by simp; omega), List.getElem?_map] at h2
        have hv : vs[i]? = some v := by
          cases e : vs[i]? with
          | none => rw [e] at h2; cases h2
          | some v' => rw [e] at h2; cases h2; rfl
        obtain ⟨u, hu, ru⟩ := rv.get hv
        exact ⟨u, ru, .inl ⟨Sc.par y (List.mem_of_getElem? h1'), rev_lookup ndP hul.symm h1' hu⟩⟩
      · rw [List.getElem?_append_right (by omega)] at h1'
        rw [List.getElem?_append_right (by simp; omega), List.getElem?_map] at h2
        rw [List.length_map, hvl] at h2
        have hv : capV[i - ps.length]? = some v := by
          cases e : capV[i - ps.length]? with
          | none => rw [e] at h2; cases h2
          | some v' => rw [e] at h2; cases h2; rfl
        obtain ⟨c, o, u, r1, r2, r3, r4⟩ := hcap _ y v h1' hv
        exact ⟨u, r4, .inr ⟨.inr (Sc.cap y (List.mem_of_getElem? h1')), c, r1, o, kp c o (getZ c o r2), r3⟩⟩
    · obtain ⟨o, v, r1, r2⟩ := cellIn y c e
      exact ⟨v, o, kp c o r1, r2⟩
    · obtain ⟨o, v, r1, r2⟩ := zc y c e
      exact Fm.dn c o r1
    · show (vs.map some ++ capV.map some).length = N.length
      rw [Sc.eq, List.length_append, List.length_append, List.length_map, List.length_map, hvl, hcl]
  have eo : EnvOk K (thaw H Z) μ (ds.map some ++ capD.map some) (vs.map some ++ capV.map some) := by
    have rr : Reps K (thaw H Z) μ (ds ++ capD) (vs ++ capV) := Fm.reps_dn (rds.append hcp)
    have := start_ok (N := []) rr
    unfold start3 L2.start at this
    simpa using this
  refine wpAny_mono ((hB A outer s (thaw H Z) (hr.deeper _)).pe [] _ _ _ (fun v H2 => ∃ μ2, Go (thaw H Z) μ H2 μ2 ∧ Sim K H2 μ2 S ∧ Rep K H2 μ2 d v) I ⟨_, μ, S, _, eo, Fm.sim_dn m, fun d' S' v H2 μ2 ⟨e1, e2⟩ g m2 r2 => by subst e1 e2; exact ⟨μ2, g, m2, r2⟩, hmath S hinv⟩) (fun u s2 ⟨v, H2, I2, ru, μ2, g2, m2, r2⟩ => ?_) fun _ _ z => z.elim
  -- back: the cells are frozen again
  have zn : ∀ b o, Z b = some o → H2 b = none := fun b o e => by
    obtain ⟨y, hy⟩ := zof b o e
    exact I2.freeC y b hy
  have F2 := fz_up (H := H2) zn znf
  have un : Un (frs outer) [] (thaw H Z) H2 s.heap s2.heap := I2.base
  have gz2 : ∀ b o, Z b = some o → s2.heap.get? b = some o := fun b o e => un.keep b o (getZ b o e) (Fm.dn b o e) (fun hb => by
    have := e0.frf b hb
    rw [hz b o e] at this; cases this) (by simp)
  exact ⟨v, frzUp H2 Z, I2.os, I2.bare, Fm.un_up F2 un, F2.hok_up I2.hok gz2, ru, kn d S v _ μ2 q3 (Fm.go_up F2 g2 m2) (F2.sim_up m2) (F2.rep_up r2)⟩
end
end L3
namespace L3
open PySem PySem.Spec PyProof.Rows L2
def wCallV (a : Addr) (f : List D → Option D) (inv : Sto → Prop) (i : Nat) (ws : W (List D)) : W D := fun ρ S Q => match lk ρ i with
  | some (.adr b) => b = a ∧ ws ρ S fun ds S1 => inv S1 ∧ ∃ d, f ds = some d ∧ Q d S1
  | _ => False
theorem Reps.base {K : PySem.W.Frag} {X : Cx} {pins : List (Addr × Obj)} {σ : L2.St} {H : Hp} {s : Shared} (I : Inv X pins σ H s) {ds : List D} {vs : List V} (r : Reps K X.H_0 [] ds vs) : Reps K H [] ds vs :=
  Reps.map (fun b xs e => I.base.tups b xs e) (fun b o u _ e => I.base.frzs b o u e) (fun _ _ e => e) r
section
variable {X : Cx} {e : Expr} {es : List Expr} {ws : W (List D)} {pos p : Pos} {y : Str} {k : Nat} {a : Addr} {Z Zp : Zs} {capD : List D} {capV : List V} {f : List D → Option D} {inv : Sto → Prop}
theorem qe_callV (C : Clo3 X.prog X.w X.K X.mg X.base k a Z Zp capD capV f inv) (hr : Room k X.A) (hz : ∀ b o, Z b = some o → X.H_0 b = some (HO.frz o (.own b))) (hzp : ∀ b o, Zp b = some o → X.H_0 b = some (HO.frz o (.own b))) (hcp : Reps X.K X.H_0 [] capD capV) (i : Nat) (ha : QA X (e :: es) ws)
    (hN : X.N[i]? = some y := by rfl) (hv : Vis X.env.scope y := by first | exact Or.inl rfl | exact Or.inr (Or.inl rfl) | exact Or.inr (Or.inr rfl)) (hd : (y == ("__debug__" : Str)) = false := by decide) (hcd : (y == ("__classdict__" : Str)) = false := by decide)
    (hs : starEach (e :: es) X.env = (false, eval e X.env) :: starEach es X.env := by rfl) : QE X (.Call (.Name y p) (e :: es) [] pos) (wCallV a f inv i ws) := by
  obtain ⟨fd, ps, o, F, hb, zo, od⟩ := C.ex
  refine ⟨fun pins s σ H Q I ⟨ρ, μ, S, Q3, eo, m, k, h⟩ => ?_⟩
  unfold wCallV at h
  split at h
  · rename_i b eb
    obtain ⟨rfl, h⟩ := h
    obtain ⟨v, hv1, hv2⟩ := eo.get i _ (lk_get eb)
    cases hv2
    refine wpAny_Call_Name_kw (thn (pe_var hN hv hd hcd pins s σ H (fun v' H' => v' = .ref b ∧ H' = H) I ⟨_, hv1, rfl, rfl⟩) fun u s1 ⟨v', H', I1, ru, e1, e2⟩ => ?_)
    subst e1 e2
    cases ru
    refine callWith_function_kw (o := o) (fd := fd) ?_
    rw [hs]
    show wpAny _ _ (evalArgs (.ref b) true ((false, eval e X.env) :: backTo pos (starEach es X.env)) []) _ _ s1
    refine Calls.evalArgs_plain ?_
    have pa := ha.pa pos pins s1 σ H' (fun vs H1 => ∃ ds S1 μ1, Reps X.K H1 μ1 ds vs ∧ Sim X.K H1 μ1 S1 ∧ Go H' μ H1 μ1 ∧ inv S1 ∧ ∃ d, f ds = some d ∧ Q3 d S1) I1 ⟨ρ, μ, S, _, eo, m, fun ds S1 vs H1 μ1 q g m1 r => ⟨ds, S1, μ1, r, m1, g, q⟩, h⟩
    rw [hs] at pa
    refine thn pa fun us s2 ⟨vs, H1, I2, rv, ds, S1, μ1, rs, m1, g1, hi, d, hf, q⟩ => ?_
    have hz2 : ∀ b o, Z b = some o → H1 b = some (HO.frz o (.own b)) := fun b o e => I2.base.frzs b o _ (hz b o e)
    have hzp2 : ∀ b o, Zp b = some o → H1 b = some (HO.frz o (.own b)) := fun b o e => I2.base.frzs b o _ (hzp b o e)
    obtain ⟨hg, _⟩ := I2.hok b _ (hzp2 b o zo)
    refine ⟨⟨hg, od⟩, ?_⟩
    exact run_fn F hr hb .nil pass0 I2 rv ⟨hz2, hzp2, ds, μ1, S1, Q3, Reps.map (fun _ _ q => q) (fun _ _ _ _ q => q) (fun n a e => by simp at e) (Reps.base I2 hcp), by rw [List.append_nil]; exact rs, m1, k.go g1, hi, d, hf, q⟩
  · exact h.elim
end
abbrev PC3 := (List D → Option D) → (Sto → Prop) → PN
def liftSpC (P : Program) (w : World) (K : PySem.W.Frag) (mg : Str → Option Value) (base : Heap) (kc : Nat) (sp : PC3) : Sp := fun vs H Q _ => ∃ a Z Zp capD capV f inv ds μ S Q3, Clo3 P w K mg base kc a Z Zp capD capV f inv ∧
  (∀ b o, Z b = some o → H b = some (HO.frz o (.own b))) ∧ (∀ b o, Zp b = some o → H b = some (HO.frz o (.own b))) ∧ Reps K H [] capD capV ∧ Reps K H μ (ds ++ [.adr a]) vs ∧ Sim K H μ S ∧ Kn K H μ Q3 Q ∧ sp f inv ds S Q3
structure Fn3C (P : Program) (w : World) (K : PySem.W.Frag) (mg : Str → Option Value) (base : Heap) (kc k : Nat) (x : Str) (sp : PC3) : Prop where
  ex : ∃ f fd ps, FnOk P w K mg base CX0 k f fd ps (liftSpC P w K mg base kc sp) ∧ mg x = some (.ref f) ∧ PySem.W.keepIn K (.ref f) = true ∧ Binds K fd ps []
section
variable {P : Program} {w : World} {K : PySem.W.Frag} {mg : Str → Option Value} {base : Heap}
theorem fn3C {x qual : Str} {st : Stmt} {fa : Addr} {fd : FuncData} {N ps : List Str} {k kc : Nat} {sp : PC3} {wb : Addr → (List D → Option D) → (Sto → Prop) → WS} (F : Fun K x qual st fa fd) (Sc : FnScope N ps (defScope st)) (hm : mg x = some (.ref fa)) (hb : Binds K fd ps [])
    (body : ∀ a Z Zp capD capV f inv, Clo3 P w K mg base kc a Z Zp capD capV f inv → ∀ (cdv : Value) (A : Around) (outer : List PySem.Env) (s : Shared) (H : Hp) (E : XK), (∀ b o, Z b = some o → H b = some (HO.frz o (.own b))) → (∀ b o, Zp b = some o → H b = some (HO.frz o (.own b))) → Reps K H [] capD capV →
      Room k (A.deeper (PyProof.Rows.envOfC qual (defScope st) s.heap.objs.size fa cdv)) → QSs (cxOf CX0 P w K mg base N qual (defScope st) fa cdv A outer s H E).nox (defBody st) (wb a f inv))
    (len : ∀ f inv ds S Q, sp f inv ds S Q → ds.length + 1 = ps.length) (math : ∀ a f inv ds S Q, sp f inv ds S Q → wb a f inv { nx := fun _ S' => Q .non S', rt := Q } (start3 N (ds ++ [.adr a])) S) : Fn3C P w K mg base kc (k + 1) x sp := by
  refine ⟨fa, fd, ps, F.ok Sc (fun vs H Q E ⟨a, Z, Zp, capD, capV, f, inv, ds, μ, S, Q3, h0, hz, hzp, hc, h1, h2, h3, h4⟩ => by rw [← h1.length, List.length_append]; exact len f inv ds S Q3 h4) (fun cdv A outer s H vs Q E hr ⟨a, Z, Zp, capD, capV, f, inv, ds, μ, S, Q3, h0, hz, hzp, hc, h1, h2, h3, h4⟩ => ?_), hm, F.kp, hb⟩
  refine ⟨_, (body a Z Zp capD capV f inv h0 cdv A outer s H E hz hzp hc hr).pss, start3 N (ds ++ [D.adr a]), μ, S, { nx := fun _ S' => Q3 .non S', rt := Q3 }, start_ok h1, h2, ⟨fun ρ' S' σ' H' μ' q g m e => h3 .non S' .non H' μ' q g m .non, h3, fun ρ' S' σ' H' μ' q g m e => q.elim, fun ρ' S' σ' H' μ' q g m e => q.elim⟩, math a f inv ds S Q3 h4⟩
end
mutual
def noRef : D → Bool
  | .tup xs => noRefs xs
  | .ro xs => noRefs xs
  | .ref _ => false
  | _ => true
def noRefs : List D → Bool
  | [] => true
  | d :: r => noRef d && noRefs r
end
mutual
theorem noRef_rep {K : PySem.W.Frag} {H : Hp} {μ : List Addr} : ∀ {d : D} {v : V}, Rep K H μ d v → noRef d = true → Rep K H [] d v
  | _, _, .non, _ => .non
  | _, _, .bl b, _ => .bl b
  | _, _, .int b, _ => .int b
  | _, _, .str b, _ => .str b
  | _, _, .adr b, _ => .adr b
  | _, _, .tup h r, n => .tup h (noRefs_rep r (by unfold noRef at n; exact n))
  | _, _, .ro h r, n => .ro h (noRefs_rep r (by unfold noRef at n; exact n))
  | _, _, .ref h, n => by cases n
theorem noRefs_rep {K : PySem.W.Frag} {H : Hp} {μ : List Addr} : ∀ {ds : List D} {vs : List V}, Reps K H μ ds vs → noRefs ds = true → Reps K H [] ds vs
  | _, _, .nil, _ => .nil
  | _, _, .cons h r, n => by
    unfold noRefs at n
    rw [Bool.and_eq_true] at n
    exact .cons (noRef_rep h n.1) (noRefs_rep r n.2)
end
end L3
namespace L3
open PySem PySem.Spec PyProof.Rows L2
def tLamA (X : Cx) (x : Str) (params : Arguments) (body : Expr) (scope : Scope) (ws : W (List D)) : TA := fun σ H Q => ∃ ρ μ S Q3, EnvOk X.K H μ ρ σ ∧ Sim X.K H μ S ∧ ws ρ S Q3 ∧ ∀ ds S1 vs a c' oC ctv pm H1 μ1, Q3 ds S1 → Go H μ H1 μ1 → Sim X.K H1 μ1 S1 → Reps X.K H1 μ1 ds vs →
  H1 a = some (HO.frz (PySem.W.kla_obj "<lambda>" (lamQ x) params body scope (cloFrom X.env.cells scope.names []) pm c' ctv) (.own a)) → H1 c' = some (HO.frz oC (.own c')) → CodeO oC (lamQ x) → Q (vs ++ [.ref a]) H1
structure QAC (X : Cx) (x : Str) (params : Arguments) (body : Expr) (scope : Scope) (es : List Expr) (ws : W (List D)) : Prop where
  pa : PA X es (tLamA X x params body scope ws)
section
variable {X : Cx} {x : Str} {params : Arguments} {body : Expr} {scope : Scope} {lpos pos p : Pos} {es : List Expr} {e : Expr} {we : W D} {ws : W (List D)}
theorem qac_lam {c P : Addr} (B : LamB X.K X.mg X.base) (hx : x ∈ lamFns) (ht : PySem.W.tabIn X.K x = some (c, P)) (hcode : X.env.code = .ref c) (hqual : X.env.qual = x ++ ".<locals>." := by rfl) (hdef : defaultsOf params X.env = ([], []) := by rfl)
    (hfree : ∀ y ∈ scope.names, y.2 = .free → Loc X.env.scope y.1 ∧ X.env.scope.names.lookup y.1 = some .cell) (hs : starEach [Expr.Lambda params body scope lpos] X.env = [(false, eval (.Lambda params body scope lpos) X.env)] := by rfl) : QAC X x params body scope [.Lambda params body scope lpos] wNil := by
  refine ⟨fun pos pins s σ H Q I ⟨ρ, μ, S, Q3, eo, m, h, k⟩ => ?_⟩
  rw [hs]
  show wpAny _ _ (spliced ((false, eval (.Lambda params body scope lpos) X.env) :: backTo pos [])) _ _ s
  refine Calls.spliced_cons (lam_eval B hx ht hcode hqual hdef (fun y hy e => I.ok.has y.1 (.inl (hfree y hy e).2)) I m fun a c' oC ctv pm H1 s1 I1 g1 m1 ha hn hsz hc kC => ?_)
  have I2 := tracked I1 hn ha (Nat.le_trans I.sz hsz) (Nat.ne_of_gt (Nat.lt_of_lt_of_le I.lt hsz)) (fun y q e z => by
    obtain ⟨v, hq⟩ := I.cell y q e
    exact absurd (Nat.lt_of_lt_of_le hq.lt (by rw [z]; exact hsz)) (Nat.lt_irrefl _)) (fun p hp z => absurd (Nat.lt_of_lt_of_le (Heap.lt_size (I.pin p hp).1) (by rw [z]; exact hsz)) (Nat.lt_irrefl _))
  obtain ⟨g2, m2⟩ := m1.junk (o := .frz _ (.own a)) hn
  exact Calls.spliced_nil ⟨[.ref a], _, I2, .cons rfl .nil, k [] S [] a c' oC ctv pm _ μ h (g1.trans g2) m2 .nil upd_same (by rw [upd_ne (ne_of_none hc hn)]; exact hc) kC⟩
theorem qac_cons (he : QE X e we) (hr : QAC X x params body scope es ws) (hs : starEach (e :: es) X.env = (false, eval e X.env) :: starEach es X.env := by rfl) : QAC X x params body scope (e :: es) (wCons we ws) :=
  ⟨PA.imp (pa_cons he.pe hr.pa hs) fun σ H Q ⟨ρ, μ, S, Q3, eo, m, h, k⟩ => ⟨ρ, μ, S, _, eo, m, fun d S1 v H1 μ1 q g1 m1 r1 => ⟨ρ, μ1, S1, _, eo.go g1 m, m1, q, fun ds S2 vs a c' oC ctv pm H2 μ2 q2 g2 m2 r2 ha hc kC => k (d :: ds) S2 (v :: vs) a c' oC ctv pm H2 μ2 q2 (g1.trans g2) m2 (.cons (Rep.go g2 m1 r1) r2) ha hc kC⟩, h⟩⟩
end
def wCallC (sp : PC3) (ws : W (List D)) (np : Nat) (wB : W D) (capIx : List Nat) : W D := fun ρ S Q => ws ρ S fun ds S1 => ∃ (f : List D → Option D) (inv : Sto → Prop) (capD : List D), capIx.map (lk ρ) = capD.map some ∧ noRefs capD = true ∧
  (∀ args d, f args = some d → args.length = np ∧ ∀ S', inv S' → wB (args.map some ++ capD.map some) S' fun r S'' => r = d ∧ S'' = S') ∧ sp f inv ds S1 Q
theorem clo_lookup {cells : List (Str × Addr)} {names : List (Str × NameKind)} {y : Str} {c : Addr} (h : (cloFrom cells names []).lookup y = some c) : (y, NameKind.free) ∈ names ∧ c = (cells.lookup y).getD 0 := by
  rcases cloFrom_mem (PySem.mem_of_lookup h) with z | z
  · simp at z
  · exact z
theorem clo_mem {cells : List (Str × Addr)} {names : List (Str × NameKind)} {q : Str × Addr} (h : q ∈ cloFrom cells names []) : (cloFrom cells names []).lookup q.1 = some q.2 := by
  obtain ⟨c, hc⟩ := mem_lookup (n := q.1) (c := q.2) h
  rcases cloFrom_mem (n := q.1) (c := q.2) h with z | z
  · simp at z
  · rw [hc, (clo_lookup hc).2, z.2]
theorem mapM_some {α β : Type} : ∀ {l : List α} {f : α → Option β} {r : List β}, l.map f = r.map some → ∀ (i : Nat) (a : α), l[i]? = some a → ∃ b, r[i]? = some b ∧ f a = some b := by
  intro l f r h i a hi
  have := congrArg (fun z => z[i]?) h
  simp only [List.getElem?_map, hi] at this
  cases e : r[i]? with
  | none => rw [e] at this; cases this
  | some b => rw [e] at this; exact ⟨b, rfl, Option.some.inj this⟩
theorem all_of {α β : Type} {R : α → β → Prop} : ∀ {l : List α}, (∀ a ∈ l, ∃ b, R a b) → ∃ r : List β, r.length = l.length ∧ ∀ (i : Nat) a, l[i]? = some a → ∃ b, r[i]? = some b ∧ R a b
  | [], _ => ⟨[], rfl, fun i a h => by simp at h⟩
  | a :: l, h => by
    obtain ⟨b, hb⟩ := h a List.mem_cons_self
    obtain ⟨r, h1, h2⟩ := all_of (l := l) fun a ha => h a (List.mem_cons_of_mem _ ha)
    refine ⟨b :: r, by simp [h1], fun i a' e => ?_⟩
    cases i with
    | zero => simp at e; subst e; exact ⟨b, rfl, hb⟩
    | succ i => obtain ⟨b', q1, q2⟩ := h2 i a' (by simpa using e); exact ⟨b', by simpa using q1, q2⟩
theorem reps_of {K : PySem.W.Frag} {H : Hp} {μ : List Addr} : ∀ {ds : List D} {vs : List V}, ds.length = vs.length → (∀ (i : Nat) d v, ds[i]? = some d → vs[i]? = some v → Rep K H μ d v) → Reps K H μ ds vs
  | [], [], _, _ => .nil
  | [], _ :: _, h, _ => by simp at h
  | _ :: _, [], h, _ => by simp at h
  | d :: ds, v :: vs, h, k => .cons (k 0 d v rfl rfl) (reps_of (by simpa using h) fun i d v h1 h2 => k (i + 1) d v (by simpa using h1) (by simpa using h2))
section
variable {X : Cx} {x g : Str} {params : Arguments} {body : Expr} {scope : Scope} {pos p : Pos} {es : List Expr} {e : Expr} {ws : W (List D)} {k kc : Nat} {sp : PC3} {wB : W D} {N ps cs : List Str} {capIx : List Nat}
set_option maxHeartbeats 4000000 in
theorem qe_callC (F : Fn3C X.prog X.w X.K X.mg X.base (kc + 1) k g sp) (hr : Room k X.A) (hfn : X.fn = fun _ => true) (ha : QAC X x params body scope (e :: es) ws) (Sc : LamScope N ps cs scope)
    (hB : ∀ (clos : List (Str × Addr)) (a : Addr) (cd : Value) (A : Around) (outer : List PySem.Env) (s : Shared) (Hm : Hp), Room kc (A.deeper (PySem.W.envX (lamQ x) scope s.heap.objs.size a cd clos)) → QE (cxLam X.prog X.w X.K X.mg X.base N (lamQ x) scope a cd clos A outer s Hm) body wB)
    (bind : ∀ (clos : List (Str × Addr)) (pm cd ctv : Value) (us : List Value), us.length = ps.length → bindArgs (PySem.W.kla_fn "<lambda>" (lamQ x) params body scope clos pm cd ctv) ⟨us, []⟩ = pure (ps.zip us))
    (hcap : capIx.map (fun i => X.N[i]?) = cs.map some) (hcell : ∀ y ∈ cs, X.env.scope.names.lookup y = some .cell) (huse : ∀ y ∈ scope.names, y.2 = .free → y.1 ∈ cs)
    (hg : Gl X g := by rfl) (hdb : (g == ("__debug__" : Str)) = false := by decide) (he : starEach (e :: es) X.env = (false, eval e X.env) :: starEach es X.env := by rfl) (hpl : (backTo pos (starEach es X.env)).any (·.1) = false := by rfl) :
    QE X (.Call (.Name g p) (e :: es) [] pos) (wCallC sp ws ps.length wB capIx) := by
  obtain ⟨fa, fd, qs, FO, hm, hk, hb⟩ := F.ex
  refine ⟨fun pins s σ H Q I ⟨ρ, μ, S, Q3, eo, m, kn, h⟩ => ?_⟩
  refine wpAny_Call_Name_kw (ld_glob I hg hm ?_ hdb)
  refine PySem.W.callWith_K (h₀ := X.base) I.ok.mod.kin hk ?_ he hpl
  refine thn (ha.pa pos pins s σ H (fun vs H1 => ∃ ds S1 a c' oC ctv pm μ1 ws', vs = ws' ++ [V.ref a] ∧ Go H μ H1 μ1 ∧ Sim X.K H1 μ1 S1 ∧ Reps X.K H1 μ1 ds ws' ∧ H1 a = some (HO.frz (PySem.W.kla_obj "<lambda>" (lamQ x) params body scope (cloFrom X.env.cells scope.names []) pm c' ctv) (.own a)) ∧ H1 c' = some (HO.frz oC (.own c')) ∧ CodeO oC (lamQ x) ∧
      ∃ (f : List D → Option D) (inv : Sto → Prop) (capD : List D), capIx.map (lk ρ) = capD.map some ∧ noRefs capD = true ∧ (∀ args d, f args = some d → args.length = ps.length ∧ ∀ S', inv S' → wB (args.map some ++ capD.map some) S' fun r S'' => r = d ∧ S'' = S') ∧ sp f inv ds S1 Q3)
    I ⟨ρ, μ, S, _, eo, m, h, fun ds S1 vs a c' oC ctv pm H1 μ1 q g1 m1 r1 q1 q2 q3 => ⟨ds, S1, a, c', oC, ctv, pm, μ1, vs, rfl, g1, m1, r1, q1, q2, q3, q⟩⟩) fun us s1 ⟨vs, H1, I1, rv, ds, S1, a, c', oC, ctv, pm, μ1, ws', ev, g1, m1, r1, hOa, hOc, kC, f, inv, capD, hcd, hnr, hmath, hsp⟩ => ⟨I1.kIn, ?_⟩
  subst ev
  have eo1 := eo.go g1 m
  -- the captured names: slot, value, cell
  have one : ∀ (j : Nat) y, cs[j]? = some y → ∃ d v c u, capD[j]? = some d ∧ Rep X.K H1 μ1 d v ∧ X.env.cells.lookup y = some c ∧ s1.heap.IsCell c (some u) ∧ RelV v u := fun j y hj => by
    have hj' : (cs.map some)[j]? = some (some y) := by rw [List.getElem?_map, hj]; rfl
    rw [← hcap, List.getElem?_map] at hj'
    cases ei : capIx[j]? with
    | none => rw [ei] at hj'; cases hj'
    | some i =>
      rw [ei] at hj'
      have hi : X.N[i]? = some y := Option.some.inj hj'
      obtain ⟨d, hd1, hd2⟩ := mapM_some hcd j i ei
      obtain ⟨v, hv1, hv2⟩ := eo1.get i d (lk_get hd2)
      obtain ⟨mm, _, hl⟩ := I1.loc
      have hcy := hcell y (List.mem_of_getElem? hj)
      obtain ⟨u, ru, lk'⟩ := hl i y v hi hv1 (.inr (.inl hcy))
      rcases lk' with ⟨kl, _⟩ | ⟨_, c, ec, ic⟩
      · have kl : X.env.scope.names.lookup y = some .local := kl
        rw [hcy] at kl; cases kl
      · exact ⟨d, v, c, u, hd1, hv2, ec, ic, ru⟩
  obtain ⟨capV, hlV, hV⟩ := all_of (l := cs) (R := fun y v => ∀ j, cs[j]? = some y → ∃ d c u, capD[j]? = some d ∧ Rep X.K H1 μ1 d v ∧ X.env.cells.lookup y = some c ∧ s1.heap.IsCell c (some u) ∧ RelV v u) fun y hy => by
    obtain ⟨j, hj⟩ := List.mem_iff_getElem?.mp hy
    obtain ⟨d, v, c, u, r1, r2, r3, r4, r5⟩ := one j y hj
    refine ⟨v, fun j' hj' => ?_⟩
    have : j' = j := by
      have nd := Sc.nd
      rw [Sc.eq] at nd
      exact nodup_ix (List.nodup_append.mp nd).2.1 hj' hj
    subst this
    exact ⟨d, c, u, r1, r2, r3, r4, r5⟩
  have hlD : capD.length = cs.length := by
    have h1 := congrArg List.length hcd
    have h2 := congrArg List.length hcap
    simp only [List.length_map] at h1 h2
    omega
  have repC : Reps X.K H1 [] capD capV := noRefs_rep (reps_of (by omega) fun j d v hd hv => by
    have hj : j < cs.length := by rw [← hlD]; exact (List.getElem?_eq_some_iff.mp hd).1
    obtain ⟨v', q1, q2⟩ := hV j cs[j] (List.getElem?_eq_getElem hj)
    rw [hv] at q1; cases q1
    obtain ⟨d', c, u, q3, q4, _⟩ := q2 j (List.getElem?_eq_getElem hj)
    rw [hd] at q3; cases q3
    exact q4) hnr
  generalize hclos : cloFrom X.env.cells scope.names [] = clos at *
  have look : ∀ y c, clos.lookup y = some c → y ∈ cs ∧ X.env.cells.lookup y = some c := fun y c e => by
    rw [← hclos] at e
    obtain ⟨q1, q2⟩ := clo_lookup e
    have hy := huse _ q1 rfl
    obtain ⟨cc, hcc⟩ := I1.ok.has y (.inl (hcell y hy))
    exact ⟨hy, by rw [q2, hcc]; rfl⟩
  have lookB : ∀ y, (y, NameKind.free) ∈ scope.names → ∃ c, clos.lookup y = some c ∧ X.env.cells.lookup y = some c := fun y hy => by
    obtain ⟨c, hc⟩ := mem_lookup (cloFrom_has (cells := X.env.cells) (acc := []) hy)
    rw [hclos] at hc
    exact ⟨c, hc, (look y c hc).2⟩
  -- what is frozen while the call runs
  generalize hZ : (fun b => if (clos.any fun q => decide (q.2 = b)) = true then s1.heap.get? b else none : Zs) = Z
  have zIs : ∀ b o, Z b = some o → (∃ y, clos.lookup y = some b) ∧ s1.heap.get? b = some o := fun b o e => by
    rw [← hZ] at e
    by_cases z : (clos.any fun q => decide (q.2 = b)) = true
    · have e : s1.heap.get? b = some o := (if_pos z).symm.trans e
      obtain ⟨q, hq, eq⟩ := List.any_eq_true.mp z
      have eq : q.2 = b := of_decide_eq_true eq
      refine ⟨⟨q.1, ?_⟩, e⟩
      rw [← hclos] at hq ⊢
      rw [← eq]
      exact clo_mem hq
    · have e : (none : Option Obj) = some o := (if_neg z).symm.trans e
      cases e
  have zOf : ∀ y c, clos.lookup y = some c → Z c = s1.heap.get? c := fun y c e => by
    rw [← hZ]
    exact if_pos (List.any_eq_true.mpr ⟨(y, c), PySem.mem_of_lookup e, decide_eq_true rfl⟩)
  have zCell : ∀ b o, Z b = some o → ∃ v, o.data = .cell v := fun b o e => by
    obtain ⟨⟨y, hy⟩, hg⟩ := zIs b o e
    obtain ⟨v, o', ho', hd⟩ := I1.cell y b (look y b hy).2
    rw [hg] at ho'; cases ho'
    exact ⟨v, hd⟩
  have znf : ∀ b o, Z b = some o → ∀ vs, o.data ≠ .fields vs := fun b o e vs hd => by
    obtain ⟨v, hv⟩ := zCell b o e
    rw [hd] at hv; cases hv
  have zfree : ∀ b o, Z b = some o → H1 b = none := fun b o e => by
    obtain ⟨⟨y, hy⟩, _⟩ := zIs b o e
    exact I1.freeC y b (look y b hy).2
  have zyoung : ∀ b o, Z b = some o → X.s_0.heap.objs.size ≤ b := fun b o e => by
    obtain ⟨⟨y, hy⟩, _⟩ := zIs b o e
    exact I1.ok.cab y b (by rw [hfn]) (look y b hy).2
  have Fm := fz_up (H := H1) zfree znf
  have zna : Z a = none := by
    cases e : Z a with
    | none => rfl
    | some o => rw [zfree a o e] at hOa; cases hOa
  have znc : Z c' = none := by
    cases e : Z c' with
    | none => rfl
    | some o => rw [zfree c' o e] at hOc; cases hOc
  have C : Clo3 X.prog X.w X.K X.mg X.base (kc + 1) a Z (fun b => match H1 b with | some (HO.frz o _) => if b = a ∨ b = c' then some o else none | _ => none) capD capV f inv := by
    refine ⟨_, ps, PySem.W.kla_obj "<lambda>" (lamQ x) params body scope clos pm c' ctv, clo_ok (oC := oC) Sc (bind clos pm (.ref c') ctv) (fun y hy => ?_) (fun y z c h1 h2 => I1.ok.inj y z c (look y c h1).2 (look z c h2).2) (by simp [hOa]) (fun y c e => ?_) znf (fun b o e => (zIs b o e).1) (fun j y v hy hv => ?_) hlV kC (by simp [hOc]) (fun A outer s Hm => hB clos a (.ref c') A outer s Hm) hmath, fun s us _ hl => ?_, by simp [hOa], rfl⟩
    · obtain ⟨c, h1, _⟩ := lookB y (PySem.mem_of_lookup hy)
      exact ⟨c, h1⟩
    · obtain ⟨v, o, ho, hd⟩ := I1.cell y c (look y c e).2
      exact ⟨o, v, (zOf y c e).trans ho, hd⟩
    · obtain ⟨v', q1, q2⟩ := hV j y hy
      rw [hv] at q1; cases q1
      obtain ⟨d, c, u, _, _, q3, ⟨o, q4, q5⟩, q6⟩ := q2 j hy
      obtain ⟨c2, h1, h2⟩ := lookB y (PySem.mem_of_lookup (Sc.cap y (List.mem_of_getElem? hy)))
      rw [q3] at h2; cases h2
      exact ⟨c, o, u, h1, (zOf y c h1).trans q4, q5, q6⟩
    · rw [List.append_nil] at hl ⊢
      exact .of_eq (bind clos pm (.ref c') ctv us hl)
  have e0 := I1.env0
  have e0p : Env0 X.prog X.w X.K X.mg X.base X.A X.stack s1 (frzUp H1 Z) := by
    refine ⟨e0.frames, e0.mod, fun b o eb => ⟨(e0.bs b o eb).1, ?_⟩, e0.bsz, e0.funs, fun b hb => ?_, Fm.hok_up I1.hok fun b o e => (zIs b o e).2, e0.bare⟩
    · have : Z b = none := by
        cases e : Z b with
        | none => rfl
        | some o' => exact absurd (Nat.lt_of_lt_of_le (Heap.lt_size eb) (Nat.le_trans I1.ok.bsz (zyoung b o' e))) (Nat.lt_irrefl _)
      rw [Fm.eq b this]; exact (e0.bs b o eb).2
    · have : Z b = none := by
        cases e : Z b with
        | none => rfl
        | some o' =>
          obtain ⟨⟨y, hy⟩, _⟩ := zIs b o' e
          rcases List.mem_cons.mp (I1.stkSub b hb) with z | z
          · exact absurd z (I1.cne y b (look y b hy).2)
          · obtain ⟨_, o2, ho2, _⟩ := I1.ok.funs.mem z
            exact absurd (Nat.lt_of_lt_of_le (Heap.lt_size ho2) (zyoung b o' e)) (Nat.lt_irrefl _)
      rw [Fm.eq b this]; exact e0.frf b hb
  have spv : liftSpC X.prog X.w X.K X.mg X.base (kc + 1) sp (ws' ++ [V.ref a]) (frzUp H1 Z) (fun v H2 => ∃ d S2 μ2, Q3 d S2 ∧ Go (frzUp H1 Z) μ1 H2 μ2 ∧ Sim X.K H2 μ2 S2 ∧ Rep X.K H2 μ2 d v) E0 := by
    refine ⟨a, Z, _, capD, capV, f, inv, ds, μ1, S1, Q3, C, Fm.up, fun b o e => ?_, Fm.reps_up repC, (Fm.reps_up r1).append (.cons (.adr a) .nil), Fm.sim_up m1, fun d S2 v H2 μ2 q g m2 r => ⟨d, S2, μ2, q, g, m2, r⟩, hsp⟩
    by_cases z : b = a ∨ b = c'
    · have zb : Z b = none := by rcases z with rfl | rfl <;> assumption
      rw [Fm.eq b zb]
      rcases z with rfl | rfl
      · simp [hOa] at e
        rw [← e]
        exact hOa
      · simp [hOc] at e
        rw [← e]
        exact hOc
    · cases q : H1 b with
      | none => simp only [q] at e; cases e
      | some o' => cases o' <;> simp only [q] at e <;> first | cases e | (rw [if_neg z] at e; cases e)
  have hl : us.length = qs.length := by rw [← rv.length]; exact FO.len _ _ _ _ spv
  refine wpAny_call (codeAny_mono (FO.run X.A X.stack s1 (frzUp H1 Z) ⟨us, []⟩ us (ws' ++ [V.ref a]) _ E0 hr e0p (by have := hb s1 us I1.kIn (by rw [List.append_nil]; exact hl); rw [List.append_nil] at this; exact this) rv spv) fun r s2 hq => ?_)
  cases r with
  | error er => exact hq.elim
  | ok fl =>
    cases fl with
    | next => exact False.elim hq
    | brk => exact False.elim hq
    | cont => exact False.elim hq
    | ret u =>
      obtain ⟨v, H2, os, bare, un, hok, ru, d, S2, μ2, q3, g2, m2, r2⟩ := hq
      have F2 := fz_thaw (H := H2) (fun b o e => un.frzs b o _ (Fm.up b o e)) znf
      refine ⟨v, thaw H2 Z, I1.call' (ch := []) os (Fm.un_dn F2 un e0p.hok hok) (F2.hok_dn hok) bare (fun b z => absurd z (by simp)), ru, kn d S2 v _ μ2 q3 (g1.trans (Fm.go_dn F2 g2)) (F2.sim_dn m2) (F2.rep_dn r2)⟩
end
end L3
namespace Srt
open PySem.W PyProof.Rows
def run {α : Type} (lt : Nat → Nat → Bool) : KasT α → α
  | .ret a => a
  | .ask i j k => run lt (k (lt i j))
def at' (p : Array Nat) (k : Nat) : Nat := p.getD k 0
theorem at_of {p q : Array Nat} {k j : Nat} (h : p[k]? = q[j]?) : at' p k = at' q j := by
  unfold at'
  rw [Array.getD_eq_getD_getElem?, Array.getD_eq_getD_getElem?, h]
theorem at_rev {p : Array Nat} {i j : Nat} (hj : j ≤ p.size) (k : Nat) : at' (kas_rev p i j) k = if i ≤ k ∧ k < j then at' p (i + j - 1 - k) else at' p k := by
  have := getElem?_mirror_all (xs := p) (i := i) hj k
  unfold kas_rev
  split
  · rename_i h; rw [if_pos h] at this; exact at_of this
  · rename_i h; rw [if_neg h] at this; exact at_of this
structure Weak (lt : Nat → Nat → Bool) : Prop where
  asym : ∀ a b, lt a b = true → lt b a = false
  trans : ∀ a b c, lt a b = true → lt b c = true → lt a c = true
  neg : ∀ a b c, lt a b = false → lt b c = false → lt a c = false
def Bf (lt : Nat → Nat → Bool) (a b : Nat) : Prop := lt a b = true ∨ (lt a b = false ∧ lt b a = false ∧ a < b)
section
variable {lt : Nat → Nat → Bool} (W : Weak lt)
include W
theorem lt_of_lt_nlt {a b c : Nat} (h : lt a b = true) (h' : lt c b = false) : lt a c = true := by
  cases e : lt a c with
  | true => rfl
  | false => have := W.neg a c b e h'; rw [h] at this; cases this
theorem lt_of_nlt_lt {a b c : Nat} (h : lt b a = false) (h' : lt b c = true) : lt a c = true := by
  cases e : lt a c with
  | true => rfl
  | false => have := W.neg b a c h e; rw [h'] at this; cases this
theorem Bf.trans {a b c : Nat} (h : Bf lt a b) (h' : Bf lt b c) : Bf lt a c := by
  rcases h with h | ⟨h1, h2, h3⟩
  · rcases h' with h' | ⟨g1, g2, g3⟩
    · exact .inl (W.trans a b c h h')
    · exact .inl (lt_of_lt_nlt W h g2)
  · rcases h' with h' | ⟨g1, g2, g3⟩
    · exact .inl (lt_of_nlt_lt W h2 h')
    · exact .inr ⟨W.neg a b c h1 g1, W.neg c b a g2 h2, by omega⟩
omit W in
theorem Bf.of_nlt {a b : Nat} (h : lt b a = false) (hl : a < b) : Bf lt a b := by
  cases e : lt a b with
  | true => exact .inl e
  | false => exact .inr ⟨e, h, hl⟩
omit W in
theorem asc_ok (p : Array Nat) : ∀ (f n : Nat), n ≤ run lt (kas_asc p f n) ∧ run lt (kas_asc p f n) ≤ n + f ∧ (∀ i, n ≤ i → i < run lt (kas_asc p f n) → lt (at' p i) (at' p (i - 1)) = false) ∧ (run lt (kas_asc p f n) < n + f → lt (at' p (run lt (kas_asc p f n))) (at' p (run lt (kas_asc p f n) - 1)) = true)
  | 0, n => ⟨Nat.le_refl _, Nat.le_refl _, fun i h1 h2 => absurd (show i < n from h2) (by omega), fun h => absurd (show n < n + 0 from h) (by omega)⟩
  | f + 1, n => by
    have e : run lt (kas_asc p (f + 1) n) = if lt (at' p n) (at' p (n - 1)) = true then n else run lt (kas_asc p f (n + 1)) := by
      show run lt (if lt (at' p n) (at' p (n - 1)) = true then .ret n else kas_asc p f (n + 1)) = _
      split <;> rfl
    rw [e]
    split
    · rename_i h; exact ⟨Nat.le_refl _, by omega, fun i h1 h2 => by omega, fun _ => h⟩
    · rename_i h
      obtain ⟨h1, h2, h3, h4⟩ := asc_ok p f (n + 1)
      refine ⟨by omega, by omega, fun i hi hi2 => ?_, fun hm => h4 (by omega)⟩
      by_cases z : i = n
      · subst z; simpa using h
      · exact h3 i (by omega) hi2
structure Pre (lt : Nat → Nat → Bool) (n m : Nat) (p : Array Nat) : Prop where
  size : p.size = n
  le : m ≤ n
  tail : ∀ k, m ≤ k → k < n → at' p k = k
  small : ∀ i, i < m → at' p i < m
  ord : ∀ i j, i < j → j < m → Bf lt (at' p i) (at' p j)
  perm : p.toList.Perm (List.range n)
theorem chain {p : Array Nat} {m : Nat} (h : ∀ i, i + 1 < m → Bf lt (at' p i) (at' p (i + 1))) : ∀ i j, i < j → j < m → Bf lt (at' p i) (at' p j) := by
  intro i j
  induction j with
  | zero => intro h1; omega
  | succ j ih =>
    intro h1 h2
    by_cases z : i = j
    · subst z; exact h i h2
    · exact Bf.trans W (ih (by omega) (by omega)) (h j h2)
theorem Pre.more {n m : Nat} {p : Array Nat} (P : Pre lt n m p) (h1 : 1 ≤ m) : Pre lt n (run lt (kas_asc p (n - m) m)) p := by
  obtain ⟨a1, a2, a3, _⟩ := asc_ok (lt := lt) p (n - m) m
  have hle := P.le
  generalize run lt (kas_asc p (n - m) m) = r at a1 a2 a3 ⊢
  refine ⟨P.size, by omega, fun k h1 h2 => P.tail k (by omega) h2, fun i hi => ?_, chain W fun i hi => ?_, P.perm⟩
  · by_cases z : i < m
    · have := P.small i z; omega
    · rw [P.tail i (by omega) (by omega)]; exact hi
  · by_cases z : i + 1 < m
    · exact P.ord i (i + 1) (by omega) z
    · have q := a3 (i + 1) (by omega) hi
      have e : i + 1 - 1 = i := by omega
      rw [e] at q
      refine Bf.of_nlt q ?_
      rw [P.tail (i + 1) (by omega) (by omega)]
      by_cases y : i < m
      · have := P.small i y; omega
      · rw [P.tail i (by omega) (by omega)]; omega
structure Dn (lt : Nat → Nat → Bool) (n m q : Nat) (p : Array Nat) : Prop where
  size : p.size = n
  le : m ≤ n
  qm : q + 1 ≤ m
  tail : ∀ k, m ≤ k → k < n → at' p k = k
  small : ∀ i, i < m → at' p i < m
  up : ∀ i j, i < j → j < m - (q + 1) → Bf lt (at' p j) (at' p i)
  cut : ∀ i j, i < m - (q + 1) → m - (q + 1) ≤ j → j < m → lt (at' p j) (at' p i) = true
  like : ∀ i j, m - (q + 1) ≤ i → i < j → j < m → lt (at' p i) (at' p j) = false ∧ lt (at' p j) (at' p i) = false ∧ at' p i < at' p j
  perm : p.toList.Perm (List.range n)
theorem Dn.turn {n m q : Nat} {p : Array Nat} (d : Dn lt n m q p) : (∀ i j, i < j → j < m → Bf lt (at' (kas_rev p (m - (q + 1)) m) j) (at' (kas_rev p (m - (q + 1)) m) i)) ∧ (∀ i, i < m → at' (kas_rev p (m - (q + 1)) m) i < m) ∧ (∀ k, m ≤ k → k < n → at' (kas_rev p (m - (q + 1)) m) k = k) := by
  have hs : m ≤ p.size := by rw [d.size]; exact d.le
  have hq := d.qm
  refine ⟨fun i j h1 h2 => ?_, fun i hi => ?_, fun k h1 h2 => ?_⟩
  · rw [at_rev hs, at_rev hs]
    by_cases z : m - (q + 1) ≤ i
    · rw [if_pos ⟨by omega, h2⟩, if_pos ⟨z, by omega⟩]
      obtain ⟨e1, e2, e3⟩ := d.like (m - (q + 1) + m - 1 - j) (m - (q + 1) + m - 1 - i) (by omega) (by omega) (by omega)
      exact .inr ⟨e1, e2, e3⟩
    · rw [if_neg (show ¬ (m - (q + 1) ≤ i ∧ i < m) by omega)]
      by_cases y : m - (q + 1) ≤ j
      · rw [if_pos ⟨y, h2⟩]
        exact .inl (d.cut i _ (by omega) (by omega) (by omega))
      · rw [if_neg (show ¬ (m - (q + 1) ≤ j ∧ j < m) by omega)]
        exact d.up i j h1 (by omega)
  · rw [at_rev hs]
    split
    · exact d.small _ (by omega)
    · exact d.small i hi
  · rw [at_rev hs, if_neg (by omega)]
    exact d.tail k h1 h2
end
end Srt
namespace L3
open PySem PySem.Spec PyProof.Rows L2
structure CloAt (X : Cx) (H : Hp) (μ : List Addr) (s : Shared) (k : Nat) (a : Addr) (Z Zp : Zs) (capD : List D) (capV : List V) (f : List D → Option D) (inv : Sto → Prop) : Prop where
  clo : Clo3 X.prog X.w X.K X.mg X.base k a Z Zp capD capV f inv
  cell : ∀ b o, Z b = some o → ∃ y, X.env.cells.lookup y = some b
  get : ∀ b o, Z b = some o → s.heap.get? b = some o
  nf : ∀ b o, Z b = some o → ∀ vs, o.data ≠ .fields vs
  young : ∀ b o, Z b = some o → X.s_0.heap.objs.size ≤ b
  zp : ∀ b o, Zp b = some o → H b = some (HO.frz o (.own b))
  cap : Reps X.K H μ capD capV
section
variable {X : Cx} {x : Str} {params : Arguments} {body : Expr} {scope : Scope} {kc : Nat} {wB : W D} {N ps cs : List Str} {capIx : List Nat} {pins : List (Addr × Obj)} {σ : L2.St} {H1 : Hp} {s1 : Shared} {μ1 : List Addr} {S1 : Sto} {ρ : Env}
end
end L3
namespace Srt
open PySem.W PyProof.Rows
open HT (lexLt)
def kLt (kz : List (List Int)) (i j : Nat) : Bool := lexLt (kz.getD i []) (kz.getD j [])
def Ok {α : Type} (n : Nat) (P : α → Prop) : KasT α → Prop
  | .ret a => P a
  | .ask i j k => i < n ∧ j < n ∧ ∀ b, Ok n P (k b)
theorem Ok.bind {α β : Type} {n : Nat} {P : α → Prop} {P' : β → Prop} {f : α → KasT β} : ∀ {t : KasT α}, Ok n P t → (∀ a, P a → Ok n P' (f a)) → Ok n P' (t.bind f)
  | .ret a, h, g => g a h
  | .ask i j k, h, g => ⟨h.1, h.2.1, fun b => Ok.bind (h.2.2 b) g⟩
def AL (n : Nat) (p : Array Nat) : Prop := ∀ x ∈ p.toList, x < n
theorem AL.at {n : Nat} {p : Array Nat} (h : AL n p) (hn : 0 < n) (k : Nat) : p.getD k 0 < n := by
  rw [Array.getD_eq_getD_getElem?]
  cases e : p[k]? with
  | none => exact hn
  | some x => exact h x (by rw [Array.mem_toList_iff]; exact Array.mem_of_getElem? e)
theorem AL.rev {n : Nat} {p : Array Nat} (h : AL n p) (i j : Nat) : AL n (kas_rev p i j) := fun x hx => h x ((Array.perm_iff_toList_perm.mp (mirror_perm p i j _)).mem_iff.mp hx)
end Srt
namespace L3
open PySem PySem.Spec PyProof.Rows L2
open Srt (kLt)
section
variable {prog : Program} {w : World} {A : Around} {E : Value → Shared → Prop} {s : Shared}
end
end L3
namespace L3
open PySem PySem.Spec PyProof.Rows L2
open Srt (kLt)
section
variable {X : Cx} {pins : List (Addr × Obj)} {σ : L2.St} {H : Hp} {s : Shared} {μ : List Addr}
theorem trackedL (I : Inv X pins σ H s) {c : Addr} {vs : List V} (hc : H c = none) (ho : ObjOk X.prog X.w (upd H c (.lst vs)) s.heap c (.lst vs)) (young : X.s_0.heap.objs.size ≤ c) (n1 : c ≠ X.env.locals) (n2 : ∀ x q, X.env.cells.lookup x = some q → q ≠ c) (n3 : ∀ p ∈ X.pn ++ pins, p.1 ≠ c) : Inv X pins σ (upd H c (.lst vs)) s := by
  have ne : ∀ b o, H b = some o → b ≠ c := fun b o e z => by rw [z, hc] at e; cases e
  refine ⟨I.ok, I.os, I.bare, ⟨I.base.keep, I.base.slot, fun b o e n hx => ?_, I.base.there, fun b xs e => ?_, fun b o u e => ?_, fun b ps e => ?_⟩, I.loc, I.cell, by rw [upd_ne (Ne.symm n1)]; exact I.free, fun x q e => by rw [upd_ne (n2 x q e)]; exact I.freeC x q e, fun p hp => ?_, fun b o e => ?_, I.len⟩
  · rw [upd_ne (Nat.ne_of_lt (Nat.lt_of_lt_of_le (Heap.lt_size e) young))]
    exact I.base.free b o e n hx
  · have := I.base.tups b xs e; rw [upd_ne (ne b _ this)]; exact this
  · have := I.base.frzs b o u e; rw [upd_ne (ne b _ this)]; exact this
  · obtain ⟨m, this⟩ := I.base.tbls b ps e; exact ⟨m, by rw [upd_ne (ne b _ this)]; exact this⟩
  · obtain ⟨h1, h2, h3⟩ := I.pin p hp
    exact ⟨h1, by rw [upd_ne (n3 p hp)]; exact h2, h3⟩
  · by_cases z : b = c
    · subst z
      rw [upd_same] at e; cases e
      exact ho
    · rw [upd_ne z] at e
      exact (I.hok b o e).stay (fun _ _ _ q => q) (fun d q => by rw [upd_ne (ne d _ q)]; exact q) fun d xs q => by rw [upd_ne (ne d _ q)]; exact q
theorem CloAt.step {H' : Hp} {μ' : List Addr} {s' : Shared} {S : Sto} {k : Nat} {a : Addr} {Z Zp : Zs} {capD : List D} {capV : List V} {f : List D → Option D} {inv : Sto → Prop} (C : CloAt X H μ s k a Z Zp capD capV f inv) (tz : ∀ b o u, H b = some (HO.frz o u) → H' b = some (HO.frz o u)) (rs : ∀ ds vs, Reps X.K H μ ds vs → Reps X.K H' μ' ds vs) (kp : ∀ b o, Z b = some o → s'.heap.get? b = some o) :
    CloAt X H' μ' s' k a Z Zp capD capV f inv := ⟨C.clo, C.cell, kp, C.nf, C.young, fun b o e => tz b o _ (C.zp b o e), rs _ _ C.cap⟩
structure Side (X : Cx) (pins : List (Addr × Obj)) (c : Addr) : Prop where
  young : X.s_0.heap.objs.size ≤ c
  n1 : c ≠ X.env.locals
  n2 : ∀ x q, X.env.cells.lookup x = some q → q ≠ c
  n3 : ∀ p ∈ X.pn ++ pins, p.1 ≠ c
  nf : c ∉ frs X.stack
theorem Side.of (I : Inv X pins σ H s) {c : Addr} (h : s.heap.objs.size ≤ c) : Side X pins c := by
  refine ⟨Nat.le_trans I.sz h, Nat.ne_of_gt (Nat.lt_of_lt_of_le I.lt h), fun y q e z => ?_, fun p hp z => absurd (Nat.lt_of_lt_of_le (Heap.lt_size (I.pin p hp).1) (by rw [z]; exact h)) (Nat.lt_irrefl _), fun z => ?_⟩
  · obtain ⟨v, hq⟩ := I.cell y q e
    exact absurd (Nat.lt_of_lt_of_le hq.lt (by rw [z]; exact h)) (Nat.lt_irrefl _)
  · rcases List.mem_cons.mp (I.stkSub c z) with q | q
    · exact absurd (Nat.lt_of_lt_of_le I.lt h) (by rw [q]; exact Nat.lt_irrefl _)
    · exact I.nofs h q
end
def SortOut (kz : List (List Int)) (n : Nat) (p : List Nat) : Prop := p.Perm (List.range n) ∧ p.Pairwise (Srt.Bf (kLt kz))
theorem SortOut.lt {kz : List (List Int)} {n : Nat} {p : List Nat} (h : SortOut kz n p) : ∀ i ∈ p, i < n := fun i hi => by simpa using h.1.mem_iff.mp hi
theorem SortOut.len {kz : List (List Int)} {n : Nat} {p : List Nat} (h : SortOut kz n p) : p.length = n := by simpa using h.1.length_eq
section
variable {X : Cx} {pins : List (Addr × Obj)} {σ : L2.St} {H : Hp} {s : Shared} {μ : List Addr} {A : Around} {E : Value → Shared → Prop} {kS Dd : Addr} {e1 : Nat} {kvs xs : List V} {its : List Value} {P : PySem.Fin → Shared → Prop}
end
end L3
namespace Sg
open PySem PyProof.Rows
abbrev dk : Keyed := (Value.none, Value.none)
def kz (R : Keyed → Int) (xs : Array Keyed) (i : Nat) : Int := R (xs[i]?.getD dk)
def Sr (R : Keyed → Int) (xs : Array Keyed) (lo hi : Nat) : Prop := ∀ i j, lo ≤ i → i ≤ j → j < hi → kz R xs i ≤ kz R xs j
def Dn (R : Keyed → Int) (xs : Array Keyed) (lo hi : Nat) : Prop := ∀ i j, lo ≤ i → i ≤ j → j < hi → kz R xs j ≤ kz R xs i
structure Loc (lo hi : Nat) (xs ys : Array Keyed) : Prop where
  perm : ys.Perm xs
  out : ∀ k : Nat, k < lo ∨ hi ≤ k → ys[k]? = xs[k]?
structure SB (κ : SortKind) (a₀ : Array Keyed) (st : SortSt) : Prop where
  perm : (arrOf st).Perm a₀
  kind : kindOf st = κ
  failed : failedOf st = none
structure Stp (κ : SortKind) (a₀ : Array Keyed) (lo hi : Nat) (st st' : SortSt) : Prop where
  sb : SB κ a₀ st'
  loc : Loc lo hi (arrOf st) (arrOf st')
  pend : pendingOf st' = pendingOf st
structure Ans (prog : Program) (w : World) (A : Around) (E : Value → Shared → Prop) (s : Shared) (κ : SortKind) (R : Keyed → Int) (a₀ : Array Keyed) : Prop where
  lt : ∀ {x y : Keyed} {st : SortSt} {Q : Option Bool → SortSt → Prop}, x ∈ a₀.toList → y ∈ a₀.toList → kindOf st = κ → Q (some (decide (R x < R y))) st → wpS (model prog w) A E s (lt' x y) Q st
theorem kz_congr {R : Keyed → Int} {xs ys : Array Keyed} {i j : Nat} (h : xs[i]? = ys[j]?) : kz R xs i = kz R ys j := by unfold kz; rw [h]
theorem Loc.refl (lo hi : Nat) (xs : Array Keyed) : Loc lo hi xs xs := ⟨.refl _, fun _ _ => rfl⟩
theorem Loc.trans {lo hi : Nat} {xs ys zs : Array Keyed} (a : Loc lo hi xs ys) (b : Loc lo hi ys zs) : Loc lo hi xs zs := ⟨b.perm.trans a.perm, fun k h => (b.out k h).trans (a.out k h)⟩
theorem Loc.mono {lo hi lo' hi' : Nat} {xs ys : Array Keyed} (a : Loc lo hi xs ys) (h1 : lo' ≤ lo) (h2 : hi ≤ hi') : Loc lo' hi' xs ys := ⟨a.perm, fun k h => a.out k (by omega)⟩
theorem loc_mirror {lo hi i j : Nat} {xs : Array Keyed} (h1 : lo ≤ i) (h2 : j ≤ hi) (hj : j ≤ xs.size) : Loc lo hi xs (mirror xs i j ((j - i) / 2)) :=
  ⟨mirror_perm _ _ _ _, fun k h => by rw [getElem?_mirror_all hj, if_neg (by omega)]⟩
theorem kz_mirror {R : Keyed → Int} {i j : Nat} {xs : Array Keyed} (hj : j ≤ xs.size) (k : Nat) : kz R (mirror xs i j ((j - i) / 2)) k = if i ≤ k ∧ k < j then kz R xs (i + j - 1 - k) else kz R xs k := by
  have e := getElem?_mirror_all (xs := xs) (i := i) hj k
  split at e
  · rename_i h; rw [if_pos h]; exact kz_congr e
  · rename_i h; rw [if_neg h]; exact kz_congr e
section
variable {κ : SortKind} {a₀ : Array Keyed} {lo hi : Nat} {st st' st2 : SortSt}
theorem SB.size (h : SB κ a₀ st) : (arrOf st).size = a₀.size := h.perm.size_eq
theorem Stp.refl (h : SB κ a₀ st) : Stp κ a₀ lo hi st st := ⟨h, .refl _ _ _, rfl⟩
theorem Stp.trans (a : Stp κ a₀ lo hi st st') (b : Stp κ a₀ lo hi st' st2) : Stp κ a₀ lo hi st st2 := ⟨b.sb, a.loc.trans b.loc, b.pend.trans a.pend⟩
theorem Stp.setArr (a : Stp κ a₀ lo hi st st') {xs : Array Keyed} (h : Loc lo hi (arrOf st') xs) : Stp κ a₀ lo hi st (setArr st' xs) :=
  ⟨⟨h.perm.trans a.sb.perm, a.sb.kind, a.sb.failed⟩, a.loc.trans h, a.pend⟩
theorem SB.get (h : SB κ a₀ st) {i : Nat} (hi : i < a₀.size) : ∃ x, (arrOf st)[i]? = some x ∧ x ∈ a₀.toList := by
  have hi' : i < (arrOf st).size := by rw [h.size]; exact hi
  exact ⟨(arrOf st)[i], getElem?_pos _ i hi', (Array.perm_iff_toList_perm.mp h.perm).mem_iff.mp (by simp)⟩
end
section
variable {prog : Program} {w : World} {A : Around} {E : Value → Shared → Prop} {s : Shared} {κ : SortKind} {R : Keyed → Int} {a₀ : Array Keyed} {st : SortSt}
theorem wp_elem {arr : Array Keyed} {i : Nat} {x : Keyed} {Q : Keyed → SortSt → Prop} (h : arr[i]? = some x) (q : Q x st) : wpS (model prog w) A E s (elem' arr i) Q st := by
  rw [elem'_eq, h]
  exact wpS_pure q
theorem wp_ltAt {i j : Nat} {Q : Option Bool → SortSt → Prop} (hA : Ans prog w A E s κ R a₀) (hB : SB κ a₀ st) (hi : i < a₀.size) (hj : j < a₀.size)
    (h : Q (some (decide (kz R (arrOf st) i < kz R (arrOf st) j))) st) : wpS (model prog w) A E s (ltAt' i j) Q st := by
  obtain ⟨x, e1, m1⟩ := hB.get hi
  obtain ⟨y, e2, m2⟩ := hB.get hj
  rw [ltAt'_eq]
  refine wpS_bind (wpS_get ?_)
  refine wpS_bind (wp_elem e1 (wpS_bind (wp_elem e2 (hA.lt m1 m2 hB.kind ?_))))
  unfold kz at h
  rw [e1, e2] at h
  exact h
theorem wp_rev {i j : Nat} {Q : Unit → SortSt → Prop} (h : Q () (setArr st (mirror (arrOf st) i j ((j - i) / 2)))) : wpS (model prog w) A E s (reverseSlice' i j) Q st := by
  rw [reverseSlice'_eq]
  exact wpS_modify h
theorem Sr.more {xs : Array Keyed} {lo hi : Nat} (h : Sr R xs lo hi) (hl : kz R xs (hi - 1) ≤ kz R xs hi) : Sr R xs lo (hi + 1) := fun i j h1 h2 h3 => by
  by_cases e : j = hi
  · subst e
    by_cases e2 : i = j
    · subst e2; exact Int.le_refl _
    · exact Int.le_trans (h i (j - 1) h1 (by omega) (by omega)) hl
  · exact h i j h1 h2 (by omega)
theorem Dn.more {xs : Array Keyed} {lo hi : Nat} (h : Dn R xs lo hi) (hl : kz R xs hi ≤ kz R xs (hi - 1)) : Dn R xs lo (hi + 1) := fun i j h1 h2 h3 => by
  by_cases e : j = hi
  · subst e
    by_cases e2 : i = j
    · subst e2; exact Int.le_refl _
    · exact Int.le_trans hl (h i (j - 1) h1 (by omega) (by omega))
  · exact h i j h1 h2 (by omega)
theorem Dn.turn {xs : Array Keyed} {lo hi i j : Nat} (h : Dn R xs lo hi) (h1 : lo ≤ i) (h2 : j ≤ hi) (hj : j ≤ xs.size) (he : ∀ k, i ≤ k → k < j → kz R xs k = kz R xs (j - 1)) : ∀ k, kz R (mirror xs i j ((j - i) / 2)) k = kz R xs k := fun k => by
  rw [kz_mirror hj]
  split
  · rw [he _ (by omega) (by omega), he k (by omega) (by omega)]
  · rfl
theorem Dn.same {xs ys : Array Keyed} {lo hi : Nat} (h : Dn R xs lo hi) (e : ∀ k, kz R ys k = kz R xs k) : Dn R ys lo hi := fun i j h1 h2 h3 => by rw [e, e]; exact h i j h1 h2 h3
theorem Dn.up {xs : Array Keyed} {lo hi : Nat} (h : Dn R xs lo hi) (hj : hi ≤ xs.size) : Sr R (mirror xs lo hi ((hi - lo) / 2)) lo hi := fun i j h1 h2 h3 => by
  rw [kz_mirror hj, kz_mirror hj, if_pos ⟨h1, by omega⟩, if_pos ⟨by omega, h3⟩]
  exact h _ _ (by omega) (by omega) (by omega)
set_option hygiene false in
local macro_rules | `(tactic| walk_at "asc_loop") => `(tactic| (
  rintro x c st' hx1 hx2 ⟨n, rfl, rfl, hn1, hn, hS, hs⟩
  have hz' := hS.sb.size
  dsimp only
  refine wpS_bind (wp_ltAt hA hS.sb (by omega) (by omega) ?_)
  by_cases hlt : kz R (arrOf st') (lo + n) < kz R (arrOf st') (lo + n - 1)
  · rw [decide_eq_true hlt]
    exact wpS_pure ⟨n, rfl, hn1, by omega, hS, hs, fun _ => hlt⟩
  · rw [decide_eq_false hlt]
    exact wpS_pure ⟨n + 1, rfl, rfl, by omega, by omega, hS, hs.more (Int.not_lt.mp hlt)⟩))
def AscI (R : Keyed → Int) (κ : SortKind) (a₀ : Array Keyed) (lo nrem : Nat) (st : SortSt) (x : Nat) (c : Option (Option Nat) × Nat) (st' : SortSt) : Prop := ∃ n, c = (none, n) ∧ n = x ∧ 1 ≤ n ∧ n ≤ nrem ∧ Stp κ a₀ lo (lo + nrem) st st' ∧ Sr R (arrOf st') lo (lo + n)
def AscQ (R : Keyed → Int) (κ : SortKind) (a₀ : Array Keyed) (lo nrem : Nat) (st : SortSt) (c : Option (Option Nat) × Nat) (st' : SortSt) : Prop := ∃ n, c = (none, n) ∧ 1 ≤ n ∧ n ≤ nrem ∧ Stp κ a₀ lo (lo + nrem) st st' ∧ Sr R (arrOf st') lo (lo + n) ∧ (n < nrem → kz R (arrOf st') (lo + n) < kz R (arrOf st') (lo + n - 1))
set_option hygiene false in
local macro_rules | `(tactic| walk_at "asc_end") => `(tactic| (
  refine wpS_bind (wpS_mono (wpS_forRange (I := AscI R κ a₀ lo nrem st) (Q := AscQ R κ a₀ lo nrem st) (by walk_at "asc_loop") ?_ ⟨n, rfl, rfl, by omega, hn, hS4, hs4⟩) ?_)
  · rintro c st' ⟨n, rfl, hx, hn1, hn, hS, hs⟩
    exact ⟨_, rfl, hn1, hn, hS, hs, fun z => by omega⟩
  · rintro c st' ⟨n, rfl, hn1, hn, hS, hs, _⟩
    exact wpS_pure (h n st' hn1 hn hs hS)))
set_option hygiene false in
local macro_rules | `(tactic| walk_at "desc_tail") => `(tactic| (
  refine wpS_bind (wpS_lift (wpAny_rule ⟨rfl, ?_⟩))
  refine wpS_bind (wpS_mono (wpS_forRange
    (I := fun x c st' => ∃ n q, c = (none, n, q) ∧ n = x ∧ n ≤ nrem ∧ q + 1 ≤ n ∧ Stp κ a₀ lo (lo + nrem) st st' ∧ Dn R (arrOf st') lo (lo + n) ∧ ∀ k, lo + n - (q + 1) ≤ k → k < lo + n → kz R (arrOf st') k = kz R (arrOf st') (lo + n - 1))
    (Q := fun c st' => ∃ n q, c = (none, n, q) ∧ n ≤ nrem ∧ q + 1 ≤ n ∧ Stp κ a₀ lo (lo + nrem) st st' ∧ Dn R (arrOf st') lo (lo + n) ∧ ∀ k, lo + n - (q + 1) ≤ k → k < lo + n → kz R (arrOf st') k = kz R (arrOf st') (lo + n - 1)) ?dstep ?dfin ?dinit) ?dpost)
  case dinit => exact ⟨n + 1, 0, rfl, rfl, by omega, by omega, hS2, hD2, fun k h1 h2 => by rw [show k = lo + (n + 1) - 1 by omega]⟩
  case dfin =>
    rintro c st' ⟨n, q, rfl, hx, hn, hq, hS, hD, he⟩
    exact ⟨n, q, rfl, hn, hq, hS, hD, he⟩
  case dstep =>
    rintro x c st' hx1 hx2 ⟨n, q, rfl, rfl, hn, hq, hS, hD, he⟩
    have hz' := hS.sb.size
    dsimp only
    refine wpS_bind (wp_ltAt hA hS.sb (by omega) (by omega) ?_)
    by_cases hlt : kz R (arrOf st') (lo + n) < kz R (arrOf st') (lo + n - 1)
    · rw [decide_eq_true hlt]
      simp only [if_true]
      by_cases hq0 : q > 0
      · rw [if_pos hq0]
        have hm := hD.turn (i := lo + n - (q + 1)) (j := lo + n) (by omega) (Nat.le_refl _) (by omega) he
        refine wpS_bind (wp_rev (wpS_pure ⟨n + 1, 0, rfl, rfl, by omega, by omega, hS.setArr (loc_mirror (by omega) (by omega) (by omega)), ?_, ?_⟩))
        · refine Dn.more (hD.same hm) ?_
          show kz R (mirror _ _ _ _) _ ≤ kz R (mirror _ _ _ _) _
          rw [hm, hm]; exact Int.le_of_lt hlt
        · intro k h1 h2
          rw [show k = lo + (n + 1) - 1 by omega]
      · rw [if_neg hq0]
        refine wpS_pure ⟨n + 1, 0, rfl, rfl, by omega, by omega, hS, hD.more (Int.le_of_lt hlt), ?_⟩
        intro k h1 h2
        rw [show k = lo + (n + 1) - 1 by omega]
    · rw [decide_eq_false hlt]
      simp only [Bool.false_eq_true, if_false]
      refine wpS_bind (wp_ltAt hA hS.sb (by omega) (by omega) ?_)
      by_cases hgt : kz R (arrOf st') (lo + n - 1) < kz R (arrOf st') (lo + n)
      · rw [decide_eq_true hgt]
        exact wpS_pure ⟨n, q, rfl, by omega, hq, hS, hD, he⟩
      · rw [decide_eq_false hgt]
        have heq : kz R (arrOf st') (lo + n) = kz R (arrOf st') (lo + n - 1) := by omega
        refine wpS_pure ⟨n + 1, q + 1, rfl, rfl, by omega, by omega, hS, hD.more (Int.le_of_eq heq), fun k h1 h2 => ?_⟩
        rw [show lo + (n + 1) - 1 = lo + n by omega]
        by_cases hk : k = lo + n
        · rw [hk]
        · rw [heq]; exact he k (by omega) (by omega)
  case dpost =>
    rintro c st3 ⟨n, q, rfl, hn, hq, hS3, hD3, he⟩
    have hz3 := hS3.sb.size
    dsimp only
    have last : ∀ st4, Stp κ a₀ lo (lo + nrem) st st4 → Dn R (arrOf st4) lo (lo + n) → Stp κ a₀ lo (lo + nrem) st (setArr st4 (mirror (arrOf st4) lo (lo + n) ((lo + n - lo) / 2))) ∧ Sr R (mirror (arrOf st4) lo (lo + n) ((lo + n - lo) / 2)) lo (lo + n) := fun st4 hS4 hD4 => by
      have hz4 := hS4.sb.size
      exact ⟨hS4.setArr (loc_mirror (Nat.le_refl _) (by omega) (by omega)), hD4.up (by omega)⟩
    by_cases hq0 : q > 0
    · rw [if_pos hq0]
      have hm := hD3.turn (i := lo + n - (q + 1)) (j := lo + n) (by omega) (Nat.le_refl _) (by omega) he
      obtain ⟨hS4, hs4⟩ := last (setArr st3 (mirror (arrOf st3) (lo + n - (q + 1)) (lo + n) ((lo + n - (lo + n - (q + 1))) / 2))) (hS3.setArr (loc_mirror (by omega) (by omega) (by omega))) (hD3.same hm)
      refine wpS_bind (wp_rev (wpS_bind (wp_rev ?_)))
      walk_at "asc_end"
    · rw [if_neg hq0]
      obtain ⟨hS4, hs4⟩ := last st3 hS3 hD3
      refine wpS_bind (wp_rev ?_)
      walk_at "asc_end"))
theorem wp_count {lo nrem : Nat} {Q : Option Nat → SortSt → Prop} (hA : Ans prog w A E s κ R a₀) (hB : SB κ a₀ st) (h1 : 1 ≤ nrem) (hz : lo + nrem ≤ a₀.size)
    (h : ∀ m st', 1 ≤ m → m ≤ nrem → Sr R (arrOf st') lo (lo + m) → Stp κ a₀ lo (lo + nrem) st st' → Q (some m) st') : wpS (model prog w) A E s (countRun' lo nrem) Q st := by
  rw [countRun'_eq]
  refine wpS_bind (wpS_mono (wpS_forRange (I := AscI R κ a₀ lo nrem st) (Q := AscQ R κ a₀ lo nrem st) (by walk_at "asc_loop") ?_ ⟨1, rfl, rfl, by omega, h1, .refl hB, fun i j a b c => by rw [show i = j by omega]; exact Int.le_refl _⟩) ?_)
  · rintro c st' ⟨n, rfl, hx, hn1, hn, hS, hs⟩
    exact ⟨_, rfl, hn1, hn, hS, hs, fun z => by omega⟩
  · rintro c st2 ⟨n, rfl, hn1, hn, hS2, hs2, hl⟩
    have hz2 := hS2.sb.size
    dsimp only
    by_cases he : (n == nrem) = true
    · rw [if_pos he]
      exact wpS_pure (h n st2 hn1 hn hs2 hS2)
    · rw [if_neg he]
      have hlt : n < nrem := by
        have : n ≠ nrem := fun z => he (by rw [z]; exact beq_self_eq_true _)
        omega
      have hl := hl hlt
      by_cases hn2 : n > 1
      · rw [if_pos hn2]
        refine wpS_bind (wp_ltAt hA hS2.sb (by omega) (by omega) ?_)
        by_cases hr : kz R (arrOf st2) lo < kz R (arrOf st2) (lo + n - 1)
        · rw [decide_eq_true hr]
          exact wpS_pure (h n st2 hn1 hn hs2 hS2)
        · rw [decide_eq_false hr]
          simp only [Bool.false_eq_true, if_false]
          have heq : ∀ k, lo ≤ k → k < lo + n → kz R (arrOf st2) k = kz R (arrOf st2) (lo + n - 1) := fun k h1 h2 => by
            have a1 := hs2 lo k (Nat.le_refl _) h1 h2
            have a2 := hs2 k (lo + n - 1) h1 (by omega) (by omega)
            omega
          have hD : Dn R (arrOf st2) lo (lo + n) := fun i j a b c => by rw [heq i a (by omega), heq j (by omega) c]; exact Int.le_refl _
          have hm := hD.turn (i := lo) (j := lo + n) (Nat.le_refl _) (Nat.le_refl _) (by omega) heq
          have hS3 : Stp κ a₀ lo (lo + nrem) st (setArr st2 (mirror (arrOf st2) lo (lo + n) ((lo + n - lo) / 2))) := hS2.setArr (loc_mirror (Nat.le_refl _) (by omega) (by omega))
          have hD3 : Dn R (arrOf (setArr st2 (mirror (arrOf st2) lo (lo + n) ((lo + n - lo) / 2)))) lo (lo + (n + 1)) := by
            refine Dn.more (hD.same hm) ?_
            show kz R (mirror _ _ _ _) _ ≤ kz R (mirror _ _ _ _) _
            rw [hm, hm]; exact Int.le_of_lt hl
          refine wpS_bind (wp_rev ?_)
          generalize setArr st2 (mirror (arrOf st2) lo (lo + n) ((lo + n - lo) / 2)) = st5 at hS3 hD3 ⊢
          clear hS2
          have hS2 := hS3
          have hD2 := hD3
          walk_at "desc_tail"
      · rw [if_neg hn2]
        have hD2 : Dn R (arrOf st2) lo (lo + (n + 1)) := by
          have hD0 : Dn R (arrOf st2) lo (lo + n) := fun i j a b c => by rw [show i = j by omega]; exact Int.le_refl _
          exact hD0.more (Int.le_of_lt hl)
        walk_at "desc_tail"
end
end Sg
namespace Sg
open PySem PyProof.Rows
set_option hygiene false in
local macro_rules | `(tactic| walk_at "open_priv") => `(tactic| (unfold wpS; wp_delta; wp_delta; change wpS _ _ _ _ _ _ _))
theorem kz_bubble {R : Keyed → Int} {xs : Array Keyed} {src d : Nat} (hs : src < xs.size) (hd : d ≤ src) (k : Nat) :
    kz R (bubble xs src d) k = if k = src - d then kz R xs src else if src - d < k ∧ k ≤ src then kz R xs (k - 1) else kz R xs k := by
  have e := getElem?_bubble hs d hd k
  split at e
  · rename_i h; rw [if_pos h]; exact kz_congr e
  · rename_i h
    rw [if_neg h]
    split at e
    · rename_i h2; rw [if_pos h2]; exact kz_congr e
    · rename_i h2; rw [if_neg h2]; exact kz_congr e
theorem loc_bubble {lo hi src d : Nat} {xs : Array Keyed} (h1 : lo ≤ src - d) (h2 : src < hi) (hs : src < xs.size) (hd : d ≤ src) : Loc lo hi xs (bubble xs src d) :=
  ⟨bubble_perm _ _ _, fun k h => by rw [getElem?_bubble hs d hd, if_neg (by omega), if_neg (by omega)]⟩
section
variable {prog : Program} {w : World} {A : Around} {E : Value → Shared → Prop} {s : Shared} {κ : SortKind} {R : Keyed → Int} {a₀ : Array Keyed} {st : SortSt}
theorem wp_bin {lo n ok : Nat} {Q : Bool → SortSt → Prop} (hA : Ans prog w A E s κ R a₀) (hB : SB κ a₀ st) (hz : lo + n ≤ a₀.size) (h1 : 1 ≤ ok) (hok : ok ≤ n) (hs : Sr R (arrOf st) lo (lo + ok))
    (h : ∀ st', Sr R (arrOf st') lo (lo + n) → Stp κ a₀ lo (lo + n) st st' → Q true st') : wpS (model prog w) A E s (binarySort' lo n ok) Q st := by
  rw [binarySort'_eq]
  refine wpS_bind (wpS_mono (wpS_forRange (I := fun k c st' => c = (none, ()) ∧ Stp κ a₀ lo (lo + n) st st' ∧ Sr R (arrOf st') lo (lo + k))
    (Q := fun c st' => c = (none, ()) ∧ Stp κ a₀ lo (lo + n) st st' ∧ Sr R (arrOf st') lo (lo + n)) ?step ?fin ?init) ?post)
  case init => exact ⟨rfl, .refl hB, by rw [show max ok 1 = ok by omega]; exact hs⟩
  case fin =>
    rintro c st' ⟨hc, hS, hs'⟩
    exact ⟨hc, hS, by rw [show max (max ok 1) n = n by omega] at hs'; exact hs'⟩
  case post =>
    rintro c st' ⟨rfl, hS, hs'⟩
    exact wpS_pure (h st' hs' hS)
  case step =>
    rintro k c st' hk1 hk2 ⟨rfl, hS, hs'⟩
    have hz' := hS.sb.size
    refine wpS_bind (wpS_mono (wpS_forRange (I := fun x c st'' => st'' = st' ∧ ∃ l r, c = (none, l, r) ∧ l ≤ r ∧ r ≤ k ∧ r - l ≤ k - x ∧
        (∀ i, lo ≤ i → i < lo + l → kz R (arrOf st') i ≤ kz R (arrOf st') (lo + k)) ∧ (∀ i, lo + r ≤ i → i < lo + k → kz R (arrOf st') (lo + k) < kz R (arrOf st') i))
      (Q := fun c st'' => st'' = st' ∧ ∃ l r, c = (none, l, r) ∧ l ≤ k ∧
        (∀ i, lo ≤ i → i < lo + l → kz R (arrOf st') i ≤ kz R (arrOf st') (lo + k)) ∧ (∀ i, lo + l ≤ i → i < lo + k → kz R (arrOf st') (lo + k) < kz R (arrOf st') i)) ?istep ?ifin ?iinit) ?ipost)
    case iinit => exact ⟨rfl, 0, k, rfl, by omega, by omega, by omega, fun i a b => by omega, fun i a b => by omega⟩
    case ifin =>
      rintro c st'' ⟨rfl, l, r, rfl, a1, a2, a3, a4, a5⟩
      have e : l = r := by omega
      subst e
      exact ⟨rfl, l, l, rfl, a2, a4, a5⟩
    case istep =>
      rintro x c st'' hx1 hx2 ⟨rfl, l, r, rfl, a1, a2, a3, a4, a5⟩
      dsimp only
      by_cases hge : l ≥ r
      · rw [if_pos hge]
        have e : l = r := by omega
        subst e
        exact wpS_pure ⟨rfl, l, l, rfl, a2, a4, a5⟩
      · rw [if_neg hge]
        refine wpS_bind (wp_ltAt hA hS.sb (by omega) (by omega) ?_)
        by_cases hlt : kz R (arrOf st'') (lo + k) < kz R (arrOf st'') (lo + (l + r) / 2)
        · rw [decide_eq_true hlt]
          refine wpS_pure ⟨rfl, l, (l + r) / 2, rfl, by omega, by omega, by omega, a4, fun i b1 b2 => ?_⟩
          have := hs' (lo + (l + r) / 2) i (by omega) b1 b2
          omega
        · rw [decide_eq_false hlt]
          refine wpS_pure ⟨rfl, (l + r) / 2 + 1, r, rfl, by omega, by omega, by omega, fun i b1 b2 => ?_, a5⟩
          have := hs' i (lo + (l + r) / 2) b1 (by omega) (by omega)
          omega
    case ipost =>
      rintro c st'' ⟨rfl, l, r, rfl, a2, a4, a5⟩
      dsimp only
      rw [moveDown'_eq]
      refine wpS_bind (wpS_modify (wpS_pure ⟨rfl, hS.setArr (loc_bubble (by omega) (by omega) (by omega) (by omega)), ?_⟩))
      intro i j b1 b2 b3
      show kz R (bubble (arrOf st'') (lo + k) (lo + k - (lo + l))) i ≤ kz R (bubble (arrOf st'') (lo + k) (lo + k - (lo + l))) j
      rw [kz_bubble (by omega) (by omega), kz_bubble (by omega) (by omega)]
      have e1 : lo + k - (lo + k - (lo + l)) = lo + l := by omega
      rw [e1]
      by_cases c1 : i = lo + l
      · rw [if_pos c1]
        by_cases c2 : j = lo + l
        · rw [if_pos c2]; exact Int.le_refl _
        · rw [if_neg c2, if_pos (by omega)]
          exact Int.le_of_lt (a5 (j - 1) (by omega) (by omega))
      · rw [if_neg c1]
        by_cases c2 : lo + l < i ∧ i ≤ lo + k
        · rw [if_pos c2, if_neg (by omega), if_pos (by omega)]
          exact hs' (i - 1) (j - 1) (by omega) (by omega) (by omega)
        · rw [if_neg c2]
          by_cases c3 : j = lo + l
          · rw [if_pos c3]; exact a4 i b1 (by omega)
          · rw [if_neg c3]
            by_cases c4 : lo + l < j ∧ j ≤ lo + k
            · rw [if_pos c4]; exact hs' i (j - 1) b1 (by omega) (by omega)
            · rw [if_neg c4]; exact hs' i j b1 b2 (by omega)
def gallop' : Bool → Keyed → Array Keyed → Nat → Nat → Nat → StateT SortSt Sem (Option Nat) := sortPriv% PySem.Builtin.gallop
def gb (R : Keyed → Int) (left : Bool) (key : Keyed) (arr : Array Keyed) (base i : Nat) : Bool := if left = true then decide (kz R arr (base + i) < R key) else !decide (R key < kz R arr (base + i))
theorem gb_anti {left : Bool} {key : Keyed} {arr : Array Keyed} {base n i j : Nat} (hs : Sr R arr base (base + n)) (hij : i ≤ j) (hj : j < n) : gb R left key arr base j = true → gb R left key arr base i = true := by
  have := hs (base + i) (base + j) (by omega) (by omega) (by omega)
  unfold gb
  cases left with
  | true => simp only [if_true, decide_eq_true_eq]; intro h; omega
  | false => simp only [Bool.false_eq_true, if_false, Bool.not_eq_true', decide_eq_false_iff_not]; intro h; omega
theorem wp_beyond {left : Bool} {key : Keyed} {arr : Array Keyed} {base n i : Nat} {Q : Option Bool → SortSt → Prop} (hA : Ans prog w A E s κ R a₀) (hk : kindOf st = κ) (hkey : key ∈ a₀.toList) (harr : ∀ x ∈ arr.toList, x ∈ a₀.toList)
    (hz : base + n ≤ arr.size) (hi : i < n) (h : Q (some (gb R left key arr base i)) st) :
    wpS (model prog w) A E s (elem' arr (base + i) >>= fun x => if left = true then lt' x key else lt' key x >>= fun b => pure (b.map fun z => !z)) Q st := by
  have hi' : base + i < arr.size := by omega
  have e : arr[base + i]? = some arr[base + i] := getElem?_pos arr _ hi'
  have hm : arr[base + i] ∈ a₀.toList := harr _ (by simp)
  unfold gb kz at h
  rw [e] at h
  refine wpS_bind (wp_elem e ?_)
  cases left with
  | true => exact hA.lt hm hkey hk h
  | false => exact wpS_bind (hA.lt hkey hm hk (wpS_pure h))
set_option hygiene false in
local macro_rules | `(tactic| walk_at "gallop_end") => `(tactic| (
  refine wpS_bind (wpS_mono (wpS_forRange (I := fun x c st' => st = st' ∧ ∃ lo hi, c = (none, lo, hi) ∧ lo ≤ hi ∧ hi ≤ n ∧ hi - lo ≤ n - x ∧ (∀ i, i < lo → gb R left key arr base i = true) ∧ (∀ i, hi ≤ i → i < n → gb R left key arr base i = false))
    (Q := fun c st' => st = st' ∧ ∃ lo hi, c = (none, lo, hi) ∧ hi ≤ n ∧ (∀ i, i < hi → gb R left key arr base i = true) ∧ (∀ i, hi ≤ i → i < n → gb R left key arr base i = false)) ?bs ?bf ?bi) ?bp)
  case bi => exact ⟨rfl, _, _, rfl, g1, g2, by omega, g3, g4⟩
  case bf =>
    rintro c st' ⟨rfl, lo, hi, rfl, b1, b2, b3, b4, b5⟩
    have e : lo = hi := by omega
    subst e
    exact ⟨rfl, lo, lo, rfl, b2, b4, b5⟩
  case bp =>
    rintro c st' ⟨rfl, lo, hi, rfl, b2, b4, b5⟩
    exact wpS_pure (h hi b2 b4 b5)
  case bs =>
    rintro x c st' _ hx ⟨rfl, lo, hi, rfl, b1, b2, b3, b4, b5⟩
    dsimp only
    by_cases hge : lo ≥ hi
    · rw [if_pos hge]
      have e : lo = hi := by omega
      subst e
      exact wpS_pure ⟨rfl, lo, lo, rfl, b2, b4, b5⟩
    · rw [if_neg hge]
      refine wpS_bind (wp_beyond hA hk hkey harr hz (i := lo + (hi - lo) / 2) (by omega) ?_)
      cases hb : gb R left key arr base (lo + (hi - lo) / 2) with
      | true => exact wpS_pure ⟨rfl, lo + (hi - lo) / 2 + 1, hi, rfl, by omega, by omega, by omega, fun i hi' => gb_anti hs (show i ≤ lo + (hi - lo) / 2 by omega) (by omega) hb, b5⟩
      | false =>
        refine wpS_pure ⟨rfl, lo, lo + (hi - lo) / 2, rfl, by omega, by omega, by omega, b4, fun i h1 h2 => ?_⟩
        cases hb2 : gb R left key arr base i with
        | false => rfl
        | true => rw [gb_anti hs h1 h2 hb2] at hb; cases hb))
theorem wp_gallop {left : Bool} {key : Keyed} {arr : Array Keyed} {base n hint : Nat} {Q : Option Nat → SortSt → Prop} (hA : Ans prog w A E s κ R a₀) (hk : kindOf st = κ) (hkey : key ∈ a₀.toList) (harr : ∀ x ∈ arr.toList, x ∈ a₀.toList)
    (hz : base + n ≤ arr.size) (hh : hint < n) (hs : Sr R arr base (base + n))
    (h : ∀ p, p ≤ n → (∀ i, i < p → gb R left key arr base i = true) → (∀ i, p ≤ i → i < n → gb R left key arr base i = false) → Q (some p) st) : wpS (model prog w) A E s (gallop' left key arr base n hint) Q st := by
  unfold gallop'
  walk_at "open_priv"
  dsimp only
  refine wpS_bind (wp_beyond hA hk hkey harr hz hh ?_)
  cases hr : gb R left key arr base hint with
  | true =>
    dsimp only
    simp only [if_true]
    refine wpS_bind (wpS_mono (wpS_forRange (I := fun x c st' => st = st' ∧ ∃ la of, c = (none, la, of) ∧ la < of ∧ x < of ∧ hint + la < n ∧ gb R left key arr base (hint + la) = true)
      (Q := fun c st' => st = st' ∧ ∃ la of, c = (none, la, of) ∧ la < of ∧ hint + la < n ∧ gb R left key arr base (hint + la) = true ∧ (n - hint ≤ of ∨ (hint + of < n ∧ gb R left key arr base (hint + of) = false))) ?s1 ?f1 ?i1) ?p1)
    case i1 => exact ⟨rfl, 0, 1, rfl, by omega, by omega, by omega, hr⟩
    case f1 =>
      rintro c st' ⟨rfl, la, of, rfl, a1, a2, a3, a4⟩
      exact ⟨rfl, la, of, rfl, a1, a3, a4, .inl (by omega)⟩
    case s1 =>
      rintro x c st' _ hx ⟨rfl, la, of, rfl, a1, a2, a3, a4⟩
      dsimp only
      by_cases hge : of ≥ n - hint
      · rw [if_pos hge]
        exact wpS_pure ⟨rfl, la, of, rfl, a1, a3, a4, .inl hge⟩
      · rw [if_neg hge]
        refine wpS_bind (wp_beyond hA hk hkey harr hz (i := hint + of) (by omega) ?_)
        cases hb : gb R left key arr base (hint + of) with
        | true => exact wpS_pure ⟨rfl, of, 2 * of + 1, rfl, by omega, by omega, by omega, hb⟩
        | false => exact wpS_pure ⟨rfl, la, of, rfl, a1, a3, a4, .inr ⟨by omega, hb⟩⟩
    case p1 =>
      rintro c st' ⟨rfl, la, of, rfl, a1, a3, a4, a5⟩
      dsimp only
      have g1 : hint + la + 1 ≤ hint + min of (n - hint) := by omega
      have g2 : hint + min of (n - hint) ≤ n := by omega
      have g3 : ∀ i, i < hint + la + 1 → gb R left key arr base i = true := fun i hi => gb_anti hs (show i ≤ hint + la by omega) a3 a4
      have g4 : ∀ i, hint + min of (n - hint) ≤ i → i < n → gb R left key arr base i = false := fun i h1 h2 => by
        rcases a5 with a5 | ⟨a5, a6⟩
        · omega
        · cases hb2 : gb R left key arr base i with
          | false => rfl
          | true => rw [gb_anti hs (show hint + of ≤ i by omega) h2 hb2] at a6; cases a6
      walk_at "gallop_end"
  | false =>
    dsimp only
    simp only [Bool.false_eq_true, if_false]
    refine wpS_bind (wpS_mono (wpS_forRange (I := fun x c st' => st = st' ∧ ∃ la of, c = (none, la, of) ∧ la < of ∧ x < of ∧ la ≤ hint ∧ gb R left key arr base (hint - la) = false)
      (Q := fun c st' => st = st' ∧ ∃ la of, c = (none, la, of) ∧ la < of ∧ la ≤ hint ∧ gb R left key arr base (hint - la) = false ∧ (hint + 1 ≤ of ∨ (of ≤ hint ∧ gb R left key arr base (hint - of) = true))) ?s1 ?f1 ?i1) ?p1)
    case i1 => exact ⟨rfl, 0, 1, rfl, by omega, by omega, by omega, hr⟩
    case f1 =>
      rintro c st' ⟨rfl, la, of, rfl, a1, a2, a3, a4⟩
      exact ⟨rfl, la, of, rfl, a1, a3, a4, .inl (by omega)⟩
    case s1 =>
      rintro x c st' _ hx ⟨rfl, la, of, rfl, a1, a2, a3, a4⟩
      dsimp only
      by_cases hge : of ≥ hint + 1
      · rw [if_pos hge]
        exact wpS_pure ⟨rfl, la, of, rfl, a1, a3, a4, .inl hge⟩
      · rw [if_neg hge]
        refine wpS_bind (wp_beyond hA hk hkey harr hz (i := hint - of) (by omega) ?_)
        cases hb : gb R left key arr base (hint - of) with
        | true => exact wpS_pure ⟨rfl, la, of, rfl, a1, a3, a4, .inr ⟨by omega, hb⟩⟩
        | false => exact wpS_pure ⟨rfl, of, 2 * of + 1, rfl, by omega, by omega, by omega, hb⟩
    case p1 =>
      rintro c st' ⟨rfl, la, of, rfl, a1, a3, a4, a5⟩
      dsimp only
      have g1 : hint + 1 - min of (hint + 1) ≤ hint - la := by omega
      have g2 : hint - la ≤ n := by omega
      have g3 : ∀ i, i < hint + 1 - min of (hint + 1) → gb R left key arr base i = true := fun i hi => by
        rcases a5 with a5 | ⟨a5, a6⟩
        · omega
        · exact gb_anti hs (show i ≤ hint - of by omega) (by omega) a6
      have g4 : ∀ i, hint - la ≤ i → i < n → gb R left key arr base i = false := fun i h1 h2 => by
        cases hb2 : gb R left key arr base i with
        | false => rfl
        | true => rw [gb_anti hs h1 h2 hb2] at a4; cases a4
      walk_at "gallop_end"
end
end Sg
namespace Sg
open PySem PyProof.Rows
def Ps (R : Keyed → Int) (l : List Keyed) : Prop := l.Pairwise fun x y => R x ≤ R y
theorem ps_app {R : Keyed → Int} {l l' : List Keyed} (h : Ps R l) (h' : Ps R l') (hb : ∀ x ∈ l, ∀ y ∈ l', R x ≤ R y) : Ps R (l ++ l') := List.pairwise_append.mpr ⟨h, h', hb⟩
structure Mi (R : Keyed → Int) (T out A' B' : List Keyed) : Prop where
  perm : (out ++ (A' ++ B')).Perm T
  so : Ps R out
  sa : Ps R A'
  sb : Ps R B'
  oa : ∀ x ∈ out, ∀ y ∈ A', R x ≤ R y
  ob : ∀ x ∈ out, ∀ y ∈ B', R x ≤ R y
section
variable {R : Keyed → Int} {T out A' B' ys : List Keyed}
theorem Mi.moveA (h : Mi R T out (ys ++ A') B') (hb : ∀ y ∈ ys, ∀ z ∈ B', R y ≤ R z) : Mi R T (out ++ ys) A' B' := by
  have h1 := List.pairwise_append.mp h.sa
  refine ⟨?_, ps_app h.so h1.1 fun x hx y hy => h.oa x hx y (List.mem_append_left _ hy), h1.2.1, h.sb, fun x hx y hy => ?_, fun x hx y hy => ?_⟩
  · have := h.perm
    rw [List.append_assoc] at this
    rw [List.append_assoc]
    exact this
  · rcases List.mem_append.mp hx with hx | hx
    · exact h.oa x hx y (List.mem_append_right _ hy)
    · exact h1.2.2 x hx y hy
  · rcases List.mem_append.mp hx with hx | hx
    · exact h.ob x hx y hy
    · exact hb x hx y hy
theorem Mi.moveB (h : Mi R T out A' (ys ++ B')) (ha : ∀ y ∈ ys, ∀ z ∈ A', R y ≤ R z) : Mi R T (out ++ ys) A' B' := by
  have h1 := List.pairwise_append.mp h.sb
  refine ⟨?_, ps_app h.so h1.1 fun x hx y hy => h.ob x hx y (List.mem_append_left _ hy), h.sa, h1.2.1, fun x hx y hy => ?_, fun x hx y hy => ?_⟩
  · refine List.Perm.trans ?_ h.perm
    rw [List.append_assoc]
    refine List.Perm.append_left _ ?_
    rw [← List.append_assoc, ← List.append_assoc]
    exact List.perm_append_comm.append_right _
  · rcases List.mem_append.mp hx with hx | hx
    · exact h.oa x hx y hy
    · exact ha x hx y hy
  · rcases List.mem_append.mp hx with hx | hx
    · exact h.ob x hx y (List.mem_append_right _ hy)
    · exact h1.2.2 x hx y hy
def Fn (R : Keyed → Int) (T : List Keyed) (r : Array Keyed) : Prop := Ps R r.toList ∧ r.toList.Perm T
end
theorem ext_drop {α : Type} (a : Array α) (i : Nat) : (a.extract i a.size).toList = a.toList.drop i := by
  rw [Array.toList_extract, List.extract_eq_take_drop, List.take_of_length_le (by simp)]
theorem ext_take {α : Type} (a : Array α) (i k : Nat) : (a.extract i (i + k)).toList = (a.toList.drop i).take k := by
  rw [Array.toList_extract, List.extract_eq_take_drop]
  congr 1; omega
theorem drop1 {α : Type} {l : List α} {i : Nat} {x : α} (h : l[i]? = some x) : l.drop i = [x] ++ l.drop (i + 1) := by
  obtain ⟨hj, e⟩ := List.getElem?_eq_some_iff.mp h
  rw [List.drop_eq_getElem_cons hj, e]; rfl
theorem dropk {α : Type} (l : List α) (i k : Nat) : l.drop i = (l.drop i).take k ++ l.drop (i + k) := by
  rw [← List.drop_drop, List.take_append_drop]
theorem mem_chunk {α : Type} {l : List α} {i k : Nat} {x : α} (h : x ∈ (l.drop i).take k) : ∃ j, j < k ∧ l[i + j]? = some x := by
  obtain ⟨j, hj, e⟩ := List.getElem_of_mem h
  rw [List.length_take] at hj
  refine ⟨j, by omega, ?_⟩
  rw [List.getElem_take, List.getElem_drop] at e
  rw [List.getElem?_eq_getElem (by rw [List.length_drop] at hj; omega), e]
theorem mem_rest {α : Type} {l : List α} {i : Nat} {x : α} (h : x ∈ l.drop i) : ∃ j, i + j < l.length ∧ l[i + j]? = some x := by
  obtain ⟨j, hj, e⟩ := List.getElem_of_mem h
  rw [List.length_drop] at hj
  rw [List.getElem_drop] at e
  exact ⟨j, by omega, by rw [List.getElem?_eq_getElem (by omega), e]⟩
theorem kz_at {R : Keyed → Int} {a : Array Keyed} {i : Nat} {x : Keyed} (h : a.toList[i]? = some x) : kz R a i = R x := by
  unfold kz
  rw [Array.getElem?_toList] at h
  rw [h]; rfl
structure SameS (st st' : SortSt) : Prop where
  arr : arrOf st' = arrOf st
  kind : kindOf st' = kindOf st
  pend : pendingOf st' = pendingOf st
  fail : failedOf st' = failedOf st
theorem SameS.refl (st : SortSt) : SameS st st := ⟨rfl, rfl, rfl, rfl⟩
structure LoI (R : Keyed → Int) (a b out : Array Keyed) (ia ib : Nat) : Prop where
  mi : Mi R (a.toList ++ b.toList) out.toList (a.toList.drop ia) (b.toList.drop ib)
  ha : ia + 1 < a.size
  hb : ib < b.size
section
variable {R : Keyed → Int} {a b out : Array Keyed} {ia ib : Nat}
theorem at_list {a : Array Keyed} {i : Nat} (h : i < a.size) : ∃ x, a[i]? = some x ∧ a.toList[i]? = some x ∧ x ∈ a.toList := ⟨a[i], getElem?_pos a i h, by rw [Array.getElem?_toList]; exact getElem?_pos a i h, by simp⟩
theorem fn_endB (h : Mi R (a.toList ++ b.toList) out.toList (a.toList.drop ia) (b.toList.drop ib)) (hb : ib = b.size) : Fn R (a.toList ++ b.toList) (out ++ a.extract ia a.size ++ b.extract ib b.size) := by
  have e : b.toList.drop ib = [] := by rw [hb]; simp
  unfold Fn
  rw [Array.toList_append, Array.toList_append, ext_drop, ext_drop]
  have hp := h.perm
  rw [e] at hp ⊢
  rw [List.append_nil] at hp ⊢
  exact ⟨ps_app h.so h.sa h.oa, hp⟩
theorem fn_endA (h : Mi R (a.toList ++ b.toList) out.toList (a.toList.drop ia) (b.toList.drop ib)) (ha : ia = a.size) : Fn R (a.toList ++ b.toList) (out ++ a.extract ia a.size ++ b.extract ib b.size) := by
  have e : a.toList.drop ia = [] := by rw [ha]; simp
  unfold Fn
  rw [Array.toList_append, Array.toList_append, ext_drop, ext_drop]
  have hp := h.perm
  rw [e] at hp ⊢
  rw [List.nil_append] at hp
  rw [List.append_nil]
  exact ⟨ps_app h.so h.sb h.ob, hp⟩
theorem fn_lastA (h : Mi R (a.toList ++ b.toList) out.toList (a.toList.drop ia) (b.toList.drop ib)) (ha : ia + 1 = a.size) (hl : ∀ y ∈ b.toList, ∀ z, a.toList[a.size - 1]? = some z → R y ≤ R z) : Fn R (a.toList ++ b.toList) (out ++ b.extract ib b.size ++ a.extract ia a.size) := by
  obtain ⟨z, _, hz, _⟩ := at_list (a := a) (i := ia) (by omega)
  have e : a.toList.drop ia = [z] := by rw [drop1 hz, List.drop_eq_nil_of_le (by simp; omega)]; rfl
  unfold Fn
  rw [Array.toList_append, Array.toList_append, ext_drop, ext_drop]
  have hp := h.perm
  have hoa := h.oa
  rw [e] at hp hoa ⊢
  refine ⟨ps_app (ps_app h.so h.sb h.ob) (List.pairwise_singleton _ _) fun x hx y hy => ?_, ?_⟩
  · rcases List.mem_append.mp hx with hx | hx
    · exact hoa x hx y hy
    · have : y = z := by simpa using hy
      subst this
      exact hl x (List.mem_of_mem_drop hx) y (by rw [show a.size - 1 = ia by omega]; exact hz)
  · refine List.Perm.trans ?_ hp
    rw [List.append_assoc]
    exact List.Perm.append_left _ List.perm_append_comm
theorem mi_pushB (h : Mi R (a.toList ++ b.toList) out.toList (a.toList.drop ia) (b.toList.drop ib)) {y : Keyed} (hy : b.toList[ib]? = some y) (hl : ∀ z ∈ a.toList.drop ia, R y ≤ R z) : Mi R (a.toList ++ b.toList) (out.push y).toList (a.toList.drop ia) (b.toList.drop (ib + 1)) := by
  rw [drop1 hy] at h
  rw [Array.toList_push]
  exact h.moveB fun x hx z hz => by have : x = y := by simpa using hx
                                    subst this; exact hl z hz
theorem mi_pushA (h : Mi R (a.toList ++ b.toList) out.toList (a.toList.drop ia) (b.toList.drop ib)) {x : Keyed} (hx : a.toList[ia]? = some x) (hl : ∀ z ∈ b.toList.drop ib, R x ≤ R z) : Mi R (a.toList ++ b.toList) (out.push x).toList (a.toList.drop (ia + 1)) (b.toList.drop ib) := by
  rw [drop1 hx] at h
  rw [Array.toList_push]
  exact h.moveA fun y hy z hz => by have : y = x := by simpa using hy
                                    subst this; exact hl z hz
theorem head_le {l : List Keyed} {i : Nat} {x : Keyed} (hs : Ps R (l.drop i)) (hx : l[i]? = some x) : ∀ z ∈ l.drop i, R x ≤ R z := fun z hz => by
  rw [drop1 hx] at hs hz
  rcases List.mem_cons.mp hz with rfl | hz
  · exact Int.le_refl _
  · exact (List.pairwise_cons.mp hs).1 z hz
theorem mi_chunkA (h : Mi R (a.toList ++ b.toList) out.toList (a.toList.drop ia) (b.toList.drop ib)) {y : Keyed} {k : Nat} (hy : b.toList[ib]? = some y) (hk : ∀ i, i < k → gb R false y a ia i = true) : Mi R (a.toList ++ b.toList) (out ++ a.extract ia (ia + k)).toList (a.toList.drop (ia + k)) (b.toList.drop ib) := by
  have hl := head_le h.sb hy
  rw [dropk a.toList ia k] at h
  rw [Array.toList_append, ext_take]
  refine h.moveA fun x hx z hz => ?_
  obtain ⟨j, hj, e⟩ := mem_chunk hx
  have := hk j hj
  unfold gb at this
  rw [kz_at e] at this
  simp at this
  have := hl z hz
  omega
theorem mi_restA {y : Keyed} {k n : Nat} (hn : ia + n = a.size) (hk : ∀ i, k ≤ i → i < n → gb R false y a ia i = false) : ∀ z ∈ a.toList.drop (ia + k), R y ≤ R z := fun z hz => by
  obtain ⟨j, hj, e⟩ := mem_rest hz
  rw [Array.length_toList] at hj
  have := hk (k + j) (by omega) (by omega)
  unfold gb at this
  rw [show ia + (k + j) = ia + k + j by omega, kz_at e] at this
  simp at this
  omega
theorem mi_chunkB (h : Mi R (a.toList ++ b.toList) out.toList (a.toList.drop ia) (b.toList.drop ib)) {x : Keyed} {k : Nat} (hx : a.toList[ia]? = some x) (hk : ∀ i, i < k → gb R true x b ib i = true) : Mi R (a.toList ++ b.toList) (out ++ b.extract ib (ib + k)).toList (a.toList.drop ia) (b.toList.drop (ib + k)) := by
  have hl := head_le h.sa hx
  rw [dropk b.toList ib k] at h
  rw [Array.toList_append, ext_take]
  refine h.moveB fun y hy z hz => ?_
  obtain ⟨j, hj, e⟩ := mem_chunk hy
  have := hk j hj
  unfold gb at this
  rw [kz_at e] at this
  simp at this
  have := hl z hz
  omega
theorem mi_restB {x : Keyed} {k n : Nat} (hn : ib + n = b.size) (hk : ∀ i, k ≤ i → i < n → gb R true x b ib i = false) : ∀ z ∈ b.toList.drop (ib + k), R x ≤ R z := fun z hz => by
  obtain ⟨j, hj, e⟩ := mem_rest hz
  rw [Array.length_toList] at hj
  have := hk (k + j) (by omega) (by omega)
  unfold gb at this
  rw [show ib + (k + j) = ib + k + j by omega, kz_at e] at this
  simp at this
  omega
theorem sr_of_ps {a : Array Keyed} {i : Nat} (h : Ps R (a.toList.drop i)) : Sr R a i a.size := fun p q h1 h2 h3 => by
  by_cases e : p = q
  · subst e; exact Int.le_refl _
  · obtain ⟨x, _, hx, _⟩ := at_list (a := a) (i := p) (by omega)
    obtain ⟨y, _, hy, _⟩ := at_list (a := a) (i := q) (by omega)
    rw [kz_at hx, kz_at hy]
    have h' := List.pairwise_iff_getElem.mp h (p - i) (q - i) (by simp; omega) (by simp; omega) (by omega)
    rw [List.getElem_drop, List.getElem_drop] at h'
    have ex : a.toList[i + (p - i)]'(by simp; omega) = x := by
      have := List.getElem?_eq_some_iff.mp hx
      obtain ⟨_, e⟩ := this
      rw [← e]; congr 1; omega
    have ey : a.toList[i + (q - i)]'(by simp; omega) = y := by
      have := List.getElem?_eq_some_iff.mp hy
      obtain ⟨_, e⟩ := this
      rw [← e]; congr 1; omega
    rw [ex, ey] at h'
    exact h'
end
end Sg
namespace Sg
open PySem PyProof.Rows
set_option hygiene false in
local macro_rules | `(tactic| walk_at "open_priv") => `(tactic| (unfold wpS; wp_delta; wp_delta; change wpS _ _ _ _ _ _ _))
section
variable {prog : Program} {w : World} {A : Around} {E : Value → Shared → Prop} {s : Shared} {κ : SortKind} {R : Keyed → Int} {a₀ : Array Keyed} {st : SortSt}
def mergeLo' : Array Keyed → Array Keyed → StateT SortSt Sem (Array Keyed) := sortPriv% PySem.Builtin.mergeLo
def setMin' : Nat → StateT SortSt Sem Unit := sortPriv% PySem.Builtin.setMinGallop
theorem wp_setMin {g : Nat} {Q : Unit → SortSt → Prop} {st' : SortSt} (hS : SameS st st') (h : ∀ st2, SameS st st2 → Q () st2) : wpS (model prog w) A E s (setMin' g) Q st' := by
  unfold setMin'
  walk_at "open_priv"
  exact wpS_modify (h _ ⟨hS.arr, hS.kind, hS.pend, hS.fail⟩)
set_option hygiene false in
local macro_rules | `(tactic| walk_at "lo_four") => `(tactic| (
  -- out3, ia2, ib3 : h3 : Mi .., x at ia2, x before what is left of b
  refine wpS_bind (wp_elem hx2 ?_)
  have h4 := mi_pushA h3 hx2' hxr
  try dsimp only
  by_cases e4 : (ia2 + 1 + 1 == a.size) = true
  · rw [if_pos e4]
    exact wpS_pure ⟨hS5, .inl ⟨_, _, rfl, fn_lastA h4 (eq_of_beq e4) hl⟩⟩
  · rw [if_neg e4]
    have e4' : ia2 + 1 + 1 ≠ a.size := fun z => e4 (by rw [z]; exact beq_self_eq_true _)
    have hI4 : LoI R a b (out3.push x) (ia2 + 1) ib3 := ⟨h4, by omega, hib3⟩
    split
    · exact wpS_pure ⟨hS5, .inr ⟨_, _, _, _, _, _, rfl, hI4, by omega⟩⟩
    · exact wpS_pure ⟨hS5, _, _, _, _, _, _, rfl, hI4, by omega⟩))
set_option hygiene false in
local macro_rules | `(tactic| walk_at "lo_three") => `(tactic| (
  -- out2, ia2 : h2 : Mi out2 (drop ia2) (drop ib), y at ib before what is left of a, ia2 + 1 < a.size
  refine wpS_bind (wp_elem hy1 ?_)
  have h3' := mi_pushB h2 hy1' hyr
  try dsimp only
  by_cases e3 : (ib + 1 == b.size) = true
  · rw [if_pos e3]
    exact wpS_pure ⟨hS5, .inl ⟨_, _, rfl, fn_endB h3' (eq_of_beq e3)⟩⟩
  · rw [if_neg e3]
    have e3' : ib + 1 ≠ b.size := fun z => e3 (by rw [z]; exact beq_self_eq_true _)
    obtain ⟨x, hx2, hx2', hxm⟩ := at_list (a := a) (i := ia2) (by omega)
    refine wpS_bind (wp_elem hx2 ?_)
    refine wpS_bind (wp_gallop (left := true) hA (hS5.kind.trans hk) (hma x hxm) hmb (by omega) (by omega) (by rw [show ib + 1 + (b.size - (ib + 1)) = b.size by omega]; exact sr_of_ps h3'.sb) fun k2 hk2 hg1 hg2 => ?_)
    have hc := mi_chunkB h3' hx2' hg1
    have hxr' := mi_restB (b := b) (ib := ib + 1) (n := b.size - (ib + 1)) (by omega) hg2
    try dsimp only
    by_cases e5 : k2 > 0
    · rw [if_pos e5]
      by_cases e6 : (ib + 1 + k2 == b.size) = true
      · rw [if_pos e6]
        exact wpS_pure ⟨hS5, .inl ⟨_, _, rfl, fn_endB hc (eq_of_beq e6)⟩⟩
      · rw [if_neg e6]
        have e6' : ib + 1 + k2 ≠ b.size := fun z => e6 (by rw [z]; exact beq_self_eq_true _)
        have hib3 : ib + 1 + k2 < b.size := by omega
        have hxr := hxr'
        have h3 := hc
        generalize out2.push y ++ b.extract (ib + 1) (ib + 1 + k2) = out3 at *
        have hgrow : ib + 1 ≤ ib + 1 + k2 := by omega
        generalize ib + 1 + k2 = ib3 at *
        walk_at "lo_four"
    · rw [if_neg e5]
      have e5' : k2 = 0 := by omega
      subst e5'
      have hxr := hxr'
      have h3 := h3'
      have hib3 : ib + 1 < b.size := by omega
      generalize out2.push y = out3 at *
      have hgrow : ib + 1 ≤ ib + 1 := by omega
      rw [Nat.add_zero] at hxr
      generalize hib3e : ib + 1 = ib3 at *
      walk_at "lo_four"))
set_option hygiene false in
local macro_rules | `(tactic| walk_at "lo_two") => `(tactic| (
  refine wpS_bind (wp_setMin hS4 fun st5 hS5 => ?_)
  obtain ⟨y, hy1, hy1', hym⟩ := at_list (a := b) (i := ib) hI.hb
  have hia := hI.ha
  have hib := hI.hb
  refine wpS_bind (wp_elem hy1 ?_)
  refine wpS_bind (wp_gallop (left := false) hA (hS5.kind.trans hk) (hmb y hym) hma (by omega) (by omega) (by rw [show ia + (a.size - ia) = a.size by omega]; exact sr_of_ps hI.mi.sa) fun k hk1 hg1 hg2 => ?_)
  have hc := mi_chunkA hI.mi hy1' hg1
  have hyr' := mi_restA (a := a) (ia := ia) (n := a.size - ia) (by omega) hg2
  try dsimp only
  by_cases e1 : k > 0
  · rw [if_pos e1]
    by_cases e2 : (ia + k + 1 == a.size) = true
    · rw [if_pos e2]
      exact wpS_pure ⟨hS5, .inl ⟨_, _, rfl, fn_lastA hc (eq_of_beq e2) hl⟩⟩
    · rw [if_neg e2]
      by_cases e3 : (ia + k == a.size) = true
      · rw [if_pos e3]
        exact wpS_pure ⟨hS5, .inl ⟨_, _, rfl, fn_endA hc (eq_of_beq e3)⟩⟩
      · rw [if_neg e3]
        have e2' : ia + k + 1 ≠ a.size := fun z => e2 (by rw [z]; exact beq_self_eq_true _)
        have e3' : ia + k ≠ a.size := fun z => e3 (by rw [z]; exact beq_self_eq_true _)
        have hia2 : ia + k + 1 < a.size := by omega
        have hyr := hyr'
        have h2 := hc
        have hgr : ia ≤ ia + k := by omega
        generalize out ++ a.extract ia (ia + k) = out2 at *
        generalize ia + k = ia2 at *
        walk_at "lo_three"
  · rw [if_neg e1]
    have e1' : k = 0 := by omega
    subst e1'
    have hyr := hyr'
    rw [Nat.add_zero] at hyr
    have h2 := hI.mi
    have hia2 : ia + 1 < a.size := hia
    have hgr : ia ≤ ia := Nat.le_refl _
    generalize out = out2 at *
    generalize hia2e : ia = ia2 at *
    walk_at "lo_three"))
theorem wp_mergeLo {a b : Array Keyed} {Q : Array Keyed → SortSt → Prop} (hA : Ans prog w A E s κ R a₀) (hk : kindOf st = κ) (hma : ∀ x ∈ a.toList, x ∈ a₀.toList) (hmb : ∀ x ∈ b.toList, x ∈ a₀.toList) (ha1 : 1 ≤ a.size) (hb1 : 1 ≤ b.size)
    (hsa : Ps R a.toList) (hsb : Ps R b.toList) (h0 : ∀ x y, a.toList[0]? = some x → b.toList[0]? = some y → R y ≤ R x) (hl : ∀ y ∈ b.toList, ∀ z, a.toList[a.size - 1]? = some z → R y ≤ R z)
    (h : ∀ r st', Fn R (a.toList ++ b.toList) r → SameS st st' → Q r st') : wpS (model prog w) A E s (mergeLo' a b) Q st := by
  unfold mergeLo'
  walk_at "open_priv"
  refine wpS_bind (wpS_lift (wpAny_rule ⟨rfl, ?_⟩))
  try dsimp only
  obtain ⟨y0, hy0, hy0', hy0m⟩ := at_list (a := b) (i := 0) hb1
  obtain ⟨x0, hx0, hx0', hx0m⟩ := at_list (a := a) (i := 0) ha1
  refine wpS_bind (wp_elem hy0 ?_)
  have hm0 : Mi R (a.toList ++ b.toList) (#[] : Array Keyed).toList (a.toList.drop 0) (b.toList.drop 0) := ⟨by simp, List.Pairwise.nil, by simpa using hsa, by simpa using hsb, fun x hx => by simp at hx, fun x hx => by simp at hx⟩
  have hm1 : Mi R (a.toList ++ b.toList) (#[y0] : Array Keyed).toList (a.toList.drop 0) (b.toList.drop 1) := mi_pushB hm0 hy0' fun z hz => by
    have := head_le (i := 0) (by simpa using hsa) hx0' z hz
    have := h0 x0 y0 hx0' hy0'
    omega
  by_cases e1 : (1 == b.size) = true
  · rw [if_pos e1]
    exact wpS_pure (h _ _ (fn_endB hm1 (eq_of_beq e1)) (.refl _))
  rw [if_neg e1]
  have e1' : 1 ≠ b.size := fun z => e1 (by rw [← z]; rfl)
  by_cases e2 : (0 + 1 == a.size) = true
  · rw [if_pos e2]
    exact wpS_pure (h _ _ (fn_lastA hm1 (eq_of_beq e2) hl) (.refl _))
  rw [if_neg e2]
  have e2' : 0 + 1 ≠ a.size := fun z => e2 (by rw [← z]; rfl)
  refine wpS_bind (wpS_get ?_)
  try dsimp only
  refine wpS_bind (wpS_mono (wpS_forRange (I := fun x c st' => SameS st st' ∧ ∃ out ia ib mg, c = (none, out, ia, ib, mg) ∧ LoI R a b out ia ib ∧ x < ia + ib)
    (Q := fun c st' => SameS st st' ∧ ∃ r rest, c = (some r, rest) ∧ Fn R (a.toList ++ b.toList) r) ?step ?fin ?init) ?post)
  case init => exact ⟨.refl _, _, _, _, _, rfl, ⟨hm1, by omega, by omega⟩, by omega⟩
  case fin =>
    rintro c st' ⟨hS, out, ia, ib, mg, rfl, hI, hx⟩
    have := hI.ha
    have := hI.hb
    omega
  case post =>
    rintro c st' ⟨hS, r, rest, rfl, hf⟩
    exact wpS_pure (h _ _ hf hS)
  case step =>
    rintro x c st' _ hx ⟨hS, out0, ia0, ib0, mg, rfl, hI0, hxi⟩
    try dsimp only
    refine wpS_bind (wpS_mono (wpS_forRange (I := fun x c st' => SameS st st' ∧ ∃ out ia ib ac bc, c = (none, out, ia, ib, ac, bc) ∧ LoI R a b out ia ib ∧ ia0 + ib0 + x ≤ ia + ib)
      (Q := fun c st' => SameS st st' ∧ ((∃ r rest, c = (some r, rest) ∧ Fn R (a.toList ++ b.toList) r) ∨ ∃ out ia ib ac bc, c = (none, out, ia, ib, ac, bc) ∧ LoI R a b out ia ib ∧ ia0 + ib0 + 1 ≤ ia + ib)) ?s1 ?f1 ?i1) ?p1)
    case i1 => exact ⟨hS, _, _, _, _, _, rfl, hI0, by omega⟩
    case f1 =>
      rintro c st2 ⟨hS2, out, ia, ib, ac, bc, rfl, hI, hle⟩
      exact ⟨hS2, .inr ⟨_, _, _, _, _, rfl, hI, by omega⟩⟩
    case s1 =>
      rintro x1 c st2 _ hx1 ⟨hS2, out, ia, ib, ac, bc, rfl, hI, hle⟩
      try dsimp only
      have hia := hI.ha
      have hib := hI.hb
      obtain ⟨y, hy, hy', hym⟩ := at_list (a := b) (i := ib) hib
      obtain ⟨x, hx, hx', hxm⟩ := at_list (a := a) (i := ia) (by omega)
      refine wpS_bind (wp_elem hy (wpS_bind (wp_elem hx (wpS_bind (hA.lt (hmb y hym) (hma x hxm) (hS2.kind.trans hk) ?_)))))
      by_cases hlt : R y < R x
      · rw [decide_eq_true hlt]
        try dsimp only
        simp only [if_true]
        refine wpS_bind (wp_elem hy ?_)
        have h2 := mi_pushB hI.mi hy' fun z hz => by have := head_le hI.mi.sa hx' z hz; omega
        try dsimp only
        by_cases e3 : (ib + 1 == b.size) = true
        · rw [if_pos e3]
          exact wpS_pure ⟨hS2, .inl ⟨_, _, rfl, fn_endB h2 (eq_of_beq e3)⟩⟩
        · rw [if_neg e3]
          have e3' : ib + 1 ≠ b.size := fun z => e3 (by rw [z]; exact beq_self_eq_true _)
          have hI2 : LoI R a b (out.push y) ia (ib + 1) := ⟨h2, hia, by omega⟩
          split
          · exact wpS_pure ⟨hS2, .inr ⟨_, _, _, _, _, rfl, hI2, by omega⟩⟩
          · exact wpS_pure ⟨hS2, _, _, _, _, _, rfl, hI2, by omega⟩
      · rw [decide_eq_false hlt]
        try dsimp only
        simp only [Bool.false_eq_true, if_false]
        refine wpS_bind (wp_elem hx ?_)
        have h2 := mi_pushA hI.mi hx' fun z hz => by have := head_le hI.mi.sb hy' z hz; omega
        try dsimp only
        by_cases e3 : (ia + 1 + 1 == a.size) = true
        · rw [if_pos e3]
          exact wpS_pure ⟨hS2, .inl ⟨_, _, rfl, fn_lastA h2 (eq_of_beq e3) hl⟩⟩
        · rw [if_neg e3]
          have e3' : ia + 1 + 1 ≠ a.size := fun z => e3 (by rw [z]; exact beq_self_eq_true _)
          have hI2 : LoI R a b (out.push x) (ia + 1) ib := ⟨h2, by omega, hib⟩
          split
          · exact wpS_pure ⟨hS2, .inr ⟨_, _, _, _, _, rfl, hI2, by omega⟩⟩
          · exact wpS_pure ⟨hS2, _, _, _, _, _, rfl, hI2, by omega⟩
    case p1 =>
      rintro c st2 ⟨hS2, hc | ⟨out1, ia1, ib1, ac, bc, rfl, hI1, hle1⟩⟩
      · obtain ⟨r, rest, rfl, hf⟩ := hc
        exact wpS_pure ⟨hS2, _, _, rfl, hf⟩
      try dsimp only
      refine wpS_bind (wpS_lift (wpAny_rule ⟨rfl, ?_⟩))
      refine wpS_bind (wpS_mono (wpS_forRange (I := fun x c st' => SameS st st' ∧ ∃ out ia ib mg ac bc, c = (none, out, ia, ib, mg, ac, bc) ∧ LoI R a b out ia ib ∧ ia1 + ib1 ≤ ia + ib)
        (Q := fun c st' => SameS st st' ∧ ((∃ r rest, c = (some r, rest) ∧ Fn R (a.toList ++ b.toList) r) ∨ ∃ out ia ib mg ac bc, c = (none, out, ia, ib, mg, ac, bc) ∧ LoI R a b out ia ib ∧ ia1 + ib1 ≤ ia + ib)) ?s2 ?f2 ?i2) ?p2)
      case i2 => exact ⟨hS2, _, _, _, _, _, _, rfl, hI1, Nat.le_refl _⟩
      case f2 =>
        rintro c st3 ⟨hS3, out, ia, ib, mg, ac, bc, rfl, hI, hle⟩
        exact ⟨hS3, .inr ⟨_, _, _, _, _, _, rfl, hI, hle⟩⟩
      case p2 =>
        rintro c st3 ⟨hS3, hc | ⟨out, ia, ib, mg, ac, bc, rfl, hI, hle⟩⟩
        · obtain ⟨r, rest, rfl, hf⟩ := hc
          exact wpS_pure ⟨hS3, _, _, rfl, hf⟩
        try dsimp only
        refine wpS_bind (wp_setMin hS3 fun st4 hS4 => ?_)
        exact wpS_pure ⟨hS4, _, _, _, _, rfl, hI, by omega⟩
      case s2 =>
        rintro x2 c st4 _ hx2 ⟨hS4, out, ia, ib, mg, ac, bc, rfl, hI, hle⟩
        clear hI0 hI1 hm0 hm1
        try dsimp only
        by_cases e0 : mg > 1
        · rw [if_pos e0]
          generalize mg - 1 = mg2
          walk_at "lo_two"
        · rw [if_neg e0]
          walk_at "lo_two"
end
end Sg
namespace Sg
open PySem PyProof.Rows
set_option hygiene false in
local macro_rules | `(tactic| walk_at "open_priv") => `(tactic| (unfold wpS; wp_delta; wp_delta; change wpS _ _ _ _ _ _ _))
structure Mh (R : Keyed → Int) (T rev A' B' : List Keyed) : Prop where
  perm : (A' ++ (B' ++ rev)).Perm T
  so : Ps R rev
  sa : Ps R A'
  sb : Ps R B'
  ao : ∀ x ∈ A', ∀ y ∈ rev, R x ≤ R y
  bo : ∀ x ∈ B', ∀ y ∈ rev, R x ≤ R y
section
variable {R : Keyed → Int} {T rev A' B' ys : List Keyed}
theorem Mh.moveA (h : Mh R T rev (A' ++ ys) B') (hb : ∀ y ∈ ys, ∀ z ∈ B', R z ≤ R y) : Mh R T (ys ++ rev) A' B' := by
  have h1 := List.pairwise_append.mp h.sa
  refine ⟨?_, ps_app h1.2.1 h.so fun x hx y hy => h.ao x (List.mem_append_right _ hx) y hy, h1.1, h.sb, fun x hx y hy => ?_, fun x hx y hy => ?_⟩
  · refine List.Perm.trans ?_ h.perm
    rw [List.append_assoc]
    refine List.Perm.append_left _ ?_
    rw [← List.append_assoc, ← List.append_assoc]
    exact List.perm_append_comm.append_right _
  · rcases List.mem_append.mp hy with hy | hy
    · exact h1.2.2 x hx y hy
    · exact h.ao x (List.mem_append_left _ hx) y hy
  · rcases List.mem_append.mp hy with hy | hy
    · exact hb y hy x hx
    · exact h.bo x hx y hy
theorem Mh.moveB (h : Mh R T rev A' (B' ++ ys)) (ha : ∀ y ∈ ys, ∀ z ∈ A', R z ≤ R y) : Mh R T (ys ++ rev) A' B' := by
  have h1 := List.pairwise_append.mp h.sb
  refine ⟨?_, ps_app h1.2.1 h.so fun x hx y hy => h.bo x (List.mem_append_right _ hx) y hy, h.sa, h1.1, fun x hx y hy => ?_, fun x hx y hy => ?_⟩
  · have := h.perm
    rw [List.append_assoc] at this
    exact this
  · rcases List.mem_append.mp hy with hy | hy
    · exact ha y hy x hx
    · exact h.ao x hx y hy
  · rcases List.mem_append.mp hy with hy | hy
    · exact h1.2.2 x hx y hy
    · exact h.bo x (List.mem_append_left _ hx) y hy
end
theorem ext_to {α : Type} (a : Array α) (n : Nat) : (a.extract 0 n).toList = a.toList.take n := by
  rw [Array.toList_extract, List.extract_eq_take_drop]; simp
theorem ext_mid {α : Type} (a : Array α) (p n : Nat) : (a.extract p n).toList = (a.toList.take n).drop p := by
  rw [Array.toList_extract, List.extract_eq_take_drop, List.drop_take]
theorem take1 {α : Type} {l : List α} {n : Nat} {x : α} (h1 : 1 ≤ n) (h : l[n - 1]? = some x) : l.take n = l.take (n - 1) ++ [x] := by
  obtain ⟨hj, e⟩ := List.getElem?_eq_some_iff.mp h
  have := List.take_append_getElem hj
  rw [show n - 1 + 1 = n by omega, e] at this
  exact this.symm
theorem takek {α : Type} (l : List α) {p n : Nat} (h : p ≤ n) : l.take n = l.take p ++ (l.take n).drop p := by
  have := List.take_append_drop p (l.take n)
  rw [List.take_take, Nat.min_eq_left h] at this
  exact this.symm
theorem mem_up {α : Type} {l : List α} {p n : Nat} {x : α} (h : x ∈ (l.take n).drop p) : ∃ j, p ≤ j ∧ j < n ∧ l[j]? = some x := by
  obtain ⟨j, hj, e⟩ := List.getElem_of_mem h
  rw [List.length_drop, List.length_take] at hj
  rw [List.getElem_drop, List.getElem_take] at e
  exact ⟨p + j, by omega, by omega, by rw [List.getElem?_eq_getElem (by omega), e]⟩
theorem mem_low {α : Type} {l : List α} {n : Nat} {x : α} (h : x ∈ l.take n) : ∃ j, j < n ∧ l[j]? = some x := by
  obtain ⟨j, hj, e⟩ := List.getElem_of_mem h
  rw [List.length_take] at hj
  rw [List.getElem_take] at e
  exact ⟨j, by omega, by rw [List.getElem?_eq_getElem (by omega), e]⟩
structure HiI (R : Keyed → Int) (a b out : Array Keyed) (na nb : Nat) : Prop where
  mh : Mh R (a.toList ++ b.toList) out.toList.reverse (a.toList.take na) (b.toList.take nb)
  ha : 0 < na
  hb : 1 < nb
  la : na ≤ a.size
  lb : nb ≤ b.size
section
variable {R : Keyed → Int} {a b out : Array Keyed} {na nb : Nat}
theorem fh_endA (h : Mh R (a.toList ++ b.toList) out.toList.reverse (a.toList.take na) (b.toList.take nb)) (ha : na = 0) : Fn R (a.toList ++ b.toList) (a.extract 0 na ++ b.extract 0 nb ++ out.reverse) := by
  have hp := h.perm
  unfold Fn
  rw [Array.toList_append, Array.toList_append, ext_to, ext_to, Array.toList_reverse]
  subst ha
  rw [List.take_zero, List.nil_append] at hp ⊢
  exact ⟨ps_app h.sb h.so h.bo, hp⟩
theorem fh_endB (h : Mh R (a.toList ++ b.toList) out.toList.reverse (a.toList.take na) (b.toList.take nb)) (hb : nb = 0) : Fn R (a.toList ++ b.toList) (a.extract 0 na ++ b.extract 0 nb ++ out.reverse) := by
  have hp := h.perm
  unfold Fn
  rw [Array.toList_append, Array.toList_append, ext_to, ext_to, Array.toList_reverse]
  subst hb
  rw [List.take_zero] at hp ⊢
  rw [List.nil_append] at hp
  rw [List.append_nil]
  exact ⟨ps_app h.sa h.so h.ao, hp⟩
theorem fh_firstB (h : Mh R (a.toList ++ b.toList) out.toList.reverse (a.toList.take na) (b.toList.take nb)) (hb : nb = 1) (hl : ∀ x ∈ a.toList, ∀ z, b.toList[0]? = some z → R z ≤ R x) : Fn R (a.toList ++ b.toList) (b.extract 0 nb ++ a.extract 0 na ++ out.reverse) := by
  have hp := h.perm
  unfold Fn
  rw [Array.toList_append, Array.toList_append, ext_to, ext_to, Array.toList_reverse]
  refine ⟨?_, ?_⟩
  · rw [List.append_assoc]
    refine ps_app h.sb (ps_app h.sa h.so h.ao) fun x hx y hy => ?_
    rcases List.mem_append.mp hy with hy | hy
    · obtain ⟨j, hj, e⟩ := mem_low hx
      have : j = 0 := by omega
      subst this
      exact hl y (List.mem_of_mem_take hy) x e
    · exact h.bo x hx y hy
  · refine List.Perm.trans ?_ hp
    rw [← List.append_assoc]
    exact List.perm_append_comm.append_right _
theorem mh_pushA (h : Mh R (a.toList ++ b.toList) out.toList.reverse (a.toList.take na) (b.toList.take nb)) (h1 : 1 ≤ na) {x : Keyed} (hx : a.toList[na - 1]? = some x) (hl : ∀ z ∈ b.toList.take nb, R z ≤ R x) : Mh R (a.toList ++ b.toList) (out.push x).toList.reverse (a.toList.take (na - 1)) (b.toList.take nb) := by
  rw [take1 h1 hx] at h
  rw [Array.toList_push, List.reverse_append]
  exact h.moveA fun y hy z hz => by have : y = x := by simpa using hy
                                    subst this; exact hl z hz
theorem mh_pushB (h : Mh R (a.toList ++ b.toList) out.toList.reverse (a.toList.take na) (b.toList.take nb)) (h1 : 1 ≤ nb) {y : Keyed} (hy : b.toList[nb - 1]? = some y) (hl : ∀ z ∈ a.toList.take na, R z ≤ R y) : Mh R (a.toList ++ b.toList) (out.push y).toList.reverse (a.toList.take na) (b.toList.take (nb - 1)) := by
  rw [take1 h1 hy] at h
  rw [Array.toList_push, List.reverse_append]
  exact h.moveB fun x hx z hz => by have : x = y := by simpa using hx
                                    subst this; exact hl z hz
theorem last_ge {l : List Keyed} {n : Nat} {x : Keyed} (h1 : 1 ≤ n) (hs : Ps R (l.take n)) (hx : l[n - 1]? = some x) : ∀ z ∈ l.take n, R z ≤ R x := fun z hz => by
  rw [take1 h1 hx] at hs hz
  rcases List.mem_append.mp hz with hz | hz
  · exact (List.pairwise_append.mp hs).2.2 z hz x (by simp)
  · have : z = x := by simpa using hz
    subst this; exact Int.le_refl _
theorem mh_chunkA (h : Mh R (a.toList ++ b.toList) out.toList.reverse (a.toList.take na) (b.toList.take nb)) (h1 : 1 ≤ nb) {y : Keyed} {p : Nat} (hp : p ≤ na) (hy : b.toList[nb - 1]? = some y) (hk : ∀ i, p ≤ i → i < na → gb R false y a 0 i = false) : Mh R (a.toList ++ b.toList) (out ++ (a.extract p na).reverse).toList.reverse (a.toList.take p) (b.toList.take nb) := by
  have hl := last_ge h1 h.sb hy
  rw [takek a.toList hp] at h
  rw [Array.toList_append, Array.toList_reverse, List.reverse_append, List.reverse_reverse, ext_mid]
  refine h.moveA fun x hx z hz => ?_
  obtain ⟨j, hj1, hj2, e⟩ := mem_up hx
  have := hk j hj1 hj2
  unfold gb at this
  rw [Nat.zero_add, kz_at e] at this
  simp at this
  have := hl z hz
  omega
theorem mh_restA {y : Keyed} {p : Nat} (hk : ∀ i, i < p → gb R false y a 0 i = true) : ∀ z ∈ a.toList.take p, R z ≤ R y := fun z hz => by
  obtain ⟨j, hj, e⟩ := mem_low hz
  have := hk j hj
  unfold gb at this
  rw [Nat.zero_add, kz_at e] at this
  simp at this
  omega
theorem mh_chunkB (h : Mh R (a.toList ++ b.toList) out.toList.reverse (a.toList.take na) (b.toList.take nb)) (h1 : 1 ≤ na) {x : Keyed} {p : Nat} (hp : p ≤ nb) (hx : a.toList[na - 1]? = some x) (hk : ∀ i, p ≤ i → i < nb → gb R true x b 0 i = false) : Mh R (a.toList ++ b.toList) (out ++ (b.extract p nb).reverse).toList.reverse (a.toList.take na) (b.toList.take p) := by
  have hl := last_ge h1 h.sa hx
  rw [takek b.toList hp] at h
  rw [Array.toList_append, Array.toList_reverse, List.reverse_append, List.reverse_reverse, ext_mid]
  refine h.moveB fun y hy z hz => ?_
  obtain ⟨j, hj1, hj2, e⟩ := mem_up hy
  have := hk j hj1 hj2
  unfold gb at this
  rw [Nat.zero_add, kz_at e] at this
  simp at this
  have := hl z hz
  omega
theorem mh_restB {x : Keyed} {p : Nat} (hk : ∀ i, i < p → gb R true x b 0 i = true) : ∀ z ∈ b.toList.take p, R z ≤ R x := fun z hz => by
  obtain ⟨j, hj, e⟩ := mem_low hz
  have := hk j hj
  unfold gb at this
  rw [Nat.zero_add, kz_at e] at this
  simp at this
  omega
theorem sr_low {a : Array Keyed} {n : Nat} (hn : n ≤ a.size) (h : Ps R (a.toList.take n)) : Sr R a 0 (0 + n) := fun p q h1 h2 h3 => by
  by_cases e : p = q
  · subst e; exact Int.le_refl _
  · obtain ⟨x, _, hx, _⟩ := at_list (a := a) (i := p) (by omega)
    obtain ⟨y, _, hy, _⟩ := at_list (a := a) (i := q) (by omega)
    rw [kz_at hx, kz_at hy]
    have h' := List.pairwise_iff_getElem.mp h p q (by simp; omega) (by simp; omega) (by omega)
    rw [List.getElem_take, List.getElem_take] at h'
    obtain ⟨_, ex⟩ := List.getElem?_eq_some_iff.mp hx
    obtain ⟨_, ey⟩ := List.getElem?_eq_some_iff.mp hy
    rw [ex, ey] at h'
    exact h'
end
section
variable {prog : Program} {w : World} {A : Around} {E : Value → Shared → Prop} {s : Shared} {κ : SortKind} {R : Keyed → Int} {a₀ : Array Keyed} {st : SortSt}
def mergeHi' : Array Keyed → Array Keyed → StateT SortSt Sem (Array Keyed) := sortPriv% PySem.Builtin.mergeHi
set_option hygiene false in
local macro_rules | `(tactic| walk_at "hi_four") => `(tactic| (
  refine wpS_bind (wp_elem hx2 ?_)
  have h4 := mh_pushA h3 hna2 hx2' hxr
  try dsimp only
  by_cases e4 : (na2 - 1 == 0) = true
  · rw [if_pos e4]
    exact wpS_pure ⟨hS5, .inl ⟨_, _, rfl, fh_endA h4 (eq_of_beq e4)⟩⟩
  · rw [if_neg e4]
    have e4' : na2 - 1 ≠ 0 := fun z => e4 (by rw [z]; rfl)
    have hI4 : HiI R a b (out3.push x) (na2 - 1) nb3 := ⟨h4, by omega, hnb3, by omega, by omega⟩
    split
    · exact wpS_pure ⟨hS5, .inr ⟨_, _, _, _, _, _, rfl, hI4, by omega⟩⟩
    · exact wpS_pure ⟨hS5, _, _, _, _, _, _, rfl, hI4, by omega⟩))
set_option hygiene false in
local macro_rules | `(tactic| walk_at "hi_three") => `(tactic| (
  refine wpS_bind (wp_elem hy1 ?_)
  have h3' := mh_pushB h2 (by omega) hy1' hyr
  try dsimp only
  by_cases e3 : (nb - 1 == 1) = true
  · rw [if_pos e3]
    exact wpS_pure ⟨hS5, .inl ⟨_, _, rfl, fh_firstB h3' (eq_of_beq e3) hl⟩⟩
  · rw [if_neg e3]
    have e3' : nb - 1 ≠ 1 := fun z => e3 (by rw [z]; rfl)
    obtain ⟨x, hx2, hx2', hxm⟩ := at_list (a := a) (i := na2 - 1) (by omega)
    refine wpS_bind (wp_elem hx2 ?_)
    refine wpS_bind (wp_gallop (left := true) (base := 0) (n := nb - 1) hA (hS5.kind.trans hk) (hma x hxm) hmb (by omega) (by omega) (sr_low (by omega) h3'.sb) fun p2 hp2 hg1 hg2 => ?_)
    have hc := mh_chunkB h3' hna2 hp2 hx2' hg2
    have hxr' := mh_restB (b := b) hg1
    try dsimp only
    by_cases e5 : nb - 1 - p2 > 0
    · rw [if_pos e5]
      by_cases e6 : (p2 == 1) = true
      · rw [if_pos e6]
        exact wpS_pure ⟨hS5, .inl ⟨_, _, rfl, fh_firstB hc (eq_of_beq e6) hl⟩⟩
      · rw [if_neg e6]
        by_cases e7 : (p2 == 0) = true
        · rw [if_pos e7]
          exact wpS_pure ⟨hS5, .inl ⟨_, _, rfl, fh_endB hc (eq_of_beq e7)⟩⟩
        · rw [if_neg e7]
          have e6' : p2 ≠ 1 := fun z => e6 (by rw [z]; rfl)
          have e7' : p2 ≠ 0 := fun z => e7 (by rw [z]; rfl)
          have hnb3 : 1 < p2 := by omega
          have hxr := hxr'
          have h3 := hc
          generalize out2.push y ++ (b.extract p2 (nb - 1)).reverse = out3 at *
          have hgrow : p2 ≤ nb - 1 := by omega
          generalize p2 = nb3 at *
          walk_at "hi_four"
    · rw [if_neg e5]
      have e5' : p2 = nb - 1 := by omega
      have hxr := hxr'
      rw [e5'] at hxr
      have h3 := h3'
      have hnb3 : 1 < nb - 1 := by omega
      generalize out2.push y = out3 at *
      have hgrow : nb - 1 ≤ nb - 1 := by omega
      clear hxr' hc hg1 hg2 e5' e5 hp2
      generalize hnb3e : nb - 1 = nb3 at *
      walk_at "hi_four"))
set_option hygiene false in
local macro_rules | `(tactic| walk_at "hi_two") => `(tactic| (
  refine wpS_bind (wp_setMin hS4 fun st5 hS5 => ?_)
  have hna := hI.ha
  have hnb := hI.hb
  have hla := hI.la
  have hlb := hI.lb
  obtain ⟨y, hy1, hy1', hym⟩ := at_list (a := b) (i := nb - 1) (by omega)
  refine wpS_bind (wp_elem hy1 ?_)
  refine wpS_bind (wp_gallop (left := false) (base := 0) (n := na) hA (hS5.kind.trans hk) (hmb y hym) hma (by omega) (by omega) (sr_low hla hI.mh.sa) fun p hp hg1 hg2 => ?_)
  have hc := mh_chunkA hI.mh (by omega) hp hy1' hg2
  have hyr' := mh_restA (a := a) hg1
  try dsimp only
  by_cases e1 : na - p > 0
  · rw [if_pos e1]
    by_cases e2 : (p == 0) = true
    · rw [if_pos e2]
      exact wpS_pure ⟨hS5, .inl ⟨_, _, rfl, fh_endA hc (eq_of_beq e2)⟩⟩
    · rw [if_neg e2]
      have e2' : p ≠ 0 := fun z => e2 (by rw [z]; rfl)
      have hna2 : 1 ≤ p := by omega
      have hyr := hyr'
      have h2 := hc
      have hgr : p ≤ na := hp
      generalize out ++ (a.extract p na).reverse = out2 at *
      generalize p = na2 at *
      walk_at "hi_three"
  · rw [if_neg e1]
    have e1' : p = na := by omega
    have hyr := hyr'
    rw [e1'] at hyr
    have h2 := hI.mh
    have hna2 : 1 ≤ na := hna
    have hgr : na ≤ na := Nat.le_refl _
    generalize out = out2 at *
    clear hyr' hc hg1 hg2 e1 e1' hp
    generalize hna2e : na = na2 at *
    walk_at "hi_three"))
theorem wp_mergeHi {a b : Array Keyed} {Q : Array Keyed → SortSt → Prop} (hA : Ans prog w A E s κ R a₀) (hk : kindOf st = κ) (hma : ∀ x ∈ a.toList, x ∈ a₀.toList) (hmb : ∀ x ∈ b.toList, x ∈ a₀.toList) (ha1 : 1 ≤ a.size) (hb1 : 1 ≤ b.size)
    (hsa : Ps R a.toList) (hsb : Ps R b.toList) (hl : ∀ x ∈ a.toList, ∀ z, b.toList[0]? = some z → R z ≤ R x) (h0 : ∀ y ∈ b.toList, ∀ z, a.toList[a.size - 1]? = some z → R y ≤ R z)
    (h : ∀ r st', Fn R (a.toList ++ b.toList) r → SameS st st' → Q r st') : wpS (model prog w) A E s (mergeHi' a b) Q st := by
  unfold mergeHi'
  walk_at "open_priv"
  refine wpS_bind (wpS_lift (wpAny_rule ⟨rfl, ?_⟩))
  try dsimp only
  obtain ⟨x0, hx0, hx0', hx0m⟩ := at_list (a := a) (i := a.size - 1) (by omega)
  refine wpS_bind (wp_elem hx0 ?_)
  have hm0 : Mh R (a.toList ++ b.toList) (#[] : Array Keyed).toList.reverse (a.toList.take a.size) (b.toList.take b.size) := by
    have e1 : a.toList.take a.size = a.toList := List.take_of_length_le (by simp)
    have e2 : b.toList.take b.size = b.toList := List.take_of_length_le (by simp)
    rw [e1, e2]
    exact ⟨by simp, List.Pairwise.nil, hsa, hsb, fun x hx y hy => by simp at hy, fun x hx y hy => by simp at hy⟩
  have hm1 : Mh R (a.toList ++ b.toList) (#[x0] : Array Keyed).toList.reverse (a.toList.take (a.size - 1)) (b.toList.take b.size) := mh_pushA hm0 ha1 hx0' fun z hz => h0 z (List.mem_of_mem_take hz) x0 hx0'
  by_cases e1 : (a.size - 1 == 0) = true
  · rw [if_pos e1]
    exact wpS_pure (h _ _ (fh_endA hm1 (eq_of_beq e1)) (.refl _))
  rw [if_neg e1]
  have e1' : a.size - 1 ≠ 0 := fun z => e1 (by rw [z]; rfl)
  by_cases e2 : (b.size == 1) = true
  · rw [if_pos e2]
    exact wpS_pure (h _ _ (fh_firstB hm1 (eq_of_beq e2) hl) (.refl _))
  rw [if_neg e2]
  have e2' : b.size ≠ 1 := fun z => e2 (by rw [z]; rfl)
  refine wpS_bind (wpS_get ?_)
  try dsimp only
  refine wpS_bind (wpS_mono (wpS_forRange (I := fun x c st' => SameS st st' ∧ ∃ na nb out mg, c = (none, na, nb, out, mg) ∧ HiI R a b out na nb ∧ x + na + nb < a.size + b.size)
    (Q := fun c st' => SameS st st' ∧ ∃ r rest, c = (some r, rest) ∧ Fn R (a.toList ++ b.toList) r) ?step ?fin ?init) ?post)
  case init => exact ⟨.refl _, _, _, _, _, rfl, ⟨hm1, by omega, by omega, by omega, by omega⟩, by omega⟩
  case fin =>
    rintro c st' ⟨hS, na, nb, out, mg, rfl, hI, hx⟩
    have := hI.ha
    have := hI.hb
    omega
  case post =>
    rintro c st' ⟨hS, r, rest, rfl, hf⟩
    exact wpS_pure (h _ _ hf hS)
  case step =>
    rintro x c st' _ hx ⟨hS, na0, nb0, out0, mg, rfl, hI0, hxi⟩
    try dsimp only
    refine wpS_bind (wpS_mono (wpS_forRange (I := fun x c st' => SameS st st' ∧ ∃ na nb out ac bc, c = (none, na, nb, out, ac, bc) ∧ HiI R a b out na nb ∧ x + na + nb ≤ na0 + nb0)
      (Q := fun c st' => SameS st st' ∧ ((∃ r rest, c = (some r, rest) ∧ Fn R (a.toList ++ b.toList) r) ∨ ∃ na nb out ac bc, c = (none, na, nb, out, ac, bc) ∧ HiI R a b out na nb ∧ na + nb + 1 ≤ na0 + nb0)) ?s1 ?f1 ?i1) ?p1)
    case i1 => exact ⟨hS, _, _, _, _, _, rfl, hI0, by omega⟩
    case f1 =>
      rintro c st2 ⟨hS2, na, nb, out, ac, bc, rfl, hI, hle⟩
      exact ⟨hS2, .inr ⟨_, _, _, _, _, rfl, hI, by omega⟩⟩
    case s1 =>
      rintro x1 c st2 _ hx1 ⟨hS2, na, nb, out, ac, bc, rfl, hI, hle⟩
      try dsimp only
      have hna := hI.ha
      have hnb := hI.hb
      have hla := hI.la
      have hlb := hI.lb
      obtain ⟨y, hy, hy', hym⟩ := at_list (a := b) (i := nb - 1) (by omega)
      obtain ⟨x, hx, hx', hxm⟩ := at_list (a := a) (i := na - 1) (by omega)
      refine wpS_bind (wp_elem hy (wpS_bind (wp_elem hx (wpS_bind (hA.lt (hmb y hym) (hma x hxm) (hS2.kind.trans hk) ?_)))))
      by_cases hlt : R y < R x
      · rw [decide_eq_true hlt]
        try dsimp only
        simp only [if_true]
        refine wpS_bind (wp_elem hx ?_)
        have h2 := mh_pushA hI.mh (by omega) hx' fun z hz => by have := last_ge (by omega) hI.mh.sb hy' z hz; omega
        try dsimp only
        by_cases e3 : (na - 1 == 0) = true
        · rw [if_pos e3]
          exact wpS_pure ⟨hS2, .inl ⟨_, _, rfl, fh_endA h2 (eq_of_beq e3)⟩⟩
        · rw [if_neg e3]
          have e3' : na - 1 ≠ 0 := fun z => e3 (by rw [z]; rfl)
          have hI2 : HiI R a b (out.push x) (na - 1) nb := ⟨h2, by omega, hnb, by omega, hlb⟩
          split
          · exact wpS_pure ⟨hS2, .inr ⟨_, _, _, _, _, rfl, hI2, by omega⟩⟩
          · exact wpS_pure ⟨hS2, _, _, _, _, _, rfl, hI2, by omega⟩
      · rw [decide_eq_false hlt]
        try dsimp only
        simp only [Bool.false_eq_true, if_false]
        refine wpS_bind (wp_elem hy ?_)
        have h2 := mh_pushB hI.mh (by omega) hy' fun z hz => by have := last_ge (by omega) hI.mh.sa hx' z hz; omega
        try dsimp only
        by_cases e3 : (nb - 1 == 1) = true
        · rw [if_pos e3]
          exact wpS_pure ⟨hS2, .inl ⟨_, _, rfl, fh_firstB h2 (eq_of_beq e3) hl⟩⟩
        · rw [if_neg e3]
          have e3' : nb - 1 ≠ 1 := fun z => e3 (by rw [z]; rfl)
          have hI2 : HiI R a b (out.push y) na (nb - 1) := ⟨h2, hna, by omega, hla, by omega⟩
          split
          · exact wpS_pure ⟨hS2, .inr ⟨_, _, _, _, _, rfl, hI2, by omega⟩⟩
          · exact wpS_pure ⟨hS2, _, _, _, _, _, rfl, hI2, by omega⟩
    case p1 =>
      rintro c st2 ⟨hS2, hc | ⟨na1, nb1, out1, ac, bc, rfl, hI1, hle1⟩⟩
      · obtain ⟨r, rest, rfl, hf⟩ := hc
        exact wpS_pure ⟨hS2, _, _, rfl, hf⟩
      try dsimp only
      refine wpS_bind (wpS_lift (wpAny_rule ⟨rfl, ?_⟩))
      refine wpS_bind (wpS_mono (wpS_forRange (I := fun x c st' => SameS st st' ∧ ∃ na nb out mg ac bc, c = (none, na, nb, out, mg, ac, bc) ∧ HiI R a b out na nb ∧ na + nb ≤ na1 + nb1)
        (Q := fun c st' => SameS st st' ∧ ((∃ r rest, c = (some r, rest) ∧ Fn R (a.toList ++ b.toList) r) ∨ ∃ na nb out mg ac bc, c = (none, na, nb, out, mg, ac, bc) ∧ HiI R a b out na nb ∧ na + nb ≤ na1 + nb1)) ?s2 ?f2 ?i2) ?p2)
      case i2 => exact ⟨hS2, _, _, _, _, _, _, rfl, hI1, Nat.le_refl _⟩
      case f2 =>
        rintro c st3 ⟨hS3, na, nb, out, mg, ac, bc, rfl, hI, hle⟩
        exact ⟨hS3, .inr ⟨_, _, _, _, _, _, rfl, hI, hle⟩⟩
      case p2 =>
        rintro c st3 ⟨hS3, hc | ⟨na, nb, out, mg, ac, bc, rfl, hI, hle⟩⟩
        · obtain ⟨r, rest, rfl, hf⟩ := hc
          exact wpS_pure ⟨hS3, _, _, rfl, hf⟩
        try dsimp only
        refine wpS_bind (wp_setMin hS3 fun st4 hS4 => ?_)
        exact wpS_pure ⟨hS4, _, _, _, _, rfl, hI, by omega⟩
      case s2 =>
        rintro x2 c st4 _ hx2 ⟨hS4, na, nb, out, mg, ac, bc, rfl, hI, hle⟩
        clear hI0 hI1 hm0 hm1
        try dsimp only
        by_cases e0 : mg > 1
        · rw [if_pos e0]
          generalize mg - 1 = mg2
          walk_at "hi_two"
        · rw [if_neg e0]
          walk_at "hi_two"
end
end Sg
namespace Sg
open PySem PyProof.Rows
def sg (l : List Keyed) (lo hi : Nat) : List Keyed := (l.take hi).drop lo
theorem sg_split (l : List Keyed) {lo mid hi : Nat} (h1 : lo ≤ mid) (h2 : mid ≤ hi) : sg l lo hi = sg l lo mid ++ sg l mid hi := by
  unfold sg
  have e : l.take mid = (l.take hi).take mid := by rw [List.take_take, Nat.min_eq_left h2]
  rw [e]
  have := List.take_append_drop mid (l.take hi)
  conv => lhs; rw [← this]
  rw [List.drop_append]
  congr 1
  by_cases c : mid ≤ (l.take hi).length
  · rw [List.length_take, Nat.min_eq_left c, show lo - mid = 0 by omega, List.drop_zero]
  · rw [List.drop_eq_nil_of_le (show (l.take hi).length ≤ mid by omega), List.drop_nil]
theorem sg_len {l : List Keyed} {lo hi : Nat} (h : hi ≤ l.length) : (sg l lo hi).length = hi - lo := by
  unfold sg; rw [List.length_drop, List.length_take, Nat.min_eq_left h]
theorem sg_get {l : List Keyed} {lo hi j : Nat} (h : lo + j < hi) : (sg l lo hi)[j]? = l[lo + j]? := by
  unfold sg; rw [List.getElem?_drop, List.getElem?_take_of_lt h]
theorem mem_sg {l : List Keyed} {lo hi : Nat} {x : Keyed} (h : x ∈ sg l lo hi) : ∃ j, lo ≤ j ∧ j < hi ∧ l[j]? = some x := mem_up h
section
variable {R : Keyed → Int}
theorem ps_of_sr {a : Array Keyed} {lo hi : Nat} (hn : hi ≤ a.size) (h : Sr R a lo hi) : Ps R (sg a.toList lo hi) := by
  refine List.pairwise_iff_getElem.mpr fun i j hi' hj' hij => ?_
  have hl := sg_len (l := a.toList) (lo := lo) (hi := hi) (by simpa using hn)
  have e1 := sg_get (l := a.toList) (lo := lo) (hi := hi) (j := i) (by omega)
  have e2 := sg_get (l := a.toList) (lo := lo) (hi := hi) (j := j) (by omega)
  rw [List.getElem?_eq_getElem hi'] at e1
  rw [List.getElem?_eq_getElem hj'] at e2
  have := h (lo + i) (lo + j) (by omega) (by omega) (by omega)
  rw [kz_at e1.symm, kz_at e2.symm] at this
  exact this
theorem sr_of_ps' {a : Array Keyed} {lo hi : Nat} (hn : hi ≤ a.size) (h : Ps R (sg a.toList lo hi)) : Sr R a lo hi := fun p q h1 h2 h3 => by
  by_cases e : p = q
  · subst e; exact Int.le_refl _
  · have hl := sg_len (l := a.toList) (lo := lo) (hi := hi) (by simpa using hn)
    have h' := List.pairwise_iff_getElem.mp h (p - lo) (q - lo) (by omega) (by omega) (by omega)
    have e1 := sg_get (l := a.toList) (lo := lo) (hi := hi) (j := p - lo) (by omega)
    have e2 := sg_get (l := a.toList) (lo := lo) (hi := hi) (j := q - lo) (by omega)
    rw [List.getElem?_eq_getElem (by omega), show lo + (p - lo) = p by omega] at e1
    rw [List.getElem?_eq_getElem (by omega), show lo + (q - lo) = q by omega] at e2
    rw [kz_at e1.symm, kz_at e2.symm]
    exact h'
end
theorem fold_set (p : Nat) : ∀ (l : List Keyed) (n : Nat) (arr : Array Keyed), p + n + l.length ≤ arr.size → ((l.zipIdx n).foldl (fun a q => a.setIfInBounds (p + q.2) q.1) arr).toList = arr.toList.take (p + n) ++ l ++ arr.toList.drop (p + n + l.length)
  | [], n, arr, h => by simp
  | x :: l, n, arr, h => by
    rw [List.length_cons] at h
    rw [List.zipIdx_cons, List.foldl_cons, fold_set p l (n + 1) _ (by rw [Array.size_setIfInBounds]; omega)]
    have hs : (arr.setIfInBounds (p + n) x).toList = arr.toList.set (p + n) x := by simp
    rw [hs, List.length_cons, List.drop_set_of_lt (by omega)]
    have e : (arr.toList.set (p + n) x).take (p + (n + 1)) = arr.toList.take (p + n) ++ [x] := by
      rw [show p + (n + 1) = p + n + 1 by omega, List.take_succ_eq_append_getElem (by simp; omega), List.take_set_of_le (by omega)]
      simp
    rw [e, show p + (n + 1) + l.length = p + n + (l.length + 1) by omega]
    simp
theorem laid_anew {R : Keyed → Int} {xs ys : Array Keyed} {r : List Keyed} {lo p q hi : Nat} (h1 : lo ≤ p) (h2 : p ≤ q) (h3 : q ≤ hi) (hz : hi ≤ xs.size) (hr : r.Perm (sg xs.toList p q)) (hy : ys.toList = xs.toList.take p ++ r ++ xs.toList.drop q)
    (hs : Ps R (sg xs.toList lo p ++ (r ++ sg xs.toList q hi))) : Loc lo hi xs ys ∧ Sr R ys lo hi := by
  have hl : xs.toList.length = xs.size := Array.length_toList
  have hrl : r.length = q - p := by rw [hr.length_eq, sg_len (by omega)]
  have hperm : ys.toList.Perm xs.toList := by
    rw [hy]
    have e : xs.toList = xs.toList.take p ++ sg xs.toList p q ++ xs.toList.drop q := by
      unfold sg
      have e1 : xs.toList.take p = (xs.toList.take q).take p := by rw [List.take_take, Nat.min_eq_left h2]
      rw [e1, List.take_append_drop, List.take_append_drop]
    conv => rhs; rw [e]
    exact (hr.append_left _).append_right _
  have hzy : ys.size = xs.size := by have := hperm.length_eq; simpa using this
  refine ⟨⟨Array.perm_iff_toList_perm.mpr hperm, fun k hk => ?_⟩, ?_⟩
  · rw [← Array.getElem?_toList, ← Array.getElem?_toList, hy]
    rcases hk with hk | hk
    · rw [List.append_assoc, List.getElem?_append_left (by rw [List.length_take]; omega), List.getElem?_take_of_lt (by omega)]
    · rw [List.getElem?_append_right (by rw [List.length_append, List.length_take, hrl]; omega), List.getElem?_drop]
      congr 1
      rw [List.length_append, List.length_take, hrl]
      omega
  · refine sr_of_ps' (by omega) ?_
    have e : sg ys.toList lo hi = sg xs.toList lo p ++ (r ++ sg xs.toList q hi) := by
      rw [sg_split _ h1 (show p ≤ hi by omega), sg_split _ h2 h3]
      congr 1
      · unfold sg
        rw [hy, List.append_assoc, List.take_append_of_le_length (by rw [List.length_take]; omega), List.take_take, Nat.min_self]
      · congr 1
        · unfold sg
          rw [hy, List.take_append_of_le_length (by rw [List.length_append, List.length_take, hrl]; omega), List.take_of_length_le (by rw [List.length_append, List.length_take, hrl]; omega), List.drop_append_of_le_length (by rw [List.length_take]; omega), List.drop_eq_nil_of_le (by rw [List.length_take]; omega), List.nil_append]
        · unfold sg
          rw [hy, List.drop_take, List.drop_take]
          congr 1
          rw [List.drop_append, List.drop_eq_nil_of_le (by rw [List.length_append, List.length_take, hrl]; omega), List.nil_append, List.length_append, List.length_take, hrl, show q - (min p xs.toList.length + (q - p)) = 0 by omega, List.drop_zero]
    rw [e]
    exact hs
end Sg
namespace Sg
open PySem PyProof.Rows
set_option hygiene false in
local macro_rules | `(tactic| walk_at "open_priv") => `(tactic| (unfold wpS; wp_delta; wp_delta; change wpS _ _ _ _ _ _ _))
section
variable {prog : Program} {w : World} {A : Around} {E : Value → Shared → Prop} {s : Shared} {κ : SortKind} {R : Keyed → Int} {a₀ : Array Keyed} {st : SortSt}
theorem wpS_set {σ : Type} {M : Model} {st st' : σ} {Q : PUnit → σ → Prop} (h : Q ⟨⟩ st') : wpS M A E s (set st' : StateT σ Sem PUnit) Q st := by
  unfold wpS; rw [StateT.run_set]; exact wpAny_pure ⟨rfl, h⟩
theorem wp_mergeAt {i : Nat} {pre post : List (Nat × Nat × Nat)} {sa na pa sb nb pb : Nat} {Q : Bool → SortSt → Prop} (hA : Ans prog w A E s κ R a₀) (hB : SB κ a₀ st) (hp : (pendingOf st).toList = pre ++ (sa, na, pa) :: (sb, nb, pb) :: post) (hi : pre.length = i)
    (hab : sa + na = sb) (h1 : 1 ≤ na) (h2 : 1 ≤ nb) (hz : sb + nb ≤ a₀.size) (hsa : Sr R (arrOf st) sa (sa + na)) (hsb : Sr R (arrOf st) sb (sb + nb))
    (h : ∀ st', SB κ a₀ st' → Loc sa (sb + nb) (arrOf st) (arrOf st') → Sr R (arrOf st') sa (sb + nb) → (pendingOf st').toList = pre ++ (sa, na + nb, pa) :: post → Q true st') : wpS (model prog w) A E s (mergeAt' i) Q st := by
  unfold mergeAt'
  walk_at "open_priv"
  refine wpS_bind (wpS_get ?_)
  have e1 : (pendingOf st)[i]? = some (sa, na, pa) := by rw [← Array.getElem?_toList, hp, ← hi]; simp
  have e2 : (pendingOf st)[i + 1]? = some (sb, nb, pb) := by rw [← Array.getElem?_toList, hp, ← hi]; simp
  rw [e1, e2]
  try dsimp only
  refine wpS_bind (wpS_set ?_)
  change wpS _ _ _ _ _ Q (SortSt.mk' (kindOf st) (arrOf st) (((pendingOf st).setIfInBounds i (sa, na + nb, pa)).eraseIdxIfInBounds (i + 1)) (gallopOf st) (failedOf st))
  have hpend : (((pendingOf st).setIfInBounds i (sa, na + nb, pa)).eraseIdxIfInBounds (i + 1)).toList = pre ++ (sa, na + nb, pa) :: post := by
    rw [Array.toList_eraseIdxIfInBounds, Array.toList_setIfInBounds, hp, ← hi]
    rw [List.set_append_right _ _ (Nat.le_refl _), Nat.sub_self, List.set_cons_zero, List.eraseIdx_append_of_length_le (by omega)]
    simp
  generalize hst1 : SortSt.mk' (kindOf st) (arrOf st) (((pendingOf st).setIfInBounds i (sa, na + nb, pa)).eraseIdxIfInBounds (i + 1)) (gallopOf st) (failedOf st) = st1
  have a1 : arrOf st1 = arrOf st := by rw [← hst1]
  have a2 : kindOf st1 = κ := by rw [← hst1]; exact hB.kind
  have a3 : failedOf st1 = none := by rw [← hst1]; exact hB.failed
  have a4 : (pendingOf st1).toList = pre ++ (sa, na + nb, pa) :: post := by rw [← hst1]; exact hpend
  clear hst1 hpend
  have hsz := hB.size
  have hmem : ∀ x ∈ (arrOf st).toList, x ∈ a₀.toList := fun x hx => (Array.perm_iff_toList_perm.mp hB.perm).mem_iff.mp hx
  have hperm0 := hB.perm
  change wpS _ _ _ _ (elem' (arrOf st) sb >>= _) Q st1
  generalize hxs : arrOf st = xs at *
  have hxs' : (sortPriv% PySem.Builtin.SortState.a) st = xs := hxs
  simp only [hxs']
  have fin : ∀ st' ys, SameS st1 st' → Loc sa (sb + nb) xs ys → Sr R ys sa (sb + nb) → Q true (setArr st' ys) := fun st' ys hS hL hs =>
    h _ ⟨hL.perm.trans hperm0, hS.kind.trans a2, hS.fail.trans a3⟩ hL hs (by show (pendingOf st').toList = _; rw [hS.pend]; exact a4)
  have fin1 : Sr R xs sa (sb + nb) → Q true st1 := fun hs => h st1 ⟨by rw [a1]; exact hperm0, a2, a3⟩ (by rw [a1]; exact .refl _ _ _) (by rw [a1]; exact hs) a4
  obtain ⟨b0, hb0, hb0', hb0m⟩ := at_list (a := xs) (i := sb) (by omega)
  refine wpS_bind (wp_elem hb0 ?_)
  refine wpS_bind (wp_gallop (left := false) hA a2 (hmem b0 hb0m) hmem (by omega) (by omega) hsa fun k hk hg1 hg2 => ?_)
  try dsimp only
  -- the first part's beginning stands
  have hA1 : ∀ j, sa ≤ j → j < sa + k → kz R xs j ≤ R b0 := fun j j1 j2 => by
    have := hg1 (j - sa) (by omega)
    unfold gb at this
    rw [show sa + (j - sa) = j by omega] at this
    simp at this
    omega
  have hA2 : ∀ j, sa + k ≤ j → j < sb → R b0 < kz R xs j := fun j j1 j2 => by
    have := hg2 (j - sa) (by omega) (by omega)
    unfold gb at this
    rw [show sa + (j - sa) = j by omega] at this
    simpa using this
  have hb0z : kz R xs sb = R b0 := kz_at hb0'
  by_cases e3 : (na - k == 0) = true
  · rw [if_pos e3]
    have e3' : na - k = 0 := eq_of_beq e3
    refine wpS_pure (fin1 fun p q p1 p2 p3 => ?_)
    by_cases c1 : q < sb
    · exact hsa p q p1 p2 (by omega)
    · by_cases c2 : p < sb
      · have := hA1 p p1 (by omega)
        have := hsb sb q (Nat.le_refl _) (by omega) p3
        omega
      · exact hsb p q (by omega) p2 p3
  rw [if_neg e3]
  have e3' : na - k ≠ 0 := fun z => e3 (by rw [z]; rfl)
  rw [show sa + k + (na - k) - 1 = sb - 1 by omega]
  obtain ⟨al, hal, hal', halm⟩ := at_list (a := xs) (i := sb - 1) (by omega)
  have halz : kz R xs (sb - 1) = R al := kz_at hal'
  refine wpS_bind (wp_elem hal ?_)
  refine wpS_bind (wp_gallop (left := true) hA a2 (hmem al halm) hmem (by omega) (by omega) hsb fun nb' hn hg3 hg4 => ?_)
  have hB1 : ∀ j, sb ≤ j → j < sb + nb' → kz R xs j < R al := fun j j1 j2 => by
    have := hg3 (j - sb) (by omega)
    unfold gb at this
    rw [show sb + (j - sb) = j by omega] at this
    simpa using this
  have hB2 : ∀ j, sb + nb' ≤ j → j < sb + nb → R al ≤ kz R xs j := fun j j1 j2 => by
    have := hg4 (j - sb) (by omega) (by omega)
    unfold gb at this
    rw [show sb + (j - sb) = j by omega] at this
    simp at this
    omega
  try dsimp only
  by_cases e4 : (nb' == 0) = true
  · rw [if_pos e4]
    have e4' : nb' = 0 := eq_of_beq e4
    refine wpS_pure (fin1 fun p q p1 p2 p3 => ?_)
    by_cases c1 : q < sb
    · exact hsa p q p1 p2 (by omega)
    · by_cases c2 : p < sb
      · have := hsa p (sb - 1) p1 (by omega) (by omega)
        have := hB2 q (by omega) p3
        omega
      · exact hsb p q (by omega) p2 p3
  rw [if_neg e4]
  have e4' : nb' ≠ 0 := fun z => e4 (by rw [z]; rfl)
  have hxl : (xs.extract (sa + k) sb).toList = sg xs.toList (sa + k) sb := ext_mid _ _ _
  have hyl : (xs.extract sb (sb + nb')).toList = sg xs.toList sb (sb + nb') := ext_mid _ _ _
  have hxz : (xs.extract (sa + k) sb).size = sb - (sa + k) := by rw [Array.size_extract]; omega
  have hyz : (xs.extract sb (sb + nb')).size = nb' := by rw [Array.size_extract]; omega
  have hmx : ∀ x ∈ (xs.extract (sa + k) sb).toList, x ∈ a₀.toList := fun x hx => by
    rw [hxl] at hx
    exact hmem x (List.mem_of_mem_take (List.mem_of_mem_drop hx))
  have hmy : ∀ x ∈ (xs.extract sb (sb + nb')).toList, x ∈ a₀.toList := fun x hx => by
    rw [hyl] at hx
    exact hmem x (List.mem_of_mem_take (List.mem_of_mem_drop hx))
  have hpx : Ps R (xs.extract (sa + k) sb).toList := by rw [hxl]; exact ps_of_sr (by omega) fun p q p1 p2 p3 => hsa p q (by omega) p2 (by omega)
  have hpy : Ps R (xs.extract sb (sb + nb')).toList := by rw [hyl]; exact ps_of_sr (by omega) fun p q p1 p2 p3 => hsb p q p1 p2 (by omega)
  have hy0 : (xs.extract sb (sb + nb')).toList[0]? = some b0 := by rw [hyl, sg_get (by omega)]; exact hb0'
  have hxl1 : (xs.extract (sa + k) sb).toList[(xs.extract (sa + k) sb).size - 1]? = some al := by
    rw [hxl, hxz, sg_get (by omega), show sa + k + (sb - (sa + k) - 1) = sb - 1 by omega]; exact hal'
  have hF : ∀ x ∈ (xs.extract (sa + k) sb).toList, ∀ z, (xs.extract sb (sb + nb')).toList[0]? = some z → R z ≤ R x := fun x hx z hz' => by
    rw [hy0] at hz'; cases hz'
    rw [hxl] at hx
    obtain ⟨j, j1, j2, e⟩ := mem_sg hx
    have := hA2 j j1 j2
    rw [kz_at e] at this
    omega
  have hLst : ∀ y ∈ (xs.extract sb (sb + nb')).toList, ∀ z, (xs.extract (sa + k) sb).toList[(xs.extract (sa + k) sb).size - 1]? = some z → R y ≤ R z := fun y hy z hz' => by
    rw [hxl1] at hz'; cases hz'
    rw [hyl] at hy
    obtain ⟨j, j1, j2, e⟩ := mem_sg hy
    have := hB1 j j1 j2
    rw [kz_at e] at this
    omega
  have last : ∀ r st', Fn R ((xs.extract (sa + k) sb).toList ++ (xs.extract sb (sb + nb')).toList) r → SameS st1 st' → Q true (setArr st' (r.toList.zipIdx.foldl (fun a x => a.setIfInBounds (sa + k + x.snd) x.fst) (arrOf st'))) := fun r st' hf hS => by
    rw [hxl, hyl, ← sg_split _ (by omega) (by omega)] at hf
    have hrl : r.toList.length = sb + nb' - (sa + k) := by rw [hf.2.length_eq, sg_len (by rw [Array.length_toList]; omega)]
    rw [hS.arr, a1]
    have hy := fold_set (sa + k) r.toList 0 xs (by rw [Nat.add_zero, hrl]; omega)
    rw [Nat.add_zero, hrl, show sa + k + (sb + nb' - (sa + k)) = sb + nb' by omega] at hy
    have hA1' : ∀ x ∈ sg xs.toList sa (sa + k), R x ≤ R b0 := fun x hx => by
      obtain ⟨j, j1, j2, e⟩ := mem_sg hx
      rw [← kz_at (R := R) e]; exact hA1 j j1 j2
    have hB2' : ∀ x ∈ sg xs.toList (sb + nb') (sb + nb), R al ≤ R x := fun x hx => by
      obtain ⟨j, j1, j2, e⟩ := mem_sg hx
      rw [← kz_at (R := R) e]; exact hB2 j j1 j2
    have hmid : ∀ x ∈ r.toList, R b0 ≤ R x ∧ R x ≤ R al := fun x hx => by
      obtain ⟨j, j1, j2, e⟩ := mem_sg (hf.2.mem_iff.mp hx)
      rw [← kz_at (R := R) e]
      by_cases c : j < sb
      · have := hA2 j j1 c
        have := hsa j (sb - 1) (by omega) (by omega) (by omega)
        omega
      · have := hB1 j (by omega) j2
        have := hsb sb j (Nat.le_refl _) (by omega) (by omega)
        omega
    have hba : R b0 ≤ R al := by have := hB1 sb (Nat.le_refl _) (by omega); omega
    obtain ⟨hL, hs⟩ := laid_anew (R := R) (lo := sa) (hi := sb + nb) (by omega) (by omega) (by omega) (by omega) hf.2 hy (by
      refine ps_app (ps_of_sr (by omega) fun p q p1 p2 p3 => hsa p q p1 p2 (by omega)) (ps_app hf.1 (ps_of_sr (by omega) fun p q p1 p2 p3 => hsb p q (by omega) p2 p3) fun x hx y hy => ?_) fun x hx y hy => ?_
      · have := (hmid x hx).2
        have := hB2' y hy
        omega
      · have := hA1' x hx
        rcases List.mem_append.mp hy with hy | hy
        · have := (hmid y hy).1
          omega
        · have := hB2' y hy
          omega)
    exact fin st' _ hS hL hs
  by_cases e5 : na - k ≤ nb'
  · rw [if_pos e5]
    refine wpS_bind (wp_mergeLo hA a2 hmx hmy (by omega) (by omega) hpx hpy (fun x y hx hy => hF x (List.mem_of_getElem? hx) y hy) hLst fun r st' hf hS => ?_)
    refine wpS_bind (wpS_modify (wpS_bind (wpS_get (wpS_pure ?_))))
    have hfail := hS.fail.trans a3
    have := last r st' hf hS
    have ef : (failedOf st').isNone = true := by rw [hfail]; rfl
    change Q (failedOf st').isNone _
    rw [ef]
    exact this
  · rw [if_neg e5]
    refine wpS_bind (wp_mergeHi hA a2 hmx hmy (by omega) (by omega) hpx hpy hF hLst fun r st' hf hS => ?_)
    refine wpS_bind (wpS_modify (wpS_bind (wpS_get (wpS_pure ?_))))
    have hfail := hS.fail.trans a3
    have := last r st' hf hS
    have ef : (failedOf st').isNone = true := by rw [hfail]; rfl
    change Q (failedOf st').isNone _
    rw [ef]
    exact this
end
end Sg
namespace Sg
open PySem PyProof.Rows
def Chn (R : Keyed → Int) (xs : Array Keyed) : Nat → List (Nat × Nat × Nat) → Nat → Prop
  | s, [], e => s = e
  | s, q :: t, e => q.1 = s ∧ 1 ≤ q.2.1 ∧ Sr R xs s (s + q.2.1) ∧ Chn R xs (s + q.2.1) t e
section
variable {R : Keyed → Int} {xs ys : Array Keyed}
theorem Chn.le : ∀ {l : List (Nat × Nat × Nat)} {s e : Nat}, Chn R xs s l e → s + l.length ≤ e
  | [], s, e, h => by simp [Chn] at h; simp; omega
  | q :: t, s, e, h => by have := Chn.le h.2.2.2; have := h.2.1; rw [List.length_cons]; omega
theorem chn_app : ∀ {l l' : List (Nat × Nat × Nat)} {s e : Nat}, Chn R xs s (l ++ l') e ↔ ∃ m, Chn R xs s l m ∧ Chn R xs m l' e
  | [], l', s, e => ⟨fun h => ⟨s, rfl, h⟩, fun ⟨m, h1, h2⟩ => by have : s = m := h1; subst this; exact h2⟩
  | q :: t, l', s, e => by
    constructor
    · rintro ⟨h1, h2, h3, h4⟩
      obtain ⟨m, h5, h6⟩ := chn_app.mp h4
      exact ⟨m, ⟨h1, h2, h3, h5⟩, h6⟩
    · rintro ⟨m, ⟨h1, h2, h3, h5⟩, h6⟩
      exact ⟨h1, h2, h3, chn_app.mpr ⟨m, h5, h6⟩⟩
theorem Sr.frame {lo hi p q : Nat} (hL : Loc lo hi xs ys) (h : Sr R xs p q) (hd : q ≤ lo ∨ hi ≤ p) : Sr R ys p q := fun i j h1 h2 h3 => by
  rw [kz_congr (hL.out i (by omega)), kz_congr (hL.out j (by omega))]
  exact h i j h1 h2 h3
theorem Chn.frame {lo hi : Nat} (hL : Loc lo hi xs ys) : ∀ {l : List (Nat × Nat × Nat)} {s e : Nat}, Chn R xs s l e → e ≤ lo ∨ hi ≤ s → Chn R ys s l e
  | [], s, e, h, _ => h
  | q :: t, s, e, ⟨h1, h2, h3, h4⟩, hd => by
    have := Chn.le h4
    exact ⟨h1, h2, h3.frame hL (by omega), Chn.frame hL h4 (by omega)⟩
end
section
variable {prog : Program} {w : World} {A : Around} {E : Value → Shared → Prop} {s : Shared} {κ : SortKind} {R : Keyed → Int} {a₀ : Array Keyed} {st : SortSt}
theorem chn_congr {xs : Array Keyed} : ∀ {l l' : List (Nat × Nat × Nat)} {s e : Nat}, l.map (fun q => (q.1, q.2.1)) = l'.map (fun q => (q.1, q.2.1)) → Chn R xs s l e → Chn R xs s l' e
  | [], [], s, e, _, h => h
  | q :: t, q' :: t', s, e, hm, ⟨h1, h2, h3, h4⟩ => by
    rw [List.map_cons, List.map_cons] at hm
    injection hm with m1 m2
    injection m1 with m3 m4
    rw [m3] at h1
    rw [m4] at h2 h3 h4
    exact ⟨h1, h2, h3, chn_congr m2 h4⟩
  | [], q' :: t', s, e, hm, h => by simp at hm
  | q :: t, [], s, e, hm, h => by simp at hm
theorem map_modify {α β : Type} (g : α → β) (f : α → α) (hf : ∀ q, g (f q) = g q) (l : List α) (i : Nat) : (l.modify i f).map g = l.map g := by
  apply List.ext_getElem?
  intro j
  rw [List.getElem?_map, List.getElem?_map, List.getElem?_modify]
  cases l[j]? with
  | none => split <;> rfl
  | some x =>
    by_cases e : i = j
    · subst e; simp [hf]
    · simp [e]
theorem chn_push {xs : Array Keyed} {l : List (Nat × Nat × Nat)} {lo n : Nat} (h : Chn R xs 0 l lo) (h1 : 1 ≤ n) (hs : Sr R xs lo (lo + n)) : Chn R xs 0 (l ++ [(lo, n, 0)]) (lo + n) :=
  chn_app.mpr ⟨lo, h, rfl, h1, hs, rfl⟩
theorem split_at {α : Type} : ∀ (l : List α) (i : Nat), i + 1 < l.length → ∃ pre x y post, l = pre ++ x :: y :: post ∧ pre.length = i
  | [], i, h => by simp at h
  | [a], i, h => by simp at h
  | a :: b :: t, 0, h => ⟨[], a, b, t, rfl, rfl⟩
  | a :: b :: t, i + 1, h => by
    obtain ⟨pre, x, y, post, e, hl⟩ := split_at (b :: t) i (by simpa using h)
    exact ⟨a :: pre, x, y, post, by rw [e]; rfl, by simp [hl]⟩
theorem wp_mergeC {i e : Nat} {Q : Bool → SortSt → Prop} (hA : Ans prog w A E s κ R a₀) (hB : SB κ a₀ st) (hi : i + 1 < (pendingOf st).size) (hc : Chn R (arrOf st) 0 (pendingOf st).toList e) (he : e ≤ a₀.size)
    (h : ∀ st', SB κ a₀ st' → (pendingOf st').size + 1 = (pendingOf st).size → Chn R (arrOf st') 0 (pendingOf st').toList e → Loc 0 e (arrOf st) (arrOf st') → Q true st') : wpS (model prog w) A E s (mergeAt' i) Q st := by
  obtain ⟨pre, ⟨sa, na, pa⟩, ⟨sb, nb, pb⟩, post, hl, hpre⟩ := split_at (pendingOf st).toList i (by simpa using hi)
  rw [hl] at hc
  obtain ⟨m, c1, c2, c3, c4, c5, c6, c7, c8⟩ := chn_app.mp hc
  have c2 : sa = m := c2
  have c5 : sb = m + na := c5
  have c3 : 1 ≤ na := c3
  have c6 : 1 ≤ nb := c6
  have c4 : Sr R (arrOf st) m (m + na) := c4
  have c7 : Sr R (arrOf st) (m + na) (m + na + nb) := c7
  have c8 : Chn R (arrOf st) (m + na + nb) post e := c8
  subst c2
  subst c5
  have hle : sa + na + nb + post.length ≤ e := Chn.le c8
  have hle1 := Chn.le c1
  refine wp_mergeAt hA hB hl hpre rfl c3 c6 (by omega) c4 c7 fun st' hB' hL hs hp' => ?_
  refine h st' hB' ?_ ?_ (hL.mono (by omega) (by omega))
  · have e1 := congrArg List.length hl
    have e2 := congrArg List.length hp'
    simp at e1 e2
    omega
  · rw [hp']
    refine chn_app.mpr ⟨sa, Chn.frame hL c1 (.inl (Nat.le_refl _)), rfl, show 1 ≤ na + nb by omega, ?_, ?_⟩
    · show Sr R (arrOf st') sa (sa + (na + nb))
      rw [← Nat.add_assoc]; exact hs
    · show Chn R (arrOf st') (sa + (na + nb)) post e
      rw [← Nat.add_assoc]
      exact Chn.frame hL c8 (.inr (Nat.le_refl _))
set_option hygiene false in
local macro_rules | `(tactic| walk_at "runs_tail") => `(tactic| (
  refine wpS_bind (wpS_get ?_)
  have endp : ∀ st4, SB κ a₀ st4 → Chn R (arrOf st4) 0 (pendingOf st4).toList lo → Sr R (arrOf st4) lo (lo + n) → Chn R (arrOf (setPending st4 ((pendingOf st4).push (lo, n, 0)))) 0 (pendingOf (setPending st4 ((pendingOf st4).push (lo, n, 0)))).toList (lo + n) := fun st4 hB4 hc4 hs4 => by
    show Chn R (arrOf st4) 0 ((pendingOf st4).push (lo, n, 0)).toList (lo + n)
    rw [Array.toList_push]
    exact chn_push hc4 hn1 hs4
  cases hbk : (pendingOf st3).back? with
  | none =>
    dsimp only
    exact wpS_bind (wpS_modify (wpS_pure ⟨_, rfl, ⟨hB3.perm, hB3.kind, hB3.failed⟩, endp st3 hB3 hc3 hs3, hn2, by omega⟩))
  | some q =>
    obtain ⟨s1, n1, p1⟩ := q
    dsimp only
    generalize power' _ _ _ _ = pw
    refine wpS_bind (wpS_mono (wpS_forRange (I := fun x c st4 => c = (none, ()) ∧ SB κ a₀ st4 ∧ Chn R (arrOf st4) 0 (pendingOf st4).toList lo ∧ Sr R (arrOf st4) lo (lo + n))
      (Q := fun c st4 => c = (none, ()) ∧ SB κ a₀ st4 ∧ Chn R (arrOf st4) 0 (pendingOf st4).toList lo ∧ Sr R (arrOf st4) lo (lo + n)) ?ms (fun _ _ hh => hh) ⟨rfl, hB3, hc3, hs3⟩) ?mp)
    case mp =>
      rintro c st4 ⟨rfl, hB4, hc4, hs4⟩
      dsimp only
      refine wpS_bind (wpS_modify (wpS_bind (wpS_modify (wpS_pure ⟨_, rfl, ⟨hB4.perm, hB4.kind, hB4.failed⟩, endp (setPending st4 ((pendingOf st4).modify ((pendingOf st4).size - 1) fun x => (x.1, x.2.1, pw))) ⟨hB4.perm, hB4.kind, hB4.failed⟩ ?_ hs4, hn2, by omega⟩))))
      show Chn R (arrOf st4) 0 ((pendingOf st4).modify ((pendingOf st4).size - 1) fun x => (x.1, x.2.1, pw)).toList lo
      refine chn_congr ?_ hc4
      rw [Array.toList_modify]
      exact (map_modify (fun q : Nat × Nat × Nat => (q.1, q.2.1)) (fun x : Nat × Nat × Nat => (x.1, x.2.1, pw)) (fun _ => rfl) _ _).symm
    case ms =>
      rintro x4 c st4 _ _ ⟨rfl, hB4, hc4, hs4⟩
      refine wpS_bind (wpS_get ?_)
      by_cases hg : (pendingOf st4).size > 1
      · rw [if_pos hg]
        cases ho : (pendingOf st4)[(pendingOf st4).size - 2]? with
        | none => exact wpS_pure ⟨rfl, hB4, hc4, hs4⟩
        | some q =>
          obtain ⟨q1, q2, older⟩ := q
          dsimp only
          by_cases hol : older ≤ pw
          · rw [if_pos hol]
            exact wpS_pure ⟨rfl, hB4, hc4, hs4⟩
          · rw [if_neg hol]
            refine wpS_bind (wp_mergeC hA hB4 (by omega) hc4 hle fun st5 hB5 _ hc5 hL5 => ?_)
            exact wpS_pure ⟨rfl, hB5, hc5, hs4.frame hL5 (.inr (Nat.le_refl _))⟩
      · rw [if_neg hg]
        exact wpS_pure ⟨rfl, hB4, hc4, hs4⟩))
theorem wp_sortRuns {Q : Unit → SortSt → Prop} (hA : Ans prog w A E s κ R a₀) (hB : SB κ a₀ st) (hp : pendingOf st = #[])
    (h : ∀ st', SB κ a₀ st' → Sr R (arrOf st') 0 a₀.size → Q () st') : wpS (model prog w) A E s sortRuns' Q st := by
  rw [sortRuns'_eq]
  refine wpS_bind (wpS_get ?_)
  dsimp only
  simp only [hB.size]
  generalize minRun' a₀.size a₀.size 0 = mr
  refine wpS_bind (wpS_mono (wpS_forRange (I := fun x c st' => ∃ lo, c = (none, lo) ∧ SB κ a₀ st' ∧ Chn R (arrOf st') 0 (pendingOf st').toList lo ∧ lo ≤ a₀.size ∧ (x ≤ lo ∨ lo = a₀.size))
    (Q := fun c st' => c = (none, a₀.size) ∧ SB κ a₀ st' ∧ Chn R (arrOf st') 0 (pendingOf st').toList a₀.size) ?step ?fin ?init) ?post)
  case init => exact ⟨0, rfl, hB, by rw [hp]; rfl, Nat.zero_le _, .inl (Nat.le_refl _)⟩
  case fin =>
    rintro c st' ⟨lo, rfl, hB', hc, hle, hx⟩
    have : lo = a₀.size := by omega
    subst this
    exact ⟨rfl, hB', hc⟩
  case step =>
    rintro x c st' _ hx ⟨lo, rfl, hB', hc, hle, hxl⟩
    dsimp only
    by_cases hge : lo ≥ a₀.size
    · rw [if_pos hge]
      have : lo = a₀.size := by omega
      subst this
      exact wpS_pure ⟨rfl, hB', hc⟩
    rw [if_neg hge]
    refine wpS_bind (wp_count hA hB' (by omega) (by omega) fun m st2 hm1 hm2 hs2 hS2 => ?_)
    dsimp only
    have hc2 : Chn R (arrOf st2) 0 (pendingOf st2).toList lo := by rw [hS2.pend]; exact Chn.frame hS2.loc hc (.inl (Nat.le_refl _))
    by_cases hlt : m < mr
    · rw [if_pos hlt]
      refine wpS_bind (wpS_lift (wpAny_rule ⟨rfl, ?_⟩))
      refine wpS_bind (wp_bin hA hS2.sb (by omega) hm1 (by omega) hs2 fun st3 hs3 hS3 => ?_)
      simp only [Bool.not_true, Bool.false_eq_true, if_false]
      have hB3 := hS3.sb
      have hc3 : Chn R (arrOf st3) 0 (pendingOf st3).toList lo := by rw [hS3.pend]; exact Chn.frame hS3.loc hc2 (.inl (Nat.le_refl _))
      have hn1 : 1 ≤ min (a₀.size - lo) mr := by omega
      have hn2 : lo + min (a₀.size - lo) mr ≤ a₀.size := by omega
      generalize min (a₀.size - lo) mr = n at *
      walk_at "runs_tail"
    · rw [if_neg hlt]
      have hB3 := hS2.sb
      have hc3 := hc2
      have hs3 := hs2
      have hn1 := hm1
      have hn2 : lo + m ≤ a₀.size := by omega
      generalize st2 = st3 at *
      generalize m = n at *
      walk_at "runs_tail"
  case post =>
    rintro c st' ⟨rfl, hB', hc⟩
    dsimp only
    have hpl : (pendingOf st').size ≤ a₀.size := by have := Chn.le hc; rw [Array.length_toList] at this; omega
    refine wpS_bind (wpS_mono (wpS_forRange (I := fun x c st4 => c = (none, ()) ∧ SB κ a₀ st4 ∧ Chn R (arrOf st4) 0 (pendingOf st4).toList a₀.size ∧ ((pendingOf st4).size + x ≤ a₀.size ∨ (pendingOf st4).size ≤ 1))
      (Q := fun c st4 => c = (none, ()) ∧ SB κ a₀ st4 ∧ Chn R (arrOf st4) 0 (pendingOf st4).toList a₀.size ∧ (pendingOf st4).size ≤ 1) ?ms ?mf ⟨rfl, hB', hc, .inl hpl⟩) ?mp)
    case mf =>
      rintro c st4 ⟨rfl, hB4, hc4, hx⟩
      exact ⟨rfl, hB4, hc4, by omega⟩
    case mp =>
      rintro c st4 ⟨rfl, hB4, hc4, h1⟩
      refine wpS_pure (h st4 hB4 ?_)
      have hl1 : (pendingOf st4).toList.length ≤ 1 := by simpa using h1
      match hq : (pendingOf st4).toList, hl1 with
      | [], _ =>
        rw [hq] at hc4
        have hc4 : 0 = a₀.size := hc4
        intro p q h1 h2 h3
        omega
      | [q], _ =>
        rw [hq] at hc4
        obtain ⟨c1, c2, c3, c4⟩ := hc4
        have c4 : 0 + q.2.1 = a₀.size := c4
        rw [c4] at c3
        exact c3
    case ms =>
      rintro x4 c st4 _ _ ⟨rfl, hB4, hc4, hx⟩
      refine wpS_bind (wpS_get ?_)
      by_cases hg : (pendingOf st4).size ≤ 1
      · rw [if_pos hg]
        exact wpS_pure ⟨rfl, hB4, hc4, hg⟩
      · rw [if_neg hg]
        have hite : ∀ (c : Prop) [Decidable c], (if c then (pendingOf st4).size - 2 - 1 else (pendingOf st4).size - 2) + 1 < (pendingOf st4).size := fun c _ => by split <;> omega
        refine wpS_bind (wp_mergeC hA hB4 (hite _) hc4 (Nat.le_refl _) fun st5 hB5 hz5 hc5 _ => ?_)
        exact wpS_pure ⟨rfl, hB5, hc5, by omega⟩
end
end Sg
namespace Sg
open PySem PyProof.Rows
section
variable {prog : Program} {w : World} {A : Around} {E : Value → Shared → Prop} {s : Shared}
theorem ans_ints {a₀ : Array Keyed} (h0 : IntKeys a₀) : Ans prog w A E s oneType' (fun p => numOf p.1) a₀ where
  lt := fun {x y st Q} hx hy hk q => by
    obtain ⟨n, t, ex⟩ := h0 x hx
    obtain ⟨m, u, ey⟩ := h0 y hy
    rw [lt'_eq]
    refine wpS_bind (wpS_get ?_)
    rw [hk, keyLt'_oneType, ex, ey]
    refine wpS_bind (wpS_lift (wpAny_attempt (oneLt_int ⟨rfl, ?_⟩)))
    have e : decide (numOf x.1 < numOf y.1) = decide (n < m) := by rw [ex, ey]; rfl
    rw [← e]
    exact wpS_pure q
theorem run_ints {v₁ v₂ : Value} {rest : List Value} {ns : List Int} {Q : SortSt → Prop} (hI : IntsAre (v₁ :: v₂ :: rest) ns)
    (h : ∀ st', (arrOf st').Perm (pairsOf (v₁ :: v₂ :: rest)) → failedOf st' = none → SortedTo (arrOf st') (pairsOf (v₁ :: v₂ :: rest)).size → Q st') :
    wpAny (model prog w) A ((sortRuns').run (SortSt.mk' oneType' ((v₁ :: v₂ :: rest).toArray.zip (v₁ :: v₂ :: rest).toArray) #[] 7 none)) (fun r s' => s' = s ∧ Q r.2) E s := by
  refine wpAny_mono (wp_sortRuns (Q := fun _ st' => Q st') (ans_ints (a₀ := pairsOf (v₁ :: v₂ :: rest)) hI.intKeys) ⟨.refl _, rfl, rfl⟩ rfl fun st' hB hs => ?_) (fun r s' hr => hr) fun _ _ e => e
  refine h st' hB.perm hB.failed fun i j hij hj => ?_
  have := hs i j (Nat.zero_le _) hij hj
  have ek : ∀ k, kz (fun p => numOf p.1) (arrOf st') k = K (arrOf st') k := fun k => by
    unfold kz K
    cases (arrOf st')[k]? <;> rfl
  rw [ek, ek] at this
  exact this
theorem sort_any {a : Addr} {vs : List Value} {ns : List Int} {n : Nat} {P : PySem.Fin → Shared → Prop} (ho : s.heap.get? a = some (seqObj "list" vs.toArray n))
    (hI : IntsAre vs ns) (hz : vs.length ≤ 10000)
    (h : ∀ (out : Array Value) (ns' : List Int), IntsAre out.toList ns' → ns'.Perm ns → ns'.Pairwise (· ≤ ·) → P (.done (.ret .none)) { s with heap := sortedHeap s.heap a vs out }) :
    wpAny (model prog w) A (Builtin.«list.sort» ⟨[.ref a], []⟩) P E s := by
  by_cases h64 : vs.length < 64
  · exact list_sort_tree ho hI h64 h
  rw [list_sort_plain]
  have ha : a < s.heap.objs.size := Heap.lt_size ho
  have hsl : vs.length ≤ sizeLine := by rw [sizeLine_eq]; omega
  refine wpAny_bind (listItems_at ho rfl ?_)
  refine wpAny_bind (listUpdate_at ho rfl ?_ (by rw [List.size_toArray]; exact hsl) (Nat.zero_le _))
  obtain ⟨c1, hc1⟩ : ∃ c1, (s.heap.update a (Obj.mapSeq fun _ => (#[] : Array Value))).get? a = some (seqObj "list" #[] c1) := ⟨_, get?_update_seq ho fun _ => #[]⟩
  refine wpAny_bind (seqEpoch_at hc1 rfl ?_)
  refine wpAny_bind (wpAny_newTuple ?_ (by show vs.length ≤ _; exact hsl))
  refine wpAny_bind (wpAny_newList ?_ (Nat.zero_le _))
  refine wpAny_holding ?_
  have h3 : (((s.heap.update a (Obj.mapSeq fun _ => (#[] : Array Value))).push (seqObj "tuple" vs.toArray 0)).push (seqObj "list" #[] 0)).get? a = some (seqObj "list" #[] c1) := Heap.get?_push_of_some _ (Heap.get?_push_of_some _ hc1)
  show wpAny (model prog w) A _ P E { s with heap := ((s.heap.update a (Obj.mapSeq fun _ => (#[] : Array Value))).push (seqObj "tuple" vs.toArray 0)).push (seqObj "list" #[] 0) }
  dsimp only
  have n2 : ¬ vs.toArray.size < 2 := by rw [List.size_toArray]; omega
  rw [if_neg n2, if_neg n2]
  obtain ⟨v₁, v₂, rest, rfl⟩ : ∃ v₁ v₂ rest, vs = v₁ :: v₂ :: rest := by
    match vs, h64 with
    | [], h => simp at h
    | [_], h => simp at h
    | v₁ :: v₂ :: rest, _ => exact ⟨v₁, v₂, rest, rfl⟩
  rw [keyKind_ints hI]
  refine wpAny_bind (wpAny_pure ?_)
  refine wpAny_bind (wpAny_mono (run_ints (Q := fun st' => (arrOf st').Perm (pairsOf (v₁ :: v₂ :: rest)) ∧ failedOf st' = none ∧ SortedTo (arrOf st') (pairsOf (v₁ :: v₂ :: rest)).size) hI fun st' q1 q2 q3 => ⟨q1, q2, q3⟩) ?_ fun _ _ e => e)
  rintro ⟨⟨⟩, st'⟩ s' ⟨rfl, hp, hf, hs⟩
  dsimp only at hp hf hs ⊢
  refine wpAny_bind (seqEpoch_at h3 rfl ?_)
  have hso : ((arrOf st').map (·.2)).size = (v₁ :: v₂ :: rest).length := (Array.size_map ..).trans (hp.size_eq.trans (pairsOf_size _))
  refine wpAny_bind (listUpdate_at h3 rfl ?_ (Nat.zero_le _) (by rw [hso]; omega))
  rw [hf]
  simp only [bne_self_eq_false, Bool.false_eq_true, if_false]
  obtain ⟨ns', q1, q2, q3⟩ := sorted_out hI hp hs
  exact wpAny_pure (h _ ns' q1 q2 q3)
end
end Sg
namespace Sg
open PySem PyProof.Rows
open Srt (kLt)
section
variable {prog : Program} {w : World} {A : Around} {E : Value → Shared → Prop} {s : Shared}
end
end Sg
namespace L3
open PySem PySem.Spec PyProof.Rows L2
open Srt (kLt)
section
variable {X : Cx} {pins : List (Addr × Obj)} {σ : L2.St} {H : Hp} {s : Shared} {μ : List Addr} {S : Sto} {A : Around} {E : Value → Shared → Prop} {kS Dd : Addr} {e1 : Nat} {kvs xs : List V} {its : List Value}
  {kc : Nat} {a : Addr} {Z Zp : Zs} {capD : List D} {capV : List V} {f : List D → Option D} {inv : Sto → Prop} {ds : List D} {kf : D → List Int}
structure Asked (X : Cx) (pins : List (Addr × Obj)) (σ : L2.St) (H : Hp) (μ : List Addr) (S : Sto) (kS Dd : Addr) (e1 kc : Nat) (a : Addr) (Z Zp : Zs) (capD : List D) (capV : List V) (f : List D → Option D) (inv : Sto → Prop) (ks : List D) (H' : Hp) (μ' : List Addr) (kvs : List V) (s' : Shared) : Prop where
  I : Inv X pins σ H' s'
  g : Go H μ H' μ'
  m : Sim X.K H' μ' S
  k : H' kS = some (.lst kvs)
  km : kS ∉ μ'
  r : Reps X.K H' μ' ks kvs
  C : CloAt X H' μ' s' kc a Z Zp capD capV f inv
  d : s'.heap.get? Dd = some (seqObj "list" #[] e1)
  dn : H' Dd = none
theorem Asked.next {ks : List D} {H' H2 : Hp} {μ' μ2 : List Addr} {s' s2 : Shared} {d : D} {v : V} {u : Value} (T : Asked X pins σ H μ S kS Dd e1 kc a Z Zp capD capV f inv ks H' μ' kvs s') (hkS : H kS = none) (hnf : Dd ∉ frs X.stack) (h64 : kvs.length < 64)
    (I2 : Inv X pins σ H2 s2) (ru : RelV v u) (g2 : Go H' μ' H2 μ2) (m2 : Sim X.K H2 μ2 S) (rv : Rep X.K H2 μ2 d v) (C2 : CloAt X H2 μ2 s2 kc a Z Zp capD capV f inv) (un : ∀ b o, s'.heap.get? b = some o → H' b = none → b ∉ frs X.stack → s2.heap.get? b = some o ∧ H2 b = none)
    {E' : Value → Shared → Prop} {R : Shared → Prop} (h : ∀ s3 H3 kvs3, Asked X pins σ H μ S kS Dd e1 kc a Z Zp capD capV f inv (ks ++ [d]) H3 μ2 kvs3 s3 → R s3) : wpAny (model X.prog X.w) A (Builtin.List.listUpdate (.ref kS) (·.push u)) (fun _ s3 => R s3) E' s2 := by
  have k2 : H2 kS = some (.lst kvs) := g2.keep kS _ T.k T.km rfl
  have km2 : kS ∉ μ2 := fun z => by have := g2.new kS z T.km; rw [T.k] at this; cases this
  obtain ⟨d2, dn2⟩ := un Dd _ T.d T.dn hnf
  have hne : Dd ≠ kS := fun z => by rw [z, k2] at dn2; cases dn2
  obtain ⟨zk, itk, nk, rk, lk', ek⟩ := I2.lstM k2
  have ep : (fun xs : Array Value => xs.push u) itk.toArray = (itk ++ [u]).toArray := by simp
  have I3 := I2.lset (f := (·.push u)) (t' := s2.toks) (its' := itk ++ [u]) (ys := kvs ++ [v]) k2 ek ep (rk.append (.cons ru .nil)) (by rw [List.length_append, sizeLine_eq]; simp; omega)
  refine listUpdate_at ek rfl (h _ (upd H2 kS (.lst (kvs ++ [v]))) (kvs ++ [v]) ?_) (by rw [List.size_toArray, ← lk']; exact zk) (by show (itk.toArray.push u).size ≤ _; rw [Array.size_push, List.size_toArray, ← lk', sizeLine_eq]; omega)
  have side : ∀ {ds vs}, Reps X.K H2 μ2 ds vs → Reps X.K (upd H2 kS (.lst (kvs ++ [v]))) μ2 ds vs := fun r => Reps.side r k2
  refine ⟨I3, (T.g.trans g2).side hkS, m2.side k2 km2, upd_same, km2, side ((Reps.go g2 T.m T.r).append (.cons rv .nil)), C2.step (S := S) (upd_tz fun _ _ e => by rw [k2] at e; cases e) (fun _ _ r => side r) (fun b o e => ?_), ?_, by rw [upd_ne hne]; exact dn2⟩
  · have : kS ≠ b := fun z => by obtain ⟨y, hy⟩ := C2.cell b o e; have := I2.freeC y b hy; rw [← z, k2] at this; cases this
    exact (Heap.get?_update_other s2.heap _ this).trans (C2.get b o e)
  · exact (Heap.get?_update_other s2.heap _ (Ne.symm hne)).trans d2
end
end L3
namespace L3
open PySem PySem.Spec PyProof.Rows L2
open Srt (kLt)
section
variable {X : Cx} {pins : List (Addr × Obj)} {σ : L2.St} {H : Hp} {s : Shared} {μ : List Addr} {S : Sto} {E : Value → Shared → Prop} {xs : List V} {kc : Nat} {l a : Addr} {Z Zp : Zs} {capD : List D} {capV : List V} {f : List D → Option D} {inv : Sto → Prop} {ds : List D} {kf : D → List Int}
end
def wSortK (we : W D) (wB : W D) (capIx : List Nat) : W (List D) := fun ρ S Q => we ρ S fun d S1 => ∃ (n : Nat) (ds : List D) (kf : D → List Int) (capD : List D), d = .ref n ∧ S1[n]? = some (O.lst ds) ∧ ds.length < 64 ∧ capIx.map (lk ρ) = capD.map some ∧
  ((∀ d ∈ ds, kf d ≠ []) ∨ ∀ d ∈ ds, kf d = []) ∧ (∀ d ∈ ds, wB (some d :: capD.map some) S1 fun r S' => r = .tup ((kf d).map D.int) ∧ S' = S1) ∧
  ∀ p, SortOut (ds.map kf) ds.length p → Q (p.map fun i => ds.getD i .non) S1
section
variable {X : Cx} {x : Str} {params : Arguments} {body : Expr} {scope : Scope} {pos p kp lpos : Pos} {e : Expr} {we : W D} {kc : Nat} {wB : W D} {N cs : List Str} {q : Str} {capIx : List Nat} {c P : Addr}
end
end L3
namespace L3
open PySem PySem.Spec PyProof.Rows L2
def wNeg (w : W D) : W D := fun ρ S Q => w ρ S fun d S1 => match d with | .int i => Q (.int (-i)) S1 | _ => False
def truD (S : Sto) : D → Option Bool
  | .non => some false
  | .bl b => some b
  | .int i => some (i != 0)
  | .tup xs => some (!xs.isEmpty)
  | .ro xs => some (!xs.isEmpty)
  | .ref n => match S[n]? with | some (.lst xs) => some (!xs.isEmpty) | _ => none
  | _ => none
def wTru (w : W D) : W Bool := fun ρ S Q => w ρ S fun d S1 => ∃ b, truD S1 d = some b ∧ Q b S1
def wSorted (w : W D) : W (List D) := fun ρ S Q => w ρ S fun d S1 => ∃ (n : Nat) (ns : List Int), d = .ref n ∧ S1[n]? = some (O.lst (ns.map D.int)) ∧ ns.length < 64 ∧ ∀ ns' : List Int, ns'.Perm ns → ns'.Pairwise (· ≤ ·) → Q (ns'.map D.int) S1
section
variable {X : Cx} {a e : Expr} {wa we : W D} {pos p : Pos}
theorem ql_sorted (hm : X.mg "sorted" = none) (he : QE X e we) (hg : Gl X "sorted" := by rfl) (hs : starEach [e] X.env = (false, eval e X.env) :: starEach [] X.env := by rfl) (hpl : (backTo pos (starEach [] X.env)).any (·.1) = false := by rfl) : QL X (.Call (.Name "sorted" p) [e] [] pos) (wSorted we) := by
  refine ⟨PE.imp (pe_callB cr_sorted hg hm (by decide +kernel) (qa_cons he qa_nil hs).pa (by decide) (by decide) hs hpl) fun σ H Q ⟨ρ, μ, S, Q3, eo, m, k, q⟩ => ?_⟩
  refine ⟨ρ, μ, S, fun ds S1 => match ds with | [d] => ∃ (n : Nat) (ns : List Int), d = .ref n ∧ S1[n]? = some (O.lst (ns.map D.int)) ∧ ns.length < 64 ∧ ∀ ns' : List Int, ns'.Perm ns → ns'.Pairwise (· ≤ ·) → Q3 (ns'.map D.int) S1 | _ => False, eo, m, fun ds S1 vs H1 μ1 hh g1 m1 r1 => ?_, q⟩
  dsimp only at hh
  split at hh
  · obtain ⟨n, ns, rfl, hn, h64, hq⟩ := hh
    cases r1 with
    | cons r t =>
      cases t
      cases r with
      | ref hμ =>
        obtain ⟨vs, h1, h2⟩ := m1.at hn hμ
        have e1 := h2.ints
        subst e1
        refine ⟨_, ns, rfl, .inl (.inl h1), h64, fun ns' p hp hs hn => ?_⟩
        obtain ⟨g2, m2⟩ := m1.junk (o := .lst (ns'.map V.int)) hn
        exact k _ S1 p _ _ μ1 (hq ns' hp hs) (g1.trans g2) m2 (g1.back m1 hn) upd_same (fun z => m1.non p z hn) (reps_ints ns')
  · exact hh.elim
end
section
open PySem.SeqAt
open PySem.AutoSeq1 (wpAny_loadPart')
open PySem.MeetsSeq PySem.MeetsSeq2 PySem.MeetsSeq3
end
def pGeP : P2 := fun a b S Q => match a, b with
  | .int i, .int j => Q (.bl (decide (j ≤ i))) S
  | .tup [.tup xs, .int i], .tup [.tup ys, .int j] => ∃ ns ms, xs = ns.map D.int ∧ ys = ms.map D.int ∧ Q (.bl (if ns = ms then decide (j ≤ i) else !HT.lexLt ns ms)) S
  | _, _ => False
end L3
namespace L3
open PySem PySem.Spec PyProof.Rows L2
theorem law3 {P : Program} {w : World} {K : PySem.W.Frag} {mg mb : Str → Option Value} {k : Nat} {fa a : Addr} {x : Str} {sp : PN} {s₁ : Shared} {vs : List Value} {ns : List Int}
    (KX : K.In s₁.heap) (hns : s₁.heap.Ns mainGlobals mg) (hb : s₁.heap.Ns builtinsNs mb) (hbb : ∀ x : Str, x ≠ "__name__" → mb x = bootBuiltins x) (hlim : s₁.heap.NoLimit) (hg : s₁.gens = #[])
    (ha : s₁.heap.get? a = some { cls := .type "list", data := .seq vs.toArray }) (hi : IntsAre vs ns) (hl : ns.length ≤ sizeLine) (hr : Room k callerA)
    (hT : ∀ y ∈ lamFns, ∀ c Q, PySem.W.tabIn K y = some (c, Q) → PySem.W.CodeHd s₁.heap c Q ∧ s₁.heap.get? Q = some (PySem.W.tabObj #[])) (hnt : PySem.W.noTabs K = true) (hnd : ((tabsOf K).map (·.2)).Nodup)
    (hbm : ∃ bm ob, mg "__builtins__" = some (.ref bm) ∧ bm ≠ builtinsNs ∧ s₁.heap.get? bm = some ob ∧ ob.cls = .type "module" ∧ ob.dict = some builtinsNs ∧ ob.data = .plain)
    (hfa : mg x = some (.ref fa)) (F : ∀ base : Heap, K.In base → base.Ns mainGlobals mg → LamB K mg base → Fn3 P w K mg base k x sp)
    (hsp : sp [.ro (ns.map D.int)] [] fun d _ => d = .bl true) :
    codeAny (model P w) callerA (.call (.ref fa) ⟨[.ref a], []⟩) (fun r s' => r = .ok (.ret (.bool true)) ∧ OldK s₁.heap s'.heap ∧ s'.os = s₁.os ∧ AllBare s'.gens) s₁ := by
  have rv := vals_ints hi
  have lenV := hi.length
  have tabAt : ∀ q ∈ tabsOf K, s₁.heap.get? q.2 = some (PySem.W.tabObj #[]) := fun q hq => by
    obtain ⟨y, hy, e⟩ := List.mem_filterMap.mp hq
    cases e2 : PySem.W.tabIn K y with
    | none => rw [e2] at e; cases e
    | some r => rw [e2] at e; cases e; exact (hT y hy _ _ e2).2
  have noK : ∀ q ∈ tabsOf K, ∀ o, K.lookup q.2 ≠ some o := fun q hq o e => by
    have e1 := KX _ _ e
    rw [tabAt q hq] at e1
    have h2 := List.all_eq_true.mp hnt (q.2, o) (PySem.W.mem_of_lookupK e)
    cases e1
    exact absurd (show false = true from h2) Bool.false_ne_true
  have ta : ∀ q ∈ tabsOf K, q.2 ≠ a := fun q hq z => by have := tabAt q hq; rw [z, ha] at this; cases this
  -- from an abstract heap in which nothing but the tables and the script may be tracked
  have core : ∀ H : Hp, (∀ q ∈ tabsOf K, H q.2 = some (HO.tbl #[])) → SqR K H a (ns.map V.int) → (∀ b o, H b = some o → (b ∈ (tabsOf K).map (·.2) ∧ o = HO.tbl #[]) ∨ (b = a ∧ o = .frz { cls := .type "list", data := .seq vs.toArray } (.lst (ns.map V.int)))) → (H a ≠ none → K.lookup a = none) →
      codeAny (model P w) callerA (.call (.ref fa) ⟨[.ref a], []⟩) (fun r s' => r = .ok (.ret (.bool true)) ∧ OldK s₁.heap s'.heap ∧ s'.os = s₁.os ∧ AllBare s'.gens) s₁ := by
    intro H hTb hS hO hK
    have hok : HOk P w H s₁.heap := fun b o e => by
      rcases hO b o e with ⟨h1, rfl⟩ | ⟨rfl, rfl⟩
      · obtain ⟨q, hq, rfl⟩ := List.mem_map.mp h1
        exact tabAt q hq
      · exact ⟨ha, by rw [List.length_map]; exact hl, vs, _, rv, ha⟩
    have base_of : ∀ {b : Addr} {o : Obj}, s₁.heap.get? b = some o → H b = none → (hidT s₁.heap H).get? b = some o := fun e n => hidT_get e n
    have free : ∀ {b : Addr} {o : Obj}, s₁.heap.get? b = some o → o ≠ PySem.W.tabObj #[] → o.cls ≠ .type "list" → H b = none := fun {b o} e n1 n2 => by
      cases q : H b with
      | none => rfl
      | some u =>
        rcases hO b u q with ⟨h1, rfl⟩ | ⟨rfl, rfl⟩
        · obtain ⟨r, hr, rfl⟩ := List.mem_map.mp h1
          rw [tabAt r hr] at e; cases e
          exact absurd rfl n1
        · rw [ha] at e; cases e
          exact absurd rfl n2
    have noA : ∀ {b : Addr} {o : Obj} {es : Array DictEntry} {ep : Nat}, s₁.heap.get? b = some o → o.data = .dict es ep → H b = none := fun {b o es ep} e d => by
      cases q : H b with
      | none => rfl
      | some u =>
        rcases hO b u q with ⟨h1, rfl⟩ | ⟨rfl, rfl⟩
        · obtain ⟨r, hr, rfl⟩ := List.mem_map.mp h1
          rw [tabAt r hr] at e; cases e
          cases d
        · rw [ha] at e; cases e
          have d' : Data.seq vs.toArray _ = Data.dict es ep := d
          cases d'
    have nsK : ∀ {b : Addr} {m : Str → Option Value}, s₁.heap.Ns b m → (hidT s₁.heap H).Ns b m := fun {b m} ⟨o, es, ep, e, d, r⟩ => ⟨o, es, ep, base_of e (noA e d), d, r⟩
    have hKb : K.In (hidT s₁.heap H) := fun b o e => base_of (KX b o e) (by
      cases q : H b with
      | none => rfl
      | some u =>
        rcases hO b u q with ⟨h1, rfl⟩ | ⟨rfl, rfl⟩
        · obtain ⟨r, hr, rfl⟩ := List.mem_map.mp h1
          exact absurd e (noK r hr o)
        · rw [hK (by rw [q]; simp)] at e; cases e)
    have hM : Mod K mg (hidT s₁.heap H) := ⟨hKb, nsK hns, ⟨mb, nsK hb, hbb⟩, let ⟨mc, h1, h2⟩ := hlim; ⟨mc, nsK h1, h2⟩⟩
    have e0 : Env0 P w K mg (hidT s₁.heap H) callerA [] s₁ H := ⟨rfl, hM, fun b o e => of_hidT e, Nat.le_of_eq (hidT_size _ _), trivial, fun b hb => absurd (show b ∈ ([] : List Addr) from hb) (by simp), hok, .of_eq hg⟩
    have hLB : LamB K mg (hidT s₁.heap H) := by
      refine ⟨fun y hy c Q ht => ?_, ?_, hnd⟩
      · obtain ⟨o, us, file, tf, flags, tg, inF, text, tt, e1, e2, r⟩ := (hT y hy c Q ht).1
        exact ⟨o, us, file, tf, flags, tg, inF, text, tt, base_of e1 (free e1 (fun z => by rw [z] at e2; cases e2) (fun z => by rw [e2] at z; exact absurd z (by decide))), e2, r⟩
      · obtain ⟨bm, ob, h1, h2, h3, h4, h5, h6⟩ := hbm
        refine ⟨bm, ob, h1, h2, fun z => ?_, base_of h3 (free h3 (fun z => by rw [z] at h4; cases h4) (fun z => by rw [h4] at z; exact absurd z (by decide))), h4, h5, h6⟩
        obtain ⟨o, es, ep, e, d, r⟩ := hns
        rw [z, e] at h3; cases h3
        rw [d] at h6; cases h6
    obtain ⟨f, fd, ps, FO, hm, hkp, hbd⟩ := (F _ hKb (nsK hns) hLB).ex
    rw [hfa] at hm; cases hm
    have sim : Sim K H [] [] := ⟨rfl, .nil, fun n ds h => by simp at h, fun a h => by simp at h, fun a h => by simp at h, fun a h => by simp at h, fun q hq => ⟨#[], hTb q hq, trivial, fun pos cv h => by cases h⟩, fun a h => by simp at h⟩
    have spv : liftSp K sp [.ref a] H (fun v _ => v = .bl true) E0 := ⟨[.ro (ns.map D.int)], [], [], _, .cons (.ro hS (reps_ints ns)) .nil, sim, fun d S' v H' μ' q g m r => by subst q; cases r; rfl, hsp⟩
    have hlen : ([Value.ref a] : List Value).length = ps.length := FO.len _ _ _ _ spv
    refine codeAny_mono (FO.run callerA [] s₁ H ⟨[.ref a], []⟩ [.ref a] [.ref a] _ _ hr e0 (by have := hbd s₁ [.ref a] KX (by rw [List.append_nil]; exact hlen); rw [List.append_nil] at this; exact this) (.cons rfl .nil) spv) fun r s' h => ?_
    cases r with
    | error e => exact h.elim
    | ok fl =>
      cases fl with
      | next => exact False.elim h
      | brk => exact False.elim h
      | cont => exact False.elim h
      | ret u =>
        obtain ⟨v, H', os, bare, un, hok', r', q⟩ := h
        have q' : v = .bl true := q
        subst q'
        obtain rfl : u = Value.bool true := r'
        have each : ∀ b o, s₁.heap.get? b = some o → asItWas s₁.heap s'.heap b o := fun b o e => by
          cases q : H b with
          | none => exact .inl (un.keep b o e q (by intro z; exact absurd (show b ∈ ([] : List Addr) from z) (by simp)) (by simp))
          | some u =>
            rcases hO b u q with ⟨h1, rfl⟩ | ⟨rfl, rfl⟩
            · obtain ⟨r, hr, rfl⟩ := List.mem_map.mp h1
              obtain ⟨more, z2⟩ := un.tbls _ _ q
              have e2 := hok' _ _ z2
              have eo := tabAt r hr
              rw [e] at eo; cases eo
              obtain ⟨y, hy, ey⟩ := List.mem_filterMap.mp hr
              cases e3 : PySem.W.tabIn K y with
              | none => rw [e3] at ey; cases ey
              | some rr =>
                rw [e3] at ey; cases ey
                obtain ⟨hc, hq⟩ := hT y hy _ _ e3
                exact .inr (.inl ⟨(hc.tab hq).isCodeTable, rfl, #[], more, rfl, e2⟩)
            · have z2 := un.frzs _ _ _ q
              obtain ⟨e1, _⟩ := hok _ _ q
              obtain ⟨e2, _⟩ := hok' _ _ z2
              rw [e] at e1; cases e1
              exact .inl e2
        exact ⟨rfl, ⟨each, fun b o e => by
          rcases each b o e with h | ⟨_, _, us, more, _, h⟩ | ⟨_, _, ⟨o', _, _, h, _⟩, _⟩
          · exact ⟨_, h⟩
          · exact ⟨_, h⟩
          · exact ⟨_, h⟩⟩, os, bare⟩
  cases hk : K.lookup a with
  | some o =>
    have e := KX a o hk
    rw [ha] at e
    cases e
    refine core (fun b => if b ∈ (tabsOf K).map (·.2) then some (.tbl #[]) else none) (fun q hq => if_pos (List.mem_map_of_mem hq)) (.inr ⟨_, vs.toArray, _, hk, rfl, rfl, rfl, by rw [List.size_toArray, lenV]; exact hl, by simpa using rv⟩) (fun b o e => ?_) (fun z => absurd (if_neg (fun h => by obtain ⟨q, hq, e⟩ := List.mem_map.mp h; exact ta q hq e)) z)
    split at e
    · rename_i hb; cases e; exact .inl ⟨hb, rfl⟩
    · cases e
  | none =>
    refine core (fun b => if b ∈ (tabsOf K).map (·.2) then some (.tbl #[]) else if b = a then some (.frz { cls := .type "list", data := .seq vs.toArray } (.lst (ns.map V.int))) else none) (fun q hq => if_pos (List.mem_map_of_mem hq)) (.inl ⟨{ cls := .type "list", data := .seq vs.toArray }, ?_⟩) (fun b o e => ?_) (fun _ => hk)
    · dsimp only
      rw [if_neg (fun h => by obtain ⟨q, hq, e⟩ := List.mem_map.mp h; exact ta q hq e), if_pos rfl]
    · split at e
      · rename_i hb; cases e; exact .inl ⟨hb, rfl⟩
      · split at e
        · rename_i hb; cases e; exact .inr ⟨hb, rfl⟩
        · cases e
theorem code_is {K : PySem.W.Frag} {x qual : Str} {st : Stmt} {f : Addr} {fd : FuncData} {c P : Addr} (F : Fun K x qual st f fd) (ht : PySem.W.tabIn K x = some (c, P)) (hm : PySem.W.nsIn K mainGlobals x = some (some (.ref f))) : fd.code = .ref c := by
  obtain ⟨oc, od, kV, doc, pm, an, cdv, ct, osl, rfl, lk, hcd⟩ := F.ex
  unfold PySem.W.tabIn at ht
  rw [hm] at ht
  simp only [lk] at ht
  cases cdv with
  | ref c2 =>
    simp only at ht
    split at ht
    · split at ht
      · cases ht; rfl
      · cases ht
    · cases ht
  | _ => simp at ht
end L3
namespace L3
open PySem PySem.Spec PyProof.Rows L2
section
variable {P : Program} {w : World} {K : PySem.W.Frag} {mg : Str → Option Value} {base : Heap}
theorem fn3L {x qual : Str} {st : Stmt} {f : Addr} {fd : FuncData} {N ps : List Str} {k : Nat} {sp : PN} {wb : WS} {c : Addr} (F : Fun K x qual st f fd) (hcode : fd.code = .ref c) (Sc : FnScope N ps (defScope st)) (hm : mg x = some (.ref f)) (hb : Binds K fd ps [])
    (body : ∀ (A : Around) (outer : List PySem.Env) (s : Shared) (H : Hp) (E : XK), Room k (A.deeper (PyProof.Rows.envOfC qual (defScope st) s.heap.objs.size f (.ref c))) → QSs (cxOf CX0 P w K mg base N qual (defScope st) f (.ref c) A outer s H E).nox (defBody st) wb)
    (len : ∀ ds S Q, sp ds S Q → ds.length = ps.length) (math : ∀ ds S Q, sp ds S Q → wb { nx := fun _ S' => Q .non S', rt := Q } (start3 N ds) S) : Fn3 P w K mg base (k + 1) x sp := by
  obtain ⟨oc, od, kV, doc, pm, an, cdv, ct, osl, rfl, lk, hcd⟩ := F.ex
  have hcode : cdv = .ref c := hcode
  subst hcode
  refine ⟨f, _, ps, fn_of lk hcd Sc (fun vs H Q E ⟨ds, μ, S, Q3, h1, h2, h3, h4⟩ => by rw [← h1.length]; exact len ds S Q3 h4) (fun A outer s H vs Q E hr ⟨ds, μ, S, Q3, h1, h2, h3, h4⟩ => ?_), hm, F.kp, hb⟩
  exact ⟨_, (body A outer s H E hr).pss.nox, start3 N ds, μ, S, { nx := fun _ S' => Q3 .non S', rt := Q3 }, start_ok h1, h2, ⟨fun ρ' S' σ' H' μ' q g m e => h3 .non S' .non H' μ' q g m .non, h3, fun ρ' S' σ' H' μ' q g m e => q.elim, fun ρ' S' σ' H' μ' q g m e => q.elim⟩, math ds S Q3 h4⟩
theorem fn3N {x qual : Str} {st : Stmt} {f : Addr} {fd : FuncData} {ps : List Str} {k : Nat} (F : Fun K x qual st f fd) (hm : mg x = some (.ref f)) (hb : Binds K fd ps []) : Fn3 P w K mg base k x (fun _ _ _ => False) :=
  ⟨f, fd, ps, ⟨fun vs H Q E ⟨_, _, _, _, _, _, _, h⟩ => h.elim, fun A outer s H args us vs Q E hr e0 hbd hv ⟨_, _, _, _, _, _, _, h⟩ => h.elim⟩, hm, F.kp, hb⟩
end
theorem loop_inv {stay : Sto → Prop} {step : D → WS} (I : Nat → Env → Sto → Prop) : ∀ (xs : List D) {E : E3} {ρ : Env} {S : Sto} (i : Nat), I i ρ S → (∀ i ρ S, I i ρ S → stay S) →
    (∀ j x ρ S (k : Env → Sto → Prop), xs[j]? = some x → I (i + j) ρ S → (∀ ρ' S', I (i + j + 1) ρ' S' → k ρ' S') → step x { E with nx := k, ct := k, bk := E.nx } ρ S) → (∀ ρ S, I (i + xs.length) ρ S → E.nx ρ S) → wLoop stay step xs E ρ S
  | [], E, ρ, S, i, h, hs, _, he => ⟨hs i ρ S h, he ρ S (by simpa using h)⟩
  | x :: r, E, ρ, S, i, h, hs, hstep, he => ⟨hs i ρ S h, hstep 0 x ρ S _ rfl h fun ρ' S' h' => loop_inv I r (i + 1) h' hs (fun j y ρ S k hy hI hk => hstep (j + 1) y ρ S k (by simpa using hy) (by rw [show i + (j + 1) = i + 1 + j by omega]; exact hI) (by rw [show i + (j + 1) = i + 1 + j by omega]; exact hk)) (fun ρ S hI => he ρ S (by rw [List.length_cons, show i + (r.length + 1) = i + 1 + r.length by omega]; exact hI))⟩
theorem comp_inv {stay : Sto → Prop} {step : D → Sto → (Option D → Sto → Prop) → Prop} (I : Nat → List D → Sto → Prop) : ∀ (xs : List D) {acc : List D} {S : Sto} {Q : List D → Sto → Prop} (i : Nat), I i acc S → (∀ i acc S, I i acc S → stay S ∧ small acc.length) →
    (∀ j x acc S (k : Option D → Sto → Prop), xs[j]? = some x → I (i + j) acc S → (∀ o S', I (i + j + 1) (acc ++ o.toList) S' → k o S') → step x S k) → (∀ acc S, I (i + xs.length) acc S → Q acc S) → wComp stay step xs acc S Q
  | [], acc, S, Q, i, h, hs, _, he => ⟨(hs i acc S h).1, he acc S (by simpa using h)⟩
  | x :: r, acc, S, Q, i, h, hs, hstep, he => ⟨(hs i acc S h).1, (hs i acc S h).2, hstep 0 x acc S _ rfl h fun o S' h' => comp_inv I r (i + 1) h' hs (fun j y acc S k hy hI hk => hstep (j + 1) y acc S k (by simpa using hy) (by rw [show i + (j + 1) = i + 1 + j by omega]; exact hI) (by rw [show i + (j + 1) = i + 1 + j by omega]; exact hk)) (fun acc S hI => he acc S (by rw [List.length_cons, show i + (r.length + 1) = i + 1 + r.length by omega]; exact hI))⟩
end L3
namespace L3
open PySem PySem.Spec PyProof.Rows L2
theorem Fn3C.mono {P : Program} {w : World} {K : PySem.W.Frag} {mg : Str → Option Value} {base : Heap} {kc j k : Nat} {x : Str} {sp : PC3} (F : Fn3C P w K mg base kc j x sp) (h : j ≤ k) : Fn3C P w K mg base kc k x sp :=
  let ⟨f, fd, ps, a, b⟩ := F.ex; ⟨f, fd, ps, a.mono h, b⟩
section
variable {X : Cx} {x : Str} {params : Arguments} {body : Expr} {scope : Scope} {lpos : Pos}
theorem qac_lam2 {c P : Addr} {cs : List Str} (B : LamB X.K X.mg X.base) (hx : x ∈ lamFns) (ht : PySem.W.tabIn X.K x = some (c, P)) (hcode : X.env.code = .ref c) (hcell : ∀ y ∈ cs, X.env.scope.names.lookup y = some .cell) (huse : ∀ y ∈ scope.names, y.2 = .free → y.1 ∈ cs)
    (hqual : X.env.qual = x ++ ".<locals>." := by rfl) (hdef : defaultsOf params X.env = ([], []) := by rfl) (hs : starEach [Expr.Lambda params body scope lpos] X.env = [(false, eval (.Lambda params body scope lpos) X.env)] := by rfl) : QAC X x params body scope [.Lambda params body scope lpos] wNil :=
  qac_lam B hx ht hcode hqual hdef (fun y hy e => ⟨by unfold L2.Loc; first | exact .inr (hcell _ (huse y hy e)) | exact .inl (hcell _ (huse y hy e)) | exact hcell _ (huse y hy e), hcell _ (huse y hy e)⟩) hs
end
def wPar (i j : Nat) (ws : W (List D)) : WS := fun E ρ S => ws ρ S fun ds S1 => match ds with | [d1, d2] => E.nx ((ρ.set i (some d1)).set j (some d2)) S1 | _ => False
def tabsAll (K : PySem.W.Frag) (ts : List Addr) : Bool := (lamFns.filterMap fun x => PySem.W.tabIn K x).all fun q => PySem.W.codeHdIn K q.1 q.2 && ts.contains q.2
theorem tabs_mk {K : PySem.W.Frag} {h : Heap} {ts : List Addr} (X : K.In h) (Y : ∀ P ∈ ts, h.get? P = some (PySem.W.tabObj #[])) (hk : tabsAll K ts = true) : ∀ y ∈ lamFns, ∀ c Q, PySem.W.tabIn K y = some (c, Q) → PySem.W.CodeHd h c Q ∧ h.get? Q = some (PySem.W.tabObj #[]) := fun y hy c Q ht => by
  have := List.all_eq_true.mp hk (c, Q) (List.mem_filterMap.mpr ⟨y, hy, ht⟩)
  rw [Bool.and_eq_true] at this
  exact ⟨PySem.W.codeHd_of_K X this.1, Y Q (List.contains_iff_mem.mp this.2)⟩
theorem walk4 {l : PySem.W.OpenLaw} {n k : Nat} {q : Program} {loose : List Str} {XP : (Str → Option Value) → Heap → Prop} {YP : World → Heap → Prop} {d : DefRec} {K : Params → PySem.W.Frag} {sp : PN} {ts : List Addr}
    (hn : l.most = some n) (hn2 : n ≤ sizeLine) (hdf : d.params.defaults = []) (hr : Room k callerA) (hY : ∀ (w : World) (h : Heap), YP w h → (K w.params).In h ∧ ∀ P ∈ ts, h.get? P = some (PySem.W.tabObj #[]))
    (hK : ∀ P : Params, tabsAll (K P) ts = true ∧ PySem.W.noTabs (K P) = true ∧ decide ((tabsOf (K P)).map (·.2)).Nodup = true)
    (F : ∀ (w : World) (mg : Str → Option Value) (fa : Addr) (h : Heap), (K w.params).In h → h.Ns mainGlobals mg → mg d.name = some (.ref fa) →
      ∀ base : Heap, (K w.params).In base → base.Ns mainGlobals mg → LamB (K w.params) mg base → Fn3 l.prog w (K w.params) mg base k d.name sp)
    (hsp : ∀ ns : List Int, ns.length ≤ n → sp [.ro (ns.map D.int)] [] fun d _ => d = .bl true) :
    PySem.W.WalkO q loose XP YP l.row.toRowW d [] (fun f vs => PySem.call f vs) := by
  refine Att.attach_call hn hdf fun w s₀ s₁ mg mb fa o pm cd doc a vs ns G Y ho hd hcd hmg hobj hints hlen hg => ?_
  obtain ⟨KX, TX⟩ := hY w _ Y
  obtain ⟨h1, h2, h3⟩ := hK w.params
  exact law3 KX G.T.g G.T.b G.T.builtins G.T.nolimit hg hobj hints (Nat.le_trans hlen hn2) hr (tabs_mk KX TX h1) h2 (of_decide_eq_true h3) G.T.bmain hmg (F w mg fa _ KX G.T.g hmg) (hsp ns hlen)
end L3
namespace L3
open PySem PySem.Spec PyProof.Rows L2
section
variable {X : Cx} {a b e : Expr} {es : List Expr} {wa wb we : W D} {ws : W (List D)} {pos p : Pos}
def pInt1 : PN := fun ds S Q => match ds with
  | [.int i] => Q (.int i) S
  | [.bl b] => Q (.int (if b then 1 else 0)) S
  | _ => False
theorem ref_int1 {K : PySem.W.Frag} : RefN K (fun xs H Q => (∃ i, xs = [.int i] ∧ Q (.int i) H) ∨ ∃ k, xs = [.bl k] ∧ Q (.int (if k then 1 else 0)) H) pInt1 := by
  intro ds S Q3 vs H μ Q m r k q
  unfold pInt1 at q
  split at q
  · cases r with | cons r t => cases t; cases r; exact .inl ⟨_, rfl, k _ S _ H μ q .refl m (.int _)⟩
  · cases r with | cons r t => cases t; cases r; exact .inr ⟨_, rfl, k _ S _ H μ q .refl m (.int _)⟩
  · exact q.elim
theorem qe_int1 (hm : X.mg "int" = none) (ha : QA X [e] ws) (hg : Gl X "int" := by rfl) (hs : starEach [e] X.env = (false, eval e X.env) :: starEach [] X.env := by rfl) : QE X (.Call (.Name "int" p) [e] [] pos) (wCall pInt1 ws) :=
  qe_callTy call_int1 ref_int1 hm ha hg (by decide +kernel) (by decide) (by decide) hs (by rfl)
def wCat (wa wb : W D) : W (List D) := fun ρ S Q => wa ρ S fun x S1 => wb ρ S1 fun y S2 => match x, y with
  | .ref n, .ref m => ∃ xs ys, S2[n]? = some (O.lst xs) ∧ S2[m]? = some (O.lst ys) ∧ small (xs.length + ys.length) ∧ Q (xs ++ ys) S2
  | _, _ => False
def wRep (wa wb : W D) : W (List D) := fun ρ S Q => wa ρ S fun x S1 => wb ρ S1 fun y S2 => match x, y with
  | .ref n, .int k => ∃ xs, S2[n]? = some (O.lst xs) ∧ k ≤ 1000 ∧ -1000 ≤ k ∧ xs.length ≤ 1000 ∧ Q (List.replicate k.toNat xs).flatten S2
  | _, _ => False
end
def wDictG (ks : List Str) (ws : W (List D)) (wi : W D) : W D := fun ρ S Q => ws ρ S fun ds S1 => wi ρ S1 fun i S2 => match i with
  | .str x => Q ((dictAt ks ds x).getD .non) S2
  | _ => False
section
variable {X : Cx} {pos kp : Pos} {keys : List (Option Expr)} {values : List Expr} {ks : List Str} {ws : W (List D)} {wi : W D}
end
def rngC (lo c : Int) (n : Nat) : List D := (List.range n).map fun i => .int (lo + (i : Nat) * c)
def wRng3 (ws : W (List D)) : WI := fun ρ S Q => ws ρ S fun ds S1 => match ds with
  | [.int i, .int j, .int c] => c = -1 ∧ rng62 i ∧ rng62 j ∧ Q ⟨rngC i (-1) (i - j).toNat, fun _ => True⟩ S1
  | _ => False
end L3
namespace L3
open PySem PySem.Spec PyProof.Rows L2
def pRepT : P2 := fun a b S Q => match a, b with
  | .tup xs, .int k => xs ≠ [] ∧ 1 ≤ k ∧ k ≤ 1000 ∧ xs.length ≤ 1000 ∧ Q (.tup (List.replicate k.toNat xs).flatten) S
  | _, _ => False
section
variable {prog : Program} {w : World} {A : Around} {E : Value → Shared → Prop} {s : Shared}
end
section
variable {prog : Program} {w : World} {A : Around} {E : Value → Shared → Prop} {s : Shared}
end
def wTR (ws : W (List D)) : W D := fun ρ S Q => ws ρ S fun ds S1 => match ds with
  | [.int j] => (0 ≤ j ∧ j ≤ 100000) ∧ Q (.tup (rngD 0 j.toNat)) S1
  | _ => False
section
variable {X : Cx} {e : Expr} {es : List Expr} {we : W D} {ws : W (List D)} {pos p p2 p3 : Pos}
end
end L3
namespace L3
open PySem PySem.Spec PyProof.Rows L2
def dGet (kvs : List (List Int × D)) (k : List Int) : Option D := (kvs.find? fun p => decide (p.1 = k)).map (·.2)
section
variable {K : PySem.W.Frag} {H : Hp} {μ : List Addr}
theorem DReps.keys : ∀ {kvs : List (List Int × D)} {xs : List (List Int × Addr × Value)}, DReps K H μ kvs xs → xs.map (·.1) = kvs.map (·.1)
  | _, _, .nil => rfl
  | _, _, .cons _ _ _ t => by rw [List.map_cons, List.map_cons, DReps.keys t]
theorem DReps.sq : ∀ {kvs : List (List Int × D)} {xs : List (List Int × Addr × Value)}, DReps K H μ kvs xs → ∀ x ∈ xs, SqT K H x.2.1 (x.1.map V.int)
  | _, _, .nil, x, hx => by cases hx
  | _, _, .cons a _ _ t, x, hx => by
    rcases List.mem_cons.mp hx with z | z
    · subst z; exact a
    · exact DReps.sq t x z
theorem DReps.at : ∀ {kvs : List (List Int × D)} {xs : List (List Int × Addr × Value)}, DReps K H μ kvs xs → ∀ k, (∃ d b u v, dGet kvs k = some d ∧ atKey xs k = some (b, u) ∧ RelV v u ∧ Rep K H μ d v) ∨ (dGet kvs k = none ∧ atKey xs k = none)
  | _, _, .nil, k => .inr ⟨rfl, rfl⟩
  | _, _, .cons (k := k') (d := d) (b := b) (u := u) (v := v) a r c t, k => by
    by_cases e : k' = k
    · refine .inl ⟨d, b, u, v, ?_, ?_, r, c⟩
      · unfold dGet; rw [List.find?_cons_of_pos (by simpa using e)]; rfl
      · unfold atKey; rw [List.find?_cons_of_pos (by simpa using e)]; rfl
    · have e1 : ∀ r : List (List Int × D), dGet ((k', d) :: r) k = dGet r k := fun r => by unfold dGet; rw [List.find?_cons_of_neg (by simpa using e)]
      have e2 : ∀ r : List (List Int × Addr × Value), atKey ((k', b, u) :: r) k = atKey r k := fun r => by unfold atKey; rw [List.find?_cons_of_neg (by simpa using e)]
      rw [e1, e2]
      exact DReps.at t k
theorem DReps.snoc : ∀ {kvs : List (List Int × D)} {xs : List (List Int × Addr × Value)} {k : List Int} {d : D} {b : Addr} {u : Value} {v : V}, DReps K H μ kvs xs → SqT K H b (k.map V.int) → RelV v u → Rep K H μ d v → DReps K H μ (kvs ++ [(k, d)]) (xs ++ [(k, b, u)])
  | _, _, _, _, _, _, _, .nil, a, r, c => .cons a r c .nil
  | _, _, _, _, _, _, _, .cons a' r' c' t, a, r, c => .cons a' r' c' (DReps.snoc t a r c)
end
section
variable {X : Cx} {pins : List (Addr × Obj)} {σ : L2.St} {H : Hp} {s : Shared} {a : Addr} {xs : List (List Int × Addr × Value)} {A : Around} {E : Value → Shared → Prop}
end
def wDNew : W D := fun ρ S Q => Q (.ref S.length) (S ++ [O.dic []])
def wDix (wd wk : W D) : W D := fun ρ S Q => wd ρ S fun x S1 => wk ρ S1 fun y S2 => ∃ (n : Nat) (kvs : List (List Int × D)) (k : List Int) (d : D), x = .ref n ∧ y = .tup (k.map D.int) ∧ S2[n]? = some (O.dic kvs) ∧ dGet kvs k = some d ∧ Q d S2
section
variable {X : Cx} {o i e f : Expr} {wd wk wx : W D} {pos apos cpos : Pos}
def wSetD (wd wk wx : W D) : W D := fun ρ S Q => wd ρ S fun x S1 => (∃ n kvs, x = .ref n ∧ S1[n]? = some (O.dic kvs)) ∧ wk ρ S1 fun y S2 => wx ρ S2 fun z S3 => ∃ (n : Nat) (kvs : List (List Int × D)) (k : List Int), x = .ref n ∧ y = .tup (k.map D.int) ∧ S3[n]? = some (O.dic kvs) ∧ kvs.length ≤ 1000 ∧
  (match dGet kvs k with | some d => Q d S3 | none => Q z (S3.set n (O.dic (kvs ++ [(k, z)]))))
end
end L3
namespace L3
open PySem PySem.Spec PyProof.Rows L2
open Srt (kLt)
section
variable {prog : Program} {w : World} {A : Around} {E : Value → Shared → Prop} {s : Shared}
theorem collect_src {T : String} {r d : Addr} {n : Nat} {P : Nat → Value → Prop} {OK : Heap → Prop} {Q : List Value → Shared → Prop} (KS : PySem.W.KdlSrc prog w T r d n P OK) (hh : A.handled = none) (hok : OK s.heap) (hn : n ≤ sizeLine)
    (hQ : ∀ h' tk acc', (∀ b o', s.heap.get? b = some o' → h'.get? b = some o') → ItemsOf P acc' n → Q acc'.toList { s with heap := h', toks := tk }) :
    wpAny (model prog w) A (collect (.ref r)) Q E s := by
  unfold collect
  refine wpAny_bind (wpAny_runValue (codeAny_builtin PySem.F.entry_proto_collect ?_))
  rw [Around.under_plainId PySem.F.plain_proto_collect _]
  show wpAny _ A.in1 (newList [] >>= fun l => again (.builtin "list.__iadd__" ⟨[l, .ref r], []⟩)) _ _ s
  refine wpAny_bind (wpAny_newObj_type ?_)
  refine wpAny_pure ⟨plainId_quiet PySem.F.plain_list_iadd _, codeAny_builtin PySem.F.entry_list_iadd ?_⟩
  rw [Around.under_plainId PySem.F.plain_list_iadd _]
  show wpAny _ A.in1 (Builtin.List.listExtendWith (.ref s.heap.objs.size) (.ref r) (.ref s.heap.objs.size)) _ _ _
  have hS : (s.heap.push { cls := .type "list", data := .seq ([] : List Value).toArray }).get? s.heap.objs.size = some { cls := .type "list", data := .seq #[] 0 } := Heap.get?_push_size _ rfl
  have hlt := KS.there _ hok
  refine wpAny_mono (PySem.W.kdl_extend (A := A) (R := fun r s' => r = .ok (.ret (.ref s.heap.objs.size)) ∧ ∃ h' tk acc' c', s' = { s with heap := h', toks := tk } ∧ (∀ b o', s.heap.get? b = some o' → h'.get? b = some o') ∧ h'.get? s.heap.objs.size = some { cls := .type "list", dict := none, data := .seq acc' c', slots := #[] } ∧ ItemsOf P acc' n)
    (s := { s with heap := s.heap.push { cls := .type "list", data := .seq ([] : List Value).toArray } }) KS hh (KS.keep _ _ hok fun b _ o e => Heap.get?_push_of_some _ e) s.heap.objs.size (Nat.ne_of_gt hlt.1) (Nat.ne_of_gt hlt.2) (.ref s.heap.objs.size) 0 hS
    (fun h' tk acc' c' hk hS' hit => ⟨rfl, h', tk, acc', c', rfl, fun b o hb => hk b o (Nat.ne_of_lt (Heap.lt_size hb)) (Heap.get?_push_of_some _ hb), hS', hit⟩) hn) (fun fin s' h => ?_) (fun e s' h => ?_)
  · have fin' : ∀ s' : Shared, (∃ h' tk acc' c', s' = { s with heap := h', toks := tk } ∧ (∀ b o', s.heap.get? b = some o' → h'.get? b = some o') ∧ h'.get? s.heap.objs.size = some { cls := .type "list", dict := none, data := .seq acc' c', slots := #[] } ∧ ItemsOf P acc' n) → wpAny (model prog w) A (match Value.ref s.heap.objs.size with
      | Value.ref a => do
        match (← load a).data with
          | Data.seq xs _ => pure xs.toList
          | _ => unsupported "internal:collect"
      | _ => unsupported "internal:collect") Q E s' := by
      rintro s' ⟨h', tk, acc', c', rfl, hk, hS', hit⟩
      show wpAny _ A (load s.heap.objs.size >>= _) _ _ _
      refine wpAny_bind (wpAny_load hS' ?_)
      exact wpAny_pure (hQ h' tk acc' hk hit)
    cases fin with
    | done f =>
      obtain ⟨e, h⟩ := h
      cases e
      exact fin' s' h
    | again c' => exact ⟨h.1, codeAny_mono h.2 fun r s'' hr => by obtain ⟨rfl, hr⟩ := hr; exact fin' s'' hr⟩
  · exact absurd h.1 (by simp)
end
section
variable {X : Cx} {pins : List (Addr × Obj)} {σ : L2.St} {H : Hp} {s : Shared} {A : Around} {E : Value → Shared → Prop} {Dd : Addr} {xs : List V} {its : List Value} {kz : List (List Int)} {P : PySem.Fin → Shared → Prop}
end
def wSortD (w : W D) : W (List D) := fun ρ S Q => w ρ S fun d S1 => ∃ (n : Nat) (kvs : List (List Int × D)), d = .ref n ∧ S1[n]? = some (O.dic kvs) ∧ kvs.length ≤ 240 ∧ ((∀ x ∈ kvs, x.1 ≠ []) ∨ ∀ x ∈ kvs, x.1 = []) ∧
  ∀ p, SortOut (kvs.map (·.1)) kvs.length p → Q (p.map fun i => .tup (((kvs.map (·.1)).getD i []).map D.int)) S1
section
variable {X : Cx} {e : Expr} {we : W D} {pos p : Pos}
end
end L3
namespace L3
open PySem PySem.Spec PyProof.Rows L2
def pClear : PM := fun o ds S Q => match o, ds with
  | .ref n, [] => ∃ xs, S[n]? = some (O.lst xs) ∧ Q .non (S.set n (O.lst []))
  | _, _ => False
def pPop : PM := fun o ds S Q => match o, ds with
  | .ref n, [] => ∃ xs x, S[n]? = some (O.lst (xs ++ [x])) ∧ Q x (S.set n (O.lst xs))
  | _, _ => False
theorem Reps.split {K : PySem.W.Frag} {H : Hp} {μ : List Addr} : ∀ {xs : List D} {x : D} {us : List V}, Reps K H μ (xs ++ [x]) us → ∃ vs v, us = vs ++ [v] ∧ Reps K H μ xs vs ∧ Rep K H μ x v
  | [], x, us, h => by cases h with | cons r t => cases t; exact ⟨[], _, rfl, .nil, r⟩
  | y :: xs, x, us, h => by
    cases h with
    | cons r t =>
      obtain ⟨vs, v, rfl, h1, h2⟩ := Reps.split (xs := xs) t
      exact ⟨_ :: vs, v, rfl, .cons r h1, h2⟩
section
variable {X : Cx} {o e : Expr} {wo we : W D} {pos apos : Pos}
end
def kGet {κ : Type} [DecidableEq κ] (kvs : List (κ × D)) (k : κ) : Option D := (kvs.find? fun p => decide (p.1 = k)).map (·.2)
def kPut {κ : Type} [DecidableEq κ] (kvs : List (κ × D)) (k : κ) (d : D) : List (κ × D) := if (kvs.any fun p => decide (p.1 = k)) = true then kvs.map (fun p => if p.1 = k then (p.1, d) else p) else kvs ++ [(k, d)]
def keyD : Key → D
  | .inl i => .int i
  | .inr x => .str x
theorem rep_key {K : PySem.W.Frag} {H : Hp} {μ : List Addr} {k : Key} {v : V} (r : Rep K H μ (keyD k) v) : v = kV k := by
  cases k with
  | inl i => cases r; rfl
  | inr x => cases r; rfl
section
variable {κ : Type} [DecidableEq κ] {K : PySem.W.Frag} {H : Hp} {μ : List Addr}
theorem KReps.nil : KReps (κ := κ) K H μ [] [] := ⟨rfl, .nil⟩
theorem KReps.head {p : κ × D} {kvs : List (κ × D)} {ws : List (κ × V)} (h : KReps K H μ (p :: kvs) ws) : ∃ w ws', ws = w :: ws' ∧ w.1 = p.1 ∧ Rep K H μ p.2 w.2 ∧ KReps K H μ kvs ws' := by
  cases ws with
  | nil => have := h.keys; simp at this
  | cons w ws' =>
    have hk := h.keys
    have hv := h.vals
    rw [List.map_cons, List.map_cons] at hk hv
    injection hk with h1 h2
    cases hv with
    | cons r t => exact ⟨w, ws', rfl, h1, r, h2, t⟩
theorem KReps.cons {p : κ × D} {w : κ × V} {kvs : List (κ × D)} {ws : List (κ × V)} (e : w.1 = p.1) (r : Rep K H μ p.2 w.2) (h : KReps K H μ kvs ws) : KReps K H μ (p :: kvs) (w :: ws) :=
  ⟨by rw [List.map_cons, List.map_cons, e, h.keys], .cons r h.vals⟩
theorem KReps.get : ∀ {kvs : List (κ × D)} {ws : List (κ × V)}, KReps K H μ kvs ws → ∀ k, (∃ d v, kGet kvs k = some d ∧ valV ws k = some v ∧ Rep K H μ d v) ∨ (kGet kvs k = none ∧ valV ws k = none)
  | [], ws, h, k => by
    have : ws = [] := by have := h.keys; simpa using this
    subst this
    exact .inr ⟨rfl, rfl⟩
  | p :: kvs, ws, h, k => by
    obtain ⟨w, ws', rfl, h1, h2, h3⟩ := h.head
    by_cases e : p.1 = k
    · refine .inl ⟨p.2, w.2, ?_, valV_pos (h1.trans e), h2⟩
      unfold kGet; rw [List.find?_cons_of_pos (by simpa using e)]; rfl
    · rw [valV_neg (fun z => e (h1.symm.trans z))]
      have e1 : kGet (p :: kvs) k = kGet kvs k := by unfold kGet; rw [List.find?_cons_of_neg (by simpa using e)]
      rw [e1]
      exact KReps.get h3 k
theorem KReps.any : ∀ {kvs : List (κ × D)} {ws : List (κ × V)}, KReps K H μ kvs ws → ∀ k, (ws.any fun p => decide (p.1 = k)) = (kvs.any fun p => decide (p.1 = k))
  | [], ws, h, k => by
    have : ws = [] := by have := h.keys; simpa using this
    subst this
    rfl
  | p :: kvs, ws, h, k => by
    obtain ⟨w, ws', rfl, h1, h2, h3⟩ := h.head
    rw [List.any_cons, List.any_cons, KReps.any h3 k, h1]
theorem KReps.repl : ∀ {kvs : List (κ × D)} {ws : List (κ × V)}, KReps K H μ kvs ws → ∀ (k : κ) {d : D} {v : V}, Rep K H μ d v → KReps K H μ (kvs.map fun p => if p.1 = k then (p.1, d) else p) (ws.map fun p => if p.1 = k then (p.1, v) else p)
  | [], ws, h, k, d, v, r => by
    have : ws = [] := by have := h.keys; simpa using this
    subst this
    exact .nil
  | p :: kvs, ws, h, k, d, v, r => by
    obtain ⟨w, ws', rfl, h1, h2, h3⟩ := h.head
    rw [List.map_cons, List.map_cons]
    by_cases e : p.1 = k
    · rw [if_pos e, if_pos (h1.trans e)]
      exact .cons h1 r (KReps.repl h3 k r)
    · rw [if_neg e, if_neg (fun z => e (h1.symm.trans z))]
      exact .cons h1 h2 (KReps.repl h3 k r)
theorem KReps.put {kvs : List (κ × D)} {ws : List (κ × V)} (h : KReps K H μ kvs ws) (k : κ) {d : D} {v : V} (r : Rep K H μ d v) : KReps K H μ (kPut kvs k d) (putK ws k v) := by
  unfold kPut putK
  rw [h.any k]
  split
  · exact h.repl k r
  · exact ⟨by rw [List.map_append, List.map_append, h.keys]; rfl, by rw [List.map_append, List.map_append]; exact h.vals.append (.cons r .nil)⟩
theorem KReps.len {kvs : List (κ × D)} {ws : List (κ × V)} (h : KReps K H μ kvs ws) : ws.length = kvs.length := by
  have := congrArg List.length h.keys
  simpa using this
end
def wKix (wd wk : W D) : W D := fun ρ S Q => wd ρ S fun x S1 => wk ρ S1 fun y S2 => ∃ (n : Nat) (kvs : List (Key × D)) (k : Key) (d : D), x = .ref n ∧ y = keyD k ∧ S2[n]? = some (O.dkv kvs) ∧ kGet kvs k = some d ∧ Q d S2
def wKput (we wd wk : W D) : WS := fun E ρ S => we ρ S fun d S1 => wd ρ S1 fun x S2 => wk ρ S2 fun y S3 => ∃ (n : Nat) (kvs : List (Key × D)) (k : Key), x = .ref n ∧ y = keyD k ∧ S3[n]? = some (O.dkv kvs) ∧ kvs.length ≤ 1000 ∧ E.nx ρ (S3.set n (O.dkv (kPut kvs k d)))
section
variable {X : Cx} {o i e : Expr} {wd wk we : W D} {pos pos' : Pos}
theorem qe_kix {kk : Nat} (hr : Room kk X.A) (ho : QE X o wd) (hi : QE X i wk) (hs : NoSl i := by intro _ _; rfl) : QE X (.Subscript o i pos) (wKix wd wk) := by
  refine ⟨PE.imp (pe_dget (hu_of hr) ho.pe hi.pe hs) fun σ H Q ⟨ρ, μ, S, Q3, eo, m, k, h⟩ => ?_⟩
  refine ⟨ρ, μ, S, _, eo, m, fun x S1 v H1 μ1 q1 g1 m1 r1 => ⟨ρ, μ1, S1, _, eo.go g1 m, m1, fun y S2 u H2 μ2 q2 g2 m2 r2 => ?_, q1⟩, h⟩
  obtain ⟨n, kvs, key, d, rfl, rfl, hn, hg, q⟩ := q2
  have ek := rep_key r2
  subst ek
  have r1' := Rep.go g2 m1 r1
  cases r1' with
  | ref hμ =>
    obtain ⟨a', ws, h1, h2, h3⟩ := m2.dkv n kvs hn
    rw [hμ] at h1; cases h1
    rcases h3.get key with ⟨d', v', e1, e2, e3⟩ | ⟨e1, _⟩
    · rw [hg] at e1; cases e1
      have := DGet.k (k := key) h2
      rw [e2] at this
      exact ⟨_, v', rfl, this, k _ S2 _ H2 μ2 q (g1.trans g2) m2 e3⟩
    · rw [hg] at e1; cases e1
theorem qs_kput {kk : Nat} (hr : Room kk X.A) (he : QE X e we) (ho : QE X o wd) (hi : QE X i wk) (hs : swapsWith e (some (.Subscript o i pos')) pos.line X.env = pure false := by rfl) : QS X (.Assign [.Subscript o i pos'] e pos) (wKput we wd wk) := by
  refine ⟨PS.imp (ps_dput (hu_of hr) ho.pe hi.pe he.pe hs) fun D σ H ⟨ρ, μ, S, D3, eo, m, dn, h⟩ => ?_⟩
  refine ⟨ρ, μ, S, _, eo, m, fun d S1 v H1 μ1 q1 g1 m1 r1 => ⟨ρ, μ1, S1, _, eo.go g1 m, m1, fun x S2 u H2 μ2 q2 g2 m2 r2 => ⟨ρ, μ2, S2, _, (eo.go g1 m).go g2 m1, m2, fun y S3 w H3 μ3 q3 g3 m3 r3 => ?_, q2⟩, q1⟩, h⟩
  obtain ⟨n, kvs, key, rfl, rfl, hn, hl, q⟩ := q3
  have ek := rep_key r3
  subst ek
  have r2' := Rep.go g3 m2 r2
  cases r2' with
  | ref hμ =>
    obtain ⟨a', ws, h1, h2, h3⟩ := m3.dkv n kvs hn
    rw [hμ] at h1; cases h1
    have rd := Rep.go g3 m2 (Rep.go g2 m1 r1)
    obtain ⟨g4, m4⟩ := m3.writeK (kws := kPut kvs key d) (ys := putK ws key v) hn hμ h2 (h3.put key rd)
    refine ⟨_, _, rfl, DPut.k h2 (small1000 (by rw [h3.len]; exact hl)), dn.nx ρ _ σ _ μ3 q (((g1.trans g2).trans g3).trans g4) m4 ((((eo.go g1 m).go g2 m1).go g3 m2).go g4 m3)⟩
end
def kOf (ks : List Str) (ds : List D) : List (Key × D) := (ks.zip ds).map fun p => (Sum.inr p.1, p.2)
def wKnew (ks : List Str) (ws : W (List D)) : W D := fun ρ S Q => ws ρ S fun ds S1 => ds.length = ks.length → Q (.ref S1.length) (S1 ++ [O.dkv (kOf ks ds)])
section
variable {X : Cx} {dpos : Pos} {keys : List (Option Expr)} {values : List Expr} {ks : List Str} {ws : W (List D)}
end
end L3
namespace L3
open PySem PySem.Spec PyProof.Rows L2
def rInK : R2 := fun x y H Q => ∃ (a : Addr) (kvs : List (Key × V)) (k : Key), y = .ref a ∧ x = kV k ∧ H a = some (.dK kvs) ∧ Q (.bl (valV kvs k).isSome) H
theorem op_inK {X : Cx} {kk : Nat} (hr : Room kk X.A) : OpR X (compareOp .In) rInK := by
  intro pins s σ H x y v u Q I rx ry h
  obtain ⟨a, kvs, k, rfl, rfl, ha, q⟩ := h
  cases ry
  exact d_in (hu_of hr) I (DGet.k ha) rx fun s' I' => ⟨.bl _, H, I', rfl, q⟩
def rNotInK : R2 := fun x y H Q => ∃ (a : Addr) (kvs : List (Key × V)) (k : Key), y = .ref a ∧ x = kV k ∧ H a = some (.dK kvs) ∧ Q (.bl (!(valV kvs k).isSome)) H
theorem op_notInK {X : Cx} {kk : Nat} (hr : Room kk X.A) : OpR X (compareOp .NotIn) rNotInK := by
  intro pins s σ H x y v u Q I rx ry h
  obtain ⟨a, kvs, k, rfl, rfl, ha, q⟩ := h
  cases ry
  exact d_notIn (hu_of hr) I (DGet.k ha) rx fun s' I' => ⟨.bl _, H, I', rfl, q⟩
def pInK (neg : Bool) : P2 := fun a b S Q => ∃ (n : Nat) (kvs : List (Key × D)) (k : Key), b = .ref n ∧ a = keyD k ∧ S[n]? = some (O.dkv kvs) ∧ Q (.bl (if neg = true then !(kGet kvs k).isSome else (kGet kvs k).isSome)) S
theorem KReps.some {K : PySem.W.Frag} {H : Hp} {μ : List Addr} {kvs : List (Key × D)} {ws : List (Key × V)} (h : KReps K H μ kvs ws) (k : Key) : (valV ws k).isSome = (kGet kvs k).isSome := by
  rcases h.get k with ⟨d, v, e1, e2, _⟩ | ⟨e1, e2⟩
  · rw [e1, e2]; rfl
  · rw [e1, e2]; rfl
theorem ref_inK {K : PySem.W.Frag} : Ref2 K rInK (pInK false) := by
  intro d1 d2 S Q3 v1 v2 H μ Q m r1 r2 k q
  obtain ⟨n, kvs, key, rfl, rfl, hn, q⟩ := q
  have ek := rep_key r1
  subst ek
  cases r2 with
  | ref hμ =>
    obtain ⟨a', ws, h1, h2, h3⟩ := m.dkv n kvs hn
    rw [hμ] at h1; cases h1
    refine ⟨_, ws, key, rfl, rfl, h2, ?_⟩
    rw [h3.some key]
    exact k _ S _ H μ q .refl m (.bl _)
theorem ref_notInK {K : PySem.W.Frag} : Ref2 K rNotInK (pInK true) := by
  intro d1 d2 S Q3 v1 v2 H μ Q m r1 r2 k q
  obtain ⟨n, kvs, key, rfl, rfl, hn, q⟩ := q
  have ek := rep_key r1
  subst ek
  cases r2 with
  | ref hμ =>
    obtain ⟨a', ws, h1, h2, h3⟩ := m.dkv n kvs hn
    rw [hμ] at h1; cases h1
    refine ⟨_, ws, key, rfl, rfl, h2, ?_⟩
    rw [h3.some key]
    exact k _ S _ H μ q .refl m (.bl _)
theorem c_inK {X : Cx} {kk : Nat} (hr : Room kk X.A) : CmpR X .In (pInK false) := ⟨_, op_inK hr, ref_inK⟩
theorem c_notInK {X : Cx} {kk : Nat} (hr : Room kk X.A) : CmpR X .NotIn (pInK true) := ⟨_, op_notInK hr, ref_notInK⟩
def kDrop (kvs : List (Key × D)) (k : Key) : List (Key × D) := kvs.filter fun p => decide (p.1 ≠ k)
theorem KReps.drop {K : PySem.W.Frag} {H : Hp} {μ : List Addr} : ∀ {kvs : List (Key × D)} {ws : List (Key × V)}, KReps K H μ kvs ws → ∀ k, KReps K H μ (kDrop kvs k) (dropK ws k)
  | [], ws, h, k => by
    have : ws = [] := by have := h.keys; simpa using this
    subst this
    exact .nil
  | p :: kvs, ws, h, k => by
    obtain ⟨w, ws', rfl, h1, h2, h3⟩ := h.head
    have ih := KReps.drop h3 k
    unfold kDrop dropK at *
    by_cases e : p.1 = k
    · rw [List.filter_cons_of_neg (by simpa using e), List.filter_cons_of_neg (by simpa using h1.trans e)]
      exact ih
    · rw [List.filter_cons_of_pos (by simpa using e), List.filter_cons_of_pos (by simpa using fun z => e (h1.symm.trans z))]
      exact .cons h1 h2 ih
def wKpop (wd wk : W D) : W D := fun ρ S Q => wd ρ S fun x S1 => (∃ n kvs, x = .ref n ∧ S1[n]? = some (O.dkv kvs)) ∧ wk ρ S1 fun y S2 => ∃ (n : Nat) (kvs : List (Key × D)) (k : Key) (d : D), x = .ref n ∧ y = keyD k ∧ S2[n]? = some (O.dkv kvs) ∧ kGet kvs k = some d ∧ Q d (S2.set n (O.dkv (kDrop kvs k)))
section
variable {X : Cx} {o e : Expr} {wd wk we : W D} {pos p apos cpos : Pos}
theorem qe_kpop (ho : QE X o wd) (he : QE X e wk) (mm : M1 X o "pop" apos e cpos := by exact ⟨rfl, rfl, rfl, rfl⟩) : QE X (.Call (.Attribute o "pop" apos) [e] [] cpos) (wKpop wd wk) := by
  refine ⟨PE.imp (pe_dpop1 ho.pe he.pe mm) fun σ H Q ⟨ρ, μ, S, Q3, eo, m, k, h⟩ => ?_⟩
  refine ⟨ρ, μ, S, _, eo, m, fun x S1 v H1 μ1 q1 g1 m1 r1 => ?_, h⟩
  obtain ⟨⟨n0, kvs0, ex, hn0⟩, q1⟩ := q1
  subst ex
  cases r1 with
  | ref hμ =>
    obtain ⟨a', ws0, k1, k2, k3⟩ := m1.dkv n0 kvs0 hn0
    rw [hμ] at k1; cases k1
    refine ⟨_, rfl, .inl ⟨ws0, .inl k2⟩, ρ, μ1, S1, _, eo.go g1 m, m1, fun y S2 u H2 μ2 q2 g2 m2 r2 => ?_, q1⟩
    obtain ⟨n, kvs, key, d, en, rfl, hn, hg, q⟩ := q2
    cases en
    have ek := rep_key r2
    subst ek
    have hμ2 := g2.get hμ
    obtain ⟨a', ws, h1, h2, h3⟩ := m2.dkv n0 kvs hn
    rw [hμ2] at h1; cases h1
    rcases h3.get key with ⟨d', v', e1, e2, e3⟩ | ⟨e1, _⟩
    · rw [hg] at e1; cases e1
      obtain ⟨g4, m4⟩ := m2.writeK (kws := kDrop kvs key) (ys := dropK ws key) hn hμ2 h2 (h3.drop key)
      exact ⟨ws, key, v', h2, rfl, e2, k _ _ _ _ μ2 q ((g1.trans g2).trans g4) m4 (Rep.go g4 m2 e3)⟩
    · rw [hg] at e1; cases e1
end
def kMerge (acc more : List (Key × D)) : List (Key × D) := more.foldl (fun a p => kPut a p.1 p.2) acc
theorem KReps.merge {K : PySem.W.Frag} {H : Hp} {μ : List Addr} : ∀ {more : List (Key × D)} {mws : List (Key × V)} {acc : List (Key × D)} {aws : List (Key × V)}, KReps K H μ more mws → KReps K H μ acc aws → KReps K H μ (kMerge acc more) (mergeK aws mws)
  | [], ws, acc, aws, h, g => by
    have : ws = [] := by have := h.keys; simpa using this
    subst this
    exact g
  | p :: kvs, ws, acc, aws, h, g => by
    obtain ⟨w, ws', rfl, h1, h2, h3⟩ := h.head
    show KReps K H μ (kMerge (kPut acc p.1 p.2) kvs) (mergeK (putK aws w.1 w.2) ws')
    refine KReps.merge h3 ?_
    rw [h1]
    exact g.put p.1 h2
def pairD (p : Key × D) : D := .tup [keyD p.1, p.2]
theorem pairs_rep {K : PySem.W.Frag} {H : Hp} {μ : List Addr} : ∀ {kvs : List (Key × D)} {vs : List V}, Reps K H μ (kvs.map pairD) vs → ∃ (ps : List Addr) (ws : List (Key × V)), vs = ps.map V.ref ∧ Paired (fun p kv => SqT K H p [kV kv.1, kv.2]) ps ws ∧ KReps K H μ kvs ws
  | [], vs, h => by cases h; exact ⟨[], [], rfl, .nil, .nil⟩
  | p :: kvs, vs, h => by
    rw [List.map_cons] at h
    cases h with
    | cons r t =>
      obtain ⟨ps, ws, rfl, h1, h2⟩ := pairs_rep t
      cases r with
      | tup sq rs =>
        cases rs with
        | cons r1 rs =>
          cases rs with
          | cons r2 rs =>
            cases rs
            have ek := rep_key r1
            subst ek
            exact ⟨_ :: ps, (p.1, _) :: ws, rfl, .cons sq h1, .cons rfl r2 h2⟩
def wDictP (w : W D) : W D := fun ρ S Q => w ρ S fun d S1 => ∃ (n : Nat) (kvs : List (Key × D)), d = .ref n ∧ S1[n]? = some (O.lst (kvs.map pairD)) ∧ Q (.ref S1.length) (S1 ++ [O.dkv (kMerge [] kvs)])
theorem qe_dictP {X : Cx} {e : Expr} {we : W D} {pos p : Pos} (hc : X.calm = true) (hm : X.mg "dict" = none) (he : QE X e we) (hg : Gl X "dict" := by rfl) (hs : starEach [e] X.env = (false, eval e X.env) :: starEach [] X.env := by rfl) : QE X (.Call (.Name "dict" p) [e] [] pos) (wDictP we) := by
  refine ⟨PE.imp (pe_callTy (call_dictP hc) hg hm (by decide +kernel) (qa_cons he qa_nil hs).pa (by decide) (by decide) hs (by rfl)) fun σ H Q ⟨ρ, μ, S, Q3, eo, m, k, q⟩ => ?_⟩
  refine ⟨ρ, μ, S, fun ds S1 => match ds with | [d] => ∃ (n : Nat) (kvs : List (Key × D)), d = .ref n ∧ S1[n]? = some (O.lst (kvs.map pairD)) ∧ Q3 (.ref S1.length) (S1 ++ [O.dkv (kMerge [] kvs)]) | _ => False, eo, m, fun ds S1 vs H1 μ1 hh g1 m1 r1 => ?_, q⟩
  dsimp only at hh
  split at hh
  · obtain ⟨n, kvs, rfl, hn, hq⟩ := hh
    cases r1 with
    | cons r t =>
      cases t
      cases r with
      | ref hμ =>
        obtain ⟨us, h1, h2⟩ := m1.at hn hμ
        obtain ⟨ps, ws, rfl, h3, h4⟩ := pairs_rep h2
        refine ⟨_, ps, ws, rfl, SqL.of h1, h3, fun l hl => ?_⟩
        obtain ⟨g2, m2⟩ := m1.junk (o := .dK (mergeK [] ws)) hl
        have hlm : l ∉ μ1 := fun z => m1.non l z hl
        have h0 : H l = none := g1.back m1 hl
        have hk : KReps X.K (upd H1 l (.dK (mergeK [] ws))) μ1 (kMerge [] kvs) (mergeK [] ws) := (h4.merge .nil).map (g2.tt m1) (fun b o u _ => g2.tz m1 b o u) (fun _ _ q => q)
        obtain ⟨g3, m3, r3⟩ := m2.numberK (g1.trans g2) upd_same hk hlm h0
        exact k _ _ _ _ _ hq g3 m3 r3
  · exact hh.elim
def rSortKI : List V → Hp → VK → Prop := fun vs H Q => ∃ (a : Addr) (kvs : List (Key × V)) (ns : List Int), vs = [V.ref a] ∧ H a = some (.dK kvs) ∧ kvs.map (·.1) = ns.map Sum.inl ∧ ns.length ≤ 240 ∧
  ∀ (ns' : List Int) l, ns'.Perm ns → ns'.Pairwise (· ≤ ·) → H l = none → Q (.ref l) (upd H l (.lst (ns'.map V.int)))
theorem ints_of_keys {kvs : List (Key × Value)} {ns : List Int} (hk : kvs.map (·.1) = ns.map Sum.inl) {acc : List Value} (hl : acc.length = kvs.length) (h : ∀ (j : Nat) v, acc[j]? = some v → ∃ (k : Key) (x : Value), kvs[j]? = some (k, x) ∧ keyIs k v = true) : IntsAre acc ns := by
  induction ns generalizing kvs acc with
  | nil =>
    have : kvs = [] := by simpa using hk
    subst this
    have : acc = [] := List.eq_nil_of_length_eq_zero hl
    subst this
    exact .nil
  | cons n ns ih =>
    cases kvs with
    | nil => simp at hk
    | cons kv kvs =>
      cases acc with
      | nil => simp at hl
      | cons v acc =>
        rw [List.map_cons, List.map_cons] at hk
        injection hk with h1 h2
        obtain ⟨k, x, e1, e2⟩ := h 0 v rfl
        have e1 : kv = (k, x) := by simpa using e1
        subst e1
        have h1 : k = Sum.inl n := h1
        subst h1
        rcases keyIs_shape e2 with ⟨i, t, e3, rfl⟩ | ⟨y, t, e3, _⟩
        · cases e3
          refine .cons _ _ (ih h2 (by simpa using hl) fun j v hj => ?_)
          exact h (j + 1) v (by simpa using hj)
        · cases e3
theorem KV.keys {kvs : List (Key × V)} {vs : List (Key × Value)} (h : KV kvs vs) : vs.map (·.1) = kvs.map (·.1) := by
  unfold KV at h
  induction h with
  | nil => rfl
  | @cons p q ps qs hq t ih => rw [List.map_cons, List.map_cons, ih, hq.1]
theorem cr_sortKI {X : Cx} {kk : Nat} (hr : Room (kk + 2) X.A) : CallR X (.builtin "sorted") rSortKI := by
  intro pins s σ H vs us Q I r h
  obtain ⟨a, kvs, ns, rfl, ha, hks, h64, q⟩ := h
  rw [Vals.ref1 r]
  obtain ⟨hz, hlo, us2, rel, dd⟩ := dk_of I.hok ha
  obtain ⟨ep, dat⟩ := dd.dictAt
  have hk2 := KV.keys rel
  rw [hks] at hk2
  have hlen : us2.length = ns.length := by
    have := congrArg List.length hk2
    simpa using this
  refine Calls.call_function_entry kind_sorted plain_sorted entry_sorted (args_sorted1 _) ?_
  unfold Builtin.«sorted»
  refine wpAny_bind (m := checkCount "sorted" 1 1 _) (wpAny_pure ?_)
  refine wpAny_bind (collect_src (PySem.W.kdl_dict (knd := mixKind X.prog X.w) (kvs := us2) (ep := ep) hlo) (show X.A.in1.handled = none from hr.in1.hd) dat (by rw [hlen, sizeLine_eq]; omega) fun h0 tk acc hk hit => ?_)
  have hints : IntsAre acc.toList ns := ints_of_keys hk2 (by rw [Array.length_toList]; exact hit.1) fun j v hj => hit.2 j v (by rw [← Array.getElem?_toList]; exact hj)
  have hal : acc.toList.length = ns.length := hints.length
  have I0 : Inv X pins σ H { s with heap := h0, toks := tk } := I.kept (t' := tk) hk
  refine wpAny_bind (wpAny_newList ?_ (by rw [hal, sizeLine_eq]; omega))
  have hfr : H h0.objs.size = none := I0.hok.fresh (Nat.le_refl _)
  have I1 : Inv X pins σ H { s with heap := h0.push (seqObj "list" acc.toList.toArray 0), toks := tk } := I0.kept (t' := tk) fun b ob e => Heap.get?_push_of_some _ e
  have hoL : (h0.push (seqObj "list" acc.toList.toArray 0)).get? h0.objs.size = some (seqObj "list" acc.toList.toArray 0) := Heap.get?_push_size _ rfl
  have sd : Side X pins h0.objs.size := Side.of I0 (Nat.le_refl _)
  refine wpAny_bind (wpAny_holding (wpAny_call_entry slot_list_sort ⟨_, hoL, rfl⟩ entry_list_sort ?body (args_list_sort _)))
  case body =>
    refine Sg.sort_any (s := { s with heap := h0.push (seqObj "list" acc.toList.toArray 0), toks := tk }) hoL hints (by rw [hal]; omega) fun out ns' h1 h2 h3 => ?_
    obtain ⟨c2, he'⟩ := PyProof.Rows.sortedHeap_at (vs := acc.toList) (out := out) hoL
    refine ⟨_, rfl, wpAny_pure ⟨_, rfl, ⟨.ref h0.objs.size, upd H h0.objs.size (.lst (ns'.map V.int)), ?_, rfl, q ns' _ h2 h3 hfr⟩⟩⟩
    have I2 := I1.turned (h' := PyProof.Rows.sortedHeap (h0.push (seqObj "list" acc.toList.toArray 0)) h0.objs.size acc.toList out) (t' := tk) (it := h0.objs.size) (fun b o nb z => by rw [PyProof.Rows.sortedHeap_old nb (Heap.lt_size z)]; exact z) hfr sd.n1 (.inr sd.young) sd.n2 sd.n3
    exact trackedL I2 hfr ⟨by rw [List.length_map, h2.length_eq, sizeLine_eq]; omega, out.toList, c2, vals_of_ints h1, by simpa using he'⟩ sd.young sd.n1 sd.n2 sd.n3
def wSortKI (w : W D) : W (List D) := fun ρ S Q => w ρ S fun d S1 => ∃ (n : Nat) (kvs : List (Key × D)) (ns : List Int), d = .ref n ∧ S1[n]? = some (O.dkv kvs) ∧ kvs.map (·.1) = ns.map Sum.inl ∧ ns.length ≤ 240 ∧
  ∀ ns' : List Int, ns'.Perm ns → ns'.Pairwise (· ≤ ·) → Q (ns'.map D.int) S1
theorem ql_sortKI {X : Cx} {e : Expr} {we : W D} {pos p : Pos} {kk : Nat} (hr : Room (kk + 2) X.A) (hm : X.mg "sorted" = none) (he : QE X e we) (hg : Gl X "sorted" := by rfl) (hs : starEach [e] X.env = (false, eval e X.env) :: starEach [] X.env := by rfl) (hpl : (backTo pos (starEach [] X.env)).any (·.1) = false := by rfl) : QL X (.Call (.Name "sorted" p) [e] [] pos) (wSortKI we) := by
  refine ⟨PE.imp (pe_callB (cr_sortKI hr) hg hm (by decide +kernel) (qa_cons he qa_nil hs).pa (by decide) (by decide) hs hpl) fun σ H Q ⟨ρ, μ, S, Q3, eo, m, k, q⟩ => ?_⟩
  refine ⟨ρ, μ, S, fun ds S1 => match ds with | [d] => ∃ (n : Nat) (kvs : List (Key × D)) (ns : List Int), d = .ref n ∧ S1[n]? = some (O.dkv kvs) ∧ kvs.map (·.1) = ns.map Sum.inl ∧ ns.length ≤ 240 ∧ ∀ ns' : List Int, ns'.Perm ns → ns'.Pairwise (· ≤ ·) → Q3 (ns'.map D.int) S1 | _ => False, eo, m, fun ds S1 vs H1 μ1 hh g1 m1 r1 => ?_, q⟩
  dsimp only at hh
  split at hh
  · obtain ⟨n, kvs, ns, rfl, hn, hks, h64, hq⟩ := hh
    cases r1 with
    | cons r t =>
      cases t
      cases r with
      | ref hμ =>
        obtain ⟨a', ws, k1, k2, k3⟩ := m1.dkv n kvs hn
        rw [hμ] at k1; cases k1
        refine ⟨_, ws, ns, rfl, k2, k3.keys.trans hks, h64, fun ns' l hp hs hl => ?_⟩
        obtain ⟨g2, m2⟩ := m1.junk (o := .lst (ns'.map V.int)) hl
        exact k _ S1 l _ _ μ1 (hq ns' hp hs) (g1.trans g2) m2 (g1.back m1 hl) upd_same (fun z => m1.non l z hl) (reps_ints ns')
  · exact hh.elim
def pIndex : PM := fun o ds S Q => match o, ds with
  | .ref n, [y] => ∃ (xs : List D) (j : Nat) (z : D), S[n]? = some (O.lst xs) ∧ flatD y = true ∧ xs.all flatD = true ∧ xs[j]? = some z ∧ eqF z y = true ∧ (∀ (i : Nat) (u : D), i < j → xs[i]? = some u → eqF u y = false) ∧ Q (.int (j : Nat)) S
  | _, _ => False
section
variable {X : Cx} {o e : Expr} {wo : W D} {ws : W (List D)} {pos apos : Pos}
end
end L3
namespace L3
open PySem PySem.Spec PyProof.Rows L2
def pStr1 : PN := fun ds S Q => match ds with
  | [.int i] => i.natAbs.log2 < 1920 ∧ Q (.str (toString i)) S
  | _ => False
section
variable {X : Cx} {o e : Expr} {wo we : W D} {ws : W (List D)} {pos apos p : Pos}
theorem Reps.strs {K : PySem.W.Frag} {H : Hp} {μ : List Addr} : ∀ {ns : List Str} {vs : List V}, Reps K H μ (ns.map D.str) vs → vs = ns.map V.str
  | [], _, h => by cases h; rfl
  | _ :: _, _, h => by cases h with | cons r t => cases r; rw [Reps.strs t]; rfl
def wJoin (wo we : W D) : W D := fun ρ S Q => wo ρ S fun x S1 => (∃ a, x = .str a) ∧ we ρ S1 fun y S2 => ∃ (a : Str) (ys : List Str), x = .str a ∧ itemsAre S2 y (ys.map D.str) ∧ (ys.map (·.length)).sum + ys.length * a.length ≤ 16777216 ∧ Q (.str (Txt.join a ys)) S2
def wSplit (wo we : W D) : W (List D) := fun ρ S Q => wo ρ S fun x S1 => (∃ a, x = .str a) ∧ we ρ S1 fun y S2 => ∃ (a b : Str), x = .str a ∧ y = .str b ∧ (b.length == 0) = false ∧ a.length + 2 ≤ sizeLine ∧ Q ((Txt.split a b).map D.str) S2
end
end L3
namespace Tb
open PySem PySem.SetTable
def f (m x : Nat) : Nat := (x * 5 + 1) % m
def itF (m : Nat) : Nat → Nat → Nat
  | 0, x => x
  | a + 1, x => itF m a (f m x)
def orbL (m : Nat) : Nat → Nat → List Nat
  | 0, _ => []
  | n + 1, x => x :: orbL m n (f m x)
theorem itF_succ (m : Nat) : ∀ (a x : Nat), itF m (a + 1) x = f m (itF m a x)
  | 0, _ => rfl
  | a + 1, x => itF_succ m a (f m x)
theorem itF_add (m : Nat) : ∀ (a b x : Nat), itF m (a + b) x = itF m b (itF m a x)
  | 0, b, x => by rw [Nat.zero_add]; rfl
  | a + 1, b, x => by rw [Nat.add_right_comm]; exact itF_add m a b (f m x)
theorem orb_get (m : Nat) : ∀ (n x j : Nat), j ∈ orbL m n x → ∃ a, a < n ∧ itF m a x = j
  | 0, x, j, h => by cases h
  | n + 1, x, j, h => by
    rcases List.mem_cons.mp h with h | h
    · exact ⟨0, Nat.succ_pos _, h.symm⟩
    · obtain ⟨a, h1, h2⟩ := orb_get m n (f m x) j h
      exact ⟨a + 1, by omega, h2⟩
def allMet (m : Nat) : Bool := ((List.range m).all fun j => (orbL m m 0).contains j) && itF m m 0 == 0
def IsMask (mask : Nat) : Prop := mask = 7 ∨ mask = 31 ∨ mask = 127 ∨ mask = 511
theorem met_all {mask : Nat} (h : IsMask mask) : allMet (mask + 1) = true := by
  rcases h with rfl | rfl | rfl | rfl <;> decide +kernel
theorem lcg {mask : Nat} (hm : IsMask mask) {i j : Nat} (hi : i ≤ mask) (hj : j ≤ mask) : ∃ a, a ≤ mask ∧ itF (mask + 1) a i = j := by
  have h := met_all hm
  unfold allMet at h
  rw [Bool.and_eq_true, List.all_eq_true, beq_iff_eq] at h
  obtain ⟨h1, h2⟩ := h
  have get : ∀ x, x ≤ mask → ∃ a, a < mask + 1 ∧ itF (mask + 1) a 0 = x := fun x hx =>
    orb_get _ _ _ _ (by have := h1 x (List.mem_range.mpr (by omega)); simpa using this)
  obtain ⟨a, a1, a2⟩ := get i hi
  obtain ⟨b, b1, b2⟩ := get j hj
  by_cases hab : a ≤ b
  · refine ⟨b - a, by omega, ?_⟩
    rw [← a2, ← itF_add, show a + (b - a) = b by omega, b2]
  · refine ⟨mask + 1 + b - a, by omega, ?_⟩
    rw [← a2, ← itF_add, show a + (mask + 1 + b - a) = mask + 1 + b by omega, itF_add, h2, b2]
def adv (mask : Nat) (p : Probe) : Probe :=
  if p.more > 0 then { p with j := p.j + 1, more := p.more - 1 } else
  let (i, perturb) := leap mask p.i p.perturb
  { p with j := i, more := runEnd mask i - i, i, perturb }
def it (mask : Nat) : Probe → Nat → Probe
  | p, 0 => p
  | p, r + 1 => it mask (adv mask p) r
theorem it_succ (mask : Nat) : ∀ (p : Probe) (r : Nat), it mask p (r + 1) = adv mask (it mask p r)
  | _, 0 => rfl
  | p, r + 1 => it_succ mask (adv mask p) r
theorem it_add (mask : Nat) : ∀ (p : Probe) (a b : Nat), it mask p (a + b) = it mask (it mask p a) b
  | p, 0, b => by rw [Nat.zero_add]; rfl
  | p, a + 1, b => by rw [Nat.add_right_comm]; exact it_add mask (adv mask p) a b
theorem adv_dummy (mask : Nat) (p : Probe) : (adv mask p).dummy = p.dummy := by unfold adv; split <;> rfl
theorem it_run (mask : Nat) : ∀ (c : Nat) (p : Probe), c ≤ p.more → it mask p c = { p with j := p.j + c, more := p.more - c }
  | 0, p, _ => by show p = _; simp
  | c + 1, p, h => by
    rw [it_succ, it_run mask c p (by omega)]
    unfold adv
    rw [if_pos (by show p.more - c > 0; omega)]
    simp only [Probe.mk.injEq, and_true, true_and]
    omega
def nextRun (mask : Nat) (p : Probe) : Probe := { p with j := (leap mask p.i p.perturb).1, more := runEnd mask (leap mask p.i p.perturb).1 - (leap mask p.i p.perturb).1, i := (leap mask p.i p.perturb).1, perturb := (leap mask p.i p.perturb).2 }
theorem it_leap (mask : Nat) (p : Probe) : it mask p (p.more + 1) = nextRun mask p := by
  rw [it_succ, it_run mask p.more p (Nat.le_refl _)]
  unfold adv
  rw [if_neg (by simp)]
  rfl
def runs (mask : Nat) (p : Probe) : Nat → Probe
  | 0 => p
  | k + 1 => nextRun mask (runs mask p k)
def offs (mask : Nat) (p : Probe) : Nat → Nat
  | 0 => 0
  | k + 1 => offs mask p k + (runs mask p k).more + 1
theorem it_offs (mask : Nat) (p : Probe) : ∀ k, it mask p (offs mask p k) = runs mask p k
  | 0 => rfl
  | k + 1 => by
    show it mask p (offs mask p k + (runs mask p k).more + 1) = _
    rw [Nat.add_assoc, it_add, it_offs mask p k, it_leap]
    rfl
theorem runEnd_le (mask i : Nat) : runEnd mask i - i ≤ 9 := by unfold runEnd; split <;> omega
theorem runs_more {mask : Nat} {p : Probe} (h : p.more ≤ 9) : ∀ k, (runs mask p k).more ≤ 9
  | 0 => h
  | k + 1 => runEnd_le _ _
theorem offs_le {mask : Nat} {p : Probe} (h : p.more ≤ 9) : ∀ k, offs mask p k ≤ 10 * k
  | 0 => Nat.le_refl _
  | k + 1 => by
    have := offs_le (mask := mask) h k
    have := runs_more (mask := mask) h k
    show offs mask p k + (runs mask p k).more + 1 ≤ _
    omega
theorem runs_perturb (mask : Nat) (p : Probe) : ∀ k, (runs mask p k).perturb = p.perturb / 32 ^ k
  | 0 => by show p.perturb = _; simp
  | k + 1 => by
    show (runs mask p k).perturb / 32 = _
    rw [runs_perturb mask p k, Nat.div_div_eq_div_mul, Nat.pow_succ]
theorem runs_i (mask : Nat) (p : Probe) (k : Nat) : (runs mask p (k + 1)).i ≤ mask ∧ (runs mask p (k + 1)).j = (runs mask p (k + 1)).i := by
  refine ⟨?_, rfl⟩
  show ((runs mask p k).i * 5 + 1 + (runs mask p k).perturb / 32) % (mask + 1) ≤ mask
  exact Nat.le_of_lt_succ (Nat.mod_lt _ (Nat.succ_pos mask))
theorem runs_lcg {mask : Nat} {p : Probe} (hp : p.perturb < 2 ^ 64) : ∀ a, (runs mask p (13 + a)).i = itF (mask + 1) a (runs mask p 13).i
  | 0 => rfl
  | a + 1 => by
    rw [itF_succ, ← runs_lcg hp a]
    show ((runs mask p (13 + a)).i * 5 + 1 + (runs mask p (13 + a)).perturb / 32) % (mask + 1) = _
    have h0 : (runs mask p (13 + a)).perturb / 32 = 0 := by
      rw [runs_perturb, Nat.div_div_eq_div_mul, ← Nat.pow_succ]
      refine Nat.div_eq_of_lt (Nat.lt_of_lt_of_le hp ?_)
      have : (32 : Nat) ^ 13 ≤ 32 ^ (13 + a + 1) := Nat.pow_le_pow_right (by decide) (by omega)
      exact Nat.le_trans (by decide) this
    rw [h0]
    rfl
theorem cover {mask : Nat} (hm : IsMask mask) {p : Probe} (hp : p.perturb < 2 ^ 64) (h9 : p.more ≤ 9) {j : Nat} (hj : j ≤ mask) : ∃ r, r < 10 * turns mask ∧ (it mask p r).j = j := by
  obtain ⟨a, a1, a2⟩ := lcg hm (runs_i mask p 12).1 hj
  refine ⟨offs mask p (13 + a), ?_, ?_⟩
  · have := offs_le (mask := mask) h9 (13 + a)
    unfold turns
    omega
  · rw [it_offs]
    have e : (runs mask p (13 + a)).j = (runs mask p (13 + a)).i := by
      rw [show 13 + a = (12 + a) + 1 by omega]; exact (runs_i mask p (12 + a)).2
    rw [e, runs_lcg hp a, a2]
structure PrOk (p : Probe) : Prop where
  pt : p.perturb < 2 ^ 64
  mo : p.more ≤ 9
  du : p.dummy = none
theorem PrOk.adv {mask : Nat} {p : Probe} (h : PrOk p) : PrOk (adv mask p) := by
  refine ⟨?_, ?_, by rw [adv_dummy]; exact h.du⟩
  · unfold Tb.adv
    split
    · exact h.pt
    · exact Nat.lt_of_le_of_lt (Nat.div_le_self _ _) h.pt
  · unfold Tb.adv
    split
    · show p.more - 1 ≤ 9; have := h.mo; omega
    · exact runEnd_le _ _
theorem PrOk.it {mask : Nat} : ∀ {p : Probe} (r : Nat), PrOk p → PrOk (it mask p r)
  | _, 0, h => h
  | _, r + 1, h => PrOk.it (p := Tb.adv mask _) r h.adv
theorem bits_lt (h : Int) : bits h < 2 ^ 64 := by
  unfold bits
  have := Int.emod_lt_of_pos h (b := (2 ^ 64 : Int)) (by decide)
  have := Int.emod_nonneg h (b := (2 ^ 64 : Int)) (by decide)
  omega
theorem start_ok (t : SetTable) (h : Int) : PrOk (t.probeStart h) := ⟨bits_lt h, runEnd_le _ _, rfl⟩
def start (mask : Nat) (h : Int) : Probe := { j := bits h % (mask + 1), more := runEnd mask (bits h % (mask + 1)) - bits h % (mask + 1), i := bits h % (mask + 1), perturb := bits h, dummy := none }
theorem start_eq (t : SetTable) (h : Int) : t.probeStart h = start t.mask h := rfl
theorem below_go {xs : Array Nat} {j : Nat} (hs : xs.toList.Pairwise (· < ·)) : ∀ (fuel lo hi : Nat), hi - lo ≤ fuel → lo ≤ hi → hi ≤ xs.size → (∀ i (h : i < xs.size), i < lo → xs[i] < j) → (∀ i (h : i < xs.size), hi ≤ i → j ≤ xs[i]) →
    below.go xs j fuel lo hi ≤ xs.size ∧ (∀ i (h : i < xs.size), i < below.go xs j fuel lo hi → xs[i] < j) ∧ (∀ i (h : i < xs.size), below.go xs j fuel lo hi ≤ i → j ≤ xs[i])
  | 0, lo, hi, hf, hl, hh, h1, h2 => by
    unfold below.go
    exact ⟨by omega, h1, fun i h q => h2 i h (by omega)⟩
  | fuel + 1, lo, hi, hf, hl, hh, h1, h2 => by
    unfold below.go
    split
    · rename_i hlt
      have hm : (lo + hi) / 2 < xs.size := by omega
      have hg : xs.getD ((lo + hi) / 2) j = xs[(lo + hi) / 2] := by simp [Array.getD, hm]
      have mono : ∀ a b (ha : a < xs.size) (hb : b < xs.size), a < b → xs[a] < xs[b] := fun a b ha hb q => by
        have := List.pairwise_iff_getElem.mp hs a b (by simpa using ha) (by simpa using hb) q
        simpa using this
      dsimp only
      rw [hg]
      split
      · rename_i hc
        refine below_go hs fuel _ hi (by omega) (by omega) hh (fun i h q => ?_) h2
        by_cases e : i = (lo + hi) / 2
        · subst e; exact hc
        · exact Nat.lt_trans (mono i _ h hm (by omega)) hc
      · rename_i hc
        refine below_go hs fuel lo _ (by omega) (by omega) (by omega) h1 (fun i h q => ?_)
        by_cases e : i = (lo + hi) / 2
        · subst e; omega
        · have := mono _ i hm h (by omega); omega
    · exact ⟨by omega, h1, fun i h q => h2 i h (by omega)⟩
theorem below_spec {xs : Array Nat} {j : Nat} (hs : xs.toList.Pairwise (· < ·)) : below xs j ≤ xs.size ∧ (∀ i (h : i < xs.size), i < below xs j → xs[i] < j) ∧ (∀ i (h : i < xs.size), below xs j ≤ i → j ≤ xs[i]) :=
  below_go hs _ _ _ (by omega) (Nat.zero_le _) (Nat.le_refl _) (fun i h q => by omega) (fun i h q => by omega)
theorem below_at {xs : Array Nat} (hs : xs.toList.Pairwise (· < ·)) {i : Nat} (hi : i < xs.size) : below xs xs[i] = i := by
  obtain ⟨h1, h2, h3⟩ := below_spec (j := xs[i]) hs
  have mono : ∀ a b (ha : a < xs.size) (hb : b < xs.size), a < b → xs[a] < xs[b] := fun a b ha hb q => by
    have := List.pairwise_iff_getElem.mp hs a b (by simpa using ha) (by simpa using hb) q
    simpa using this
  rcases Nat.lt_trichotomy (below xs xs[i]) i with q | q | q
  · have a := h3 (below xs xs[i]) (by omega) (Nat.le_refl _)
    have b := mono _ i (by omega) hi q
    omega
  · exact q
  · have := h2 i hi q
    omega
theorem slot_live {t : SetTable} (hs : t.place.toList.Pairwise (· < ·)) {i : Nat} (hi : i < t.place.size) : t.slot t.place[i] = .live i := by
  unfold slot
  rw [below_at hs hi]
  simp [hi]
theorem slot_empty {t : SetTable} (hd : t.dummies = #[]) {j : Nat} (h : j ∉ t.place.toList) : t.slot j = .empty := by
  unfold slot
  rw [hd]
  have e : (t.place[below t.place j]? == some j) = false := by
    rw [beq_eq_false_iff_ne]
    intro z
    exact h (by simpa using Array.mem_of_getElem? z)
  simp [e, has]
theorem slot_cases {t : SetTable} (hs : t.place.toList.Pairwise (· < ·)) (hd : t.dummies = #[]) (j : Nat) : (j ∉ t.place.toList ∧ t.slot j = .empty) ∨ (∃ i, ∃ h : i < t.place.size, t.place[i] = j ∧ t.slot j = .live i) := by
  by_cases h : j ∈ t.place.toList
  · obtain ⟨i, hi, e⟩ := List.getElem_of_mem h
    have hi' : i < t.place.size := by simpa using hi
    have e' : t.place[i] = j := by simpa using e
    exact .inr ⟨i, hi', e', by rw [← e']; exact slot_live hs hi'⟩
  · exact .inl ⟨h, slot_empty hd h⟩
theorem go_spec {t : SetTable} (ha : Nat → Int) (h : Int) : ∀ (rE F : Nat) (p : Probe), rE < F → p.dummy = none → t.slot (it t.mask p rE).j = .empty → (∀ r, t.slot (it t.mask p r).j ≠ .dummy) →
    (∃ r, r ≤ rE ∧ t.slot (it t.mask p r).j = .empty ∧ (∀ r', r' < r → ∃ i, t.slot (it t.mask p r').j = .live i ∧ ha i ≠ h) ∧ probe.go t ha h F p = some (.empty (it t.mask p r).j none)) ∨
    (∃ r i, r < rE ∧ t.slot (it t.mask p r).j = .live i ∧ ha i = h ∧ (∀ r', r' < r → ∃ i, t.slot (it t.mask p r').j = .live i ∧ ha i ≠ h) ∧ probe.go t ha h F p = some (.candidate (it t.mask p r).j i (it t.mask p (r + 1))))
  | rE, 0, p, hF, _, _, _ => by omega
  | rE, F + 1, p, hF, hd, he, hn => by
    cases hs : t.slot p.j with
    | empty =>
      refine .inl ⟨0, Nat.zero_le _, hs, fun r' q => by omega, ?_⟩
      unfold probe.go
      rw [hs]
      show some (Met.empty p.j p.dummy) = _
      rw [hd]
      rfl
    | dummy => exact absurd hs (hn 0)
    | live i =>
      cases rE with
      | zero => rw [show (it t.mask p 0).j = p.j from rfl, hs] at he; cases he
      | succ rE =>
        by_cases hq : ha i = h
        · refine .inr ⟨0, i, Nat.succ_pos _, hs, hq, fun r' q => by omega, ?_⟩
          unfold probe.go
          rw [hs]
          dsimp only
          rw [if_pos (by simpa using hq)]
          rfl
        · have hgo : probe.go t ha h (F + 1) p = probe.go t ha h F (adv t.mask p) := by
            conv => lhs; unfold probe.go
            rw [hs]
            dsimp only
            rw [if_neg (by simpa using hq)]
            rfl
          have first : ∀ (r : Nat), (∀ r', r' < r → ∃ i, t.slot (it t.mask (adv t.mask p) r').j = .live i ∧ ha i ≠ h) → ∀ r', r' < r + 1 → ∃ i, t.slot (it t.mask p r').j = .live i ∧ ha i ≠ h := fun r q r' hr' => by
            cases r' with
            | zero => exact ⟨i, hs, hq⟩
            | succ r' => exact q r' (by omega)
          rcases go_spec ha h rE F (adv t.mask p) (by omega) (by rw [adv_dummy]; exact hd) he (fun r => hn (r + 1)) with ⟨r, h1, h2, h3, h4⟩ | ⟨r, i', h1, h2, h3, h4, h5⟩
          · exact .inl ⟨r + 1, by omega, h2, first r h3, by rw [hgo]; exact h4⟩
          · exact .inr ⟨r + 1, i', by omega, h2, h3, first r h4, by rw [hgo]; exact h5⟩
end Tb
namespace Tb
open PySem PySem.SetTable
abbrev Ents := List (Int × Value)
abbrev jAt (mask : Nat) (h : Int) (r : Nat) : Nat := (it mask (start mask h) r).j
structure TOk (t : SetTable) (es : Ents) : Prop where
  ms : IsMask t.mask
  du : t.dummies = #[]
  ri : t.place.toList.Pairwise (· < ·)
  le : ∀ j ∈ t.place.toList, j ≤ t.mask
  len : t.place.toList.length = es.length
  load : es.length * 5 < t.mask * 3
  reach : ∀ q ∈ t.place.toList.zip es, ∃ r, jAt t.mask q.2.1 r = q.1 ∧ ∀ r', r' < r → jAt t.mask q.2.1 r' ∈ t.place.toList
theorem TOk.fits {t : SetTable} {es : Array (Int × Value)} (h : TOk t es.toList) : t.fits es.size = true := by
  have h1 := h.len
  have h2 := h.load
  simp only [Array.length_toList] at h1 h2
  simp only [SetTable.fits, SetTable.fill, h.du, Bool.and_eq_true, beq_iff_eq, decide_eq_true_eq, List.size_toArray, List.length_nil]
  exact ⟨h1, by omega⟩
theorem tok_fresh (fi mo : Nat) (led : Bool) : TOk (.fresh fi mo led) [] := ⟨.inl rfl, rfl, .nil, (fun j h => by cases h), rfl, (by show 0 * 5 < 7 * 3; decide), (fun q h => by cases h)⟩
theorem TOk.free {t : SetTable} {es : Ents} (h : TOk t es) : ∃ j, j ≤ t.mask ∧ j ∉ t.place.toList := by
  apply Classical.byContradiction
  intro hc
  have sub : List.range (t.mask + 1) ⊆ t.place.toList := fun j hj => Classical.byContradiction fun hn => hc ⟨j, by have := List.mem_range.mp hj; omega, hn⟩
  have := List.Nodup.length_le_of_subset List.nodup_range sub
  rw [List.length_range, h.len] at this
  have := h.load
  omega
theorem TOk.nodummy {t : SetTable} {es : Ents} (h : TOk t es) (j : Nat) : t.slot j ≠ .dummy := by
  rcases slot_cases h.ri h.du j with ⟨_, e⟩ | ⟨i, hi, _, e⟩ <;> rw [e] <;> intro z <;> cases z
theorem TOk.probe {t : SetTable} {es : Ents} (h : TOk t es) (ha : Nat → Int) (x : Int) (r0 : Nat) :
    (∃ r, r0 ≤ r ∧ jAt t.mask x r ∉ t.place.toList ∧ (∀ r', r0 ≤ r' → r' < r → ∃ i, ∃ hi : i < t.place.size, t.place[i] = jAt t.mask x r' ∧ ha i ≠ x) ∧ t.probe ha x (it t.mask (start t.mask x) r0) = some (.empty (jAt t.mask x r) none)) ∨
    (∃ r i, ∃ hi : i < t.place.size, r0 ≤ r ∧ t.place[i] = jAt t.mask x r ∧ t.slot (jAt t.mask x r) = .live i ∧ ha i = x ∧ (∀ r', r0 ≤ r' → r' < r → ∃ i, ∃ hi : i < t.place.size, t.place[i] = jAt t.mask x r' ∧ ha i ≠ x) ∧ t.probe ha x (it t.mask (start t.mask x) r0) = some (.candidate (jAt t.mask x r) i (it t.mask (start t.mask x) (r + 1)))) := by
  have pk : PrOk (it t.mask (start t.mask x) r0) := PrOk.it r0 (start_ok t x)
  obtain ⟨j, hj, hn⟩ := h.free
  obtain ⟨rE, e1, e2⟩ := cover h.ms pk.pt pk.mo hj
  have live : ∀ j i, t.slot j = .live i → ∃ hi : i < t.place.size, t.place[i] = j := fun j i e => by
    rcases slot_cases h.ri h.du j with ⟨_, z⟩ | ⟨i', hi, q, z⟩
    · rw [z] at e; cases e
    · rw [z] at e; cases e; exact ⟨hi, q⟩
  have shift : ∀ r, it t.mask (it t.mask (start t.mask x) r0) r = it t.mask (start t.mask x) (r0 + r) := fun r => (it_add _ _ _ _).symm
  have before : ∀ r, (∀ r', r' < r → ∃ i, t.slot (it t.mask (it t.mask (start t.mask x) r0) r').j = .live i ∧ ha i ≠ x) → ∀ r', r0 ≤ r' → r' < r0 + r → ∃ i, ∃ hi : i < t.place.size, t.place[i] = jAt t.mask x r' ∧ ha i ≠ x := fun r q r' h1 h2 => by
    obtain ⟨i, q1, q2⟩ := q (r' - r0) (by omega)
    rw [shift, show r0 + (r' - r0) = r' by omega] at q1
    obtain ⟨hi, q3⟩ := live _ _ q1
    exact ⟨i, hi, q3, q2⟩
  rcases go_spec ha x rE (10 * turns t.mask) _ e1 pk.du (by rw [e2]; exact slot_empty h.du hn) (fun r => h.nodummy _) with ⟨r, h1, h2, h3, h4⟩ | ⟨r, i, h1, h2, h3, h4, h5⟩
  · refine .inl ⟨r0 + r, Nat.le_add_right _ _, fun z => ?_, before r h3, ?_⟩
    · rw [shift] at h2
      rcases slot_cases h.ri h.du (jAt t.mask x (r0 + r)) with ⟨q, _⟩ | ⟨i, hi, _, q⟩
      · exact q z
      · rw [q] at h2; cases h2
    · rw [shift] at h4; exact h4
  · rw [shift] at h2
    obtain ⟨hi, q3⟩ := live _ _ h2
    refine .inr ⟨r0 + r, i, hi, Nat.le_add_right _ _, q3, h2, h3, before r h4, ?_⟩
    rw [shift, shift] at h5
    exact h5
theorem insert_rising {xs : Array Nat} (hs : xs.toList.Pairwise (· < ·)) {j : Nat} (hj : j ∉ xs.toList) : (insertAt xs (below xs j) j).toList.Pairwise (· < ·) := by
  obtain ⟨h1, h2, h3⟩ := below_spec (j := j) hs
  rw [SetTable.toList_insertAt, List.pairwise_append]
  have lo : ∀ a ∈ xs.toList.take (below xs j), a < j := fun a ha => by
    obtain ⟨i, hi, e⟩ := List.getElem_of_mem ha
    rw [List.length_take] at hi
    rw [List.getElem_take] at e
    have := h2 i (by simp at hi; omega) (by simp at hi; omega)
    simp at e
    omega
  have hi' : ∀ a ∈ xs.toList.drop (below xs j), j < a := fun a ha => by
    obtain ⟨i, hi, e⟩ := List.getElem_of_mem ha
    rw [List.length_drop] at hi
    rw [List.getElem_drop] at e
    have q := h3 (below xs j + i) (by simp at hi; omega) (by omega)
    simp at e
    have : a ≠ j := fun z => hj (by rw [← z, ← e]; simp)
    omega
  refine ⟨hs.sublist (List.take_sublist _ _), List.pairwise_cons.mpr ⟨hi', hs.sublist (List.drop_sublist _ _)⟩, fun a ha b hb => ?_⟩
  rcases List.mem_cons.mp hb with rfl | hb
  · exact lo a ha
  · exact Nat.lt_trans (lo a ha) (hi' b hb)
theorem mem_insert {α : Type} {xs : Array α} {p : Nat} {x a : α} : a ∈ (insertAt xs p x).toList ↔ a = x ∨ a ∈ xs.toList := by
  rw [(SetTable.insertAt_perm xs p x).mem_iff, Array.toList_push, List.mem_append, List.mem_singleton]
  exact Or.comm
theorem take_zip' {α β : Type} : ∀ (p : Nat) (xs : List α) (ys : List β), (xs.take p).zip (ys.take p) = (xs.zip ys).take p
  | 0, _, _ => by simp
  | _ + 1, [], _ => by simp
  | _ + 1, _ :: _, [] => by simp
  | p + 1, x :: xs, y :: ys => by simp [take_zip' p xs ys]
theorem drop_zip' {α β : Type} : ∀ (p : Nat) (xs : List α) (ys : List β), (xs.drop p).zip (ys.drop p) = (xs.zip ys).drop p
  | 0, _, _ => by simp
  | _ + 1, [], _ => by simp
  | _ + 1, _ :: _, [] => by simp
  | p + 1, x :: xs, y :: ys => by simp [drop_zip' p xs ys]
theorem zip_insert {α β : Type} {xs : List α} {ys : List β} (hl : xs.length = ys.length) (p : Nat) (a : α) (b : β) : (xs.take p ++ a :: xs.drop p).zip (ys.take p ++ b :: ys.drop p) = (xs.zip ys).take p ++ (a, b) :: (xs.zip ys).drop p := by
  rw [List.zip_append (by rw [List.length_take, List.length_take, hl]), List.zip_cons_cons, take_zip', drop_zip']
structure TOk1 (t : SetTable) (es : Ents) : Prop where
  ms : IsMask t.mask
  du : t.dummies = #[]
  ri : t.place.toList.Pairwise (· < ·)
  le : ∀ j ∈ t.place.toList, j ≤ t.mask
  len : t.place.toList.length = es.length
  load : es.length * 5 < t.mask * 3 + 5
  reach : ∀ q ∈ t.place.toList.zip es, ∃ r, jAt t.mask q.2.1 r = q.1 ∧ ∀ r', r' < r → jAt t.mask q.2.1 r' ∈ t.place.toList
theorem TOk1.fits {t : SetTable} {es : Array (Int × Value)} (h : TOk1 t es.toList) : t.fits es.size = true := by
  have h1 := h.len
  have h2 := h.load
  simp only [Array.length_toList] at h1 h2
  simp only [SetTable.fits, SetTable.fill, h.du, Bool.and_eq_true, beq_iff_eq, decide_eq_true_eq, List.size_toArray, List.length_nil]
  refine ⟨h1, ?_⟩
  rcases h.ms with e | e | e | e <;> rw [e] at h2 ⊢ <;> omega
theorem jAt_le {mask : Nat} (h : Int) : ∀ r, jAt mask h r ≤ mask := by
  have key : ∀ r, (it mask (start mask h) r).i ≤ mask ∧ (it mask (start mask h) r).j + (it mask (start mask h) r).more = runEnd mask (it mask (start mask h) r).i := by
    intro r
    induction r with
    | zero =>
      show bits h % (mask + 1) ≤ mask ∧ bits h % (mask + 1) + (runEnd mask (bits h % (mask + 1)) - bits h % (mask + 1)) = _
      refine ⟨Nat.le_of_lt_succ (Nat.mod_lt _ (Nat.succ_pos _)), ?_⟩
      show _ = runEnd mask (bits h % (mask + 1))
      have : bits h % (mask + 1) ≤ runEnd mask (bits h % (mask + 1)) := by unfold runEnd; split <;> omega
      omega
    | succ r ih =>
      rw [it_succ]
      generalize it mask (start mask h) r = p at ih
      unfold adv
      split
      · exact ⟨ih.1, by show p.j + 1 + (p.more - 1) = _; have := ih.2; show _ = runEnd mask p.i; omega⟩
      · refine ⟨Nat.le_of_lt_succ (Nat.mod_lt _ (Nat.succ_pos _)), ?_⟩
        show (leap mask p.i p.perturb).1 + (runEnd mask (leap mask p.i p.perturb).1 - (leap mask p.i p.perturb).1) = runEnd mask (leap mask p.i p.perturb).1
        have : (leap mask p.i p.perturb).1 ≤ runEnd mask (leap mask p.i p.perturb).1 := by unfold runEnd; split <;> omega
        omega
  intro r
  obtain ⟨h1, h2⟩ := key r
  have : runEnd mask (it mask (start mask h) r).i ≤ mask := by unfold runEnd; split <;> omega
  show (it mask (start mask h) r).j ≤ mask
  omega
theorem TOk.put {t : SetTable} {es : Array (Int × Value)} (h : TOk t es.toList) {x : Int} {v : Value} {r : Nat} (hn : jAt t.mask x r ∉ t.place.toList) (hb : ∀ r', r' < r → jAt t.mask x r' ∈ t.place.toList) :
    TOk1 (t.put (jAt t.mask x r)).1 (insertAt es (t.put (jAt t.mask x r)).2 (x, v)).toList := by
  have hd : (t.put (jAt t.mask x r)).1 = { t with place := insertAt t.place (below t.place (jAt t.mask x r)) (jAt t.mask x r) } := by
    unfold SetTable.put
    simp [h.du, has]
  have hp : (t.put (jAt t.mask x r)).2 = below t.place (jAt t.mask x r) := rfl
  rw [hd, hp]
  have hl : t.place.toList.length = es.toList.length := h.len
  refine ⟨h.ms, h.du, insert_rising h.ri hn, fun j hj => ?_, ?_, ?_, fun q hq => ?_⟩
  · rcases mem_insert.mp hj with rfl | hj
    · exact jAt_le x r
    · exact h.le j hj
  · show (insertAt t.place _ _).toList.length = _
    rw [(SetTable.insertAt_perm _ _ _).length_eq, (SetTable.insertAt_perm _ _ _).length_eq]
    simpa using hl
  · rw [(SetTable.insertAt_perm _ _ _).length_eq]
    have := h.load
    show _ < t.mask * 3 + 5
    simp at this ⊢
    omega
  · have mono : ∀ j, j ∈ t.place.toList → j ∈ (insertAt t.place (below t.place (jAt t.mask x r)) (jAt t.mask x r)).toList := fun j hj => mem_insert.mpr (.inr hj)
    rw [show ({ t with place := insertAt t.place (below t.place (jAt t.mask x r)) (jAt t.mask x r) } : SetTable).place.toList = _ from SetTable.toList_insertAt _ _ _, SetTable.toList_insertAt, zip_insert hl] at hq
    have hq' : q = (jAt t.mask x r, (x, v)) ∨ q ∈ t.place.toList.zip es.toList := by
      rcases List.mem_append.mp hq with q1 | q1
      · exact .inr (List.mem_of_mem_take q1)
      · rcases List.mem_cons.mp q1 with q1 | q1
        · exact .inl q1
        · exact .inr (List.mem_of_mem_drop q1)
    rcases hq' with rfl | hq'
    · exact ⟨r, rfl, fun r' hr' => mono _ (hb r' hr')⟩
    · obtain ⟨s, s1, s2⟩ := h.reach q hq'
      exact ⟨s, s1, fun r' hr' => mono _ (s2 r' hr')⟩
theorem TOk1.ok {t : SetTable} {es : Ents} (h : TOk1 t es) (hf : t.tooFull = false) : TOk t es := by
  refine ⟨h.ms, h.du, h.ri, h.le, h.len, ?_, h.reach⟩
  unfold SetTable.tooFull SetTable.fill at hf
  rw [h.du] at hf
  have := h.len
  rw [Array.length_toList] at this
  simp [this] at hf
  omega
end Tb
namespace Tb
open PySem PySem.SetTable
theorem runs_next (mask : Nat) (p : Probe) : ∀ k, runs mask (nextRun mask p) k = runs mask p (k + 1)
  | 0 => rfl
  | k + 1 => by show nextRun mask (runs mask (nextRun mask p) k) = _; rw [runs_next mask p k]; rfl
def occ (owner : Array (Option Nat)) (j : Nat) : Prop := (owner.getD j (some 0)).isNone = false
structure RunAt (mask : Nat) (p : Probe) : Prop where
  j : p.j = p.i
  m : p.more = runEnd mask p.i - p.i
theorem RunAt.next {mask : Nat} {p : Probe} : RunAt mask (nextRun mask p) := ⟨rfl, rfl⟩
theorem free_spec {mask : Nat} (owner : Array (Option Nat)) : ∀ (fuel : Nat) (p : Probe), RunAt mask p → (∃ k, k < fuel ∧ ¬ occ owner (runs mask p k).j) →
    ∃ r, layClean.free mask owner fuel p.i p.perturb = some (it mask p r).j ∧ ¬ occ owner (it mask p r).j ∧ ∀ r', r' < r → occ owner (it mask p r').j
  | 0, p, _, ⟨k, h, _⟩ => by omega
  | fuel + 1, p, ra, ⟨k, hk, ho⟩ => by
    unfold layClean.free
    have hlen : runEnd mask p.i + 1 - p.i = p.more + 1 := by
      rw [ra.m]
      have : p.i ≤ runEnd mask p.i := by unfold runEnd; split <;> omega
      omega
    rw [hlen]
    cases hf : (List.range (p.more + 1)).find? (fun k => (owner.getD (p.i + k) (some 0)).isNone) with
    | some c =>
      dsimp only
      have hc := List.find?_some hf
      have hm := List.mem_range.mp (List.mem_of_find?_eq_some hf)
      have at' : ∀ a, a ≤ p.more → (it mask p a).j = p.i + a := fun a ha => by rw [it_run mask a p ha, ← ra.j]
      refine ⟨c, by rw [at' c (by omega)], ?_, fun r' hr' => ?_⟩
      · rw [at' c (by omega)]; unfold occ; rw [hc]; simp
      · rw [at' r' (by omega)]
        unfold occ
        obtain ⟨_, as, bs, e, hb⟩ := List.find?_eq_some_iff_append.mp hf
        have hr : r' ∈ as := by
          have hmem : r' ∈ List.range (p.more + 1) := List.mem_range.mpr (by omega)
          have hpw : (List.range (p.more + 1)).Pairwise (· < ·) := List.pairwise_lt_range
          rw [e] at hmem hpw
          rcases List.mem_append.mp hmem with z | z
          · exact z
          · exfalso
            rcases List.mem_cons.mp z with z | z
            · omega
            · have := (List.pairwise_cons.mp (List.pairwise_append.mp hpw).2.1).1 r' z
              omega
        have := hb r' hr
        simpa using this
    | none =>
      dsimp only
      have hall : ∀ a, a ≤ p.more → occ owner (it mask p a).j := fun a ha => by
        rw [it_run mask a p ha]
        show occ owner (p.j + a)
        rw [ra.j]
        have := List.find?_eq_none.mp hf a (List.mem_range.mpr (by omega))
        unfold occ
        exact Bool.eq_false_iff.mpr this
      have hk0 : k ≠ 0 := fun z => by subst z; exact ho (hall 0 (Nat.zero_le _))
      obtain ⟨r, h1, h2, h3⟩ := free_spec owner fuel (nextRun mask p) .next ⟨k - 1, by omega, by rw [runs_next, show k - 1 + 1 = k by omega]; exact ho⟩
      have e : ∀ r, it mask p (p.more + 1 + r) = it mask (nextRun mask p) r := fun r => by rw [it_add, it_leap]
      refine ⟨p.more + 1 + r, by rw [e]; exact h1, by rw [e]; exact h2, fun r' hr' => ?_⟩
      by_cases q : r' ≤ p.more
      · exact hall r' q
      · rw [show r' = p.more + 1 + (r' - (p.more + 1)) by omega, e]
        exact h3 _ (by omega)
structure LInv (mask : Nat) (hs : List Int) (k : Nat) (owner : Array (Option Nat)) : Prop where
  size : owner.size = mask + 1
  has : ∀ k', k' < k → ∃ j : Nat, owner[j]? = some (some k')
  at' : ∀ (j k' : Nat), owner[j]? = some (some k') → k' < k ∧ ∃ r, jAt mask (hs.getD k' 0) r = j ∧ ∀ r', r' < r → occ owner (jAt mask (hs.getD k' 0) r')
  inj : ∀ (j j' k' : Nat), owner[j]? = some (some k') → owner[j']? = some (some k') → j = j'
theorem occ_of {owner : Array (Option Nat)} {j : Nat} (h : ¬ occ owner j) : owner[j]? = some none := by
  unfold occ at h
  rw [Array.getD_eq_getD_getElem?] at h
  cases e : owner[j]? with
  | none => rw [e] at h; simp at h
  | some o =>
    rw [e] at h
    cases o with
    | none => rfl
    | some k => simp at h
def liveOf (mask : Nat) (owner : Array (Option Nat)) : List (Nat × Nat) := (List.range (mask + 1)).filterMap fun j => (owner.getD j none).map (j, ·)
theorem live_mem {mask : Nat} {owner : Array (Option Nat)} {q : Nat × Nat} : q ∈ liveOf mask owner ↔ q.1 ≤ mask ∧ owner[q.1]? = some (some q.2) := by
  unfold liveOf
  rw [List.mem_filterMap]
  constructor
  · rintro ⟨j, hj, e⟩
    rw [Array.getD_eq_getD_getElem?] at e
    cases e2 : owner[j]? with
    | none => rw [e2] at e; cases e
    | some o =>
      rw [e2] at e
      cases o with
      | none => cases e
      | some k =>
        cases e
        have := List.mem_range.mp hj
        exact ⟨by show j ≤ mask; omega, e2⟩
  · rintro ⟨h1, h2⟩
    refine ⟨q.1, List.mem_range.mpr (by omega), ?_⟩
    rw [Array.getD_eq_getD_getElem?, h2]
    rfl
theorem live_fst (mask : Nat) (owner : Array (Option Nat)) : ((liveOf mask owner).map (·.1)).Pairwise (· < ·) := by
  unfold liveOf
  rw [List.pairwise_map]
  refine List.Pairwise.filterMap _ (R := fun a b : Nat => a < b) (fun a a' h b hb b' hb' => ?_) List.pairwise_lt_range
  obtain ⟨_, _, rfl⟩ := Option.map_eq_some_iff.mp hb
  obtain ⟨_, _, rfl⟩ := Option.map_eq_some_iff.mp hb'
  exact h
theorem LInv.order {mask : Nat} {hs : List Int} {k : Nat} {owner : Array (Option Nat)} (h : LInv mask hs k owner) : ((liveOf mask owner).map (·.2)).Perm (List.range k) := by
  refine (List.perm_ext_iff_of_nodup ?_ List.nodup_range).mpr fun a => ?_
  · unfold List.Nodup
    rw [List.pairwise_map]
    have := live_fst mask owner
    rw [List.pairwise_map] at this
    refine this.imp_of_mem fun {x y} hx hy hlt e => ?_
    have h1 := (live_mem.mp hx).2
    have h2 := (live_mem.mp hy).2
    rw [e] at h1
    have := h.inj _ _ _ h1 h2
    omega
  · rw [List.mem_map, List.mem_range]
    constructor
    · rintro ⟨q, hq, rfl⟩
      exact (h.at' _ _ (live_mem.mp hq).2).1
    · intro ha
      obtain ⟨j, hj⟩ := h.has a ha
      refine ⟨(j, a), live_mem.mpr ⟨?_, hj⟩, rfl⟩
      have := (Array.getElem?_eq_some_iff.mp hj).1
      rw [h.size] at this
      show j ≤ mask
      omega
theorem LInv.free {mask : Nat} {hs : List Int} {k : Nat} {owner : Array (Option Nat)} (h : LInv mask hs k owner) (hk : k ≤ mask) : ∃ j, j ≤ mask ∧ ¬ occ owner j := by
  apply Classical.byContradiction
  intro hc
  have hl : (liveOf mask owner).length = k := by
    have := h.order.length_eq
    rw [List.length_map, List.length_range] at this
    exact this
  have sub : List.range (mask + 1) ⊆ (liveOf mask owner).map (·.1) := fun j hj => by
    have hj' := List.mem_range.mp hj
    have ho : occ owner j := Classical.byContradiction fun z => hc ⟨j, by omega, z⟩
    cases e : owner[j]? with
    | none => have := Array.getElem?_eq_none_iff.mp e; rw [h.size] at this; omega
    | some o =>
      cases o with
      | none => unfold occ at ho; rw [Array.getD_eq_getD_getElem?, e] at ho; simp at ho
      | some k' => exact List.mem_map.mpr ⟨(j, k'), live_mem.mpr ⟨by show j ≤ mask; omega, e⟩, rfl⟩
  have := List.Nodup.length_le_of_subset List.nodup_range sub
  rw [List.length_range, List.length_map, hl] at this
  omega
theorem LInv.step {mask : Nat} (hm : IsMask mask) {hs : List Int} {k : Nat} {owner : Array (Option Nat)} (h : LInv mask hs k owner) (hk : k ≤ mask) (x : Int) (hx : hs.getD k 0 = x) :
    ∃ j, layClean.free mask owner (turns mask) (bits x % (mask + 1)) (bits x) = some j ∧ LInv mask hs (k + 1) (owner.setIfInBounds j (some k)) := by
  obtain ⟨j0, hj0, hn0⟩ := h.free hk
  have ra : RunAt mask (start mask x) := ⟨rfl, rfl⟩
  obtain ⟨a, a1, a2⟩ := lcg hm (runs_i mask (start mask x) 12).1 hj0
  have hkk : ∃ k, k < turns mask ∧ ¬ occ owner (runs mask (start mask x) k).j := by
    refine ⟨13 + a, by unfold turns; omega, ?_⟩
    have e : (runs mask (start mask x) (13 + a)).j = (runs mask (start mask x) (13 + a)).i := by
      rw [show 13 + a = (12 + a) + 1 by omega]; exact (runs_i mask _ (12 + a)).2
    rw [e, runs_lcg (bits_lt x) a, a2]
    exact hn0
  obtain ⟨r, h1, h2, h3⟩ := free_spec owner (turns mask) (start mask x) ra hkk
  refine ⟨jAt mask x r, h1, ?_⟩
  have hjl : jAt mask x r < owner.size := by rw [h.size]; have := jAt_le (mask := mask) x r; omega
  have hold := occ_of h2
  have get : ∀ j : Nat, (owner.setIfInBounds (jAt mask x r) (some k))[j]? = if jAt mask x r = j then some (some k) else owner[j]? := fun j => by
    rw [Array.getElem?_setIfInBounds]
    by_cases e : jAt mask x r = j
    · rw [if_pos e, if_pos e, if_pos hjl]
    · rw [if_neg e, if_neg e]
  have mono : ∀ j, occ owner j → occ (owner.setIfInBounds (jAt mask x r) (some k)) j := fun j ho => by
    unfold occ at ho ⊢
    rw [Array.getD_eq_getD_getElem?, get]
    by_cases e : jAt mask x r = j
    · rw [if_pos e]; rfl
    · rw [if_neg e, ← Array.getD_eq_getD_getElem?]; exact ho
  refine ⟨by rw [Array.size_setIfInBounds]; exact h.size, fun k' hk' => ?_, fun j k' e => ?_, fun j j' k' e e' => ?_⟩
  · by_cases e : k' = k
    · subst e
      exact ⟨jAt mask x r, by rw [get, if_pos rfl]⟩
    · obtain ⟨j, hj⟩ := h.has k' (by omega)
      refine ⟨j, ?_⟩
      rw [get, if_neg]
      · exact hj
      · intro z
        rw [← z, hold] at hj
        cases hj
  · rw [get] at e
    by_cases z : jAt mask x r = j
    · rw [if_pos z] at e
      cases e
      refine ⟨Nat.lt_succ_self _, r, by rw [hx]; exact z, fun r' hr' => ?_⟩
      rw [hx]
      exact mono _ (h3 r' hr')
    · rw [if_neg z] at e
      obtain ⟨q1, r2, q2, q3⟩ := h.at' j k' e
      exact ⟨by omega, r2, q2, fun r' hr' => mono _ (q3 r' hr')⟩
  · rw [get] at e e'
    by_cases z : jAt mask x r = j
    · by_cases z' : jAt mask x r = j'
      · rw [← z, ← z']
      · rw [if_pos z] at e
        rw [if_neg z'] at e'
        cases e
        have := (h.at' j' k e').1
        omega
    · by_cases z' : jAt mask x r = j'
      · rw [if_neg z] at e
        rw [if_pos z'] at e'
        cases e'
        have := (h.at' j k e).1
        omega
      · rw [if_neg z] at e
        rw [if_neg z'] at e'
        exact h.inj j j' k' e e'
def layStep (mask : Nat) : Option (Array (Option Nat) × Nat) → Int → Option (Array (Option Nat) × Nat) := fun acc h => do
    let (owner, k) ← acc
    let j ← layClean.free mask owner (turns mask) (bits h % (mask + 1)) (bits h)
    pure (owner.setIfInBounds j (some k), k + 1)
theorem lay_fold {mask : Nat} (hm : IsMask mask) (hs : List Int) (hl : hs.length ≤ mask + 1) : ∀ (rest : List Int) (k : Nat) (owner : Array (Option Nat)), hs.drop k = rest → k + rest.length = hs.length → LInv mask hs k owner →
    ∃ owner', rest.foldl (layStep mask) (some (owner, k)) = some (owner', hs.length) ∧ LInv mask hs hs.length owner'
  | [], k, owner, _, e, h => by
    have : k = hs.length := by simpa using e
    subst this
    exact ⟨owner, rfl, h⟩
  | x :: rest, k, owner, hd, e, h => by
    have hk : k < hs.length := by rw [List.length_cons] at e; omega
    have hx : hs.getD k 0 = x := by
      have : hs[k]? = some x := by
        have := congrArg (fun l => l[0]?) hd
        simpa using this
      rw [List.getD_eq_getElem?_getD, this]; rfl
    obtain ⟨j, h1, h2⟩ := h.step hm (by omega) x hx
    rw [List.foldl_cons]
    have e2 : layStep mask (some (owner, k)) x = some (owner.setIfInBounds j (some k), k + 1) := by
      unfold layStep
      simp [h1]
    rw [e2]
    refine lay_fold hm hs hl rest (k + 1) _ ?_ (by rw [List.length_cons] at e; omega) h2
    rw [← List.drop_drop, hd]; rfl
theorem lay_init (mask : Nat) (hs : List Int) : LInv mask hs 0 (Array.replicate (mask + 1) none) := by
  refine ⟨by simp, fun k h => by omega, fun j k' e => ?_, fun j j' k' e => ?_⟩
  · rw [Array.getElem?_replicate] at e; split at e <;> cases e
  · rw [Array.getElem?_replicate] at e; split at e <;> cases e
theorem layClean_eq {mask : Nat} (hm : IsMask mask) (hs : Array Int) (hl : hs.size ≤ mask + 1) : ∃ owner, layClean mask hs = some owner ∧ LInv mask hs.toList hs.size owner := by
  obtain ⟨owner, h1, h2⟩ := lay_fold hm hs.toList (by simpa using hl) hs.toList 0 _ rfl (by simp) (lay_init mask hs.toList)
  refine ⟨owner, ?_, by simpa using h2⟩
  unfold layClean
  rw [← Array.foldl_toList]
  show (hs.toList.foldl (layStep mask) (some (Array.replicate (mask + 1) none, 0))).map (·.1) = _
  rw [h1]
  rfl
theorem filterMap_at {α : Type} (es : Array α) : ∀ (l : List (Nat × Nat)), (∀ q ∈ l, q.2 < es.size) → ∀ d : α, (l.map (·.2)).filterMap (fun i => es[i]?) = l.map fun q => es.getD q.2 d
  | [], _, _ => rfl
  | q :: l, h, d => by
    have hq := h q List.mem_cons_self
    rw [List.map_cons, List.filterMap_cons_some (b := es.getD q.2 d), filterMap_at es l (fun q hq => h q (List.mem_cons_of_mem _ hq)) d, List.map_cons]
    rw [Array.getD_eq_getD_getElem?, Array.getElem?_eq_getElem hq]; rfl
theorem relaid_ok {t : SetTable} {es : Array (Int × Value)} {wanted mask : Nat} (hw : sizeAbove wanted = mask + 1) (hm : IsMask mask) (hl : es.size * 5 < mask * 3) :
    ∃ t' order, t.relaid (es.map (·.1)) wanted = some (t', order) ∧ order.toList.Perm (List.range es.size) ∧ TOk t' (order.filterMap (es[·]?)).toList ∧ t'.led = t.led ∧ t'.plain = t.plain := by
  obtain ⟨owner, h1, h2⟩ := layClean_eq hm (es.map (·.1)) (by rw [Array.size_map]; omega)
  rw [Array.size_map] at h2
  have hlive : ∀ q ∈ liveOf mask owner, q.2 < es.size := fun q hq => (h2.at' _ _ (live_mem.mp hq).2).1
  have hord := h2.order
  refine ⟨?T, ?O, ?_, ?_, ?_, ?_, ?_⟩
  case T => exact { mask := mask, place := ((liveOf mask owner).map (·.1)).toArray, dummies := #[], finger := t.finger, led := t.led, moves := t.movedTo mask, plain := t.plain }
  case O => exact ((liveOf mask owner).map (·.2)).toArray
  · unfold SetTable.relaid SetTable.laid
    rw [hw, Nat.add_sub_cancel, h1]
    rfl
  · simpa using hord
  · have hlen : (liveOf mask owner).length = es.size := by have := hord.length_eq; rw [List.length_map, List.length_range] at this; exact this
    have hes : (Array.filterMap (fun i => es[i]?) ((liveOf mask owner).map (·.2)).toArray).toList = (liveOf mask owner).map fun q => es.getD q.2 (0, .none) := by
      rw [Array.toList_filterMap]
      exact filterMap_at es _ hlive _
    rw [hes]
    refine ⟨hm, rfl, by simpa using live_fst mask owner, fun j hj => ?_, by simp, ?_, fun q hq => ?_⟩
    · have hj : j ∈ (liveOf mask owner).map (·.1) := by simpa using hj
      obtain ⟨q, hq, rfl⟩ := List.mem_map.mp hj
      exact (live_mem.mp hq).1
    · rw [List.length_map, hlen]; exact hl
    · have hz : (({ mask := mask, place := ((liveOf mask owner).map (·.1)).toArray, dummies := #[], finger := t.finger, led := t.led, moves := t.movedTo mask, plain := t.plain } : SetTable).place.toList).zip ((liveOf mask owner).map fun q => es.getD q.2 (0, .none)) = (liveOf mask owner).map fun q => (q.1, es.getD q.2 (0, .none)) := by
        show ((liveOf mask owner).map (·.1)).zip _ = _
        rw [List.zip_map']
      rw [hz] at hq
      obtain ⟨q, hq', rfl⟩ := List.mem_map.mp hq
      obtain ⟨q1, q2⟩ := live_mem.mp hq'
      obtain ⟨q3, r, q4, q5⟩ := h2.at' _ _ q2
      have hx : (es.map (·.1)).toList.getD q.2 0 = (es.getD q.2 (0, .none)).1 := by
        rw [List.getD_eq_getElem?_getD, Array.getD_eq_getD_getElem?]
        simp [q3]
      rw [hx] at q4 q5
      refine ⟨r, q4, fun r' hr' => ?_⟩
      have ho := q5 r' hr'
      show jAt mask _ r' ∈ (liveOf mask owner).map (·.1)
      cases e : owner[jAt mask (es.getD q.2 (0, .none)).1 r']? with
      | none =>
        have := Array.getElem?_eq_none_iff.mp e
        rw [h2.size] at this
        have := jAt_le (mask := mask) (es.getD q.2 (0, .none)).1 r'
        omega
      | some o =>
        cases o with
        | none => unfold occ at ho; rw [Array.getD_eq_getD_getElem?, e] at ho; simp at ho
        | some k' => exact List.mem_map.mpr ⟨(_, k'), live_mem.mpr ⟨jAt_le _ _, e⟩, rfl⟩
  · rfl
  · rfl
theorem grows {t : SetTable} {es : Ents} (h : TOk1 t es) (hf : t.tooFull = true) (hn : es.length ≤ 300) : ∃ mask, sizeAbove (grown es.length) = mask + 1 ∧ IsMask mask ∧ es.length * 5 < mask * 3 := by
  unfold SetTable.tooFull SetTable.fill at hf
  rw [h.du] at hf
  have hl := h.len
  rw [Array.length_toList] at hl
  simp [hl] at hf
  have h2 := h.load
  rcases h.ms with e | e | e | e <;> rw [e] at hf h2
  · have : es.length = 5 := by omega
    rw [this]; exact ⟨31, by decide, .inr (.inl rfl), by omega⟩
  · have : es.length = 19 := by omega
    rw [this]; exact ⟨127, by decide, .inr (.inr (.inl rfl)), by omega⟩
  · have : es.length = 77 := by omega
    rw [this]; exact ⟨511, by decide, .inr (.inr (.inr rfl)), by omega⟩
  · omega
end Tb
namespace Tb
open PySem PySem.SetTable
def byText (w : World) : Bool := w.params.followText "set-order"
section
variable {prog : Program} {w : World} {κ : Type} [DecidableEq κ]
def NoSet (h h' : Heap) : Prop := ∀ b o, h.get? b = some o → o.cls = .type "tuple" → h'.get? b = some o
structure EKind (prog : Program) (w : World) (κ : Type) [DecidableEq κ] where
  is : Heap → κ → Value → Prop
  hash : κ → Int
  draws : κ → Nat
  keeps : ∀ {h h' : Heap} {k : κ} {v : Value}, is h k v → NoSet h h' → is h' k v
  pyHash : ∀ {A : Around} {E : Value → Shared → Prop} {s : Shared} {k : κ} {v : Value} {Q : Int → Shared → Prop}, A.units + 4 < cLine → is s.heap k v → Q (hash k) { s with toks := s.toks + draws k } → wpAny (model prog w) A (PySem.pyHash v) Q E s
abbrev Zs (κ : Type) := List (κ × (Int × Value))
structure SetK (kd : EKind prog w κ) (h : Heap) (a : Addr) (Z : Zs κ) : Prop where
  ex : ∃ o es ep t, h.get? a = some o ∧ o.ExactSet ∧ o.data = .set es ep t ∧ es.toList = Z.map (·.2) ∧ TOk t es.toList ∧ t.plain = true ∧ t.led = !byText w
  el : ∀ z ∈ Z, z.2.1 = kd.hash z.1 ∧ kd.is h z.1 z.2.2
  nd : (Z.map (·.1)).Nodup
theorem SetK.keep {kd : EKind prog w κ} {h h' : Heap} {a : Addr} {Z : Zs κ} (x : SetK kd h a Z) (hn : NoSet h h') (ha : ∀ o, h.get? a = some o → h'.get? a = some o) : SetK kd h' a Z := by
  obtain ⟨o, es, ep, t, h1, h2⟩ := x.ex
  exact ⟨⟨o, es, ep, t, ha _ h1, h2⟩, fun z hz => ⟨(x.el z hz).1, kd.keeps (x.el z hz).2 hn⟩, x.nd⟩
def Adds (kd : EKind prog w κ) : Prop := ∀ {A : Around} {E : Value → Shared → Prop} {s : Shared} {a : Addr} {Z : Zs κ} {k : κ} {x : Value} {Q : Bool → Shared → Prop}, A.units + 8 < cLine → SetK kd s.heap a Z → kd.is s.heap k x → Z.length < 250 →
  (∀ (h' : Heap) (Z' : Zs κ) (b : Bool), Heap.SameBut a s.heap h' → SetK kd h' a Z' → (k ∈ Z.map (·.1) → Z' = Z) → (k ∉ Z.map (·.1) → Z'.Perm ((k, (kd.hash k, x)) :: Z)) → Q b { s with heap := h' }) →
  wpAny (model prog w) A (setAddHashed a x (kd.hash k)) Q E s
theorem perm_lift {α β : Type} (f : α → β) {l l' : List β} (p : l.Perm l') : ∀ {Z : List α}, l' = Z.map f → ∃ Z' : List α, Z'.Perm Z ∧ l = Z'.map f := by
  have key : ∀ {l l' : List β}, l.Perm l' → ∀ {Z : List α}, l = Z.map f → ∃ Z' : List α, Z'.Perm Z ∧ l' = Z'.map f := by
    intro l l' p
    induction p with
    | nil => intro Z h; have : Z = [] := by simpa using h.symm
             subst this; exact ⟨[], .refl _, rfl⟩
    | cons x _ ih =>
      intro Z h
      cases Z with
      | nil => simp at h
      | cons z Z =>
        rw [List.map_cons] at h
        injection h with h1 h2
        obtain ⟨Z', q1, q2⟩ := ih h2
        exact ⟨z :: Z', q1.cons z, by rw [List.map_cons, h1, q2]⟩
    | swap x y l =>
      intro Z h
      match Z, h with
      | z1 :: z2 :: Z, h =>
        rw [List.map_cons, List.map_cons] at h
        injection h with h1 h2
        injection h2 with h2 h3
        exact ⟨z2 :: z1 :: Z, .swap _ _ _, by rw [List.map_cons, List.map_cons, h1, h2, h3]⟩
    | trans _ _ ih1 ih2 =>
      intro Z h
      obtain ⟨Z1, q1, q2⟩ := ih1 h
      obtain ⟨Z2, q3, q4⟩ := ih2 q2
      exact ⟨Z2, q3.trans q1, q4⟩
  intro Z h
  exact key p.symm h
theorem noSet_but {h h' : Heap} {a : Addr} {o : Obj} (ho : h.get? a = some o) (hx : o.ExactSet) (hs : Heap.SameBut a h h') : NoSet h h' := fun b o' hb hn => by
  have : b ≠ a := fun e => by subst e; rw [ho] at hb; cases hb; rw [hx.1] at hn; exact absurd hn (by decide)
  rw [hs.2 b this]; exact hb
theorem SetK.store {kd : EKind prog w κ} {h : Heap} {a : Addr} {o : Obj} {es es' : Array (Int × Value)} {ep : Nat} {t t' : SetTable} {Z' : Zs κ} (ho : h.get? a = some o) (hex : o.ExactSet) (hd : o.data = .set es ep t)
    (he : es'.toList = Z'.map (·.2)) (hT : TOk t' es'.toList) (hp : t'.plain = true) (hl : t'.led = !byText w) (el : ∀ z ∈ Z', z.2.1 = kd.hash z.1 ∧ kd.is h z.1 z.2.2) (nd : (Z'.map (·.1)).Nodup) :
    (h.update a (Obj.putSet es' t')).get? a = some { o with data := .set es' (ep + 1) t' } ∧ SetK kd (h.update a (Obj.putSet es' t')) a Z' := by
  have hg : (h.update a (Obj.putSet es' t')).get? a = some { o with data := .set es' (ep + 1) t' } := by
    have := Heap.get?_update_self (Obj.putSet es' t') ho (by rw [putSet_of es' t' hd]; rfl)
    rw [putSet_of es' t' hd] at this; exact this
  have hns := noSet_but ho hex (Heap.SameBut.update h a (Obj.putSet es' t'))
  exact ⟨hg, ⟨_, es', ep + 1, t', hg, hex, rfl, he, hT, hp, hl⟩, fun z hz => ⟨(el z hz).1, kd.keeps (el z hz).2 hns⟩, nd⟩
theorem size_ok {es : Array (Int × Value)} {n : Nat} (h : es.toList.length = n) (hn : n ≤ 1000) : es.size ≤ sizeLine := by
  rw [← Array.length_toList, h]; exact Nat.le_trans hn (by decide)
def intE (prog : Program) (w : World) : EKind prog w Int where
  is := fun _ k v => (intKind prog w).is k v = true
  hash := (intKind prog w).hash
  draws := fun _ => 1
  keeps := fun h _ => h
  pyHash := fun _ h q => (intKind prog w).pyHash h q
theorem int_val {k : Int} {v : Value} (h : (intKind prog w).is k v = true) : ∃ t, v = .int k t := Value.isInt_shape h
theorem least {P : Nat → Prop} (h : ∃ r, P r) : ∃ r, P r ∧ ∀ r', r' < r → ¬ P r' := by
  obtain ⟨r, hr⟩ := h
  induction r using Nat.strongRecOn with
  | _ r ih =>
    by_cases q : ∃ r', r' < r ∧ P r'
    · obtain ⟨r', h1, h2⟩ := q; exact ih r' h1 h2
    · exact ⟨r, hr, fun r' h1 h2 => q ⟨r', h1, h2⟩⟩
theorem TOk.first {t : SetTable} {es : Ents} (h : TOk t es) (x : Int) : ∃ r, r < 10 * turns t.mask ∧ jAt t.mask x r ∉ t.place.toList ∧ ∀ r', r' < r → jAt t.mask x r' ∈ t.place.toList := by
  obtain ⟨j, hj, hn⟩ := h.free
  have pk : PrOk (start t.mask x) := start_ok t x
  obtain ⟨rE, e1, e2⟩ := cover h.ms pk.pt pk.mo hj
  obtain ⟨r, h1, h2⟩ := least (P := fun r => jAt t.mask x r ∉ t.place.toList) ⟨rE, by show (it t.mask (start t.mask x) rE).j ∉ _; rw [e2]; exact hn⟩
  refine ⟨r, ?_, h1, fun r' hr' => Classical.byContradiction fun z => h2 r' hr' z⟩
  apply Classical.byContradiction
  intro q
  exact h2 rE (by omega) (by show (it t.mask (start t.mask x) rE).j ∉ _; rw [e2]; exact hn)
theorem free_slot {t : SetTable} {es : Ents} (h : TOk t es) (x : Int) : ∃ r, t.freeSlot x = some (jAt t.mask x r, false) ∧ jAt t.mask x r ∉ t.place.toList ∧ ∀ r', r' < r → jAt t.mask x r' ∈ t.place.toList := by
  unfold SetTable.freeSlot
  rcases h.probe (fun _ => x + 1) x 0 with ⟨r, _, h2, h3, h4⟩ | ⟨r, i, hi, _, _, _, h5, _⟩
  · rw [start_eq, show start t.mask x = it t.mask (start t.mask x) 0 from rfl, h4]
    exact ⟨r, rfl, h2, fun r' hr' => by obtain ⟨i, hi, e, _⟩ := h3 r' (Nat.zero_le _) hr'; rw [← e]; simp⟩
  · omega
theorem TOk1.grow {t : SetTable} {es : Array (Int × Value)} (h : TOk1 t es.toList) (hn : es.size ≤ 300) (hf : t.tooFull = true) :
    ∃ t' order, t.relaid (es.map (·.1)) (grown es.size) = some (t', order) ∧ order.toList.Perm (List.range es.size) ∧ TOk t' (order.filterMap (es[·]?)).toList ∧ t'.led = t.led ∧ t'.plain = t.plain ∧ (order.filterMap (es[·]?)).toList.Perm es.toList ∧ sizeAbove (grown es.size) ≤ 512 := by
  obtain ⟨mask, h1, h2, h3⟩ := grows h hf (by rw [Array.length_toList]; exact hn)
  rw [Array.length_toList] at h1 h3
  obtain ⟨t', order, q1, q2, q3, q4, q5⟩ := relaid_ok (t := t) (es := es) h1 h2 h3
  refine ⟨t', order, q1, q2, q3, q4, q5, ?_, ?_⟩
  · rw [Array.toList_filterMap]
    exact (q2.filterMap _).trans (by rw [filterMap_getElem?_range])
  · rw [h1]; rcases h2 with e | e | e | e <;> omega
theorem relayAll_ok {t : SetTable} {es : Array (Int × Value)} (h : TOk1 t es.toList) (hn : es.size ≤ 300) (hf : t.tooFull = true) :
    ∃ es' t', relayAll t es (grown es.size) = (es', t', false) ∧ TOk t' es'.toList ∧ t'.led = t.led ∧ t'.plain = t.plain ∧ es'.toList.Perm es.toList := by
  obtain ⟨t', order, q1, q2, q3, q4, q5, q6, _⟩ := h.grow hn hf
  refine ⟨order.filterMap (es[·]?), t', ?_, q3, q4, q5, q6⟩
  unfold relayAll
  rw [q1]
  dsimp only
  rw [if_pos]
  rw [Bool.and_eq_true]
  exact ⟨List.isPerm_iff.mpr q2, q3.fits⟩
theorem layNew_ok {t : SetTable} {es : Array (Int × Value)} (h : TOk t es.toList) (x : Int) (v : Value) :
    ∃ es' t', layNew t es x v = (es', t', false, false) ∧ TOk1 t' es'.toList ∧ t'.led = t.led ∧ t'.plain = t.plain ∧ es'.toList.Perm (es.toList ++ [(x, v)]) := by
  obtain ⟨r, h1, h2, h3⟩ := free_slot h x
  have hk := h.put (v := v) h2 h3
  have hf := hk.fits
  refine ⟨insertAt es (t.put (jAt t.mask x r)).2 (x, v), (t.put (jAt t.mask x r)).1, ?_, hk, rfl, rfl, ?_⟩
  · unfold layNew
    rw [h1]
    dsimp only
    unfold SetTable.orStandIn
    have hf' : (t.put (jAt t.mask x r)).fst.fits (insertAt es (t.put (jAt t.mask x r)).snd (x, v)).size = true := hf
    rw [if_pos hf', hf']
    rfl
  · have := SetTable.insertAt_perm es (t.put (jAt t.mask x r)).2 (x, v)
    rwa [Array.toList_push] at this
theorem nd_perm {Z Z' : Zs κ} (p : Z'.Perm Z) (h : (Z.map (·.1)).Nodup) : (Z'.map (·.1)).Nodup := (p.map _).nodup_iff.mpr h
set_option maxHeartbeats 1000000 in
theorem int_adds : Adds (intE prog w) := by
  intro A E s a Z k x Q hu hS hk hZ hQ
  obtain ⟨o, es, ep, t, ho, hex, hd, hes, hT, hpl, hled⟩ := hS.ex
  have hf := hT.fits
  have hlen : es.toList.length = Z.length := by rw [hes, List.length_map]
  have hkx : (intKind prog w).is k x = true := hk
  have hsc : x.scannable = true := by obtain ⟨tk, rfl⟩ := int_val hkx; rfl
  have hel : ElemsOf (intKind prog w) es.toList := fun e he => by
    rw [hes] at he
    obtain ⟨z, hz, rfl⟩ := List.mem_map.mp he
    obtain ⟨q1, q2⟩ := hS.el z hz
    have q2 : (intKind prog w).is z.1 z.2.2 = true := q2
    exact ⟨⟨z.1, q2, q1⟩, by obtain ⟨tk, e⟩ := int_val q2; rw [e]; rfl⟩
  have hb : es.size < scanBound := by rw [← Array.length_toList, hlen]; unfold scanBound; omega
  have hmem : (∃ e ∈ es.toList, (intKind prog w).is k e.2 = true) ↔ k ∈ Z.map (·.1) := by
    constructor
    · rintro ⟨e, he, hp⟩
      rw [hes] at he
      obtain ⟨z, hz, rfl⟩ := List.mem_map.mp he
      have q2 : (intKind prog w).is z.1 z.2.2 = true := (hS.el z hz).2
      exact List.mem_map.mpr ⟨z, hz, (intKind prog w).inj _ _ _ q2 hp⟩
    · intro hm
      obtain ⟨z, hz, rfl⟩ := List.mem_map.mp hm
      exact ⟨z.2, by rw [hes]; exact List.mem_map.mpr ⟨z, hz, rfl⟩, (hS.el z hz).2⟩
  unfold setAddHashed setAddHashedIn
  refine wpAny_holding (wpAny_bind (wpAny_setState_of ho hd hf ?_))
  dsimp only
  rw [byScan_of hsc hb hel]
  simp only [↓reduceIte]
  unfold setAddByScan
  refine wpAny_bind ?_
  refine wpAny_bind (wpAny_rule ?_)
  refine wpAny_bind (wpAny_setScan_of (knd := intKind prog w) hkx ho hd hf hel ?_)
  cases hr : List.findIdx? (fun e => (intKind prog w).is k e.2) es.toList with
  | some j =>
    dsimp only
    obtain ⟨hj, hpj, _⟩ := List.findIdx?_eq_some_iff_getElem.mp hr
    have hin : k ∈ Z.map (·.1) := hmem.mp ⟨es.toList[j], List.getElem_mem hj, hpj⟩
    refine wpAny_pure (wpAny_pure ?_)
    have e : s = { s with heap := s.heap } := by cases s; rfl
    rw [e]
    exact hQ s.heap Z _ (Heap.SameBut.refl a s.heap) hS (fun _ => rfl) (fun z => absurd hin z)
  | none =>
    dsimp only
    have hout : k ∉ Z.map (·.1) := fun hm => by
      obtain ⟨e, he, hp⟩ := hmem.mpr hm
      have := List.findIdx?_eq_none_iff.mp hr e he
      rw [hp] at this; exact Bool.noConfusion this
    obtain ⟨es1, t1, hL, hT1, hl1, hp1, hperm⟩ := layNew_ok hT ((intKind prog w).hash k) x
    obtain ⟨Z1, hZp, hZe⟩ := perm_lift (fun z : Int × (Int × Value) => z.2) hperm (Z := Z ++ [(k, ((intKind prog w).hash k, x))]) (by rw [hes, List.map_append]; rfl)
    have hZ1 : Z1.Perm ((k, ((intKind prog w).hash k, x)) :: Z) := hZp.trans (List.perm_append_singleton _ _)
    have hlen1 : es1.toList.length = Z.length + 1 := by rw [hperm.length_eq, List.length_append, hlen]; rfl
    have hsz1 : es1.size = Z.length + 1 := by rw [← Array.length_toList]; exact hlen1
    have el1 : ∀ Z2 : Zs Int, Z2.Perm Z1 → ∀ z ∈ Z2, z.2.1 = (intE prog w).hash z.1 ∧ (intE prog w).is s.heap z.1 z.2.2 := fun Z2 hp z hz => by
      rcases List.mem_cons.mp (hZ1.mem_iff.mp (hp.mem_iff.mp hz)) with rfl | hz
      · exact ⟨rfl, hk⟩
      · exact hS.el z hz
    have nd1 : (Z1.map (·.1)).Nodup := nd_perm hZ1 (List.nodup_cons.mpr ⟨hout, hS.nd⟩)
    rw [show layNew t es ((intE prog w).hash k) x = _ from hL]
    dsimp only
    have gw : ∀ {s₁ : Shared} {Q' : Unit → Shared → Prop}, Q' () s₁ → wpAny (model prog w) A (pure ()) Q' E s₁ := fun h => wpAny_pure h
    refine wpAny_bind (wpAny_pure ?_)
    have hp1' : t1.plain = true := by rw [hp1, hpl]
    rw [hp1']
    simp only [↓reduceIte]
    refine wpAny_bind ?_
    rw [hashByValue_scannable 8 hsc]
    have hpk : plainKind x = true := by obtain ⟨tk, rfl⟩ := int_val hkx; rfl
    rw [hpk]
    refine wpAny_pure ?_
    simp only [↓reduceIte]
    refine wpAny_bind (wpAny_storeSet_of ho hd ?_ (size_ok hlen1 (by omega)))
    cases hfu : t1.tooFull with
    | false =>
      simp only [Bool.not_false, Bool.true_and, Bool.false_eq_true, ↓reduceIte]
      obtain ⟨_, hSK⟩ := SetK.store (kd := intE prog w) ho hex hd hZe (hT1.ok hfu) hp1' (by rw [hl1]; exact hled) (el1 Z1 (.refl _)) nd1
      exact wpAny_pure (wpAny_pure (hQ _ Z1 _ (Heap.SameBut.update _ _ _) hSK (fun z => absurd z hout) (fun _ => hZ1)))
    | true =>
      simp only [Bool.not_false, Bool.true_and, ↓reduceIte]
      obtain ⟨es2, t2, hR, hT2, hl2, hp2, hperm2⟩ := relayAll_ok hT1 (by omega) hfu
      rw [hR]
      dsimp only
      have hg1 : (s.heap.update a (Obj.putSet es1 t1)).get? a = some { o with data := .set es1 (ep + 1) t1 } := by
        have := Heap.get?_update_self (Obj.putSet es1 t1) ho (by rw [putSet_of es1 t1 hd]; rfl)
        rw [putSet_of es1 t1 hd] at this; exact this
      obtain ⟨Z2, hZp2, hZe2⟩ := perm_lift (fun z : Int × (Int × Value) => z.2) hperm2 hZe
      have hns := noSet_but ho hex (Heap.SameBut.update s.heap a (Obj.putSet es1 t1))
      obtain ⟨_, hSK⟩ := SetK.store (kd := intE prog w) (es' := es2) (t' := t2) (Z' := Z2) hg1 hex rfl hZe2 hT2 (by rw [hp2, hp1']) (by rw [hl2, hl1]; exact hled) (fun z hz => ⟨(el1 Z2 hZp2 z hz).1, (intE prog w).keeps (el1 Z2 hZp2 z hz).2 hns⟩) (nd_perm hZp2 nd1)
      refine wpAny_bind (wpAny_pure ?_)
      refine wpAny_bind (wpAny_storeSet_of hg1 rfl ?_ (size_ok (hperm2.length_eq.trans hlen1) (by omega)))
      exact wpAny_pure (wpAny_pure (hQ _ Z2 _ ((Heap.SameBut.update _ _ _).trans (Heap.SameBut.update _ _ _)) hSK (fun z => absurd z hout) (fun _ => hZp2.trans hZ1)))
end
end Tb
namespace Tb
open PySem PySem.SetTable
section
variable {prog : Program} {w : World} {A : Around} {E : Value → Shared → Prop} {s : Shared}
abbrev TK (prog : Program) (w : World) (h : Heap) (k : List Int) (v : Value) : Prop := ∃ b, v = .ref b ∧ IsTupleKey (intKind prog w) h k b
theorem items_ref {k : List Int} {vs : List Value} (h : ItemsAre (intKind prog w) k vs) : ∀ v ∈ vs, ∃ i t, v = .int i t := by
  induction h with
  | nil => intro v hv; simp at hv
  | cons h1 _ ih =>
    intro v hv
    rcases List.mem_cons.mp hv with rfl | hv
    · obtain ⟨t, e⟩ := int_val h1; exact ⟨_, t, e⟩
    · exact ih v hv
theorem hashByValue_tup {k : List Int} {b : Addr} {Q : Bool → Shared → Prop} (hk : IsTupleKey (intKind prog w) s.heap k b) (h : Q true s) : wpAny (model prog w) A (hashByValue 8 (.ref b)) Q E s := by
  have hT := hk.typeIs
  obtain ⟨o, items, n, ho, _, hd, hi⟩ := hk
  unfold hashByValue
  refine wpAny_bind (wpAny_specialOf hT F.slot_tuple_hash.lookup ?_)
  show wpAny _ _ (seqItems? (.ref b) >>= _) _ _ s
  refine wpAny_bind (wpAny_seqItems ho hd ?_)
  refine wpAny_bind ?_
  show wpAny _ _ (forIn items _ _) _ _ s
  rw [← Array.forIn_toList]
  refine wpAny_forIn_list _ (fun rest r s' => r.1 = none ∧ s' = s ∧ ∀ v ∈ rest, ∃ i t, v = Value.int i t) _ ?_ ?_ _ _ ⟨rfl, rfl, items_ref hi⟩
  · rintro v rest r s' ⟨hr, rfl, hall⟩
    obtain ⟨i, tk, rfl⟩ := hall v List.mem_cons_self
    refine wpAny_bind (wpAny_of_eq (show hashByValue 7 (.int i tk) = pure true from rfl) (wpAny_pure ?_))
    simp only [Bool.not_true, Bool.false_eq_true, if_false]
    first | exact wpAny_pure ⟨rfl, rfl, fun u hu' => hall u (List.mem_cons_of_mem _ hu')⟩ | exact ⟨trivial, trivial, fun u hu' => hall u (List.mem_cons_of_mem _ hu')⟩
  · rintro ⟨r1, r2⟩ s' ⟨hr, rfl, _⟩
    simp only at hr
    subst hr
    exact wpAny_pure h
theorem ofAClass_tup {k : List Int} {b : Addr} {Q : Bool → Shared → Prop} (hk : IsTupleKey (intKind prog w) s.heap k b) (h : Q false s) : wpAny (model prog w) A (ofAClassStatement 8 (.ref b)) Q E s := by
  have hT := hk.typeIs
  obtain ⟨o, items, n, ho, _, hd, hi⟩ := hk
  unfold ofAClassStatement
  refine wpAny_bind (wpAny_typeOf hT ?_)
  dsimp only
  refine wpAny_bind ?_
  refine wpAny_pure ?_
  simp only [Bool.not_true, Bool.false_eq_true, if_false]
  refine wpAny_bind (wpAny_seqItems ho hd ?_)
  dsimp only
  refine wpAny_bind ?_
  rw [← Array.forIn_toList]
  refine wpAny_forIn_list _ (fun rest r s' => r.1 = none ∧ s' = s ∧ ∀ v ∈ rest, ∃ i t, v = Value.int i t) _ ?_ ?_ _ _ ⟨rfl, rfl, items_ref hi⟩
  · rintro v rest r s' ⟨hr, rfl, hall⟩
    obtain ⟨i, tk, rfl⟩ := hall v List.mem_cons_self
    refine wpAny_bind (wpAny_of_eq (show ofAClassStatement 7 (.int i tk) = pure false from rfl) (wpAny_pure ?_))
    simp only [Bool.false_eq_true, if_false]
    first | exact wpAny_pure ⟨rfl, rfl, fun u hu' => hall u (List.mem_cons_of_mem _ hu')⟩ | exact ⟨trivial, trivial, fun u hu' => hall u (List.mem_cons_of_mem _ hu')⟩
  · rintro ⟨r1, r2⟩ s' ⟨hr, rfl, _⟩
    simp only at hr
    subst hr
    exact wpAny_pure h
theorem unseen {k : List Int} {x : Value} {l : List Value} {Q : Bool → Shared → Prop} (hx : TK prog w s.heap k x) (hl : ∀ y ∈ l, ∃ k', TK prog w s.heap k' y) (h : Q false s) : wpAny (model prog w) A (searchCouldBeSeen x l) Q E s := by
  obtain ⟨b, rfl, hb⟩ := hx
  unfold searchCouldBeSeen
  refine wpAny_bind ?_
  refine wpAny_forIn_list _ (fun rest r s' => r.1 = none ∧ s' = s ∧ ∀ y ∈ rest, ∃ k', TK prog w s.heap k' y) _ ?_ ?_ _ _ ⟨rfl, rfl, hl⟩
  · rintro v rest r s' ⟨hr, rfl, hall⟩
    obtain ⟨k', c, rfl, hc⟩ := hall v List.mem_cons_self
    dsimp only
    split
    · exact wpAny_pure ⟨rfl, rfl, fun u hu' => hall u (List.mem_cons_of_mem _ hu')⟩
    · refine wpAny_bind (wpAny_eqIsQuiet_tuple hb ?_)
      simp only [Bool.not_true, Bool.false_eq_true, if_false]
      refine wpAny_bind (wpAny_eqIsQuiet_tuple hc ?_)
      simp only [Bool.not_true, Bool.false_eq_true, if_false]
      refine wpAny_bind (ofAClass_tup hb ?_)
      simp only [Bool.false_eq_true, if_false]
      refine wpAny_bind (ofAClass_tup hc ?_)
      simp only [Bool.false_eq_true, if_false]
      exact wpAny_pure ⟨rfl, rfl, fun u hu' => hall u (List.mem_cons_of_mem _ hu')⟩
  · rintro ⟨r1, r2⟩ s' ⟨hr, rfl, _⟩
    simp only at hr
    subst hr
    exact wpAny_pure h
structure PKind (prog : Program) (w : World) (κ : Type) [DecidableEq κ] extends EKind prog w κ where
  ref : ∀ {h : Heap} {k : κ} {v : Value}, is h k v → ∃ b, v = .ref b
  eqB : ∀ {A : Around} {E : Value → Shared → Prop} {s : Shared} {k k' : κ} {y x : Value} {Q : Bool → Shared → Prop}, A.units + 4 < cLine → is s.heap k y → is s.heap k' x → Q (decide (k = k')) s → wpAny (model prog w) A (eqBool y x) Q E s
  uns : ∀ {A : Around} {E : Value → Shared → Prop} {s : Shared} {k : κ} {x : Value} {l : List Value} {Q : Bool → Shared → Prop}, is s.heap k x → (∀ y ∈ l, ∃ k', is s.heap k' y) → Q false s → wpAny (model prog w) A (searchCouldBeSeen x l) Q E s
  byv : ∀ {A : Around} {E : Value → Shared → Prop} {s : Shared} {k : κ} {x : Value} {Q : Bool → Shared → Prop}, is s.heap k x → Q true s → wpAny (model prog w) A (hashByValue 8 x) Q E s
def tupE (prog : Program) (w : World) (ok : List Int → Value → Prop) : PKind prog w (List Int) where
  is := fun h k v => ok k v ∧ TK prog w h k v
  hash := tupleKeyHash (intKind prog w)
  draws := fun k => k.length + 1
  keeps := fun ⟨hok, b, e, o, items, n, h1, h2, h3, h4⟩ hn => ⟨hok, b, e, o, items, n, hn b o h1 h2, h2, h3, h4⟩
  pyHash := fun hu ⟨_, b, e, hk⟩ q => by subst e; exact wpAny_pyHash_tuple (by omega) hk q
  ref := fun ⟨_, b, e, _⟩ => ⟨b, e⟩
  eqB := fun hu ⟨_, b, e, hb⟩ ⟨_, c, e', hc⟩ q => by subst e; subst e'; exact wpAny_eqBool_tuple (by omega) hb hc q
  uns := fun ⟨_, hx⟩ hl q => unseen hx (fun y hy => let ⟨k', _, h⟩ := hl y hy; ⟨k', h⟩) q
  byv := fun ⟨_, b, e, hb⟩ q => by subst e; exact hashByValue_tup hb q
end
end Tb
namespace Tb
open PySem PySem.SetTable
section
variable {prog : Program} {w : World}
end
end Tb
namespace Tb
open PySem PySem.SetTable
section
variable {prog : Program} {w : World} {κ : Type} [DecidableEq κ] {kd : EKind prog w κ} {A : Around} {E : Value → Shared → Prop} {s : Shared} {R : Result → Shared → Prop}
theorem iter_cls {h : Heap} {I l : Addr} {i : Nat} (x : h.IsListIter I l i) {o : Obj} (e : h.get? I = some o) : o.cls ≠ .type "tuple" := by
  obtain ⟨o', h1, h2, _⟩ := x
  rw [e] at h1; cases h1
  rw [h2]; decide
theorem set_loop (ad : Adds kd) (hh : A.handled = none) (hu : A.units + 16 < cLine) {l I S : Addr} {items : Array Value} {ks : List κ} (hlI : l ≠ I) (hSI : S ≠ I) (hSl : S ≠ l) (hn : items.size ≤ 240) (hks : ks.length = items.size) :
    ∀ (c i : Nat) (h : Heap) (tk : Nat) (Z : Zs κ), items.size - i = c → i ≤ items.size → h.IsListIter I l i → h.IsList l items → SetK kd h S Z → (∀ k, k ∈ Z.map (·.1) ↔ k ∈ ks.take i) → Z.length ≤ i →
      (∀ (j : Nat) v, items[j]? = some v → ∃ k, ks[j]? = some k ∧ kd.is h k v) →
      (∀ (h' : Heap) (tk' : Nat) (Z' : Zs κ), (∀ b o, b ≠ S → b ≠ I → h.get? b = some o → h'.get? b = some o) → SetK kd h' S Z' → (∀ k, k ∈ Z'.map (·.1) ↔ k ∈ ks) → Z'.length ≤ items.size → R (.ok (.ret .none)) { s with heap := h', toks := tk' }) →
      codeAny (model prog w) A (.builtin "set.update.loop" ⟨[.ref S, .ref I], []⟩) R { s with heap := h, toks := tk } := by
  have W := Walks.list (prog := prog) (w := w) (A := A.in1) hh I l hlI items
  intro c
  induction c with
  | zero =>
    intro i h tk Z hc hi hit hl hS hm hz hv hR
    have hin : i = items.size := by omega
    subst hin
    refine codeAny_builtin PyProof.Rows.F.entry_set_update_loop ?_
    rw [Around.under_plainId PyProof.Rows.F.plain_set_update_loop _]
    show wpAny _ A.in1 (pyNext (.ref I) >>= _) _ _ _
    refine wpAny_bind (W.done _ _ _ ⟨hit, hl⟩ fun h' tk' hk => ?_)
    show wpAny _ A.in1 (ret Value.none) _ _ _
    have hns : NoSet h h' := fun b o e hc => hk b o (fun z => by
      have : b = I := by simpa using z
      subst this
      exact iter_cls hit e hc) e
    refine wpAny_pure (hR h' tk' Z (fun b o _ h2 e => hk b o (by simpa using h2) e) (hS.keep hns fun o e => hk S o (by simpa using hSI) e) (fun k => by rw [hm k, List.take_of_length_le (by omega)]) hz)
  | succ c ih =>
    intro i h tk Z hc hi hit hl hS hm hz hv hR
    have hlt : i < items.size := by omega
    refine codeAny_builtin PyProof.Rows.F.entry_set_update_loop ?_
    rw [Around.under_plainId PyProof.Rows.F.plain_set_update_loop _]
    show wpAny _ A.in1 (pyNext (.ref I) >>= _) _ _ _
    refine wpAny_bind (W.item i _ _ _ hlt ⟨hit, hl⟩ fun v h' tk' hP hst hk => ?_)
    obtain ⟨hit', hl'⟩ := hst
    have hns : NoSet h h' := fun b o e hc => hk b o (fun z => by
      have : b = I := by simpa using z
      subst this
      exact iter_cls hit e hc) e
    obtain ⟨k, hk1, hk2⟩ := hv i v hP
    have hS' := hS.keep hns fun o e => hk S o (by simpa using hSI) e
    have hk2' : kd.is h' k v := kd.keeps hk2 hns
    show wpAny _ A.in1 (holding [v] (setAdd S v) >>= _) _ _ _
    refine wpAny_bind (wpAny_holding ?_)
    unfold setAdd
    refine wpAny_holding ?_
    refine wpAny_bind (kd.pyHash (k := k) (show A.units + 1 + 4 < cLine by omega) hk2' ?_)
    refine ad (s := { s with heap := h', toks := tk' + kd.draws k }) (show A.units + 1 + 8 < cLine by omega) hS' hk2' (by omega) fun h2 Z2 b hsb hS2 hin hout => ?_
    have hSo : ∃ o, h'.get? S = some o ∧ o.ExactSet := by obtain ⟨o, _, _, _, h1, h2, _⟩ := hS'.ex; exact ⟨o, h1, h2⟩
    obtain ⟨oS, hoS, hxS⟩ := hSo
    have hns2 : NoSet h' h2 := noSet_but hoS hxS hsb
    have kp2 : ∀ b o, b ≠ S → h'.get? b = some o → h2.get? b = some o := fun b o hb e => by rw [hsb.2 b hb]; exact e
    refine wpAny_pure ⟨plainId_quiet PyProof.Rows.F.plain_set_update_loop _, ih (i + 1) h2 _ Z2 (by omega) hlt (hit'.at fun o e => kp2 I o (Ne.symm hSI) e) (hl'.at fun o e => kp2 l o (Ne.symm hSl) e) hS2 (fun k' => ?_) ?_ (fun j v' hj => ?_) fun h3 tk3 Z3 kp3 hS3 hm3 hz3 => ?_⟩
    · have hkt : ks.take (i + 1) = ks.take i ++ [k] := by rw [List.take_add_one, hk1]; rfl
      rw [hkt, List.mem_append, List.mem_singleton]
      by_cases q : k ∈ Z.map (·.1)
      · rw [hin q, hm k']
        exact ⟨.inl, fun z => z.elim id fun e => by rw [e]; exact (hm k).mp q⟩
      · rw [((hout q).map (·.1)).mem_iff, List.map_cons, List.mem_cons, hm k']
        exact Or.comm
    · by_cases q : k ∈ Z.map (·.1)
      · rw [hin q]; omega
      · rw [(hout q).length_eq, List.length_cons]; omega
    · obtain ⟨k', q1, q2⟩ := hv j v' hj
      exact ⟨k', q1, kd.keeps (kd.keeps q2 hns) hns2⟩
    · exact hR h3 tk3 Z3 (fun b o h1 h2' e => kp3 b o h1 h2' (kp2 b o h1 (hk b o (by simpa using h2') e))) hS3 hm3 hz3
theorem set_new (a : Value) {Q₁ : Value → Shared → Prop}
    (h : Q₁ (.ref s.heap.objs.size) { s with heap := s.heap.push { cls := .type "set", dict := none, data := .set #[] 0 (.fresh 0 0 (!byText w)) } }) :
    codeAny (model prog w) A (.call (.builtin "set.__new__") ⟨[.type "set", a], []⟩) (wants Q₁ E) s := by
  refine codeAny_of_tree ?_
  show wpAny _ A.in1 (do checkBuiltinCall "set.__new__" ⟨[.type "set", a], []⟩; again (.builtin "set.__new__" ⟨[.type "set", a], []⟩)) _ _ s
  refine wpAny_bind (wpAny_of_eq (F.newCall_set_1 a) (wpAny_pure ⟨plainId_quiet F.plain_set_new _, codeAny_builtin F.entry_set_new ?_⟩))
  rw [Around.under_plainId F.plain_set_new _]
  unfold Builtin.«set.__new__» Builtin.Frozenset.newClass
  have hsub := sub_set_self
  obtain ⟨hp, g, d, tk, os⟩ := s
  dsimp only
  wp_walk
  refine wpAny_askSetting (wpAny_pure ?_)
  dsimp only
  simp only [newObj]
  refine wpAny_bind (wpAny_alloc (wpAny_pure ?_))
  exact wpAny_pure h
theorem setK_fresh {h : Heap} {a : Addr} (e : h.get? a = some { cls := .type "set", dict := none, data := .set #[] 0 (.fresh 0 0 (!byText w)) }) : SetK kd h a [] :=
  ⟨⟨_, #[], 0, _, e, ⟨rfl, rfl, rfl⟩, rfl, rfl, tok_fresh _ _ _, rfl, rfl⟩, (fun z hz => by cases hz), .nil⟩
set_option maxHeartbeats 3200000 in
theorem call_set (ad : Adds kd) {l : Addr} {items : Array Value} {ks : List κ} {Q : Value → Shared → Prop} (hh : A.handled = none) (hu : A.units + 24 < cLine) (hl : s.heap.IsList l items) (hn : items.size ≤ 240) (hks : ks.length = items.size)
    (hv : ∀ (j : Nat) v, items[j]? = some v → ∃ k, ks[j]? = some k ∧ kd.is s.heap k v)
    (h : ∀ (h' : Heap) (tk : Nat) (Z : Zs κ), SetK kd h' s.heap.objs.size Z → (∀ k, k ∈ Z.map (·.1) ↔ k ∈ ks) → Z.length ≤ items.size → (∀ b o, b < s.heap.objs.size → s.heap.get? b = some o → h'.get? b = some o) → Q (.ref s.heap.objs.size) { s with heap := h', toks := tk }) :
    wpAny (model prog w) A (call (.type "set") [.ref l]) Q E s := by
  obtain ⟨c, tl, hmro⟩ := F.called_set.mro
  have hmade := F.called_set.made
  have hsub := F.called_set.sub
  refine wpAny_call (codeAny_of_tree ?_)
  show wpAny _ _ (callAny (.type "set") _) _ _ _
  refine wpAny_pure ⟨Code.quiet_builtin _ (by decide +kernel), codeAny_builtin F.entry_type_call ?_⟩
  rw [Around.under_plain (weight_type_call_type "set" [.ref l] []) rfl]
  have h1 := F.called_set.notType
  have h2 := F.called_set.canCreate
  have hct := F.typeCall_set_1 (.ref l)
  repeat (any_goals (first | assumption | wp_step))
  refine codeAny_mono (set_new (w := w) (.ref l) (E := E) (Q₁ := fun obj s₁ => obj = .ref s.heap.objs.size ∧ s₁ = { s with heap := s.heap.push { cls := .type "set", dict := none, data := .set #[] 0 (.fresh 0 0 (!byText w)) } }) ⟨rfl, rfl⟩) fun r s₁ hr => ?_
  cases r with
  | error e => exact hr
  | ok fl =>
    cases fl with
    | ret obj =>
      obtain ⟨rfl, rfl⟩ := hr
      have hS : (s.heap.push { cls := .type "set", dict := none, data := .set #[] 0 (.fresh 0 0 (!byText w)) }).get? s.heap.objs.size = some { cls := .type "set", dict := none, data := .set #[] 0 (.fresh 0 0 (!byText w)) } := Heap.get?_push_size _ rfl
      have hT : Shared.TypeIs { s with heap := s.heap.push { cls := .type "set", dict := none, data := .set #[] 0 (.fresh 0 0 (!byText w)) } } (.ref s.heap.objs.size) "set" := ⟨_, hS, rfl⟩
      have hli := F.called_set.init.lookup
      have hbi := F.called_set.init.bind (.ref s.heap.objs.size)
      repeat (any_goals (first | assumption | wp_step))
      refine codeAny_mono (codeAny_call_builtin (R := wants (fun r s₂ => r = .none ∧ ∃ h' tk Z, s₂ = { s with heap := h', toks := tk } ∧ SetK kd h' s.heap.objs.size Z ∧ (∀ k, k ∈ Z.map (·.1) ↔ k ∈ ks) ∧ Z.length ≤ items.size ∧
          (∀ b o, b < s.heap.objs.size → s.heap.get? b = some o → h'.get? b = some o)) E) F.called_set.init.plain F.entry_set_init (check_set_init_1 hT ?_)) fun r₂ s₂ hr₂ => ?_
      · obtain ⟨ol, hol, hcl, nl, hdl⟩ := hl
        obtain ⟨ocls, odict, odata, oslots⟩ := ol
        simp only at hcl hdl
        subst hcl; subst hdl
        have hol' : (s.heap.push { cls := .type "set", dict := none, data := .set #[] 0 (.fresh 0 0 (!byText w)) }).get? l = some { cls := .type "list", dict := odict, data := .seq items nl, slots := oslots } := Heap.get?_push_of_some _ hol
        have hsls := F.sub_list_set
        have hslf := F.sub_list_frozenset
        have hne : (Value.type "list" == Value.type "dict") = false := by decide
        have hl1 : (s.heap.push { cls := .type "set", dict := none, data := .set #[] 0 (.fresh 0 0 (!byText w)) }).IsList l items := ⟨_, hol', rfl, nl, rfl⟩
        unfold Builtin.«set.__init__» noKeywords Builtin.Frozenset.updateFrom
        generalize hPI : pyIter = PI
        wp_walk
        subst hPI
        refine wpAny_pyIter_list hl1 ?_
        refine wpAny_bind (wpAny_runValue ?_)
        have hlS : l < s.heap.objs.size := Heap.lt_size hol
        have hneI : l ≠ (s.heap.push { cls := .type "set", dict := none, data := .set #[] 0 (.fresh 0 0 (!byText w)) }).objs.size := by
          rw [Heap.size_push]; exact Nat.ne_of_lt (Nat.lt_succ_of_lt hlS)
        have hSI : s.heap.objs.size ≠ (s.heap.push { cls := .type "set", dict := none, data := .set #[] 0 (.fresh 0 0 (!byText w)) }).objs.size := by
          rw [Heap.size_push]; exact Nat.ne_of_lt (Nat.lt_succ_self _)
        have hget : ((s.heap.push { cls := .type "set", dict := none, data := .set #[] 0 (.fresh 0 0 (!byText w)) }).push { cls := .type "list_iterator", data := .fields #[.ref l, .int 0 0] }).get? s.heap.objs.size
            = some { cls := .type "set", dict := none, data := .set #[] 0 (.fresh 0 0 (!byText w)) } := Heap.get?_push_of_some _ hS
        have kp : ∀ b o, s.heap.get? b = some o → ((s.heap.push { cls := .type "set", dict := none, data := .set #[] 0 (.fresh 0 0 (!byText w)) }).push { cls := .type "list_iterator", data := .fields #[.ref l, .int 0 0] }).get? b = some o := fun b o e => Heap.get?_push_of_some _ (Heap.get?_push_of_some _ e)
        refine set_loop (s := s) ad (by simp [hh]) (show A.units + 1 + 1 + 16 < cLine by omega) hneI hSI (Nat.ne_of_gt hlS) hn hks (items.size - 0) 0 _ s.toks [] (by omega) (Nat.zero_le _) ⟨_, Heap.get?_push_size _ rfl, rfl, rfl⟩ (hl1.push _) (setK_fresh hget) (fun k => by simp) (Nat.zero_le _) (fun j v hj => ?_) fun h' tk' Z' kp' hS' hm' hz' => ?_
        · obtain ⟨k, q1, q2⟩ := hv j v hj
          exact ⟨k, q1, kd.keeps q2 fun b o e _ => kp b o e⟩
        · show wpAny _ _ _ _ _ _
          refine wpAny_pure ?_
          show wpAny _ _ (ret Value.none) _ _ _
          refine wpAny_pure ⟨rfl, h', tk', Z', rfl, hS', hm', hz', fun b o hb e => ?_⟩
          have hb1 : b ≠ s.heap.objs.size := Nat.ne_of_lt hb
          have hb2 : b ≠ (s.heap.push { cls := .type "set", dict := none, data := .set #[] 0 (.fresh 0 0 (!byText w)) }).objs.size := by
            rw [Heap.size_push]; exact Nat.ne_of_lt (Nat.lt_succ_of_lt hb)
          exact kp' b o hb1 hb2 (kp b o e)
      · cases r₂ with
        | error e => exact hr₂
        | ok fl₂ =>
          cases fl₂ with
          | ret r =>
            obtain ⟨rfl, h', tk, Z', rfl, hS', hm', hz', hk'⟩ := hr₂
            repeat (any_goals (first | assumption | wp_step))
            exact h _ _ Z' hS' hm' hz' hk'
          | _ => exact hr₂.elim
    | _ => exact hr.elim
end
end Tb
namespace Tb
open PySem PySem.SetTable PySem.Calls PyProof.Rows PyProof.V PySem.Spec
theorem slot_set_iter : Slot "set" "__iter__" "set.__iter__" :=
  .of (owner := "set") (n := "__iter__") (by rw [typeLookup_type, builtinLookup_eq_fast]; kernel_rfl) (by decide +kernel) (by decide +kernel) (by decide +kernel)
    (by first | exact .inl (by decide +kernel) | exact .inr (by decide +kernel)) (by rw [isSubtype_type]; kernel_rfl)
theorem entry_set_iter : entryFor table "set.__iter__" = some Builtin.«frozenset.__iter__» := entryFor_alias (id' := "frozenset.__iter__") (by kernel_rfl) rfl (by decide +kernel) (by kernel_rfl)
theorem owner_set : Manifest.owners.lookup (String.ofList ['t', 'e', 's'].reverse) = some Manifest.sig_set := by kernel_rfl
theorem args_set_iter (a : Value) : argsOk "set.__iter__" ⟨[a], []⟩ := by
  unfold argsOk; rw [signature?_of (id := "set.__iter__") (n := ['_', '_', 'r', 'e', 't', 'i', '_', '_']) (o := ['t', 'e', 's']) (by kernel_rfl) owner_set]; kernel_rfl
theorem slot_setiter_next : Slot "set_iterator" "__next__" "set_iterator.__next__" :=
  .of (owner := "set_iterator") (n := "__next__") (by rw [typeLookup_type, builtinLookup_eq_fast]; kernel_rfl) (by decide +kernel) (by decide +kernel) (by decide +kernel)
    (by first | exact .inl (by decide +kernel) | exact .inr (by decide +kernel)) (by rw [isSubtype_type]; kernel_rfl)
theorem entry_setiter_next : entryFor table "set_iterator.__next__" = some Builtin.«set_iterator.__next__» := entryFor_of_tree (by kernel_rfl)
theorem owner_setiter : Manifest.owners.lookup (String.ofList ['r', 'o', 't', 'a', 'r', 'e', 't', 'i', '_', 't', 'e', 's'].reverse) = some Manifest.sig_set_iterator := by kernel_rfl
theorem args_setiter_next (a : Value) : argsOk "set_iterator.__next__" ⟨[a], []⟩ := by
  unfold argsOk; rw [signature?_of (id := "set_iterator.__next__") (n := ['_', '_', 't', 'x', 'e', 'n', '_', '_']) (o := ['r', 'o', 't', 'a', 'r', 'e', 't', 'i', '_', 't', 'e', 's']) (by kernel_rfl) owner_setiter]; kernel_rfl
theorem len_set : typeLookup (.type "set") "__len__" = pure (some (.builtin "set.__len__")) := by rw [typeLookup_type, builtinLookup_eq_fast]; kernel_rfl
theorem slot_setiter_iter : Slot "set_iterator" "__iter__" "set_iterator.__iter__" :=
  .of (owner := "set_iterator") (n := "__iter__") (by rw [typeLookup_type, builtinLookup_eq_fast]; kernel_rfl) (by decide +kernel) (by decide +kernel) (by decide +kernel)
    (by first | exact .inl (by decide +kernel) | exact .inr (by decide +kernel)) (by rw [isSubtype_type]; kernel_rfl)
theorem entry_setiter_iter : entryFor table "set_iterator.__iter__" = some Builtin.«dict_keyiterator.__iter__» := entryFor_alias (id' := "dict_keyiterator.__iter__") (by kernel_rfl) rfl (by decide +kernel) (by kernel_rfl)
theorem args_setiter_iter (a : Value) : argsOk "set_iterator.__iter__" ⟨[a], []⟩ := by
  unfold argsOk; rw [signature?_of (id := "set_iterator.__iter__") (n := ['_', '_', 'r', 'e', 't', 'i', '_', '_']) (o := ['r', 'o', 't', 'a', 'r', 'e', 't', 'i', '_', 't', 'e', 's']) (by kernel_rfl) owner_setiter]; kernel_rfl
theorem pick_go {α : Type} (next : Nat → Nat) : ∀ (fuel k : Nat) (left : List α) (out : Array α), left.length = fuel → (pickOrder.go next fuel k left out).toList.Perm (out.toList ++ left)
  | 0, k, left, out, h => by
    have : left = [] := List.eq_nil_of_length_eq_zero h
    subst this
    unfold pickOrder.go; simp
  | fuel + 1, k, left, out, h => by
    unfold pickOrder.go
    have hl : next k % left.length < left.length := Nat.mod_lt _ (by omega)
    rw [List.getElem?_eq_getElem hl]
    dsimp only
    refine (pick_go next fuel (k + 1) _ _ (by rw [List.length_eraseIdx, if_pos hl]; omega)).trans ?_
    rw [Array.toList_push, List.append_assoc]
    refine List.Perm.append_left _ ?_
    have : ∀ (l : List α) (d : Nat) (hd : d < l.length), (l[d] :: l.eraseIdx d).Perm l := by
      intro l
      induction l with
      | nil => intro d hd; simp at hd
      | cons x r ih =>
        intro d hd
        cases d with
        | zero => exact .refl _
        | succ d =>
          have hd' : d < r.length := by simpa using hd
          show (r[d] :: x :: r.eraseIdx d).Perm (x :: r)
          exact (List.Perm.swap _ _ _).trans ((ih d hd').cons x)
    exact this left _ hl
theorem pick_perm {α : Type} (next : Nat → Nat) (xs : Array α) : (pickOrder next xs).toList.Perm xs.toList := by
  unfold pickOrder
  simpa using pick_go next xs.size 0 xs.toList #[] (by simp)
def walkOf (w : World) (a : Addr) (ep : Nat) (es : Array (Int × Value)) : Array (Int × Value) := if byText w = true then pickOrder (w.params.setOrder a ep) es else es
theorem walk_perm (w : World) (a : Addr) (ep : Nat) (es : Array (Int × Value)) : (walkOf w a ep es).toList.Perm es.toList := by
  unfold walkOf; split
  · exact pick_perm _ _
  · exact .refl _
theorem walk_size (w : World) (a : Addr) (ep : Nat) (es : Array (Int × Value)) : (walkOf w a ep es).size = es.size := by
  have := (walk_perm w a ep es).length_eq; simpa using this
def slotI (w : World) (t : SetTable) (i : Nat) : Nat := if byText w = true then 0 else if i = 0 then 0 else t.place.getD (i - 1) 0 + 1
theorem below_slot {t : SetTable} {es : Ents} (h : TOk t es) {w : World} (hb : byText w = false) {i : Nat} (hi : i ≤ t.place.size) : below t.place (slotI w t i) = i := by
  unfold slotI
  rw [if_neg (by rw [hb]; simp)]
  obtain ⟨h1, h2, h3⟩ := below_spec (j := if i = 0 then 0 else t.place.getD (i - 1) 0 + 1) h.ri
  have mono : ∀ a b (ha : a < t.place.size) (hb : b < t.place.size), a < b → t.place[a] < t.place[b] := fun a b ha hb q => by
    have := List.pairwise_iff_getElem.mp h.ri a b (by simpa using ha) (by simpa using hb) q
    simpa using this
  generalize hB : below t.place (if i = 0 then 0 else t.place.getD (i - 1) 0 + 1) = B at *
  by_cases h0 : i = 0
  · rw [if_pos h0] at h2 h3
    rcases Nat.lt_or_ge 0 B with q | q
    · have := h2 0 (by omega) q; omega
    · omega
  · rw [if_neg h0] at h2 h3
    have hg : t.place.getD (i - 1) 0 = t.place[i - 1]'(by omega) := by simp [Array.getD, show i - 1 < t.place.size by omega]
    rw [hg] at h2 h3
    rcases Nat.lt_trichotomy B i with q | q | q
    · have := h3 (i - 1) (by omega) (by omega); omega
    · exact q
    · have hi' : i < t.place.size := by omega
      have a := h2 i hi' q
      have b := mono (i - 1) i (by omega) hi' (by omega)
      omega
def SetIt (h : Heap) (I S : Addr) (slot i n ep : Nat) : Prop := ∃ o, h.get? I = some o ∧ o.cls = .type "set_iterator" ∧ o.data = .fields #[.int slot 0, .int i 0, .ref S, .int n 0, .int ep 0]
theorem SetIt.at {h h' : Heap} {I S : Addr} {slot i n ep : Nat} (x : SetIt h I S slot i n ep) (e : ∀ o, h.get? I = some o → h'.get? I = some o) : SetIt h' I S slot i n ep := let ⟨o, ho, r⟩ := x; ⟨o, e _ ho, r⟩
theorem SetIt.typeIs {s : Shared} {I S : Addr} {slot i n ep : Nat} (x : SetIt s.heap I S slot i n ep) : s.TypeIs (.ref I) "set_iterator" := let ⟨o, ho, hc, _⟩ := x; ⟨o, ho, hc⟩
section
variable {prog : Program} {w : World} {A : Around} {E : Value → Shared → Prop} {s : Shared} {S I : Addr} {o : Obj} {es : Array (Int × Value)} {ep : Nat} {t : SetTable}
theorem by_text {Q : Bool → Shared → Prop} (h : Q (byText w) s) : wpAny (model prog w) A setsByText Q E s := by
  unfold setsByText
  exact wpAny_bind (wpAny_askSetting (wpAny_pure h))
theorem set_iter {Q : Value → Shared → Prop} (ho : s.heap.get? S = some o) (hx : o.ExactSet) (hd : o.data = .set es ep t) (hT : TOk t es.toList) (hpl : t.plain = true) (hled : t.led = !byText w)
    (hQ : Q (.ref s.heap.objs.size) { s with heap := s.heap.push { cls := .type "set_iterator", data := .fields #[.int 0 0, .int 0 0, .ref S, .int es.size 0, .int ep 0] } }) : wpAny (model prog w) A (pyIter (.ref S)) Q E s := by
  have hTy : s.TypeIs (.ref S) "set" := ⟨o, ho, hx.1⟩
  have hf := hT.fits
  refine wpAny_pyIter_slot hTy slot_set_iter (wpAny_call_entry slot_set_iter hTy entry_set_iter ?_ (args_set_iter _))
  unfold Builtin.«frozenset.__iter__» Builtin.Frozenset.slot0 slotArgs
  simp only [List.isEmpty_nil, Bool.not_true, Bool.false_eq_true, ↓reduceIte, bind_assoc, List.length_nil, bne_self_eq_false]
  unfold Builtin.Frozenset.addrOf Builtin.Frozenset.sizeOf
  refine wpAny_bind (wpAny_pure ?_)
  try dsimp only
  refine wpAny_bind (wpAny_pure ?_)
  refine wpAny_bind (wpAny_bind (wpAny_setEntries_of ho hd hf (wpAny_pure ?_)))
  refine wpAny_bind ?_
  unfold setDrawn
  refine wpAny_bind (wpAny_setState_of ho hd hf ?_)
  refine wpAny_bind (by_text ?_)
  refine wpAny_pure ?_
  have e : (!byText w && (!t.plain && decide (es.size > 1))) = false := by rw [hpl]; simp
  show wpAny _ _ (if (!byText w && (!t.plain && decide (es.size > 1))) = true then _ else _) _ _ _
  rw [if_neg (by rw [e]; simp)]
  refine wpAny_bind (wpAny_pure ?_)
  refine wpAny_bind (wpAny_setEpoch_of ho hd hf ?_)
  refine wpAny_bind (wpAny_newObj_type (wpAny_pure ⟨_, rfl, "set_iterator", _, ⟨_, Heap.get?_push_size _ rfl, rfl⟩, slot_setiter_next.lookup, ?_⟩))
  simpa [rawInt] using hQ
theorem set_next {i : Nat} {Q : Option (Value × Nat) → Shared → Prop} (ho : s.heap.get? S = some o) (hd : o.data = .set es ep t) (hT : TOk t es.toList) (hpl : t.plain = true) (hled : t.led = !byText w) (hi : i ≤ es.size)
    (h : Q (((walkOf w S ep es)[i]?).map fun e => (e.2, slotI w t (i + 1))) s) : wpAny (model prog w) A (setNext S (slotI w t i) i ep) Q E s := by
  have hf := hT.fits
  have hps : t.place.size = es.size := by have := hT.len; simpa using this
  unfold setNext
  refine wpAny_bind (wpAny_setState_of ho hd hf ?_)
  dsimp only
  refine wpAny_bind (by_text ?_)
  cases hb : byText w with
  | true =>
    have e0 : ∀ j, slotI w t j = 0 := fun j => by unfold slotI; rw [if_pos hb]
    have ew : walkOf w S ep es = pickOrder (w.params.setOrder S ep) es := by unfold walkOf; rw [if_pos hb]
    rw [e0, ew] at h
    simp only [if_true, bne_self_eq_false, Bool.false_eq_true, if_false]
    refine wpAny_bind ?_
    unfold setWalk
    refine wpAny_bind (wpAny_setState_of ho hd hf ?_)
    dsimp only
    refine wpAny_bind (by_text ?_)
    rw [hb]
    simp only [if_true]
    refine wpAny_bind (wpAny_askSetting (wpAny_pure ?_))
    rw [e0]
    exact wpAny_pure h
  | false =>
    have ew : walkOf w S ep es = es := by unfold walkOf; rw [if_neg (by rw [hb]; simp)]
    rw [ew] at h
    simp only [Bool.false_eq_true, if_false]
    have e : (!t.plain && decide (es.size > 1)) = false := by rw [hpl]; simp
    show wpAny _ _ (if (!t.plain && decide (es.size > 1)) = true then _ else _) _ _ _
    rw [if_neg (by rw [e]; simp)]
    have hl : t.led = true := by rw [hled, hb]; rfl
    refine wpAny_bind ?_
    show wpAny _ _ (if (!t.led && !es.isEmpty) = true then _ else _) _ _ _
    rw [if_neg (by rw [hl]; simp)]
    refine wpAny_pure ?_
    rw [below_slot hT hb (by omega)]
    refine wpAny_pure ?_
    by_cases hlt : i < es.size
    · rw [Array.getElem?_eq_getElem hlt, Array.getElem?_eq_getElem (show i < t.place.size by omega)]
      rw [Array.getElem?_eq_getElem hlt] at h
      have e2 : slotI w t (i + 1) = t.place[i]'(by omega) + 1 := by
        unfold slotI
        rw [if_neg (by rw [hb]; simp), if_neg (by omega)]
        simp [Array.getD, show i < t.place.size by omega]
      rw [Option.map_some, e2] at h
      exact h
    · rw [Array.getElem?_eq_none (by omega)]
      rw [Array.getElem?_eq_none (by omega)] at h
      exact h
end
end Tb
namespace Tb
open PySem PySem.SetTable PySem.Calls PyProof.Rows PyProof.V PySem.Spec
section
variable {prog : Program} {w : World} {A : Around} {E : Value → Shared → Prop} {s : Shared} {S I : Addr} {o : Obj} {es : Array (Int × Value)} {ep : Nat} {t : SetTable}
theorem next_item {i : Nat} {e : Int × Value} {Q : Option Value → Shared → Prop} (hit : SetIt s.heap I S (slotI w t i) i es.size ep) (hne : S ≠ I) (ho : s.heap.get? S = some o) (hd : o.data = .set es ep t) (hT : TOk t es.toList) (hpl : t.plain = true) (hled : t.led = !byText w) (hx : (walkOf w S ep es)[i]? = some e)
    (hQ : ∀ h', SetIt h' I S (slotI w t (i + 1)) (i + 1) es.size ep → Heap.SameBut I s.heap h' → Q (some e.2) { s with heap := h' }) : wpAny (model prog w) A (pyNext (.ref I)) Q E s := by
  have hTy := hit.typeIs
  obtain ⟨oI, hoI, hcI, hdI⟩ := hit
  have hi : i < es.size := by have := (Array.getElem?_eq_some_iff.mp hx).1; rwa [walk_size] at this
  unfold pyNext
  refine wpAny_bind (wpAny_attempt (wpAny_callSpecial?_slot (name := Str.ofString "__next__") hTy slot_setiter_next
    (wpAny_call_entry slot_setiter_next hTy entry_setiter_next ?_ (args_setiter_next _))))
  unfold Builtin.«set_iterator.__next__»
  refine wpAny_bind (wpAny_pure ?_)
  refine wpAny_bind (wpAny_fieldsOf hoI hdI ?_)
  dsimp only
  refine wpAny_bind (wpAny_setEntries_of ho hd hT.fits ?_)
  show wpAny _ _ (if (((es.size : Nat) : Int) != ((es.size : Nat) : Int)) = true then _ else _) _ _ _
  rw [if_neg (by simp)]
  simp only [Int.toNat_natCast]
  refine wpAny_bind (set_next ho hd hT hpl hled (Nat.le_of_lt hi) ?_)
  rw [hx]
  dsimp only [Option.map_some]
  refine wpAny_bind (wpAny_setField hoI hdI (by simp) ?_)
  have h1 : (s.heap.update I (Obj.mapFields (·.setIfInBounds 0 (rawInt (slotI w t (i + 1)))))).get? I = some (Obj.mapFields (·.setIfInBounds 0 (rawInt (slotI w t (i + 1)))) oI) := Heap.get?_update_self _ hoI (Obj.isFreed_of_fields (Obj.data_mapFields hdI _))
  have d1 := Obj.data_mapFields hdI (f := (·.setIfInBounds 0 (rawInt (slotI w t (i + 1)))))
  refine wpAny_bind (wpAny_setField h1 d1 (by simp) ?_)
  refine wpAny_pure ⟨_, rfl, wpAny_pure (hQ _ ?_ ((Heap.SameBut.update ..).trans (Heap.SameBut.update ..)))⟩
  refine ⟨_, Heap.get?_update_self _ h1 (Obj.isFreed_of_fields (Obj.data_mapFields d1 _)), ((Obj.cls_mapFields ..).trans (Obj.cls_mapFields ..)).trans hcI, ?_⟩
  rw [Obj.data_mapFields d1]
  simp [rawInt]
theorem next_end {i : Nat} {Q : Option Value → Shared → Prop} (hh : A.handled = none) (hit : SetIt s.heap I S (slotI w t i) i es.size ep) (hne : S ≠ I) (ho : s.heap.get? S = some o) (hd : o.data = .set es ep t) (hT : TOk t es.toList) (hpl : t.plain = true) (hled : t.led = !byText w) (hi : i = es.size)
    (hQ : ∀ h', Heap.ExtBut I s.heap h' → Q none { s with heap := h' }) : wpAny (model prog w) A (pyNext (.ref I)) Q E s := by
  have hTy := hit.typeIs
  obtain ⟨oI, hoI, hcI, hdI⟩ := hit
  unfold pyNext
  refine wpAny_bind (wpAny_attempt (wpAny_callSpecial?_slot (name := Str.ofString "__next__") hTy slot_setiter_next
    (wpAny_call_entry slot_setiter_next hTy entry_setiter_next ?_ (args_setiter_next _))))
  unfold Builtin.«set_iterator.__next__»
  refine wpAny_bind (wpAny_pure ?_)
  refine wpAny_bind (wpAny_fieldsOf hoI hdI ?_)
  dsimp only
  refine wpAny_bind (wpAny_setEntries_of ho hd hT.fits ?_)
  show wpAny _ _ (if (((es.size : Nat) : Int) != ((es.size : Nat) : Int)) = true then _ else _) _ _ _
  rw [if_neg (by simp)]
  simp only [Int.toNat_natCast]
  refine wpAny_bind (set_next ho hd hT hpl hled (Nat.le_of_eq hi) ?_)
  rw [show (walkOf w S ep es)[i]? = none from Array.getElem?_eq_none (by rw [walk_size]; omega)]
  dsimp only [Option.map_none]
  refine wpAny_bind (wpAny_setField hoI hdI (by simp) ?_)
  show wpAny _ _ (newExc (.type "StopIteration") [] >>= _) _ _ _
  refine wpAny_bind ?_
  simp only [newExc, newTuple]
  refine wpAny_bind (wpAny_newObj_type ?_ (by size_fits))
  refine wpAny_bind (m := firstArgMember _ _) (wpAny_of_eq (a := Value.none) (by first | rfl | (simp only [firstArgMember]; rfl)) ?_)
  refine wpAny_newObj_type ?_ (by size_fits)
  simp only [raiseNew]
  refine wpAny_bind (wpAny_handled ?_)
  rw [show A.in1.handled = none from hh]
  refine wpAny_bind (wpAny_pure (wpAny_throw ?_))
  refine wpAny_bind (wpAny_isInstance (T := "StopIteration") (b := true) ⟨_, Heap.get?_push_size _ rfl, rfl⟩ isSubtype_stop ?_)
  exact wpAny_pure (hQ _ (((Heap.SameBut.update ..).extBut.push _).push _))
def SetAt (w : World) (S : Addr) (es : Array (Int × Value)) (ep : Nat) (t : SetTable) (h : Heap) : Prop := ∃ o, h.get? S = some o ∧ o.ExactSet ∧ o.data = .set es ep t
theorem walks_set (hh : A.handled = none) (I S : Addr) (hne : S ≠ I) (hT : TOk t es.toList) (hpl : t.plain = true) (hled : t.led = !byText w) :
    Walks prog w A I [I, S] [I] es.size (fun i v => ∃ e, (walkOf w S ep es)[i]? = some e ∧ v = e.2) (fun i h => SetIt h I S (slotI w t i) i es.size ep ∧ SetAt w S es ep t h) where
  sub := fun b hb => by simp at hb; simp [hb]
  frame := fun _ _ _ st hk => ⟨st.1.at fun o e => hk I (by simp) o e, let ⟨o, h1, h2, h3⟩ := st.2; ⟨o, hk S (by simp) o h1, h2, h3⟩⟩
  item := fun i s Q E hi st hQ => by
    obtain ⟨o, h1, h2, h3⟩ := st.2
    have hx : (walkOf w S ep es)[i]? = some ((walkOf w S ep es)[i]'(by rw [walk_size]; exact hi)) := Array.getElem?_eq_getElem _
    refine next_item st.1 hne h1 h3 hT hpl hled hx fun h' hit' hs' => ?_
    exact hQ _ h' s.toks ⟨_, hx, rfl⟩ ⟨hit', o, (hs'.2 S hne).trans h1, h2, h3⟩ fun b ob hb e => (hs'.2 b (fun h => hb (by simp [h]))).trans e
  done := fun s Q E st hQ => by
    obtain ⟨o, h1, h2, h3⟩ := st.2
    exact next_end hh st.1 hne h1 h3 hT hpl hled rfl fun h' he' => hQ h' s.toks fun b o hb e => he' b o (fun h => hb (by simp [h])) e
  self := fun _ _ _ _ st hQ => by
    refine wpAny_pyIter_slot st.1.typeIs slot_setiter_iter (wpAny_call_entry slot_setiter_iter st.1.typeIs entry_setiter_iter ?_ (args_setiter_iter _))
    show wpAny _ _ (ret (.ref I)) _ _ _
    exact wpAny_pure ⟨_, rfl, "set_iterator", _, st.1.typeIs, slot_setiter_next.lookup, hQ⟩
theorem hint_set {Q : Bool → Shared → Prop} (hT : s.TypeIs (.ref S) "set") (h : Q false s) : wpAny (model prog w) A (Builtin.List.listLengthHint (.ref S)) Q E s := by
  unfold Builtin.List.listLengthHint
  refine wpAny_bind (wpAny_specialOf hT len_set ?_)
  generalize hid : ("set.__len__" : String) = id0
  wp_delta
  rw [show splitId id0 = some ("set", "__len__") from by subst hid; decide +kernel]
  subst hid
  refine wpAny_bind (wpAny_isInstance (T := "set") (b := true) hT (by rw [isSubtype_type]; kernel_rfl) ?_)
  refine wpAny_ite_split (fun hab => absurd hab (by decide)) (fun _ => ?_)
  refine wpAny_ite_split (fun _ => ?_) (fun hab => absurd (by decide +kernel) hab)
  refine wpAny_bind (wpAny_typeOf hT ?_)
  exact wpAny_pure h
theorem src_set {S : Addr} {es : Array (Int × Value)} {ep : Nat} {t : SetTable} (hT : TOk t es.toList) (hpl : t.plain = true) (hled : t.led = !byText w) : PySem.W.KdlSrc prog w "set" S S es.size (fun i v => ∃ e, (walkOf w S ep es)[i]? = some e ∧ v = e.2) (SetAt w S es ep t) where
  type := fun _ ⟨o, h1, h2, _⟩ => ⟨o, h1, h2.1⟩
  there := fun _ ⟨o, h1, _⟩ => ⟨Heap.lt_size h1, Heap.lt_size h1⟩
  keep := fun _ _ ⟨o, h1, h2, h3⟩ hk => ⟨o, hk S (.inl rfl) o h1, h2, h3⟩
  notList := by decide
  notTuple := by decide
  hint := fun _ _ _ _ ⟨o, h1, h2, _⟩ hq => hint_set ⟨o, h1, h2.1⟩ hq
  iter := fun _ s hh ⟨o, h1, h2, h3⟩ => ⟨_, _, (fun _ _ hq => set_iter h1 h2 h3 hT hpl hled hq), walks_set hh _ S (Nat.ne_of_lt (Heap.lt_size h1)) hT hpl hled, ⟨⟨_, Heap.get?_push_size _ rfl, rfl, by simp [slotI]⟩, o, Heap.get?_push_of_some _ h1, h2, h3⟩⟩
end
end Tb
namespace L3
open PySem PySem.Spec PyProof.Rows L2
open Srt (kLt)
open Tb (TOk byText intE tupE SetK Adds)
def SetO (a : Addr) (es : Array (Int × Value)) (ep : Nat) (t : SetTable) : HO := .ext fun h => ∃ o, h.get? a = some o ∧ o.ExactSet ∧ o.data = .set es ep t
theorem setO_ok {P : Program} {w : World} {H : Hp} {h : Heap} {a : Addr} {es : Array (Int × Value)} {ep : Nat} {t : SetTable} {o : Obj} (h1 : h.get? a = some o) (h2 : o.ExactSet) (h3 : o.data = .set es ep t) : ObjOk P w H h a (SetO a es ep t) :=
  ⟨⟨o, h1, h2, h3⟩, ⟨o, h1⟩, fun _ _ ⟨o', q1, q2, q3⟩ k => ⟨o', k _ q1, q2, q3⟩⟩
structure SetIs (w : World) (es : Array (Int × Value)) (t : SetTable) : Prop where
  ok : TOk t es.toList
  pl : t.plain = true
  led : t.led = !byText w
def rSetI (w : World) (K : PySem.W.Frag) : List V → Hp → VK → Prop := fun vs H Q => ∃ (a : Addr) (ns : List Int), vs = [V.ref a] ∧ SqL K H a (ns.map V.int) ∧ ns.length ≤ 240 ∧
  ∀ l es ep t (ms : List Int), H l = none → SetIs w es t → IntsAre (es.toList.map (·.2)) ms → ms.Nodup → (∀ k, k ∈ ms ↔ k ∈ ns) → ms.length ≤ ns.length → Q (.ref l) (upd H l (SetO l es ep t))
section
variable {X : Cx}
theorem ints_get : ∀ {vs : List Value} {ns : List Int}, IntsAre vs ns → ∀ (j : Nat) v, vs[j]? = some v → ∃ k, ns[j]? = some k ∧ (intKind X.prog X.w).is k v = true
  | [], _, h, j, v, e => by simp at e
  | _ :: _, _, h, j, v, e => by
    cases h with
    | cons _ _ t =>
      cases j with
      | zero => simp at e; subst e; exact ⟨_, rfl, intKind_is _ _ _ _⟩
      | succ j => obtain ⟨k, h1, h2⟩ := ints_get t j v (by simpa using e); exact ⟨k, by simpa using h1, h2⟩
theorem ints_of_is {prog : Program} {w : World} : ∀ {Z : Tb.Zs Int}, (∀ z ∈ Z, (intKind prog w).is z.1 z.2.2 = true) → IntsAre ((Z.map (·.2)).map (·.2)) (Z.map (·.1))
  | [], _ => .nil
  | z :: Z, h => by
    obtain ⟨t, e⟩ := Tb.int_val (h z List.mem_cons_self)
    show IntsAre (z.2.2 :: _) (z.1 :: _)
    rw [e]
    exact .cons _ _ (ints_of_is fun z hz => h z (List.mem_cons_of_mem _ hz))
theorem cr_setI {kk : Nat} (hr : Room (kk + 2) X.A) : CallR X (.type "set") (rSetI X.w X.K) := by
  intro pins s σ H vs us Q I r h
  obtain ⟨a, ns, rfl, ha, hn, q⟩ := h
  rw [Vals.ref1 r]
  obtain ⟨its, rv, pl, _⟩ := I.list ha
  have hints : IntsAre its ns := rv.ints
  have hlen : its.length = ns.length := hints.length
  have hu : X.A.units + 24 < cLine := by have := hr.un; omega
  refine Tb.call_set (kd := intE X.prog X.w) Tb.int_adds (items := its.toArray) (ks := ns) hr.hd hu pl.isList (by rw [List.size_toArray]; omega) (by rw [List.size_toArray]; omega) (fun j v hj => ?_) fun h' tk Z hS hm hz kp => ?_
  · exact ints_get hints j v (by simpa using hj)
  · obtain ⟨o, es, ep, t, h1, h2, h3, h4, h5, h6, h7⟩ := hS.ex
    have hI : IntsAre (es.toList.map (·.2)) (Z.map (·.1)) := by rw [h4]; exact ints_of_is fun z hz => (hS.el z hz).2
    refine ⟨.ref s.heap.objs.size, upd H s.heap.objs.size (SetO s.heap.objs.size es ep t), I.laid (t' := tk) (fun b u e => kp b u (Heap.lt_size e) e) (Nat.le_refl _) (setO_ok h1 h2 h3), rfl, q _ es ep t _ (I.hok.fresh (Nat.le_refl _)) ⟨h5, h6, h7⟩ hI hS.nd hm ?_⟩
    rw [List.length_map]
    rw [List.size_toArray] at hz
    omega
def rSortSI (w : World) : List V → Hp → VK → Prop := fun vs H Q => ∃ (a : Addr) (es : Array (Int × Value)) (ep : Nat) (t : SetTable) (ms : List Int), vs = [V.ref a] ∧ H a = some (SetO a es ep t) ∧ SetIs w es t ∧ IntsAre (es.toList.map (·.2)) ms ∧ ms.length ≤ 240 ∧
  ∀ (ms' : List Int) l, ms'.Perm ms → ms'.Pairwise (· ≤ ·) → H l = none → Q (.ref l) (upd H l (.lst (ms'.map V.int)))
theorem ints_perm {vs us : List Value} (p : vs.Perm us) : ∀ {ns : List Int}, IntsAre us ns → ∃ ms : List Int, ms.Perm ns ∧ IntsAre vs ms := by
  have key : ∀ {us vs : List Value}, us.Perm vs → ∀ {ns : List Int}, IntsAre us ns → ∃ ms : List Int, ms.Perm ns ∧ IntsAre vs ms := by
    intro us vs p
    induction p with
    | nil => intro ns h; exact ⟨ns, .refl _, h⟩
    | cons x _ ih =>
      intro ns h
      cases h with
      | cons i t h' =>
        obtain ⟨ms, q1, q2⟩ := ih h'
        exact ⟨_ :: ms, q1.cons _, .cons _ _ q2⟩
    | swap x y l =>
      intro ns h
      cases h with
      | cons i t h' =>
        cases h' with
        | cons i2 t2 h2 => exact ⟨_ :: _ :: _, .swap _ _ _, .cons _ _ (.cons _ _ h2)⟩
    | trans _ _ ih1 ih2 =>
      intro ns h
      obtain ⟨ms, q1, q2⟩ := ih1 h
      obtain ⟨ms2, q3, q4⟩ := ih2 q2
      exact ⟨ms2, q3.trans q1, q4⟩
  intro ns h
  exact key p.symm h
theorem items_walk {w : World} {a : Addr} {ep : Nat} {es : Array (Int × Value)} {acc : Array Value} (hit : ItemsOf (fun i v => ∃ e, (Tb.walkOf w a ep es)[i]? = some e ∧ v = e.2) acc es.size) : acc.toList.Perm (es.toList.map (·.2)) := by
  have e : acc.toList = (Tb.walkOf w a ep es).toList.map (·.2) := by
    apply List.ext_getElem?
    intro i
    rw [Array.getElem?_toList, List.getElem?_map, Array.getElem?_toList]
    by_cases hi : i < es.size
    · have hia : i < acc.size := by rw [hit.1]; exact hi
      obtain ⟨e, e1, e2⟩ := hit.2 i acc[i] (Array.getElem?_eq_getElem hia)
      rw [Array.getElem?_eq_getElem hia, e2, e1]
      rfl
    · rw [Array.getElem?_eq_none (by rw [hit.1]; omega), Array.getElem?_eq_none (by rw [Tb.walk_size]; omega)]
      rfl
  rw [e]
  exact (Tb.walk_perm w a ep es).map _
theorem cr_sortSI {kk : Nat} (hr : Room (kk + 2) X.A) : CallR X (.builtin "sorted") (rSortSI X.w) := by
  intro pins s σ H vs us Q I r h
  obtain ⟨a, es, ep, t, ms, rfl, ha, hs, hI, h64, q⟩ := h
  rw [Vals.ref1 r]
  obtain ⟨⟨o, h1, h2, h3⟩, _⟩ := (show ObjOk X.prog X.w H s.heap a (SetO a es ep t) from I.hok a _ ha)
  have hlm : es.size = ms.length := by have := hI.length; rw [List.length_map, Array.length_toList] at this; exact this
  refine Calls.call_function_entry kind_sorted plain_sorted entry_sorted (args_sorted1 _) ?_
  unfold Builtin.«sorted»
  refine wpAny_bind (m := checkCount "sorted" 1 1 _) (wpAny_pure ?_)
  refine wpAny_bind (collect_src (Tb.src_set (S := a) (ep := ep) hs.ok hs.pl hs.led) (show X.A.in1.handled = none from hr.in1.hd) ⟨o, h1, h2, h3⟩ (by rw [hlm, sizeLine_eq]; omega) fun h0 tk acc hk hit => ?_)
  obtain ⟨ns, hp, hints⟩ := ints_perm (items_walk hit) hI
  have hnl : ns.length = ms.length := hp.length_eq
  have hal : acc.toList.length = ns.length := hints.length
  have I0 : Inv X pins σ H { s with heap := h0, toks := tk } := I.kept (t' := tk) hk
  refine wpAny_bind (wpAny_newList ?_ (by rw [hal, sizeLine_eq]; omega))
  have hfr : H h0.objs.size = none := I0.hok.fresh (Nat.le_refl _)
  have I1 : Inv X pins σ H { s with heap := h0.push (seqObj "list" acc.toList.toArray 0), toks := tk } := I0.kept (t' := tk) fun b ob e => Heap.get?_push_of_some _ e
  have hoL : (h0.push (seqObj "list" acc.toList.toArray 0)).get? h0.objs.size = some (seqObj "list" acc.toList.toArray 0) := Heap.get?_push_size _ rfl
  have sd : Side X pins h0.objs.size := Side.of I0 (Nat.le_refl _)
  refine wpAny_bind (wpAny_holding (wpAny_call_entry slot_list_sort ⟨_, hoL, rfl⟩ entry_list_sort ?body (args_list_sort _)))
  case body =>
    refine Sg.sort_any (s := { s with heap := h0.push (seqObj "list" acc.toList.toArray 0), toks := tk }) hoL hints (by rw [hal]; omega) fun out ns' h1 h2 h3 => ?_
    obtain ⟨c2, he'⟩ := PyProof.Rows.sortedHeap_at (vs := acc.toList) (out := out) hoL
    refine ⟨_, rfl, wpAny_pure ⟨_, rfl, ⟨.ref h0.objs.size, upd H h0.objs.size (.lst (ns'.map V.int)), ?_, rfl, q ns' _ (h2.trans hp) h3 hfr⟩⟩⟩
    have I2 := I1.turned (h' := PyProof.Rows.sortedHeap (h0.push (seqObj "list" acc.toList.toArray 0)) h0.objs.size acc.toList out) (t' := tk) (it := h0.objs.size) (fun b o nb z => by rw [PyProof.Rows.sortedHeap_old nb (Heap.lt_size z)]; exact z) hfr sd.n1 (.inr sd.young) sd.n2 sd.n3
    exact trackedL I2 hfr ⟨by rw [List.length_map, h2.length_eq, sizeLine_eq]; omega, out.toList, c2, vals_of_ints h1, by simpa using he'⟩ sd.young sd.n1 sd.n2 sd.n3
def wSSetI (w : W D) : W (List D) := fun ρ S Q => w ρ S fun d S1 => ∃ (n : Nat) (ns : List Int), d = .ref n ∧ S1[n]? = some (O.lst (ns.map D.int)) ∧ ns.length ≤ 240 ∧ ∀ ms : List Int, ms.Pairwise (· < ·) → (∀ k, k ∈ ms ↔ k ∈ ns) → ms.length ≤ ns.length → Q (ms.map D.int) S1
theorem strict_of {ms : List Int} (h1 : ms.Pairwise (· ≤ ·)) (h2 : ms.Nodup) : ms.Pairwise (· < ·) := by
  have := h1.and h2
  exact this.imp fun h => by omega
theorem ql_sortSI {e : Expr} {we : W D} {pos p pos2 p2 : Pos} {kk : Nat} (hr : Room (kk + 2) X.A) (hm : X.mg "sorted" = none) (hm2 : X.mg "set" = none) (he : QE X e we) (hg : Gl X "sorted" := by rfl) (hg2 : Gl X "set" := by rfl)
    (hs : starEach [Expr.Call (.Name "set" p2) [e] [] pos2] X.env = (false, eval (Expr.Call (.Name "set" p2) [e] [] pos2) X.env) :: starEach [] X.env := by rfl) (hs2 : starEach [e] X.env = (false, eval e X.env) :: starEach [] X.env := by rfl) (hpl : (backTo pos (starEach [] X.env)).any (·.1) = false := by rfl) (hpl2 : (backTo pos2 (starEach [] X.env)).any (·.1) = false := by rfl) :
    QL X (.Call (.Name "sorted" p) [.Call (.Name "set" p2) [e] [] pos2] [] pos) (wSSetI we) := by
  refine ⟨PE.imp (pe_callB (cr_sortSI hr) hg hm (by decide +kernel) (pa_cons (pe_callTy (cr_setI hr) hg2 hm2 (by decide +kernel) (qa_cons he qa_nil hs2).pa (by decide) (by decide) hs2 hpl2) pa_nil hs) (by decide) (by decide) hs hpl) fun σ H Q ⟨ρ, μ, S, Q3, eo, m, k, q⟩ => ?_⟩
  refine ⟨ρ, μ, S, fun ds S1 => match ds with | [d] => ∃ (n : Nat) (ns : List Int), d = .ref n ∧ S1[n]? = some (O.lst (ns.map D.int)) ∧ ns.length ≤ 240 ∧ ∀ ms : List Int, ms.Pairwise (· < ·) → (∀ k, k ∈ ms ↔ k ∈ ns) → ms.length ≤ ns.length → Q3 (ms.map D.int) S1 | _ => False, eo, m, fun ds S1 vs H1 μ1 hh g1 m1 r1 => ?_, q⟩
  dsimp only at hh
  split at hh
  · obtain ⟨n, ns, rfl, hn, h64, hq⟩ := hh
    cases r1 with
    | cons r t =>
      cases t
      cases r with
      | ref hμ =>
        obtain ⟨vs, h1, h2⟩ := m1.at hn hμ
        have e1 := h2.ints
        subst e1
        refine ⟨_, ns, rfl, .inl (.inl h1), by omega, fun l es ep t ms hl hs hI hnd hmem hle => ?_⟩
        obtain ⟨g2, m2⟩ := m1.junk (o := SetO l es ep t) hl
        refine ⟨l, es, ep, t, ms, rfl, upd_same, hs, hI, by omega, fun ms' p hp hso hn' => ?_⟩
        obtain ⟨g3, m3⟩ := m2.junk (o := .lst (ms'.map V.int)) hn'
        have g13 := (g1.trans g2).trans g3
        exact k _ S1 p _ _ μ1 (hq ms' (strict_of hso (hp.nodup_iff.mpr hnd)) (fun k => by rw [hp.mem_iff, hmem k]) (by rw [hp.length_eq]; exact hle)) g13 m3 ((g1.trans g2).back m2 hn') upd_same (fun z => m2.non p z hn') (reps_ints ms')
  · exact hh.elim
end
end L3
namespace L3
open PySem PySem.Spec PyProof.Rows L2
open Srt (kLt)
open Tb (TOk byText intE tupE SetK Adds)
section
variable {X : Cx}
def wSSetT (w : W D) : W (List D) := fun ρ S Q => w ρ S fun d S1 => ∃ (n : Nat) (ns : List (List Int)), d = .ref n ∧ S1[n]? = some (O.lst (ns.map fun k => .tup (k.map D.int))) ∧ ns.length ≤ 240 ∧ ((∀ k ∈ ns, k ≠ []) ∨ ∀ k ∈ ns, k = []) ∧
  ∀ ms : List (List Int), ms.Pairwise (fun a b => HT.lexLt a b = true) → (∀ k, k ∈ ms ↔ k ∈ ns) → ms.length ≤ ns.length → Q (ms.map fun k => .tup (k.map D.int)) S1
end
end L3
namespace L2
open PySem PySem.Spec PyProof.Rows
theorem compLoop_anyD {prog : Program} {w : World} {A : Around} {R : Result → Shared → Prop} {s : Shared} {kx vx target iter : Expr} {ifs : List Expr} {scope : Scope} {pos : Pos} {it : Value} {D : Addr} {env : Env} (I : Nat → Shared → Prop)
    (turn : ∀ n s, I n s → wpAny (model prog w) A (pyNext it) (fun r s₁ => match r with
      | none => R (.ok .next) s₁
      | some v => wpAny (model prog w) A (letOwnedTupleGo target it v) (fun _ s₁' => wpAny (model prog w) A (assign target env v) (fun _ s₂ =>
          wpAny (model prog w) A (forIn ifs true fun c r => if r = true then do let ok ← isTrue c env (eval c env); pure (ForInStep.yield ok) else pure (ForInStep.yield r)) (fun ok s₃ =>
            if ok = true then wpAny (model prog w) A (eval kx env) (fun kv s₄ => wpAny (model prog w) A (eval vx env) (fun vv s₅ =>
              wpAny (model prog w) A (dictSet D kv vv) (fun _ s₆ => ∃ m, m < n ∧ I m s₆) (notedBy (model prog w) A env fun e s' => R (.error e) s') s₅) (notedBy (model prog w) A env fun e s' => R (.error e) s') s₄) (notedBy (model prog w) A env fun e s' => R (.error e) s') s₃
            else ∃ m, m < n ∧ I m s₃) (notedBy (model prog w) A env fun e s' => R (.error e) s') s₂) (notedBy (model prog w) A env fun e s' => R (.error e) s') s₁') (notedBy (model prog w) A env fun e s' => R (.error e) s') s₁) (notedBy (model prog w) A env fun e s' => R (.error e) s') s)
    (n : Nat) (h : I n s) :
    codeAny (model prog w) A (.compLoop (.DictComp kx vx [⟨target, iter, ifs, 0⟩] scope pos) 0 it (.ref D) env) R s := by
  refine codeAny_loop rfl I (fun n s hI => ?_) n h
  show wpAny _ A ((compTurn (.DictComp kx vx [⟨target, iter, ifs, 0⟩] scope pos) 0 it (.ref D) env).onRaise (fun x => do noteFrame x env; theTreesLotGoes x)) _ _ s
  refine wpAny_noted ?_
  rw [compTurn_dict]
  refine wpAny_bind (wpAny_standAt (wpAny_bind (wpAny_mono (turn n s hI) (fun r s₁ h₁ => ?_) fun _ _ h' => h')))
  cases r with
  | none => exact wpAny_pure h₁
  | some v =>
    refine wpAny_bind (wpAny_mono h₁ (fun _ s₁' h₁' => ?_) fun _ _ h' => h')
    refine wpAny_bind (wpAny_mono h₁' (fun _ s₂ h₂ => wpAny_bind (wpAny_mono h₂ (fun ok s₃ h₃ => ?_) fun _ _ h' => h')) fun _ _ h' => h')
    cases ok with
    | false => exact wpAny_pure ⟨rfl, h₃⟩
    | true =>
      exact wpAny_bind (wpAny_bind (wpAny_mono h₃ (fun kv s₄ h₄ => wpAny_bind (wpAny_holding (wpAny_mono h₄ (fun vv s₅ h₅ => wpAny_bind (wpAny_standAt (wpAny_holding (wpAny_mono h₅ (fun _ s₆ h₆ => wpAny_pure ⟨rfl, h₆⟩) fun _ _ h' => h')))) fun _ _ h' => h'))) fun _ _ h' => h'))
section
variable {X : Cx} {pins : List (Addr × Obj)} {σ : St} {H : Hp} {s : Shared}
theorem dset_ok {E : Value → Shared → Prop} {D : Addr} {acc : List (Key × V)} {k : Key} {y : V} {u v : Value} {Q : Unit → Shared → Prop} (I : Inv X pins σ H s) (hD : H D = some (.dK acc)) (hz : acc.length < sizeLine) (rk : RelV (kV k) u) (r : RelV y v)
    (h : ∀ s', Inv X pins σ (upd H D (.dK (putK acc k y))) s' → Q () s') : wpAny (model X.prog X.w) X.A (dictSet D u v) Q E s := by
  obtain ⟨z, hd, vs, rel, dd⟩ := dk_of I.hok hD
  have hl : (putK acc k y).length ≤ sizeLine := by have := length_putK acc k y; omega
  refine wpAny_dictSet_pairs (knd := mixKind X.prog X.w) (kV_is rk) dd (fun h' dd' hs => h _ ?_) (by rw [← rel.length]; exact z)
  have he : ∃ q, h'.get? D = some q := let ⟨q, _, _, hq, _⟩ := dd'; ⟨q, hq⟩
  exact d_write I (by rw [hD]; exact True.intro) hs he (dk_new hl hd (rel.put k r) dd')
end
section
variable {X : Cx}
def tDc (wi : TI) (g : TG) (tt : TT) (tk te : TE) (vs : List Nat) : TE := fun σ H Q => wi σ H fun J H1 => ∀ D, H1 D = none → ∃ W : Nat → Nat → Hp → Prop, (∃ m, W 0 m (upd H1 D (.dK []))) ∧ ∀ i m H, W i m H →
  (J.stop i H ∧ Q (.ref D) H) ∨ (J.go i H ∧ ∃ Nx : Hp → Prop, (∀ H', Nx H' → ∃ m', m' < m ∧ W (i + 1) m' H') ∧ ∀ x H', J.yld i H x H' → g x (wipe σ vs) H' fun σ2 H2 => wipe σ2 vs = wipe σ vs ∧ tt σ2 H2 fun b H3 =>
    if b = true then tk σ2 H3 fun kx H4 => te σ2 H4 fun y H5 => ∃ acc k, kx = kV k ∧ H5 D = some (.dK acc) ∧ acc.length < sizeLine ∧ Nx (upd H5 D (.dK (putK acc k y))) else Nx H3)
theorem dc_core {pins : List (Addr × Obj)} {s : Shared} {σ : St} {H : Hp} {Q : VK} {kx vx tg iter : Expr} {ifs : List Expr} {scope : Scope} {own : List (Str × Nat)} {pos pos' : Pos} {wi : TI} {g : TG} {tt : TT} {tk te : TE} {use : Option (Value → Sem Unit)} {Qf : Value → Shared → Prop}
    (hc : X.calm = true) (hN : X.N.Nodup) (I : Inv X pins σ H s) (hi : PI X tg iter wi) (ok : BlkOk X.N X.env.scope scope own)
    (hg : ∀ (s : Shared) (H : Hp) (C : Addr) (cl : List (Str × Addr)) (fp : List Addr), PG (X.blk s H scope (compEnvC scope cl C X.env) fp) tg g) (ht : ∀ (s : Shared) (H : Hp) (C : Addr) (cl : List (Str × Addr)) (fp : List Addr), PTs (X.blk s H scope (compEnvC scope cl C X.env) fp) ifs tt)
    (hk : ∀ (s : Shared) (H : Hp) (C : Addr) (cl : List (Str × Addr)) (fp : List Addr), PE (X.blk s H scope (compEnvC scope cl C X.env) fp) kx tk) (he : ∀ (s : Shared) (H : Hp) (C : Addr) (cl : List (Str × Addr)) (fp : List Addr), PE (X.blk s H scope (compEnvC scope cl C X.env) fp) vx te) (hs : ∀ x, foldedSetIterable iter X.env x = pure x)
    (h : tDc wi g tt tk te (own.map (·.2)) σ H Q)
    (hRR : ∀ D C s' m H', Inv X pins σ H' s' → Q (.ref D) H' → s'.heap.Ns C m → FpOk X pins H' C → compPost (model X.prog X.w) X.A X.xe use Qf (.ref D) C (.ok .next) s') :
    wpAny (model X.prog X.w) X.A (comprehension (.DictComp kx vx [⟨tg, iter, ifs, 0⟩] scope pos) scope X.env pos' newDict false (eval iter X.env) use) Qf X.xe s := by
  have hfree : ∀ y ∈ scope.names, y.2 = .free → ∃ c, X.env.cells.lookup y.1 = some c := fun y hy e => by
    rcases ok.free y hy e with k | k
    · exact I.ok.has _ (.inl k)
    · exact I.ok.has _ (.inr k)
  refine wpAny_comprehension_free (use := use) rfl hs (closure_ok hfree) ok.kind (fun y hy e => by rw [ok.uniq y hy, e])
    (thn (hi pins s σ H _ I h) fun xv s1 hx => thn hx fun itv s2 h2 => ?_)
  obtain ⟨it, fp, tn, J, H2, e, I2, T, st2, f2, q⟩ := h2
  subst e
  refine wpAny_newObj_type (newEnv_comp ?_) (by size_fits)
  generalize hD : s2.heap.objs.size = D
  have hDn : H2 D = none := I2.hok.fresh (Nat.le_of_eq hD)
  obtain ⟨W, ⟨m0, w0⟩, turn⟩ := q D hDn
  -- the new list
  generalize hs3 : ({ s2 with heap := s2.heap.push { cls := .type "dict", data := .dict #[] } } : Shared) = s3
  have I3 : Inv X pins σ (upd H2 D (.dK [])) s3 := by
    rw [← hs3]
    refine I2.laid (t' := s2.toks) (fun b o e => Heap.get?_push_of_some _ e) (Nat.le_of_eq hD) ?_
    rw [← hD]
    exact dk_empty s2.heap I2.big
  have h3 : s3.heap = s2.heap.push { cls := .type "dict", data := .dict #[] } := by rw [← hs3]
  have sz : ∀ b ∈ fp, b < s2.heap.objs.size := fun b hb => by
    obtain ⟨o, e, _⟩ := T.obj _ _ st2 b hb
    exact Heap.lt_size e
  have f3 : ∀ b ∈ fp, FpOk X pins (upd H2 D (.dK [])) b ∧ b < s3.heap.objs.size := fun b hb => by
    have hlt := sz b hb
    refine ⟨⟨?_, (f2 b hb).2⟩, by rw [h3, Heap.size_push]; exact Nat.lt_succ_of_lt hlt⟩
    rw [upd_ne (by rw [← hD]; exact Nat.ne_of_lt hlt)]
    exact (f2 b hb).1
  have st3 : tn 0 s3.heap := T.keep _ _ _ st2 fun b _ o e => by rw [h3]; exact Heap.get?_push_of_some _ e
  have I4 := block_start I3 ok hN f3
  have pg := hg s3 (upd H2 D (.dK [])) s3.heap.objs.size (cellsFrom (s3.heap.objs.size + 1) scope.names (cloFrom X.env.cells scope.names [])) fp
  have pt := ht s3 (upd H2 D (.dK [])) s3.heap.objs.size (cellsFrom (s3.heap.objs.size + 1) scope.names (cloFrom X.env.cells scope.names [])) fp
  have pk := hk s3 (upd H2 D (.dK [])) s3.heap.objs.size (cellsFrom (s3.heap.objs.size + 1) scope.names (cloFrom X.env.cells scope.names [])) fp
  have pe := he s3 (upd H2 D (.dK [])) s3.heap.objs.size (cellsFrom (s3.heap.objs.size + 1) scope.names (cloFrom X.env.cells scope.names [])) fp
  show codeAny _ _ (.compStart (.DictComp kx vx [⟨tg, iter, ifs, 0⟩] scope pos) 0 (.ref it) (.ref D) (compEnvC scope (cellsFrom (s3.heap.objs.size + 1) scope.names (cloFrom X.env.cells scope.names [])) s3.heap.objs.size X.env)) (compPost (model X.prog X.w) X.A X.xe use Qf (.ref D) s3.heap.objs.size) { s3 with heap := pushCells (s3.heap.push { cls := .type "dict", data := .dict #[] }) scope.names }
  have nfp : ∀ b ∈ fp, (upd H2 D (.dK [])) b = none := fun b hb => (f3 b hb).1.1
  generalize hce : compEnvC scope (cellsFrom (s3.heap.objs.size + 1) scope.names (cloFrom X.env.cells scope.names [])) s3.heap.objs.size X.env = ce at I4 pg pt pk pe ⊢
  have cL : ce.locals = s3.heap.objs.size := by subst hce; rfl
  generalize hH3 : upd H2 D (.dK []) = H3 at I3 I4 pg pt pk pe w0 nfp f3
  generalize hs4 : ({ s3 with heap := pushCells (s3.heap.push { cls := .type "dict", data := .dict #[] }) scope.names } : Shared) = s4 at I4 ⊢
  have st4 : tn 0 s4.heap := T.keep _ _ _ st3 fun b _ o e => by rw [← hs4]; exact pushCells_keeps _ _ _ _ (Heap.get?_push_of_some _ e)
  have stat : ∀ {σ' : St} {H' : Hp} {s' : Shared}, Inv (X.blk s3 H3 scope ce fp) [] σ' H' s' → (∀ b ∈ fp, H' b = none) → ∀ b ∈ fp, FpOk (X.blk s3 H3 scope ce fp) [] H' b := fun {σ' H' s'} I' hn b hb =>
    ⟨hn b hb, (I'.ok.exf b hb).1, I'.ok.exfs b hb, .inl hb, fun x c e => (I'.ok.exf b hb).2 x c e, fun p hp => absurd (show p ∈ ([] : List (Addr × Obj)) ++ [] from hp) (by simp)⟩
  have loop : codeAny (model X.prog X.w) X.A (.compLoop (.DictComp kx vx [⟨tg, iter, ifs, 0⟩] scope pos) 0 (.ref it) (.ref D) ce) (compPost (model X.prog X.w) X.A X.xe use Qf (.ref D) s3.heap.objs.size) s4 := by
    refine compLoop_anyD (fun n s' => ∃ i H', Inv (X.blk s3 H3 scope ce fp) [] (wipe σ (own.map (·.2))) H' s' ∧ tn i s'.heap ∧ (∀ b ∈ fp, H' b = none) ∧ W i n H') ?_ m0 ⟨0, H3, I4, st4, nfp, w0⟩
    rintro n s5 ⟨i, H5, I5, st5, n5, w5⟩
    rcases turn i n H5 w5 with ⟨stop, qq⟩ | ⟨go, Nx, hNx, step⟩
    · have td := T.done (X.blk s3 H3 scope ce fp) rfl rfl rfl hc i [] s5 _ H5 (fun _ _ => False) I5 (stat I5 n5) st5 stop
      refine thnF td fun r s6 ⟨hr, I6⟩ => ?_
      subst hr
      -- back in the def's context
      have I7 : Inv X pins σ H5 s6 := I3.call' (ch := fp) I6.os I6.base I6.hok I6.bare fun b hb => ⟨(f3 b hb).1.2.2.2.1, (f3 b hb).1.2.1, (f3 b hb).1.2.2.2.2.1, (f3 b hb).1.2.2.2.2.2⟩
      have nC : H5 s3.heap.objs.size = none := by
        have z : H5 ce.locals = none := I6.free
        rw [cL] at z
        exact z
      obtain ⟨m, hn, _⟩ := I6.loc
      have hn : s6.heap.Ns ce.locals m := hn
      rw [cL] at hn
      exact hRR D s3.heap.objs.size s6 m H5 I7 qq hn (I3.fpOk (Nat.le_refl _) nC)
    · have ti := T.item (X.blk s3 H3 scope ce fp) rfl rfl rfl hc i [] s5 _ H5 (fun _ _ => False) I5 (stat I5 n5) st5 go
      refine thnF ti fun r s6 ⟨u, hr, h6⟩ => ?_
      subst hr
      refine thnF h6 fun _ s7 ⟨x, H7, I7, r7, y7, st7, n7⟩ => ?_
      have I7' := I7.pinned (stat I7 n7) (T.obj _ _ st7)
      refine thnF (pg _ s7 _ H7 x u _ I7' r7 (step x H7 y7)) fun _ s8 ⟨σ8, H8, I8, hw8, q8⟩ => ?_
      refine thnF (pt _ s8 σ8 H8 _ I8 q8) fun b s9 ⟨H9, I9, q9⟩ => ?_
      -- the turn's end
      have fin : ∀ {s' : Shared} {H' : Hp}, Inv (X.blk s3 H3 scope ce fp) ([] ++ pinsAt fp s7.heap) σ8 H' s' → Nx H' → ∃ m, m < n ∧ ∃ i H', Inv (X.blk s3 H3 scope ce fp) [] (wipe σ (own.map (·.2))) H' s' ∧ tn i s'.heap ∧ (∀ b ∈ fp, H' b = none) ∧ W i m H' := fun {s' H'} I' nx => by
        obtain ⟨m', hm, w'⟩ := hNx H' nx
        have pin' : ∀ b ∈ fp, ∀ o, s7.heap.get? b = some o → s'.heap.get? b = some o ∧ H' b = none := fun b hb o e =>
          let z := I'.pin (b, o) (List.mem_append_right _ (List.mem_append_right _ (mem_pinsAt hb e)))
          ⟨z.1, z.2.1⟩
        have hl : (wipe σ (own.map (·.2))).length = σ8.length := by rw [← hw8, wipe_length]
        refine ⟨m', hm, i + 1, H', (I'.unpinned (pins := [])).weak hl (fun j v e => ?_), T.keep _ _ _ st7 fun b hb o e => (pin' b hb o e).1, fun b hb => ?_, w'⟩
        · rw [← hw8] at e
          exact (wipe_some e).1
        · obtain ⟨o, e, _⟩ := T.obj _ _ st7 b hb
          exact (pin' b hb o e).2
      cases b with
      | false =>
        simp only [Bool.false_eq_true, if_false] at q9 ⊢
        exact fin I9 q9
      | true =>
        simp only [if_true] at q9 ⊢
        refine thnF (pk _ s9 σ8 H9 _ I9 q9) fun zk s10 ⟨kv, H10, I10, r10, q10⟩ => ?_
        refine thnF (pe _ s10 σ8 H10 _ I10 q10) fun z s11 ⟨yv, H11, I11, r11, acc, k, ek, hD11, hz11, nx⟩ => ?_
        subst ek
        exact dset_ok (X := X.blk s3 H3 scope ce fp) I11 hD11 hz11 r10 r11 fun s12 I12 => fin I12 nx
  exact codeAny_compStart_dict loop (T.self X.A 0 _ _ _ st4 loop)
theorem pe_dc {kx vx tg iter : Expr} {ifs : List Expr} {scope : Scope} {own : List (Str × Nat)} {pos : Pos} {wi : TI} {g : TG} {tt : TT} {tk te : TE} (hc : X.calm = true) (hN : X.N.Nodup) (hi : PI X tg iter wi) (ok : BlkOk X.N X.env.scope scope own)
    (hg : ∀ (s : Shared) (H : Hp) (C : Addr) (cl : List (Str × Addr)) (fp : List Addr), PG (X.blk s H scope (compEnvC scope cl C X.env) fp) tg g) (ht : ∀ (s : Shared) (H : Hp) (C : Addr) (cl : List (Str × Addr)) (fp : List Addr), PTs (X.blk s H scope (compEnvC scope cl C X.env) fp) ifs tt)
    (hk : ∀ (s : Shared) (H : Hp) (C : Addr) (cl : List (Str × Addr)) (fp : List Addr), PE (X.blk s H scope (compEnvC scope cl C X.env) fp) kx tk) (he : ∀ (s : Shared) (H : Hp) (C : Addr) (cl : List (Str × Addr)) (fp : List Addr), PE (X.blk s H scope (compEnvC scope cl C X.env) fp) vx te) (hs : ∀ x, foldedSetIterable iter X.env x = pure x := by intro _; rfl) :
    PE X (.DictComp kx vx [⟨tg, iter, ifs, 0⟩] scope pos) (tDc wi g tt tk te (own.map (·.2))) := by
  intro pins s σ H Q I h
  rw [arm_eval_DictComp]
  dsimp only
  refine dc_core hc hN I hi ok hg ht hk he hs h fun D C s' m H' I' q hn f => ⟨m, hn, fun h'' sb => ?_⟩
  obtain ⟨f0, f1, f2, f3, f4, f5⟩ := f
  exact ⟨.ref D, H', I'.turned (t' := s'.toks) (fun b o hb e => (sb.2 b hb).trans e) f0 f1 f3 f4 f5, rfl, q⟩
end
end L2
namespace L3
open PySem PySem.Spec PyProof.Rows L2
def wCompD (stay : Sto → Prop) (step : D → Sto → (Option (Key × D) → Sto → Prop) → Prop) : List D → List (Key × D) → Sto → (List (Key × D) → Sto → Prop) → Prop
  | [], acc, S, Q => stay S ∧ Q acc S
  | x :: r, acc, S, Q => stay S ∧ small acc.length ∧ step x S fun o S1 => wCompD stay step r (match o with | some p => kPut acc p.1 p.2 | none => acc) S1 Q
theorem wCompD_stay {stay : Sto → Prop} {step : D → Sto → (Option (Key × D) → Sto → Prop) → Prop} {l : List D} {acc : List (Key × D)} {S : Sto} {Q : List (Key × D) → Sto → Prop} (h : wCompD stay step l acc S Q) : stay S := by
  cases l with
  | nil => exact h.1
  | cons x r => exact h.1
def stepDc (t : Tg) (wt : W Bool) (wk we : W D) (ρ : Env) : D → Sto → (Option (Key × D) → Sto → Prop) → Prop := fun x S R =>
  tg3 t x ρ S fun ρ2 S2 => wt ρ2 S2 fun b S3 => if b = true then wk ρ2 S3 fun kd S4 => we ρ2 S4 fun d S5 => ∃ k, kd = keyD k ∧ R (some (k, d)) S5 else R none S3
def wDc (wi : WI) (t : Tg) (wt : W Bool) (wk we : W D) (vs : List Nat) : W D := fun ρ S Q => wi ρ S fun src S1 => wCompD src.stay (stepDc t wt wk we (wipe3 ρ vs)) src.items [] S1 fun acc S2 => Q (.ref S2.length) (S2 ++ [O.dkv acc])
theorem KReps.go {κ : Type} {K : PySem.W.Frag} {H H' : Hp} {μ μ' : List Addr} {S : Sto} (g : Go H μ H' μ') (m : Sim K H μ S) {kvs : List (κ × D)} {ws : List (κ × V)} (h : KReps K H μ kvs ws) : KReps K H' μ' kvs ws := ⟨h.keys, Reps.go g m h.vals⟩
theorem dc_ok {K : PySem.W.Frag} {wi : WI} {t : Tg} {wt : W Bool} {wk we : W D} {vs : List Nat} (hv : ∀ i ∈ t.slots, i ∈ vs) : ∀ σ H Q, liftE K (wDc wi t wt wk we vs) σ H Q → tDc (liftI K wi) (tgL K t) (liftT K wt) (liftE K wk) (liftE K we) vs σ H Q := by
  intro σ H Q ⟨ρ, μ, S, Q3, eo, m, k, h⟩
  refine ⟨ρ, μ, S, _, eo, m, fun src S1 J H1 μ1 q g1 m1 it => fun Dd hD => ?_, h⟩
  have gD : Go H1 μ1 (upd H1 Dd (.dK [])) μ1 := (m1.junk hD).1
  refine ⟨fun i kk H' => kk = src.items.length - i ∧ i ≤ src.items.length ∧ ∃ acc accv μ' S', Go H1 μ1 H' μ' ∧ Sim K H' μ' S' ∧ Dd ∉ μ' ∧ H' Dd = some (HO.dK accv) ∧ KReps K H' μ' acc accv ∧ wCompD src.stay (stepDc t wt wk we (wipe3 ρ vs)) (src.items.drop i) acc S' (fun acc S2 => Q3 (.ref S2.length) (S2 ++ [O.dkv acc])),
    ⟨_, rfl, Nat.zero_le _, [], [], μ1, S1, gD, (m1.junk hD).2, fun z => m1.non _ z hD, upd_same, .nil, q⟩, ?_⟩
  rintro i kk H' ⟨rfl, hle, acc, accv, μ', S', g', m', nD, eD, ra, hw⟩
  have st := wCompD_stay hw
  obtain ⟨itm, stp⟩ := it i H' μ' S' g' m' st
  by_cases hlt : i < src.items.length
  · rw [List.drop_eq_getElem_cons hlt] at hw
    obtain ⟨go, yl⟩ := itm _ (List.getElem?_eq_getElem hlt)
    obtain ⟨_, hsm, hw⟩ := hw
    refine .inr ⟨go, fun H2 => ∃ acc accv μ' S', Go H1 μ1 H2 μ' ∧ Sim K H2 μ' S' ∧ Dd ∉ μ' ∧ H2 Dd = some (HO.dK accv) ∧ KReps K H2 μ' acc accv ∧ wCompD src.stay (stepDc t wt wk we (wipe3 ρ vs)) (src.items.drop (i + 1)) acc S' (fun acc S2 => Q3 (.ref S2.length) (S2 ++ [O.dkv acc])), fun H2 z => ⟨_, by omega, rfl, hlt, z⟩, fun v H2 y => ?_⟩
    obtain ⟨kp, g2, m2, r2⟩ := yl v H2 y
    have e2 : EnvOk K H2 μ' (wipe3 ρ vs) (L2.wipe σ vs) := ((((eo.go g1 m).go g' m1).go g2 m').wipe vs)
    have eD2 : H2 Dd = some (HO.dK accv) := kp _ _ eD
    have ra2 : KReps K H2 μ' acc accv := ra.go g2 m'
    refine tg_ok (vs := vs) e2 r2 hv hw fun ρ3 σ3 q3 e3 o3 => ⟨o3.wipe, ?_⟩
    have away : ∀ {H4 μ4}, Go H2 μ' H4 μ4 → Dd ∉ μ4 ∧ H4 Dd = some (HO.dK accv) := fun {H4 μ4} g => ⟨fun z => (by have q := g.new _ z nD; rw [eD2] at q; cases q), g.keep _ _ eD2 nD rfl⟩
    refine ⟨ρ3, μ', S', _, e3, m2, fun b S3 H3 μ3 q4 g3 m3 => ?_, q3⟩
    cases b with
    | false => exact iteF ⟨acc, accv, μ3, S3, (g'.trans g2).trans g3, m3, (away g3).1, (away g3).2, ra2.go g3 m2, q4⟩
    | true =>
      refine iteT ⟨ρ3, μ3, S3, _, e3.go g3 m2, m3, fun kd S4 kv H4 μ4 q5 g4 m4 r4 => ?_, q4⟩
      refine ⟨ρ3, μ4, S4, _, (e3.go g3 m2).go g4 m3, m4, fun d S5 v5 H5 μ5 ⟨kk, ek, q6⟩ g5 m5 r5 => ?_, q5⟩
      obtain ⟨n5, e5⟩ := away ((g3.trans g4).trans g5)
      subst ek
      obtain ⟨m6, rk, rks⟩ := m5.other (o' := .dK (putK accv kk v5)) e5 n5 (fun _ z => by cases z) (fun _ _ z => by cases z) (fun _ z => by cases z)
      have ra5 : KReps K H5 μ5 acc accv := ra2.go ((g3.trans g4).trans g5) m2
      have rp := ra5.put kk r5
      refine ⟨accv, kk, rep_key r4, e5, by rw [ra.len]; exact small_line hsm, kPut acc kk d, putK accv kk v5, μ5, S5, (((((g'.trans g2).trans g3).trans g4).trans g5).side hD), m6, n5, upd_same, ⟨rp.keys, rks _ _ rp.vals⟩, q6⟩
  · rw [List.drop_eq_nil_of_le (by omega)] at hw
    refine .inl ⟨stp (by omega), ?_⟩
    obtain ⟨g2, m2, r2⟩ := m'.numberK (g1.trans g') eD ra nD (g1.back m1 hD)
    exact k _ _ _ H' _ hw.2 g2 m2 r2
section
variable {X : Cx} {kx vx tg iter : Expr} {ifs : List Expr} {scope : Scope} {own : List (Str × Nat)} {pos : Pos} {wi : WI} {t : Tg} {wt : W Bool} {wk we : W D}
theorem qe_dc (hc : X.calm = true) (hN : X.N.Nodup) (hi : QI X tg iter wi) (ok : BlkOk X.N X.env.scope scope own)
    (hg : ∀ (s : Shared) (H : Hp) (C : Addr) (cl : List (Str × Addr)) (fp : List Addr), QG (X.blk s H scope (compEnvC scope cl C X.env) fp) tg t) (ht : ∀ (s : Shared) (H : Hp) (C : Addr) (cl : List (Str × Addr)) (fp : List Addr), QTs (X.blk s H scope (compEnvC scope cl C X.env) fp) ifs wt)
    (hk : ∀ (s : Shared) (H : Hp) (C : Addr) (cl : List (Str × Addr)) (fp : List Addr), QE (X.blk s H scope (compEnvC scope cl C X.env) fp) kx wk) (he : ∀ (s : Shared) (H : Hp) (C : Addr) (cl : List (Str × Addr)) (fp : List Addr), QE (X.blk s H scope (compEnvC scope cl C X.env) fp) vx we) (hv : ∀ i ∈ t.slots, i ∈ own.map (·.2) := by decide) (hs : ∀ x, foldedSetIterable iter X.env x = pure x := by intro _; rfl) :
    QE X (.DictComp kx vx [⟨tg, iter, ifs, 0⟩] scope pos) (wDc wi t wt wk we (own.map (·.2))) :=
  ⟨PE.imp (pe_dc (g := tgL X.K t) (tt := liftT X.K wt) (tk := liftE X.K wk) (te := liftE X.K we) hc hN hi.pi ok (fun s H C cl fp => (hg s H C cl fp).pg) (fun s H C cl fp => (ht s H C cl fp).pts) (fun s H C cl fp => (hk s H C cl fp).pe) (fun s H C cl fp => (he s H C cl fp).pe) hs) (dc_ok hv)⟩
end
def wKdel (wd wk : W D) : WS := fun E ρ S => wd ρ S fun x S1 => wk ρ S1 fun y S2 => ∃ (n : Nat) (kvs : List (Key × D)) (k : Key), x = .ref n ∧ y = keyD k ∧ S2[n]? = some (O.dkv kvs) ∧ (kGet kvs k).isSome = true ∧ E.nx ρ (S2.set n (O.dkv (kDrop kvs k)))
theorem qs_kdel {X : Cx} {o i : Expr} {wd wk : W D} {pos tpos : Pos} (ho : QE X o wd) (hi : QE X i wk) : QS X (.Delete [.Subscript o i tpos] pos) (wKdel wd wk) := by
  refine ⟨PS.imp (ps_ddel ho.pe hi.pe) fun D σ H ⟨ρ, μ, S, D3, eo, m, dn, h⟩ => ?_⟩
  refine ⟨ρ, μ, S, _, eo, m, fun x S1 v H1 μ1 q1 g1 m1 r1 => ⟨ρ, μ1, S1, _, eo.go g1 m, m1, fun y S2 u H2 μ2 q2 g2 m2 r2 => ?_, q1⟩, h⟩
  obtain ⟨n, kvs, k, rfl, rfl, hn, hs, q⟩ := q2
  cases r1 with
  | ref hμ =>
    have hμ2 := g2.get hμ
    obtain ⟨a, ws, k1, k2, k3⟩ := m2.dkv n kvs hn
    rw [hμ2] at k1; cases k1
    refine ⟨_, ws, k, rfl, k2, rep_key r2, by rw [k3.some k]; exact hs, ?_⟩
    obtain ⟨g3, m3⟩ := m2.writeK hn hμ2 k2 (k3.drop k)
    exact dn.nx ρ _ σ _ μ2 q ((g1.trans g2).trans g3) m3 (((eo.go g1 m).go g2 m1).go g3 m2)
end L3
namespace L3
open PySem PySem.Spec PyProof.Rows L2
def wKnew0 : W D := fun ρ S Q => Q (.ref S.length) (S ++ [O.dkv []])
end L3
namespace Zt
open PySem PySem.Spec PyProof.Rows L2 L3
section
variable {prog : Program} {w : World} {A : Around} {E : Value → Shared → Prop} {s : Shared}
end
end Zt
namespace Zt
open PySem PySem.Spec PyProof.Rows L2 L3
section
variable {prog : Program} {w : World} {A : Around} {E : Value → Shared → Prop} {s : Shared}
structure ZT (h : Heap) (z TI TO i1 i2 t1 t2 : Addr) (k : Nat) (xs ys : Array Value) (f : Value) (a b : Value) : Prop where
  z : IsZip h z TI TO f
  ti : IsPair h TI (.ref i1) (.ref i2)
  tof : IsPair h TO a b
  i1 : h.IsTupleIter i1 t1 k
  i2 : h.IsTupleIter i2 t2 k
  t1 : h.IsTuple t1 xs
  t2 : h.IsTuple t2 ys
end
section
variable {prog : Program} {w : World} {A : Around} {E : Value → Shared → Prop} {s : Shared}
end
section
variable {K : PySem.W.Frag} {H : Hp} {μ : List Addr} {S : Sto}
end
end Zt
namespace L3
open PySem PySem.Spec PyProof.Rows L2
section
variable {X : Cx} {tg e e2 : Expr} {ws : W (List D)} {pos p : Pos}
def wEnumT (ws : W (List D)) : WI := fun ρ S Q => ws ρ S fun ds S1 => ∃ xs, ds = [.tup xs] ∧ Q ⟨enumD 0 xs, fun _ => True⟩ S1
def wZipT (ws : W (List D)) : WI := fun ρ S Q => ws ρ S fun ds S1 => ∃ xs ys, ds = [.tup xs, .tup ys] ∧ Q ⟨zipD xs ys, fun _ => True⟩ S1
end
end L3
namespace L3
open PySem PySem.Spec PyProof.Rows L2
section
variable {X : Cx} {e : Expr} {te : TE} {we : W D} {a : Str} {pos p1 p2 : Pos} {j : Nat}
def wFstr (a : Str) (we : W D) : W D := fun ρ S Q => we ρ S fun d S1 => ∃ i : Int, d = .int i ∧ i.natAbs.log2 < 1920 ∧ (a ++ Str.ofString (toString i)).length ≤ sizeLine ∧ Q (.str (a ++ Str.ofString (toString i))) S1
end
structure KTab (K : PySem.W.Frag) (P : Params) (a : Addr) (tab : List (Str × D)) : Prop where
  lk : ∃ es n, List.lookup a K = some { cls := .type "dict", data := .dict es n } ∧ PySem.W.KeysLit P es.toList
  ns : ∀ x, (PySem.W.nsIn K a x = some none ∧ tab.lookup x = none) ∨ ∃ d v u, tab.lookup x = some d ∧ PySem.W.nsIn K a x = some (some u) ∧ RelV v u ∧ ∀ H μ, Rep K H μ d v
  sm : (a == sysModules) = false
section
variable {X : Cx} {i : Expr} {wi wa : W D} {x : Str} {a : Addr} {tab : List (Str × D)} {pos p1 : Pos}
theorem KTab.get {d : D} {y : Str} (T : KTab X.K X.w.params a tab) (h : tab.lookup y = some d) : ∃ v u, PySem.W.nsIn X.K a y = some (some u) ∧ RelV v u ∧ ∀ H μ, Rep X.K H μ d v := by
  rcases T.ns y with ⟨_, h2⟩ | ⟨d', v, u, h1, h2, h3, h4⟩
  · rw [h] at h2; cases h2
  · rw [h] at h1; cases h1; exact ⟨v, u, h2, h3, h4⟩
def wTab (tab : List (Str × D)) (wi : W D) : W D := fun ρ S Q => wi ρ S fun y S1 => ∃ x d, y = .str x ∧ tab.lookup x = some d ∧ Q d S1
theorem ns_find {K : PySem.W.Frag} {es : Array DictEntry} {n : Nat} {y : Str} {r : Option Value} (l1 : List.lookup a K = some { cls := .type "dict", data := .dict es n }) (h : PySem.W.nsIn K a y = some r) : (findBy Value.isStrOf es y).isSome = r.isSome := by
  unfold PySem.W.nsIn at h
  rw [l1] at h
  dsimp only at h
  have e : (findBy Value.isStrOf es y).isSome = (es.toList.find? fun x => x.key.isStr y).isSome := by
    unfold findBy
    rw [Option.isSome_map, ← Array.find?_toList]
    have q : (fun e : DictEntry => Value.isStrOf y e.key) = fun x => x.key.isStr y := by
      funext e
      cases e.key <;> simp [Value.isStrOf, Value.isStr]
    rw [q]
  rw [e]
  cases q : es.toList.find? (fun x => x.key.isStr y) with
  | some z => rw [q] at h; cases h; rfl
  | none =>
    rw [q] at h
    dsimp only at h
    split at h
    · cases h
    · cases h; rfl
def pInTab (a : Addr) (tab : List (Str × D)) (neg : Bool) : P2 := fun x y S Q => ∃ w, x = .str w ∧ y = .adr a ∧ Q (.bl (if neg = true then !(tab.lookup w).isSome else (tab.lookup w).isSome)) S
theorem KTab.some (T : KTab X.K X.w.params a tab) (y : Str) {es : Array DictEntry} {n : Nat} (l1 : List.lookup a X.K = some { cls := .type "dict", data := .dict es n }) : (findBy Value.isStrOf es y).isSome = (tab.lookup y).isSome := by
  rcases T.ns y with ⟨h1, h2⟩ | ⟨d, v, u, h1, h2, _⟩
  · rw [ns_find l1 h1, h2]; rfl
  · rw [ns_find l1 h2, h1]; rfl
end
def fPut (f : Str) (v : D) : List (Str × D) → List (Str × D)
  | [] => [(f, v)]
  | (g, x) :: r => if g = f then (g, v) :: r else (g, x) :: fPut f v r
section
variable {K : PySem.W.Frag} {H : Hp} {μ : List Addr}
end
def wFld (C : Addr) (f : Str) (we : W D) : W D := fun ρ S Q => we ρ S fun x S1 => ∃ n fs d, x = .ref n ∧ S1[n]? = some (O.ins C fs) ∧ fs.lookup f = some d ∧ Q d S1
def wPutF (C : Addr) (f : Str) (wv wo : W D) : WS := fun E ρ S => wv ρ S fun y S1 => wo ρ S1 fun x S2 => ∃ n fs, x = .ref n ∧ S2[n]? = some (O.ins C fs) ∧ fs.length < 1000 ∧ E.nx ρ (S2.set n (O.ins C (fPut f y fs)))
def wAddF (C : Addr) (f : Str) (wv wo : W D) : WS := fun E ρ S => wo ρ S fun x S1 => ∃ n fs i, x = .ref n ∧ S1[n]? = some (O.ins C fs) ∧ fs.lookup f = some (.int i) ∧ wv ρ S1 fun y S2 => ∃ fs' j, S2[n]? = some (O.ins C fs') ∧ fs'.length < 1000 ∧ y = .int j ∧ E.nx ρ (S2.set n (O.ins C (fPut f (.int (i + j)) fs')))
def wOwn (C : Addr) (m : Str) (sp : PN) (wo : W D) (ws : W (List D)) : W D := fun ρ S Q => wo ρ S fun x S1 => ∃ n fs, x = .ref n ∧ S1[n]? = some (O.ins C fs) ∧ fs.lookup m = none ∧ ws ρ S1 fun ds S2 => sp (x :: ds) S2 Q
def wMake (C : Addr) (sp : PN) (ws : W (List D)) : W D := fun ρ S Q => ws ρ S fun ds S1 => sp (.ref S1.length :: ds) (S1 ++ [O.ins C []]) fun d S2 => d = .non ∧ Q (.ref S1.length) S2
structure FnM (P : Program) (w : World) (K : PySem.W.Frag) (mg : Str → Option Value) (base : Heap) (k : Nat) (f : Addr) (sp : PN) : Prop where
  ex : ∃ fd ps, FnOk P w K mg base CX0 k f fd ps (liftSp K sp) ∧ Binds K fd ps []
theorem FnM.mono {P : Program} {w : World} {K : PySem.W.Frag} {mg : Str → Option Value} {base : Heap} {j k : Nat} {f : Addr} {sp : PN} (F : FnM P w K mg base j f sp) (h : j ≤ k) : FnM P w K mg base k f sp :=
  let ⟨fd, ps, a, b⟩ := F.ex; ⟨fd, ps, a.mono h, b⟩
section
variable {X : Cx} {o e value : Expr} {es : List Expr} {f m : Str} {C g : Addr} {pos pos' apos p tpos : Pos} {wo wv we : W D} {ws : W (List D)} {k : Nat} {sp : PN} {x : Str}
end
section
variable {P : Program} {w : World} {K : PySem.W.Frag} {mg : Str → Option Value} {base : Heap}
end
end L3
namespace Br
open PySem L2 L3
abbrev nD (n : Nat) : D := .int (n : Int)
abbrev Tst := Nat × Str × Int
abbrev Foot := Option (List Nat × Option Tst)
def tstD (t : Tst) : D := .tup [nD t.1, .str t.2.1, .int t.2.2]
def sumD (s : Str × Nat) : D := .tup [.str s.1, nD s.2]
def optTst : Option Tst → D
  | none => .non
  | some t => tstD t
def footD : Foot → D
  | none => .non
  | some (ns, t) => .tup [.tup (ns.map nD), optTst t]
structure Rp where
  fields : Nat
  keys : List Nat
  tests : List Tst
  sums : List (Str × Nat)
  heads : List Bool
  feet : List Foot
  detail : Bool
def Rp.d (r : Rp) : D := .tup [nD r.fields, .tup (r.keys.map nD), .tup (r.tests.map tstD), .tup (r.sums.map sumD), .tup (r.heads.map D.bl), .tup (r.feet.map footD), .bl r.detail]
def words : List Str := ["eq", "ge", "lt", "ne"]
def kinds : List Str := ["count", "least", "most", "sum"]
def TstOk (many : Nat) (t : Tst) : Prop := t.1 < many ∧ t.2.1 ∈ words ∧ 0 ≤ t.2.2 ∧ t.2.2 ≤ 999
def FootOk (many : Nat) : Foot → Prop
  | none => True
  | some (ns, t) => ns.Pairwise (· < ·) ∧ (∀ n ∈ ns, n < many) ∧ ∀ u, t = some u → TstOk many u
structure Rp.Ok (r : Rp) : Prop where
  f1 : 1 ≤ r.fields
  f5 : r.fields ≤ 5
  k3 : r.keys.length ≤ 3
  kn : r.keys.Nodup
  kf : ∀ k ∈ r.keys, k < r.fields
  t4 : r.tests.length ≤ 4
  tf : ∀ t ∈ r.tests, TstOk r.fields t
  s4 : r.sums.length ≤ 4
  sk : ∀ s ∈ r.sums, s.1 ∈ kinds ∧ s.2 < r.fields
  hl : r.heads.length = r.keys.length + 1
  fl : r.feet.length = r.keys.length + 1
  ff : ∀ x ∈ r.feet, FootOk r.sums.length x
abbrev Row := List Int
def rowD (r : Row) : D := .tup (r.map D.int)
def RowOk (fields : Nat) (r : Row) : Prop := r.length = fields ∧ ∀ x ∈ r, 0 ≤ x ∧ x ≤ 999
def holdsB : Option Int → Str → Int → Bool
  | none, _, _ => false
  | some v, w, n => if w = "eq" then decide (v = n) else if w = "ne" then !decide (v = n) else if w = "ge" then decide (n ≤ v) else decide (v < n)
def isIn (tests : List Tst) (row : Row) : Bool := tests.all fun t => holdsB (some (row.getD t.1 0)) t.2.1 t.2.2
def keyOf (keys : List Nat) (row : Row) : List Int := keys.map fun k => row.getD k 0
def numsOf (tests : List Tst) (rows : List Row) : List Nat := (List.range rows.length).filter fun i => isIn tests (rows.getD i [])
def Ext (S S' : Sto) : Prop := ∃ l, S' = S ++ l
theorem Ext.refl (S : Sto) : Ext S S := ⟨[], by simp⟩
theorem Ext.trans {S S1 S2 : Sto} (a : Ext S S1) (b : Ext S1 S2) : Ext S S2 := by
  obtain ⟨l, rfl⟩ := a
  obtain ⟨l', rfl⟩ := b
  exact ⟨l ++ l', by simp⟩
theorem Ext.push (S : Sto) (o : O) : Ext S (S ++ [o]) := ⟨[o], rfl⟩
theorem Ext.get {S S' : Sto} (e : Ext S S') {n : Nat} {o : O} (h : S[n]? = some o) : S'[n]? = some o := by
  obtain ⟨l, rfl⟩ := e
  rw [List.getElem?_append_left (List.getElem?_eq_some_iff.mp h).1]
  exact h
theorem Ext.len {S S' : Sto} (e : Ext S S') : S.length ≤ S'.length := by
  obtain ⟨l, rfl⟩ := e
  simp
theorem Ext.set {S S' : Sto} (e : Ext S S') {n : Nat} (h : S.length ≤ n) (o : O) : Ext S (S'.set n o) := by
  obtain ⟨l, rfl⟩ := e
  exact ⟨l.set (n - S.length) o, by rw [List.set_append_right _ _ h]⟩
theorem last_get (S : Sto) (o : O) : (S ++ [o])[S.length]? = some o := by simp
theorem ix_nat {α : Type} {xs : List α} {j : Nat} (h : j < xs.length) : atI xs (j : Int) = some xs[j] := atI_nat (List.getElem?_eq_getElem h)
theorem ix_lit {α : Type} {xs : List α} {v : α} (j : Nat) (h : xs[j]? = some v) : atI xs (j : Int) = some v := atI_nat h
theorem small_of {n m : Nat} (h : n ≤ m) (hm : m ≤ 1000000) : small n := Nat.le_trans h hm
theorem map_get {α : Type} {xs : List α} {f : α → D} {i : Nat} {d : D} (h : (xs.map f)[i]? = some d) : ∃ x, xs[i]? = some x ∧ d = f x := by
  rw [List.getElem?_map] at h
  cases e : xs[i]? with
  | none => rw [e] at h; cases h
  | some x => rw [e] at h; exact ⟨x, rfl, (Option.some.inj h).symm⟩
theorem num_ok {l i m : Int} (h1 : l ≤ i) (h2 : i ≤ m) : (decide (l ≤ i) && decide (i ≤ m)) = true := by simp [h1, h2]
section
variable {stay : Sto → Prop} {step : D → Sto → (Option D → Sto → Prop) → Prop} {S : Sto} {Q : List D → Sto → Prop} {α : Type}
theorem comp_on (g : α → D) (f : α → Option D) (l : List α) (hs : stay S) (hl : small l.length) (h : ∀ a ∈ l, ∀ k : Option D → Sto → Prop, k (f a) S → step (g a) S k) (q : Q (l.filterMap f) S) : wComp stay step (l.map g) [] S Q := by
  refine comp_inv (fun i acc S' => S' = S ∧ acc = (l.take i).filterMap f) (l.map g) 0 ⟨rfl, by simp⟩ (fun i acc S' h => ?_) (fun j x acc S' k hx h' hk => ?_) (fun acc S' h => ?_)
  · obtain ⟨rfl, rfl⟩ := h
    exact ⟨hs, Nat.le_trans (List.length_filterMap_le _ _) (Nat.le_trans (List.length_take_le' _ _) hl)⟩
  · obtain ⟨rfl, rfl⟩ := h'
    obtain ⟨a, ha, rfl⟩ := map_get hx
    refine h a (List.mem_of_getElem? ha) k (hk _ _ ⟨rfl, ?_⟩)
    rw [Nat.zero_add, List.take_add_one, ha, Option.toList_some, List.filterMap_append]
    cases e : f a <;> simp [e]
  · obtain ⟨rfl, rfl⟩ := h
    rw [Nat.zero_add, List.length_map, List.take_length]
    exact q
theorem comp_onm (g : α → D) (f : α → D) (l : List α) (hs : stay S) (hl : small l.length) (h : ∀ a ∈ l, ∀ k : Option D → Sto → Prop, k (some (f a)) S → step (g a) S k) (q : Q (l.map f) S) : wComp stay step (l.map g) [] S Q :=
  comp_on g (fun a => some (f a)) l hs hl h (by rw [show l.filterMap (fun x => some (f x)) = l.map f from by induction l with | nil => rfl | cons y r ih => simp]; exact q)
end
theorem rngD_eq : ∀ (lo n : Nat), rngD lo n = (List.range' lo n).map nD
  | _, 0 => rfl
  | lo, n + 1 => by
    show D.int lo :: rngD ((lo : Int) + 1) n = _
    rw [show ((lo : Int) + 1) = ((lo + 1 : Nat) : Int) from rfl, rngD_eq (lo + 1) n, List.range'_succ]
    rfl
theorem rngD_zero (n : Nat) : rngD 0 n = (List.range n).map nD := by
  rw [List.range_eq_range']
  exact rngD_eq 0 n
theorem nums_lt {tests : List Tst} {rows : List Row} {i : Nat} (h : i ∈ numsOf tests rows) : i < rows.length := by
  have := (List.mem_filter.mp h).1
  simpa using this
def worth (kd : Str) (field : Nat) (rows : List Row) : Option Int :=
  if kd = "count" then some (rows.length : Int) else if kd = "sum" then some (rows.map fun r => r.getD field 0).sum else if kd = "least" then mmOf false (rows.map fun r => r.getD field 0) else mmOf true (rows.map fun r => r.getD field 0)
def worths (r : Rp) (rows : List Row) : List (Option Int) := r.sums.map fun s => worth s.1 s.2 rows
def footHolds (ws : List (Option Int)) : Option Tst → Bool
  | none => true
  | some u => holdsB (ws.getD u.1 none) u.2.1 u.2.2
def footLine (level : Nat) (key : List Int) (ws : List (Option Int)) (ns : List Nat) : D := .tup [.str "foot", nD level, .tup (key.map D.int), .tup (ns.map fun n => optD (ws.getD n none))]
def footLines (r : Rp) (level : Nat) (key : List Int) (rows : List Row) : List D :=
  match r.feet.getD level none with
  | none => []
  | some (ns, t) => if footHolds (worths r rows) t = true then [footLine level key (worths r rows) ns] else []
def putIn (kf : Nat → List Int) (gs : List (List Int × List Nat)) (n : Nat) : List (List Int × List Nat) :=
  match gs.getLast? with
  | none => [(kf n, [n])]
  | some (k, ns) => if k = kf n then gs.dropLast ++ [(k, ns ++ [n])] else gs ++ [(kf n, [n])]
def groupsOf (kf : Nat → List Int) (nums : List Nat) : List (List Int × List Nat) := nums.foldl (putIn kf) []
def groups (r : Rp) (rows : List Row) (level : Nat) (nums : List Nat) : List (List Int × List Nat) :=
  if level = 0 then [([], nums)] else groupsOf (fun n => keyOf (r.keys.take level) (rows.getD n [])) nums
def headL (r : Rp) (level : Nat) (key : List Int) : List D := if r.heads.getD level false = true then [.tup [.str "head", nD level, .tup (key.map D.int)]] else []
def rowL (n : Nat) : D := .tup [.str "row", nD n]
def part (r : Rp) (rows : List Row) (deep : List Nat → List D) (level : Nat) (g : List Int × List Nat) : List D :=
  headL r level g.1 ++ (if level < r.keys.length then deep g.2 else if r.detail = true then g.2.map rowL else []) ++ footLines r level g.1 (g.2.map fun n => rows.getD n [])
def lvl (r : Rp) (rows : List Row) : Nat → Nat → List Nat → List D
  | 0, level, nums => (groups r rows level nums).flatMap (part r rows (fun _ => []) level)
  | j + 1, level, nums => (groups r rows level nums).flatMap (part r rows (lvl r rows j (level + 1)) level)
def deepOf (r : Rp) (rows : List Row) : Nat → Nat → List Nat → List D
  | 0, _ => fun _ => []
  | j + 1, level => lvl r rows j (level + 1)
theorem foot_len (r : Rp) (level : Nat) (key : List Int) (rows : List Row) : (footLines r level key rows).length ≤ 1 := by
  unfold footLines
  split
  · simp
  · split <;> simp
section
variable {S : Sto} {Q : D → Sto → Prop}
theorem pEq_ii (i j : Int) : pEq (.int i) (.int j) S Q = Q (.bl (decide (i = j))) S := rfl
theorem pEq_ss (i j : Str) : pEq (.str i) (.str j) S Q = Q (.bl (decide (i = j))) S := rfl
theorem pEq_bb (i j : Bool) : pEq (.bl i) (.bl j) S Q = Q (.bl (decide (i = j))) S := rfl
theorem pNe_ii (i j : Int) : pNe (.int i) (.int j) S Q = Q (.bl (!decide (i = j))) S := rfl
theorem pNe_ss (i j : Str) : pNe (.str i) (.str j) S Q = Q (.bl (!decide (i = j))) S := rfl
theorem pNe_bb (i j : Bool) : pNe (.bl i) (.bl j) S Q = Q (.bl (!decide (i = j))) S := rfl
theorem pPlus_ii (i j : Int) : pPlus (.int i) (.int j) S Q = Q (.int (i + j)) S := rfl
theorem pPlus_tt (xs ys : List D) : pPlus (.tup xs) (.tup ys) S Q = (small (xs.length + ys.length) ∧ Q (.tup (xs ++ ys)) S) := rfl
theorem pLt_ii (i j : Int) : pLt (.int i) (.int j) S Q = Q (.bl (decide (i < j))) S := rfl
theorem pLt_tt (xs ys : List D) : pLt (.tup xs) (.tup ys) S Q = ∃ ns ms, intsOf xs = some ns ∧ intsOf ys = some ms ∧ Q (.bl (HT.lexLt ns ms)) S := rfl
theorem pGe_ii (i j : Int) : pGe (.int i) (.int j) S Q = Q (.bl (decide (j ≤ i))) S := rfl
theorem pGeP_ii (i j : Int) : pGeP (.int i) (.int j) S Q = Q (.bl (decide (j ≤ i))) S := rfl
theorem pGeP_pp (xs ys : List D) (i j : Int) : pGeP (.tup [.tup xs, .int i]) (.tup [.tup ys, .int j]) S Q = ∃ ns ms, xs = ns.map D.int ∧ ys = ms.map D.int ∧ Q (.bl (if ns = ms then decide (j ≤ i) else !HT.lexLt ns ms)) S := rfl
theorem pLen_t (xs : List D) : pLen [.tup xs] S Q = ∃ ys, itemsAre S (.tup xs) ys ∧ Q (.int ys.length) S := rfl
theorem pLen_r (n : Nat) : pLen [.ref n] S Q = ∃ ys, itemsAre S (.ref n) ys ∧ Q (.int ys.length) S := rfl
theorem pLen_o (xs : List D) : pLen [.ro xs] S Q = ∃ ys, itemsAre S (.ro xs) ys ∧ Q (.int ys.length) S := rfl
end
abbrev Gm := List (List Int × List Nat × Nat)
def encG (x : List Int × List Nat × Nat) : D := .tup [.tup (x.1.map D.int), .ref x.2.2]
structure GmOk (S : Sto) (g : Nat) (gm : Gm) (S' : Sto) : Prop where
  ext : Ext S S'
  lst : S'[g]? = some (.lst (gm.map encG))
  each : ∀ x ∈ gm, S'[x.2.2]? = some (.lst (x.2.1.map nD)) ∧ g < x.2.2
  nd : (gm.map (·.2.2)).Nodup
theorem set_ne {S : Sto} {n m : Nat} {o : O} (h : n ≠ m) : (S.set n o)[m]? = S[m]? := List.getElem?_set_ne h
theorem set_eq {S : Sto} {n : Nat} {o o' : O} (h : S[n]? = some o') : (S.set n o)[n]? = some o := List.getElem?_set_self (List.getElem?_eq_some_iff.mp h).1
theorem GmOk.snoc {S S' : Sto} {g : Nat} {gm : Gm} (h : GmOk S g gm S') (hg : S.length ≤ g) (key : List Int) (m : Nat) :
    GmOk S g (gm ++ [(key, [m], S'.length)]) (((S' ++ [O.lst []]).set g (.lst (gm.map encG ++ [.tup [.tup (key.map D.int), .ref S'.length]]))).set S'.length (.lst [nD m])) := by
  have hl : g < S'.length := (List.getElem?_eq_some_iff.mp h.lst).1
  have h1 : (S' ++ [O.lst []])[g]? = some (.lst (gm.map encG)) := (Ext.push _ _).get h.lst
  have h2 : ((S' ++ [O.lst []]).set g (.lst (gm.map encG ++ [.tup [.tup (key.map D.int), .ref S'.length]])))[S'.length]? = some (.lst []) := by rw [set_ne (by omega)]; exact last_get _ _
  refine ⟨((h.ext.trans (Ext.push _ _)).set hg _).set h.ext.len _, ?_, fun x hx => ?_, ?_⟩
  · rw [set_ne (by omega), set_eq h1]
    simp [encG]
  · rcases List.mem_append.mp hx with z | z
    · obtain ⟨h3, h4⟩ := h.each x z
      have h5 : x.2.2 < S'.length := (List.getElem?_eq_some_iff.mp h3).1
      refine ⟨?_, h4⟩
      rw [set_ne (by omega), set_ne (by omega)]
      exact (Ext.push _ _).get h3
    · have : x = (key, [m], S'.length) := by simpa using z
      subst this
      exact ⟨set_eq h2, hl⟩
  · rw [List.map_append, List.nodup_append]
    refine ⟨h.nd, by simp, fun a ha b hb => ?_⟩
    obtain ⟨x, hx, rfl⟩ := List.mem_map.mp ha
    have h5 : x.2.2 < S'.length := (List.getElem?_eq_some_iff.mp (h.each x hx).1).1
    have hb : b = S'.length := by simpa using hb
    omega
theorem GmOk.more {S S' : Sto} {g : Nat} {gm : Gm} {k : List Int} {ns : List Nat} {a : Nat} (h : GmOk S g (gm ++ [(k, ns, a)]) S') (hg : S.length ≤ g) (m : Nat) :
    GmOk S g (gm ++ [(k, ns ++ [m], a)]) (S'.set a (.lst ((ns.map nD) ++ [nD m]))) := by
  obtain ⟨h1, h2⟩ := h.each (k, ns, a) (by simp)
  dsimp only at h1 h2
  refine ⟨h.ext.set (by omega) _, ?_, fun x hx => ?_, ?_⟩
  · rw [set_ne (by omega), h.lst]
    simp [encG]
  · rcases List.mem_append.mp hx with z | z
    · obtain ⟨h3, h4⟩ := h.each x (by simp [z])
      have hne : x.2.2 ≠ a := by
        have := h.nd
        rw [List.map_append, List.nodup_append] at this
        exact this.2.2 _ (List.mem_map_of_mem z) a (by simp)
      exact ⟨by rw [set_ne (Ne.symm hne)]; exact h3, h4⟩
    · have : x = (k, ns ++ [m], a) := by simpa using z
      subst this
      refine ⟨?_, h2⟩
      dsimp only
      rw [set_eq h1, List.map_append]; rfl
  · have := h.nd
    simpa using this
def prev (sp : Nat → PN) : Nat → PN
  | 0 => fun _ _ _ => False
  | j + 1 => sp j
structure LLs (S : Sto) (g : Nat) (gm : Gm) (T : List D) (S' : Sto) : Prop where
  ext : Ext S S'
  told : S'[S.length]? = some (.lst T)
  lst : S'[g]? = some (.lst (gm.map encG))
  each : ∀ x ∈ gm, S'[x.2.2]? = some (.lst (x.2.1.map nD))
theorem LLs.more {S S' S2 : Sto} {g : Nat} {gm : Gm} {T : List D} (h : LLs S g gm T S') (e : Ext S' S2) : LLs S g gm T S2 := ⟨h.ext.trans e, e.get h.told, e.get h.lst, fun x hx => e.get (h.each x hx)⟩
theorem LLs.tell {S S' : Sto} {g : Nat} {gm : Gm} {T : List D} (h : LLs S g gm T S') (hg : g ≠ S.length) (hx : ∀ x ∈ gm, x.2.2 ≠ S.length) (T' : List D) : LLs S g gm T' (S'.set S.length (.lst T')) :=
  ⟨h.ext.set (Nat.le_refl _) _, set_eq h.told, by rw [set_ne (Ne.symm hg)]; exact h.lst, fun x hm => by rw [set_ne (Ne.symm (hx x hm))]; exact h.each x hm⟩
theorem small1k {n : Nat} (h : n ≤ 1000) : small n := Nat.le_trans h (by decide)
end Br
namespace Br
open PySem L2 L3
def StL (st : List D) : Prop := ∃ (sc : List Int) (i m c : Int), st = [.ro (sc.map D.int), .int i, .int m, .int c] ∧ 0 ≤ i ∧ 0 ≤ m ∧ m < 2147483647 ∧ 0 ≤ c
def StS (S : Sto) (n : Nat) : Prop := ∃ st, S[n]? = some (.lst st) ∧ StL st
structure Dr (n : Nat) (S S' : Sto) : Prop where
  keep : ∀ m o, m ≠ n → S[m]? = some o → S'[m]? = some o
  st : StS S' n
  len : S.length ≤ S'.length
theorem Dr.refl {n : Nat} {S : Sto} (h : StS S n) : Dr n S S := ⟨fun _ _ _ h => h, h, Nat.le_refl _⟩
theorem Dr.trans {n : Nat} {S S1 S2 : Sto} (a : Dr n S S1) (b : Dr n S1 S2) : Dr n S S2 := ⟨fun m o h e => b.keep m o h (a.keep m o h e), b.st, Nat.le_trans a.len b.len⟩
theorem Dr.ext {n : Nat} {S S1 S2 : Sto} (a : Dr n S S1) (b : Ext S1 S2) : Dr n S S2 := by
  obtain ⟨st, h1, h2⟩ := a.st
  exact ⟨fun m o h e => b.get (a.keep m o h e), ⟨st, b.get h1, h2⟩, Nat.le_trans a.len b.len⟩
theorem Dr.push {n : Nat} {S S1 : Sto} (a : Dr n S S1) (o : O) : Dr n S (S1 ++ [o]) := a.ext (Ext.push _ _)
theorem Dr.lt {n : Nat} {S S1 : Sto} (a : Dr n S S1) : n < S1.length := by obtain ⟨st, h1, _⟩ := a.st; exact (List.getElem?_eq_some_iff.mp h1).1
theorem StS.lt {n : Nat} {S : Sto} (a : StS S n) : n < S.length := by obtain ⟨st, h1, _⟩ := a; exact (List.getElem?_eq_some_iff.mp h1).1
theorem Dr.set {n : Nat} {S S1 : Sto} (a : Dr n S S1) {st : List D} (h : StL st) : Dr n S (S1.set n (.lst st)) := by
  obtain ⟨st0, h1, _⟩ := a.st
  exact ⟨fun m o hm e => by rw [set_ne (Ne.symm hm)]; exact a.keep m o hm e, ⟨st, set_eq h1, h⟩, by rw [List.length_set]; exact a.len⟩
theorem Dr.put {n m : Nat} {S S1 : Sto} (a : Dr n S S1) (hm : S.length ≤ m) (hn : n < S.length) (o : O) : Dr n S (S1.set m o) := by
  obtain ⟨st0, h1, h2⟩ := a.st
  refine ⟨fun j o' hj e => ?_, ⟨st0, by rw [set_ne (by omega)]; exact h1, h2⟩, by rw [List.length_set]; exact a.len⟩
  have := (List.getElem?_eq_some_iff.mp e).1
  rw [set_ne (by omega)]
  exact a.keep j o' hj e
theorem Ext.dr {n : Nat} {S S1 : Sto} (a : Ext S S1) (h : StS S n) : Dr n S S1 := (Dr.refl h).ext a
theorem comp_draw {α : Type} {n : Nat} {S0 S : Sto} {step : D → Sto → (Option D → Sto → Prop) → Prop} {Q : List D → Sto → Prop} (enc : α → D) (ok : α → Prop) (xs : List D) (hl : xs.length ≤ 1000) (hst : Dr n S0 S)
    (h : ∀ S' (x : D) (k : Option D → Sto → Prop), x ∈ xs → Dr n S0 S' → (∀ a S'', ok a → Dr n S' S'' → k (some (enc a)) S'') → step x S' k)
    (q : ∀ (as : List α) S', as.length = xs.length → (∀ a ∈ as, ok a) → Dr n S0 S' → Q (as.map enc) S') : wComp (fun _ => True) step xs [] S Q := by
  refine comp_inv (fun i acc S' => ∃ as : List α, acc = as.map enc ∧ as.length = i ∧ i ≤ xs.length ∧ (∀ a ∈ as, ok a) ∧ Dr n S0 S') xs 0 ⟨[], rfl, rfl, Nat.zero_le _, fun x hx => (by cases hx), hst⟩ (fun i acc S' h => ?_) (fun j x acc S' k hx h' hk => ?_) (fun acc S' h => ?_)
  · obtain ⟨as, rfl, a1, a2, a3, a4⟩ := h
    exact ⟨trivial, by rw [List.length_map]; exact small1k (by omega)⟩
  · obtain ⟨as, rfl, a1, a2, a3, a4⟩ := h'
    have hj := (List.getElem?_eq_some_iff.mp hx).1
    refine h S' x k (List.mem_of_getElem? hx) a4 fun a S'' oa da => hk _ _ ⟨as ++ [a], by simp, by simp [a1], by omega, fun y hy => ?_, a4.trans da⟩
    rcases List.mem_append.mp hy with z | z
    · exact a3 y z
    · have : y = a := by simpa using z
      rw [this]; exact oa
  · obtain ⟨as, rfl, a1, a2, a3, a4⟩ := h
    exact q as S' (by omega) a3 a4
end Br
namespace Br
open PySem L2 L3
inductive Flat : D → D → Prop
  | non : Flat .non .non
  | bl (b : Bool) : Flat (.bl b) (.bl b)
  | int (i : Int) : Flat (.int i) (.int i)
  | str (x : Str) : Flat (.str x) (.str x)
inductive Kids (S : Sto) : D → D → List D → List D → Prop
  | tup (xs ys : List D) : Kids S (.tup xs) (.tup ys) xs ys
  | lst {n m : Nat} {xs ys : List D} : S[n]? = some (.lst xs) → S[m]? = some (.lst ys) → Kids S (.ref n) (.ref m) xs ys
def Alike (S : Sto) : Nat → D → D → Prop
  | 0, a, b => Flat a b
  | j + 1, a, b => Flat a b ∨ ∃ xs ys, Kids S a b xs ys ∧ xs.length = ys.length ∧ xs.length ≤ 1000 ∧ ∀ (i : Nat) x y, xs[i]? = some x → ys[i]? = some y → Alike S j x y
theorem Kids.ext {S S' : Sto} {a b : D} {xs ys : List D} (h : Kids S a b xs ys) (e : Ext S S') : Kids S' a b xs ys := by
  cases h with
  | tup xs ys => exact .tup _ _
  | lst h1 h2 => exact .lst (e.get h1) (e.get h2)
theorem Alike.ext {S S' : Sto} (e : Ext S S') : ∀ {j : Nat} {a b : D}, Alike S j a b → Alike S' j a b
  | 0, _, _, h => h
  | j + 1, _, _, h => by
    rcases h with h | ⟨xs, ys, h1, h2, h3, h4⟩
    · exact .inl h
    · exact .inr ⟨xs, ys, h1.ext e, h2, h3, fun i x y hx hy => Alike.ext e (h4 i x y hx hy)⟩
theorem Kids.items {S : Sto} {a b : D} {xs ys : List D} (h : Kids S a b xs ys) : itemsAre S a xs ∧ itemsAre S b ys := by
  cases h with
  | tup _ _ => exact ⟨rfl, rfl⟩
  | lst h1 h2 => exact ⟨h1, h2⟩
section
variable {S : Sto} {Q : D → Sto → Prop}
theorem pEq_flat {a b : D} (h : Flat a b) (q : Q (.bl true) S) : pEq a b S Q := by
  cases h with
  | non => exact ⟨true, .deep .non .non (by decide) (by decide) rfl, q⟩
  | bl b => show Q (.bl (decide (b = b))) S; rw [decide_eq_true rfl]; exact q
  | int b => show Q (.bl (decide (b = b))) S; rw [decide_eq_true rfl]; exact q
  | str b => show Q (.bl (decide (b = b))) S; rw [decide_eq_true rfl]; exact q
theorem pEq_nils {n m : Nat} (h1 : S[n]? = some (.lst [])) (h2 : S[m]? = some (.lst [])) (q : Q (.bl true) S) : pEq (.ref n) (.ref m) S Q := ⟨true, .deep (.ref h1 .nil) (.ref h2 .nil) (by decide) (by decide) rfl, q⟩
end
theorem rep_tup {K : PySem.W.Frag} {H : Hp} {μ : List Addr} {a : Addr} {o : Obj} {its : Array Value} {n : Nat} {ds : List D} {vs : List V} (l : K.lookup a = some o) (hc : o.cls = .type "tuple") (hd : o.data = .seq its n) (hz : its.size ≤ sizeLine) (hv : Vals vs its.toList) (hr : Reps K H μ ds vs) : Rep K H μ (.tup ds) (.ref a) :=
  .tup (.inr ⟨o, its, n, l, hc, hd, hz, hv⟩) hr
theorem vals_strs : ∀ xs : List (Str × Tok), Vals (xs.map fun p => V.str p.1) (xs.map fun p => Value.str p.1 p.2)
  | [] => .nil
  | p :: r => .cons ⟨p.2, rfl⟩ (vals_strs r)
theorem reps_strs' {K : PySem.W.Frag} {H : Hp} {μ : List Addr} : ∀ xs : List (Str × Tok), Reps K H μ (xs.map fun p => D.str p.1) (xs.map fun p => V.str p.1)
  | [] => .nil
  | p :: r => .cons (.str _) (reps_strs' r)
theorem rep_words {K : PySem.W.Frag} {a : Addr} {od : Option Addr} {n : Nat} {sl : Array (Option Value)} (xs : List (Str × Tok)) (hs : xs.length ≤ 100) (l : K.lookup a = some ⟨.type "tuple", od, .seq (xs.map fun p => Value.str p.1 p.2).toArray n, sl⟩) (H : Hp) (μ : List Addr) :
    Rep K H μ (.tup (xs.map fun p => D.str p.1)) (.ref a) :=
  rep_tup (vs := xs.map fun p => V.str p.1) l rfl rfl (by simp only [List.size_toArray, List.length_map]; exact Nat.le_trans hs (by decide)) (by simpa using vals_strs xs) (reps_strs' xs)
end Br
namespace Br
open PySem L2 L3
section
variable (r : Rp) (rows : List Row)
def kfl (l : Nat) (n : Nat) : List Int := keyOf (r.keys.take l) (rows.getD n [])
def rowsPart (ns : List Nat) : List D := if r.detail = true then ns.map rowL else []
def rowsOf (ns : List Nat) : List Row := ns.map fun n => rows.getD n []
def opn : Nat → Nat → List Nat → List D
  | 0, l, X => match (groupsOf (kfl r rows l) X).getLast? with
    | none => []
    | some (k, ns) => (groupsOf (kfl r rows l) X).dropLast.flatMap (part r rows (deepOf r rows 0 l) l) ++ headL r l k ++ (if l < r.keys.length then [] else rowsPart r ns)
  | j + 1, l, X => match (groupsOf (kfl r rows l) X).getLast? with
    | none => []
    | some (k, ns) => (groupsOf (kfl r rows l) X).dropLast.flatMap (part r rows (deepOf r rows (j + 1) l) l) ++ headL r l k ++ (if l < r.keys.length then opn j (l + 1) ns else rowsPart r ns)
def cls : Nat → Nat → List Nat → List D
  | 0, l, X => match (groupsOf (kfl r rows l) X).getLast? with
    | none => []
    | some (k, ns) => footLines r l k (rowsOf rows ns)
  | j + 1, l, X => match (groupsOf (kfl r rows l) X).getLast? with
    | none => []
    | some (k, ns) => (if l < r.keys.length then cls j (l + 1) ns else []) ++ footLines r l k (rowsOf rows ns)
structure Low (a n low : Nat) : Prop where
  one : 1 ≤ low
  most : low ≤ r.keys.length + 1
  same : ∀ m, m < low → kfl r rows m a = kfl r rows m n
  differs : low ≤ r.keys.length → kfl r rows low a ≠ kfl r rows low n
def body (j : Nat) (X : List Nat) : List D := headL r 0 [] ++ (if 0 < r.keys.length then opn r rows j 1 X else rowsPart r X)
end
end Br
namespace Br
open PySem L2 L3
theorem getD_at {α : Type} {l : List α} {i : Nat} {d : α} (h : i < l.length) : l.getD i d = l[i] := by simp [h]
theorem getD_mem {α : Type} {l : List α} {i : Nat} {d : α} (h : i < l.length) : l.getD i d ∈ l := by rw [getD_at h]; exact List.getElem_mem h
theorem kfl_take (r : Rp) (rows : List Row) (l a : Nat) : kfl r rows l a = (keyOf r.keys (rows.getD a [])).take l := by
  unfold kfl keyOf
  rw [List.map_take]
theorem key_len (keys : List Nat) (row : Row) : (keyOf keys row).length = keys.length := List.length_map _
theorem Ext.lt_of {S : Sto} {n : Nat} {o : O} (h : S[n]? = some o) : n < S.length := (List.getElem?_eq_some_iff.mp h).1
def Lw (r : Rp) (rows : List Row) (X : List Nat) (i low : Nat) : Prop := (X = [] ∧ low = 1) ∨ ∃ a, X.getLast? = some a ∧ Low r rows a i low
theorem Lw.one {r : Rp} {rows : List Row} {X : List Nat} {i low : Nat} (h : Lw r rows X i low) : 1 ≤ low ∧ low ≤ r.keys.length + 1 := by
  rcases h with ⟨_, h⟩ | ⟨a, _, h⟩
  · omega
  · exact ⟨h.one, h.most⟩
structure LnS (r : Rp) (rows : List Row) (S : Sto) (f an : Nat) (ls : List Nat) (T : List D) (A : Nat → List Nat) (S' : Sto) : Prop where
  ext : Ext S S'
  fl : S.length ≤ f
  al : S.length ≤ an
  fa : f ≠ an
  tl : S'[f]? = some (.lst T)
  ad : S'[an]? = some (.lst (ls.map D.ref))
  ll : ls.length = r.keys.length + 1
  nl : ∀ l, l ≤ r.keys.length → ls.getD l 0 ≠ an
  eq : ∀ l, l ≤ r.keys.length → S'[ls.getD l 0]? = some (.lst ((rowsOf rows (A l)).map rowD))
theorem LnS.more {r : Rp} {rows : List Row} {S S' S2 : Sto} {f an : Nat} {ls : List Nat} {T : List D} {A : Nat → List Nat} (h : LnS r rows S f an ls T A S') (e : Ext S' S2) : LnS r rows S f an ls T A S2 :=
  ⟨h.ext.trans e, h.fl, h.al, h.fa, e.get h.tl, e.get h.ad, h.ll, h.nl, fun l hl => e.get (h.eq l hl)⟩
theorem LnS.tell {r : Rp} {rows : List Row} {S S' S2 : Sto} {f an f2 : Nat} {ls : List Nat} {T T2 : List D} {A : Nat → List Nat} (h : LnS r rows S f an ls T A S') (e : Ext S' S2) (h2 : S'.length ≤ f2) (ht : S2[f2]? = some (.lst T2)) : LnS r rows S f2 an ls T2 A S2 :=
  ⟨h.ext.trans e, Nat.le_trans h.ext.len h2, h.al, by have := Ext.lt_of h.ad; omega, ht, e.get h.ad, h.ll, h.nl, fun l hl => e.get (h.eq l hl)⟩
theorem LnS.wipe {r : Rp} {rows : List Row} {S S' : Sto} {f an l : Nat} {ls : List Nat} {T : List D} {A : Nat → List Nat} (h : LnS r rows S f an ls T A S') (hl : l ≤ r.keys.length) :
    LnS r rows S f an (ls.set l S'.length) T (fun m => if m = l then [] else A m) ((S' ++ [O.lst []]).set an (.lst ((ls.map D.ref).set l (.ref S'.length)))) := by
  have h1 := Ext.lt_of h.ad
  have hn := h.ext.len
  have hg : ∀ m, (ls.set l S'.length).getD m 0 = if m = l then S'.length else ls.getD m 0 := fun m => by
    by_cases e : m = l
    · subst e
      rw [if_pos rfl, List.getD_eq_getElem?_getD, List.getElem?_set_self (by have := h.ll; omega)]
      rfl
    · rw [if_neg e, List.getD_eq_getElem?_getD, List.getElem?_set_ne (Ne.symm e), ← List.getD_eq_getElem?_getD]
  refine ⟨(h.ext.trans (.push _ _)).set h.al _, h.fl, h.al, h.fa, ?_, ?_, by rw [List.length_set]; exact h.ll, fun m hm => ?_, fun m hm => ?_⟩
  · rw [set_ne (Ne.symm h.fa)]; exact (Ext.push _ _).get h.tl
  · rw [set_eq ((Ext.push _ _).get h.ad), List.map_set]
  · rw [hg]
    split
    · omega
    · exact h.nl m hm
  · have hne : (ls.set l S'.length).getD m 0 ≠ an := by
      rw [hg]
      split
      · omega
      · exact h.nl m hm
    rw [set_ne (Ne.symm hne), hg]
    by_cases e : m = l
    · rw [if_pos e, if_pos e]; exact last_get _ _
    · rw [if_neg e, if_neg e]; exact (Ext.push _ _).get (h.eq m hm)
theorem LnS.congr {r : Rp} {rows : List Row} {S S' : Sto} {f an : Nat} {ls : List Nat} {T T2 : List D} {A B : Nat → List Nat} (h : LnS r rows S f an ls T A S') (ht : T = T2) (e : ∀ l, l ≤ r.keys.length → A l = B l) : LnS r rows S f an ls T2 B S' :=
  ⟨h.ext, h.fl, h.al, h.fa, by rw [← ht]; exact h.tl, h.ad, h.ll, h.nl, fun l hl => by rw [← e l hl]; exact h.eq l hl⟩
theorem LnS.ref {r : Rp} {rows : List Row} {S S' : Sto} {f an : Nat} {ls : List Nat} {T : List D} {A : Nat → List Nat} (h : LnS r rows S f an ls T A S') : (List.range (r.keys.length + 1)).map (fun l => D.ref (ls.getD l 0)) = ls.map D.ref := by
  apply List.ext_getElem (by simp [h.ll])
  intro i h1 h2
  have : i < ls.length := by simpa using h2
  simp [this]
def Fl (d : D) : Prop := Flat d d
def Fl1 (d : D) : Prop := Fl d ∨ ∃ ys, d = .tup ys ∧ ys.length ≤ 1000 ∧ ∀ y ∈ ys, Fl y
theorem alike1 (S : Sto) {d : D} (h : Fl1 d) : Alike S 1 d d := by
  rcases h with h | ⟨ys, rfl, h1, h2⟩
  · exact .inl h
  · refine .inr ⟨ys, ys, .tup _ _, rfl, h1, fun i x y hx hy => ?_⟩
    rw [hx] at hy; cases hy
    exact h2 x (List.mem_of_getElem? hx)
end Br
namespace Br
open PySem L2 L3
inductive Line
  | head (l : Nat) (k : List Int)
  | row (n : Nat)
  | foot (l : Nat) (k : List Int) (ws : List (Option Int))
def lineD : Line → D
  | .head l k => .tup [.str "head", nD l, .tup (k.map D.int)]
  | .row n => .tup [.str "row", nD n]
  | .foot l k ws => .tup [.str "foot", nD l, .tup (k.map D.int), .tup (ws.map optD)]
def bare (r : Rp) : Rp := ⟨r.fields, r.keys, r.tests, [], List.replicate (r.keys.length + 1) false, List.replicate (r.keys.length + 1) (some ([], none)), false⟩
def partL (r : Rp) (rows : List Row) (deep : List Nat → List Line) (level : Nat) (g : List Int × List Nat) : List Line :=
  Line.head level g.1 :: ((if level < r.keys.length then deep g.2 else g.2.map Line.row) ++ [Line.foot level g.1 (worths r (g.2.map fun n => rows.getD n []))])
def lvlL (r : Rp) (rows : List Row) : Nat → Nat → List Nat → List Line
  | 0, level, nums => (groups r rows level nums).flatMap (partL r rows (fun _ => []) level)
  | j + 1, level, nums => (groups r rows level nums).flatMap (partL r rows (lvlL r rows j (level + 1)) level)
theorem lex_take : ∀ (k : Nat) (a b : List Int), a.length = b.length → HT.lexLt b a = false → HT.lexLt (b.take k) (a.take k) = false
  | 0, a, b, _, _ => by simp [HT.lexLt]
  | k + 1, [], [], _, h => h
  | k + 1, [], _ :: _, hl, _ => by simp at hl
  | k + 1, _ :: _, [], hl, _ => by simp at hl
  | k + 1, x :: a, y :: b, hl, h => by
    rw [List.take_succ_cons, List.take_succ_cons, HT.lexLt_cons]
    rw [HT.lexLt_cons] at h
    by_cases e : y = x
    · rw [if_pos e] at h ⊢
      exact lex_take k a b (by simpa using hl) h
    · rw [if_neg e] at h ⊢
      exact h
def DpOk (S : Sto) (k : Nat) (d : D) : Prop := ∃ p, Deep S d p ∧ PyData.canLay0 p = true ∧ PyData.depth p ≤ k
section
variable {S : Sto} {Q : D → Sto → Prop}
theorem DpOk.le {k j : Nat} {d : D} (h : DpOk S k d) (hj : k ≤ j) : DpOk S j d := by
  obtain ⟨p, h1, h2, h3⟩ := h
  exact ⟨p, h1, h2, Nat.le_trans h3 hj⟩
end
end Br
namespace Br
open PySem L2 L3
def totD (r : Rp) (rows : List Row) (g : List Int × List Nat) : D := .tup [.tup (g.1.map D.int), .tup ((worths r (rowsOf rows g.2)).map optD)]
def totL (r : Rp) (rows : List Row) (l : Nat) (nums : List Nat) : List D := (groups r rows l nums).map (totD r rows)
structure ToS (S : Sto) (tl : Nat) (ls : List Nat) (i : Nat) (con : Nat → List D) (S' : Sto) : Prop where
  ext : Ext S S'
  tll : S.length ≤ tl
  told : S'[tl]? = some (.lst (ls.map D.ref))
  len : ls.length = i
  each : ∀ l, l < i → S.length ≤ ls.getD l 0 ∧ ls.getD l 0 ≠ tl ∧ S'[ls.getD l 0]? = some (.lst (con l))
  nd : ls.Nodup
theorem ToS.more {S S' S2 : Sto} {tl i : Nat} {ls : List Nat} {con : Nat → List D} (h : ToS S tl ls i con S') (e : Ext S' S2) : ToS S tl ls i con S2 :=
  ⟨h.ext.trans e, h.tll, e.get h.told, h.len, fun l hl => ⟨(h.each l hl).1, (h.each l hl).2.1, e.get (h.each l hl).2.2⟩, h.nd⟩
theorem getD_snoc_lt {ls : List Nat} {m l : Nat} (h : l < ls.length) : (ls ++ [m]).getD l 0 = ls.getD l 0 := by
  rw [List.getD_eq_getElem?_getD, List.getElem?_append_left h, ← List.getD_eq_getElem?_getD]
theorem getD_snoc_eq {ls : List Nat} {m : Nat} : (ls ++ [m]).getD ls.length 0 = m := by
  rw [List.getD_eq_getElem?_getD]; simp
theorem ToS.tell {S S' : Sto} {tl i : Nat} {ls : List Nat} {con : Nat → List D} (h : ToS S tl ls i con S') : ToS S tl (ls ++ [S'.length]) (i + 1) con ((S' ++ [O.lst (con i)]).set tl (.lst (ls.map D.ref ++ [.ref S'.length]))) := by
  have h1 := Ext.lt_of h.told
  have hn := h.ext.len
  have hlt : ∀ l, l < i → ls.getD l 0 < S'.length := fun l hl => Ext.lt_of (h.each l hl).2.2
  refine ⟨(h.ext.trans (.push _ _)).set h.tll _, h.tll, ?_, by simp [h.len], fun l hl => ?_, ?_⟩
  · rw [set_eq ((Ext.push _ _).get h.told)]
    simp
  · by_cases e : l < i
    · rw [getD_snoc_lt (by rw [h.len]; exact e)]
      obtain ⟨a, b, c⟩ := h.each l e
      exact ⟨a, b, by rw [set_ne (Ne.symm b)]; exact (Ext.push _ _).get c⟩
    · have : l = i := by omega
      subst this
      rw [← h.len, getD_snoc_eq]
      rw [h.len]
      exact ⟨hn, by omega, by rw [set_ne (by omega)]; exact last_get _ _⟩
  · rw [List.nodup_append]
    refine ⟨h.nd, by simp, fun a ha b hb e => ?_⟩
    have hb : b = S'.length := by simpa using hb
    obtain ⟨j, hj, ej⟩ := List.mem_iff_getElem.mp ha
    have := hlt j (by rw [← h.len]; exact hj)
    rw [getD_at hj, ej] at this
    omega
def dicOf (gm : Gm) : List (List Int × D) := gm.map fun x => (x.1, D.ref x.2.2)
structure GdOk (rows : List Row) (S : Sto) (g : Nat) (gm : Gm) (S' : Sto) : Prop where
  ext : Ext S S'
  gl : S.length ≤ g
  dic : S'[g]? = some (.dic (dicOf gm))
  each : ∀ x ∈ gm, S'[x.2.2]? = some (.lst ((rowsOf rows x.2.1).map rowD)) ∧ g < x.2.2
  nd : (gm.map (·.2.2)).Nodup
theorem GdOk.snoc {rows : List Row} {S S' : Sto} {g : Nat} {gm : Gm} (h : GdOk rows S g gm S') (key : List Int) (m : Nat) :
    GdOk rows S g (gm ++ [(key, [m], S'.length)]) (((S' ++ [O.lst []]).set g (.dic (dicOf gm ++ [(key, .ref S'.length)]))).set S'.length (.lst [rowD (rows.getD m [])])) := by
  have hl : g < S'.length := Ext.lt_of h.dic
  have h1 : (S' ++ [O.lst []])[g]? = some (.dic (dicOf gm)) := (Ext.push _ _).get h.dic
  have h2 : ((S' ++ [O.lst []]).set g (.dic (dicOf gm ++ [(key, .ref S'.length)])))[S'.length]? = some (.lst []) := by rw [set_ne (by omega)]; exact last_get _ _
  refine ⟨((h.ext.trans (Ext.push _ _)).set h.gl _).set h.ext.len _, h.gl, ?_, fun x hx => ?_, ?_⟩
  · rw [set_ne (by omega), set_eq h1]
    simp [dicOf]
  · rcases List.mem_append.mp hx with z | z
    · obtain ⟨h3, h4⟩ := h.each x z
      have h5 : x.2.2 < S'.length := Ext.lt_of h3
      refine ⟨?_, h4⟩
      rw [set_ne (by omega), set_ne (by omega)]
      exact (Ext.push _ _).get h3
    · have : x = (key, [m], S'.length) := by simpa using z
      subst this
      exact ⟨set_eq h2, hl⟩
  · rw [List.map_append, List.nodup_append]
    refine ⟨h.nd, by simp, fun a ha b hb => ?_⟩
    obtain ⟨x, hx, rfl⟩ := List.mem_map.mp ha
    have h5 : x.2.2 < S'.length := Ext.lt_of (h.each x hx).1
    have hb : b = S'.length := by simpa using hb
    omega
theorem GdOk.push {rows : List Row} {S S' : Sto} {g : Nat} {gm : Gm} (h : GdOk rows S g gm S') (o : O) : GdOk rows S g gm (S' ++ [o]) :=
  ⟨h.ext.trans (.push _ _), h.gl, (Ext.push _ _).get h.dic, fun x hx => ⟨(Ext.push _ _).get (h.each x hx).1, (h.each x hx).2⟩, h.nd⟩
theorem GdOk.more {rows : List Row} {S S' : Sto} {g : Nat} {gm : Gm} {k : List Int} {ns : List Nat} {a : Nat} (h : GdOk rows S g (gm ++ [(k, ns, a)]) S') (m : Nat) :
    GdOk rows S g (gm ++ [(k, ns ++ [m], a)]) (S'.set a (.lst ((rowsOf rows ns).map rowD ++ [rowD (rows.getD m [])]))) := by
  obtain ⟨h1, h2⟩ := h.each (k, ns, a) (by simp)
  dsimp only at h1 h2
  refine ⟨h.ext.set (by have := h.gl; omega) _, h.gl, ?_, fun x hx => ?_, ?_⟩
  · rw [set_ne (by omega), h.dic]
    simp [dicOf]
  · rcases List.mem_append.mp hx with z | z
    · obtain ⟨h3, h4⟩ := h.each x (by simp [z])
      have hne : x.2.2 ≠ a := by
        have := h.nd
        rw [List.map_append, List.nodup_append] at this
        exact this.2.2 _ (List.mem_map_of_mem z) a (by simp)
      exact ⟨by rw [set_ne (Ne.symm hne)]; exact h3, h4⟩
    · have : x = (k, ns ++ [m], a) := by simpa using z
      subst this
      refine ⟨?_, h2⟩
      dsimp only
      rw [set_eq h1]
      simp [rowsOf]
  · have := h.nd
    simpa using this
end Br
namespace Br
open PySem L2 L3
def tell (r : Rp) : Line → List Line
  | .head l k => if r.heads.getD l false = true then [.head l k] else []
  | .row n => if r.detail = true then [.row n] else []
  | .foot l k ws => match r.feet.getD l none with
    | none => []
    | some (ns, t) => if footHolds ws t = true then [.foot l k (ns.map fun n => ws.getD n none)] else []
theorem tell_head (r : Rp) (l : Nat) (k : List Int) : tell r (.head l k) = if r.heads.getD l false = true then [.head l k] else [] := rfl
theorem tell_row (r : Rp) (n : Nat) : tell r (.row n) = if r.detail = true then [.row n] else [] := rfl
theorem tell_foot (r : Rp) (l : Nat) (k : List Int) (ws : List (Option Int)) : tell r (.foot l k ws) = match r.feet.getD l none with
    | none => []
    | some (ns, t) => if footHolds ws t = true then [.foot l k (ns.map fun n => ws.getD n none)] else [] := rfl
def linesOf (r : Rp) (rows : List Row) : List Line := (lvlL r rows 3 0 (numsOf r.tests rows)).flatMap (tell r)
def stands : Line → Line → Bool
  | .head l _, .head m _ => decide (l < m)
  | .head _ _, _ => true
  | .row _, .foot _ _ _ => true
  | .foot l _ _, .foot m _ _ => decide (m < l)
  | _, _ => false
def addB (bs : List (List Line)) (x : Line) : List (List Line) := bs.dropLast ++ [bs.getLastD [] ++ [x]]
def stepB (acc : List (List Line) × Option Line) (x : Line) : List (List Line) × Option Line :=
  (match acc.2 with | some p => if stands p x = true then addB acc.1 x else acc.1 ++ [[x]] | none => acc.1 ++ [[x]], some x)
def blocksOf (ls : List Line) : List (List Line) := (ls.foldl stepB ([], none)).1
def putH (h : Nat → Option (List Int)) : Line → Nat → Option (List Int)
  | .head l k => fun m => if m = l then some k else h m
  | _ => h
def lastH (h : Nat → Option (List Int)) (P : List Line) : Nat → Option (List Int) := P.foldl putH h
theorem lastH_app (h : Nat → Option (List Int)) (P Q : List Line) : lastH h (P ++ Q) = lastH (lastH h P) Q := List.foldl_append
def keyL (r : Rp) (rows : List Row) : Line → List Int
  | .head _ k => k
  | .row n => keyOf r.keys (rows.getD n [])
  | .foot _ k _ => k
def levelsL (r : Rp) : Line → Nat
  | .head l _ => l
  | .row _ => r.keys.length + 1
  | .foot l _ _ => l + 1
def prevA (prev : Option Line) (P : List Line) : Option Line := match P.getLast? with | some x => some x | none => prev
structure GoodAt (r : Rp) (rows : List Row) (h : Nat → Option (List Int)) (prev : Option Line) (x : Line) : Prop where
  a : ∀ l, l < levelsL r x → r.heads.getD l false = true → h l = some ((keyL r rows x).take l)
  b : ∀ l, r.heads.getD l false = false → h l = none
  c : ∀ L k ws, x = .foot L k ws → (∀ p, prev = some p → stands p x = false) → ∀ l, L < l → l ≤ r.keys.length → h l = none
def Good (r : Rp) (rows : List Row) (h : Nat → Option (List Int)) (prev : Option Line) : List Line → Prop
  | [] => True
  | x :: t => GoodAt r rows h prev x ∧ Good r rows (putH h x) (some x) t
theorem Good.at' {r : Rp} {rows : List Row} : ∀ {P Q : List Line} {x : Line} {h : Nat → Option (List Int)} {prev : Option Line}, Good r rows h prev (P ++ x :: Q) → GoodAt r rows (lastH h P) (prevA prev P) x
  | [], Q, x, h, prev, g => g.1
  | y :: P, Q, x, h, prev, g => by
    have := Good.at' (P := P) g.2
    have e : prevA prev (y :: P) = prevA (some y) P := by
      unfold prevA
      cases P with
      | nil => rfl
      | cons z P => rw [List.getLast?_cons_cons]; cases hh : (z :: P).getLast? with
        | none => simp at hh
        | some u => rfl
    rw [e]; exact this
def Deeper (L : Nat) : Line → Prop
  | .head l _ => L < l
  | .row _ => True
  | .foot l _ _ => L < l
theorem tell_mem {r : Rp} {x y : Line} (h : y ∈ tell r x) : (∃ l k, x = .head l k ∧ y = .head l k ∧ r.heads.getD l false = true) ∨ (∃ n, x = .row n ∧ y = .row n ∧ r.detail = true) ∨ ∃ l k ws ws', x = .foot l k ws ∧ y = .foot l k ws' := by
  cases x with
  | head l k =>
    rw [tell_head] at h
    split at h
    · rename_i hh; have : y = .head l k := by simpa using h
      exact .inl ⟨l, k, rfl, this, hh⟩
    · cases h
  | row n =>
    rw [tell_row] at h
    split at h
    · rename_i hh; have : y = .row n := by simpa using h
      exact .inr (.inl ⟨n, rfl, this, hh⟩)
    · cases h
  | foot l k ws =>
    rw [tell_foot] at h
    split at h
    · cases h
    · split at h
      · exact .inr (.inr ⟨l, k, ws, _, rfl, List.mem_singleton.mp h⟩)
      · cases h
theorem Deeper.tell {r : Rp} {L : Nat} {x y : Line} (h : y ∈ tell r x) (d : Deeper L x) : Deeper L y := by
  rcases tell_mem h with ⟨l, k, rfl, rfl, _⟩ | ⟨n, rfl, rfl, _⟩ | ⟨l, k, ws, ws', rfl, rfl⟩
  · exact d
  · exact d
  · exact d
theorem Deeper.mono {L M : Nat} (h : L ≤ M) {x : Line} (d : Deeper M x) : Deeper L x := by
  cases x with
  | head l k => exact Nat.lt_of_le_of_lt h d
  | row n => trivial
  | foot l k ws => exact Nat.lt_of_le_of_lt h d
end Br
namespace Br
open PySem L2 L3
structure GrOk (r : Rp) (rows : List Row) (level : Nat) (nums : List Nat) (g : List Int × List Nat) : Prop where
  ne : g.2 ≠ []
  sub : ∀ n ∈ g.2, n ∈ nums
  key : ∀ n ∈ g.2, kfl r rows level n = g.1
section
variable {r : Rp} {rows : List Row}
end
def againOf (r : Rp) (rows : List Row) (again : List Nat) (x : Line) : List (Nat × List Int) := (again.filter fun l => decide (l < levelsL r x) && r.heads.getD l false).map fun l => (l, (keyL r rows x).take l)
end Br
namespace Br
open PySem L2 L3
structure LL (S : Sto) (m : Nat) (ls : List Nat) (xss : List (List D)) (S' : Sto) : Prop where
  ext : Ext S S'
  top : S'[m]? = some (.lst (ls.map D.ref))
  len : ls.length = xss.length
  each : ∀ (i : Nat) (h : i < ls.length), S'[ls[i]]? = some (.lst (xss.getD i []))
  fr : ∀ n ∈ m :: ls, S.length ≤ n
  nd : (m :: ls).Nodup
section
variable {S S' : Sto} {m : Nat} {ls : List Nat} {xss : List (List D)}
theorem LL.new (S : Sto) : LL S S.length [] [] (S ++ [.lst []]) := by
  refine ⟨.push _ _, last_get _ _, rfl, fun i h => by simp at h, fun n hn => ?_, by simp⟩
  have : n = S.length := by simpa using hn
  omega
theorem LL.more (h : LL S m ls xss S') {S2 : Sto} (e : Ext S' S2) : LL S m ls xss S2 := ⟨h.ext.trans e, e.get h.top, h.len, fun i hi => e.get (h.each i hi), h.fr, h.nd⟩
theorem LL.base (h : LL S m ls xss S') {S0 : Sto} (e : Ext S0 S) : LL S0 m ls xss S' := ⟨e.trans h.ext, h.top, h.len, h.each, fun n hn => Nat.le_trans e.len (h.fr n hn), h.nd⟩
theorem LL.mlt (h : LL S m ls xss S') : m < S'.length := (List.getElem?_eq_some_iff.mp h.top).1
theorem LL.lt (h : LL S m ls xss S') : ∀ n ∈ ls, n < S'.length := fun n hn => by
  obtain ⟨i, hi, e⟩ := List.getElem_of_mem hn
  have := h.each i hi
  rw [e] at this
  exact (List.getElem?_eq_some_iff.mp this).1
theorem LL.snoc (h : LL S m ls xss S') (xs : List D) : LL S m (ls ++ [S'.length]) (xss ++ [xs]) ((S' ++ [O.lst xs]).set m (O.lst (ls.map D.ref ++ [D.ref S'.length]))) := by
  have hm := h.mlt
  have hnd := List.nodup_cons.mp h.nd
  have hsz : S.length ≤ S'.length := h.ext.len
  refine ⟨(h.ext.trans (.push _ _)).set (h.fr m List.mem_cons_self) _, ?_, by simp [h.len], fun i hi => ?_, fun n hn => ?_, ?_⟩
  · rw [List.map_append]
    exact List.getElem?_set_self (by rw [List.length_append]; omega)
  · by_cases c : i < ls.length
    · have e : (ls ++ [S'.length])[i] = ls[i] := List.getElem_append_left c
      rw [e, List.getElem?_set_ne (fun z => hnd.1 (by rw [z]; exact List.getElem_mem c)), List.getElem?_append_left (h.lt _ (List.getElem_mem c)), h.each i c]
      congr 2
      rw [List.getD_eq_getElem?_getD, List.getD_eq_getElem?_getD, List.getElem?_append_left (by rw [← h.len]; exact c)]
    · have hi' : i = ls.length := by rw [List.length_append] at hi; simp at hi; omega
      subst hi'
      have e : (ls ++ [S'.length])[ls.length] = S'.length := by simp
      rw [e, List.getElem?_set_ne (by omega), last_get]
      congr 2
      rw [h.len]
      simp
  · rcases List.mem_cons.mp hn with rfl | hn
    · exact h.fr _ List.mem_cons_self
    · rcases List.mem_append.mp hn with hn | hn
      · exact h.fr n (List.mem_cons_of_mem _ hn)
      · have : n = S'.length := by simpa using hn
        omega
  · refine List.nodup_cons.mpr ⟨fun z => ?_, List.nodup_append.mpr ⟨hnd.2, by simp, fun a ha b hb e => ?_⟩⟩
    · rcases List.mem_append.mp z with z | z
      · exact hnd.1 z
      · have : m = S'.length := by simpa using z
        omega
    · have hb : b = S'.length := by simpa using hb
      have := h.lt a ha
      omega
theorem LL.last (h : LL S m ls xss S') {n : Nat} (hl : ls.getLast? = some n) (xs : List D) : LL S m ls (xss.dropLast ++ [xs]) (S'.set n (O.lst xs)) := by
  have hnd := List.nodup_cons.mp h.nd
  have hn := List.mem_of_getLast? hl
  have hne : ls ≠ [] := List.ne_nil_of_mem hn
  have hpos : 0 < ls.length := List.length_pos_iff.mpr hne
  have elast : ls[ls.length - 1] = n := by
    rw [List.getLast?_eq_some_getLast hne] at hl
    have := Option.some.inj hl
    rw [← this, List.getLast_eq_getElem]
  have hxl : (xss.dropLast ++ [xs]).length = ls.length := by
    have := h.len
    rw [List.length_append, List.length_dropLast, List.length_singleton]
    omega
  refine ⟨h.ext.set (h.fr n (List.mem_cons_of_mem _ hn)) _, ?_, hxl.symm, fun i hi => ?_, h.fr, h.nd⟩
  · rw [List.getElem?_set_ne (fun z => hnd.1 (by rw [← z]; exact hn))]; exact h.top
  · by_cases c : i = ls.length - 1
    · subst c
      rw [elast, List.getElem?_set_self (h.lt n hn)]
      congr 2
      rw [List.getD_eq_getElem?_getD, List.getElem?_append_right (by rw [List.length_dropLast, h.len]; omega)]
      simp [h.len]
    · have : n ≠ ls[i] := fun z => c ((List.getElem_inj hnd.2).mp (z.symm.trans elast.symm))
      rw [List.getElem?_set_ne this, h.each i hi]
      congr 2
      rw [List.getD_eq_getElem?_getD, List.getD_eq_getElem?_getD, List.getElem?_append_left (by rw [List.length_dropLast, ← h.len]; omega), List.getElem?_dropLast, if_pos (by rw [← h.len]; omega)]
end
inductive Pg
  | page (n : Nat)
  | again (l : Nat) (k : List Int)
  | ln (x : Line)
def pgD : Pg → D
  | .page n => .tup [.str "page", nD n]
  | .again l k => .tup [.str "again", nD l, .tup (k.map D.int)]
  | .ln x => lineD x
def newPg (n : Nat) (ag : List (Nat × List Int)) : List Pg := .page n :: ag.map fun q => .again q.1 q.2
def full (size : Nat) (ps : List (List Pg)) (b : List Line) : Bool := ps.isEmpty || decide (size < (ps.getLastD []).length + b.length)
def stepP (ag : List (Nat × List Int)) (size : Nat) (ps : List (List Pg)) (b : List Line) : List (List Pg) :=
  if full size ps b = true then ps ++ [newPg (ps.length + 1) ag ++ b.map Pg.ln] else ps.dropLast ++ [ps.getLastD [] ++ b.map Pg.ln]
def agB (r : Rp) (rows : List Row) (again : List Nat) : List Line → List (Nat × List Int)
  | x :: _ => againOf r rows again x
  | [] => []
def pagesOf (r : Rp) (rows : List Row) (again : List Nat) (size : Nat) (bs : List (List Line)) : List (List Pg) := bs.foldl (fun ps b => stepP (agB r rows again b) size ps b) []
end Br
namespace Br
open PySem L2 L3
section
variable {S : Sto} {Q : D → Sto → Prop}
theorem ix_of {d : D} {xs : List D} {v : D} {i : Int} (h : atI xs i = some v) (hd : d = .tup xs) : pIx d (.int i) S Q = Q v S := by
  subst hd
  apply propext
  constructor
  · rintro ⟨ys, x, e1, e2, q⟩
    have e1 : xs = ys := e1
    subst e1
    rw [h] at e2
    cases e2
    exact q
  · intro q; exact ⟨xs, v, rfl, h, q⟩
theorem pIx_0 {a : D} {r : List D} : pIx (.tup (a :: r)) (.int 0) S Q = Q a S := ix_of (ix_lit 0 rfl) rfl
theorem pIx_1 {a b : D} {r : List D} : pIx (.tup (a :: b :: r)) (.int 1) S Q = Q b S := ix_of (ix_lit 1 rfl) rfl
theorem pIx_2 {a b c : D} {r : List D} : pIx (.tup (a :: b :: c :: r)) (.int 2) S Q = Q c S := ix_of (ix_lit 2 rfl) rfl
theorem pIx_3 {a b c d : D} {r : List D} : pIx (.tup (a :: b :: c :: d :: r)) (.int 3) S Q = Q d S := ix_of (ix_lit 3 rfl) rfl
theorem pIx_4 {a b c d e : D} {r : List D} : pIx (.tup (a :: b :: c :: d :: e :: r)) (.int 4) S Q = Q e S := ix_of (ix_lit 4 rfl) rfl
theorem pIx_5 {a b c d e f : D} {r : List D} : pIx (.tup (a :: b :: c :: d :: e :: f :: r)) (.int 5) S Q = Q f S := ix_of (ix_lit 5 rfl) rfl
theorem pIx_6 {a b c d e f g : D} {r : List D} : pIx (.tup (a :: b :: c :: d :: e :: f :: g :: r)) (.int 6) S Q = Q g S := ix_of (ix_lit 6 rfl) rfl
theorem pLen_tup (xs : List D) : pLen [.tup xs] S Q = Q (.int xs.length) S := by
  apply propext
  constructor
  · rintro ⟨ys, e, q⟩
    have e : xs = ys := e
    subst e
    exact q
  · intro q; exact ⟨xs, rfl, q⟩
end
theorem ws_head_row : ((Str.ofString "head" : Str) = Str.ofString "row") = False := eq_false (by decide)
theorem ws_head_foot : ((Str.ofString "head" : Str) = Str.ofString "foot") = False := eq_false (by decide)
theorem ws_head_page : ((Str.ofString "head" : Str) = Str.ofString "page") = False := eq_false (by decide)
theorem ws_head_again : ((Str.ofString "head" : Str) = Str.ofString "again") = False := eq_false (by decide)
theorem ws_row_head : ((Str.ofString "row" : Str) = Str.ofString "head") = False := eq_false (by decide)
theorem ws_row_foot : ((Str.ofString "row" : Str) = Str.ofString "foot") = False := eq_false (by decide)
theorem ws_row_page : ((Str.ofString "row" : Str) = Str.ofString "page") = False := eq_false (by decide)
theorem ws_row_again : ((Str.ofString "row" : Str) = Str.ofString "again") = False := eq_false (by decide)
theorem ws_foot_head : ((Str.ofString "foot" : Str) = Str.ofString "head") = False := eq_false (by decide)
theorem ws_foot_row : ((Str.ofString "foot" : Str) = Str.ofString "row") = False := eq_false (by decide)
theorem ws_foot_page : ((Str.ofString "foot" : Str) = Str.ofString "page") = False := eq_false (by decide)
theorem ws_foot_again : ((Str.ofString "foot" : Str) = Str.ofString "again") = False := eq_false (by decide)
theorem ws_page_head : ((Str.ofString "page" : Str) = Str.ofString "head") = False := eq_false (by decide)
theorem ws_page_row : ((Str.ofString "page" : Str) = Str.ofString "row") = False := eq_false (by decide)
theorem ws_page_foot : ((Str.ofString "page" : Str) = Str.ofString "foot") = False := eq_false (by decide)
theorem ws_page_again : ((Str.ofString "page" : Str) = Str.ofString "again") = False := eq_false (by decide)
theorem ws_again_head : ((Str.ofString "again" : Str) = Str.ofString "head") = False := eq_false (by decide)
theorem ws_again_row : ((Str.ofString "again" : Str) = Str.ofString "row") = False := eq_false (by decide)
theorem ws_again_foot : ((Str.ofString "again" : Str) = Str.ofString "foot") = False := eq_false (by decide)
theorem ws_again_page : ((Str.ofString "again" : Str) = Str.ofString "page") = False := eq_false (by decide)
theorem ws_add_drop : ((Str.ofString "add" : Str) = Str.ofString "drop") = False := eq_false (by decide)
theorem ws_add_set : ((Str.ofString "add" : Str) = Str.ofString "set") = False := eq_false (by decide)
theorem ws_drop_add : ((Str.ofString "drop" : Str) = Str.ofString "add") = False := eq_false (by decide)
theorem ws_drop_set : ((Str.ofString "drop" : Str) = Str.ofString "set") = False := eq_false (by decide)
theorem ws_set_add : ((Str.ofString "set" : Str) = Str.ofString "add") = False := eq_false (by decide)
theorem ws_set_drop : ((Str.ofString "set" : Str) = Str.ofString "drop") = False := eq_false (by decide)
theorem ws_next_test : ((Str.ofString "next" : Str) = Str.ofString "test") = False := eq_false (by decide)
theorem ws_next_same : ((Str.ofString "next" : Str) = Str.ofString "same") = False := eq_false (by decide)
theorem ws_next_first : ((Str.ofString "next" : Str) = Str.ofString "first") = False := eq_false (by decide)
theorem ws_next_go : ((Str.ofString "next" : Str) = Str.ofString "go") = False := eq_false (by decide)
theorem ws_next_keep : ((Str.ofString "next" : Str) = Str.ofString "keep") = False := eq_false (by decide)
theorem ws_next_add : ((Str.ofString "next" : Str) = Str.ofString "add") = False := eq_false (by decide)
theorem ws_next_begin : ((Str.ofString "next" : Str) = Str.ofString "begin") = False := eq_false (by decide)
theorem ws_next_row : ((Str.ofString "next" : Str) = Str.ofString "row") = False := eq_false (by decide)
theorem ws_next_head : ((Str.ofString "next" : Str) = Str.ofString "head") = False := eq_false (by decide)
theorem ws_next_foot : ((Str.ofString "next" : Str) = Str.ofString "foot") = False := eq_false (by decide)
theorem ws_next_end : ((Str.ofString "next" : Str) = Str.ofString "end") = False := eq_false (by decide)
theorem ws_test_next : ((Str.ofString "test" : Str) = Str.ofString "next") = False := eq_false (by decide)
theorem ws_test_same : ((Str.ofString "test" : Str) = Str.ofString "same") = False := eq_false (by decide)
theorem ws_test_first : ((Str.ofString "test" : Str) = Str.ofString "first") = False := eq_false (by decide)
theorem ws_test_go : ((Str.ofString "test" : Str) = Str.ofString "go") = False := eq_false (by decide)
theorem ws_test_keep : ((Str.ofString "test" : Str) = Str.ofString "keep") = False := eq_false (by decide)
theorem ws_test_add : ((Str.ofString "test" : Str) = Str.ofString "add") = False := eq_false (by decide)
theorem ws_test_begin : ((Str.ofString "test" : Str) = Str.ofString "begin") = False := eq_false (by decide)
theorem ws_test_row : ((Str.ofString "test" : Str) = Str.ofString "row") = False := eq_false (by decide)
theorem ws_test_head : ((Str.ofString "test" : Str) = Str.ofString "head") = False := eq_false (by decide)
theorem ws_test_foot : ((Str.ofString "test" : Str) = Str.ofString "foot") = False := eq_false (by decide)
theorem ws_test_end : ((Str.ofString "test" : Str) = Str.ofString "end") = False := eq_false (by decide)
theorem ws_same_next : ((Str.ofString "same" : Str) = Str.ofString "next") = False := eq_false (by decide)
theorem ws_same_test : ((Str.ofString "same" : Str) = Str.ofString "test") = False := eq_false (by decide)
theorem ws_same_first : ((Str.ofString "same" : Str) = Str.ofString "first") = False := eq_false (by decide)
theorem ws_same_go : ((Str.ofString "same" : Str) = Str.ofString "go") = False := eq_false (by decide)
theorem ws_same_keep : ((Str.ofString "same" : Str) = Str.ofString "keep") = False := eq_false (by decide)
theorem ws_same_add : ((Str.ofString "same" : Str) = Str.ofString "add") = False := eq_false (by decide)
theorem ws_same_begin : ((Str.ofString "same" : Str) = Str.ofString "begin") = False := eq_false (by decide)
theorem ws_same_row : ((Str.ofString "same" : Str) = Str.ofString "row") = False := eq_false (by decide)
theorem ws_same_head : ((Str.ofString "same" : Str) = Str.ofString "head") = False := eq_false (by decide)
theorem ws_same_foot : ((Str.ofString "same" : Str) = Str.ofString "foot") = False := eq_false (by decide)
theorem ws_same_end : ((Str.ofString "same" : Str) = Str.ofString "end") = False := eq_false (by decide)
theorem ws_first_next : ((Str.ofString "first" : Str) = Str.ofString "next") = False := eq_false (by decide)
theorem ws_first_test : ((Str.ofString "first" : Str) = Str.ofString "test") = False := eq_false (by decide)
theorem ws_first_same : ((Str.ofString "first" : Str) = Str.ofString "same") = False := eq_false (by decide)
theorem ws_first_go : ((Str.ofString "first" : Str) = Str.ofString "go") = False := eq_false (by decide)
theorem ws_first_keep : ((Str.ofString "first" : Str) = Str.ofString "keep") = False := eq_false (by decide)
theorem ws_first_add : ((Str.ofString "first" : Str) = Str.ofString "add") = False := eq_false (by decide)
theorem ws_first_begin : ((Str.ofString "first" : Str) = Str.ofString "begin") = False := eq_false (by decide)
theorem ws_first_row : ((Str.ofString "first" : Str) = Str.ofString "row") = False := eq_false (by decide)
theorem ws_first_head : ((Str.ofString "first" : Str) = Str.ofString "head") = False := eq_false (by decide)
theorem ws_first_foot : ((Str.ofString "first" : Str) = Str.ofString "foot") = False := eq_false (by decide)
theorem ws_first_end : ((Str.ofString "first" : Str) = Str.ofString "end") = False := eq_false (by decide)
theorem ws_go_next : ((Str.ofString "go" : Str) = Str.ofString "next") = False := eq_false (by decide)
theorem ws_go_test : ((Str.ofString "go" : Str) = Str.ofString "test") = False := eq_false (by decide)
theorem ws_go_same : ((Str.ofString "go" : Str) = Str.ofString "same") = False := eq_false (by decide)
theorem ws_go_first : ((Str.ofString "go" : Str) = Str.ofString "first") = False := eq_false (by decide)
theorem ws_go_keep : ((Str.ofString "go" : Str) = Str.ofString "keep") = False := eq_false (by decide)
theorem ws_go_add : ((Str.ofString "go" : Str) = Str.ofString "add") = False := eq_false (by decide)
theorem ws_go_begin : ((Str.ofString "go" : Str) = Str.ofString "begin") = False := eq_false (by decide)
theorem ws_go_row : ((Str.ofString "go" : Str) = Str.ofString "row") = False := eq_false (by decide)
theorem ws_go_head : ((Str.ofString "go" : Str) = Str.ofString "head") = False := eq_false (by decide)
theorem ws_go_foot : ((Str.ofString "go" : Str) = Str.ofString "foot") = False := eq_false (by decide)
theorem ws_go_end : ((Str.ofString "go" : Str) = Str.ofString "end") = False := eq_false (by decide)
theorem ws_keep_next : ((Str.ofString "keep" : Str) = Str.ofString "next") = False := eq_false (by decide)
theorem ws_keep_test : ((Str.ofString "keep" : Str) = Str.ofString "test") = False := eq_false (by decide)
theorem ws_keep_same : ((Str.ofString "keep" : Str) = Str.ofString "same") = False := eq_false (by decide)
theorem ws_keep_first : ((Str.ofString "keep" : Str) = Str.ofString "first") = False := eq_false (by decide)
theorem ws_keep_go : ((Str.ofString "keep" : Str) = Str.ofString "go") = False := eq_false (by decide)
theorem ws_keep_add : ((Str.ofString "keep" : Str) = Str.ofString "add") = False := eq_false (by decide)
theorem ws_keep_begin : ((Str.ofString "keep" : Str) = Str.ofString "begin") = False := eq_false (by decide)
theorem ws_keep_row : ((Str.ofString "keep" : Str) = Str.ofString "row") = False := eq_false (by decide)
theorem ws_keep_head : ((Str.ofString "keep" : Str) = Str.ofString "head") = False := eq_false (by decide)
theorem ws_keep_foot : ((Str.ofString "keep" : Str) = Str.ofString "foot") = False := eq_false (by decide)
theorem ws_keep_end : ((Str.ofString "keep" : Str) = Str.ofString "end") = False := eq_false (by decide)
theorem ws_add_next : ((Str.ofString "add" : Str) = Str.ofString "next") = False := eq_false (by decide)
theorem ws_add_test : ((Str.ofString "add" : Str) = Str.ofString "test") = False := eq_false (by decide)
theorem ws_add_same : ((Str.ofString "add" : Str) = Str.ofString "same") = False := eq_false (by decide)
theorem ws_add_first : ((Str.ofString "add" : Str) = Str.ofString "first") = False := eq_false (by decide)
theorem ws_add_go : ((Str.ofString "add" : Str) = Str.ofString "go") = False := eq_false (by decide)
theorem ws_add_keep : ((Str.ofString "add" : Str) = Str.ofString "keep") = False := eq_false (by decide)
theorem ws_add_begin : ((Str.ofString "add" : Str) = Str.ofString "begin") = False := eq_false (by decide)
theorem ws_add_row : ((Str.ofString "add" : Str) = Str.ofString "row") = False := eq_false (by decide)
theorem ws_add_head : ((Str.ofString "add" : Str) = Str.ofString "head") = False := eq_false (by decide)
theorem ws_add_foot : ((Str.ofString "add" : Str) = Str.ofString "foot") = False := eq_false (by decide)
theorem ws_add_end : ((Str.ofString "add" : Str) = Str.ofString "end") = False := eq_false (by decide)
theorem ws_begin_next : ((Str.ofString "begin" : Str) = Str.ofString "next") = False := eq_false (by decide)
theorem ws_begin_test : ((Str.ofString "begin" : Str) = Str.ofString "test") = False := eq_false (by decide)
theorem ws_begin_same : ((Str.ofString "begin" : Str) = Str.ofString "same") = False := eq_false (by decide)
theorem ws_begin_first : ((Str.ofString "begin" : Str) = Str.ofString "first") = False := eq_false (by decide)
theorem ws_begin_go : ((Str.ofString "begin" : Str) = Str.ofString "go") = False := eq_false (by decide)
theorem ws_begin_keep : ((Str.ofString "begin" : Str) = Str.ofString "keep") = False := eq_false (by decide)
theorem ws_begin_add : ((Str.ofString "begin" : Str) = Str.ofString "add") = False := eq_false (by decide)
theorem ws_begin_row : ((Str.ofString "begin" : Str) = Str.ofString "row") = False := eq_false (by decide)
theorem ws_begin_head : ((Str.ofString "begin" : Str) = Str.ofString "head") = False := eq_false (by decide)
theorem ws_begin_foot : ((Str.ofString "begin" : Str) = Str.ofString "foot") = False := eq_false (by decide)
theorem ws_begin_end : ((Str.ofString "begin" : Str) = Str.ofString "end") = False := eq_false (by decide)
theorem ws_row_next : ((Str.ofString "row" : Str) = Str.ofString "next") = False := eq_false (by decide)
theorem ws_row_test : ((Str.ofString "row" : Str) = Str.ofString "test") = False := eq_false (by decide)
theorem ws_row_same : ((Str.ofString "row" : Str) = Str.ofString "same") = False := eq_false (by decide)
theorem ws_row_first : ((Str.ofString "row" : Str) = Str.ofString "first") = False := eq_false (by decide)
theorem ws_row_go : ((Str.ofString "row" : Str) = Str.ofString "go") = False := eq_false (by decide)
theorem ws_row_keep : ((Str.ofString "row" : Str) = Str.ofString "keep") = False := eq_false (by decide)
theorem ws_row_add : ((Str.ofString "row" : Str) = Str.ofString "add") = False := eq_false (by decide)
theorem ws_row_begin : ((Str.ofString "row" : Str) = Str.ofString "begin") = False := eq_false (by decide)
theorem ws_row_end : ((Str.ofString "row" : Str) = Str.ofString "end") = False := eq_false (by decide)
theorem ws_head_next : ((Str.ofString "head" : Str) = Str.ofString "next") = False := eq_false (by decide)
theorem ws_head_test : ((Str.ofString "head" : Str) = Str.ofString "test") = False := eq_false (by decide)
theorem ws_head_same : ((Str.ofString "head" : Str) = Str.ofString "same") = False := eq_false (by decide)
theorem ws_head_first : ((Str.ofString "head" : Str) = Str.ofString "first") = False := eq_false (by decide)
theorem ws_head_go : ((Str.ofString "head" : Str) = Str.ofString "go") = False := eq_false (by decide)
theorem ws_head_keep : ((Str.ofString "head" : Str) = Str.ofString "keep") = False := eq_false (by decide)
theorem ws_head_add : ((Str.ofString "head" : Str) = Str.ofString "add") = False := eq_false (by decide)
theorem ws_head_begin : ((Str.ofString "head" : Str) = Str.ofString "begin") = False := eq_false (by decide)
theorem ws_head_end : ((Str.ofString "head" : Str) = Str.ofString "end") = False := eq_false (by decide)
theorem ws_foot_next : ((Str.ofString "foot" : Str) = Str.ofString "next") = False := eq_false (by decide)
theorem ws_foot_test : ((Str.ofString "foot" : Str) = Str.ofString "test") = False := eq_false (by decide)
theorem ws_foot_same : ((Str.ofString "foot" : Str) = Str.ofString "same") = False := eq_false (by decide)
theorem ws_foot_first : ((Str.ofString "foot" : Str) = Str.ofString "first") = False := eq_false (by decide)
theorem ws_foot_go : ((Str.ofString "foot" : Str) = Str.ofString "go") = False := eq_false (by decide)
theorem ws_foot_keep : ((Str.ofString "foot" : Str) = Str.ofString "keep") = False := eq_false (by decide)
theorem ws_foot_add : ((Str.ofString "foot" : Str) = Str.ofString "add") = False := eq_false (by decide)
theorem ws_foot_begin : ((Str.ofString "foot" : Str) = Str.ofString "begin") = False := eq_false (by decide)
theorem ws_foot_end : ((Str.ofString "foot" : Str) = Str.ofString "end") = False := eq_false (by decide)
theorem ws_end_next : ((Str.ofString "end" : Str) = Str.ofString "next") = False := eq_false (by decide)
theorem ws_end_test : ((Str.ofString "end" : Str) = Str.ofString "test") = False := eq_false (by decide)
theorem ws_end_same : ((Str.ofString "end" : Str) = Str.ofString "same") = False := eq_false (by decide)
theorem ws_end_first : ((Str.ofString "end" : Str) = Str.ofString "first") = False := eq_false (by decide)
theorem ws_end_go : ((Str.ofString "end" : Str) = Str.ofString "go") = False := eq_false (by decide)
theorem ws_end_keep : ((Str.ofString "end" : Str) = Str.ofString "keep") = False := eq_false (by decide)
theorem ws_end_add : ((Str.ofString "end" : Str) = Str.ofString "add") = False := eq_false (by decide)
theorem ws_end_begin : ((Str.ofString "end" : Str) = Str.ofString "begin") = False := eq_false (by decide)
theorem ws_end_row : ((Str.ofString "end" : Str) = Str.ofString "row") = False := eq_false (by decide)
theorem ws_end_head : ((Str.ofString "end" : Str) = Str.ofString "head") = False := eq_false (by decide)
theorem ws_end_foot : ((Str.ofString "end" : Str) = Str.ofString "foot") = False := eq_false (by decide)
theorem ws_count_least : ((Str.ofString "count" : Str) = Str.ofString "least") = False := eq_false (by decide)
theorem ws_count_most : ((Str.ofString "count" : Str) = Str.ofString "most") = False := eq_false (by decide)
theorem ws_count_sum : ((Str.ofString "count" : Str) = Str.ofString "sum") = False := eq_false (by decide)
theorem ws_least_count : ((Str.ofString "least" : Str) = Str.ofString "count") = False := eq_false (by decide)
theorem ws_least_most : ((Str.ofString "least" : Str) = Str.ofString "most") = False := eq_false (by decide)
theorem ws_least_sum : ((Str.ofString "least" : Str) = Str.ofString "sum") = False := eq_false (by decide)
theorem ws_most_count : ((Str.ofString "most" : Str) = Str.ofString "count") = False := eq_false (by decide)
theorem ws_most_least : ((Str.ofString "most" : Str) = Str.ofString "least") = False := eq_false (by decide)
theorem ws_most_sum : ((Str.ofString "most" : Str) = Str.ofString "sum") = False := eq_false (by decide)
theorem ws_sum_count : ((Str.ofString "sum" : Str) = Str.ofString "count") = False := eq_false (by decide)
theorem ws_sum_least : ((Str.ofString "sum" : Str) = Str.ofString "least") = False := eq_false (by decide)
theorem ws_sum_most : ((Str.ofString "sum" : Str) = Str.ofString "most") = False := eq_false (by decide)
theorem ws_eq_ge : ((Str.ofString "eq" : Str) = Str.ofString "ge") = False := eq_false (by decide)
theorem ws_eq_lt : ((Str.ofString "eq" : Str) = Str.ofString "lt") = False := eq_false (by decide)
theorem ws_eq_ne : ((Str.ofString "eq" : Str) = Str.ofString "ne") = False := eq_false (by decide)
theorem ws_ge_eq : ((Str.ofString "ge" : Str) = Str.ofString "eq") = False := eq_false (by decide)
theorem ws_ge_lt : ((Str.ofString "ge" : Str) = Str.ofString "lt") = False := eq_false (by decide)
theorem ws_ge_ne : ((Str.ofString "ge" : Str) = Str.ofString "ne") = False := eq_false (by decide)
theorem ws_lt_eq : ((Str.ofString "lt" : Str) = Str.ofString "eq") = False := eq_false (by decide)
theorem ws_lt_ge : ((Str.ofString "lt" : Str) = Str.ofString "ge") = False := eq_false (by decide)
theorem ws_lt_ne : ((Str.ofString "lt" : Str) = Str.ofString "ne") = False := eq_false (by decide)
theorem ws_ne_eq : ((Str.ofString "ne" : Str) = Str.ofString "eq") = False := eq_false (by decide)
theorem ws_ne_ge : ((Str.ofString "ne" : Str) = Str.ofString "ge") = False := eq_false (by decide)
theorem ws_ne_lt : ((Str.ofString "ne" : Str) = Str.ofString "lt") = False := eq_false (by decide)
end Br
namespace Br
open PySem L2 L3
def HasP (S : Sto) (k : Nat) (d : D) : Prop := ∃ p, Deep S d p ∧ p.canLay0 = true ∧ p.depth ≤ k
section
variable {S : Sto} {k : Nat}
theorem HasP.all : ∀ {ds : List D}, (∀ d ∈ ds, HasP S k d) → ∃ ps, Deeps S ds ps ∧ PyData.canLayAll0 ps = true ∧ PyData.depthAll ps ≤ k ∧ ps.length = ds.length
  | [], _ => ⟨[], .nil, by simp [PyData.canLayAll0], by simp [PyData.depthAll], rfl⟩
  | d :: ds, h => by
    obtain ⟨p, h1, h2, h3⟩ := h d List.mem_cons_self
    obtain ⟨ps, g1, g2, g3, g4⟩ := HasP.all (ds := ds) fun x hx => h x (List.mem_cons_of_mem _ hx)
    refine ⟨p :: ps, .cons h1 g1, by simp [PyData.canLayAll0, h2, g2], ?_, by simp [g4]⟩
    simp only [PyData.depthAll]
    omega
theorem HasP.int (i : Int) : HasP S k (.int i) := ⟨_, .int i, by simp [PyData.canLay0], by simp [PyData.depth]⟩
theorem HasP.non : HasP S k .non := ⟨_, .non, by simp [PyData.canLay0], by simp [PyData.depth]⟩
theorem HasP.bl (b : Bool) : HasP S k (.bl b) := ⟨_, .bl b, by simp [PyData.canLay0], by simp [PyData.depth]⟩
theorem HasP.str {s : Str} (h : PyData.strOk s = true) : HasP S k (.str s) := ⟨_, .str s, by simp [PyData.canLay0, h], by simp [PyData.depth]⟩
theorem HasP.tup {ds : List D} (h : ∀ d ∈ ds, HasP S k d) : HasP S (k + 1) (.tup ds) := by
  obtain ⟨ps, h1, h2, h3, _⟩ := HasP.all h
  exact ⟨_, .tup h1, by simp [PyData.canLay0, h2], by simp only [PyData.depth]; omega⟩
theorem HasP.ref {n : Nat} {ds : List D} (hn : S[n]? = some (.lst ds)) (h : ∀ d ∈ ds, HasP S k d) : HasP S (k + 1) (.ref n) := by
  obtain ⟨ps, h1, h2, h3, _⟩ := HasP.all h
  exact ⟨_, .ref hn h1, by simp [PyData.canLay0, h2], by simp only [PyData.depth]; omega⟩
theorem HasP.ints (l : List Int) : HasP S (k + 1) (.tup (l.map D.int)) := .tup fun d hd => by obtain ⟨i, _, rfl⟩ := List.mem_map.mp hd; exact .int i
variable {Q : D → Sto → Prop}
end
def Risen (r : Rp) (rows : List Row) : Prop := (numsOf r.tests rows).Pairwise fun a b => HT.lexLt (keyOf r.keys (rows.getD b [])) (keyOf r.keys (rows.getD a [])) = false
structure Keep (cs : List Nat) (S S' : Sto) : Prop where
  keep : ∀ (i : Nat) (o : O), i ∉ cs → S[i]? = some o → S'[i]? = some o
  len : S.length ≤ S'.length
section
variable {cs : List Nat} {S S' S2 : Sto}
theorem Keep.refl (cs : List Nat) (S : Sto) : Keep cs S S := ⟨fun _ _ _ h => h, Nat.le_refl _⟩
theorem Keep.ext (h : Keep cs S S') (e : Ext S' S2) : Keep cs S S2 := ⟨fun i o hi h1 => e.get (h.keep i o hi h1), Nat.le_trans h.len e.len⟩
end
theorem LL.other {S S' : Sto} {m : Nat} {ls : List Nat} {xss : List (List D)} (h : LL S m ls xss S') {n : Nat} (hn : n ∉ m :: ls) (hS : S.length ≤ n) (o : O) : LL S m ls xss (S'.set n o) := by
  refine ⟨h.ext.set hS _, ?_, h.len, fun i hi => ?_, h.fr, h.nd⟩
  · rw [set_ne (show n ≠ m from fun z => hn (by rw [z]; exact List.mem_cons_self))]; exact h.top
  · rw [set_ne (show n ≠ ls[i] from fun z => hn (by rw [z]; exact List.mem_cons_of_mem _ (List.getElem_mem hi)))]; exact h.each i hi
section
variable {κ : Type} [DecidableEq κ]
theorem find_map (f : κ × D → κ × D) (hf : ∀ p, (f p).1 = p.1) (k : κ) : ∀ kvs : List (κ × D), (kvs.map f).find? (fun p => decide (p.1 = k)) = (kvs.find? fun p => decide (p.1 = k)).map f
  | [] => rfl
  | p :: t => by
    rw [List.map_cons, List.find?_cons, List.find?_cons, hf p]
    cases decide (p.1 = k) with
    | true => rfl
    | false => exact find_map f hf k t
theorem kGet_put (kvs : List (κ × D)) (k k' : κ) (d : D) : kGet (kPut kvs k d) k' = if k' = k then some d else kGet kvs k' := by
  unfold kPut
  split
  · rename_i h
    unfold kGet
    rw [find_map _ (fun p => by split <;> rfl)]
    cases e : kvs.find? fun p => decide (p.1 = k') with
    | none =>
      by_cases c : k' = k
      · subst c
        obtain ⟨p, hp, hq⟩ := List.any_eq_true.mp h
        have := List.find?_eq_none.mp e p hp
        exact absurd hq this
      · rw [if_neg c]; rfl
    | some p =>
      have hk : p.1 = k' := by have := List.find?_some e; simpa using this
      by_cases c : k' = k
      · rw [if_pos c]; simp [hk, c]
      · rw [if_neg c]; simp [hk, c]
  · rename_i h
    unfold kGet
    rw [List.find?_append]
    by_cases c : k' = k
    · subst c
      have : kvs.find? (fun p => decide (p.1 = k')) = none := by
        rw [List.find?_eq_none]
        intro p hp hq
        exact h (List.any_eq_true.mpr ⟨p, hp, hq⟩)
      rw [this]; simp
    · cases e : kvs.find? fun p => decide (p.1 = k') with
      | some p => rw [if_neg c]; rfl
      | none => rw [if_neg c]; simp [show ¬(k = k') from fun z => c z.symm]
theorem kPut_len (kvs : List (κ × D)) (k : κ) (d : D) : (kPut kvs k d).length ≤ kvs.length + 1 := by
  unfold kPut
  split <;> simp
end
structure HdOk (kvs : List (Key × D)) (P : List Line) : Prop where
  get : ∀ l : Nat, kGet kvs (.inl (l : Int)) = (lastH (fun _ => none) P l).map fun k => D.tup (k.map D.int)
  len : kvs.length ≤ P.length
theorem HdOk.nil : HdOk [] [] := ⟨fun _ => rfl, Nat.le_refl _⟩
theorem HdOk.put {kvs : List (Key × D)} {P : List Line} (h : HdOk kvs P) (l : Nat) (k : List Int) : HdOk (kPut kvs (.inl (l : Int)) (.tup (k.map D.int))) (P ++ [.head l k]) := by
  refine ⟨fun l' => ?_, ?_⟩
  · rw [kGet_put, lastH_app]
    show _ = ((putH (lastH (fun _ => none) P) (.head l k)) l').map _
    unfold putH
    by_cases c : l' = l
    · subst c; simp
    · rw [if_neg (by intro z; injection z with z; omega), h.get l']
      simp [c]
  · have := kPut_len kvs (.inl (l : Int)) (.tup (k.map D.int))
    have := h.len
    rw [List.length_append, List.length_singleton]
    omega
theorem HdOk.skip {kvs : List (Key × D)} {P : List Line} (h : HdOk kvs P) {x : Line} (hx : ∀ l k, x ≠ .head l k) : HdOk kvs (P ++ [x]) := by
  refine ⟨fun l' => ?_, by have := h.len; rw [List.length_append, List.length_singleton]; omega⟩
  rw [lastH_app, h.get l']
  cases x with
  | head l k => exact absurd rfl (hx l k)
  | row n => rfl
  | foot l k ws => rfl
theorem LL.at {S S' : Sto} {m : Nat} {ls : List Nat} {xss : List (List D)} (h : LL S m ls xss S') {i : Nat} (hi : i < ls.length) (xs : List D) : LL S m ls (xss.set i xs) (S'.set ls[i] (.lst xs)) := by
  have hnd := List.nodup_cons.mp h.nd
  refine ⟨h.ext.set (h.fr _ (List.mem_cons_of_mem _ (List.getElem_mem hi))) _, ?_, by rw [List.length_set]; exact h.len, fun j hj => ?_, h.fr, h.nd⟩
  · rw [set_ne (show ls[i] ≠ m from fun z => hnd.1 (by rw [← z]; exact List.getElem_mem hi))]; exact h.top
  · by_cases c : i = j
    · subst c
      rw [List.getElem?_set_self (h.lt _ (List.getElem_mem hi)), List.getD_eq_getElem?_getD, List.getElem?_set_self (by rw [← h.len]; exact hi)]
      rfl
    · rw [set_ne (show ls[i] ≠ ls[j] from fun z => c ((List.getElem_inj hnd.2).mp z)), h.each j hj, List.getD_eq_getElem?_getD, List.getD_eq_getElem?_getD, List.getElem?_set_ne c]
end Br
namespace Br
open PySem L2 L3
def Same (S : Sto) (k : Nat) (a b : D) : Prop := ∃ p, Deep S a p ∧ Deep S b p ∧ p.canLay0 = true ∧ p.depth ≤ k
section
variable {S : Sto} {k : Nat}
theorem Same.refl {a : D} (h : HasP S k a) : Same S k a a := by obtain ⟨p, h1, h2, h3⟩ := h; exact ⟨p, h1, h1, h2, h3⟩
theorem Same.all : ∀ {xs ys : List D}, xs.length = ys.length → (∀ (i : Nat) x y, xs[i]? = some x → ys[i]? = some y → Same S k x y) → ∃ ps, Deeps S xs ps ∧ Deeps S ys ps ∧ PyData.canLayAll0 ps = true ∧ PyData.depthAll ps ≤ k
  | [], [], _, _ => ⟨[], .nil, .nil, by simp [PyData.canLayAll0], by simp [PyData.depthAll]⟩
  | x :: xs, y :: ys, hl, h => by
    obtain ⟨p, a1, a2, a3, a4⟩ := h 0 x y rfl rfl
    obtain ⟨ps, b1, b2, b3, b4⟩ := Same.all (xs := xs) (ys := ys) (by simpa using hl) fun i x y hx hy => h (i + 1) x y (by simpa using hx) (by simpa using hy)
    refine ⟨p :: ps, .cons a1 b1, .cons a2 b2, by simp [PyData.canLayAll0, a3, b3], ?_⟩
    simp only [PyData.depthAll]
    omega
theorem Same.tup {xs ys : List D} (hl : xs.length = ys.length) (h : ∀ (i : Nat) x y, xs[i]? = some x → ys[i]? = some y → Same S k x y) : Same S (k + 1) (.tup xs) (.tup ys) := by
  obtain ⟨ps, h1, h2, h3, h4⟩ := Same.all hl h
  exact ⟨_, .tup h1, .tup h2, by simp [PyData.canLay0, h3], by simp only [PyData.depth]; omega⟩
theorem Same.ref {n m : Nat} {xs ys : List D} (hn : S[n]? = some (.lst xs)) (hm : S[m]? = some (.lst ys)) (hl : xs.length = ys.length) (h : ∀ (i : Nat) x y, xs[i]? = some x → ys[i]? = some y → Same S k x y) : Same S (k + 1) (.ref n) (.ref m) := by
  obtain ⟨ps, h1, h2, h3, h4⟩ := Same.all hl h
  exact ⟨_, .ref hn h1, .ref hm h2, by simp [PyData.canLay0, h3], by simp only [PyData.depth]; omega⟩
theorem Same.ref_eq {n m : Nat} {xs : List D} (hn : S[n]? = some (.lst xs)) (hm : S[m]? = some (.lst xs)) (h : ∀ x ∈ xs, HasP S k x) : Same S (k + 1) (.ref n) (.ref m) :=
  .ref hn hm rfl fun i x y hx hy => by rw [hx] at hy; cases hy; exact .refl (h x (List.mem_of_getElem? hx))
theorem LL.same {S0 S1 S2 S3 : Sto} {n m : Nat} {ls ks : List Nat} {xss : List (List D)} (h1 : LL S0 n ls xss S1) (h2 : LL S2 m ks xss S3) (e1 : Ext S1 S) (e2 : Ext S3 S) (h : ∀ xs ∈ xss, ∀ d ∈ xs, HasP S k d) : Same S (k + 2) (.ref n) (.ref m) := by
  refine .ref (e1.get h1.top) (e2.get h2.top) (by rw [List.length_map, List.length_map, h1.len, h2.len]) fun i x y hx hy => ?_
  obtain ⟨a, ha, rfl⟩ := map_get hx
  obtain ⟨b, hb, rfl⟩ := map_get hy
  obtain ⟨li, ea⟩ := List.getElem?_eq_some_iff.mp ha
  obtain ⟨ki, eb⟩ := List.getElem?_eq_some_iff.mp hb
  have hi : i < xss.length := by rw [← h1.len]; exact li
  have c1 := h1.each i li
  have c2 := h2.each i ki
  have eg : xss.getD i [] = xss[i] := by rw [List.getD_eq_getElem?_getD, List.getElem?_eq_getElem hi]; rfl
  rw [ea, eg] at c1
  rw [eb, eg] at c2
  exact .ref_eq (e1.get c1) (e2.get c2) (h _ (List.getElem_mem hi))
theorem ToS.same {S0 S1 S2 S3 : Sto} {n m c : Nat} {ls ks : List Nat} {con : Nat → List D} (h1 : ToS S0 n ls c con S1) (h2 : ToS S2 m ks c con S3) (e1 : Ext S1 S) (e2 : Ext S3 S) (h : ∀ l, l < c → ∀ d ∈ con l, HasP S k d) : Same S (k + 2) (.ref n) (.ref m) := by
  refine .ref (e1.get h1.told) (e2.get h2.told) (by rw [List.length_map, List.length_map, h1.len, h2.len]) fun i x y hx hy => ?_
  obtain ⟨a, ha, rfl⟩ := map_get hx
  obtain ⟨b, hb, rfl⟩ := map_get hy
  obtain ⟨li, ea⟩ := List.getElem?_eq_some_iff.mp ha
  obtain ⟨ki, eb⟩ := List.getElem?_eq_some_iff.mp hb
  have hi : i < c := by rw [← h1.len]; exact li
  have c1 := (h1.each i hi).2.2
  have c2 := (h2.each i hi).2.2
  rw [getD_at li, ea] at c1
  rw [getD_at ki, eb] at c2
  exact .ref_eq (e1.get c1) (e2.get c2) (h i hi)
variable {Q : D → Sto → Prop}
end
def known (r : Rp) : List Nat := r.keys ++ r.tests.map (·.1) ++ r.sums.map (·.2)
structure Twin (φ : Nat → Nat) (r r' : Rp) (rows rows' : List Row) : Prop where
  keys : r'.keys = r.keys.map φ
  tests : r'.tests = r.tests.map fun t => (φ t.1, t.2.1, t.2.2)
  sums : r'.sums = r.sums.map fun s => (s.1, φ s.2)
  heads : r'.heads = r.heads
  feet : r'.feet = r.feet
  detail : r'.detail = r.detail
  len : rows'.length = rows.length
  same : ∀ i f, f ∈ known r → (rows'.getD i []).getD (φ f) 0 = (rows.getD i []).getD f 0
section
variable {φ : Nat → Nat} {r r' : Rp} {rows rows' : List Row} (h : Twin φ r r' rows rows')
include h
theorem Twin.key (l n : Nat) : keyOf (r'.keys.take l) (rows'.getD n []) = keyOf (r.keys.take l) (rows.getD n []) := by
  unfold keyOf
  rw [h.keys, ← List.map_take, List.map_map]
  refine List.map_congr_left fun k hk => h.same n k ?_
  exact List.mem_append_left _ (List.mem_append_left _ (List.mem_of_mem_take hk))
theorem Twin.key' (n : Nat) : keyOf r'.keys (rows'.getD n []) = keyOf r.keys (rows.getD n []) := by
  unfold keyOf
  rw [h.keys, List.map_map]
  refine List.map_congr_left fun k hk => h.same n k ?_
  exact List.mem_append_left _ (List.mem_append_left _ hk)
theorem Twin.isIn (n : Nat) : isIn r'.tests (rows'.getD n []) = Br.isIn r.tests (rows.getD n []) := by
  unfold Br.isIn
  rw [h.tests, List.all_map]
  refine Bool.eq_iff_iff.mpr ?_
  simp only [List.all_eq_true]
  refine forall_congr' fun t => forall_congr' fun ht => ?_
  have := h.same n t.1 (List.mem_append_left _ (List.mem_append_right _ (List.mem_map_of_mem ht)))
  simp only [Function.comp_apply]
  rw [this]
theorem Twin.nums : numsOf r'.tests rows' = numsOf r.tests rows := by
  unfold numsOf
  rw [h.len]
  exact congrArg (fun f => (List.range rows.length).filter f) (funext fun i => h.isIn i)
theorem Twin.groups (l : Nat) (nums : List Nat) : groups r' rows' l nums = Br.groups r rows l nums := by
  unfold Br.groups
  rw [show (fun n => keyOf (r'.keys.take l) (rows'.getD n [])) = fun n => keyOf (r.keys.take l) (rows.getD n []) from funext fun n => h.key l n]
theorem Twin.worths (ns : List Nat) : worths r' (ns.map fun n => rows'.getD n []) = Br.worths r (ns.map fun n => rows.getD n []) := by
  unfold Br.worths
  rw [h.sums, List.map_map]
  refine List.map_congr_left fun s hs => ?_
  have hk : s.2 ∈ known r := List.mem_append_right _ (List.mem_map_of_mem hs)
  have e : (ns.map fun n => rows'.getD n []).map (fun r => r.getD (φ s.2) 0) = (ns.map fun n => rows.getD n []).map fun r => r.getD s.2 0 := by
    rw [List.map_map, List.map_map]
    exact List.map_congr_left fun n _ => h.same n s.2 hk
  show worth s.1 (φ s.2) _ = worth s.1 s.2 _
  unfold worth
  rw [e]
  simp only [List.length_map]
theorem Twin.klen : r'.keys.length = r.keys.length := by rw [h.keys, List.length_map]
theorem Twin.part (deep : List Nat → List D) (l : Nat) (g : List Int × List Nat) : part r' rows' deep l g = Br.part r rows deep l g := by
  unfold Br.part headL footLines
  rw [h.heads, h.klen, h.detail, h.feet, h.worths]
theorem Twin.lvl : ∀ (j l : Nat) (nums : List Nat), lvl r' rows' j l nums = Br.lvl r rows j l nums := by
  intro j
  induction j with
  | zero =>
    intro l nums
    show (Br.groups r' rows' l nums).flatMap _ = (Br.groups r rows l nums).flatMap _
    rw [h.groups]
    exact congrArg (fun f => (Br.groups r rows l nums).flatMap f) (funext fun g => h.part _ l g)
  | succ j ih =>
    intro l nums
    show (Br.groups r' rows' l nums).flatMap _ = (Br.groups r rows l nums).flatMap _
    rw [h.groups, show Br.lvl r' rows' j (l + 1) = Br.lvl r rows j (l + 1) from funext fun n => ih (l + 1) n]
    exact congrArg (fun f => (Br.groups r rows l nums).flatMap f) (funext fun g => h.part _ l g)
theorem Twin.risen (hr : Risen r rows) : Risen r' rows' := by
  unfold Risen at *
  rw [h.nums]
  refine hr.imp fun {a b} e => ?_
  rw [h.key', h.key']
  exact e
end
section
variable {φ : Nat → Nat} {r r' : Rp} {rows rows' : List Row} (h : Twin φ r r' rows rows')
include h
theorem Twin.partL (deep : List Nat → List Line) (l : Nat) (g : List Int × List Nat) : partL r' rows' deep l g = Br.partL r rows deep l g := by
  unfold Br.partL
  rw [h.klen, h.worths]
theorem Twin.lvlL : ∀ (j l : Nat) (nums : List Nat), lvlL r' rows' j l nums = Br.lvlL r rows j l nums := by
  intro j
  induction j with
  | zero =>
    intro l nums
    show (Br.groups r' rows' l nums).flatMap _ = (Br.groups r rows l nums).flatMap _
    rw [h.groups]
    exact congrArg (fun f => (Br.groups r rows l nums).flatMap f) (funext fun g => h.partL _ l g)
  | succ j ih =>
    intro l nums
    show (Br.groups r' rows' l nums).flatMap _ = (Br.groups r rows l nums).flatMap _
    rw [h.groups, show Br.lvlL r' rows' j (l + 1) = Br.lvlL r rows j (l + 1) from funext fun n => ih (l + 1) n]
    exact congrArg (fun f => (Br.groups r rows l nums).flatMap f) (funext fun g => h.partL _ l g)
theorem Twin.tell (x : Line) : tell r' x = Br.tell r x := by
  cases x with
  | head l k => rw [tell_head, tell_head, h.heads]
  | row n => rw [tell_row, tell_row, h.detail]
  | foot l k ws => rw [tell_foot, tell_foot, h.feet]
end
structure Asked (r : Rp) (rows : List Row) : Prop where
  ok : r.Ok
  len : rows.length ≤ 60
  row : ∀ row ∈ rows, RowOk r.fields row
  risen : Risen r rows
structure TldAt (S : Sto) (r : Rp) (rows : List Row) (l t p : Nat) (ls ks : List Nat) : Prop where
  z : ∀ n ∈ l :: t :: p :: (ls ++ ks), n ≠ 0
  hl : S[l]? = some (.lst ((linesOf r rows).map lineD))
  ht : S[t]? = some (.lst (ls.map D.ref))
  lsl : ls.length = r.keys.length + 1
  hts : ∀ (i : Nat) (h : i < ls.length), S[ls[i]]? = some (.lst (totL r rows i (numsOf r.tests rows)))
  hp : S[p]? = some (.lst (ks.map D.ref))
  ksl : ks.length = (pagesOf r rows [] 16 (blocksOf (linesOf r rows))).length
  hps : ∀ (i : Nat) (h : i < ks.length), S[ks[i]]? = some (.lst (((pagesOf r rows [] 16 (blocksOf (linesOf r rows))).map fun p => p.map pgD).getD i []))
def TldD (S : Sto) (r : Rp) (rows : List Row) (d : D) : Prop := ∃ l t p ls ks, d = .tup [.ref l, .ref t, .ref p] ∧ TldAt S r rows l t p ls ks
theorem TldD.keep {S S' : Sto} {r : Rp} {rows : List Row} {d : D} (h : TldD S r rows d) (k : ∀ (i : Nat) (o : O), i ≠ 0 → S[i]? = some o → S'[i]? = some o) : TldD S' r rows d := by
  obtain ⟨l, t, p, ls, ks, rfl, h⟩ := h
  refine ⟨l, t, p, ls, ks, rfl, h.z, k _ _ (h.z l (by simp)) h.hl, k _ _ (h.z t (by simp)) h.ht, h.lsl, fun i hi => k _ _ (h.z _ (by simp)) (h.hts i hi), k _ _ (h.z p (by simp)) h.hp, h.ksl, fun i hi => k _ _ (h.z _ (by simp)) (h.hps i hi)⟩
structure Hold (n c : Nat) (S S' : Sto) : Prop where
  keep : ∀ (i : Nat) (o : O), i ≠ n → i ≠ c → S[i]? = some o → S'[i]? = some o
  st : StS S' n
  len : S.length ≤ S'.length
section
variable {n c : Nat} {S S' S2 : Sto}
theorem Hold.refl (h : StS S n) : Hold n c S S := ⟨fun _ _ _ _ h => h, h, Nat.le_refl _⟩
theorem Hold.dr (h : Hold n c S S') (d : Dr n S' S2) : Hold n c S S2 := ⟨fun i o hi hc h1 => d.keep i o hi (h.keep i o hi hc h1), d.st, Nat.le_trans h.len d.len⟩
theorem Hold.put (h : Hold n c S S') (hn : c ≠ n) (o : O) : Hold n c S (S'.set c o) :=
  ⟨fun i o' hi hc h1 => by rw [set_ne (show c ≠ i from fun z => hc z.symm)]; exact h.keep i o' hi hc h1, by
    obtain ⟨st, h1, h2⟩ := h.st
    exact ⟨st, by rw [set_ne hn]; exact h1, h2⟩, by rw [List.length_set]; exact h.len⟩
end
section
variable {r : Rp} {order : List Nat} (hp : order.Perm (List.range r.fields))
include hp
end
end Br
namespace Br
open PySem L2 L3
def wI (kd : Str) (f : Nat) (rows : List Row) : Int := (worth kd f rows).getD 0
def WI (r : Rp) (rows : List Row) : List Int := r.sums.map fun s => wI s.1 s.2 rows
end Br
namespace Br
open PySem L2 L3
section
variable {r : Rp} {rows : List Row}
abbrev Rz (r : Rp) (rows : List Row) (nums : List Nat) : Prop := nums.Pairwise fun a b => HT.lexLt (keyOf r.keys (rows.getD b [])) (keyOf r.keys (rows.getD a [])) = false
theorem Rz.cut {nums : List Nat} (h : Rz r rows nums) (l : Nat) : nums.Pairwise fun a b => HT.lexLt (kfl r rows l b) (kfl r rows l a) = false := h.imp fun {a b} hab => by
  rw [kfl_take, kfl_take]
  exact lex_take l _ _ (by rw [key_len, key_len]) hab
end
def pageOf (r : Rp) (rows : List Row) (again : List Nat) (i : Nat) (g : List (List Line)) : List Pg := newPg (i + 1) (agB r rows again (g.headD [])) ++ g.flatten.map Pg.ln
structure Pgs (r : Rp) (rows : List Row) (again : List Nat) (size : Nat) (bs : List (List Line)) (ps : List (List Pg)) (gs : List (List (List Line))) : Prop where
  flat : gs.flatten = bs
  ne : ∀ g ∈ gs, g ≠ []
  pg : ps = gs.zipIdx.map fun q => pageOf r rows again q.2 q.1
  sz : ∀ p ∈ ps, p.length ≤ size
  gap : ∀ i p g, ps[i]? = some p → gs[i + 1]? = some g → size < p.length + (g.headD []).length
structure AtPg (r : Rp) (rows : List Row) (again : List Nat) (size i : Nat) (gs : List (List (List Line))) (x : Line) (tb t : List Line) (bt : List (List Line)) : Prop where
  gg : gs[i]? = some ((x :: tb) :: bt)
  tt : x :: t = (x :: tb) ++ bt.flatten
  ln : ∃ R, linesOf r rows = (gs.take i).flatten.flatten ++ x :: (t ++ R)
  pre : (gs.take (i + 1)).flatten.flatten = (gs.take i).flatten.flatten ++ x :: t
end Br
namespace Br
open PySem L2 L3
inductive Stp
  | next (g : Nat) | test (t g : Nat) | same (l g : Nat) | first (g : Nat) | go (g : Nat)
  | keep | add | begin (l : Nat) | row | head (l : Nat) | foot (l : Nat) | done
def stpD : Stp → D
  | .next g => .tup [.str "next", nD g]
  | .test t g => .tup [.str "test", nD t, nD g]
  | .same l g => .tup [.str "same", nD l, nD g]
  | .first g => .tup [.str "first", nD g]
  | .go g => .tup [.str "go", nD g]
  | .keep => .tup [.str "keep"]
  | .add => .tup [.str "add"]
  | .begin l => .tup [.str "begin", nD l]
  | .row => .tup [.str "row"]
  | .head l => .tup [.str "head", nD l]
  | .foot l => .tup [.str "foot", nD l]
  | .done => .tup [.str "end"]
structure Ms where
  tk : Option Nat
  kept : Option (List Int)
  added : List (List Row)
  told : List D
def needRow : Stp → Bool
  | .test _ _ => true
  | .same _ _ => true
  | .keep => true
  | .add => true
  | .row => true
  | _ => false
section
variable (r : Rp) (rows : List Row) (plan : List Stp)
def rowM (m : Ms) : Row := rows.getD (m.tk.getD 0) []
def keyM (m : Ms) : List Int := keyOf r.keys (rowM rows m)
def aheadM (m : Ms) : Nat := match m.tk with | none => 0 | some t => t + 1
def headD (l : Nat) (k : List Int) : D := .tup [.str "head", nD l, .tup (k.map D.int)]
def stepM (s : Stp) (m : Ms) (a : Nat) : Ms × Nat := match s with
  | .next g => if aheadM m < rows.length then ({ m with tk := some (aheadM m) }, a + 1) else (m, g)
  | .test t g => if holdsB (some ((rowM rows m).getD (r.tests.getD t (0, "", 0)).1 0)) (r.tests.getD t (0, "", 0)).2.1 (r.tests.getD t (0, "", 0)).2.2 = true then (m, a + 1) else (m, g)
  | .same l g => if (keyM r rows m).take l = (m.kept.getD []).take l then (m, g) else (m, a + 1)
  | .first g => if m.kept = none then (m, g) else (m, a + 1)
  | .go g => (m, g)
  | .keep => ({ m with kept := some (keyM r rows m) }, a + 1)
  | .add => ({ m with added := m.added.map (· ++ [rowM rows m]) }, a + 1)
  | .begin l => ({ m with added := m.added.set l [] }, a + 1)
  | .row => ({ m with told := m.told ++ [rowL (m.tk.getD 0)] }, a + 1)
  | .head l => ({ m with told := m.told ++ [headD l ((m.kept.getD []).take l)] }, a + 1)
  | .foot l => ({ m with told := m.told ++ footLines r l ((m.kept.getD []).take l) (m.added.getD l []) }, a + 1)
  | .done => (m, a)
def stopW (m : Ms) (a : Nat) : Option Str := match plan[a]? with
  | none => some "behind"
  | some .done => some "end"
  | some s => if (needRow s && m.tk.isNone) = true then some "none" else none
def nextM (m : Ms) (a : Nat) : Ms × Nat := match plan[a]? with
  | some s => stepM r rows s m a
  | none => (m, a)
def runM : Nat → Ms → Nat → Ms × Str
  | 0, m, _ => (m, "")
  | n + 1, m, a => match stopW plan m a with
    | some w => (m, w)
    | none => runM n (nextM r rows plan m a).1 (nextM r rows plan m a).2
def Bd (m : Ms) : Prop := ∀ x ∈ m.added, x.length ≤ 60
def BdR : Nat → Ms → Nat → Prop
  | 0, _, _ => True
  | n + 1, m, a => Bd m ∧ (stopW plan m a = none → BdR n (nextM r rows plan m a).1 (nextM r rows plan m a).2)
inductive Rch : Nat → Ms → Nat → Ms → Nat → Prop
  | refl (m : Ms) (a : Nat) : Rch 0 m a m a
  | step {k : Nat} {m : Ms} {a : Nat} {m' : Ms} {a' : Nat} : Bd m → stopW plan m a = none → Rch k (nextM r rows plan m a).1 (nextM r rows plan m a).2 m' a' → Rch (k + 1) m a m' a'
variable {r rows plan}
theorem Rch.trans {k j : Nat} {m m1 m2 : Ms} {a a1 a2 : Nat} (h : Rch r rows plan k m a m1 a1) (g : Rch r rows plan j m1 a1 m2 a2) : Rch r rows plan (k + j) m a m2 a2 := by
  induction h with
  | refl m a => rw [Nat.zero_add]; exact g
  | step b s _ ih => rw [Nat.add_right_comm]; exact .step b s (ih g)
theorem Rch.run {k : Nat} {m m' : Ms} {a a' : Nat} (h : Rch r rows plan k m a m' a') (n : Nat) : runM r rows plan (k + n) m a = runM r rows plan n m' a' := by
  induction h with
  | refl m a => rw [Nat.zero_add]
  | step b s _ ih =>
    rw [Nat.add_right_comm]
    show (match stopW plan _ _ with | some w => _ | none => _) = _
    rw [s]
    exact ih
theorem Rch.bd {k : Nat} {m m' : Ms} {a a' : Nat} (h : Rch r rows plan k m a m' a') {n : Nat} (g : BdR r rows plan n m' a') : BdR r rows plan (k + n) m a := by
  induction h with
  | refl m a => rw [Nat.zero_add]; exact g
  | step b s _ ih => rw [Nat.add_right_comm]; exact ⟨b, fun _ => ih g⟩
theorem BdR.mono : ∀ {n j : Nat} {m : Ms} {a : Nat}, j ≤ n → BdR r rows plan n m a → BdR r rows plan j m a
  | _, 0, _, _, _, _ => trivial
  | n + 1, j + 1, m, a, h, g => ⟨g.1, fun s => BdR.mono (Nat.le_of_succ_le_succ h) (g.2 s)⟩
def CodeAt (plan : List Stp) (a : Nat) (c : List Stp) : Prop := ∃ p q, plan = p ++ c ++ q ∧ p.length = a
theorem CodeAt.head {a : Nat} {s : Stp} {c : List Stp} (h : CodeAt plan a (s :: c)) : plan[a]? = some s := by
  obtain ⟨p, q, rfl, rfl⟩ := h
  simp
theorem CodeAt.tail {a : Nat} {s : Stp} {c : List Stp} (h : CodeAt plan a (s :: c)) : CodeAt plan (a + 1) c := by
  obtain ⟨p, q, rfl, rfl⟩ := h
  exact ⟨p ++ [s], q, by simp, by simp⟩
theorem CodeAt.left {a : Nat} {c d : List Stp} (h : CodeAt plan a (c ++ d)) : CodeAt plan a c := by
  obtain ⟨p, q, rfl, rfl⟩ := h
  exact ⟨p, d ++ q, by simp, rfl⟩
theorem Rch.one {m : Ms} {a : Nat} {s : Stp} (hp : plan[a]? = some s) (hd : s ≠ .done) (hr : needRow s = true → m.tk.isSome = true) (b : Bd m) : Rch r rows plan 1 m a (stepM r rows s m a).1 (stepM r rows s m a).2 := by
  have h1 : stopW plan m a = none := by
    unfold stopW
    rw [hp]
    cases s <;> simp at hd <;> simp only [needRow, Bool.false_and, Bool.true_and] <;> first | rfl | (have := hr rfl; cases e : m.tk with | none => rw [e] at this; cases this | some t => rfl)
  have h2 : nextM r rows plan m a = stepM r rows s m a := by unfold nextM; rw [hp]
  refine .step b h1 ?_
  rw [h2]
  exact .refl _ _
variable (r)
variable {r}
theorem CodeAt.get {a i : Nat} {s : Stp} {c : List Stp} (h : CodeAt plan a c) (hi : c[i]? = some s) : plan[a + i]? = some s := by
  obtain ⟨p, q, rfl, rfl⟩ := h
  have hl := (List.getElem?_eq_some_iff.mp hi).1
  rw [List.append_assoc, List.getElem?_append_right (by omega), Nat.add_sub_cancel_left, List.getElem?_append_left hl]
  exact hi
variable (r rows) in
def ms (tk : Option Nat) (kp : Option (List Int)) (A : Nat → List Row) (T : List D) : Ms := ⟨tk, kp, (List.range (r.keys.length + 1)).map A, T⟩
variable (r) in
def m0 : Ms := ⟨none, none, List.replicate (r.keys.length + 1) [], []⟩
end
end Br
namespace Br
open PySem L2 L3
def tkI : Option Nat → Int
  | none => -1
  | some t => t
def tkD (tk : Option Nat) : D := .int (tkI tk)
def kpD : Option (List Int) → D
  | none => .non
  | some k => .tup (k.map D.int)
def mFs (r : Rp) (rm : Nat) (tk : Option Nat) (kp : Option (List Int)) (an tn : Nat) : List (Str × D) := [("report", r.d), ("rows", .ref rm), ("taken", tkD tk), ("kept", kpD kp), ("added", .ref an), ("told", .ref tn)]
section
variable {r : Rp} {rm : Nat} {tk : Option Nat} {kp : Option (List Int)} {an tn : Nat}
end
structure Fz (b : Nat) (S S' : Sto) : Prop where
  keep : ∀ i, i < b → S'[i]? = S[i]?
  len : S.length ≤ S'.length
section
variable {b : Nat} {S S1 S2 : Sto}
theorem Fz.refl (b : Nat) (S : Sto) : Fz b S S := ⟨fun _ _ => rfl, Nat.le_refl _⟩
theorem Fz.trans (h : Fz b S S1) (g : Fz b S1 S2) : Fz b S S2 := ⟨fun i hi => (g.keep i hi).trans (h.keep i hi), Nat.le_trans h.len g.len⟩
theorem Fz.ext (h : Fz b S S1) (e : Ext S1 S2) (hb : b ≤ S1.length) : Fz b S S2 := by
  refine ⟨fun i hi => ?_, Nat.le_trans h.len e.len⟩
  rw [← h.keep i hi]
  obtain ⟨l, rfl⟩ := e
  exact List.getElem?_append_left (by omega)
theorem Fz.set (h : Fz b S S1) {n : Nat} (hn : b ≤ n) (o : O) : Fz b S (S1.set n o) :=
  ⟨fun i hi => by rw [set_ne (show n ≠ i by omega)]; exact h.keep i hi, by rw [List.length_set]; exact h.len⟩
end
structure MAt (C : Addr) (b n : Nat) (r : Rp) (rm : Nat) (rows : List Row) (m : Ms) (an tn : Nat) (ls : List Nat) (S : Sto) : Prop where
  ins : S[n]? = some (.ins C (mFs r rm m.tk m.kept an tn))
  add : S[an]? = some (.lst (ls.map D.ref))
  len : ls.length = m.added.length
  each : ∀ l, l < ls.length → S[ls.getD l 0]? = some (.lst ((m.added.getD l []).map rowD))
  told : S[tn]? = some (.lst m.told)
  lo : ∀ x ∈ n :: an :: tn :: ls, b ≤ x
  nd : (n :: an :: tn :: ls).Nodup
  rws : S[rm]? = some (.lst (rows.map rowD))
  rmb : rm < b
section
variable {C : Addr} {b n : Nat} {r : Rp} {rm : Nat} {rows : List Row} {m : Ms} {an tn : Nat} {ls : List Nat} {S S' : Sto}
theorem MAt.nn (h : MAt C b n r rm rows m an tn ls S) : n ≠ an ∧ n ≠ tn ∧ an ≠ tn ∧ n ∉ ls ∧ an ∉ ls ∧ tn ∉ ls ∧ ls.Nodup := by
  have := h.nd
  simp only [List.nodup_cons, List.mem_cons, not_or] at this
  exact ⟨this.1.1, this.1.2.1, this.2.1.1, this.1.2.2, this.2.1.2, this.2.2.1, this.2.2.2⟩
theorem ls_mem {ls : List Nat} {l : Nat} (h : l < ls.length) : ls.getD l 0 ∈ ls := getD_mem h
theorem MAt.bl (h : MAt C b n r rm rows m an tn ls S) : b ≤ S.length := Nat.le_trans (h.lo n (by simp)) (Nat.le_of_lt (Ext.lt_of h.ins))
theorem MAt.lt (h : MAt C b n r rm rows m an tn ls S) : ∀ x ∈ n :: an :: tn :: ls, x < S.length := fun x hx => by
  simp only [List.mem_cons] at hx
  rcases hx with rfl | rfl | rfl | hx
  · exact Ext.lt_of h.ins
  · exact Ext.lt_of h.add
  · exact Ext.lt_of h.told
  · obtain ⟨i, hi, rfl⟩ := List.mem_iff_getElem.mp hx
    have := h.each i hi
    rw [getD_at hi] at this
    exact Ext.lt_of this
theorem MAt.ext (h : MAt C b n r rm rows m an tn ls S) (e : Ext S S') : MAt C b n r rm rows m an tn ls S' :=
  ⟨e.get h.ins, e.get h.add, h.len, fun l hl => e.get (h.each l hl), e.get h.told, h.lo, h.nd, e.get h.rws, h.rmb⟩
theorem MAt.tell (h : MAt C b n r rm rows m an tn ls S) (T : List D) : MAt C b n r rm rows { m with told := T } an tn ls (S.set tn (.lst T)) := by
  obtain ⟨h1, h2, h3, h4, h5, h6, h7⟩ := h.nn
  have hr := h.rmb
  have hb := h.lo tn (by simp)
  refine ⟨by rw [set_ne (Ne.symm h2)]; exact h.ins, by rw [set_ne (Ne.symm h3)]; exact h.add, h.len, fun l hl => ?_, set_eq h.told, h.lo, h.nd, by rw [set_ne (by omega)]; exact h.rws, hr⟩
  rw [set_ne (fun z => h6 (by rw [z]; exact ls_mem hl))]
  exact h.each l hl
theorem MAt.wipe (h : MAt C b n r rm rows m an tn ls S) {l : Nat} (hl : l < ls.length) : MAt C b n r rm rows { m with added := m.added.set l [] } an tn (ls.set l S.length) ((S ++ [O.lst []]).set an (.lst ((ls.map D.ref).set l (.ref S.length)))) := by
  obtain ⟨h1, h2, h3, h4, h5, h6, h7⟩ := h.nn
  have e := Ext.push S (O.lst [])
  have hr := h.rmb
  have hb := h.lo an (by simp)
  have hbl := h.bl
  have hlt := h.lt
  have new : S.length ∉ n :: an :: tn :: ls := fun z => absurd (hlt _ z) (Nat.lt_irrefl _)
  have newl : S.length ∉ ls := fun z => new (by simp only [List.mem_cons]; exact .inr (.inr (.inr z)))
  have mset : ∀ x, x ∈ ls.set l S.length → x ∈ ls ∨ x = S.length := fun x hx => List.mem_or_eq_of_mem_set hx
  have ns : ∀ x, x ∈ n :: an :: tn :: ls → S.length ≠ x := fun x hx z => new (by rw [z]; exact hx)
  refine ⟨by rw [set_ne (Ne.symm h1)]; exact e.get h.ins, ?_, by simp [h.len], fun j hj => ?_, by rw [set_ne h3]; exact e.get h.told, fun x hx => ?_, ?_, by rw [set_ne (by omega)]; exact e.get h.rws, hr⟩
  · rw [set_eq (e.get h.add), List.map_set]
  · have hj' : j < ls.length := by simpa using hj
    by_cases q : l = j
    · subst q
      have eg : (ls.set l S.length).getD l 0 = S.length := by simp [List.getD_eq_getElem?_getD, List.getElem?_set_self hl]
      rw [eg, set_ne (Ne.symm (ns an (by simp))), last_get]
      simp [List.getD_eq_getElem?_getD, List.getElem?_set_self (show l < m.added.length by rw [← h.len]; exact hl)]
    · have eg : (ls.set l S.length).getD j 0 = ls.getD j 0 := by simp [List.getD_eq_getElem?_getD, List.getElem?_set_ne q]
      rw [eg, set_ne (fun z => h5 (by rw [z]; exact ls_mem hj')), e.get (h.each j hj')]
      simp [List.getD_eq_getElem?_getD, List.getElem?_set_ne q]
  · simp only [List.mem_cons] at hx
    rcases hx with rfl | rfl | rfl | hx
    · exact h.lo _ (by simp)
    · exact h.lo _ (by simp)
    · exact h.lo _ (by simp)
    · rcases mset x hx with z | z
      · exact h.lo x (by simp only [List.mem_cons]; exact .inr (.inr (.inr z)))
      · rw [z]; exact hbl
  · simp only [List.nodup_cons, List.mem_cons, not_or]
    refine ⟨⟨h1, h2, fun z => ?_⟩, ⟨h3, fun z => ?_⟩, fun z => ?_, ?_⟩
    · rcases mset n z with q | q
      · exact h4 q
      · exact ns n (by simp) q.symm
    · rcases mset an z with q | q
      · exact h5 q
      · exact ns an (by simp) q.symm
    · rcases mset tn z with q | q
      · exact h6 q
      · exact ns tn (by simp) q.symm
    · refine List.pairwise_iff_getElem.mpr fun i j hi hj hij => ?_
      have hi' : i < ls.length := by simpa using hi
      have hj' : j < ls.length := by simpa using hj
      rw [List.getElem_set, List.getElem_set]
      by_cases qi : l = i
      · rw [if_pos qi, if_neg (by omega)]
        exact fun z => newl (by rw [z]; exact List.getElem_mem hj')
      · rw [if_neg qi]
        by_cases qj : l = j
        · rw [if_pos qj]
          exact fun z => newl (by rw [← z]; exact List.getElem_mem hi')
        · rw [if_neg qj]
          exact List.pairwise_iff_getElem.mp h7 i j hi' hj' hij
end
structure MsOk (r : Rp) (rows : List Row) (m : Ms) : Prop where
  al : m.added.length = r.keys.length + 1
  ar : ∀ x ∈ m.added, ∀ row ∈ x, RowOk r.fields row
  tk : ∀ t, m.tk = some t → t < rows.length
  tl : m.told.length ≤ 100000
structure Wd (r : Rp) (rows : List Row) : Prop where
  ok : r.Ok
  ro : ∀ row ∈ rows, RowOk r.fields row
  l60 : rows.length ≤ 60
theorem MsOk.row {r : Rp} {rows : List Row} {m : Ms} (h : MsOk r rows m) (w : Wd r rows) {t : Nat} (e : m.tk = some t) : RowOk r.fields (rowM rows m) ∧ rowM rows m = rows.getD t [] ∧ t < rows.length := by
  have := h.tk t e
  unfold rowM
  rw [e]
  exact ⟨w.ro _ (getD_mem this), rfl, this⟩
theorem MsOk.step {r : Rp} {rows : List Row} {m : Ms} (w : Wd r rows) (h : MsOk r rows m) {s : Stp} (hr : needRow s = true → m.tk.isSome = true) (ht : m.told.length + 1 ≤ 100000) (a : Nat) : MsOk r rows (stepM r rows s m a).1 ∧ (stepM r rows s m a).1.told.length ≤ m.told.length + 1 := by
  cases s with
  | next g =>
    simp only [stepM]
    split
    · rename_i c
      exact ⟨⟨h.al, h.ar, fun t e => by cases e; exact c, h.tl⟩, Nat.le_succ _⟩
    · exact ⟨h, Nat.le_succ _⟩
  | test t g => simp only [stepM]; split <;> exact ⟨h, Nat.le_succ _⟩
  | same l g => simp only [stepM]; split <;> exact ⟨h, Nat.le_succ _⟩
  | first g => simp only [stepM]; split <;> exact ⟨h, Nat.le_succ _⟩
  | go g => exact ⟨h, Nat.le_succ _⟩
  | keep => exact ⟨⟨h.al, h.ar, h.tk, h.tl⟩, Nat.le_succ _⟩
  | add =>
    refine ⟨⟨by simp only [stepM]; rw [List.length_map]; exact h.al, fun x hx row hrow => ?_, h.tk, h.tl⟩, Nat.le_succ _⟩
    simp only [stepM] at hx
    obtain ⟨y, hy, rfl⟩ := List.mem_map.mp hx
    rcases List.mem_append.mp hrow with z | z
    · exact h.ar y hy row z
    · have := List.mem_singleton.mp z
      subst this
      have hs := hr rfl
      obtain ⟨t, e⟩ := Option.isSome_iff_exists.mp hs
      exact (h.row w e).1
  | begin l =>
    refine ⟨⟨by simp only [stepM]; rw [List.length_set]; exact h.al, fun x hx row hrow => ?_, h.tk, h.tl⟩, Nat.le_succ _⟩
    simp only [stepM] at hx
    rcases List.mem_or_eq_of_mem_set hx with z | z
    · exact h.ar x z row hrow
    · rw [z] at hrow; cases hrow
  | row =>
    simp only [stepM]
    exact ⟨⟨h.al, h.ar, h.tk, by simp; omega⟩, by simp⟩
  | head l =>
    simp only [stepM]
    exact ⟨⟨h.al, h.ar, h.tk, by simp; omega⟩, by simp⟩
  | foot l =>
    have := foot_len r l ((m.kept.getD []).take l) (m.added.getD l [])
    simp only [stepM]
    exact ⟨⟨h.al, h.ar, h.tk, by rw [List.length_append]; omega⟩, by rw [List.length_append]; omega⟩
  | done => exact ⟨h, Nat.le_succ _⟩
end Br
namespace Br
open PySem PySem.Spec PyProof.Rows L2 L3
end Br
namespace Br
open PySem PySem.Spec PyProof.Rows L2 L3
abbrev NS := Stp × Str
def nsD : NS → D
  | (.next _, n) => .tup [.str "next", .str n]
  | (.test t _, n) => .tup [.str "test", nD t, .str n]
  | (.same l _, n) => .tup [.str "same", nD l, .str n]
  | (.first _, n) => .tup [.str "first", .str n]
  | (.go _, n) => .tup [.str "go", .str n]
  | (s, _) => stpD s
def nn (ss : List Stp) : List NS := ss.map fun s => (s, "")
section
variable (r : Rp)
end
def pcD (q : (Str × List NS) × Nat) : D := .tup [.str q.1.1, .ref q.2]
structure PcAt (b pn : Nat) (qs : List ((Str × List NS) × Nat)) (S : Sto) : Prop where
  lst : S[pn]? = some (.lst (qs.map pcD))
  each : ∀ q ∈ qs, S[q.2]? = some (.lst (q.1.2.map nsD)) ∧ b ≤ q.2 ∧ q.2 ≠ pn
  lo : b ≤ pn
theorem PcAt.ext {b pn : Nat} {qs : List ((Str × List NS) × Nat)} {S S' : Sto} (h : PcAt b pn qs S) (e : Ext S S') : PcAt b pn qs S' :=
  ⟨e.get h.lst, fun q hq => ⟨e.get (h.each q hq).1, (h.each q hq).2⟩, h.lo⟩
theorem PcAt.add {b pn : Nat} {qs : List ((Str × List NS) × Nat)} {S : Sto} (h : PcAt b pn qs S) {a : Nat} {nm : Str} {ss : List NS} (ha : S[a]? = some (.lst (ss.map nsD))) (hb : b ≤ a) (hn : a ≠ pn) : PcAt b pn (qs ++ [((nm, ss), a)]) (S.set pn (.lst (qs.map pcD ++ [.tup [.str nm, .ref a]]))) := by
  refine ⟨?_, fun q hq => ?_, h.lo⟩
  · rw [set_eq h.lst, List.map_append]; rfl
  · rcases List.mem_append.mp hq with hq | hq
    · obtain ⟨h1, h2, h3⟩ := h.each q hq
      exact ⟨by rw [set_ne (Ne.symm h3)]; exact h1, h2, h3⟩
    · rw [List.mem_singleton.mp hq]
      exact ⟨by rw [set_ne (Ne.symm hn)]; exact ha, hb, hn⟩
end Br
namespace Br
open PySem PySem.Spec PyProof.Rows L2 L3
def tkO : Option Nat → D
  | none => .non
  | some t => nD t
section
variable {r : Rp} {rm : Nat} {tk : Option Nat} {kp : Option (List Int)} {tn a an : Nat} {w : Str}
def lFs (r : Rp) (rm : Nat) (tk : Option Nat) (kp : Option (List Int)) (tn a : Nat) (w : Str) (an : Nat) : List (Key × D) :=
  [(.inr "report", r.d), (.inr "rows", .ref rm), (.inr "taken", tkO tk), (.inr "kept", kpD kp), (.inr "told", .ref tn), (.inr "at", nD a), (.inr "word", .str w), (.inr "added", .ref an)]
end
structure LAt (b n : Nat) (r : Rp) (rm : Nat) (rows : List Row) (m : Ms) (a : Nat) (w : Str) (an tn : Nat) (ls : List Nat) (S : Sto) : Prop where
  dct : S[n]? = some (.dkv (lFs r rm m.tk m.kept tn a w an))
  add : S[an]? = some (.lst (ls.map D.ref))
  len : ls.length = m.added.length
  each : ∀ l, l < ls.length → S[ls.getD l 0]? = some (.lst ((m.added.getD l []).map rowD))
  told : S[tn]? = some (.lst m.told)
  rws : S[rm]? = some (.lst (rows.map rowD))
  rmb : rm < b
  bn : b ≤ n
  ba : b ≤ an
  bt : b ≤ tn
  bl : ∀ x ∈ ls, b ≤ x
  d1 : n ≠ an
  d2 : n ≠ tn
  d3 : an ≠ tn
  dl : ∀ x ∈ ls, x ≠ n ∧ x ≠ an ∧ x ≠ tn
section
variable {b n : Nat} {r : Rp} {rm : Nat} {rows : List Row} {m : Ms} {a : Nat} {w : Str} {an tn : Nat} {ls : List Nat} {S S' : Sto}
theorem LAt.lb (h : LAt b n r rm rows m a w an tn ls S) : b ≤ S.length := Nat.le_trans h.bn (Nat.le_of_lt (Ext.lt_of h.dct))
theorem LAt.ext (h : LAt b n r rm rows m a w an tn ls S) (e : Ext S S') : LAt b n r rm rows m a w an tn ls S' :=
  { h with dct := e.get h.dct, add := e.get h.add, each := fun l hl => e.get (h.each l hl), told := e.get h.told, rws := e.get h.rws }
theorem LAt.tell (h : LAt b n r rm rows m a w an tn ls S) (T : List D) : LAt b n r rm rows { m with told := T } a w an tn ls (S.set tn (.lst T)) :=
  { dct := by rw [set_ne (Ne.symm h.d2)]; exact h.dct, add := by rw [set_ne (Ne.symm h.d3)]; exact h.add, len := h.len, each := fun l hl => by rw [set_ne (Ne.symm (h.dl _ (ls_mem hl)).2.2)]; exact h.each l hl, told := set_eq h.told,
    rws := by have := h.rmb; have := h.bt; rw [set_ne (by omega)]; exact h.rws, rmb := h.rmb, bn := h.bn, ba := h.ba, bt := h.bt, bl := h.bl, d1 := h.d1, d2 := h.d2, d3 := h.d3, dl := h.dl }
theorem LAt.wipe (h : LAt b n r rm rows m a w an tn ls S) {l : Nat} (hl : l < ls.length) : LAt b n r rm rows { m with added := m.added.set l [] } a w an tn (ls.set l S.length) ((S ++ [O.lst []]).set an (.lst ((ls.map D.ref).set l (.ref S.length)))) := by
  have e := Ext.push S (O.lst [])
  have hlb := h.lb
  have ln := Ext.lt_of h.dct
  have la := Ext.lt_of h.add
  have lt := Ext.lt_of h.told
  have mset : ∀ x, x ∈ ls.set l S.length → x ∈ ls ∨ x = S.length := fun x hx => List.mem_or_eq_of_mem_set hx
  refine ⟨(by rw [set_ne (Ne.symm h.d1)]; exact e.get h.dct), (by rw [set_eq (e.get h.add), List.map_set]), (by simp [h.len]), (fun j hj => ?_), (by rw [set_ne h.d3]; exact e.get h.told), (by have := h.rmb; have := h.ba; rw [set_ne (by omega)]; exact e.get h.rws), h.rmb, h.bn, h.ba, h.bt, (fun x hx => ?_), h.d1, h.d2, h.d3, (fun x hx => ?_)⟩
  · have hj' : j < ls.length := by simpa using hj
    by_cases q : l = j
    · subst q
      have eg : (ls.set l S.length).getD l 0 = S.length := by simp [List.getD_eq_getElem?_getD, List.getElem?_set_self hl]
      rw [eg, set_ne (by omega), last_get]
      simp [List.getD_eq_getElem?_getD, List.getElem?_set_self (show l < m.added.length by rw [← h.len]; exact hl)]
    · have eg : (ls.set l S.length).getD j 0 = ls.getD j 0 := by simp [List.getD_eq_getElem?_getD, List.getElem?_set_ne q]
      rw [eg, set_ne (Ne.symm (h.dl _ (ls_mem hj')).2.1), e.get (h.each j hj')]
      simp [List.getD_eq_getElem?_getD, List.getElem?_set_ne q]
  · rcases mset x hx with z | z
    · exact h.bl x z
    · omega
  · rcases mset x hx with z | z
    · exact h.dl x z
    · omega
end
section
variable {A B : WS} {E : E3} {ρ : L3.Env} {S : Sto} {x y z : Str} {k : Nat}
end
end Br
namespace L3
open PySem PySem.Spec PyProof.Rows L2
end L3
namespace Br
open PySem PySem.Spec PyProof.Rows L2 L3
structure Tw (r r' : Rp) (rows rows' : List Row) (ν : Nat → Nat) (nums : List Nat) : Prop where
  ks : r'.keys = r.keys
  ss : r'.sums = r.sums
  rw : ∀ n ∈ nums, rows'.getD (ν n) [] = rows.getD n []
theorem Tw.sub {r r' : Rp} {rows rows' : List Row} {ν : Nat → Nat} {nums ns : List Nat} (h : Tw r r' rows rows' ν nums) (s : ns.Sublist nums) : Tw r r' rows rows' ν ns := ⟨h.ks, h.ss, fun n hn => h.rw n (s.subset hn)⟩
section
variable {r r' : Rp} {rows rows' : List Row} {ν : Nat → Nat}
end
end Br
namespace Br
open PySem PySem.Spec PyProof.Rows L2 L3
theorem nums_snoc (tests : List Tst) (rows : List Row) (x : Row) : numsOf tests (rows ++ [x]) = numsOf tests rows ++ (if isIn tests x = true then [rows.length] else []) := by
  unfold numsOf
  rw [List.length_append, List.length_singleton, List.range_succ, List.filter_append]
  congr 1
  · refine List.filter_congr fun i hi => ?_
    have hi := List.mem_range.mp hi
    rw [List.getD_eq_getElem?_getD, List.getElem?_append_left hi, ← List.getD_eq_getElem?_getD]
  · have e : (rows ++ [x]).getD rows.length [] = x := by simp [List.getD_eq_getElem?_getD]
    rw [List.filter_cons, e]
    split <;> rfl
inductive Mix (tests : List Tst) : List Row → List Row → List Nat → Prop
  | nil : Mix tests [] [] []
  | out {rs ws : List Row} {N : List Nat} (o : Row) : Mix tests rs ws N → isIn tests o = false → Mix tests rs (ws ++ [o]) N
  | row {rs ws : List Row} {N : List Nat} (x : Row) : Mix tests rs ws N → Mix tests (rs ++ [x]) (ws ++ [x]) (N ++ [ws.length])
section
variable {tests : List Tst} {rs ws : List Row} {N : List Nat}
theorem Mix.len (h : Mix tests rs ws N) : N.length = rs.length := by
  induction h with
  | nil => rfl
  | out o _ _ ih => exact ih
  | row x _ ih => simp [ih]
theorem Mix.bd (h : Mix tests rs ws N) : ∀ n ∈ N, n < ws.length := by
  induction h with
  | nil => intro n hn; cases hn
  | out o _ _ ih => intro n hn; have := ih n hn; simp; omega
  | row x _ ih =>
    intro n hn
    rcases List.mem_append.mp hn with hn | hn
    · have := ih n hn; simp; omega
    · rw [List.mem_singleton.mp hn]; simp
theorem Mix.get (h : Mix tests rs ws N) : ∀ n, n < rs.length → ws.getD (N.getD n 0) [] = rs.getD n [] := by
  induction h with
  | nil => intro n hn; cases hn
  | @out rs ws N o h _ ih =>
    intro n hn
    have hb := h.bd (N.getD n 0) (getD_mem (by rw [h.len]; exact hn))
    rw [← ih n hn, List.getD_eq_getElem?_getD, List.getElem?_append_left hb, ← List.getD_eq_getElem?_getD]
  | @row rs ws N x h ih =>
    intro n hn
    by_cases e : n = rs.length
    · subst e
      rw [show (N ++ [ws.length]).getD rs.length 0 = ws.length by rw [← h.len]; simp [List.getD_eq_getElem?_getD]]
      simp [List.getD_eq_getElem?_getD]
    · have hn' : n < rs.length := by simp at hn; omega
      have hb := h.bd (N.getD n 0) (getD_mem (by rw [h.len]; exact hn'))
      rw [show (N ++ [ws.length]).getD n 0 = N.getD n 0 by rw [List.getD_eq_getElem?_getD, List.getElem?_append_left (by rw [h.len]; exact hn'), ← List.getD_eq_getElem?_getD]]
      rw [List.getD_eq_getElem?_getD, List.getElem?_append_left hb, ← List.getD_eq_getElem?_getD, ih n hn', List.getD_eq_getElem?_getD, List.getD_eq_getElem?_getD, List.getElem?_append_left hn']
theorem Mix.nums (h : Mix tests rs ws N) : numsOf tests ws = (numsOf tests rs).map fun n => N.getD n 0 := by
  induction h with
  | nil => rfl
  | @out rs ws N o h ho ih => rw [nums_snoc, ho, ih]; simp
  | @row rs ws N x h ih =>
    rw [nums_snoc, nums_snoc, List.map_append, ih]
    congr 1
    · refine List.map_congr_left fun n hn => ?_
      have hn := nums_lt hn
      rw [List.getD_eq_getElem?_getD, List.getD_eq_getElem?_getD, List.getElem?_append_left (by rw [h.len]; exact hn)]
    · split
      · rw [← h.len]; simp [List.getD_eq_getElem?_getD]
      · rfl
theorem Mix.sorted (h : Mix tests rs ws N) {keys : List Nat} (hp : (numsOf tests rs).Pairwise fun a b => HT.lexLt (keyOf keys (rs.getD b [])) (keyOf keys (rs.getD a [])) = false) : (numsOf tests ws).Pairwise fun a b => HT.lexLt (keyOf keys (ws.getD b [])) (keyOf keys (ws.getD a [])) = false := by
  rw [h.nums, List.pairwise_map]
  refine hp.imp_of_mem fun {a b} ha hb hab => ?_
  rw [h.get a (nums_lt ha), h.get b (nums_lt hb)]
  exact hab
theorem Mix.all {P : Row → Prop} (h : Mix tests rs ws N) (h1 : ∀ x ∈ rs, P x) (h2 : ∀ x ∈ ws, isIn tests x = false → P x) : ∀ x ∈ ws, P x := by
  induction h with
  | nil => intro x hx; cases hx
  | @out rs ws N o h ho ih =>
    intro x hx
    rcases List.mem_append.mp hx with q | q
    · exact ih h1 (fun y hy => h2 y (List.mem_append.mpr (.inl hy))) x q
    · rw [List.mem_singleton.mp q]; exact h2 o (by simp) ho
  | @row rs ws N x h ih =>
    intro y hy
    rcases List.mem_append.mp hy with q | q
    · exact ih (fun z hz => h1 z (List.mem_append.mpr (.inl hz))) (fun z hz => h2 z (List.mem_append.mpr (.inl hz))) y q
    · rw [List.mem_singleton.mp q]; exact h1 x (by simp)
end
end Br
namespace Br
open PySem PySem.Spec PyProof.Rows L2 L3
end Br
namespace Br
open PySem PySem.Spec PyProof.Rows L2 L3
structure MxS (r : Rp) (rows : List Row) (m on i : Nat) (ws : List Row) (N : List Nat) (os : List Row) (S : Sto) : Prop where
  mix : Mix r.tests (rows.take i) ws N
  wn : S[on + 1]? = some (.lst (ws.map rowD))
  nn : S[on + 2]? = some (.lst (N.map nD))
  onl : S[on]? = some (.lst (os.map rowD))
  rw : S[m]? = some (.lst (rows.map rowD))
  st : StS S 0
  osk : ∀ o ∈ os, isIn r.tests o = false ∧ RowOk r.fields o
  wsk : ∀ x ∈ ws, RowOk r.fields x
  ln : ws.length + os.length ≤ 30 + i
  h0 : on ≠ 0
  hm : m < on
  m0 : m ≠ 0
section
variable {r : Rp} {rows : List Row} {m on i : Nat} {ws os : List Row} {N : List Nat} {S S' : Sto}
theorem MxS.dr (h : MxS r rows m on i ws N os S) (d : Dr 0 S S') : MxS r rows m on i ws N os S' :=
  { h with wn := d.keep _ _ (by omega) h.wn, nn := d.keep _ _ (by omega) h.nn, onl := d.keep _ _ h.h0 h.onl, rw := d.keep _ _ h.m0 h.rw, st := d.st }
theorem MxS.ext (h : MxS r rows m on i ws N os S) (e : Ext S S') : MxS r rows m on i ws N os S' := h.dr ((Dr.refl h.st).ext e)
theorem sts_set {n : Nat} {o : O} (h : StS S 0) (hn : n ≠ 0) : StS (S.set n o) 0 := by
  obtain ⟨st, h1, h2⟩ := h
  exact ⟨st, by rw [set_ne hn]; exact h1, h2⟩
theorem MxS.pop {o : Row} (h : MxS r rows m on i ws N (os ++ [o]) S) : MxS r rows m on i (ws ++ [o]) N os ((S.set on (.lst (os.map rowD))).set (on + 1) (.lst (ws.map rowD ++ [rowD o]))) := by
  have hm := h.hm
  have ho := h.osk o (by simp)
  have hl := h.ln
  refine ⟨.out o h.mix ho.1, ?_, ?_, ?_, ?_, sts_set (sts_set h.st h.h0) (by omega), fun x hx => h.osk x (List.mem_append.mpr (.inl hx)), fun x hx => ?_, ?_, h.h0, hm, h.m0⟩
  · rw [set_eq (by rw [set_ne (by omega)]; exact h.wn), List.map_append]; rfl
  · rw [set_ne (by omega), set_ne (by omega)]; exact h.nn
  · rw [set_ne (by omega)]; exact set_eq h.onl
  · rw [set_ne (by omega), set_ne (by omega)]; exact h.rw
  · rcases List.mem_append.mp hx with q | q
    · exact h.wsk x q
    · rw [List.mem_singleton.mp q]; exact ho.2
  · simp at hl ⊢; omega
theorem MxS.row {x : Row} (h : MxS r rows m on i ws N os S) (hx : rows[i]? = some x) (hr : RowOk r.fields x) : MxS r rows m on (i + 1) (ws ++ [x]) (N ++ [ws.length]) os ((S.set (on + 2) (.lst (N.map nD ++ [nD ws.length]))).set (on + 1) (.lst (ws.map rowD ++ [rowD x]))) := by
  have hm := h.hm
  have hl := h.ln
  have et : rows.take (i + 1) = rows.take i ++ [x] := by rw [List.take_add_one, hx]; rfl
  refine ⟨by rw [et]; exact .row x h.mix, ?_, ?_, ?_, ?_, sts_set (sts_set h.st (by omega)) (by omega), h.osk, fun y hy => ?_, ?_, h.h0, hm, h.m0⟩
  · rw [set_eq (by rw [set_ne (by omega)]; exact h.wn), List.map_append]; rfl
  · rw [set_ne (by omega), set_eq h.nn, List.map_append]; rfl
  · rw [set_ne (by omega), set_ne (by omega)]; exact h.onl
  · rw [set_ne (by omega), set_ne (by omega)]; exact h.rw
  · rcases List.mem_append.mp hy with q | q
    · exact h.wsk y q
    · rw [List.mem_singleton.mp q]; exact hr
  · simp; omega
end
end Br
namespace Br
open PySem PySem.Spec PyProof.Rows L2 L3
section
variable {S : Sto} {k : Nat} {Q : D → Sto → Prop}
theorem pNe_refs {n m : Nat} (h : Same S k (.ref n) (.ref m)) (hk : k ≤ 60) (q : Q (.bl false) S) : pNe (.ref n) (.ref m) S Q := by
  obtain ⟨p, h1, h2, h3, h4⟩ := h
  have hs : SeqAt.shaped p = true := by
    simp only [SeqAt.shaped, h3, Bool.true_and]
    exact decide_eq_true (by omega)
  exact ⟨true, .deep h1 h2 hs hs (SeqAt.eqv_refl _ h3).symm, q⟩
end
end Br
namespace Tb
open PySem PySem.SetTable
section
variable {prog : Program} {w : World} {A : Around} {E : Value → Shared → Prop} {s : Shared}
def IsPr (prog : Program) (w : World) (h : Heap) (k : Int × List Int) (b : Addr) : Prop := ∃ o n t c, h.get? b = some o ∧ o.cls = .type "tuple" ∧ o.data = .seq #[.int k.1 t, .ref c] n ∧ IsTupleKey (intKind prog w) h k.2 c
theorem IsPr.typeIs {s : Shared} {k : Int × List Int} {b : Addr} (x : IsPr prog w s.heap k b) : s.TypeIs (.ref b) "tuple" := let ⟨o, _, _, _, ho, hc, _⟩ := x; ⟨o, ho, hc⟩
theorem IsPr.inj {h : Heap} {b : Addr} {k k' : Int × List Int} (x : IsPr prog w h k b) (y : IsPr prog w h k' b) : k = k' := by
  obtain ⟨o, n, t, c, h1, h2, h3, h4⟩ := x
  obtain ⟨o', n', t', c', g1, g2, g3, g4⟩ := y
  rw [h1] at g1; cases g1
  rw [h3] at g3
  injection g3 with e1 e2
  have e3 := congrArg Array.toList e1
  simp at e3
  obtain ⟨⟨e3, _⟩, e4⟩ := e3
  subst e4
  exact Prod.ext e3 (h4.inj g4)
end
end Tb
namespace L3
open PySem PySem.Spec PyProof.Rows L2
open Tb (TOk byText intE tupE SetK Adds)
section
variable {X : Cx}
def prD (k : Int × List Int) : D := .tup [.int k.1, .tup (k.2.map D.int)]
def wLenP (w : W D) : W D := fun ρ S Q => w ρ S fun d S1 => ∃ (n : Nat) (ns : List (Int × List Int)), d = .ref n ∧ S1[n]? = some (O.lst (ns.map prD)) ∧ ns.length ≤ 240 ∧
  ∀ ms : List (Int × List Int), ms.Nodup → (∀ k, k ∈ ms ↔ k ∈ ns) → ms.length ≤ ns.length → Q (.int ms.length) S1
end
end L3
namespace Br
open PySem L2 L3
abbrev MSt := List (List Int × Nat) × List Nat
section
variable (r : Rp) (rows : List Row)
def MStep (σ : MSt) (x : Line) (τ : MSt) : Prop := match x with
  | .head l k => l = σ.1.length ∧ k.length = l ∧ l ≤ r.keys.length ∧ (∀ o ∈ σ.1, o.1 = k.take o.1.length) ∧ τ = (σ.1 ++ [(k, σ.2.length)], σ.2)
  | .row n => n < rows.length ∧ (∃ O b, σ.1 = O ++ [(keyOf r.keys (rows.getD n []), b)] ∧ O.length = r.keys.length) ∧ τ = (σ.1, σ.2 ++ [n])
  | .foot l k ws => ∃ O b, σ.1 = O ++ [(k, b)] ∧ l = O.length ∧ ws = worths r (rowsOf rows (σ.2.drop b)) ∧ (σ.2.drop b = [] → O = []) ∧ τ = (O, σ.2)
inductive MRun : MSt → List Line → MSt → Prop
  | nil (σ : MSt) : MRun σ [] σ
  | cons {σ σ' τ : MSt} {x : Line} {L : List Line} : MStep r rows σ x σ' → MRun σ' L τ → MRun σ (x :: L) τ
end
section
variable {r : Rp} {rows : List Row}
theorem MStep.pre {σ τ : MSt} {x : Line} (h : MStep r rows σ x τ) : σ.2 <+: τ.2 := by
  cases x with
  | head l k => obtain ⟨_, _, _, _, rfl⟩ := h; exact List.prefix_refl _
  | row n => obtain ⟨_, _, rfl⟩ := h; exact List.prefix_append _ _
  | foot l k ws => obtain ⟨O, b, _, _, _, _, rfl⟩ := h; exact List.prefix_refl _
theorem MRun.pre {σ τ : MSt} {L : List Line} (h : MRun r rows σ L τ) : σ.2 <+: τ.2 := by
  induction h with
  | nil => exact List.prefix_refl _
  | cons a _ ih => exact a.pre.trans ih
theorem drop_cons {α : Type} {L : List α} {j : Nat} {x : α} (h : L[j]? = some x) : L.drop j = x :: L.drop (j + 1) := by
  obtain ⟨hj, e⟩ := List.getElem?_eq_some_iff.mp h
  rw [List.drop_eq_getElem_cons hj, e]
end
end Br
namespace Br
open PySem L2 L3
abbrev Mv := Int × Str × Int
def mstD (q : Int × Int) : D := .tup [.int q.1, .int q.2]
def mvD (m : Mv) : D := .tup [.int m.1, .str m.2.1, .int m.2.2]
def moves3 : List Str := ["add", "drop", "set"]
structure MasOk (ms : List (Int × Int)) : Prop where
  len : ms.length ≤ 60
  num : ∀ q ∈ ms, (0 ≤ q.1 ∧ q.1 ≤ 999) ∧ 0 ≤ q.2 ∧ q.2 ≤ 999
  inc : ms.Pairwise fun a b => a.1 < b.1
structure MovOk (mv : List Mv) : Prop where
  len : mv.length ≤ 60
  num : ∀ m ∈ mv, (0 ≤ m.1 ∧ m.1 ≤ 999) ∧ m.2.1 ∈ moves3 ∧ 0 ≤ m.2.2 ∧ m.2.2 ≤ 999
  inc : mv.Pairwise fun a b => a.1 ≤ b.1
abbrev Mp := Int → Option Int
def why (m : Mp) (x : Mv) : Option Str := if x.2.1 = "add" then (if (m x.1).isSome = true then some "there" else none) else (if (m x.1).isSome = true then none else some "lacks")
def stp (m : Mp) (x : Mv) : Mp := if (why m x).isSome = true then m else if x.2.1 = "drop" then fun k => if k = x.1 then none else m k else fun k => if k = x.1 then some x.2.2 else m k
def runU (m : Mp) (mv : List Mv) : Mp := mv.foldl stp m
def badAt (m : Mp) (i : Nat) (x : Mv) : List (Nat × Str) := match why m x with | some w => [(i, w)] | none => []
def bads : Mp → Nat → List Mv → List (Nat × Str)
  | _, _, [] => []
  | m, i, x :: t => badAt m i x ++ bads (stp m x) (i + 1) t
def badD (b : Nat × Str) : D := .tup [nD b.1, .str b.2]
def mpOf (ms : List (Int × Int)) : Mp := fun k => (ms.find? fun q => decide (q.1 = k)).map (·.2)
structure Told (m : Mp) (T : List (Int × Int)) : Prop where
  inc : T.Pairwise fun a b => a.1 < b.1
  mem : ∀ k w, (k, w) ∈ T ↔ m k = some w
theorem told_unique {m : Mp} {T T' : List (Int × Int)} (h : Told m T) (h' : Told m T') : T = T' := by
  have n1 : T.Nodup := h.inc.imp fun {a b} hab z => by rw [z] at hab; omega
  have n2 : T'.Nodup := h'.inc.imp fun {a b} hab z => by rw [z] at hab; omega
  have hp : T.Perm T' := (List.perm_ext_iff_of_nodup n1 n2).mpr fun a => by obtain ⟨k, w⟩ := a; rw [h.mem, h'.mem]
  exact hp.eq_of_pairwise (le := fun a b => a.1 < b.1) (fun x y _ _ h1 h2 => by omega) h.inc h'.inc
structure DkOk (kvs : List (Key × D)) (m : Mp) (c : Nat) : Prop where
  keys : ∃ ns : List Int, kvs.map (·.1) = ns.map Sum.inl ∧ ns.Nodup ∧ ns.length ≤ c ∧ ∀ k, k ∈ ns ↔ (m k).isSome = true
  get : ∀ k : Int, kGet kvs (.inl k) = (m k).map D.int
theorem DkOk.len {kvs : List (Key × D)} {m : Mp} {c : Nat} (h : DkOk kvs m c) : kvs.length ≤ c := by
  obtain ⟨ns, h1, _, h3, _⟩ := h.keys
  have := congrArg List.length h1
  simp at this
  omega
theorem dk_new : DkOk [] (fun _ => none) 0 := ⟨⟨[], rfl, .nil, Nat.le_refl _, fun k => by simp⟩, fun k => rfl⟩
theorem DkOk.put {kvs : List (Key × D)} {m : Mp} {c : Nat} (h : DkOk kvs m c) (k w : Int) : DkOk (kPut kvs (.inl k) (.int w)) (fun x => if x = k then some w else m x) (c + 1) := by
  obtain ⟨ns, h1, h2, h3, h4⟩ := h.keys
  refine ⟨?_, fun k' => ?_⟩
  · by_cases e : k ∈ ns
    · refine ⟨ns, ?_, h2, by omega, fun x => ?_⟩
      · unfold kPut
        rw [if_pos, ← h1, List.map_map]
        · apply List.map_congr_left
          intro p _
          show (if p.1 = Sum.inl k then (p.1, D.int w) else p).1 = p.1
          split <;> rfl
        · rw [List.any_eq_true]
          have : (Sum.inl k : Key) ∈ kvs.map (·.1) := by rw [h1]; exact List.mem_map.mpr ⟨k, e, rfl⟩
          obtain ⟨p, hp, q⟩ := List.mem_map.mp this
          exact ⟨p, hp, decide_eq_true q⟩
      · by_cases z : x = k
        · subst z; simp [e]
        · rw [if_neg z]; exact h4 x
    · refine ⟨ns ++ [k], ?_, ?_, by simp; omega, fun x => ?_⟩
      · unfold kPut
        rw [if_neg, List.map_append, List.map_append, h1]
        · rfl
        · intro z
          obtain ⟨p, hp, q⟩ := List.any_eq_true.mp z
          have q : p.1 = Sum.inl k := by simpa using q
          have : (Sum.inl k : Key) ∈ ns.map Sum.inl := by rw [← h1, ← q]; exact List.mem_map_of_mem hp
          obtain ⟨y, hy, q2⟩ := List.mem_map.mp this
          have : y = k := by injection q2
          exact e (this ▸ hy)
      · rw [List.nodup_append]
        exact ⟨h2, by simp, fun a ha b hb z => by have : b = k := by simpa using hb
                                                  subst this; subst z; exact e ha⟩
      · by_cases z : x = k
        · subst z; simp
        · rw [if_neg z, List.mem_append, ← h4 x]; simp [z]
  · rw [kGet_put]
    by_cases z : k' = k
    · subst z; simp
    · rw [if_neg (fun y => z (by injection y)), if_neg z]; exact h.get k'
theorem DkOk.drop {kvs : List (Key × D)} {m : Mp} {c : Nat} (h : DkOk kvs m c) (k : Int) : DkOk (kDrop kvs (.inl k)) (fun x => if x = k then none else m x) c := by
  obtain ⟨ns, h1, h2, h3, h4⟩ := h.keys
  refine ⟨⟨ns.filter fun x => decide (x ≠ k), ?_, h2.filter _, Nat.le_trans (List.length_filter_le _ _) h3, fun x => ?_⟩, fun k' => ?_⟩
  · have gen : ∀ (kvs : List (Key × D)) (ns : List Int), kvs.map (·.1) = ns.map Sum.inl → (kvs.filter fun p => decide (p.1 ≠ Sum.inl k)).map (·.1) = (ns.filter fun x => decide (x ≠ k)).map Sum.inl := by
      intro kvs
      induction kvs with
      | nil => intro ns e; have : ns = [] := by simpa using e.symm
               subst this; rfl
      | cons p t ih =>
        intro ns e
        cases ns with
        | nil => simp at e
        | cons x ns =>
          rw [List.map_cons, List.map_cons] at e
          injection e with e1 e2
          by_cases z : x = k
          · subst z
            rw [List.filter_cons_of_neg (by simp [e1]), List.filter_cons_of_neg (by simp)]
            exact ih ns e2
          · rw [List.filter_cons_of_pos (by simp [e1, z]), List.filter_cons_of_pos (by simp [z]), List.map_cons, List.map_cons, e1, ih ns e2]
    exact gen kvs ns h1
  · rw [List.mem_filter, h4 x]
    by_cases z : x = k
    · subst z; simp
    · simp [z]
  · have hg := h.get k'
    by_cases z : k' = k
    · subst z
      rw [if_pos rfl]
      unfold kGet kDrop
      rw [List.find?_eq_none.mpr fun p hp => by have := (List.mem_filter.mp hp).2; simpa using this]
      rfl
    · rw [if_neg z, ← hg]
      unfold kGet kDrop
      congr 1
      rw [List.find?_filter]
      congr 1
      funext p
      by_cases y : p.1 = Sum.inl k'
      · simp [y, z]
      · simp [y]
theorem DkOk.same {kvs : List (Key × D)} {m m' : Mp} {c c' : Nat} (h : DkOk kvs m c) (e : m = m') (hc : c ≤ c') : DkOk kvs m' c' := by
  subst e
  obtain ⟨ns, h1, h2, h3, h4⟩ := h.keys
  exact ⟨⟨ns, h1, h2, by omega, h4⟩, h.get⟩
theorem mpOf_snoc (ms : List (Int × Int)) (q : Int × Int) (h : ∀ p ∈ ms, p.1 ≠ q.1) : mpOf (ms ++ [q]) = fun x => if x = q.1 then some q.2 else mpOf ms x := by
  funext x
  unfold mpOf
  rw [List.find?_append]
  by_cases z : x = q.1
  · rw [if_pos z, List.find?_eq_none.mpr fun p hp => by have := h p hp; simpa [z] using this]
    simp [z]
  · rw [if_neg z, List.find?_cons_of_neg (by simpa using Ne.symm z)]
    simp
theorem told_srt {kvs : List (Key × D)} {m : Mp} {ns ns' : List Int} (h1 : ns.Nodup) (h2 : ∀ k, k ∈ ns ↔ (m k).isSome = true) (hp : ns'.Perm ns) (hs : ns'.Pairwise (· ≤ ·)) : Told m (ns'.map fun k => (k, (m k).getD 0)) := by
  have nd := hp.nodup_iff.mpr h1
  refine ⟨?_, fun k w => ?_⟩
  · rw [List.pairwise_map]
    exact (hs.and nd).imp fun h => by
      show _ < _
      have := h.1
      have := h.2
      omega
  · rw [List.mem_map]
    constructor
    · rintro ⟨x, hx, e⟩
      injection e with e1 e2
      subst e1
      have := (h2 x).mp (hp.mem_iff.mp hx)
      obtain ⟨v, hv⟩ := Option.isSome_iff_exists.mp this
      rw [hv] at e2 ⊢
      simp at e2
      rw [e2]
    · intro e
      exact ⟨k, hp.mem_iff.mpr ((h2 k).mpr (by rw [e]; rfl)), by rw [e]; rfl⟩
theorem runU_snoc (m : Mp) (mv : List Mv) (x : Mv) : runU m (mv ++ [x]) = stp (runU m mv) x := List.foldl_append
theorem bads_app : ∀ (a b : List Mv) (m : Mp) (i : Nat), bads m i (a ++ b) = bads m i a ++ bads (runU m a) (i + a.length) b
  | [], b, m, i => by simp [bads, runU]
  | x :: a, b, m, i => by
    rw [List.cons_append]
    show badAt m i x ++ bads (stp m x) (i + 1) (a ++ b) = (badAt m i x ++ bads (stp m x) (i + 1) a) ++ _
    rw [bads_app a b, List.append_assoc, List.length_cons, show i + (a.length + 1) = i + 1 + a.length by omega]
    rfl
theorem bads_snoc (m : Mp) (mv : List Mv) (x : Mv) : bads m 0 (mv ++ [x]) = bads m 0 mv ++ badAt (runU m mv) mv.length x := by
  rw [bads_app, Nat.zero_add]
  show _ ++ (badAt _ _ x ++ []) = _
  rw [List.append_nil]
theorem bads_len : ∀ (mv : List Mv) (m : Mp) (i : Nat), (bads m i mv).length ≤ mv.length
  | [], m, i => Nat.le_refl _
  | x :: t, m, i => by
    show (badAt m i x ++ bads (stp m x) (i + 1) t).length ≤ _
    have := bads_len t (stp m x) (i + 1)
    have h2 : (badAt m i x).length ≤ 1 := by unfold badAt; split <;> simp
    rw [List.length_append, List.length_cons]
    omega
theorem compD_ms {stay : Sto → Prop} {step : D → Sto → (Option (Key × D) → Sto → Prop) → Prop} {S : Sto} {Q : List (Key × D) → Sto → Prop} (ms : List (Int × Int)) (hi : ms.Pairwise fun a b => a.1 < b.1) (hst : stay S) (hl : ms.length ≤ 1000)
    (hstep : ∀ q ∈ ms, ∀ R : Option (Key × D) → Sto → Prop, R (some (.inl q.1, .int q.2)) S → step (mstD q) S R) (hq : ∀ kvs, DkOk kvs (mpOf ms) ms.length → Q kvs S) : wCompD stay step (ms.map mstD) [] S Q := by
  have go : ∀ (rest done : List (Int × Int)) (acc : List (Key × D)), ms = done ++ rest → DkOk acc (mpOf done) done.length → wCompD stay step (rest.map mstD) acc S Q := by
    intro rest
    induction rest with
    | nil =>
      intro done acc e h
      rw [List.append_nil] at e
      subst e
      exact ⟨hst, hq acc h⟩
    | cons q t ih =>
      intro done acc e h
      have hlen := h.len
      have hdl : done.length ≤ 1000 := by rw [e, List.length_append] at hl; omega
      refine ⟨hst, by unfold small; omega, hstep q (by rw [e]; simp) _ ?_⟩
      refine ih (done ++ [q]) _ (by rw [e, List.append_assoc]; rfl) ?_
      have hne : ∀ p ∈ done, p.1 ≠ q.1 := fun p hp => by
        rw [e] at hi
        have := (List.pairwise_append.mp hi).2.2 p hp q (by simp)
        omega
      rw [mpOf_snoc done q hne, List.length_append]
      exact h.put q.1 q.2
  exact go ms [] [] rfl dk_new
def mkv (q : Int × Int) : Key × D := (.inl q.1, .int q.2)
theorem dk_merge (ms : List (Int × Int)) (hi : ms.Pairwise fun a b => a.1 < b.1) : DkOk (kMerge [] (ms.map mkv)) (mpOf ms) ms.length := by
  have go : ∀ (rest done : List (Int × Int)) (acc : List (Key × D)), ms = done ++ rest → DkOk acc (mpOf done) done.length → DkOk (kMerge acc (rest.map mkv)) (mpOf ms) ms.length := by
    intro rest
    induction rest with
    | nil =>
      intro done acc e h
      rw [List.append_nil] at e
      subst e
      exact h
    | cons q t ih =>
      intro done acc e h
      refine ih (done ++ [q]) _ (by rw [e, List.append_assoc]; rfl) ?_
      have hne : ∀ p ∈ done, p.1 ≠ q.1 := fun p hp => by
        rw [e] at hi
        have := (List.pairwise_append.mp hi).2.2 p hp q (by simp)
        omega
      rw [mpOf_snoc done q hne, List.length_append]
      exact h.put q.1 q.2
  exact go ms [] [] rfl dk_new
theorem take_snoc {α : Type} {l : List α} {i : Nat} {x : α} (h : l[i]? = some x) : l.take (i + 1) = l.take i ++ [x] := by rw [List.take_add_one, h]; rfl
theorem word3 {x : Str} (h : x ∈ moves3) : x = "add" ∨ x = "drop" ∨ x = "set" := by simpa [moves3] using h
theorem ne_da : ("drop" : Str) ≠ "add" := by decide +kernel
theorem ne_sa : ("set" : Str) ≠ "add" := by decide +kernel
theorem ne_ad : ("add" : Str) ≠ "drop" := by decide +kernel
theorem ne_sd : ("set" : Str) ≠ "drop" := by decide +kernel
section
variable {m : Mp} {k v w : Int} (j : Nat)
theorem u_add1 (h : m k = some v) : badAt m j (k, "add", w) = [(j, ("there" : Str))] ∧ stp m (k, "add", w) = m := by
  have e : why m (k, "add", w) = some (Str.ofString "there") := by unfold why; rw [if_pos rfl, h]; rfl
  exact ⟨by unfold badAt; rw [e], by unfold stp; rw [e]; rfl⟩
theorem u_add0 (h : m k = none) : badAt m j (k, "add", w) = [] ∧ stp m (k, "add", w) = fun x => if x = k then some w else m x := by
  have e : why m (k, "add", w) = none := by unfold why; rw [if_pos rfl, h]; rfl
  exact ⟨by unfold badAt; rw [e], by unfold stp; rw [e, if_neg (by simp), if_neg ne_ad]⟩
theorem u_drop1 (h : m k = some v) : badAt m j (k, "drop", w) = [] ∧ stp m (k, "drop", w) = fun x => if x = k then none else m x := by
  have e : why m (k, "drop", w) = none := by unfold why; rw [if_neg ne_da, h]; rfl
  exact ⟨by unfold badAt; rw [e], by unfold stp; rw [e, if_neg (by simp), if_pos rfl]⟩
theorem u_drop0 (h : m k = none) : badAt m j (k, "drop", w) = [(j, ("lacks" : Str))] ∧ stp m (k, "drop", w) = m := by
  have e : why m (k, "drop", w) = some (Str.ofString "lacks") := by unfold why; rw [if_neg ne_da, h]; rfl
  exact ⟨by unfold badAt; rw [e], by unfold stp; rw [e]; rfl⟩
theorem u_set1 (h : m k = some v) : badAt m j (k, "set", w) = [] ∧ stp m (k, "set", w) = fun x => if x = k then some w else m x := by
  have e : why m (k, "set", w) = none := by unfold why; rw [if_neg ne_sa, h]; rfl
  exact ⟨by unfold badAt; rw [e], by unfold stp; rw [e, if_neg (by simp), if_neg ne_sd]⟩
theorem u_set0 (h : m k = none) : badAt m j (k, "set", w) = [(j, ("lacks" : Str))] ∧ stp m (k, "set", w) = m := by
  have e : why m (k, "set", w) = some (Str.ofString "lacks") := by unfold why; rw [if_neg ne_sa, h]; rfl
  exact ⟨by unfold badAt; rw [e], by unfold stp; rw [e]; rfl⟩
end
theorem fl1_mst (q : Int × Int) : Fl1 (mstD q) := .inr ⟨_, rfl, by simp, fun y hy => by
  simp only [List.mem_cons, List.mem_nil_iff, or_false] at hy
  rcases hy with rfl | rfl <;> exact .int _⟩
theorem fl1_bad (q : Nat × Str) : Fl1 (badD q) := .inr ⟨_, rfl, by simp, fun y hy => by
  simp only [List.mem_cons, List.mem_nil_iff, or_false] at hy
  rcases hy with rfl | rfl
  · exact .int _
  · exact .str _⟩
theorem alike_l1 {S : Sto} {n m : Nat} {ls : List D} (h1 : S[n]? = some (.lst ls)) (h2 : S[m]? = some (.lst ls)) (hl : ls.length ≤ 1000) (h : ∀ d ∈ ls, Fl1 d) : Alike S 2 (.ref n) (.ref m) :=
  .inr ⟨_, _, .lst h1 h2, rfl, hl, fun i x y hx hy => by rw [hx] at hy; cases hy; exact alike1 S (h x (List.mem_of_getElem? hx))⟩
theorem alike_two {S : Sto} {a b c d : Nat} (h1 : Alike S 2 (.ref a) (.ref c)) (h2 : Alike S 2 (.ref b) (.ref d)) : Alike S 3 (.tup [.ref a, .ref b]) (.tup [.ref c, .ref d]) :=
  .inr ⟨_, _, .tup _ _, rfl, by simp, fun i x y hx hy => by
    match i, hx, hy with
    | 0, hx, hy => simp at hx hy; subst hx; subst hy; exact h1
    | 1, hx, hy => simp at hx hy; subst hx; subst hy; exact h2
    | _ + 2, hx, hy => simp at hx⟩
theorem same_two {S : Sto} {k n m a b c d : Nat} (hn : S[n]? = some (.lst [.ref a, .ref b])) (hm : S[m]? = some (.lst [.ref c, .ref d])) (h1 : Same S k (.ref a) (.ref c)) (h2 : Same S k (.ref b) (.ref d)) : Same S (k + 1) (.ref n) (.ref m) :=
  .ref hn hm rfl fun i x y hx hy => by
    match i, hx, hy with
    | 0, hx, hy => simp at hx hy; subst hx; subst hy; exact h1
    | 1, hx, hy => simp at hx hy; subst hx; subst hy; exact h2
    | _ + 2, hx, hy => simp at hx
theorem hasP_mv {S : Sto} {x : Mv} (h : x.2.1 ∈ moves3) : HasP S 1 (mvD x) := .tup fun d hd => by
  simp only [List.mem_cons, List.mem_nil_iff, or_false] at hd
  rcases hd with rfl | rfl | rfl
  · exact .int _
  · rcases word3 h with e | e | e <;> rw [e] <;> exact .str (by decide +kernel)
  · exact .int _
theorem hasP_mst {S : Sto} (q : Int × Int) : HasP S 1 (mstD q) := .tup fun d hd => by
  simp only [List.mem_cons, List.mem_nil_iff, or_false] at hd
  rcases hd with rfl | rfl <;> exact .int _
end Br
namespace L3
open PySem PySem.Spec PyProof.Rows L2
section
variable {prog : Program} {w : World} {A : Around} {E : Value → Shared → Prop}
end
section
variable {X : Cx} {pos : Pos}
end
section
variable {X : Cx} {pos : Pos} {e : Expr} {we : W D} {es : List Expr} {is : List Nat}
end
end L3
namespace Br
open PySem L2 L3
theorem MovOk.sub {mv mv' : List Mv} (h : MovOk mv) (hs : mv'.Sublist mv) : MovOk mv' := ⟨Nat.le_trans hs.length_le h.len, fun m hm => h.num m (hs.subset hm), h.inc.sublist hs⟩
end Br
namespace Br
open PySem PySem.Spec L2 L3
def topS (i : Nat) : Stmt := PySem.Challenge.pw_breakreports_k15_masters_brought_up_to_d.main.body.getD i (.Pass ⟨0, 0, 0, 0⟩)
structure Txt (w : World) (K : PySem.W.Frag) (mg : Str → Option Value) (tk : Nat → Tok) (ta : Nat → Addr) : Prop where
  len : mg "len" = none
  isinstance : mg "isinstance" = none
  tuple : mg "tuple" = none
  list : mg "list" = none
  int : mg "int" = none
  bool : mg "bool" = none
  str : mg "str" = none
  all : mg "all" = none
  any : mg "any" = none
  sum : mg "sum" = none
  min : mg "min" = none
  max : mg "max" = none
  range : mg "range" = none
  enumerate : mg "enumerate" = none
  zip : mg "zip" = none
  sorted : mg "sorted" = none
  set : mg "set" = none
  dict : mg "dict" = none
  c_MOST_ROWS : mg "MOST_ROWS" = some (.int 60 (tk 0))
  c_MOST_NUMBER : mg "MOST_NUMBER" = some (.int 999 (tk 1))
  m_MOVES : mg "MOVES" = some (.ref (ta 0))
  r_MOVES : ∀ H μ, Rep K H μ (.tup [.str "add", .str "drop", .str "set"]) (.ref (ta 0))
local macro_rules | `(tactic| walk_at "br") => `(tactic| first | simp only [wSeq, wIfS, wRet, wDrop, wAsg, wPar, wNever, wNext, wTst, wOp, wAnd, wOr, wNot, wAndV, wOrV, wNotV, wIf, wCh, wVar, wC, wNil, wCons, wCall, wTup, wIsi, wIsi2, wFor, wItm, wRng1, wRng2, wEnum, wEnumT, wZip, wZipT, wLc, wNew, wLst, wP, wNoP, wSlT, wSlL, wMeth, wPut, wDict, wVals, wMM, wLR, wListOf, wYes, wNeg, wTru, wSorted, wCallV, wSortK, wItn, wCat, wRep, wRng3, pRepT, wTR, wDNew, wDix, wSetD, wSortD, wKix, wKput, wKnew, wKpop, wDictP, wSortKI, wSSetI, wSSetT, wDc, stepDc, wKdel, wKnew0, wJoin, wSplit, pStr1, pInK, pIndex, pClear, pPop, wDictG, pInt1, pI, pIC, pSub, pMul, pDiv, pMod, pPow, pLe, pGt, pIn, pIsN, pNotN, pIx, pTuple, pTupL, pAllL, pAnyL, pAppend, pExtend, pReverse, pSet, pMin2, pMax2, lk, tg3, setAll, start3, isTy, stepLc, wipe3, List.map_cons, List.map_nil, List.length_cons, List.length_nil, List.cons_append, List.nil_append, List.replicate, List.set_cons_zero, List.set_cons_succ, Nat.reduceAdd, Nat.reduceSub, if_true, if_false, Bool.false_eq_true, Bool.true_eq_false, pEq_ii, pEq_ss, pEq_bb, pNe_ii, pNe_ss, pNe_bb, pPlus_ii, pPlus_tt, pLt_ii, pLt_tt, pGe_ii, pGeP_ii, pGeP_pp, pLen_t, pLen_r, pLen_o, reduceCtorEq, Bool.not_true, Bool.not_false] | skip)
local macro_rules | `(tactic| walk_at "bs") => `(tactic| first | simp only [wIfS, wRet, wDrop, wAsg, wPar, wNever, wNext, wTst, wOp, wAnd, wOr, wNot, wAndV, wOrV, wNotV, wIf, wCh, wVar, wC, wNil, wCons, wCall, wTup, wIsi, wIsi2, wFor, wItm, wRng1, wRng2, wEnum, wEnumT, wZip, wZipT, wLc, wNew, wLst, wP, wNoP, wSlT, wSlL, wMeth, wPut, wDict, wVals, wMM, wLR, wListOf, wYes, wNeg, wTru, wSorted, wCallV, wSortK, wItn, wCat, wRep, wRng3, pRepT, wTR, wDNew, wDix, wSetD, wSortD, wKix, wKput, wKnew, wKpop, wDictP, wSortKI, wSSetI, wSSetT, wDc, stepDc, wKdel, wKnew0, wJoin, wSplit, pStr1, pInK, pIndex, pClear, pPop, wDictG, pInt1, pI, pIC, pSub, pMul, pDiv, pMod, pPow, pLe, pGt, pIn, pIsN, pNotN, pIx, pTuple, pTupL, pAllL, pAnyL, pAppend, pExtend, pReverse, pSet, pMin2, pMax2, lk, tg3, setAll, start3, isTy, stepLc, wipe3, List.map_cons, List.map_nil, List.length_cons, List.length_nil, List.cons_append, List.nil_append, List.replicate, List.set_cons_zero, List.set_cons_succ, Nat.reduceAdd, Nat.reduceSub, if_true, if_false, Bool.false_eq_true, Bool.true_eq_false, pEq_ii, pEq_ss, pEq_bb, pNe_ii, pNe_ss, pNe_bb, pPlus_ii, pPlus_tt, pLt_ii, pLt_tt, pGe_ii, pGeP_ii, pGeP_pp, pLen_t, pLen_r, pLen_o, reduceCtorEq, Bool.not_true, Bool.not_false] | skip)
local macro_rules | `(tactic| walk_at "bq") => `(tactic| first | simp only [wSeq, wIfS, wRet, wDrop, wAsg, wPar, wNever, wNext, wTst, wOp, wAnd, wOr, wNot, wAndV, wOrV, wNotV, wIf, wCh, wVar, wC, wNil, wCons, wCall, wTup, wIsi, wIsi2, wFor, wRng1, wRng2, wEnum, wEnumT, wZip, wZipT, wLc, wNew, wLst, wP, wNoP, wSlT, wSlL, wMeth, wPut, wDict, wVals, wMM, wLR, wListOf, wYes, wNeg, wTru, wSorted, wCallV, wSortK, wItn, wCat, wRep, wRng3, pRepT, wTR, wDNew, wDix, wSetD, wSortD, wKix, wKput, wKnew, wKpop, wDictP, wSortKI, wSSetI, wSSetT, wLenP, wDc, stepDc, wKdel, wKnew0, wJoin, wSplit, pStr1, pInK, pIndex, pClear, pPop, wDictG, pInt1, pI, pIC, pSub, pMul, pDiv, pMod, pPow, pLe, pGt, pIn, pIsN, pNotN, pTuple, pTupL, pAllL, pAnyL, pAppend, pExtend, pReverse, pSet, pMin2, pMax2, lk, tg3, setAll, start3, isTy, stepLc, wipe3, List.map_cons, List.map_nil, List.length_cons, List.length_nil, List.cons_append, List.nil_append, List.replicate, List.set_cons_zero, List.set_cons_succ, Nat.reduceAdd, Nat.reduceSub, if_true, if_false, Bool.false_eq_true, Bool.true_eq_false, pEq_ii, pEq_ss, pEq_bb, pNe_ii, pNe_ss, pNe_bb, pPlus_ii, pPlus_tt, pLt_ii, pLt_tt, pGe_ii, pGeP_ii, pGeP_pp, pLen_r, pLen_o, reduceCtorEq, Bool.not_true, Bool.not_false, pIx_0, pIx_1, pIx_2, pIx_3, pIx_4, pIx_5, pIx_6, pLen_tup, small, Nat.reduceLeDiff, true_and, and_true, decide_true, decide_false, ws_head_row, ws_head_foot, ws_head_page, ws_head_again, ws_row_head, ws_row_foot, ws_row_page, ws_row_again, ws_foot_head, ws_foot_row, ws_foot_page, ws_foot_again, ws_page_head, ws_page_row, ws_page_foot, ws_page_again, ws_again_head, ws_again_row, ws_again_foot, ws_again_page, ws_add_drop, ws_add_set, ws_drop_add, ws_drop_set, ws_set_add, ws_set_drop, ws_next_test, ws_next_same, ws_next_first, ws_next_go, ws_next_keep, ws_next_add, ws_next_begin, ws_next_row, ws_next_head, ws_next_foot, ws_next_end, ws_test_next, ws_test_same, ws_test_first, ws_test_go, ws_test_keep, ws_test_add, ws_test_begin, ws_test_row, ws_test_head, ws_test_foot, ws_test_end, ws_same_next, ws_same_test, ws_same_first, ws_same_go, ws_same_keep, ws_same_add, ws_same_begin, ws_same_row, ws_same_head, ws_same_foot, ws_same_end, ws_first_next, ws_first_test, ws_first_same, ws_first_go, ws_first_keep, ws_first_add, ws_first_begin, ws_first_row, ws_first_head, ws_first_foot, ws_first_end, ws_go_next, ws_go_test, ws_go_same, ws_go_first, ws_go_keep, ws_go_add, ws_go_begin, ws_go_row, ws_go_head, ws_go_foot, ws_go_end, ws_keep_next, ws_keep_test, ws_keep_same, ws_keep_first, ws_keep_go, ws_keep_add, ws_keep_begin, ws_keep_row, ws_keep_head, ws_keep_foot, ws_keep_end, ws_add_next, ws_add_test, ws_add_same, ws_add_first, ws_add_go, ws_add_keep, ws_add_begin, ws_add_row, ws_add_head, ws_add_foot, ws_add_end, ws_begin_next, ws_begin_test, ws_begin_same, ws_begin_first, ws_begin_go, ws_begin_keep, ws_begin_add, ws_begin_row, ws_begin_head, ws_begin_foot, ws_begin_end, ws_row_next, ws_row_test, ws_row_same, ws_row_first, ws_row_go, ws_row_keep, ws_row_add, ws_row_begin, ws_row_end, ws_head_next, ws_head_test, ws_head_same, ws_head_first, ws_head_go, ws_head_keep, ws_head_add, ws_head_begin, ws_head_end, ws_foot_next, ws_foot_test, ws_foot_same, ws_foot_first, ws_foot_go, ws_foot_keep, ws_foot_add, ws_foot_begin, ws_foot_end, ws_end_next, ws_end_test, ws_end_same, ws_end_first, ws_end_go, ws_end_keep, ws_end_add, ws_end_begin, ws_end_row, ws_end_head, ws_end_foot, ws_count_least, ws_count_most, ws_count_sum, ws_least_count, ws_least_most, ws_least_sum, ws_most_count, ws_most_least, ws_most_sum, ws_sum_count, ws_sum_least, ws_sum_most, ws_eq_ge, ws_eq_lt, ws_eq_ne, ws_ge_eq, ws_ge_lt, ws_ge_ne, ws_lt_eq, ws_lt_ge, ws_lt_ne, ws_ne_eq, ws_ne_ge, ws_ne_lt, wFld, wPutF, wAddF, wOwn, wMake, wTab, wFstr, pInTab] | skip)
local macro_rules | `(tactic| walk_at "bt") => `(tactic| first | simp only [wIfS, wRet, wDrop, wAsg, wPar, wNever, wNext, wTst, wOp, wAnd, wOr, wNot, wAndV, wOrV, wNotV, wIf, wCh, wVar, wC, wNil, wCons, wCall, wTup, wIsi, wIsi2, wFor, wRng1, wRng2, wEnum, wEnumT, wZip, wZipT, wLc, wNew, wLst, wP, wNoP, wSlT, wSlL, wMeth, wPut, wDict, wVals, wMM, wLR, wListOf, wYes, wNeg, wTru, wSorted, wCallV, wSortK, wItn, wCat, wRep, wRng3, pRepT, wTR, wDNew, wDix, wSetD, wSortD, wKix, wKput, wKnew, wKpop, wDictP, wSortKI, wSSetI, wSSetT, wLenP, wDc, stepDc, wKdel, wKnew0, wJoin, wSplit, pStr1, pInK, pIndex, pClear, pPop, wDictG, pInt1, pI, pIC, pSub, pMul, pDiv, pMod, pPow, pLe, pGt, pIn, pIsN, pNotN, pTuple, pTupL, pAllL, pAnyL, pAppend, pExtend, pReverse, pSet, pMin2, pMax2, lk, tg3, setAll, start3, isTy, stepLc, wipe3, List.map_cons, List.map_nil, List.length_cons, List.length_nil, List.cons_append, List.nil_append, List.replicate, List.set_cons_zero, List.set_cons_succ, Nat.reduceAdd, Nat.reduceSub, if_true, if_false, Bool.false_eq_true, Bool.true_eq_false, pEq_ii, pEq_ss, pEq_bb, pNe_ii, pNe_ss, pNe_bb, pPlus_ii, pPlus_tt, pLt_ii, pLt_tt, pGe_ii, pGeP_ii, pGeP_pp, pLen_r, pLen_o, reduceCtorEq, Bool.not_true, Bool.not_false, pIx_0, pIx_1, pIx_2, pIx_3, pIx_4, pIx_5, pIx_6, pLen_tup, small, Nat.reduceLeDiff, true_and, and_true, decide_true, decide_false, ws_head_row, ws_head_foot, ws_head_page, ws_head_again, ws_row_head, ws_row_foot, ws_row_page, ws_row_again, ws_foot_head, ws_foot_row, ws_foot_page, ws_foot_again, ws_page_head, ws_page_row, ws_page_foot, ws_page_again, ws_again_head, ws_again_row, ws_again_foot, ws_again_page, ws_add_drop, ws_add_set, ws_drop_add, ws_drop_set, ws_set_add, ws_set_drop, ws_next_test, ws_next_same, ws_next_first, ws_next_go, ws_next_keep, ws_next_add, ws_next_begin, ws_next_row, ws_next_head, ws_next_foot, ws_next_end, ws_test_next, ws_test_same, ws_test_first, ws_test_go, ws_test_keep, ws_test_add, ws_test_begin, ws_test_row, ws_test_head, ws_test_foot, ws_test_end, ws_same_next, ws_same_test, ws_same_first, ws_same_go, ws_same_keep, ws_same_add, ws_same_begin, ws_same_row, ws_same_head, ws_same_foot, ws_same_end, ws_first_next, ws_first_test, ws_first_same, ws_first_go, ws_first_keep, ws_first_add, ws_first_begin, ws_first_row, ws_first_head, ws_first_foot, ws_first_end, ws_go_next, ws_go_test, ws_go_same, ws_go_first, ws_go_keep, ws_go_add, ws_go_begin, ws_go_row, ws_go_head, ws_go_foot, ws_go_end, ws_keep_next, ws_keep_test, ws_keep_same, ws_keep_first, ws_keep_go, ws_keep_add, ws_keep_begin, ws_keep_row, ws_keep_head, ws_keep_foot, ws_keep_end, ws_add_next, ws_add_test, ws_add_same, ws_add_first, ws_add_go, ws_add_keep, ws_add_begin, ws_add_row, ws_add_head, ws_add_foot, ws_add_end, ws_begin_next, ws_begin_test, ws_begin_same, ws_begin_first, ws_begin_go, ws_begin_keep, ws_begin_add, ws_begin_row, ws_begin_head, ws_begin_foot, ws_begin_end, ws_row_next, ws_row_test, ws_row_same, ws_row_first, ws_row_go, ws_row_keep, ws_row_add, ws_row_begin, ws_row_end, ws_head_next, ws_head_test, ws_head_same, ws_head_first, ws_head_go, ws_head_keep, ws_head_add, ws_head_begin, ws_head_end, ws_foot_next, ws_foot_test, ws_foot_same, ws_foot_first, ws_foot_go, ws_foot_keep, ws_foot_add, ws_foot_begin, ws_foot_end, ws_end_next, ws_end_test, ws_end_same, ws_end_first, ws_end_go, ws_end_keep, ws_end_add, ws_end_begin, ws_end_row, ws_end_head, ws_end_foot, ws_count_least, ws_count_most, ws_count_sum, ws_least_count, ws_least_most, ws_least_sum, ws_most_count, ws_most_least, ws_most_sum, ws_sum_count, ws_sum_least, ws_sum_most, ws_eq_ge, ws_eq_lt, ws_eq_ne, ws_ge_eq, ws_ge_lt, ws_ge_ne, ws_lt_eq, ws_lt_ge, ws_lt_ne, ws_ne_eq, ws_ne_ge, ws_ne_lt, wFld, wPutF, wAddF, wOwn, wMake, wTab, wFstr, pInTab] | skip)
local macro_rules | `(tactic| walk_at "bi") => `(tactic| first | simp only [wIfS, wRet, wDrop, wAsg, wPar, wNever, wNext, wTst, wOp, wAnd, wOr, wNot, wAndV, wOrV, wNotV, wIf, wCh, wVar, wC, wNil, wCons, wCall, wTup, wIsi, wIsi2, wFor, wRng1, wRng2, wEnum, wEnumT, wZip, wZipT, wLc, wNew, wLst, wP, wNoP, wSlT, wSlL, wMeth, wPut, wDict, wVals, wMM, wLR, wListOf, wYes, wNeg, wTru, wSorted, wCallV, wSortK, wItn, wCat, wRep, wRng3, pRepT, wTR, wDNew, wDix, wSetD, wSortD, wKix, wKput, wKnew, wKpop, wDictP, wSortKI, wSSetI, wSSetT, wLenP, wDc, stepDc, wKdel, wKnew0, wJoin, wSplit, pStr1, pInK, pIndex, pClear, pPop, wDictG, pInt1, pI, pIC, pSub, pMul, pDiv, pMod, pPow, pLe, pGt, pIn, pIsN, pNotN, pTuple, pTupL, pAllL, pAnyL, pAppend, pExtend, pReverse, pSet, pMin2, pMax2, lk, tg3, setAll, start3, isTy, stepLc, wipe3, List.map_cons, List.map_nil, List.length_cons, List.length_nil, List.cons_append, List.nil_append, List.replicate, List.set_cons_zero, List.set_cons_succ, Nat.reduceAdd, Nat.reduceSub, if_true, if_false, Bool.false_eq_true, Bool.true_eq_false, pEq_ii, pEq_ss, pEq_bb, pNe_ii, pNe_ss, pNe_bb, pPlus_ii, pPlus_tt, pLt_ii, pLt_tt, pGe_ii, pGeP_ii, pGeP_pp, pLen_r, pLen_o, reduceCtorEq, Bool.not_true, Bool.not_false, pIx_0, pIx_1, pIx_2, pIx_3, pIx_4, pIx_5, pIx_6, pLen_tup, small, Nat.reduceLeDiff, true_and, and_true, decide_true, decide_false, ws_head_row, ws_head_foot, ws_head_page, ws_head_again, ws_row_head, ws_row_foot, ws_row_page, ws_row_again, ws_foot_head, ws_foot_row, ws_foot_page, ws_foot_again, ws_page_head, ws_page_row, ws_page_foot, ws_page_again, ws_again_head, ws_again_row, ws_again_foot, ws_again_page, ws_add_drop, ws_add_set, ws_drop_add, ws_drop_set, ws_set_add, ws_set_drop, ws_next_test, ws_next_same, ws_next_first, ws_next_go, ws_next_keep, ws_next_add, ws_next_begin, ws_next_row, ws_next_head, ws_next_foot, ws_next_end, ws_test_next, ws_test_same, ws_test_first, ws_test_go, ws_test_keep, ws_test_add, ws_test_begin, ws_test_row, ws_test_head, ws_test_foot, ws_test_end, ws_same_next, ws_same_test, ws_same_first, ws_same_go, ws_same_keep, ws_same_add, ws_same_begin, ws_same_row, ws_same_head, ws_same_foot, ws_same_end, ws_first_next, ws_first_test, ws_first_same, ws_first_go, ws_first_keep, ws_first_add, ws_first_begin, ws_first_row, ws_first_head, ws_first_foot, ws_first_end, ws_go_next, ws_go_test, ws_go_same, ws_go_first, ws_go_keep, ws_go_add, ws_go_begin, ws_go_row, ws_go_head, ws_go_foot, ws_go_end, ws_keep_next, ws_keep_test, ws_keep_same, ws_keep_first, ws_keep_go, ws_keep_add, ws_keep_begin, ws_keep_row, ws_keep_head, ws_keep_foot, ws_keep_end, ws_add_next, ws_add_test, ws_add_same, ws_add_first, ws_add_go, ws_add_keep, ws_add_begin, ws_add_row, ws_add_head, ws_add_foot, ws_add_end, ws_begin_next, ws_begin_test, ws_begin_same, ws_begin_first, ws_begin_go, ws_begin_keep, ws_begin_add, ws_begin_row, ws_begin_head, ws_begin_foot, ws_begin_end, ws_row_next, ws_row_test, ws_row_same, ws_row_first, ws_row_go, ws_row_keep, ws_row_add, ws_row_begin, ws_row_end, ws_head_next, ws_head_test, ws_head_same, ws_head_first, ws_head_go, ws_head_keep, ws_head_add, ws_head_begin, ws_head_end, ws_foot_next, ws_foot_test, ws_foot_same, ws_foot_first, ws_foot_go, ws_foot_keep, ws_foot_add, ws_foot_begin, ws_foot_end, ws_end_next, ws_end_test, ws_end_same, ws_end_first, ws_end_go, ws_end_keep, ws_end_add, ws_end_begin, ws_end_row, ws_end_head, ws_end_foot, ws_count_least, ws_count_most, ws_count_sum, ws_least_count, ws_least_most, ws_least_sum, ws_most_count, ws_most_least, ws_most_sum, ws_sum_count, ws_sum_least, ws_sum_most, ws_eq_ge, ws_eq_lt, ws_eq_ne, ws_ge_eq, ws_ge_lt, ws_ge_ne, ws_lt_eq, ws_lt_ge, ws_lt_ne, ws_ne_eq, ws_ne_ge, ws_ne_lt, wFld, wPutF, wAddF, wOwn, wMake, wTab, wFstr, pInTab, wItm] | skip)
section
variable {P : Program} {w : World} {K : PySem.W.Frag} {mg : Str → Option Value} {base : Heap} {tk : Nat → Tok} {ta : Nat → Addr}
abbrev s_is_number : Stmt := topS 8
theorem sc_is_number : FnScope ["thing", "least", "most"] ["thing", "least", "most"] (defScope s_is_number) := ⟨rfl, rfl, rfl, by decide +kernel, rfl, by decide +kernel, by decide +kernel⟩
def sp_is_number : PN := fun ds S Q => ∃ i l m : Int, ds = [.int i, .int l, .int m] ∧ Q (.bl (decide (l ≤ i) && decide (i ≤ m))) S
theorem ok_is_number {f : Addr} {fd : FuncData} (T : Txt w K mg tk ta) (F : Fun K "is_number" "is_number" s_is_number f fd) (hm : mg "is_number" = some (.ref f)) : Fn3 P w K mg base 2 "is_number" sp_is_number := by
  have hb := F.binds (ps := ["thing", "least", "most"]) fun _ _ _ _ _ _ us hl => match us, hl with | [_, _, _], _ => rfl
  refine fn3 F sc_is_number hm hb (fun cdv A outer s H E hr => (qss_cons (qs_if (qw_pt (qw_or (qt_not (qt_val (qe_isi .int T.isinstance T.int (qe_var 0)))) (qw_or1 (qt_val (qe_isi .bool T.isinstance T.bool (qe_var 0)))))) (qss_one (qs_ret qe_bl)) qss_nil) (qss_one (qs_ret (qe_ch (c_le) (c_le) (qe_var 1) (qe_var 0) (qe_var 2)))))) ?_ ?_
  · rintro ds S Q ⟨i, l, m, rfl, _⟩; rfl
  · rintro ds S Q ⟨i, l, m, rfl, q⟩
    walk_at "br"
    by_cases h : l ≤ i
    · simpa [h] using q
    · simpa [h] using q
abbrev s_is_tuple_of : Stmt := topS 9
theorem sc_is_tuple_of : FnScope ["thing", "many"] ["thing", "many"] (defScope s_is_tuple_of) := ⟨rfl, rfl, rfl, by decide +kernel, rfl, by decide +kernel, by decide +kernel⟩
def sp_is_tuple_of : PN := fun ds S Q => ∃ xs n, ds = [.tup xs, .int n] ∧ Q (.bl (decide ((xs.length : Int) = n))) S
theorem ok_is_tuple_of {f : Addr} {fd : FuncData} (T : Txt w K mg tk ta) (F : Fun K "is_tuple_of" "is_tuple_of" s_is_tuple_of f fd) (hm : mg "is_tuple_of" = some (.ref f)) : Fn3 P w K mg base 2 "is_tuple_of" sp_is_tuple_of := by
  have hb := F.binds (ps := ["thing", "many"]) fun _ _ _ _ _ _ us hl => match us, hl with | [_, _], _ => rfl
  refine fn3 F sc_is_tuple_of hm hb (fun cdv A outer s H E hr => (qss_one (qs_ret (qe_and (qe_isi .tuple T.isinstance T.tuple (qe_var 0)) (qe_one (qe_cp (c_eq hr) (qe_len T.len (qa_cons (qe_var 0) qa_nil)) (qe_var 1))))))) ?_ ?_
  · rintro ds S Q ⟨a, m, rfl, _⟩; rfl
  · rintro ds S Q ⟨a, m, rfl, q⟩
    walk_at "br"
    exact ⟨_, rfl, q⟩
abbrev s_is_row : Stmt := topS 10
theorem sc_is_row : FnScope ["thing", "fields", "number"] ["thing", "fields"] (defScope s_is_row) := ⟨rfl, rfl, rfl, by decide +kernel, rfl, by decide +kernel, by decide +kernel⟩
def sp_is_row : PN := fun ds S Q => ∃ (r : Row) (fields : Nat), ds = [rowD r, nD fields] ∧ RowOk fields r ∧ fields ≤ 1000 ∧ Q (.bl true) S
theorem ok_is_row {f : Addr} {fd : FuncData} (T : Txt w K mg tk ta) (F : Fun K "is_row" "is_row" s_is_row f fd) (hm : mg "is_row" = some (.ref f)) (F_is_number : Fn3 P w K mg base 2 "is_number" sp_is_number) (F_is_tuple_of : Fn3 P w K mg base 2 "is_tuple_of" sp_is_tuple_of) : Fn3 P w K mg base 3 "is_row" sp_is_row := by
  have hb := F.binds (ps := ["thing", "fields"]) fun _ _ _ _ _ _ us hl => match us, hl with | [_, _], _ => rfl
  refine fn3 F sc_is_row hm hb (fun cdv A outer s H E hr => (qss_one (qs_ret (qe_and (qe_call (F_is_tuple_of.mono (by decide)) hr (qa_cons (qe_var 0) (qa_cons (qe_var 1) qa_nil))) (qe_one (qe_allL rfl T.all (ql_lc (own := [("number", 2)]) rfl sc_is_row.nd (qi_seq (qe_var 0)) (blkOk_by (show blkC ["thing", "fields", "number"] (defScope s_is_row) _ _ = true from by decide +kernel)) (fun _ _ _ _ _ => qg_one sc_is_row.nd 2) (fun _ _ _ _ _ => qts_nil) (fun _ _ _ _ _ => (qe_call (F_is_number.mono (by decide)) hr (qa_cons (qe_var 2) (qa_cons qe_int (qa_cons (qe_gint T.c_MOST_NUMBER) qa_nil)))))))))))) ?_ ?_
  · rintro ds S Q ⟨a, m, rfl, _⟩; rfl
  · rintro ds S Q ⟨r, fields, rfl, ⟨h1, h2⟩, h3, q⟩
    unfold rowD
    walk_at "br"
    unfold sp_is_tuple_of sp_is_number
    refine ⟨_, _, rfl, ?_⟩
    rw [List.length_map, h1, decide_eq_true rfl]
    walk_at "br"
    refine ⟨_, rfl, comp_onm D.int (fun _ => .bl true) r rfl (small_of (Nat.le_of_eq h1) (by omega)) (fun x hx k hk => ?_) ⟨r.map fun _ => true, by rw [List.map_map]; rfl, ?_⟩⟩
    · walk_at "br"
      refine ⟨_, _, _, rfl, ?_⟩
      have := h2 x hx
      rw [num_ok this.1 this.2]
      exact hk
    · have : (r.map fun _ => true).all id = true := by simp
      rw [this]; exact q
abbrev s_check_each_row : Stmt := topS 11
theorem sc_check_each_row : FnScope ["rows", "fits", "number", "row"] ["rows", "fits"] (defScope s_check_each_row) := ⟨rfl, rfl, rfl, by decide +kernel, rfl, by decide +kernel, by decide +kernel⟩
def sp_check_each_row : PC3 := fun cf inv ds S Q => ∃ (n : Nat) (xs : List D), ds = [.ref n] ∧ S[n]? = some (.lst xs) ∧ xs.length ≤ 60 ∧ inv S ∧ (∀ x ∈ xs, cf [x] = some (.bl true)) ∧ Q .non S
theorem ok_check_each_row {f : Addr} {fd : FuncData} (T : Txt w K mg tk ta) (F : Fun K "check_each_row" "check_each_row" s_check_each_row f fd) (hm : mg "check_each_row" = some (.ref f)) : Fn3C P w K mg base 5 6 "check_each_row" sp_check_each_row := by
  have hb := F.binds (ps := ["rows", "fits"]) fun _ _ _ _ _ _ us hl => match us, hl with | [_, _], _ => rfl
  refine fn3C F sc_check_each_row hm hb (fun a Z Zp capD capV cf inv hC cdv A outer s H E hz hzp hcp hr => (qss_one (qs_for PassesOwn.never rfl (qi_enum T.enumerate (qa_cons (qe_var 0) qa_nil)) (qg_many rfl (qgs_cons sc_check_each_row.nd 2 (qgs_cons sc_check_each_row.nd 3 qgs_nil))) (qss_one (qs_if (qw_pt (qw_or (qt_cp (c_ge) (qe_var 2) (qe_gint T.c_MOST_ROWS)) (qw_or1 (qt_not (qt_val (qe_callV hC (hr.mono (by decide)) hz hzp hcp 1 (qa_cons (qe_var 3) qa_nil))))))) (qss_one qs_never) qss_nil))))) ?_ ?_
  · rintro cf inv ds S Q ⟨n, xs, rfl, _⟩; rfl
  · rintro a cf inv ds S Q ⟨n, xs, rfl, hS, h1, hi, hf, q⟩
    walk_at "br"
    refine ⟨_, hS, ?_⟩
    refine loop_inv (fun i ρ S' => ∃ (v w : Option D), ρ = [some (.ref n), some (.adr a), v, w] ∧ S' = S) _ 0 ⟨none, none, rfl, rfl⟩ (fun i ρ S' h => by obtain ⟨v, w, rfl, rfl⟩ := h; exact hS) ?_ ?_
    · rintro j x ρ S' k hx ⟨v, w, rfl, rfl⟩ hk
      obtain ⟨y, hy, rfl⟩ := enumD_get _ _ _ _ hx
      have hj : j < xs.length := (List.getElem?_eq_some_iff.mp hy).1
      walk_at "br"
      refine ⟨trivial, ?_⟩
      rw [decide_eq_false (show ¬ (60 : Int) ≤ ((0 + j : Nat) : Int) by omega)]
      walk_at "br"
      refine ⟨trivial, hi, .bl true, hf y (List.mem_of_getElem? hy), ?_⟩
      walk_at "br"
      exact hk _ _ ⟨_, _, rfl, rfl⟩
    · rintro ρ S' ⟨v, w, rfl, rfl⟩
      exact q
abbrev s_check_masters : Stmt := topS 14
theorem sc_check_masters : FnScope ["masters", "number"] ["masters"] (defScope s_check_masters) := ⟨rfl, rfl, rfl, by decide +kernel, rfl, by decide +kernel, by decide +kernel⟩
theorem each_master {ws : W (List D)} {wB : W D} {capIx : List Nat} {ρ : L3.Env} {S : Sto} {Q : D → Sto → Prop} {n : Nat} {xs : List D} {capD : List D} (hws : ∀ k : List D → Sto → Prop, k [.ref n] S → ws ρ S k) (hcap : capIx.map (lk ρ) = capD.map some) (hnr : noRefs capD = true)
    (hS : S[n]? = some (.lst xs)) (h1 : xs.length ≤ 60) (hB : ∀ x ∈ xs, wB (some x :: capD.map some) S fun r S'' => r = .bl true ∧ S'' = S) (q : Q .non S) : wCallC sp_check_each_row ws 1 wB capIx ρ S Q := by
  classical
  refine hws _ ⟨fun args => match args with | [x] => if x ∈ xs then some (.bl true) else none | _ => none, fun S' => S' = S, capD, hcap, hnr, fun args d hf => ?_, n, xs, rfl, hS, h1, rfl, fun x hx => ?_, q⟩
  · dsimp only at hf
    split at hf
    · rename_i x
      split at hf
      · rename_i hi
        cases hf
        refine ⟨rfl, fun S' e => ?_⟩
        subst e
        exact hB x hi
      · cases hf
    · cases hf
  · show (if x ∈ xs then some (D.bl true) else none) = _
    rw [if_pos hx]
def sp_check_masters : PN := fun ds S Q => ∃ (n : Nat) (ms : List (Int × Int)), ds = [.ref n] ∧ S[n]? = some (.lst (ms.map mstD)) ∧ MasOk ms ∧ Q .non S
theorem ok_check_masters {f : Addr} {fd : FuncData} (T : Txt w K mg tk ta) (F : Fun K "check_masters" "check_masters" s_check_masters f fd) (hm : mg "check_masters" = some (.ref f)) {c Pt : Addr} (ht : PySem.W.tabIn K "check_masters" = some (c, Pt)) (hcode : fd.code = .ref c) (B : LamB K mg base) (F_is_row : Fn3 P w K mg base 3 "is_row" sp_is_row) (F_check_each_row : Fn3C P w K mg base 5 6 "check_each_row" sp_check_each_row) : Fn3 P w K mg base 7 "check_masters" sp_check_masters := by
  have hb := F.binds (ps := ["masters"]) fun _ _ _ _ _ _ us hl => match us, hl with | [_], _ => rfl
  refine fn3L F hcode sc_check_masters hm hb (fun A outer s H E hr => (qss_cons (qs_expr (qe_callC (capIx := []) (F_check_each_row.mono (by decide)) hr rfl (qac_cons (qe_var 0) (qac_lam2 B (by decide) ht rfl (show ∀ y ∈ ([] : List Str), (defScope s_check_masters).names.lookup y = some .cell from by decide +kernel) (by decide))) (show LamScope ["master"] ["master"] [] _ from ⟨rfl, rfl, rfl, by decide, rfl, by decide, by decide, by decide⟩) (fun _ _ _ _ _ _ _ hr => (qe_call (F_is_row.mono (by decide)) hr (qa_cons (qe_var 0) (qa_cons qe_int qa_nil)))) (fun _ _ _ _ us hl => match us, hl with | [_], _ => rfl) rfl (show ∀ y ∈ ([] : List Str), (defScope s_check_masters).names.lookup y = some .cell from by decide +kernel) (by decide))) (qss_one (qs_for PassesOwn.never rfl (qi_range2 T.range (qa_cons qe_int (qa_cons (qe_len T.len (qa_cons (qe_var 0) qa_nil)) qa_nil))) (qg_one sc_check_masters.nd 1) (qss_one (qs_if (qt_cp (c_le) (qe_ix (qe_ix (qe_var 0) (qe_var 1)) qe_int) (qe_ix (qe_ix (qe_var 0) (qe_sub (qe_var 1) qe_int)) qe_int)) (qss_one qs_never) qss_nil)))))) ?_ ?_
  · rintro ds S Q ⟨n, ms, rfl, _⟩; rfl
  · rintro ds S Q ⟨n, ms, rfl, hS, ok, q⟩
    have hl := ok.len
    rw [wSeq]
    walk_at "bi"
    refine each_master (capD := []) (fun k hk => hk) rfl rfl hS (by rw [List.length_map]; exact hl) (fun x hx => ?_) ?_
    · obtain ⟨r, hr1, rfl⟩ := List.mem_map.mp hx
      walk_at "bi"
      unfold sp_is_row
      have hn := ok.num r hr1
      refine ⟨[r.1, r.2], 2, rfl, ⟨rfl, fun x hx => ?_⟩, by omega, ?_⟩
      · simp only [List.mem_cons, List.mem_nil_iff, or_false] at hx
        rcases hx with rfl | rfl
        · exact hn.1
        · exact hn.2
      first | exact ⟨rfl, rfl⟩ | exact ⟨rfl, trivial⟩ | exact ⟨trivial, trivial⟩
    walk_at "bi"
    refine ⟨_, hS, ⟨by omega, by omega⟩, ⟨by rw [List.length_map]; omega, by rw [List.length_map]; omega⟩, ?_⟩
    rw [List.length_map, show (1 : Int) = ((1 : Nat) : Int) from rfl, show (((ms.length : Nat) : Int) - ((1 : Nat) : Int)).toNat = ms.length - 1 by omega, rngD_eq]
    refine loop_inv (fun i ρ S' => ∃ v : Option D, ρ = [some (.ref n), v] ∧ S' = S) _ 0 ⟨none, rfl, rfl⟩ (fun _ _ _ _ => trivial) ?_ ?_
    · rintro j x ρ S' k hx ⟨v, rfl, rfl⟩ hk
      obtain ⟨i, hi, rfl⟩ := map_get hx
      have him : 1 ≤ i ∧ i < ms.length := by
        have := List.mem_of_getElem? hi
        rw [List.mem_range'_1] at this
        omega
      obtain ⟨a, ha⟩ : ∃ a, ms[i]? = some a := ⟨ms[i], List.getElem?_eq_getElem him.2⟩
      obtain ⟨b, hb⟩ : ∃ b, ms[i - 1]? = some b := ⟨ms[i - 1], List.getElem?_eq_getElem (by omega)⟩
      have hab : b.1 < a.1 := by
        obtain ⟨h1, e1⟩ := List.getElem?_eq_some_iff.mp ha
        obtain ⟨h2, e2⟩ := List.getElem?_eq_some_iff.mp hb
        have := List.pairwise_iff_getElem.mp ok.inc (i - 1) i h2 h1 (by omega)
        rw [e1, e2] at this
        exact this
      walk_at "bi"
      refine ⟨_, _, hS, ix_lit i (show (ms.map mstD)[i]? = some (mstD a) by rw [List.getElem?_map, ha]; rfl), ?_⟩
      unfold mstD
      walk_at "bi"
      rw [show ((i : Int) - ((1 : Nat) : Int)) = ((i - 1 : Nat) : Int) by omega]
      refine ⟨_, _, hS, ix_lit (i - 1) (show (ms.map mstD)[i - 1]? = some (mstD b) by rw [List.getElem?_map, hb]; rfl), ?_⟩
      unfold mstD
      walk_at "bi"
      rw [if_neg (by simp; omega)]
      exact hk _ _ ⟨_, rfl, rfl⟩
    · rintro ρ S' ⟨v, rfl, rfl⟩
      exact q
abbrev s_is_move : Stmt := topS 15
theorem sc_is_move : FnScope ["thing", "key", "word", "worth"] ["thing"] (defScope s_is_move) := ⟨rfl, rfl, rfl, by decide +kernel, rfl, by decide +kernel, by decide +kernel⟩
def sp_is_move : PN := fun ds S Q => ∃ x : Mv, ds = [mvD x] ∧ ((0 ≤ x.1 ∧ x.1 ≤ 999) ∧ x.2.1 ∈ moves3 ∧ 0 ≤ x.2.2 ∧ x.2.2 ≤ 999) ∧ Q (.bl true) S
theorem ok_is_move {f : Addr} {fd : FuncData} (T : Txt w K mg tk ta) (F : Fun K "is_move" "is_move" s_is_move f fd) (hm : mg "is_move" = some (.ref f)) (F_is_number : Fn3 P w K mg base 2 "is_number" sp_is_number) (F_is_tuple_of : Fn3 P w K mg base 2 "is_tuple_of" sp_is_tuple_of) : Fn3 P w K mg base 3 "is_move" sp_is_move := by
  have hb := F.binds (ps := ["thing"]) fun _ _ _ _ _ _ us hl => match us, hl with | [_], _ => rfl
  refine fn3 F sc_is_move hm hb (fun cdv A outer s H E hr => (qss_cons (qs_if (qt_not (qt_val (qe_call (F_is_tuple_of.mono (by decide)) hr (qa_cons (qe_var 0) (qa_cons qe_int qa_nil))))) (qss_one (qs_ret qe_bl)) qss_nil) (qss_cons (qs_asg (qe_var 0) (qg_many rfl (qgs_cons sc_is_move.nd 1 (qgs_cons sc_is_move.nd 2 (qgs_cons sc_is_move.nd 3 qgs_nil))))) (qss_one (qs_ret (qe_and (qe_call (F_is_number.mono (by decide)) hr (qa_cons (qe_var 1) (qa_cons qe_int (qa_cons (qe_gint T.c_MOST_NUMBER) qa_nil)))) (qe_and (qe_cp (c_in) (qe_var 2) (qe_gval T.m_MOVES T.r_MOVES)) (qe_one (qe_call (F_is_number.mono (by decide)) hr (qa_cons (qe_var 3) (qa_cons qe_int (qa_cons (qe_gint T.c_MOST_NUMBER) qa_nil)))))))))))) ?_ ?_
  · rintro ds S Q ⟨x, rfl, _⟩; rfl
  · rintro ds S Q ⟨⟨k, wd, w⟩, rfl, ⟨h1, h2, h3⟩, q⟩
    dsimp only at h1 h2 h3
    unfold mvD
    walk_at "br"
    unfold sp_is_tuple_of sp_is_number
    refine ⟨_, _, rfl, ?_⟩
    walk_at "br"
    refine ⟨trivial, _, _, _, rfl, ?_⟩
    rw [num_ok (by omega) (by omega)]
    walk_at "br"
    have hin : inD (D.str wd) [D.str (Str.ofString "add"), D.str (Str.ofString "drop"), D.str (Str.ofString "set")] = true := by
      rcases word3 h2 with rfl | rfl | rfl <;> rfl
    refine ⟨_, rfl, rfl, rfl, ?_⟩
    rw [hin]
    walk_at "br"
    refine ⟨_, _, _, rfl, ?_⟩
    rw [num_ok (by omega) (by omega)]
    exact q
abbrev s_check_moves : Stmt := topS 16
theorem sc_check_moves : FnScope ["moves", "least", "number", "move"] ["moves"] (defScope s_check_moves) := ⟨rfl, rfl, rfl, by decide +kernel, rfl, by decide +kernel, by decide +kernel⟩
def sp_check_moves : PN := fun ds S Q => ∃ (n : Nat) (mv : List Mv), ds = [.ref n] ∧ S[n]? = some (.lst (mv.map mvD)) ∧ MovOk mv ∧ Q .non S
theorem ok_check_moves {f : Addr} {fd : FuncData} (T : Txt w K mg tk ta) (F : Fun K "check_moves" "check_moves" s_check_moves f fd) (hm : mg "check_moves" = some (.ref f)) (F_is_move : Fn3 P w K mg base 3 "is_move" sp_is_move) : Fn3 P w K mg base 4 "check_moves" sp_check_moves := by
  have hb := F.binds (ps := ["moves"]) fun _ _ _ _ _ _ us hl => match us, hl with | [_], _ => rfl
  refine fn3 F sc_check_moves hm hb (fun cdv A outer s H E hr => (qss_cons (qs_asg qe_int (qg_one sc_check_moves.nd 1)) (qss_one (qs_for PassesOwn.never rfl (qi_enum T.enumerate (qa_cons (qe_var 0) qa_nil)) (qg_many rfl (qgs_cons sc_check_moves.nd 2 (qgs_cons sc_check_moves.nd 3 qgs_nil))) (qss_cons (qs_if (qw_pt (qw_or (qt_cp (c_ge) (qe_var 2) (qe_gint T.c_MOST_ROWS)) (qw_or (qt_not (qt_val (qe_call (F_is_move.mono (by decide)) hr (qa_cons (qe_var 3) qa_nil)))) (qw_or1 (qt_cp (c_lt hr) (qe_ix (qe_var 3) qe_int) (qe_var 1)))))) (qss_one qs_never) qss_nil) (qss_one (qs_asg (qe_ix (qe_var 3) qe_int) (qg_one sc_check_moves.nd 1)))))))) ?_ ?_
  · rintro ds S Q ⟨n, mv, rfl, _⟩; rfl
  · rintro ds S Q ⟨n, mv, rfl, hS, ok, q⟩
    have hl := ok.len
    rw [wSeq]
    walk_at "bi"
    refine ⟨_, hS, ?_⟩
    refine loop_inv (fun i ρ S' => ∃ (l : Int) (v w : Option D), ρ = [some (.ref n), some (.int l), v, w] ∧ S' = S ∧ ∀ x ∈ mv.drop i, l ≤ x.1) _ 0 ⟨0, none, none, rfl, rfl, fun x hx => (ok.num x (List.mem_of_mem_drop hx)).1.1⟩ (fun i ρ S' h => by obtain ⟨l, v, w, rfl, rfl, _⟩ := h; exact hS) ?_ ?_
    · rintro j x ρ S' k hx ⟨l, v, w, rfl, rfl, hle⟩ hk
      obtain ⟨y, hy, rfl⟩ := enumD_get _ _ _ _ hx
      obtain ⟨m, hm, rfl⟩ := map_get hy
      have hj : j < mv.length := (List.getElem?_eq_some_iff.mp hm).1
      rw [Nat.zero_add] at hle hk
      have hd := drop_cons hm
      have hlm := hle m (by rw [hd]; exact List.mem_cons_self)
      have hnum := ok.num m (List.mem_of_getElem? hm)
      have hnx : ∀ x ∈ mv.drop (j + 1), m.1 ≤ x.1 := fun x hx => by
        have hp := ok.inc.sublist (List.drop_sublist j mv)
        rw [hd] at hp
        exact (List.pairwise_cons.mp hp).1 x hx
      walk_at "bi"
      rw [wSeq]
      walk_at "bi"
      rw [decide_eq_false (show ¬ (60 : Int) ≤ ((0 + j : Nat) : Int) by omega)]
      walk_at "bi"
      unfold sp_is_move
      refine ⟨m, rfl, hnum, ?_⟩
      walk_at "bi"
      unfold mvD
      walk_at "bi"
      rw [if_neg (by simp; omega)]
      exact hk _ _ ⟨m.1, _, _, rfl, rfl, hnx⟩
    · rintro ρ S' ⟨l, v, w, rfl, rfl, _⟩
      exact q
abbrev s_updated : Stmt := topS 17
theorem sc_updated : FnScope ["masters", "moves", "worths", "key", "worth", "undone", "number", "word"] ["masters", "moves"] (defScope s_updated) := ⟨rfl, rfl, rfl, by decide +kernel, rfl, by decide +kernel, by decide +kernel⟩
def sp_updated : PN := fun ds S Q => ∃ (n m : Nat) (ms : List (Int × Int)) (mv : List Mv), ds = [.ref n, .ref m] ∧ S[n]? = some (.lst (ms.map mstD)) ∧ S[m]? = some (.lst (mv.map mvD)) ∧ MasOk ms ∧ MovOk mv ∧ ∀ (T : List (Int × Int)) (a b : Nat) S', Told (runU (mpOf ms) mv) T → T.length ≤ 120 → Ext S S' → S.length ≤ a → S.length ≤ b → a ≠ b → S'[a]? = some (.lst (T.map mstD)) → S'[b]? = some (.lst ((bads (mpOf ms) 0 mv).map badD)) → Q (.tup [.ref a, .ref b]) S'
theorem ok_updated {f : Addr} {fd : FuncData} (T : Txt w K mg tk ta) (F : Fun K "updated" "updated" s_updated f fd) (hm : mg "updated" = some (.ref f)) (F_check_masters : Fn3 P w K mg base 7 "check_masters" sp_check_masters) (F_check_moves : Fn3 P w K mg base 4 "check_moves" sp_check_moves) : Fn3 P w K mg base 8 "updated" sp_updated := by
  have hb := F.binds (ps := ["masters", "moves"]) fun _ _ _ _ _ _ us hl => match us, hl with | [_, _], _ => rfl
  refine fn3 F sc_updated hm hb (fun cdv A outer s H E hr => (qss_cons (qs_expr (qe_call (F_check_masters.mono (by decide)) hr (qa_cons (qe_var 0) qa_nil))) (qss_cons (qs_expr (qe_call (F_check_moves.mono (by decide)) hr (qa_cons (qe_var 1) qa_nil))) (qss_cons (qs_asg (qe_dc (own := [("key", 3), ("worth", 4)]) rfl sc_updated.nd (qi_seq (qe_var 0)) (blkOk_by (show blkC ["masters", "moves", "worths", "key", "worth", "undone", "number", "word"] (defScope s_updated) _ _ = true from by decide +kernel)) (fun _ _ _ _ _ => qg_many rfl (qgs_cons sc_updated.nd 3 (qgs_cons sc_updated.nd 4 qgs_nil))) (fun _ _ _ _ _ => qts_nil) (fun _ _ _ _ _ => (qe_var 3)) (fun _ _ _ _ _ => (qe_var 4))) (qg_one sc_updated.nd 2)) (qss_cons (qs_asg (qe_new (ql_lst qa_nil)) (qg_one sc_updated.nd 5)) (qss_cons (qs_for PassesOwn.never rfl (qi_enum T.enumerate (qa_cons (qe_var 1) qa_nil)) (qg_pr rfl sc_updated.nd 6 (qgs_cons sc_updated.nd 3 (qgs_cons sc_updated.nd 7 (qgs_cons sc_updated.nd 4 qgs_nil)))) (qss_one (qs_if (qw_pt (qw_and (qt_cp (c_eq hr) (qe_var 7) qe_str) (qw_and1 (qt_cp (c_inK hr) (qe_var 3) (qe_var 2))))) (qss_one (qs_expr (qe_append (qe_var 5) (qa_cons (qe_tup (qa_cons (qe_var 6) (qa_cons qe_str qa_nil))) qa_nil)))) (qss_one (qs_if (qw_pt (qw_and (qt_cp (c_ne hr) (qe_var 7) qe_str) (qw_and1 (qt_cp (c_notInK hr) (qe_var 3) (qe_var 2))))) (qss_one (qs_expr (qe_append (qe_var 5) (qa_cons (qe_tup (qa_cons (qe_var 6) (qa_cons qe_str qa_nil))) qa_nil)))) (qss_one (qs_if (qt_cp (c_eq hr) (qe_var 7) qe_str) (qss_one (qs_kdel (qe_var 2) (qe_var 3))) (qss_one (qs_kput hr (qe_var 4) (qe_var 2) (qe_var 3)))))))))) (qss_one (qs_ret (qe_tup (qa_cons (qe_new (ql_lc (own := [("key", 3)]) rfl sc_updated.nd (qi_new (ql_sortKI (kk := 0) (hr.mono (by decide)) T.sorted (qe_var 2))) (blkOk_by (show blkC ["masters", "moves", "worths", "key", "worth", "undone", "number", "word"] (defScope s_updated) _ _ = true from by decide +kernel)) (fun _ _ _ _ _ => qg_one sc_updated.nd 3) (fun _ _ _ _ _ => qts_nil) (fun _ _ _ _ _ => (qe_tup (qa_cons (qe_var 3) (qa_cons (qe_kix hr (qe_var 2) (qe_var 3)) qa_nil)))))) (qa_cons (qe_var 5) qa_nil))))))))))) ?_ ?_
  · rintro ds S Q ⟨n, m, ms, mv, rfl, _⟩; rfl
  · rintro ds S Q ⟨n, m, ms, mv, rfl, hn, hm, okm, okv, q⟩
    have hl := okm.len
    have hv := okv.len
    rw [wSeq]
    walk_at "bi"
    unfold sp_check_masters
    refine ⟨n, ms, rfl, hn, okm, ?_⟩
    walk_at "bi"
    rw [wSeq]
    walk_at "bi"
    unfold sp_check_moves
    refine ⟨m, mv, rfl, hm, okv, ?_⟩
    walk_at "bi"
    rw [wSeq]
    walk_at "bi"
    refine ⟨_, hn, compD_ms ms okm.inc hn (by omega) (fun x hx R hR => ?_) fun kvs0 hk0 => ?_⟩
    · unfold mstD
      walk_at "bi"
      exact ⟨.inl x.1, rfl, hR⟩
    rw [wSeq]
    walk_at "bi"
    rw [wSeq]
    walk_at "bi"
    have e0 : Ext S (S ++ [O.dkv kvs0] ++ [O.lst []]) := (Ext.push _ _).trans (.push _ _)
    have hd0 : (S ++ [O.dkv kvs0] ++ [O.lst []])[S.length]? = some (.dkv kvs0) := (Ext.push _ _).get (last_get _ _)
    have hu0 : (S ++ [O.dkv kvs0] ++ [O.lst []])[S.length + 1]? = some (.lst ((bads (mpOf ms) 0 (mv.take 0)).map badD)) := by simp [bads]
    have hul : (S ++ [O.dkv kvs0]).length = S.length + 1 := by simp
    rw [hul]
    refine ⟨_, e0.get hm, ?_⟩
    refine loop_inv (fun i ρ S' => (∃ v3 v4 v6 v7 : Option D, ρ = [some (.ref n), some (.ref m), some (.ref S.length), v3, v4, some (.ref (S.length + 1)), v6, v7]) ∧ Ext S S' ∧ ∃ kvs, S'[S.length]? = some (.dkv kvs) ∧ DkOk kvs (runU (mpOf ms) (mv.take i)) (ms.length + i) ∧ S'[S.length + 1]? = some (.lst ((bads (mpOf ms) 0 (mv.take i)).map badD))) _ 0
      ⟨⟨_, _, _, _, rfl⟩, e0, kvs0, hd0, by simpa [runU] using hk0, hu0⟩ (fun _ _ _ h => h.2.1.get hm) ?_ ?_
    · rintro j x ρ S' k hx ⟨⟨v3, v4, v6, v7, rfl⟩, e, kvs, hd, hk, hu⟩ hk2
      obtain ⟨y, hy, rfl⟩ := enumD_get _ _ _ _ hx
      obtain ⟨x, hxm, rfl⟩ := map_get hy
      rw [Nat.zero_add] at hk2 hk hu
      have hj : j < mv.length := (List.getElem?_eq_some_iff.mp hxm).1
      have hts := take_snoc hxm
      have hnum := okv.num x (List.mem_of_getElem? hxm)
      have hrun : runU (mpOf ms) (mv.take (j + 1)) = stp (runU (mpOf ms) (mv.take j)) x := by rw [hts, runU_snoc]
      have hbad : bads (mpOf ms) 0 (mv.take (j + 1)) = bads (mpOf ms) 0 (mv.take j) ++ badAt (runU (mpOf ms) (mv.take j)) j x := by rw [hts, bads_snoc, List.length_take, Nat.min_eq_left (by omega)]
      have hbl := bads_len (mv.take j) (mpOf ms) 0
      have hget := hk.get x.1
      rw [hrun, hbad] at hk2
      generalize runU (mpOf ms) (mv.take j) = M at *
      generalize bads (mpOf ms) 0 (mv.take j) = Bd at *
      rw [List.length_take] at hbl
      obtain ⟨kx, wd, wx⟩ := x
      dsimp only at hget hnum
      have fin : ∀ S2 kvs2 M2 ws, Ext S S2 → S2[S.length]? = some (.dkv kvs2) → DkOk kvs2 M2 (ms.length + (j + 1)) → S2[S.length + 1]? = some (.lst (ws.map badD)) → M2 = stp M (kx, wd, wx) → ws = Bd ++ badAt M j (kx, wd, wx) → ∀ v3 v4 v6 v7 : Option D, k [some (.ref n), some (.ref m), some (.ref S.length), v3, v4, some (.ref (S.length + 1)), v6, v7] S2 := fun S2 kvs2 M2 ws e2 h1 h2 h3 h4 h5 v3 v4 v6 v7 => by
        subst h4; subst h5
        exact hk2 _ _ ⟨⟨_, _, _, _, rfl⟩, e2, kvs2, h1, h2, h3⟩
      have hklen := hk.len
      have badc : ∀ w : Str, badAt M j (kx, wd, wx) = [(j, w)] → stp M (kx, wd, wx) = M → ∀ v3 v4 v6 v7 : Option D, k [some (.ref n), some (.ref m), some (.ref S.length), v3, v4, some (.ref (S.length + 1)), v6, v7] (S'.set (S.length + 1) (.lst (Bd.map badD ++ [D.tup [.int ((0 + j : Nat) : Int), .str w]]))) := fun w h1 h2 v3 v4 v6 v7 => by
        refine fin _ kvs M (Bd ++ [(j, w)]) (e.set (by omega) _) (by rw [set_ne (by omega)]; exact hd) (hk.same rfl (by omega)) ?_ h2.symm (by rw [h1]) _ _ _ _
        rw [set_eq hu, Nat.zero_add, List.map_append]; rfl
      have putc : badAt M j (kx, wd, wx) = [] → stp M (kx, wd, wx) = (fun x => if x = kx then some wx else M x) → ∀ v3 v4 v6 v7 : Option D, k [some (.ref n), some (.ref m), some (.ref S.length), v3, v4, some (.ref (S.length + 1)), v6, v7] (S'.set S.length (.dkv (kPut kvs (.inl kx) (.int wx)))) := fun h1 h2 v3 v4 v6 v7 =>
        fin _ _ _ Bd (e.set (Nat.le_refl _) _) (set_eq hd) (by rw [← Nat.add_assoc]; exact hk.put kx wx) (by rw [set_ne (by omega)]; exact hu) h2.symm (by rw [h1, List.append_nil]) _ _ _ _
      have drpc : badAt M j (kx, wd, wx) = [] → stp M (kx, wd, wx) = (fun x => if x = kx then none else M x) → ∀ v3 v4 v6 v7 : Option D, k [some (.ref n), some (.ref m), some (.ref S.length), v3, v4, some (.ref (S.length + 1)), v6, v7] (S'.set S.length (.dkv (kDrop kvs (.inl kx)))) := fun h1 h2 v3 v4 v6 v7 =>
        fin _ _ _ Bd (e.set (Nat.le_refl _) _) (set_eq hd) ((hk.drop kx).same rfl (by omega)) (by rw [set_ne (by omega)]; exact hu) h2.symm (by rw [h1, List.append_nil]) _ _ _ _
      unfold mvD
      cases hM : M kx with
      | some v =>
        rw [hM] at hget
        rcases word3 hnum.2.1 with rfl | rfl | rfl
        · have hw := u_add1 (w := wx) j hM
          walk_at "bi"
          refine ⟨_, kvs, .inl kx, rfl, rfl, hd, ?_⟩
          rw [hget]
          rw [if_pos (by rfl)]
          exact ⟨⟨_, hu⟩, _, hu, by rw [List.length_map]; omega, badc "there" hw.1 hw.2 _ _ _ _⟩
        · have hw := u_drop1 (w := wx) j hM
          walk_at "bi"
          refine ⟨_, kvs, .inl kx, rfl, rfl, hd, ?_⟩
          rw [hget]
          rw [if_neg (by simp)]
          exact ⟨_, kvs, .inl kx, rfl, rfl, hd, by rw [hget]; rfl, drpc hw.1 hw.2 _ _ _ _⟩
        · have hw := u_set1 (w := wx) j hM
          walk_at "bi"
          refine ⟨_, kvs, .inl kx, rfl, rfl, hd, ?_⟩
          rw [hget]
          rw [if_neg (by simp)]
          exact ⟨_, kvs, .inl kx, rfl, rfl, hd, by omega, putc hw.1 hw.2 _ _ _ _⟩
      | none =>
        rw [hM] at hget
        rcases word3 hnum.2.1 with rfl | rfl | rfl
        · have hw := u_add0 (w := wx) j hM
          walk_at "bi"
          refine ⟨_, kvs, .inl kx, rfl, rfl, hd, ?_⟩
          rw [hget]
          rw [if_neg (by simp)]
          exact ⟨_, kvs, .inl kx, rfl, rfl, hd, by omega, putc hw.1 hw.2 _ _ _ _⟩
        · have hw := u_drop0 (w := wx) j hM
          walk_at "bi"
          refine ⟨_, kvs, .inl kx, rfl, rfl, hd, ?_⟩
          rw [hget]
          rw [if_pos (by rfl)]
          exact ⟨⟨_, hu⟩, _, hu, by rw [List.length_map]; omega, badc "lacks" hw.1 hw.2 _ _ _ _⟩
        · have hw := u_set0 (w := wx) j hM
          walk_at "bi"
          refine ⟨_, kvs, .inl kx, rfl, rfl, hd, ?_⟩
          rw [hget]
          rw [if_pos (by rfl)]
          exact ⟨⟨_, hu⟩, _, hu, by rw [List.length_map]; omega, badc "lacks" hw.1 hw.2 _ _ _ _⟩
    · rintro ρ S' ⟨⟨v3, v4, v6, v7, rfl⟩, e, kvs, hd, hk, hu⟩
      rw [Nat.zero_add, enumD_length, List.length_map, List.take_length] at hk hu
      obtain ⟨ns, h1, h2, h3, h4⟩ := hk.keys
      have hget := hk.get
      walk_at "bi"
      refine ⟨_, kvs, ns, rfl, hd, h1, by omega, fun ns' hp hs => ?_⟩
      have hT := told_srt (kvs := kvs) h2 h4 hp hs
      have hnl := hp.length_eq
      refine comp_onm D.int (fun k => mstD (k, (runU (mpOf ms) mv k).getD 0)) ns' trivial (small1k (by omega)) (fun k hk' k2 hk2 => ?_) ?_
      · walk_at "bi"
        have := (h4 k).mp (hp.mem_iff.mp hk')
        obtain ⟨v, hv⟩ := Option.isSome_iff_exists.mp this
        refine ⟨_, kvs, .inl k, .int v, rfl, rfl, hd, by rw [hget, hv]; rfl, ?_⟩
        rw [hv] at hk2
        exact hk2
      · have em : ns'.map (fun k => mstD (k, (runU (mpOf ms) mv k).getD 0)) = (ns'.map fun k => (k, (runU (mpOf ms) mv k).getD 0)).map mstD := by rw [List.map_map]; rfl
        rw [em]
        have hle := e0.len
        have hle' := e.len
        have hul2 := Ext.lt_of hu
        simp only [List.length_append, List.length_singleton] at hle
        exact q _ _ _ _ hT (by rw [List.length_map]; omega) (e.trans (.push _ _)) (by omega) (by omega) (by omega) (last_get _ _) ((Ext.push _ _).get hu)
abbrev s__law_start : Stmt := topS 19
theorem sc__law_start : FnScope ["_law_script", "_law_mixed", "_law_cell"] ["_law_script"] (defScope s__law_start) := ⟨rfl, rfl, rfl, by decide +kernel, rfl, by decide +kernel, by decide +kernel⟩
def sp__law_start : PN := fun ds S Q => ∃ sc : List Int, ds = [.ro (sc.map D.int)] ∧ ∀ st, StL st → Q (.ref S.length) (S ++ [.lst st])
theorem ok__law_start {f : Addr} {fd : FuncData} (T : Txt w K mg tk ta) (F : Fun K "_law_start" "_law_start" s__law_start f fd) (hm : mg "_law_start" = some (.ref f)) : Fn3 P w K mg base 2 "_law_start" sp__law_start := by
  have hb := F.binds (ps := ["_law_script"]) fun _ _ _ _ _ _ us hl => match us, hl with | [_], _ => rfl
  refine fn3 F sc__law_start hm hb (fun cdv A outer s H E hr => (qss_cons (qs_asg qe_int (qg_one sc__law_start.nd 1)) (qss_cons (qs_for PassesOwn.never rfl (qi_seq (qe_var 0)) (qg_one sc__law_start.nd 2) (qss_one (qs_asg (qe_mod (qe_plus (qe_plus (qe_mul (qe_var 1) qe_int) (qe_var 2)) qe_int) qe_int) (qg_one sc__law_start.nd 1)))) (qss_one (qs_ret (qe_new (ql_lst (qa_cons (qe_var 0) (qa_cons qe_int (qa_cons (qe_var 1) (qa_cons qe_int qa_nil))))))))))) ?_ ?_
  · rintro ds S Q ⟨sc, rfl, _⟩; rfl
  · rintro ds S Q ⟨sc, rfl, q⟩
    walk_at "br"
    refine ⟨_, rfl, loop_inv (fun i ρ S' => ∃ (m : Int) (v : Option D), ρ = [some (.ro (sc.map D.int)), some (.int m), v] ∧ S' = S ∧ 0 ≤ m ∧ m < 2147483647) _ 0 ⟨1, none, rfl, rfl, by omega, by omega⟩ (fun i ρ S' h => rfl) ?_ ?_⟩
    · rintro j x ρ S' k hx ⟨m, v, rfl, rfl, h1, h2⟩ hk
      obtain ⟨c, hc, rfl⟩ := map_get hx
      walk_at "br"
      refine ⟨.inr ⟨by omega, by omega⟩, by omega, hk _ _ ⟨_, _, rfl, rfl, Int.emod_nonneg _ (by omega), Int.emod_lt_of_pos _ (by omega)⟩⟩
    · rintro ρ S' ⟨m, v, rfl, rfl, h1, h2⟩
      walk_at "br"
      exact ⟨small1k (by decide), q _ ⟨sc, 0, m, 0, rfl, by omega, h1, h2, by omega⟩⟩
abbrev s__law_drawn : Stmt := topS 20
theorem sc__law_drawn : FnScope ["_law_state", "_law_many", "_law_found", "_law_cell"] ["_law_state", "_law_many"] (defScope s__law_drawn) := ⟨rfl, rfl, rfl, by decide +kernel, rfl, by decide +kernel, by decide +kernel⟩
def sp__law_drawn : PN := fun ds S Q => ∃ (n : Nat) (many : Int), ds = [.ref n, .int many] ∧ 0 < many ∧ many < 1073741824 ∧ StS S n ∧ ∀ (d : Nat) S', (d : Int) < many → Dr n S S' → Q (nD d) S'
theorem ok__law_drawn {f : Addr} {fd : FuncData} (T : Txt w K mg tk ta) (F : Fun K "_law_drawn" "_law_drawn" s__law_drawn f fd) (hm : mg "_law_drawn" = some (.ref f)) : Fn3 P w K mg base 2 "_law_drawn" sp__law_drawn := by
  have hb := F.binds (ps := ["_law_state", "_law_many"]) fun _ _ _ _ _ _ us hl => match us, hl with | [_, _], _ => rfl
  refine fn3 F sc__law_drawn hm hb (fun cdv A outer s H E hr => (qss_cons (qs_if (qt_cp (c_gt) (qe_ix (qe_var 0) qe_int) qe_int) (qss_cons (qs_asg (qe_mod (qe_ix (qe_var 0) qe_int) (qe_var 1)) (qg_one sc__law_drawn.nd 2)) (qss_cons (qs_put (qe_div (qe_ix (qe_var 0) qe_int) (qe_var 1)) (qe_var 0) qe_int) (qss_one (qs_ret (qe_var 2))))) qss_nil) (qss_cons (qs_put (qe_plus (qe_ix (qe_var 0) qe_int) qe_int) (qe_var 0) qe_int) (qss_cons (qs_if (qt_cp (c_le) (qe_ix (qe_var 0) qe_int) (qe_len T.len (qa_cons (qe_ix (qe_var 0) qe_int) qa_nil))) (qss_cons (qs_asg (qe_ix (qe_ix (qe_var 0) qe_int) (qe_sub (qe_ix (qe_var 0) qe_int) qe_int)) (qg_one sc__law_drawn.nd 3)) (qss_cons (qs_put (qe_if (qt_cp (c_ge) (qe_var 3) (qe_pow qe_int qe_int)) (qe_div (qe_var 3) (qe_var 1)) qe_int) (qe_var 0) qe_int) (qss_one (qs_ret (qe_mod (qe_var 3) (qe_var 1)))))) qss_nil) (qss_cons (qs_put (qe_mod (qe_plus (qe_mul (qe_ix (qe_var 0) qe_int) qe_int) qe_int) qe_int) (qe_var 0) qe_int) (qss_one (qs_ret (qe_mod (qe_div (qe_ix (qe_var 0) qe_int) qe_int) (qe_var 1))))))))) ?_ ?_
  · rintro ds S Q ⟨n, many, rfl, _⟩; rfl
  · rintro ds S Q ⟨n, many, rfl, h1, h2, hst, q⟩
    have hst' := hst
    obtain ⟨st, hS, sc, i, m, c, rfl, a1, a2, a3, a4⟩ := hst
    have q2 : ∀ (d : Int) S', 0 ≤ d → d < many → Dr n S S' → Q (.int d) S' := fun d S' hd hd2 hdr => by
      have := q d.toNat S' (by omega) hdr
      rw [show nD d.toNat = .int d from congrArg D.int (Int.toNat_of_nonneg hd)] at this
      exact this
    walk_at "br"
    refine ⟨_, _, hS, ix_lit 3 rfl, ?_⟩
    by_cases hc : 0 < c
    · walk_at "br"
      rw [if_pos (decide_eq_true hc)]
      refine ⟨_, _, hS, ix_lit 3 rfl, h1, _, _, hS, ix_lit 3 rfl, ⟨h1, h2⟩, _, 3, hS, rfl, ?_⟩
      exact q2 _ _ (Int.emod_nonneg _ (by omega)) (Int.emod_lt_of_pos _ h1) ((Dr.refl hst').set ⟨sc, i, m, c / many, rfl, a1, a2, a3, Int.ediv_nonneg a4 (by omega)⟩)
    · walk_at "br"
      rw [if_neg (by simpa using hc)]
      refine ⟨_, _, hS, ix_lit 1 rfl, _, 1, hS, rfl, ?_⟩
      have hS1 := set_eq (o := O.lst [.ro (sc.map D.int), .int (i + 1), .int m, .int c]) hS
      have st1 : StL [.ro (sc.map D.int), .int (i + 1), .int m, .int c] := ⟨sc, i + 1, m, c, rfl, by omega, a2, a3, a4⟩
      have dr1 := (Dr.refl hst').set st1
      refine ⟨_, _, hS1, ix_lit 1 rfl, _, _, hS1, ix_lit 0 rfl, ?_⟩
      walk_at "br"
      refine ⟨_, rfl, ?_⟩
      rw [List.length_map]
      by_cases hi : i + 1 ≤ (sc.length : Int)
      · rw [if_pos (decide_eq_true hi)]
        have hi' : i.toNat < (sc.map D.int).length := by rw [List.length_map]; omega
        have ei : (sc.map D.int)[i.toNat] = .int (sc.getD i.toNat 0) := by
          have : i.toNat < sc.length := by omega
          simp [this]
        have ea : atI (sc.map D.int) (i + 1 - 1) = some (.int (sc.getD i.toNat 0)) := by
          rw [show i + 1 - 1 = ((i.toNat : Nat) : Int) by omega, ix_nat hi', ei]
        refine ⟨_, _, hS1, ix_lit 0 rfl, _, _, hS1, ix_lit 1 rfl, _, _, rfl, ea, ?_⟩
        walk_at "br"
        refine ⟨⟨by omega, by omega, by decide⟩, ?_⟩
        generalize sc.getD i.toNat 0 = cell at *
        by_cases hb : ((10 : Int) ^ (18 : Int).toNat) ≤ cell
        · rw [if_pos (decide_eq_true hb)]
          refine ⟨⟨h1, h2⟩, _, 3, hS1, rfl, ?_⟩
          refine ⟨h1, q2 _ _ (Int.emod_nonneg _ (by omega)) (Int.emod_lt_of_pos _ h1) ?_⟩
          refine dr1.set ⟨sc, i + 1, m, cell / many, rfl, by omega, a2, a3, Int.ediv_nonneg ?_ (by omega)⟩
          exact Int.le_trans (by decide) hb
        · rw [if_neg (by simpa using hb)]
          refine ⟨_, 3, hS1, rfl, ?_⟩
          exact ⟨h1, q2 _ _ (Int.emod_nonneg _ (by omega)) (Int.emod_lt_of_pos _ h1) (dr1.set ⟨sc, i + 1, m, 0, rfl, by omega, a2, a3, by omega⟩)⟩
      · rw [if_neg (by simpa using hi)]
        refine ⟨_, _, hS1, ix_lit 2 rfl, ?_⟩
        walk_at "br"
        refine ⟨.inr ⟨by omega, by omega⟩, by omega, _, 2, hS1, rfl, ?_⟩
        have hS2 := set_eq (o := O.lst [.ro (sc.map D.int), .int (i + 1), .int ((m * 48271 + 11) % 2147483647), .int c]) hS1
        refine ⟨_, _, hS2, ix_lit 2 rfl, ?_⟩
        walk_at "br"
        refine ⟨⟨by omega, by omega⟩, h1, q2 _ _ (Int.emod_nonneg _ (by omega)) (Int.emod_lt_of_pos _ h1) (dr1.set ⟨sc, i + 1, _, c, rfl, by omega, Int.emod_nonneg _ (by omega), Int.emod_lt_of_pos _ (by omega), a4⟩)⟩
abbrev s__law_same : Stmt := topS 21
theorem sc__law_same : FnScope ["_law_found", "_law_due", "_law_k", "_law_alike"] ["_law_found", "_law_due"] (defScope s__law_same) := ⟨rfl, rfl, rfl, by decide +kernel, rfl, by decide +kernel, by decide +kernel⟩
def sp__law_same (j : Nat) : PN := fun ds S Q => ∃ a b, ds = [a, b] ∧ Alike S j a b ∧ ∀ S', Ext S S' → Q (.bl true) S'
theorem step__law_same {f : Addr} {fd : FuncData} {j k : Nat} (T : Txt w K mg tk ta) (F : Fun K "_law_same" "_law_same" s__law_same f fd) (hm : mg "_law_same" = some (.ref f)) (F__law_same : Fn3 P w K mg base k "_law_same" (prev sp__law_same j)) (hk : 1 ≤ k) : Fn3 P w K mg base (k + 1) "_law_same" (sp__law_same j) := by
  have hb := F.binds (ps := ["_law_found", "_law_due"]) fun _ _ _ _ _ _ us hl => match us, hl with | [_, _], _ => rfl
  refine fn3 F sc__law_same hm hb (fun cdv A outer s H E hr => (qss_cons (qs_if (qt_val (qe_isi2 .tuple .list T.isinstance T.tuple T.list (qe_var 1))) (qss_cons (qs_if (qw_pt (qw_or (qt_not (qt_val (qe_isi2 .tuple .list T.isinstance T.tuple T.list (qe_var 0)))) (qw_or1 (qt_cp (c_ne hr) (qe_isi .list T.isinstance T.list (qe_var 0)) (qe_isi .list T.isinstance T.list (qe_var 1)))))) (qss_one (qs_ret qe_bl)) qss_nil) (qss_cons (qs_if (qt_cp (c_ne hr) (qe_len T.len (qa_cons (qe_var 0) qa_nil)) (qe_len T.len (qa_cons (qe_var 1) qa_nil))) (qss_one (qs_ret qe_bl)) qss_nil) (qss_one (qs_ret (qe_cp (c_eq hr) (qe_new (ql_lc (own := [("_law_k", 2)]) rfl sc__law_same.nd (qi_range1 T.range (qa_cons (qe_len T.len (qa_cons (qe_var 1) qa_nil)) qa_nil)) (blkOk_by (show blkC ["_law_found", "_law_due", "_law_k", "_law_alike"] (defScope s__law_same) _ _ = true from by decide +kernel)) (fun _ _ _ _ _ => qg_one sc__law_same.nd 2) (fun _ _ _ _ _ => (qts_one (qt_not (qt_val (qe_call (F__law_same.mono (by omega)) hr (qa_cons (qe_ix (qe_var 0) (qe_var 2)) (qa_cons (qe_ix (qe_var 1) (qe_var 2)) qa_nil))))))) (fun _ _ _ _ _ => (qe_var 2)))) (qe_new (ql_lst qa_nil))))))) qss_nil) (qss_cons (qs_asg (qe_and (qe_cp (c_eq hr) (qe_isi .bool T.isinstance T.bool (qe_var 0)) (qe_isi .bool T.isinstance T.bool (qe_var 1))) (qe_one (qe_cp (c_eq hr) (qe_isi .int T.isinstance T.int (qe_var 0)) (qe_isi .int T.isinstance T.int (qe_var 1))))) (qg_one sc__law_same.nd 3)) (qss_one (qs_ret (qe_and (qe_var 3) (qe_one (qe_cp (c_eq hr) (qe_var 0) (qe_var 1))))))))) ?_ ?_
  · rintro ds S Q ⟨a, b, rfl, _⟩; rfl
  · rintro ds S Q ⟨a, b, rfl, h, q⟩
    by_cases hf : Flat a b
    · cases hf with
      | non =>
        walk_at "br"
        simp only [Bool.or_false, Bool.false_or, Bool.or_self, Bool.false_eq_true, if_false, decide_true, if_true]
        exact pEq_flat .non (q S (.refl S))
      | bl b =>
        walk_at "br"
        simp only [Bool.or_false, Bool.false_or, Bool.or_self, Bool.false_eq_true, if_false, decide_true, if_true]
        exact q S (.refl S)
      | int i =>
        walk_at "br"
        simp only [Bool.or_false, Bool.false_or, Bool.or_self, Bool.false_eq_true, if_false, decide_true, if_true]
        exact q S (.refl S)
      | str x =>
        walk_at "br"
        simp only [Bool.or_false, Bool.false_or, Bool.or_self, Bool.false_eq_true, if_false, decide_true, if_true]
        exact q S (.refl S)
    · cases j with
      | zero => exact absurd h hf
      | succ j =>
        rcases h with hf' | ⟨xs, ys, hk, hl, h1000, hi⟩
        · exact absurd hf' hf
        · rw [show prev sp__law_same (j + 1) = sp__law_same j from rfl]
          unfold sp__law_same
          have fin : ∀ S' : Sto, Ext S S' → S'[S'.length]? = none → Q (.bl true) S' := fun S' e _ => q S' e
          have turn : ∀ (k : Nat) (S' : Sto), k < ys.length → Ext S S' → ∃ x y, itemsAre S' a xs ∧ atI xs (k : Int) = some x ∧ itemsAre S' b ys ∧ atI ys (k : Int) = some y ∧ Alike S' j x y := fun k S' hk' e => by
            have h1 := (hk.ext e).items
            have hx : k < xs.length := by omega
            exact ⟨xs[k], ys[k], h1.1, ix_nat hx, h1.2, ix_nat hk', Alike.ext e (hi k _ _ (List.getElem?_eq_getElem hx) (List.getElem?_eq_getElem hk'))⟩
          cases hk with
          | tup =>
            walk_at "br"
            simp only [Bool.or_false, Bool.false_or, Bool.or_true, Bool.or_self, Bool.not_true, Bool.false_eq_true, if_false, if_true, decide_true]
            refine ⟨_, rfl, _, rfl, ?_⟩
            rw [if_neg (by simp; omega)]
            refine ⟨_, rfl, ⟨by omega, by omega⟩, ?_⟩
            rw [Int.toNat_natCast, rngD_zero]
            refine comp_inv (fun i acc S' => acc = [] ∧ Ext S S') _ 0 ⟨rfl, .refl S⟩ (fun i acc S' h => ?_) (fun jj z acc S' k2 hz h' hk2 => ?_) (fun acc S' h => ?_)
            · obtain ⟨rfl, _⟩ := h
              exact ⟨trivial, small1k (by decide)⟩
            · obtain ⟨rfl, e⟩ := h'
              obtain ⟨m, hm, rfl⟩ := map_get hz
              have hmy : m < ys.length := by have := List.mem_of_getElem? hm; simpa using this
              obtain ⟨x, y, t1, t2, t3, t4, t5⟩ := turn m S' hmy e
              walk_at "br"
              refine ⟨_, _, t1, t2, _, _, t3, t4, x, y, rfl, t5, fun S'' e2 => ?_⟩
              exact hk2 none S'' ⟨rfl, e.trans e2⟩
            · obtain ⟨rfl, e⟩ := h
              exact ⟨small1k (by decide), pEq_nils ((Ext.push _ _).get (last_get _ _)) (last_get _ _) (q _ (e.trans ((Ext.push _ _).trans (Ext.push _ _))))⟩
          | lst h1 h2 =>
            walk_at "br"
            simp only [h1, h2, Bool.or_false, Bool.false_or, Bool.or_true, Bool.or_self, Bool.not_true, Bool.false_eq_true, if_false, if_true, decide_true]
            refine ⟨_, h1, _, h2, ?_⟩
            rw [if_neg (by simp; omega)]
            refine ⟨_, h2, ⟨by omega, by omega⟩, ?_⟩
            rw [Int.toNat_natCast, rngD_zero]
            refine comp_inv (fun i acc S' => acc = [] ∧ Ext S S') _ 0 ⟨rfl, .refl S⟩ (fun i acc S' h => ?_) (fun jj z acc S' k2 hz h' hk2 => ?_) (fun acc S' h => ?_)
            · obtain ⟨rfl, _⟩ := h
              exact ⟨trivial, small1k (by decide)⟩
            · obtain ⟨rfl, e⟩ := h'
              obtain ⟨m, hm, rfl⟩ := map_get hz
              have hmy : m < ys.length := by have := List.mem_of_getElem? hm; simpa using this
              obtain ⟨x, y, t1, t2, t3, t4, t5⟩ := turn m S' hmy e
              walk_at "br"
              refine ⟨_, _, t1, t2, _, _, t3, t4, x, y, rfl, t5, fun S'' e2 => ?_⟩
              exact hk2 none S'' ⟨rfl, e.trans e2⟩
            · obtain ⟨rfl, e⟩ := h
              exact ⟨small1k (by decide), pEq_nils ((Ext.push _ _).get (last_get _ _)) (last_get _ _) (q _ (e.trans ((Ext.push _ _).trans (Ext.push _ _))))⟩
theorem ok__law_same {f : Addr} {fd : FuncData} (T : Txt w K mg tk ta) (F : Fun K "_law_same" "_law_same" s__law_same f fd) (hm : mg "_law_same" = some (.ref f)) : ∀ j, Fn3 P w K mg base (2 + j) "_law_same" (sp__law_same j)
  | 0 => step__law_same T F hm (j := 0) (fn3N F hm (F.binds (ps := ["_law_found", "_law_due"]) fun _ _ _ _ _ _ us hl => match us, hl with | [_, _], _ => rfl)) (Nat.le_refl _)
  | j + 1 => step__law_same T F hm (j := j + 1) (ok__law_same T F hm j) (Nat.le_trans (Nat.le_succ _) (Nat.le_add_right _ _))
abbrev s__law_masters : Stmt := topS 22
theorem sc__law_masters : FnScope ["_law_state", "_law_far", "_law_many", "_law_some", "_law_k", "_law_mark"] ["_law_state", "_law_far"] (defScope s__law_masters) := ⟨rfl, rfl, rfl, by decide +kernel, rfl, by decide +kernel, by decide +kernel⟩
def sp__law_masters : PN := fun ds S Q => ∃ (n far : Nat), ds = [.ref n, nD far] ∧ 1 ≤ far ∧ far ≤ 1000 ∧ StS S n ∧ ∀ (ms : List (Int × Int)) (m : Nat) S', MasOk ms → Dr n S S' → S.length ≤ m → S'[m]? = some (.lst (ms.map mstD)) → Q (.ref m) S'
theorem ok__law_masters {f : Addr} {fd : FuncData} (T : Txt w K mg tk ta) (F : Fun K "_law_masters" "_law_masters" s__law_masters f fd) (hm : mg "_law_masters" = some (.ref f)) (F__law_drawn : Fn3 P w K mg base 2 "_law_drawn" sp__law_drawn) : Fn3 P w K mg base 3 "_law_masters" sp__law_masters := by
  have hb := F.binds (ps := ["_law_state", "_law_far"]) fun _ _ _ _ _ _ us hl => match us, hl with | [_, _], _ => rfl
  refine fn3 F sc__law_masters hm hb (fun cdv A outer s H E hr => (qss_cons (qs_asg (qe_call (F__law_drawn.mono (by decide)) hr (qa_cons (qe_var 0) (qa_cons (qe_ix (qe_new (ql_lst (qa_cons qe_int (qa_cons qe_int (qa_cons qe_int qa_nil))))) (qe_call (F__law_drawn.mono (by decide)) hr (qa_cons (qe_var 0) (qa_cons qe_int qa_nil)))) qa_nil))) (qg_one sc__law_masters.nd 2)) (qss_cons (qs_asg (qe_new (ql_sortSI (kk := 0) (hr.mono (by decide)) T.sorted T.set (qe_new (ql_lc (own := [("_law_k", 4)]) rfl sc__law_masters.nd (qi_range1 T.range (qa_cons (qe_var 2) qa_nil)) (blkOk_by (show blkC ["_law_state", "_law_far", "_law_many", "_law_some", "_law_k", "_law_mark"] (defScope s__law_masters) _ _ = true from by decide +kernel)) (fun _ _ _ _ _ => qg_one sc__law_masters.nd 4) (fun _ _ _ _ _ => qts_nil) (fun _ _ _ _ _ => (qe_call (F__law_drawn.mono (by decide)) hr (qa_cons (qe_var 0) (qa_cons (qe_var 1) qa_nil)))))))) (qg_one sc__law_masters.nd 3)) (qss_one (qs_ret (qe_new (ql_lc (own := [("_law_mark", 5)]) rfl sc__law_masters.nd (qi_seq (qe_var 3)) (blkOk_by (show blkC ["_law_state", "_law_far", "_law_many", "_law_some", "_law_k", "_law_mark"] (defScope s__law_masters) _ _ = true from by decide +kernel)) (fun _ _ _ _ _ => qg_one sc__law_masters.nd 5) (fun _ _ _ _ _ => qts_nil) (fun _ _ _ _ _ => (qe_tup (qa_cons (qe_var 5) (qa_cons (qe_call (F__law_drawn.mono (by decide)) hr (qa_cons (qe_var 0) (qa_cons qe_int qa_nil))) qa_nil))))))))))) ?_ ?_
  · rintro ds S Q ⟨n, far, rfl, _⟩; rfl
  · rintro ds S Q ⟨n, far, rfl, hf1, hf2, hst, q⟩
    have hn := hst.lt
    rw [wSeq]
    walk_at "bi"
    unfold sp__law_drawn
    refine ⟨n, 3, rfl, by omega, by omega, ((Ext.push S _).dr hst).st, fun d1 S1 hd1 dr1 => ?_⟩
    have r1 := ((Ext.push S _).dr hst).trans dr1
    have hl1 := dr1.keep S.length _ (Nat.ne_of_gt hst.lt) (last_get _ _)
    obtain ⟨most, em, f1, f2⟩ : ∃ most : Nat, atI [D.int 4, D.int 20, D.int 61] (d1 : Int) = some (nD most) ∧ 0 < most ∧ most ≤ 61 := by
      have : d1 = 0 ∨ d1 = 1 ∨ d1 = 2 := by omega
      rcases this with rfl | rfl | rfl
      · exact ⟨4, rfl, by omega, by omega⟩
      · exact ⟨20, rfl, by omega, by omega⟩
      · exact ⟨61, rfl, by omega, by omega⟩
    refine ⟨_, _, hl1, em, n, most, rfl, by omega, by omega, r1.st, fun many S2 hm dr2 => ?_⟩
    have r2 := r1.trans dr2
    walk_at "bi"
    rw [wSeq]
    walk_at "bi"
    refine ⟨⟨by omega, by omega⟩, ?_⟩
    rw [Int.toNat_natCast, rngD_zero]
    refine comp_draw (n := n) (S0 := S) D.int (fun a : Int => 0 ≤ a ∧ a < far) _ (by simp; omega) r2 (fun S' x k hx dr hk => ?_) (fun as S3 hal has dr3 => ?_)
    · walk_at "bi"
      refine ⟨n, far, rfl, by omega, by omega, dr.st, fun d S'' hd dr' => ?_⟩
      exact hk (d : Int) S'' ⟨by omega, hd⟩ dr'
    rw [List.length_map, List.length_range] at hal
    refine ⟨_, as, rfl, last_get _ _, by omega, fun ms h1 h2 h3 => ?_⟩
    have r3 := (dr3.push (O.lst (as.map D.int))).push (O.lst (ms.map D.int))
    have hs3 := last_get (S3 ++ [O.lst (as.map D.int)]) (O.lst (ms.map D.int))
    have hsm : (S3 ++ [O.lst (as.map D.int)]).length ≠ n := by have := dr3.lt; simp; omega
    have hsl : S.length ≤ (S3 ++ [O.lst (as.map D.int)]).length := by have := dr3.len; simp; omega
    generalize (S3 ++ [O.lst (as.map D.int)]).length = sm at *
    generalize S3 ++ [O.lst (as.map D.int)] ++ [O.lst (ms.map D.int)] = S4 at *
    walk_at "bi"
    refine ⟨_, hs3, ?_⟩
    refine comp_inv (fun i acc S2 => ∃ qs : List (Int × Int), acc = qs.map mstD ∧ qs.map (·.1) = ms.take i ∧ (∀ q ∈ qs, 0 ≤ q.2 ∧ q.2 ≤ 999) ∧ Dr n S S2 ∧ S2[sm]? = some (.lst (ms.map D.int))) _ 0 ⟨[], rfl, by simp, fun q hq => by simp at hq, r3, hs3⟩ (fun i acc S2 h => ?_) (fun jj y acc S2 k2 hy h' hk2 => ?_) (fun acc S2 h => ?_)
    · obtain ⟨qs, rfl, b1, b2, b3, b4⟩ := h
      have := congrArg List.length b1
      simp at this
      exact ⟨b4, by rw [List.length_map]; exact small1k (by omega)⟩
    · obtain ⟨qs, rfl, b1, b2, b3, b4⟩ := h'
      obtain ⟨mk, hmk, rfl⟩ := map_get hy
      walk_at "bi"
      refine ⟨n, 1000, rfl, by omega, by omega, b3.st, fun d S'' hd dr' => ?_⟩
      refine hk2 _ _ ⟨qs ++ [(mk, (d : Int))], by rw [List.map_append]; rfl, ?_, fun q hq => ?_, b3.trans dr', dr'.keep _ _ hsm b4⟩
      · rw [Nat.zero_add] at b1 ⊢
        rw [List.map_append, b1, take_snoc hmk]; rfl
      · rcases List.mem_append.mp hq with z | z
        · exact b2 q z
        · have : q = (mk, (d : Int)) := by simpa using z
          subst this
          exact ⟨by show (0 : Int) ≤ d; omega, by show (d : Int) ≤ 999; omega⟩
    · obtain ⟨qs, rfl, b1, b2, b3, b4⟩ := h
      rw [Nat.zero_add, List.length_map, List.take_length] at b1
      have hql : qs.length = ms.length := by have := congrArg List.length b1; simpa using this
      refine q qs _ _ ⟨by omega, fun x hx => ⟨?_, b2 x hx⟩, ?_⟩ (b3.push _) ?_ (last_get _ _)
      · have : x.1 ∈ ms := by rw [← b1]; exact List.mem_map_of_mem hx
        have := has _ ((h2 _).mp this)
        omega
      · rw [← b1, List.pairwise_map] at h1
        exact h1
      · exact b3.len
abbrev s__law_moves : Stmt := topS 23
theorem sc__law_moves : FnScope ["_law_state", "_law_far", "_law_many", "_law_some", "_law_k", "_law_mark"] ["_law_state", "_law_far"] (defScope s__law_moves) := ⟨rfl, rfl, rfl, by decide +kernel, rfl, by decide +kernel, by decide +kernel⟩
def sp__law_moves : PN := fun ds S Q => ∃ (n far : Nat), ds = [.ref n, nD far] ∧ 1 ≤ far ∧ far ≤ 1000 ∧ StS S n ∧ ∀ (ms : List Mv) (m : Nat) S', MovOk ms → Dr n S S' → S.length ≤ m → S'[m]? = some (.lst (ms.map mvD)) → Q (.ref m) S'
theorem ok__law_moves {f : Addr} {fd : FuncData} (T : Txt w K mg tk ta) (F : Fun K "_law_moves" "_law_moves" s__law_moves f fd) (hm : mg "_law_moves" = some (.ref f)) (F__law_drawn : Fn3 P w K mg base 2 "_law_drawn" sp__law_drawn) : Fn3 P w K mg base 3 "_law_moves" sp__law_moves := by
  have hb := F.binds (ps := ["_law_state", "_law_far"]) fun _ _ _ _ _ _ us hl => match us, hl with | [_, _], _ => rfl
  refine fn3 F sc__law_moves hm hb (fun cdv A outer s H E hr => (qss_cons (qs_asg (qe_call (F__law_drawn.mono (by decide)) hr (qa_cons (qe_var 0) (qa_cons (qe_ix (qe_new (ql_lst (qa_cons qe_int (qa_cons qe_int (qa_cons qe_int qa_nil))))) (qe_call (F__law_drawn.mono (by decide)) hr (qa_cons (qe_var 0) (qa_cons qe_int qa_nil)))) qa_nil))) (qg_one sc__law_moves.nd 2)) (qss_cons (qs_asg (qe_new (ql_sorted T.sorted (qe_new (ql_lc (own := [("_law_k", 4)]) rfl sc__law_moves.nd (qi_range1 T.range (qa_cons (qe_var 2) qa_nil)) (blkOk_by (show blkC ["_law_state", "_law_far", "_law_many", "_law_some", "_law_k", "_law_mark"] (defScope s__law_moves) _ _ = true from by decide +kernel)) (fun _ _ _ _ _ => qg_one sc__law_moves.nd 4) (fun _ _ _ _ _ => qts_nil) (fun _ _ _ _ _ => (qe_call (F__law_drawn.mono (by decide)) hr (qa_cons (qe_var 0) (qa_cons (qe_var 1) qa_nil)))))))) (qg_one sc__law_moves.nd 3)) (qss_one (qs_ret (qe_new (ql_lc (own := [("_law_mark", 5)]) rfl sc__law_moves.nd (qi_seq (qe_var 3)) (blkOk_by (show blkC ["_law_state", "_law_far", "_law_many", "_law_some", "_law_k", "_law_mark"] (defScope s__law_moves) _ _ = true from by decide +kernel)) (fun _ _ _ _ _ => qg_one sc__law_moves.nd 5) (fun _ _ _ _ _ => qts_nil) (fun _ _ _ _ _ => (qe_tup (qa_cons (qe_var 5) (qa_cons (qe_ix (qe_new (ql_lst (qa_cons qe_str (qa_cons qe_str (qa_cons qe_str qa_nil))))) (qe_call (F__law_drawn.mono (by decide)) hr (qa_cons (qe_var 0) (qa_cons qe_int qa_nil)))) (qa_cons (qe_call (F__law_drawn.mono (by decide)) hr (qa_cons (qe_var 0) (qa_cons qe_int qa_nil))) qa_nil)))))))))))) ?_ ?_
  · rintro ds S Q ⟨n, far, rfl, _⟩; rfl
  · rintro ds S Q ⟨n, far, rfl, hf1, hf2, hst, q⟩
    have hn := hst.lt
    rw [wSeq]
    walk_at "bi"
    unfold sp__law_drawn
    refine ⟨n, 3, rfl, by omega, by omega, ((Ext.push S _).dr hst).st, fun d1 S1 hd1 dr1 => ?_⟩
    have r1 := ((Ext.push S _).dr hst).trans dr1
    have hl1 := dr1.keep S.length _ (Nat.ne_of_gt hst.lt) (last_get _ _)
    obtain ⟨most, em, f1, f2⟩ : ∃ most : Nat, atI [D.int 6, D.int 20, D.int 61] (d1 : Int) = some (nD most) ∧ 0 < most ∧ most ≤ 61 := by
      have : d1 = 0 ∨ d1 = 1 ∨ d1 = 2 := by omega
      rcases this with rfl | rfl | rfl
      · exact ⟨6, rfl, by omega, by omega⟩
      · exact ⟨20, rfl, by omega, by omega⟩
      · exact ⟨61, rfl, by omega, by omega⟩
    refine ⟨_, _, hl1, em, n, most, rfl, by omega, by omega, r1.st, fun many S2 hm dr2 => ?_⟩
    have r2 := r1.trans dr2
    walk_at "bi"
    rw [wSeq]
    walk_at "bi"
    refine ⟨⟨by omega, by omega⟩, ?_⟩
    rw [Int.toNat_natCast, rngD_zero]
    refine comp_draw (n := n) (S0 := S) D.int (fun a : Int => 0 ≤ a ∧ a < far) _ (by simp; omega) r2 (fun S' x k hx dr hk => ?_) (fun as S3 hal has dr3 => ?_)
    · walk_at "bi"
      refine ⟨n, far, rfl, by omega, by omega, dr.st, fun d S'' hd dr' => ?_⟩
      exact hk (d : Int) S'' ⟨by omega, hd⟩ dr'
    rw [List.length_map, List.length_range] at hal
    refine ⟨_, as, rfl, last_get _ _, by omega, fun ms hp hs => ?_⟩
    have h3 := hp.length_eq
    have r3 := (dr3.push (O.lst (as.map D.int))).push (O.lst (ms.map D.int))
    have hs3 := last_get (S3 ++ [O.lst (as.map D.int)]) (O.lst (ms.map D.int))
    have hsm : (S3 ++ [O.lst (as.map D.int)]).length ≠ n := by have := dr3.lt; simp; omega
    have hsl : S.length ≤ (S3 ++ [O.lst (as.map D.int)]).length := by have := dr3.len; simp; omega
    generalize (S3 ++ [O.lst (as.map D.int)]).length = sm at *
    generalize S3 ++ [O.lst (as.map D.int)] ++ [O.lst (ms.map D.int)] = S4 at *
    walk_at "bi"
    refine ⟨_, hs3, ?_⟩
    refine comp_inv (fun i acc S2 => ∃ qs : List Mv, acc = qs.map mvD ∧ qs.map (·.1) = ms.take i ∧ (∀ q ∈ qs, q.2.1 ∈ moves3 ∧ 0 ≤ q.2.2 ∧ q.2.2 ≤ 999) ∧ Dr n S S2 ∧ S2[sm]? = some (.lst (ms.map D.int))) _ 0 ⟨[], rfl, by simp, fun q hq => by simp at hq, r3, hs3⟩ (fun i acc S2 h => ?_) (fun jj y acc S2 k2 hy h' hk2 => ?_) (fun acc S2 h => ?_)
    · obtain ⟨qs, rfl, b1, b2, b3, b4⟩ := h
      have := congrArg List.length b1
      simp at this
      exact ⟨b4, by rw [List.length_map]; exact small1k (by omega)⟩
    · obtain ⟨qs, rfl, b1, b2, b3, b4⟩ := h'
      obtain ⟨mk, hmk, rfl⟩ := map_get hy
      walk_at "bi"
      refine ⟨n, 3, rfl, by omega, by omega, (b3.push _).st, fun d2 S5 hd2 dr5 => ?_⟩
      have r5 := (b3.push (O.lst [D.str "add", D.str "drop", D.str "set"])).trans dr5
      have hl5 := dr5.keep S2.length _ (Nat.ne_of_gt b3.lt) (last_get _ _)
      obtain ⟨wd, ew, hw⟩ : ∃ wd : Str, atI [D.str "add", D.str "drop", D.str "set"] (d2 : Int) = some (.str wd) ∧ wd ∈ moves3 := by
        have : d2 = 0 ∨ d2 = 1 ∨ d2 = 2 := by omega
        rcases this with rfl | rfl | rfl
        · exact ⟨"add", rfl, by decide +kernel⟩
        · exact ⟨"drop", rfl, by decide +kernel⟩
        · exact ⟨"set", rfl, by decide +kernel⟩
      refine ⟨_, _, hl5, ew, n, 1000, rfl, by omega, by omega, r5.st, fun d S'' hd dr' => ?_⟩
      refine hk2 _ _ ⟨qs ++ [(mk, wd, (d : Int))], by rw [List.map_append]; rfl, ?_, fun q hq => ?_, r5.trans dr', dr'.keep _ _ hsm (dr5.keep _ _ hsm ((Ext.push _ _).get b4))⟩
      · rw [Nat.zero_add] at b1 ⊢
        rw [List.map_append, b1, take_snoc hmk]; rfl
      · rcases List.mem_append.mp hq with z | z
        · exact b2 q z
        · have : q = (mk, wd, (d : Int)) := by simpa using z
          subst this
          exact ⟨hw, by show (0 : Int) ≤ d; omega, by show (d : Int) ≤ 999; omega⟩
    · obtain ⟨qs, rfl, b1, b2, b3, b4⟩ := h
      rw [Nat.zero_add, List.length_map, List.take_length] at b1
      have hql : qs.length = ms.length := by have := congrArg List.length b1; simpa using this
      refine q qs _ _ ⟨by omega, fun x hx => ⟨?_, b2 x hx⟩, ?_⟩ (b3.push _) ?_ (last_get _ _)
      · have : x.1 ∈ ms := by rw [← b1]; exact List.mem_map_of_mem hx
        have := has _ (hp.mem_iff.mp this)
        omega
      · rw [← b1, List.pairwise_map] at hs
        exact hs
      · exact b3.len
abbrev s__law_updated : Stmt := topS 24
theorem sc__law_updated : FnScope ["_law_masters_here", "_law_moves_here", "_law_kept", "_law_bad", "_law_k", "_law_mark", "_law_word", "_law_worth"] ["_law_masters_here", "_law_moves_here"] (defScope s__law_updated) := ⟨rfl, rfl, rfl, by decide +kernel, rfl, by decide +kernel, by decide +kernel⟩
def sp__law_updated : PN := fun ds S Q => ∃ (n m : Nat) (ms : List (Int × Int)) (mv : List Mv), ds = [.ref n, .ref m] ∧ S[n]? = some (.lst (ms.map mstD)) ∧ S[m]? = some (.lst (mv.map mvD)) ∧ MasOk ms ∧ MovOk mv ∧ ∀ (T : List (Int × Int)) (a b : Nat) S', Told (runU (mpOf ms) mv) T → T.length ≤ 120 → Ext S S' → S.length ≤ a → S.length ≤ b → a ≠ b → S'[a]? = some (.lst (T.map mstD)) → S'[b]? = some (.lst ((bads (mpOf ms) 0 mv).map badD)) → Q (.tup [.ref a, .ref b]) S'
theorem ok__law_updated {f : Addr} {fd : FuncData} (T : Txt w K mg tk ta) (F : Fun K "_law_updated" "_law_updated" s__law_updated f fd) (hm : mg "_law_updated" = some (.ref f)) : Fn3 P w K mg base 3 "_law_updated" sp__law_updated := by
  have hb := F.binds (ps := ["_law_masters_here", "_law_moves_here"]) fun _ _ _ _ _ _ us hl => match us, hl with | [_, _], _ => rfl
  refine fn3 F sc__law_updated hm hb (fun cdv A outer s H E hr => (qss_cons (qs_asg (qe_dictP rfl T.dict (qe_var 0)) (qg_one sc__law_updated.nd 2)) (qss_cons (qs_asg (qe_new (ql_lst qa_nil)) (qg_one sc__law_updated.nd 3)) (qss_cons (qs_for PassesOwn.never rfl (qi_range1 T.range (qa_cons (qe_len T.len (qa_cons (qe_var 1) qa_nil)) qa_nil)) (qg_one sc__law_updated.nd 4) (qss_cons (qs_asg (qe_ix (qe_var 1) (qe_var 4)) (qg_many rfl (qgs_cons sc__law_updated.nd 5 (qgs_cons sc__law_updated.nd 6 (qgs_cons sc__law_updated.nd 7 qgs_nil))))) (qss_one (qs_if (qt_cp (c_eq hr) (qe_cp (c_eq hr) (qe_var 6) qe_str) (qe_cp (c_inK hr) (qe_var 5) (qe_var 2))) (qss_one (qs_expr (qe_append (qe_var 3) (qa_cons (qe_tup (qa_cons (qe_var 4) (qa_cons (qe_ix (qe_new (ql_lst (qa_cons qe_str (qa_cons qe_str qa_nil)))) (qe_int1 T.int (qa_cons (qe_cp (c_eq hr) (qe_var 6) qe_str) qa_nil))) qa_nil))) qa_nil)))) (qss_one (qs_if (qt_cp (c_eq hr) (qe_var 6) qe_str) (qss_one (qs_expr (qe_kpop (qe_var 2) (qe_var 5)))) (qss_one (qs_kput hr (qe_var 7) (qe_var 2) (qe_var 5))))))))) (qss_one (qs_ret (qe_tup (qa_cons (qe_new (ql_lc (own := [("_law_mark", 5)]) rfl sc__law_updated.nd (qi_new (ql_sortKI (kk := 0) (hr.mono (by decide)) T.sorted (qe_var 2))) (blkOk_by (show blkC ["_law_masters_here", "_law_moves_here", "_law_kept", "_law_bad", "_law_k", "_law_mark", "_law_word", "_law_worth"] (defScope s__law_updated) _ _ = true from by decide +kernel)) (fun _ _ _ _ _ => qg_one sc__law_updated.nd 5) (fun _ _ _ _ _ => qts_nil) (fun _ _ _ _ _ => (qe_tup (qa_cons (qe_var 5) (qa_cons (qe_kix hr (qe_var 2) (qe_var 5)) qa_nil)))))) (qa_cons (qe_var 3) qa_nil))))))))) ?_ ?_
  · rintro ds S Q ⟨n, m, ms, mv, rfl, _⟩; rfl
  · rintro ds S Q ⟨n, m, ms, mv, rfl, hn, hm, okm, okv, q⟩
    have hl := okm.len
    have hv := okv.len
    rw [wSeq]
    walk_at "bi"
    refine ⟨n, ms.map mkv, rfl, by rw [hn, List.map_map]; rfl, ?_⟩
    have hk0 := dk_merge ms okm.inc
    generalize kMerge [] (ms.map mkv) = kvs0 at *
    rw [wSeq]
    walk_at "bi"
    rw [wSeq]
    walk_at "bi"
    have e0 : Ext S (S ++ [O.dkv kvs0] ++ [O.lst []]) := (Ext.push _ _).trans (.push _ _)
    have hd0 : (S ++ [O.dkv kvs0] ++ [O.lst []])[S.length]? = some (.dkv kvs0) := (Ext.push _ _).get (last_get _ _)
    have hu0 : (S ++ [O.dkv kvs0] ++ [O.lst []])[S.length + 1]? = some (.lst ((bads (mpOf ms) 0 (mv.take 0)).map badD)) := by simp [bads]
    have hul : (S ++ [O.dkv kvs0]).length = S.length + 1 := by simp
    rw [hul]
    refine ⟨_, e0.get hm, ⟨by rw [List.length_map]; omega, by rw [List.length_map]; omega⟩, ?_⟩
    rw [Int.toNat_natCast, List.length_map, rngD_zero]
    refine loop_inv (fun i ρ S' => (∃ v4 v5 v6 v7 : Option D, ρ = [some (.ref n), some (.ref m), some (.ref S.length), some (.ref (S.length + 1)), v4, v5, v6, v7]) ∧ Ext S S' ∧ ∃ kvs, S'[S.length]? = some (.dkv kvs) ∧ DkOk kvs (runU (mpOf ms) (mv.take i)) (ms.length + i) ∧ S'[S.length + 1]? = some (.lst ((bads (mpOf ms) 0 (mv.take i)).map badD))) _ 0
      ⟨⟨_, _, _, _, rfl⟩, e0, kvs0, hd0, by simpa [runU] using hk0, hu0⟩ (fun _ _ _ _ => trivial) ?_ ?_
    · rintro j x ρ S' k hx ⟨⟨v4, v5, v6, v7, rfl⟩, e, kvs, hd, hk, hu⟩ hk2
      obtain ⟨i, hi, rfl⟩ := map_get hx
      have hij : i = j ∧ j < mv.length := by
        obtain ⟨h1, h2⟩ := List.getElem?_eq_some_iff.mp hi
        rw [List.getElem_range] at h2
        rw [List.length_range] at h1
        exact ⟨h2.symm, h1⟩
      obtain ⟨rfl, hj⟩ := hij
      obtain ⟨x, hxm⟩ : ∃ x, mv[i]? = some x := ⟨mv[i], List.getElem?_eq_getElem hj⟩
      rw [Nat.zero_add] at hk2 hk hu
      have hts := take_snoc hxm
      have hnum := okv.num x (List.mem_of_getElem? hxm)
      have hrun : runU (mpOf ms) (mv.take (i + 1)) = stp (runU (mpOf ms) (mv.take i)) x := by rw [hts, runU_snoc]
      have hbad : bads (mpOf ms) 0 (mv.take (i + 1)) = bads (mpOf ms) 0 (mv.take i) ++ badAt (runU (mpOf ms) (mv.take i)) i x := by rw [hts, bads_snoc, List.length_take, Nat.min_eq_left (by omega)]
      have hbl := bads_len (mv.take i) (mpOf ms) 0
      have hget := hk.get x.1
      rw [hrun, hbad] at hk2
      generalize runU (mpOf ms) (mv.take i) = M at *
      generalize bads (mpOf ms) 0 (mv.take i) = Bd at *
      rw [List.length_take] at hbl
      obtain ⟨kx, wd, wx⟩ := x
      dsimp only at hget hnum
      have fin : ∀ S2 kvs2 M2 ws, Ext S S2 → S2[S.length]? = some (.dkv kvs2) → DkOk kvs2 M2 (ms.length + (i + 1)) → S2[S.length + 1]? = some (.lst (ws.map badD)) → M2 = stp M (kx, wd, wx) → ws = Bd ++ badAt M i (kx, wd, wx) → ∀ v4 v5 v6 v7 : Option D, k [some (.ref n), some (.ref m), some (.ref S.length), some (.ref (S.length + 1)), v4, v5, v6, v7] S2 := fun S2 kvs2 M2 ws e2 h1 h2 h3 h4 h5 v4 v5 v6 v7 => by
        subst h4; subst h5
        exact hk2 _ _ ⟨⟨_, _, _, _, rfl⟩, e2, kvs2, h1, h2, h3⟩
      have hklen := hk.len
      have e3 : Ext S' (S' ++ [O.lst [D.str (Str.ofString "lacks"), D.str (Str.ofString "there")]]) := .push _ _
      have hu3 := e3.get hu
      have hd3 := e3.get hd
      have hl3 := last_get S' (O.lst [D.str (Str.ofString "lacks"), D.str (Str.ofString "there")])
      have badc : ∀ w : Str, badAt M i (kx, wd, wx) = [(i, w)] → stp M (kx, wd, wx) = M → ∀ v4 v5 v6 v7 : Option D, k [some (.ref n), some (.ref m), some (.ref S.length), some (.ref (S.length + 1)), v4, v5, v6, v7] ((S' ++ [O.lst [D.str (Str.ofString "lacks"), D.str (Str.ofString "there")]]).set (S.length + 1) (.lst (Bd.map badD ++ [D.tup [nD i, .str w]]))) := fun w h1 h2 v4 v5 v6 v7 => by
        refine fin _ kvs M (Bd ++ [(i, w)]) ((e.trans e3).set (by omega) _) (by rw [set_ne (by omega)]; exact hd3) (hk.same rfl (by omega)) ?_ h2.symm (by rw [h1]) _ _ _ _
        rw [set_eq hu3, List.map_append]; rfl
      have putc : badAt M i (kx, wd, wx) = [] → stp M (kx, wd, wx) = (fun x => if x = kx then some wx else M x) → ∀ v4 v5 v6 v7 : Option D, k [some (.ref n), some (.ref m), some (.ref S.length), some (.ref (S.length + 1)), v4, v5, v6, v7] (S'.set S.length (.dkv (kPut kvs (.inl kx) (.int wx)))) := fun h1 h2 v4 v5 v6 v7 =>
        fin _ _ _ Bd (e.set (Nat.le_refl _) _) (set_eq hd) (by rw [← Nat.add_assoc]; exact hk.put kx wx) (by rw [set_ne (by omega)]; exact hu) h2.symm (by rw [h1, List.append_nil]) _ _ _ _
      have drpc : badAt M i (kx, wd, wx) = [] → stp M (kx, wd, wx) = (fun x => if x = kx then none else M x) → ∀ v4 v5 v6 v7 : Option D, k [some (.ref n), some (.ref m), some (.ref S.length), some (.ref (S.length + 1)), v4, v5, v6, v7] (S'.set S.length (.dkv (kDrop kvs (.inl kx)))) := fun h1 h2 v4 v5 v6 v7 =>
        fin _ _ _ Bd (e.set (Nat.le_refl _) _) (set_eq hd) ((hk.drop kx).same rfl (by omega)) (by rw [set_ne (by omega)]; exact hu) h2.symm (by rw [h1, List.append_nil]) _ _ _ _
      walk_at "bi"
      rw [wSeq]
      walk_at "bi"
      refine ⟨_, _, e.get hm, ix_lit i (show (mv.map mvD)[i]? = some (mvD (kx, wd, wx)) by rw [List.getElem?_map, hxm]; rfl), ?_⟩
      unfold mvD
      cases hM : M kx with
      | some v =>
        rw [hM] at hget
        rcases word3 hnum.2.1 with rfl | rfl | rfl
        · have hw := u_add1 (w := wx) i hM
          walk_at "bi"
          refine ⟨_, kvs, .inl kx, rfl, rfl, hd, ?_⟩
          rw [hget]
          rw [if_pos (by rfl)]
          exact ⟨⟨_, hu⟩, _, _, hl3, ix_lit 1 rfl, _, hu3, by rw [List.length_map]; omega, badc "there" hw.1 hw.2 _ _ _ _⟩
        · have hw := u_drop1 (w := wx) i hM
          walk_at "bi"
          refine ⟨_, kvs, .inl kx, rfl, rfl, hd, ?_⟩
          rw [hget]
          rw [if_neg (by simp)]
          exact ⟨⟨_, _, rfl, hd⟩, _, kvs, .inl kx, _, rfl, rfl, hd, hget, drpc hw.1 hw.2 _ _ _ _⟩
        · have hw := u_set1 (w := wx) i hM
          walk_at "bi"
          refine ⟨_, kvs, .inl kx, rfl, rfl, hd, ?_⟩
          rw [hget]
          rw [if_neg (by simp)]
          exact ⟨_, kvs, .inl kx, rfl, rfl, hd, by omega, putc hw.1 hw.2 _ _ _ _⟩
      | none =>
        rw [hM] at hget
        rcases word3 hnum.2.1 with rfl | rfl | rfl
        · have hw := u_add0 (w := wx) i hM
          walk_at "bi"
          refine ⟨_, kvs, .inl kx, rfl, rfl, hd, ?_⟩
          rw [hget]
          rw [if_neg (by simp)]
          exact ⟨_, kvs, .inl kx, rfl, rfl, hd, by omega, putc hw.1 hw.2 _ _ _ _⟩
        · have hw := u_drop0 (w := wx) i hM
          walk_at "bi"
          refine ⟨_, kvs, .inl kx, rfl, rfl, hd, ?_⟩
          rw [hget]
          rw [if_pos (by rfl)]
          exact ⟨⟨_, hu⟩, _, _, hl3, ix_lit 0 rfl, _, hu3, by rw [List.length_map]; omega, badc "lacks" hw.1 hw.2 _ _ _ _⟩
        · have hw := u_set0 (w := wx) i hM
          walk_at "bi"
          refine ⟨_, kvs, .inl kx, rfl, rfl, hd, ?_⟩
          rw [hget]
          rw [if_pos (by rfl)]
          exact ⟨⟨_, hu⟩, _, _, hl3, ix_lit 0 rfl, _, hu3, by rw [List.length_map]; omega, badc "lacks" hw.1 hw.2 _ _ _ _⟩
    · rintro ρ S' ⟨⟨v4, v5, v6, v7, rfl⟩, e, kvs, hd, hk, hu⟩
      rw [Nat.zero_add, List.length_map, List.length_range, List.take_length] at hk hu
      obtain ⟨ns, h1, h2, h3, h4⟩ := hk.keys
      have hget := hk.get
      walk_at "bi"
      refine ⟨_, kvs, ns, rfl, hd, h1, by omega, fun ns' hp hs => ?_⟩
      have hT := told_srt (kvs := kvs) h2 h4 hp hs
      have hnl := hp.length_eq
      refine comp_onm D.int (fun k => mstD (k, (runU (mpOf ms) mv k).getD 0)) ns' trivial (small1k (by omega)) (fun k hk' k2 hk2 => ?_) ?_
      · walk_at "bi"
        have := (h4 k).mp (hp.mem_iff.mp hk')
        obtain ⟨v, hv⟩ := Option.isSome_iff_exists.mp this
        refine ⟨_, kvs, .inl k, .int v, rfl, rfl, hd, by rw [hget, hv]; rfl, ?_⟩
        rw [hv] at hk2
        exact hk2
      · have em : ns'.map (fun k => mstD (k, (runU (mpOf ms) mv k).getD 0)) = (ns'.map fun k => (k, (runU (mpOf ms) mv k).getD 0)).map mstD := by rw [List.map_map]; rfl
        rw [em]
        have hle := e0.len
        have hle' := e.len
        have hul2 := Ext.lt_of hu
        simp only [List.length_append, List.length_singleton] at hle
        exact q _ _ _ _ hT (by rw [List.length_map]; omega) (e.trans (.push _ _)) (by omega) (by omega) (by omega) (last_get _ _) ((Ext.push _ _).get hu)
abbrev s_law : Stmt := topS 25
theorem sc_law : FnScope ["_law_script", "_law_state", "_law_turn", "_law_far", "_law_masters_here", "_law_moves_here", "_law_due", "_law_handed", "_law_again", "_law_found"] ["_law_script"] (defScope s_law) := ⟨rfl, rfl, rfl, by decide +kernel, rfl, by decide +kernel, by decide +kernel⟩
def sp_law : PN := fun ds S Q => ∃ sc : List Int, ds = [.ro (sc.map D.int)] ∧ S = [] ∧ ∀ S', Q (.bl true) S'
theorem ok_law {f : Addr} {fd : FuncData} (T : Txt w K mg tk ta) (F : Fun K "law" "law" s_law f fd) (hm : mg "law" = some (.ref f)) (F_updated : Fn3 P w K mg base 8 "updated" sp_updated) (F__law_start : Fn3 P w K mg base 2 "_law_start" sp__law_start) (F__law_drawn : Fn3 P w K mg base 2 "_law_drawn" sp__law_drawn) (F__law_same : Fn3 P w K mg base 5 "_law_same" (sp__law_same 3)) (F__law_masters : Fn3 P w K mg base 3 "_law_masters" sp__law_masters) (F__law_moves : Fn3 P w K mg base 3 "_law_moves" sp__law_moves) (F__law_updated : Fn3 P w K mg base 3 "_law_updated" sp__law_updated) : Fn3 P w K mg base 9 "law" sp_law := by
  have hb := F.binds (ps := ["_law_script"]) fun _ _ _ _ _ _ us hl => match us, hl with | [_], _ => rfl
  refine fn3 F sc_law hm hb (fun cdv A outer s H E hr => (qss_cons (qs_asg (qe_call (F__law_start.mono (by decide)) hr (qa_cons (qe_var 0) qa_nil)) (qg_one sc_law.nd 1)) (qss_cons (qs_for PassesOwn.never rfl (qi_range1 T.range (qa_cons qe_int qa_nil)) (qg_one sc_law.nd 2) (qss_cons (qs_asg (qe_ix (qe_new (ql_lst (qa_cons qe_int (qa_cons qe_int (qa_cons qe_int (qa_cons qe_int qa_nil)))))) (qe_call (F__law_drawn.mono (by decide)) hr (qa_cons (qe_var 1) (qa_cons qe_int qa_nil)))) (qg_one sc_law.nd 3)) (qss_cons (qs_asg (qe_call (F__law_masters.mono (by decide)) hr (qa_cons (qe_var 1) (qa_cons (qe_var 3) qa_nil))) (qg_one sc_law.nd 4)) (qss_cons (qs_asg (qe_call (F__law_moves.mono (by decide)) hr (qa_cons (qe_var 1) (qa_cons (qe_var 3) qa_nil))) (qg_one sc_law.nd 5)) (qss_cons (qs_asg (qe_call (F__law_updated.mono (by decide)) hr (qa_cons (qe_var 4) (qa_cons (qe_var 5) qa_nil))) (qg_one sc_law.nd 6)) (qss_cons (qs_asg (qe_new (ql_lst (qa_cons (qe_new (ql_list T.list (qe_var 4))) (qa_cons (qe_new (ql_list T.list (qe_var 5))) qa_nil)))) (qg_one sc_law.nd 7)) (qss_one (qs_for PassesOwn.never rfl (qi_range1 T.range (qa_cons qe_int qa_nil)) (qg_one sc_law.nd 8) (qss_cons (qs_asg (qe_call (F_updated.mono (by decide)) hr (qa_cons (qe_ix (qe_var 7) qe_int) (qa_cons (qe_ix (qe_var 7) qe_int) qa_nil))) (qg_one sc_law.nd 9)) (qss_cons (qs_if (qw_pt (qw_or (qt_not (qt_val (qe_call (F__law_same.mono (by decide)) hr (qa_cons (qe_var 9) (qa_cons (qe_var 6) qa_nil))))) (qw_or1 (qt_cp (c_ne hr) (qe_var 7) (qe_new (ql_lst (qa_cons (qe_var 4) (qa_cons (qe_var 5) qa_nil)))))))) (qss_one (qs_ret qe_bl)) qss_nil) (qss_cons (qs_expr (qe_append (qe_ix (qe_var 9) qe_int) (qa_cons (qe_tup (qa_cons qe_int (qa_cons qe_int qa_nil))) qa_nil))) (qss_cons (qs_expr (qe_reverse (qe_ix (qe_var 9) qe_int))) (qss_one (qs_expr (qe_append (qe_ix (qe_var 9) qe_int) (qa_cons (qe_tup qa_nil) qa_nil)))))))))))))))) (qss_one (qs_ret qe_bl))))) ?_ ?_
  · rintro ds S Q ⟨sc, rfl, _⟩; rfl
  · rintro ds S Q ⟨sc, rfl, rfl, q⟩
    rw [wSeq]
    walk_at "bi"
    unfold sp__law_start
    refine ⟨sc, rfl, fun st hst => ?_⟩
    walk_at "bi"
    rw [wSeq]
    walk_at "bi"
    refine ⟨⟨by omega, by omega⟩, ?_⟩
    rw [show (4 : Int).toNat = 4 from rfl, rngD_zero]
    refine loop_inv (fun i ρ S' => ∃ v2 v3 v4 v5 v6 v7 v8 v9 : Option D, ρ = [some (.ro (sc.map D.int)), some (.ref 0), v2, v3, v4, v5, v6, v7, v8, v9] ∧ StS S' 0) _ 0
      ⟨none, none, none, none, none, none, none, none, rfl, st, rfl, hst⟩ (fun _ _ _ _ => trivial) ?_ ?_
    · rintro j x ρ S' k hx ⟨v2, v3, v4, v5, v6, v7, v8, v9, rfl, hst⟩ hk
      obtain ⟨turn, hm, rfl⟩ := map_get hx
      walk_at "bi"
      rw [wSeq]
      walk_at "bi"
      unfold sp__law_drawn
      refine ⟨0, 4, rfl, by omega, by omega, ((Ext.push S' _).dr hst).st, fun d1 S1 hd1 dr1 => ?_⟩
      have r1 := ((Ext.push S' _).dr hst).trans dr1
      have hl1 := dr1.keep S'.length _ (Nat.ne_of_gt hst.lt) (last_get _ _)
      obtain ⟨far, ef, f1, f2⟩ : ∃ far : Nat, atI [D.int 3, D.int 8, D.int 30, D.int 1000] (d1 : Int) = some (nD far) ∧ 1 ≤ far ∧ far ≤ 1000 := by
        have : d1 = 0 ∨ d1 = 1 ∨ d1 = 2 ∨ d1 = 3 := by omega
        rcases this with rfl | rfl | rfl | rfl
        · exact ⟨3, rfl, by omega, by omega⟩
        · exact ⟨8, rfl, by omega, by omega⟩
        · exact ⟨30, rfl, by omega, by omega⟩
        · exact ⟨1000, rfl, by omega, by omega⟩
      refine ⟨_, _, hl1, ef, ?_⟩
      walk_at "bi"
      rw [wSeq]
      walk_at "bi"
      unfold sp__law_masters
      refine ⟨0, far, rfl, f1, f2, r1.st, fun ms m S2 okm dr2 hm2 hms => ?_⟩
      walk_at "bi"
      rw [wSeq]
      walk_at "bi"
      unfold sp__law_moves
      refine ⟨0, far, rfl, f1, f2, dr2.st, fun mv v S3 okv dr3 hv3 hmv => ?_⟩
      have r3 := (r1.trans dr2).trans dr3
      have hm0 : m ≠ 0 := by have := r1.lt; omega
      have hms3 := dr3.keep _ _ hm0 hms
      have hv0 : v ≠ 0 := by have := (r1.trans dr2).lt; omega
      have hmv3 : m ≠ v := by have := Ext.lt_of hms; omega
      walk_at "bi"
      rw [wSeq]
      walk_at "bi"
      unfold sp__law_updated
      refine ⟨m, v, ms, mv, rfl, hms3, hmv, okm, okv, fun T a b S4 hT hTl e4 ha hb hab hSa hSb => ?_⟩
      have r4 := r3.ext e4
      have hms4 := e4.get hms3
      have hmv4 := e4.get hmv
      walk_at "bi"
      rw [wSeq]
      walk_at "bi"
      refine ⟨_, hms4, _, (Ext.push _ _).get hmv4, ⟨by omega, by omega⟩, ?_⟩
      have e5 : Ext S4 (S4 ++ [O.lst (ms.map mstD)] ++ [O.lst (mv.map mvD)] ++ [O.lst [D.ref S4.length, D.ref (S4 ++ [O.lst (ms.map mstD)]).length]]) := ((Ext.push _ _).trans (.push _ _)).trans (.push _ _)
      have hh0 : (S4 ++ [O.lst (ms.map mstD)] ++ [O.lst (mv.map mvD)] ++ [O.lst [D.ref S4.length, D.ref (S4 ++ [O.lst (ms.map mstD)]).length]])[S4.length]? = some (.lst (ms.map mstD)) := ((Ext.push _ _).trans (.push _ _)).get (last_get _ _)
      have hh1 : (S4 ++ [O.lst (ms.map mstD)] ++ [O.lst (mv.map mvD)] ++ [O.lst [D.ref S4.length, D.ref (S4 ++ [O.lst (ms.map mstD)]).length]])[(S4 ++ [O.lst (ms.map mstD)]).length]? = some (.lst (mv.map mvD)) := (Ext.push _ _).get (last_get _ _)
      have hh2 := last_get (S4 ++ [O.lst (ms.map mstD)] ++ [O.lst (mv.map mvD)]) (O.lst [D.ref S4.length, D.ref (S4 ++ [O.lst (ms.map mstD)]).length])
      have r5 := r4.ext e5
      have hms5 := e5.get hms4
      have hmv5 := e5.get hmv4
      have hSa5 := e5.get hSa
      have hSb5 := e5.get hSb
      generalize S4 ++ [O.lst (ms.map mstD)] ++ [O.lst (mv.map mvD)] ++ [O.lst [D.ref S4.length, D.ref (S4 ++ [O.lst (ms.map mstD)]).length]] = S5 at *
      generalize (S4 ++ [O.lst (ms.map mstD)] ++ [O.lst (mv.map mvD)]).length = hn2 at *
      generalize (S4 ++ [O.lst (ms.map mstD)]).length = hn1 at *
      generalize S4.length = hn0 at *
      rw [show (2 : Int).toNat = 2 from rfl, rngD_zero]
      refine loop_inv (fun i ρ S' => (∃ w8 w9 : Option D, ρ = [some (.ro (sc.map D.int)), some (.ref 0), some (nD turn), some (nD far), some (.ref m), some (.ref v), some (.tup [.ref a, .ref b]), some (.ref hn2), w8, w9]) ∧ Ext S5 S') _ 0 ⟨⟨_, _, rfl⟩, .refl _⟩ (fun _ _ _ _ => trivial) ?_ ?_
      · rintro j2 x2 ρ S6 k6 hx2 ⟨⟨w8, w9, rfl⟩, e6⟩ hk6
        obtain ⟨ag, hag, rfl⟩ := map_get hx2
        walk_at "bi"
        rw [wSeq]
        walk_at "bi"
        refine ⟨_, _, e6.get hh2, ix_lit 0 rfl, _, _, e6.get hh2, ix_lit 1 rfl, ?_⟩
        unfold sp_updated
        refine ⟨hn0, hn1, ms, mv, rfl, e6.get hh0, e6.get hh1, okm, okv, fun T' a' b' S7 hT' hTl' e7 ha' hb' hab' hSa' hSb' => ?_⟩
        have hTT := told_unique hT' hT
        subst hTT
        have e57 := e6.trans e7
        walk_at "bi"
        rw [wSeq]
        walk_at "bi"
        unfold sp__law_same
        have hbl := bads_len mv (mpOf ms) 0
        have hvl := okv.len
        refine ⟨_, _, rfl, alike_two (alike_l1 hSa' (e57.get hSa5) (by rw [List.length_map]; omega) fun d hd => ?_) (alike_l1 hSb' (e57.get hSb5) (by rw [List.length_map]; omega) fun d hd => ?_), fun S8 e8 => ?_⟩
        · obtain ⟨q, _, rfl⟩ := List.mem_map.mp hd; exact fl1_mst q
        · obtain ⟨q, _, rfl⟩ := List.mem_map.mp hd; exact fl1_bad q
        have e58 := e57.trans e8
        walk_at "bi"
        have e9 := Ext.push S8 (O.lst [D.ref m, D.ref v])
        have e59 := e58.trans e9
        refine pNe_refs (k := 3) (same_two (e59.get hh2) (last_get _ _) (.ref_eq (k := 1) (e59.get hh0) (e59.get hms5) fun d hd => ?_) (.ref_eq (k := 1) (e59.get hh1) (e59.get hmv5) fun d hd => ?_)) (by omega) ?_
        · obtain ⟨q, _, rfl⟩ := List.mem_map.mp hd; exact hasP_mst q
        · obtain ⟨q, hq, rfl⟩ := List.mem_map.mp hd; exact hasP_mv (okv.num q hq).2.1
        walk_at "bi"
        have hSa9 := (e8.trans e9).get hSa'
        have hSb9 := (e8.trans e9).get hSb'
        have hl5 := e6.len
        generalize S8 ++ [O.lst [D.ref m, D.ref v]] = S9 at *
        rw [wSeq]
        walk_at "bi"
        refine ⟨⟨_, hSa9⟩, _, hSa9, by rw [List.length_map]; omega, ?_⟩
        have hSb10 : (S9.set a' (.lst (T'.map mstD ++ [D.tup [D.int 0, D.int 0]])))[b']? = some (.lst ((bads (mpOf ms) 0 mv).map badD)) := by rw [set_ne hab']; exact hSb9
        have e510 : Ext S5 (S9.set a' (.lst (T'.map mstD ++ [D.tup [D.int 0, D.int 0]]))) := e59.set (by omega) _
        generalize S9.set a' (.lst (T'.map mstD ++ [D.tup [D.int 0, D.int 0]])) = S10 at *
        rw [wSeq]
        walk_at "bi"
        refine ⟨⟨_, hSb10⟩, _, hSb10, ⟨_, set_eq hSb10⟩, _, set_eq hSb10, by rw [List.length_reverse, List.length_map]; omega, ?_⟩
        exact hk6 _ _ ⟨⟨_, _, rfl⟩, (e510.set (by omega) _).set (by omega) _⟩
      · rintro ρ S6 ⟨⟨w8, w9, rfl⟩, e6⟩
        exact hk _ _ ⟨_, _, _, _, _, _, _, _, rfl, (r5.ext e6).st⟩
    · rintro ρ S' ⟨v2, v3, v4, v5, v6, v7, v8, v9, rfl, hst⟩
      walk_at "bi"
      exact q S'
end
theorem all_mk {l : PySem.W.OpenLaw} {w : World} {K : PySem.W.Frag} {h : Heap} {mg : Str → Option Value} {fa : Addr} {f0 : Addr} {od0 an0 : Option Addr} {sl0 : Array (Option Value)} {oc0 kV0 dc0 pm0 cd0 ct0 : Value} {f1 : Addr} {od1 an1 : Option Addr} {sl1 : Array (Option Value)} {oc1 kV1 dc1 pm1 cd1 ct1 : Value} {f2 : Addr} {od2 an2 : Option Addr} {sl2 : Array (Option Value)} {oc2 kV2 dc2 pm2 cd2 ct2 : Value} {f3 : Addr} {od3 an3 : Option Addr} {sl3 : Array (Option Value)} {oc3 kV3 dc3 pm3 cd3 ct3 : Value} {f4 : Addr} {od4 an4 : Option Addr} {sl4 : Array (Option Value)} {oc4 kV4 dc4 pm4 cd4 ct4 : Value} {f5 : Addr} {od5 an5 : Option Addr} {sl5 : Array (Option Value)} {oc5 kV5 dc5 pm5 cd5 ct5 : Value} {f6 : Addr} {od6 an6 : Option Addr} {sl6 : Array (Option Value)} {oc6 kV6 dc6 pm6 cd6 ct6 : Value} {f7 : Addr} {od7 an7 : Option Addr} {sl7 : Array (Option Value)} {oc7 kV7 dc7 pm7 cd7 ct7 : Value} {f8 : Addr} {od8 an8 : Option Addr} {sl8 : Array (Option Value)} {oc8 kV8 dc8 pm8 cd8 ct8 : Value} {f9 : Addr} {od9 an9 : Option Addr} {sl9 : Array (Option Value)} {oc9 kV9 dc9 pm9 cd9 ct9 : Value} {f10 : Addr} {od10 an10 : Option Addr} {sl10 : Array (Option Value)} {oc10 kV10 dc10 pm10 cd10 ct10 : Value} {f11 : Addr} {od11 an11 : Option Addr} {sl11 : Array (Option Value)} {oc11 kV11 dc11 pm11 cd11 ct11 : Value} {f12 : Addr} {od12 an12 : Option Addr} {sl12 : Array (Option Value)} {oc12 kV12 dc12 pm12 cd12 ct12 : Value} {f13 : Addr} {od13 an13 : Option Addr} {sl13 : Array (Option Value)} {oc13 kV13 dc13 pm13 cd13 ct13 : Value} {f14 : Addr} {od14 an14 : Option Addr} {sl14 : Array (Option Value)} {oc14 kV14 dc14 pm14 cd14 ct14 : Value} {t0 : Tok} {t1 : Tok} {aT0 : Addr} {odT0 : Option Addr} {nT0 : Nat} {slT0 : Array (Option Value)} {uT0_1 uT0_2 uT0_3 : Tok} {tc0 tp0 : Addr} (X : K.In h) (G : h.Ns mainGlobals mg) (hfa : mg "law" = some (.ref fa)) (a0 : PySem.W.nsIn K mainGlobals "is_number" = some (some (.ref f0))) (l0 : K.lookup f0 = some ⟨oc0, od0, .func (PySem.W.fnOf "is_number" "is_number" (defArgs s_is_number) (defBody s_is_number) (defScope s_is_number) .none kV0 dc0 pm0 an0 cd0 ct0), sl0⟩) (c0 : PySem.W.codeIn K cd0 "is_number" = true) (k0 : PySem.W.keepIn K (.ref f0) = true) (a1 : PySem.W.nsIn K mainGlobals "is_tuple_of" = some (some (.ref f1))) (l1 : K.lookup f1 = some ⟨oc1, od1, .func (PySem.W.fnOf "is_tuple_of" "is_tuple_of" (defArgs s_is_tuple_of) (defBody s_is_tuple_of) (defScope s_is_tuple_of) .none kV1 dc1 pm1 an1 cd1 ct1), sl1⟩) (c1 : PySem.W.codeIn K cd1 "is_tuple_of" = true) (k1 : PySem.W.keepIn K (.ref f1) = true) (a2 : PySem.W.nsIn K mainGlobals "is_row" = some (some (.ref f2))) (l2 : K.lookup f2 = some ⟨oc2, od2, .func (PySem.W.fnOf "is_row" "is_row" (defArgs s_is_row) (defBody s_is_row) (defScope s_is_row) .none kV2 dc2 pm2 an2 cd2 ct2), sl2⟩) (c2 : PySem.W.codeIn K cd2 "is_row" = true) (k2 : PySem.W.keepIn K (.ref f2) = true) (a3 : PySem.W.nsIn K mainGlobals "check_each_row" = some (some (.ref f3))) (l3 : K.lookup f3 = some ⟨oc3, od3, .func (PySem.W.fnOf "check_each_row" "check_each_row" (defArgs s_check_each_row) (defBody s_check_each_row) (defScope s_check_each_row) .none kV3 dc3 pm3 an3 cd3 ct3), sl3⟩) (c3 : PySem.W.codeIn K cd3 "check_each_row" = true) (k3 : PySem.W.keepIn K (.ref f3) = true) (a4 : PySem.W.nsIn K mainGlobals "check_masters" = some (some (.ref f4))) (l4 : K.lookup f4 = some ⟨oc4, od4, .func (PySem.W.fnOf "check_masters" "check_masters" (defArgs s_check_masters) (defBody s_check_masters) (defScope s_check_masters) .none kV4 dc4 pm4 an4 cd4 ct4), sl4⟩) (c4 : PySem.W.codeIn K cd4 "check_masters" = true) (k4 : PySem.W.keepIn K (.ref f4) = true) (a5 : PySem.W.nsIn K mainGlobals "is_move" = some (some (.ref f5))) (l5 : K.lookup f5 = some ⟨oc5, od5, .func (PySem.W.fnOf "is_move" "is_move" (defArgs s_is_move) (defBody s_is_move) (defScope s_is_move) .none kV5 dc5 pm5 an5 cd5 ct5), sl5⟩) (c5 : PySem.W.codeIn K cd5 "is_move" = true) (k5 : PySem.W.keepIn K (.ref f5) = true) (a6 : PySem.W.nsIn K mainGlobals "check_moves" = some (some (.ref f6))) (l6 : K.lookup f6 = some ⟨oc6, od6, .func (PySem.W.fnOf "check_moves" "check_moves" (defArgs s_check_moves) (defBody s_check_moves) (defScope s_check_moves) .none kV6 dc6 pm6 an6 cd6 ct6), sl6⟩) (c6 : PySem.W.codeIn K cd6 "check_moves" = true) (k6 : PySem.W.keepIn K (.ref f6) = true) (a7 : PySem.W.nsIn K mainGlobals "updated" = some (some (.ref f7))) (l7 : K.lookup f7 = some ⟨oc7, od7, .func (PySem.W.fnOf "updated" "updated" (defArgs s_updated) (defBody s_updated) (defScope s_updated) .none kV7 dc7 pm7 an7 cd7 ct7), sl7⟩) (c7 : PySem.W.codeIn K cd7 "updated" = true) (k7 : PySem.W.keepIn K (.ref f7) = true) (a8 : PySem.W.nsIn K mainGlobals "_law_start" = some (some (.ref f8))) (l8 : K.lookup f8 = some ⟨oc8, od8, .func (PySem.W.fnOf "_law_start" "_law_start" (defArgs s__law_start) (defBody s__law_start) (defScope s__law_start) .none kV8 dc8 pm8 an8 cd8 ct8), sl8⟩) (c8 : PySem.W.codeIn K cd8 "_law_start" = true) (k8 : PySem.W.keepIn K (.ref f8) = true) (a9 : PySem.W.nsIn K mainGlobals "_law_drawn" = some (some (.ref f9))) (l9 : K.lookup f9 = some ⟨oc9, od9, .func (PySem.W.fnOf "_law_drawn" "_law_drawn" (defArgs s__law_drawn) (defBody s__law_drawn) (defScope s__law_drawn) .none kV9 dc9 pm9 an9 cd9 ct9), sl9⟩) (c9 : PySem.W.codeIn K cd9 "_law_drawn" = true) (k9 : PySem.W.keepIn K (.ref f9) = true) (a10 : PySem.W.nsIn K mainGlobals "_law_same" = some (some (.ref f10))) (l10 : K.lookup f10 = some ⟨oc10, od10, .func (PySem.W.fnOf "_law_same" "_law_same" (defArgs s__law_same) (defBody s__law_same) (defScope s__law_same) .none kV10 dc10 pm10 an10 cd10 ct10), sl10⟩) (c10 : PySem.W.codeIn K cd10 "_law_same" = true) (k10 : PySem.W.keepIn K (.ref f10) = true) (a11 : PySem.W.nsIn K mainGlobals "_law_masters" = some (some (.ref f11))) (l11 : K.lookup f11 = some ⟨oc11, od11, .func (PySem.W.fnOf "_law_masters" "_law_masters" (defArgs s__law_masters) (defBody s__law_masters) (defScope s__law_masters) .none kV11 dc11 pm11 an11 cd11 ct11), sl11⟩) (c11 : PySem.W.codeIn K cd11 "_law_masters" = true) (k11 : PySem.W.keepIn K (.ref f11) = true) (a12 : PySem.W.nsIn K mainGlobals "_law_moves" = some (some (.ref f12))) (l12 : K.lookup f12 = some ⟨oc12, od12, .func (PySem.W.fnOf "_law_moves" "_law_moves" (defArgs s__law_moves) (defBody s__law_moves) (defScope s__law_moves) .none kV12 dc12 pm12 an12 cd12 ct12), sl12⟩) (c12 : PySem.W.codeIn K cd12 "_law_moves" = true) (k12 : PySem.W.keepIn K (.ref f12) = true) (a13 : PySem.W.nsIn K mainGlobals "_law_updated" = some (some (.ref f13))) (l13 : K.lookup f13 = some ⟨oc13, od13, .func (PySem.W.fnOf "_law_updated" "_law_updated" (defArgs s__law_updated) (defBody s__law_updated) (defScope s__law_updated) .none kV13 dc13 pm13 an13 cd13 ct13), sl13⟩) (c13 : PySem.W.codeIn K cd13 "_law_updated" = true) (k13 : PySem.W.keepIn K (.ref f13) = true) (a14 : PySem.W.nsIn K mainGlobals "law" = some (some (.ref f14))) (l14 : K.lookup f14 = some ⟨oc14, od14, .func (PySem.W.fnOf "law" "law" (defArgs s_law) (defBody s_law) (defScope s_law) .none kV14 dc14 pm14 an14 cd14 ct14), sl14⟩) (c14 : PySem.W.codeIn K cd14 "law" = true) (k14 : PySem.W.keepIn K (.ref f14) = true) (z0 : PySem.W.nsIn K mainGlobals "len" = some none) (z1 : PySem.W.nsIn K mainGlobals "isinstance" = some none) (z2 : PySem.W.nsIn K mainGlobals "tuple" = some none) (z3 : PySem.W.nsIn K mainGlobals "list" = some none) (z4 : PySem.W.nsIn K mainGlobals "int" = some none) (z5 : PySem.W.nsIn K mainGlobals "bool" = some none) (z6 : PySem.W.nsIn K mainGlobals "str" = some none) (z7 : PySem.W.nsIn K mainGlobals "all" = some none) (z8 : PySem.W.nsIn K mainGlobals "any" = some none) (z9 : PySem.W.nsIn K mainGlobals "sum" = some none) (z10 : PySem.W.nsIn K mainGlobals "min" = some none) (z11 : PySem.W.nsIn K mainGlobals "max" = some none) (z12 : PySem.W.nsIn K mainGlobals "range" = some none) (z13 : PySem.W.nsIn K mainGlobals "enumerate" = some none) (z14 : PySem.W.nsIn K mainGlobals "zip" = some none) (z15 : PySem.W.nsIn K mainGlobals "sorted" = some none) (z16 : PySem.W.nsIn K mainGlobals "set" = some none) (z17 : PySem.W.nsIn K mainGlobals "dict" = some none) (n0 : PySem.W.nsIn K mainGlobals "MOST_ROWS" = some (some (.int 60 t0))) (n1 : PySem.W.nsIn K mainGlobals "MOST_NUMBER" = some (some (.int 999 t1))) (mT0 : PySem.W.nsIn K mainGlobals "MOVES" = some (some (.ref aT0))) (lT0 : K.lookup aT0 = some ⟨.type "tuple", odT0, .seq #[.str "add" uT0_1, .str "drop" uT0_2, .str "set" uT0_3] nT0, slT0⟩) (tb0 : PySem.W.tabIn K "check_masters" = some (tc0, tp0)) :
    ∀ base : Heap, K.In base → base.Ns mainGlobals mg → LamB K mg base → Fn3 l.prog w K mg base 9 "law" sp_law := by
  have T : Txt w K mg (fun i => [t0, t1].getD i 0) (fun i => [aT0].getD i 0) := ⟨PySem.W.mg_none_of X G z0, PySem.W.mg_none_of X G z1, PySem.W.mg_none_of X G z2, PySem.W.mg_none_of X G z3, PySem.W.mg_none_of X G z4, PySem.W.mg_none_of X G z5, PySem.W.mg_none_of X G z6, PySem.W.mg_none_of X G z7, PySem.W.mg_none_of X G z8, PySem.W.mg_none_of X G z9, PySem.W.mg_none_of X G z10, PySem.W.mg_none_of X G z11, PySem.W.mg_none_of X G z12, PySem.W.mg_none_of X G z13, PySem.W.mg_none_of X G z14, PySem.W.mg_none_of X G z15, PySem.W.mg_none_of X G z16, PySem.W.mg_none_of X G z17, PySem.W.mg_of X G n0, PySem.W.mg_of X G n1, PySem.W.mg_of X G mT0, rep_words [("add", uT0_1), ("drop", uT0_2), ("set", uT0_3)] (by simp) lT0⟩
  intro base kb nb B
  have F_is_number : Fn3 l.prog w K mg base 2 "is_number" sp_is_number := ok_is_number T (fun_mk (st := s_is_number) l0 c0 k0) (PySem.W.mg_of X G a0)
  have F_is_tuple_of : Fn3 l.prog w K mg base 2 "is_tuple_of" sp_is_tuple_of := ok_is_tuple_of T (fun_mk (st := s_is_tuple_of) l1 c1 k1) (PySem.W.mg_of X G a1)
  have F_is_row : Fn3 l.prog w K mg base 3 "is_row" sp_is_row := ok_is_row T (fun_mk (st := s_is_row) l2 c2 k2) (PySem.W.mg_of X G a2) (F_is_number) (F_is_tuple_of)
  have F_check_each_row : Fn3C l.prog w K mg base 5 6 "check_each_row" sp_check_each_row := ok_check_each_row T (fun_mk (st := s_check_each_row) l3 c3 k3) (PySem.W.mg_of X G a3)
  have F_check_masters : Fn3 l.prog w K mg base 7 "check_masters" sp_check_masters := ok_check_masters T (fun_mk (st := s_check_masters) l4 c4 k4) (PySem.W.mg_of X G a4) tb0 (code_is (fun_mk (st := s_check_masters) l4 c4 k4) tb0 a4) B (F_is_row) (F_check_each_row)
  have F_is_move : Fn3 l.prog w K mg base 3 "is_move" sp_is_move := ok_is_move T (fun_mk (st := s_is_move) l5 c5 k5) (PySem.W.mg_of X G a5) (F_is_number) (F_is_tuple_of)
  have F_check_moves : Fn3 l.prog w K mg base 4 "check_moves" sp_check_moves := ok_check_moves T (fun_mk (st := s_check_moves) l6 c6 k6) (PySem.W.mg_of X G a6) (F_is_move)
  have F_updated : Fn3 l.prog w K mg base 8 "updated" sp_updated := ok_updated T (fun_mk (st := s_updated) l7 c7 k7) (PySem.W.mg_of X G a7) (F_check_masters) (F_check_moves)
  have F__law_start : Fn3 l.prog w K mg base 2 "_law_start" sp__law_start := ok__law_start T (fun_mk (st := s__law_start) l8 c8 k8) (PySem.W.mg_of X G a8)
  have F__law_drawn : Fn3 l.prog w K mg base 2 "_law_drawn" sp__law_drawn := ok__law_drawn T (fun_mk (st := s__law_drawn) l9 c9 k9) (PySem.W.mg_of X G a9)
  have F__law_same : ∀ j, Fn3 l.prog w K mg base (2 + j) "_law_same" (sp__law_same j) := ok__law_same T (fun_mk (st := s__law_same) l10 c10 k10) (PySem.W.mg_of X G a10)
  have F__law_masters : Fn3 l.prog w K mg base 3 "_law_masters" sp__law_masters := ok__law_masters T (fun_mk (st := s__law_masters) l11 c11 k11) (PySem.W.mg_of X G a11) (F__law_drawn)
  have F__law_moves : Fn3 l.prog w K mg base 3 "_law_moves" sp__law_moves := ok__law_moves T (fun_mk (st := s__law_moves) l12 c12 k12) (PySem.W.mg_of X G a12) (F__law_drawn)
  have F__law_updated : Fn3 l.prog w K mg base 3 "_law_updated" sp__law_updated := ok__law_updated T (fun_mk (st := s__law_updated) l13 c13 k13) (PySem.W.mg_of X G a13)
  have F_law : Fn3 l.prog w K mg base 9 "law" sp_law := ok_law T (fun_mk (st := s_law) l14 c14 k14) (PySem.W.mg_of X G a14) (F_updated) (F__law_start) (F__law_drawn) (F__law_same 3) (F__law_masters) (F__law_moves) (F__law_updated)
  exact F_law
theorem walk {l : PySem.W.OpenLaw} {q : Program} {loose : List Str} {XP : (Str → Option Value) → Heap → Prop} {YP : World → Heap → Prop} {d : DefRec} {K : Params → PySem.W.Frag} {ts : List Addr} (hn : l.most = some 63) (hdf : d.params.defaults = []) (hdn : d.name = "law")
    (hY : ∀ (w : World) (h : Heap), YP w h → (K w.params).In h ∧ ∀ P ∈ ts, h.get? P = some (PySem.W.tabObj #[])) (hK : ∀ P : Params, tabsAll (K P) ts = true ∧ PySem.W.noTabs (K P) = true ∧ decide ((tabsOf (K P)).map (·.2)).Nodup = true)
    (F : ∀ (w : World) (mg : Str → Option Value) (fa : Addr) (h : Heap), (K w.params).In h → h.Ns mainGlobals mg → mg "law" = some (.ref fa) → ∀ base : Heap, (K w.params).In base → base.Ns mainGlobals mg → LamB (K w.params) mg base → Fn3 l.prog w (K w.params) mg base 9 "law" sp_law) :
    PySem.W.WalkO q loose XP YP l.row.toRowW d [] (fun f vs => PySem.call f vs) :=
  walk4 (n := 63) (k := 9) (sp := sp_law) hn (by decide) hdf ⟨rfl, by decide, by decide⟩ hY hK (by rw [hdn]; exact F) (fun ns _ => ⟨ns, rfl, rfl, fun _ => rfl⟩)
end Br
open PySem PySem.W PyProof.Rows
set_option maxRecDepth 100000 in
set_option maxHeartbeats 0 in
open_top head for PySem.Challenge.rw_breakreports_k15_masters_brought_up_to_d
set_option maxRecDepth 100000 in
set_option maxHeartbeats 0 in
theorem PySem.Challenge.cw_breakreports_k15_masters_brought_up_to_d_holds : PySem.Challenge.rw_breakreports_k15_masters_brought_up_to_d.Holds :=
  head (by
  refine Br.walk (l := PySem.Challenge.rw_breakreports_k15_masters_brought_up_to_d) rfl rfl rfl (fun w h Y => ⟨PySem.W.km_in_of Y, PySem.W.km_tabs_of Y⟩) (fun P => ⟨by kernel_rfl, by kernel_rfl, by kernel_rfl⟩) ?F
  case F =>
    intro w mg fa h KX G hmg
    refine' Br.all_mk KX G hmg ?a0 ?l0 ?c0 ?k0 ?a1 ?l1 ?c1 ?k1 ?a2 ?l2 ?c2 ?k2 ?a3 ?l3 ?c3 ?k3 ?a4 ?l4 ?c4 ?k4 ?a5 ?l5 ?c5 ?k5 ?a6 ?l6 ?c6 ?k6 ?a7 ?l7 ?c7 ?k7 ?a8 ?l8 ?c8 ?k8 ?a9 ?l9 ?c9 ?k9 ?a10 ?l10 ?c10 ?k10 ?a11 ?l11 ?c11 ?k11 ?a12 ?l12 ?c12 ?k12 ?a13 ?l13 ?c13 ?k13 ?a14 ?l14 ?c14 ?k14 ?z0 ?z1 ?z2 ?z3 ?z4 ?z5 ?z6 ?z7 ?z8 ?z9 ?z10 ?z11 ?z12 ?z13 ?z14 ?z15 ?z16 ?z17 ?n0 ?n1 ?mT0 ?lT0  ?tb0
    (case a0 => k_is)
    (case l0 => k_is)
    (case c0 => k_is)
    (case k0 => k_is)
    (case a1 => k_is)
    (case l1 => k_is)
    (case c1 => k_is)
    (case k1 => k_is)
    (case a2 => k_is)
    (case l2 => k_is)
    (case c2 => k_is)
    (case k2 => k_is)
    (case a3 => k_is)
    (case l3 => k_is)
    (case c3 => k_is)
    (case k3 => k_is)
    (case a4 => k_is)
    (case l4 => k_is)
    (case c4 => k_is)
    (case k4 => k_is)
    (case a5 => k_is)
    (case l5 => k_is)
    (case c5 => k_is)
    (case k5 => k_is)
    (case a6 => k_is)
    (case l6 => k_is)
    (case c6 => k_is)
    (case k6 => k_is)
    (case a7 => k_is)
    (case l7 => k_is)
    (case c7 => k_is)
    (case k7 => k_is)
    (case a8 => k_is)
    (case l8 => k_is)
    (case c8 => k_is)
    (case k8 => k_is)
    (case a9 => k_is)
    (case l9 => k_is)
    (case c9 => k_is)
    (case k9 => k_is)
    (case a10 => k_is)
    (case l10 => k_is)
    (case c10 => k_is)
    (case k10 => k_is)
    (case a11 => k_is)
    (case l11 => k_is)
    (case c11 => k_is)
    (case k11 => k_is)
    (case a12 => k_is)
    (case l12 => k_is)
    (case c12 => k_is)
    (case k12 => k_is)
    (case a13 => k_is)
    (case l13 => k_is)
    (case c13 => k_is)
    (case k13 => k_is)
    (case a14 => k_is)
    (case l14 => k_is)
    (case c14 => k_is)
    (case k14 => k_is)
    (case z0 => k_is)
    (case z1 => k_is)
    (case z2 => k_is)
    (case z3 => k_is)
    (case z4 => k_is)
    (case z5 => k_is)
    (case z6 => k_is)
    (case z7 => k_is)
    (case z8 => k_is)
    (case z9 => k_is)
    (case z10 => k_is)
    (case z11 => k_is)
    (case z12 => k_is)
    (case z13 => k_is)
    (case z14 => k_is)
    (case z15 => k_is)
    (case z16 => k_is)
    (case z17 => k_is)
    (case n0 => k_is)
    (case n1 => k_is)
    (case mT0 => k_is)
    (case lT0 => k_is)
    (case tb0 => rfl))
