import PyProof.Rows.All
import Wide.All
import OpenK.AllK
import Wide.FinOn
import PyProof.EqAt
import PyProof.EqKinds
import PyProof.TupleCall
import KE.BitLaws
import KE.IntBitsLaws
import KE.LcSums
import Open.SpecLaws
import KE.OsHead
import KE.OsGo
import PyFlatLaws
import PySz28
import PySem.Challenge.RW_greatkeys_s01_answers
section
set_option Elab.async false
set_option linter.all false
set_option maxRecDepth 100000
namespace L2
open PySem PySem.Spec PyProof.Rows
abbrev Key := Sum Int Str
def keyIs : Key → Value → Bool
  | .inl k, v => Value.isInt k v
  | .inr x, v => Value.isStrOf x v
def keyH (w : World) : Key → Int
  | .inl k => hashInt k
  | .inr x => hashStr w x
theorem keyIs_shape : ∀ {k : Key} {v : Value}, keyIs k v = true → (∃ i t, k = Sum.inl i ∧ v = Value.int i t) ∨ (∃ x t, k = Sum.inr x ∧ v = Value.str x t)
  | .inl i, v, h => by
    obtain ⟨t, e⟩ := Value.isInt_shape (k := i) (v := v) h
    exact .inl ⟨i, t, rfl, e⟩
  | .inr x, v, h => by
    obtain ⟨t, e⟩ := Value.isStrOf_shape (x := x) (v := v) h
    exact .inr ⟨x, t, rfl, e⟩
theorem keyIs_int (i : Int) (t : Tok) : keyIs (.inl i) (.int i t) = true := by simp [keyIs, Value.isInt]
theorem keyIs_str (x : Str) (t : Tok) : keyIs (.inr x) (.str x t) = true := by simp [keyIs, Value.isStrOf]
theorem key_ll (a b : Int) : decide ((Sum.inl a : Key) = Sum.inl b) = (a == b) := by
  by_cases e : a = b
  · subst e; simp
  · have h : ¬ (Sum.inl a : Key) = Sum.inl b := fun q => e (Sum.inl.inj q)
    rw [decide_eq_false h]
    exact (beq_eq_false_iff_ne.mpr e).symm
theorem key_rr (a b : Str) : decide ((Sum.inr a : Key) = Sum.inr b) = decide (a = b) := by
  by_cases e : a = b
  · subst e; simp
  · have h : ¬ (Sum.inr a : Key) = Sum.inr b := fun q => e (Sum.inr.inj q)
    rw [decide_eq_false h, decide_eq_false e]
theorem key_lr (a : Int) (b : Str) : decide ((Sum.inl a : Key) = Sum.inr b) = false := decide_eq_false (fun q => nomatch q)
theorem key_rl (a : Str) (b : Int) : decide ((Sum.inr a : Key) = Sum.inl b) = false := decide_eq_false (fun q => nomatch q)
def mixKind (prog : Program) (w : World) : PySem.KeyKind prog w Key where
  is := keyIs
  hash := keyH w
  inj := fun v a b ha hb => by
    rcases keyIs_shape ha with ⟨i, t, rfl, rfl⟩ | ⟨x, t, rfl, rfl⟩
    · rcases keyIs_shape hb with ⟨j, u, rfl, e⟩ | ⟨y, u, rfl, e⟩
      · injection e with e1 _; rw [e1]
      · exact nomatch e
    · rcases keyIs_shape hb with ⟨j, u, rfl, e⟩ | ⟨y, u, rfl, e⟩
      · exact nomatch e
      · injection e with e1 _; rw [e1]
  byValue := fun k v h => by
    rcases keyIs_shape h with ⟨i, t, rfl, rfl⟩ | ⟨x, t, rfl, rfl⟩ <;> rfl
  pyHash := fun hv h => by
    rcases keyIs_shape hv with ⟨i, t, rfl, rfl⟩ | ⟨x, t, rfl, rfl⟩
    · exact wpAny_pyHash_int h
    · exact wpAny_pyHash_str h
  eqBool := fun hu hv h => by
    rcases keyIs_shape hu with ⟨i, t, rfl, rfl⟩ | ⟨x, t, rfl, rfl⟩
    · rcases keyIs_shape hv with ⟨j, u, rfl, rfl⟩ | ⟨y, u, rfl, rfl⟩
      · rw [key_ll] at h; exact wpAny_eqBool_int h
      · rw [key_lr] at h; exact SeqAt.EqAt.int_str i t y u _ _ _ _ h
    · rcases keyIs_shape hv with ⟨j, u, rfl, rfl⟩ | ⟨y, u, rfl, rfl⟩
      · rw [key_rl] at h; exact SeqAt.EqAt.str_int x t j u _ _ _ _ h
      · rw [key_rr] at h; exact wpAny_eqBool_str h
  «strs» := fun k x t v h => by
    rcases keyIs_shape h with ⟨i, u, rfl, e⟩ | ⟨y, u, rfl, e⟩
    · exact nomatch e
    · injection e with e1 _
      subst e1
      cases v <;> rfl
theorem mixKind_int (prog : Program) (w : World) (i : Int) (t : Tok) : (mixKind prog w).is (.inl i) (.int i t) = true := keyIs_int i t
theorem mixKind_str (prog : Program) (w : World) (x : Str) (t : Tok) : (mixKind prog w).is (.inr x) (.str x t) = true := keyIs_str x t
end L2
namespace L2
open PySem PySem.Spec PyProof.Rows
inductive V where
  | non | bl (b : Bool) | int (i : Int) | str (x : Str) | byt (b : Array UInt8) | flt (b : UInt64) | ref (a : Addr) | ty (n : String)
  deriving DecidableEq
def RelV : V → Value → Prop
  | .non, u => u = Value.none
  | .bl b, u => u = Value.bool b
  | .int i, u => ∃ t, u = Value.int i t
  | .str x, u => ∃ t, u = Value.str x t
  | .byt b, u => ∃ t, u = Value.bytes b t
  | .flt b, u => ∃ t, u = Value.float b t
  | .ref a, u => u = Value.ref a
  | .ty n, u => u = Value.type n
abbrev Vals : List V → List Value → Prop := Paired RelV
theorem Vals.length {xs : List V} {us : List Value} (r : Vals xs us) : xs.length = us.length := Paired.length r
theorem Vals.get : ∀ {xs : List V} {us : List Value} {i : Nat} {x : V}, Vals xs us → xs[i]? = some x → ∃ u, us[i]? = some u ∧ RelV x u
  | _, _, _, _, .nil, e => by simp at e
  | _, _, 0, _, .cons r _, e => by simp at e; subst e; exact ⟨_, rfl, r⟩
  | _, _, i + 1, x, .cons _ t, e => by
    obtain ⟨u, h1, h2⟩ := Vals.get (i := i) (x := x) t (by simpa using e)
    exact ⟨u, by simpa using h1, h2⟩
theorem Vals.set {x : V} {u : Value} (r : RelV x u) : ∀ {xs : List V} {us : List Value} (i : Nat), Vals xs us → Vals (xs.set i x) (us.set i u)
  | _, _, _, .nil => .nil
  | _, _, 0, .cons _ t => .cons r t
  | _, _, i + 1, .cons q t => .cons q (Vals.set r i t)
theorem Vals.append : ∀ {xs ys : List V} {us ws : List Value}, Vals xs us → Vals ys ws → Vals (xs ++ ys) (us ++ ws)
  | _, _, _, _, .nil, s => s
  | _, _, _, _, .cons r t, s => .cons r (Vals.append t s)
theorem Vals.take : ∀ {xs : List V} {us : List Value} (n : Nat), Vals xs us → Vals (xs.take n) (us.take n)
  | _, _, 0, _ => .nil
  | _, _, _ + 1, .nil => .nil
  | _, _, n + 1, .cons r t => .cons r (Vals.take n t)
theorem Vals.drop : ∀ {xs : List V} {us : List Value} (n : Nat), Vals xs us → Vals (xs.drop n) (us.drop n)
  | _, _, 0, r => r
  | _, _, _ + 1, .nil => .nil
  | _, _, n + 1, .cons _ t => Vals.drop n t
theorem Vals.none_of : ∀ {xs : List V} {us : List Value} {i : Nat}, Vals xs us → xs[i]? = none → us[i]? = none := fun {xs us i} r e => by
  have h1 := r.length
  have h2 : xs.length ≤ i := List.getElem?_eq_none_iff.mp e
  exact List.getElem?_eq_none_iff.mpr (by omega)
def RelO : Option V → Option Value → Prop
  | some v, some u => RelV v u
  | none, none => True
  | _, _ => False
def KV {κ : Type} : List (κ × V) → List (κ × Value) → Prop := Paired fun (p : κ × V) (q : κ × Value) => p.1 = q.1 ∧ RelV p.2 q.2
def kV : Key → V
  | .inl i => .int i
  | .inr x => .str x
inductive HO where
  /-- a list -/
  | lst (xs : List V)
  /-- a tuple (never changes) -/
  | tup (xs : List V)
  /-- a dict whose keys are ints and texts; one whose keys are tuples of ints and texts (the empty one is both) -/
  | dK (kvs : List (Key × V)) | dT (kvs : List (List Key × V))
  /-- a set of ints: its members, its size -/
  | set (S : Int → Bool) (n : Nat)
  /-- an instance of the class at C, its dict at dx, its attributes -/
  | ins (C dx : Addr) (fs : List (Str × V))
  /-- the dict of the instance at x -/
  | own (x : Addr)
  /-- the dict of an exception -/
  | xd (fs : List (Str × V))
  /-- a bound method, f of x -/
  | met (f x : Addr)
  /-- a range object lo, lo + 1, .. below hi -/
  | rng (lo hi : Int)
  /-- a thing that is known to the object (the script; a dict while a loop walks it): read, never written while it is so -/
  | frz (o : Obj) (u : HO)
  /-- a code object's table -/
  | tbl (ps : Array Value)
  /-- any other thing, by what is true of its one object (a def of one's own: SetO a S n := HO.ext fun h => ..) -/
  | ext (φ : Heap → Prop)
abbrev Hp := Addr → Option HO
def upd (H : Hp) (a : Addr) (o : HO) : Hp := fun b => if b = a then some o else H b
theorem upd_same {H : Hp} {a : Addr} {o : HO} : upd H a o a = some o := by unfold upd; rw [if_pos rfl]
theorem upd_ne {H : Hp} {a b : Addr} {o : HO} (h : b ≠ a) : upd H a o b = H b := by unfold upd; rw [if_neg h]
theorem upd_upd {H : Hp} {a : Addr} {o u : HO} : upd (upd H a o) a u = upd H a u := by
  funext b; unfold upd; split <;> rfl
theorem ne_of {H : Hp} {a b : Addr} {o u : HO} (h : H a = some o) (h' : H b = some u) (d : o ≠ u) : a ≠ b := by
  intro e; subst e; rw [h] at h'; exact d (Option.some.inj h')
theorem ne_of_none {H : Hp} {a b : Addr} {o : HO} (h : H a = some o) (h' : H b = none) : a ≠ b := by
  intro e; subst e; rw [h] at h'; cases h'
section
variable (P : Program) (w : World)
def ObjOk (H : Hp) (h : Heap) (a : Addr) : HO → Prop
  | .lst xs => xs.length ≤ sizeLine ∧ ∃ (its : List Value) (n : Nat), Vals xs its ∧ h.get? a = some { cls := .type "list", data := .seq its.toArray n }
  | .tup xs => xs.length ≤ sizeLine ∧ ∃ its : List Value, Vals xs its ∧ IsTup h a its.toArray
  | .dK kvs => kvs.length ≤ sizeLine ∧ (a == sysModules) = false ∧ ∃ vs, KV kvs vs ∧ h.DictOf (mixKind P w) a vs
  | .dT kvs => kvs.length ≤ sizeLine ∧ (a == sysModules) = false ∧ ∃ xs : List (List Key × Addr × Value),
      Paired (fun (p : List Key × V) (q : List Key × Addr × Value) => p.1 = q.1 ∧ H q.2.1 = some (.tup (p.1.map kV)) ∧ RelV p.2 q.2.2) kvs xs ∧
      ∃ o es ep, h.get? a = some o ∧ o.ExactDict ∧ o.data = .dict es ep ∧ es.toList = xs.map (entryOfKey (tupleKind (mixKind P w))) ∧ (xs.map (·.1)).Nodup
  | .set S n => h.SetOf (intKind P w) a S n
  | .ins C dx fs => H dx = some (.own a) ∧ fs.length ≤ 1000 ∧ dx ≠ a ∧ h.get? a = some (PySem.W.instObj C dx) ∧
      ∃ mA, h.Ns1 dx mA ∧ (∀ f, RelO (fs.lookup f) (mA f)) ∧ PySem.Within mA (fs.map (·.1))
  | .own _ => ∃ o, h.get? a = some o
  | .xd fs => ∃ mA, h.Ns1 a mA ∧ ∀ f, RelO (fs.lookup f) (mA f)
  | .rng lo hi => ∃ t u v, h.get? a = some { cls := .type "range", data := .fields #[.int lo t, .int hi u, .int 1 v] }
  | .frz o u => h.get? a = some o ∧ ObjOk H h a u
  | .tbl ps => h.get? a = some { cls := .none, data := .fields ps }
  | .met f x => h.get? a = some (PySem.W.methodObj (.ref f) (.ref x))
  | .ext φ => φ h ∧ (∃ o, h.get? a = some o) ∧ ∀ h1 h2 : Heap, φ h1 → (∀ o, h1.get? a = some o → h2.get? a = some o) → φ h2
def HOk (H : Hp) (h : Heap) : Prop := ∀ a o, H a = some o → ObjOk P w H h a o
end
section
variable {P : Program} {w : World} {H H' : Hp} {h h' : Heap} {a : Addr} {o : HO}
theorem ObjOk.lt (x : ObjOk P w H h a o) : a < h.objs.size := by
  cases o with
  | lst xs => obtain ⟨_, _, _, _, e⟩ := x; exact Heap.lt_size e
  | tup xs => obtain ⟨_, _, _, p⟩ := x; exact p.lt
  | dK kvs => obtain ⟨_, _, _, _, o, _, _, e, _⟩ := x; exact Heap.lt_size e
  | dT kvs => obtain ⟨_, _, _, _, o, _, _, e, _⟩ := x; exact Heap.lt_size e
  | set S n => obtain ⟨o, _, _, _, e, _⟩ := x; exact Heap.lt_size e
  | ins C dx fs => obtain ⟨_, _, _, e, _⟩ := x; exact Heap.lt_size e
  | own y => obtain ⟨_, e⟩ := x; exact Heap.lt_size e
  | xd fs => obtain ⟨_, ⟨_, _, _, e, _⟩, _⟩ := x; exact Heap.lt_size e
  | rng lo hi => obtain ⟨_, _, _, e⟩ := x; exact Heap.lt_size e
  | frz ob u => obtain ⟨e, _⟩ := x; exact Heap.lt_size e
  | tbl ps => exact Heap.lt_size (show h.get? a = some _ from x)
  | met f y => exact Heap.lt_size (show h.get? a = some _ from x)
  | ext φ => obtain ⟨_, ⟨_, e⟩, _⟩ := x; exact Heap.lt_size e
theorem Paired.mapP {α β : Type} {F G : α → β → Prop} : ∀ {l₁ : List α} {l₂ : List β}, Paired F l₁ l₂ → (∀ a b, F a b → G a b) → Paired G l₁ l₂
  | _, _, .nil, _ => .nil
  | _, _, .cons r t, f => .cons (f _ _ r) (Paired.mapP t f)
theorem ObjOk.stay (x : ObjOk P w H h a o) (k : ∀ b u, (b = a ∨ H b = some (.own a)) → h.get? b = some u → h'.get? b = some u)
    (ho : ∀ b, H b = some (.own a) → H' b = some (.own a)) (ht : ∀ b xs, H b = some (.tup xs) → H' b = some (.tup xs)) : ObjOk P w H' h' a o := by
  induction o with
  | lst xs => obtain ⟨z, its, n, r, e⟩ := x; exact ⟨z, its, n, r, k _ _ (.inl rfl) e⟩
  | tup xs => obtain ⟨z, its, r, ob, e, c⟩ := x; exact ⟨z, its, r, ob, k _ _ (.inl rfl) e, c⟩
  | dK kvs => obtain ⟨z, y, vs, r, ob, es, ep, e, c⟩ := x; exact ⟨z, y, vs, r, ob, es, ep, k _ _ (.inl rfl) e, c⟩
  | dT kvs =>
    obtain ⟨z, y, xs, r, ob, es, ep, e, c⟩ := x
    exact ⟨z, y, xs, Paired.mapP r fun p q z => ⟨z.1, ht _ _ z.2.1, z.2.2⟩, ob, es, ep, k _ _ (.inl rfl) e, c⟩
  | set S n => obtain ⟨ob, es, ep, t, e, c⟩ := x; exact ⟨ob, es, ep, t, k _ _ (.inl rfl) e, c⟩
  | ins C dx fs =>
    obtain ⟨d, z, ne, e, mA, ⟨od, es, ep, e2, c⟩, r⟩ := x
    exact ⟨ho _ d, z, ne, k _ _ (.inl rfl) e, mA, ⟨od, es, ep, k _ _ (.inr d) e2, c⟩, r⟩
  | own y => obtain ⟨ob, e⟩ := x; exact ⟨ob, k _ _ (.inl rfl) e⟩
  | xd fs => obtain ⟨mA, ⟨od, es, ep, e, c⟩, r⟩ := x; exact ⟨mA, ⟨od, es, ep, k _ _ (.inl rfl) e, c⟩, r⟩
  | rng lo hi => obtain ⟨t, u, v, e⟩ := x; exact ⟨t, u, v, k _ _ (.inl rfl) e⟩
  | frz ob u ih => obtain ⟨e, q⟩ := x; exact ⟨k _ _ (.inl rfl) e, ih q⟩
  | tbl ps =>
    have e : h.get? a = some { cls := .none, data := .fields ps } := x
    show h'.get? a = some { cls := .none, data := .fields ps }
    exact k a _ (.inl rfl) e
  | met f y =>
    have e : h.get? a = some (PySem.W.methodObj (.ref f) (.ref y)) := x
    show h'.get? a = some (PySem.W.methodObj (.ref f) (.ref y))
    exact k a _ (.inl rfl) e
  | ext φ => obtain ⟨p, ⟨o, e⟩, st⟩ := x; exact ⟨st _ _ p fun o q => k _ _ (.inl rfl) q, ⟨o, k _ _ (.inl rfl) e⟩, st⟩
theorem HOk.lt (x : HOk P w H h) (e : H a = some o) : a < h.objs.size := (x a o e).lt
theorem HOk.fresh (x : HOk P w H h) (e : h.objs.size ≤ a) : H a = none := by
  cases q : H a with
  | none => rfl
  | some u => exact absurd (Nat.lt_of_lt_of_le (x.lt q) e) (Nat.lt_irrefl _)
theorem HOk.kept (x : HOk P w H h) (k : ∀ b u, h.get? b = some u → h'.get? b = some u) : HOk P w H h' := fun a o e =>
  (x a o e).stay (fun b u _ q => k b u q) (fun _ q => q) fun _ _ q => q
theorem HOk.laid (x : HOk P w H h) (k : ∀ b u, h.get? b = some u → h'.get? b = some u) (hp : h.objs.size ≤ a) (new : ObjOk P w (upd H a o) h' a o) : HOk P w (upd H a o) h' := fun b u e => by
  have hn := x.fresh hp
  by_cases hb : b = a
  · subst hb; rw [upd_same] at e; cases e; exact new
  · rw [upd_ne hb] at e
    exact (x b u e).stay (fun c v _ q => k c v q) (fun c q => by rw [upd_ne (ne_of_none q hn)]; exact q) fun c xs q => by rw [upd_ne (ne_of_none q hn)]; exact q
end
def Rd (H : Hp) (a : Addr) (u : HO) : Prop := H a = some u ∨ ∃ o, H a = some (.frz o u)
theorem Rd.of {H : Hp} {a : Addr} {u : HO} (h : H a = some u) : Rd H a u := .inl h
theorem Rd.ok {P : Program} {w : World} {H : Hp} {h : Heap} {a : Addr} {u : HO} (r : Rd H a u) (x : HOk P w H h) : ObjOk P w H h a u := by
  rcases r with r | ⟨o, r⟩
  · exact x a u r
  · obtain ⟨_, q⟩ := x a _ r
    exact q
def Mut : Option HO → Prop
  | some (.lst _) => True
  | some (.dK _) => True
  | some (.dT _) => True
  | some (.set _ _) => True
  | some (.ins _ _ _) => True
  | some (.ext _) => True
  | _ => False
section
variable {P : Program} {w : World} {H : Hp} {h h' : Heap} {x e : Addr} {o' : HO}
theorem HOk.write (ok : HOk P w H h) (mu : Mut (H x)) (he : e = x ∨ H e = some (.own x)) (k : ∀ b u, b ≠ e → h.get? b = some u → h'.get? b = some u) (heo : ∃ u, h'.get? e = some u)
    (new : ObjOk P w (upd H x o') h' x o') : HOk P w (upd H x o') h' := fun b u q => by
  have nown : ∀ c y, H c = some (.own y) → c ≠ x := fun c y r z => by subst z; rw [r] at mu; exact mu
  have ntup : ∀ c xs, H c = some (.tup xs) → c ≠ x := fun c xs r z => by subst z; rw [r] at mu; exact mu
  by_cases hb : b = x
  · subst hb; rw [upd_same] at q; cases q; exact new
  · rw [upd_ne hb] at q
    by_cases hbe : b = e
    · have q' : H b = some (.own x) := by
        rcases he with z | z
        · exact absurd (hbe.trans z) hb
        · rw [hbe]; exact z
      rw [q] at q'; cases q'
      obtain ⟨v, hv⟩ := heo
      exact ⟨v, by rw [hbe]; exact hv⟩
    · refine (ok b u q).stay (fun c v hc r => k c v ?_ r) (fun c r => by rw [upd_ne (nown c b r)]; exact r) fun c xs r => by rw [upd_ne (ntup c xs r)]; exact r
      rcases hc with rfl | hc
      · exact hbe
      · rintro rfl
        rcases he with z | z
        · exact nown c b hc z
        · rw [hc] at z; cases z; exact hb rfl
end
structure Un (fs ex : List Addr) (H H' : Hp) (h h' : Heap) : Prop where
  keep : ∀ b o, h.get? b = some o → H b = none → b ∉ fs → b ∉ ex → h'.get? b = some o
  slot : ∀ b o, h.get? b = some o → H b = none → b ∈ fs → b ∉ ex → ∃ sl, h'.get? b = some { o with slots := sl }
  free : ∀ b o, h.get? b = some o → H b = none → b ∉ ex → H' b = none
  there : ∀ b o, h.get? b = some o → b ∉ ex → ∃ o', h'.get? b = some o'
  tups : ∀ b xs, H b = some (.tup xs) → H' b = some (.tup xs)
  frzs : ∀ b o u, H b = some (.frz o u) → H' b = some (.frz o u)
  tbls : ∀ b ps, H b = some (.tbl ps) → ∃ more, H' b = some (.tbl (ps ++ more))
section
variable {fs fs' ex ex' : List Addr} {H H1 H2 : Hp} {h h1 h2 h' : Heap} {a x e : Addr} {o : HO}
theorem Un.any (u : Un fs ex H H1 h h1) {b : Addr} {ob : Obj} (q : h.get? b = some ob) (n : H b = none) (hx : b ∉ ex) : ∃ sl, h1.get? b = some { ob with slots := sl } := by
  by_cases hb : b ∈ fs
  · exact u.slot b ob q n hb hx
  · exact ⟨ob.slots, u.keep b ob q n hb hx⟩
theorem Un.trans (a : Un fs ex H H1 h h1) (b : Un fs ex H1 H2 h1 h2) : Un fs ex H H2 h h2 where
  keep := fun c ob q n hc hx => b.keep c ob (a.keep c ob q n hc hx) (a.free c ob q n hx) hc hx
  slot := fun c ob q n hc hx => by
    obtain ⟨sl, e1⟩ := a.slot c ob q n hc hx
    obtain ⟨sl', e2⟩ := b.slot c _ e1 (a.free c ob q n hx) hc hx
    exact ⟨sl', e2⟩
  free := fun c ob q n hx => by
    obtain ⟨o', e1⟩ := a.there c ob q hx
    exact b.free c o' e1 (a.free c ob q n hx) hx
  there := fun c ob q hx => by
    obtain ⟨o', e1⟩ := a.there c ob q hx
    exact b.there c o' e1 hx
  tups := fun c xs q => b.tups c xs (a.tups c xs q)
  frzs := fun c ob xs q => b.frzs c ob xs (a.frzs c ob xs q)
  tbls := fun c ps q => by
    obtain ⟨m1, e1⟩ := a.tbls c ps q
    obtain ⟨m2, e2⟩ := b.tbls c _ e1
    exact ⟨m1 ++ m2, by rw [e2, Array.append_assoc]⟩
theorem Un.kept (k : ∀ b u, h.get? b = some u → h'.get? b = some u) : Un fs ex H H h h' :=
  ⟨fun b ob q _ _ _ => k b ob q, fun b ob q _ _ _ => ⟨ob.slots, k b ob q⟩, fun _ _ _ n _ => n, fun b ob q _ => ⟨ob, k b ob q⟩, fun _ _ q => q, fun _ _ _ q => q, fun _ ps q => ⟨#[], by rw [q]; simp⟩⟩
theorem Un.refl : Un fs ex H H h h := Un.kept fun _ _ q => q
theorem Un.laid (k : ∀ b u, h.get? b = some u → h'.get? b = some u) (hp : h.objs.size ≤ a) (hn : H a = none) : Un fs ex H (upd H a o) h h' where
  keep := fun b u q _ _ _ => k b u q
  slot := fun b u q _ _ _ => ⟨u.slots, k b u q⟩
  free := fun b u q n _ => by rw [upd_ne (Nat.ne_of_lt (Nat.lt_of_lt_of_le (Heap.lt_size q) hp))]; exact n
  there := fun b u q _ => ⟨u, k b u q⟩
  tups := fun b xs q => by rw [upd_ne (ne_of_none q hn)]; exact q
  frzs := fun b u xs q => by rw [upd_ne (ne_of_none q hn)]; exact q
  tbls := fun b ps q => ⟨#[], by rw [upd_ne (ne_of_none q hn), q]; simp⟩
theorem Un.write (mu : Mut (H x)) (he : e = x ∨ H e = some (.own x)) (k : ∀ b u, b ≠ e → h.get? b = some u → h'.get? b = some u) (heo : ∃ u, h'.get? e = some u) : Un fs ex H (upd H x o) h h' := by
  have hx : ∀ b, H b = none → b ≠ x := fun b n z => by subst z; rw [n] at mu; exact mu
  have hb : ∀ b, H b = none → b ≠ e := fun b n z => by
    subst z
    rcases he with r | r
    · exact hx b n r
    · rw [n] at r; cases r
  have hm : ∀ b u, H b = some u → ¬ Mut (some u) → b ≠ x := fun b u q nm z => by subst z; rw [q] at mu; exact nm mu
  refine ⟨fun b u q n _ _ => k b u (hb b n) q, fun b u q n _ _ => ⟨u.slots, k b u (hb b n) q⟩, fun b u q n _ => by rw [upd_ne (hx b n)]; exact n, fun b u q _ => ?_,
    fun b xs q => by rw [upd_ne (hm b _ q fun z => z)]; exact q, fun b u xs q => by rw [upd_ne (hm b _ q fun z => z)]; exact q, fun b ps q => ⟨#[], by rw [upd_ne (hm b _ q fun z => z), q]; simp⟩⟩
  by_cases hbe : b = e
  · subst hbe; exact heo
  · exact ⟨u, k b u hbe q⟩
theorem Un.mono (u : Un fs ex H H1 h h1) (hs : ∀ b ∈ fs, b ∈ fs') (hx : ∀ b ∈ ex, b ∈ ex') : Un fs' ex' H H1 h h1 :=
  ⟨fun b ob q n hb he => u.keep b ob q n (fun z => hb (hs b z)) fun z => he (hx b z), fun _ _ q n _ he => u.any q n fun z => he (hx _ z), fun b ob q n he => u.free b ob q n fun z => he (hx b z), fun b ob q he => u.there b ob q fun z => he (hx b z), u.tups, u.frzs, u.tbls⟩
end
def trk (h : Heap) (H : Hp) : List Addr := (List.range h.objs.size).filter fun a => (H a).isSome
def hidT (h : Heap) (H : Hp) : Heap := PySem.W.hideAll h (trk h H)
theorem hidT_size (h : Heap) (H : Hp) : (hidT h H).objs.size = h.objs.size := PySem.W.hideAll_size _ _
theorem hidT_get {h : Heap} {H : Hp} {b : Addr} {o : Obj} (e : h.get? b = some o) (n : H b = none) : (hidT h H).get? b = some o :=
  PySem.W.hideAll_get _ e fun hm => by
    have q : (H b).isSome = true := (List.mem_filter.mp hm).2
    rw [n] at q; simp at q
theorem of_hidT {h : Heap} {H : Hp} {b : Addr} {o : Obj} (e : (hidT h H).get? b = some o) : h.get? b = some o ∧ H b = none := by
  have e' : h.get? b = some o := PySem.W.of_hideAll (trk h H) e
  refine ⟨e', ?_⟩
  cases q : H b with
  | none => rfl
  | some x =>
    have hm : b ∈ trk h H := List.mem_filter.mpr ⟨List.mem_range.mpr (Heap.lt_size e'), by simp [q]⟩
    have z : (hidT h H).get? b = none := PySem.W.hideAll_none (trk h H) hm
    rw [z] at e; cases e
def allNews (g h : Heap) (L : Addr) : List (Addr × Obj) := (List.range h.objs.size).filterMap fun a => if a = L ∨ (g.get? a).isSome = true then none else (h.get? a).map fun o => (a, o)
def rest (g h : Heap) (L d : Addr) : List (Addr × Obj) := (allNews g h L).filter fun p => decide (p.1 ≠ d)
end L2
namespace L2
open PySem PySem.Spec PyProof.Rows
structure Mod (K : PySem.W.Frag) (mg : Str → Option Value) (base : Heap) : Prop where
  kin : K.In base
  glob : base.Ns mainGlobals mg
  blt : ∃ mb, base.Ns builtinsNs mb ∧ ∀ x : Str, x ≠ "__name__" → mb x = bootBuiltins x
  nolimit : base.NoLimit
structure Cx where
  prog : Program
  w : World
  K : PySem.W.Frag
  mg : Str → Option Value
  base : Heap
  A : Around
  N : List Str
  s_0 : Shared
  H_0 : Hp
  env : Env
  outer : List Env
  stack : List Env
  ex : List Addr
  fn : Str → Bool
  calm : Bool
  pn : List (Addr × Obj)
  xe : Value → Shared → Prop
def frs (l : List Env) : List Addr := l.filterMap (·.frame)
abbrev Cx.fs (X : Cx) : List Addr := frs X.outer
def Vis (sc : Scope) (x : Str) : Prop := sc.names.lookup x = some .local ∨ sc.names.lookup x = some .cell ∨ sc.names.lookup x = some .free
def Loc (sc : Scope) (x : Str) : Prop := sc.names.lookup x = some .local ∨ sc.names.lookup x = some .cell
def Look (env : Env) (h : Heap) (m : Str → Option Value) (x : Str) (u : Value) : Prop :=
  (env.kindOf x = some .local ∧ m x = some u) ∨ ((env.kindOf x = some .cell ∨ env.kindOf x = some .free) ∧ ∃ c, env.cells.lookup x = some c ∧ h.IsCell c (some u))
structure Cx.Ok (X : Cx) : Prop where
  mod : Mod X.K X.mg X.base
  kind : X.env.scope.kind = .function
  glob : X.env.globals = mainGlobals
  blt : X.env.builtins = builtinsNs
  above : X.s_0.heap.objs.size ≤ X.env.locals
  inj : ∀ x y c, X.env.cells.lookup x = some c → X.env.cells.lookup y = some c → x = y
  has : ∀ x, (X.env.kindOf x = some .cell ∨ X.env.kindOf x = some .free) → ∃ c, X.env.cells.lookup x = some c
  cab : ∀ x c, X.fn x = true → X.env.cells.lookup x = some c → X.s_0.heap.objs.size ≤ c
  hd : X.calm = true → X.A.handled = none
  frames : X.A.frames = some X.stack
  stk : X.stack = X.outer ∨ (X.stack = X.env :: X.outer ∧ X.env.frame = some X.env.locals)
  exf : ∀ b ∈ X.ex, b ≠ X.env.locals ∧ ∀ x c, X.env.cells.lookup x = some c → c ≠ b
  bs : ∀ b o, X.base.get? b = some o → X.s_0.heap.get? b = some o ∧ X.H_0 b = none
  bsz : X.base.objs.size ≤ X.s_0.heap.objs.size
  noex : ∀ b o, X.base.get? b = some o → b ∉ X.ex
  exfs : ∀ b ∈ X.ex, b ∉ X.fs
  funs : X.s_0.heap.FunFrames X.base X.outer
  frf : ∀ b ∈ X.fs, X.H_0 b = none
structure Inv (X : Cx) (pins : List (Addr × Obj)) (σ : List (Option V)) (H : Hp) (s : Shared) : Prop where
  ok : X.Ok
  os : s.os = X.s_0.os
  bare : AllBare s.gens
  base : Un X.fs X.ex X.H_0 H X.s_0.heap s.heap
  loc : ∃ m, s.heap.Ns X.env.locals m ∧ ∀ (i : Nat) (x : Str) (v : V), X.N[i]? = some x → σ[i]? = some (some v) → Vis X.env.scope x → ∃ u, RelV v u ∧ Look X.env s.heap m x u
  cell : ∀ x c, X.env.cells.lookup x = some c → ∃ v, s.heap.IsCell c v
  free : H X.env.locals = none
  freeC : ∀ x c, X.env.cells.lookup x = some c → H c = none
  pin : ∀ p ∈ X.pn ++ pins, s.heap.get? p.1 = some p.2 ∧ H p.1 = none ∧ p.1 ≠ X.env.locals ∧ p.1 ∉ X.fs ∧ ∀ v, p.2.data ≠ .cell v
  hok : HOk X.prog X.w H s.heap
  len : σ.length = X.N.length
section
variable {X : Cx} {pins : List (Addr × Obj)} {σ : List (Option V)} {H H' : Hp} {s : Shared} {h' : Heap}
theorem Cx.Ok.nofr (ok : X.Ok) {b : Addr} {o : Obj} (e : X.base.get? b = some o) : b ∉ X.fs := fun hb => by
  have := (ok.funs.mem hb).1
  rw [e] at this; cases this
theorem Inv.bs (I : Inv X pins σ H s) : ∀ b o, X.base.get? b = some o → s.heap.get? b = some o ∧ H b = none := fun b o e =>
  ⟨I.base.keep b o (I.ok.bs b o e).1 (I.ok.bs b o e).2 (I.ok.nofr e) (I.ok.noex b o e), I.base.free b o (I.ok.bs b o e).1 (I.ok.bs b o e).2 (I.ok.noex b o e)⟩
theorem Inv.bk (I : Inv X pins σ H s) : ∀ b o, X.base.get? b = some o → s.heap.get? b = some o := fun b o e => (I.bs b o e).1
theorem Inv.mod (I : Inv X pins σ H s) : Mod X.K X.mg X.base := I.ok.mod
theorem Inv.kIn (I : Inv X pins σ H s) : X.K.In s.heap := I.ok.mod.kin.keeps I.bk
theorem Inv.nolimit (I : Inv X pins σ H s) : s.heap.NoLimit := I.ok.mod.nolimit.keeps I.bk
theorem Inv.lt (I : Inv X pins σ H s) : X.env.locals < s.heap.objs.size := let ⟨_, hn, _⟩ := I.loc; hn.lt
theorem Inv.sz (I : Inv X pins σ H s) : X.s_0.heap.objs.size ≤ s.heap.objs.size := Nat.le_trans I.ok.above (Nat.le_of_lt I.lt)
theorem Inv.nofs (I : Inv X pins σ H s) {a : Addr} (h : s.heap.objs.size ≤ a) : a ∉ X.fs := fun hb => by
  obtain ⟨_, o, ho, _⟩ := I.ok.funs.mem hb
  exact absurd (Nat.lt_of_lt_of_le (Heap.lt_size ho) (Nat.le_trans I.sz h)) (Nat.lt_irrefl _)
theorem Inv.cne (I : Inv X pins σ H s) : ∀ x c, X.env.cells.lookup x = some c → c ≠ X.env.locals := fun x c e z => by
  obtain ⟨v, o, ho, hd⟩ := I.cell x c e
  obtain ⟨m, ⟨o', es, ep, ho', hd', _⟩, _⟩ := I.loc
  rw [z, ho'] at ho; cases ho; rw [hd'] at hd; cases hd
theorem Inv.funs (I : Inv X pins σ H s) : s.heap.FunFrames X.base X.outer := by
  have all : ∀ (l : List Env), (∀ b ∈ frs l, b ∈ X.fs) → X.s_0.heap.FunFrames X.base l → s.heap.FunFrames X.base l := by
    intro l
    induction l with
    | nil => intro _ _; trivial
    | cons env r ih =>
      intro hs hl
      obtain ⟨hk, ⟨L, o, hf, hn, ho, hd⟩, hr⟩ := hl
      have hL : L ∈ X.fs := hs L (by unfold frs; rw [List.filterMap_cons, hf]; exact List.mem_cons_self)
      obtain ⟨sl, e⟩ := I.base.slot L o ho (I.ok.frf L hL) hL fun z => I.ok.exfs L z hL
      exact ⟨hk, ⟨L, _, hf, hn, e, hd⟩, ih (fun b hb => hs b (by unfold frs; rw [List.filterMap_cons, hf]; exact List.mem_cons_of_mem _ hb)) hr⟩
  exact all X.outer (fun _ hb => hb) I.ok.funs
theorem Inv.stack (I : Inv X pins σ H s) : s.heap.FunFrames X.base X.stack := by
  rcases I.ok.stk with e | ⟨e, hf⟩
  · rw [e]; exact I.funs
  · rw [e]
    obtain ⟨m, hn, _⟩ := I.loc
    refine .cons (by rw [I.ok.kind]; decide) hf hn ?_ I.funs
    exact Heap.get?_none_of_le (Nat.le_trans I.ok.bsz I.ok.above)
theorem Inv.stkSub (I : Inv X pins σ H s) : ∀ b ∈ frs X.stack, b ∈ X.env.locals :: X.fs := fun b hb => by
  rcases I.ok.stk with e | ⟨e, hf⟩
  · rw [e] at hb; exact List.mem_cons_of_mem _ hb
  · rw [e] at hb
    unfold frs at hb
    rw [List.filterMap_cons, hf] at hb
    exact hb
theorem Inv.stkFree (I : Inv X pins σ H s) : ∀ b ∈ frs X.stack, H b = none := fun b hb => by
  rcases List.mem_cons.mp (I.stkSub b hb) with e | hb
  · rw [e]; exact I.free
  · obtain ⟨_, o, ho, _⟩ := I.ok.funs.mem hb
    exact I.base.free b o ho (I.ok.frf b hb) fun z => I.ok.exfs b z hb
theorem Inv.step {g' : Array GenState} {t' : Nat} {d' : Drawn} {ch : List Addr} (I : Inv X pins σ H s)
    (hch : ∀ b ∈ ch, (b ∈ X.ex ∨ X.s_0.heap.objs.size ≤ b) ∧ b ≠ X.env.locals ∧ (∀ x c, X.env.cells.lookup x = some c → c ≠ b) ∧ ∀ p ∈ X.pn ++ pins, p.1 ≠ b)
    (keep : ∀ b o, b ≠ X.env.locals → b ∉ X.fs → b ∉ ch → s.heap.get? b = some o → H b = none → h'.get? b = some o)
    (slot : ∀ b o, b ≠ X.env.locals → b ∈ X.fs → b ∉ ch → s.heap.get? b = some o → H b = none → ∃ sl, h'.get? b = some { o with slots := sl }) (free : ∀ b o, b ∉ ch → s.heap.get? b = some o → H b = none → H' b = none)
    (there : ∀ b o, b ∉ ch → s.heap.get? b = some o → ∃ o', h'.get? b = some o')
    (tups : ∀ b xs, H b = some (.tup xs) → H' b = some (.tup xs)) (frzs : ∀ b o u, H b = some (.frz o u) → H' b = some (.frz o u)) (tbls : ∀ b ps, H b = some (.tbl ps) → ∃ more, H' b = some (.tbl (ps ++ more)))
    (ns : ∀ m, s.heap.Ns X.env.locals m → h'.Ns X.env.locals m) (hok : HOk X.prog X.w H' h') (hg : AllBare g') :
    Inv X pins σ H' { s with heap := h', gens := g', drawn := d', toks := t' } := by
  have neL : ∀ b o, X.s_0.heap.get? b = some o → b ≠ X.env.locals := fun b o e => Nat.ne_of_lt (Nat.lt_of_lt_of_le (Heap.lt_size e) I.ok.above)
  have neC : ∀ b o, X.s_0.heap.get? b = some o → b ∉ X.ex → b ∉ ch := fun b o e hx hb => by
    rcases (hch b hb).1 with z | z
    · exact hx z
    · exact absurd (Nat.lt_of_lt_of_le (Heap.lt_size e) z) (Nat.lt_irrefl _)
  have cellK : ∀ x c, X.env.cells.lookup x = some c → ∀ v, s.heap.IsCell c v → h'.IsCell c v := fun x c e v ⟨o, ho, hd⟩ => by
    have nch : c ∉ ch := fun z => (hch c z).2.2.1 x c e rfl
    by_cases hc : c ∈ X.fs
    · obtain ⟨sl, q⟩ := slot c o (I.cne x c e) hc nch ho (I.freeC x c e)
      exact ⟨_, q, hd⟩
    · exact ⟨o, keep c o (I.cne x c e) hc nch ho (I.freeC x c e), hd⟩
  refine ⟨I.ok, I.os, hg, ⟨fun b o e n hb hx => ?_, fun b o e n hb hx => ?_, fun b o e n hx => ?_, fun b o e hx => ?_, fun b xs e => tups b xs (I.base.tups b xs e), fun b o xs e => frzs b o xs (I.base.frzs b o xs e), fun b ps e => ?_⟩, ?_, fun x c e => ?_, ?_, fun x c e => ?_, fun p hp => ?_, hok, I.len⟩
  · exact keep b o (neL b o e) hb (neC b o e hx) (I.base.keep b o e n hb hx) (I.base.free b o e n hx)
  · obtain ⟨sl, e1⟩ := I.base.slot b o e n hb hx
    obtain ⟨sl', e2⟩ := slot b _ (neL b o e) hb (neC b o e hx) e1 (I.base.free b o e n hx)
    exact ⟨sl', e2⟩
  · obtain ⟨o', e1⟩ := I.base.there b o e hx
    exact free b o' (neC b o e hx) e1 (I.base.free b o e n hx)
  · obtain ⟨o', e1⟩ := I.base.there b o e hx
    exact there b o' (neC b o e hx) e1
  · obtain ⟨m1, e1⟩ := I.base.tbls b ps e
    obtain ⟨m2, e2⟩ := tbls b _ e1
    exact ⟨m1 ++ m2, by rw [e2, Array.append_assoc]⟩
  · obtain ⟨m, hn, hl⟩ := I.loc
    refine ⟨m, ns m hn, fun i x v e1 e2 e3 => ?_⟩
    obtain ⟨u, r, l⟩ := hl i x v e1 e2 e3
    refine ⟨u, r, ?_⟩
    rcases l with l | ⟨k, c, e, z⟩
    · exact .inl l
    · exact .inr ⟨k, c, e, cellK x c e _ z⟩
  · obtain ⟨v, z⟩ := I.cell x c e
    exact ⟨v, cellK x c e v z⟩
  · obtain ⟨m, ⟨o, _, _, ho, _⟩, _⟩ := I.loc
    exact free _ o (fun z => (hch _ z).2.1 rfl) ho I.free
  · obtain ⟨v, o, ho, hd⟩ := I.cell x c e
    exact free c o (fun z => (hch c z).2.2.1 x c e rfl) ho (I.freeC x c e)
  · obtain ⟨e, n, ne, nf, d⟩ := I.pin p hp
    have nch : p.1 ∉ ch := fun z => (hch p.1 z).2.2.2 p hp rfl
    exact ⟨keep p.1 p.2 ne nf nch e n, free p.1 p.2 nch e n, ne, nf, d⟩
theorem Inv.un {t' : Nat} (I : Inv X pins σ H s) (u : Un X.fs [] H H' s.heap h') (hok : HOk X.prog X.w H' h') : Inv X pins σ H' { s with heap := h', toks := t' } := by
  obtain ⟨m, ⟨o, es, ep, ho, r⟩, _⟩ := id I.loc
  obtain ⟨sl, hL⟩ := u.any ho I.free (by simp)
  exact I.step (g' := s.gens) (d' := s.drawn) (ch := []) (fun _ z => nomatch z) (fun b o _ hb _ e n => u.keep b o e n hb (by simp)) (fun b o _ hb _ e n => u.slot b o e n hb (by simp)) (fun b o _ e n => u.free b o e n (by simp)) (fun b o _ e => u.there b o e (by simp)) u.tups u.frzs u.tbls (fun m' hm => by
    obtain ⟨o', es', ep', ho', r'⟩ := hm
    rw [ho] at ho'; cases ho'
    exact ⟨_, es', ep', hL, r'⟩) hok I.bare
theorem Inv.call {g' : Array GenState} {t' : Nat} {d' : Drawn} {ch : List Addr} (I : Inv X pins σ H s) (u : Un (frs X.stack) ch H H' s.heap h') (hok : HOk X.prog X.w H' h') (hg : AllBare g')
    (hch : ∀ b ∈ ch, (b ∈ X.ex ∨ X.s_0.heap.objs.size ≤ b) ∧ b ≠ X.env.locals ∧ (∀ x c, X.env.cells.lookup x = some c → c ≠ b) ∧ ∀ p ∈ X.pn ++ pins, p.1 ≠ b) :
    Inv X pins σ H' { s with heap := h', gens := g', drawn := d', toks := t' } := by
  obtain ⟨m, ⟨o, es, ep, ho, r⟩, _⟩ := id I.loc
  obtain ⟨sl, hL⟩ := u.any ho I.free fun z => (hch _ z).2.1 rfl
  exact I.step (ch := ch) hch (fun b o hL hb hc e n => u.keep b o e n (fun z => (List.mem_cons.mp (I.stkSub b z)).elim hL hb) hc) (fun b o _ _ hc e n => u.any e n hc) (fun b o hc e n => u.free b o e n hc) (fun b o hc e => u.there b o e hc) u.tups u.frzs u.tbls (fun m' hm => by
    obtain ⟨o', es', ep', ho', r'⟩ := hm
    rw [ho] at ho'; cases ho'
    exact ⟨_, es', ep', hL, r'⟩) hok hg
theorem Inv.turned {t' : Nat} {it : Addr} (I : Inv X pins σ H s) (k : ∀ b o, b ≠ it → s.heap.get? b = some o → h'.get? b = some o) (hn : H it = none) (hL : it ≠ X.env.locals)
    (h1 : it ∈ X.ex ∨ X.s_0.heap.objs.size ≤ it) (h2 : ∀ x c, X.env.cells.lookup x = some c → c ≠ it) (h3 : ∀ p ∈ X.pn ++ pins, p.1 ≠ it) : Inv X pins σ H { s with heap := h', toks := t' } := by
  have nit : ∀ b u, H b = some u → b ≠ it := fun b u e z => by rw [z, hn] at e; cases e
  refine I.step (g' := s.gens) (d' := s.drawn) (ch := [it]) (fun b hb => ?_) (fun b o _ _ hc e _ => k b o (fun z => hc (by simp [z])) e) (fun b o _ _ hc e _ => ⟨o.slots, k b o (fun z => hc (by simp [z])) e⟩) (fun _ _ _ _ n => n)
    (fun b o hc e => ⟨o, k b o (fun z => hc (by simp [z])) e⟩) (fun _ _ e => e) (fun _ _ _ e => e) (fun b ps e => ⟨#[], by rw [e]; simp⟩) (fun m hm => ?_) (fun b u e => ?_) I.bare
  · have e : b = it := by simpa using hb
    subst e
    exact ⟨h1, hL, h2, h3⟩
  · obtain ⟨o, es, ep, ho, r⟩ := hm
    exact ⟨o, es, ep, k _ o (Ne.symm hL) ho, r⟩
  · refine (I.hok b u e).stay (fun c v hc q => k c v ?_ q) (fun _ q => q) fun _ _ q => q
    rcases hc with z | z
    · rw [z]; exact nit b u e
    · exact nit c _ z
theorem Inv.tok (I : Inv X pins σ H s) (t : Nat) : Inv X pins σ H { s with toks := t } := I.un (h' := s.heap) (t' := t) Un.refl I.hok
theorem Inv.kept {t' : Nat} (I : Inv X pins σ H s) (k : ∀ b u, s.heap.get? b = some u → h'.get? b = some u) : Inv X pins σ H { s with heap := h', toks := t' } := I.un (Un.kept k) (I.hok.kept k)
theorem Inv.laid {a : Addr} {o : HO} {t' : Nat} (I : Inv X pins σ H s) (k : ∀ b u, s.heap.get? b = some u → h'.get? b = some u) (hp : s.heap.objs.size ≤ a) (new : ObjOk X.prog X.w (upd H a o) h' a o) :
    Inv X pins σ (upd H a o) { s with heap := h', toks := t' } := I.un (Un.laid k hp (I.hok.fresh hp)) (I.hok.laid k hp new)
theorem Inv.write {x e : Addr} {o : HO} {t' : Nat} (I : Inv X pins σ H s) (mu : Mut (H x)) (he : e = x ∨ H e = some (.own x)) (k : ∀ b u, b ≠ e → s.heap.get? b = some u → h'.get? b = some u) (heo : ∃ u, h'.get? e = some u)
    (new : ObjOk X.prog X.w (upd H x o) h' x o) : Inv X pins σ (upd H x o) { s with heap := h', toks := t' } := I.un (Un.write mu he k heo) (I.hok.write mu he k heo new)
theorem Inv.weak {σ' : List (Option V)} (I : Inv X pins σ H s) (hl : σ'.length = σ.length) (w : ∀ (i : Nat) v, σ'[i]? = some (some v) → σ[i]? = some (some v)) : Inv X pins σ' H s :=
  ⟨I.ok, I.os, I.bare, I.base, let ⟨m, hn, hl'⟩ := I.loc; ⟨m, hn, fun i x v e1 e2 e3 => hl' i x v e1 (w i v e2) e3⟩, I.cell, I.free, I.freeC, I.pin, I.hok, hl.trans I.len⟩
theorem Inv.pins_of {pins' : List (Addr × Obj)} (I : Inv X pins σ H s) (h : ∀ p ∈ pins', s.heap.get? p.1 = some p.2 ∧ H p.1 = none ∧ p.1 ≠ X.env.locals ∧ p.1 ∉ X.fs ∧ ∀ v, p.2.data ≠ .cell v) : Inv X pins' σ H s :=
  ⟨I.ok, I.os, I.bare, I.base, I.loc, I.cell, I.free, I.freeC, fun p hp => (List.mem_append.mp hp).elim (fun z => I.pin p (List.mem_append_left _ z)) (h p), I.hok, I.len⟩
theorem nodup_ix {N : List Str} (hN : N.Nodup) {i j : Nat} {x : Str} (a : N[i]? = some x) (b : N[j]? = some x) : i = j := by
  obtain ⟨h1, e1⟩ := List.getElem?_eq_some_iff.mp a
  obtain ⟨h2, e2⟩ := List.getElem?_eq_some_iff.mp b
  exact (List.getElem_inj hN).mp (e1.trans e2.symm)
theorem store_ok2 {M : Model} {A : Around} {E : Value → Shared → Prop} {i : Nat} {x : Str} {v : V} {u : Value} {Q : Unit → Shared → Prop} (I : Inv X pins σ H s) (hN : X.N.Nodup) (hi : X.N[i]? = some x) (hx : Loc X.env.scope x) (r : RelV v u)
    (h : ∀ s', Inv X pins (σ.set i (some v)) H s' → (∃ a, Heap.SameBut a s.heap s'.heap ∧ (a = X.env.locals ∨ X.env.cells.lookup x = some a)) → Q () s') (hf : X.fn x = true ∨ X.env.scope.names.lookup x = some .local := by first | exact .inl rfl | exact .inr rfl | assumption) : wpAny M A (storeName X.env x u) Q E s := by
  obtain ⟨m, hn, hl⟩ := id I.loc
  have hcls : (X.env.scope.kind == .class || (X.env.scope.kind == .module && X.env.locals != X.env.globals)) = false := by rw [I.ok.kind]; rfl
  have hiσ : i < σ.length := by rw [I.len]; exact (List.getElem?_eq_some_iff.mp hi).1
  have cne := I.cne
  have tracked : ∀ {a : Addr} {h' : Heap}, (∃ o, s.heap.get? a = some o ∧ H a = none) → Heap.SameBut a s.heap h' → HOk X.prog X.w H h' := fun {a h'} ha hs b ob e => by
    obtain ⟨_, _, hfree⟩ := ha
    refine (I.hok b ob e).stay (fun c w' hc q => (hs.2 c ?_).trans q) (fun _ q => q) fun _ _ q => q
    rintro rfl
    rcases hc with rfl | hc
    · rw [hfree] at e; cases e
    · rw [hfree] at hc; cases hc
  rcases hx with hk | hk
  · refine wpAny_storeName_local hk hn (fun h' hn' hs => ?_) hcls
    obtain ⟨oL, _, _, hoL, _⟩ := id hn
    refine h _ ⟨I.ok, I.os, I.bare, ⟨fun b o e n hb hx => ?_, fun b o e n hb hx => ?_, I.base.free, fun b o e hx => ?_, I.base.tups, I.base.frzs, I.base.tbls⟩, ⟨_, hn', fun j y v' e1 e2 e3 => ?_⟩, fun y c e => ?_, I.free, I.freeC, fun p hp => ?_, tracked ⟨oL, hoL, I.free⟩ hs, by simpa using I.len⟩ ⟨_, hs, .inl rfl⟩
    · exact (hs.2 b (Nat.ne_of_lt (Nat.lt_of_lt_of_le (Heap.lt_size e) I.ok.above))).trans (I.base.keep b o e n hb hx)
    · obtain ⟨sl, e1⟩ := I.base.slot b o e n hb hx
      exact ⟨sl, (hs.2 b (Nat.ne_of_lt (Nat.lt_of_lt_of_le (Heap.lt_size e) I.ok.above))).trans e1⟩
    · obtain ⟨o', e1⟩ := I.base.there b o e hx
      exact ⟨o', (hs.2 b (Nat.ne_of_lt (Nat.lt_of_lt_of_le (Heap.lt_size e) I.ok.above))).trans e1⟩
    · by_cases hj : j = i
      · subst hj
        rw [hi] at e1; cases e1
        rw [List.getElem?_set_self hiσ] at e2
        cases e2
        exact ⟨u, r, .inl ⟨hk, by simp⟩⟩
      · rw [List.getElem?_set_ne (Ne.symm hj)] at e2
        obtain ⟨u', r', q⟩ := hl j y v' e1 e2 e3
        refine ⟨u', r', ?_⟩
        rcases q with ⟨k, e⟩ | ⟨k, c, e, z⟩
        · refine .inl ⟨k, ?_⟩
          have : y ≠ x := fun e => hj (nodup_ix hN e1 (e ▸ hi))
          simp [this, e]
        · exact .inr ⟨k, c, e, z.sameBut hs (cne y c e)⟩
    · obtain ⟨w', z⟩ := I.cell y c e
      exact ⟨w', z.sameBut hs (cne y c e)⟩
    · obtain ⟨e, n, ne, nf, d⟩ := I.pin p hp
      exact ⟨(hs.2 p.1 ne).trans e, n, ne, nf, d⟩
  · have hfn : X.fn x = true := by
      rcases hf with z | z
      · exact z
      · rw [z] at hk; cases hk
    obtain ⟨c, hc⟩ := I.ok.has x (.inl hk)
    obtain ⟨w', z⟩ := I.cell x c hc
    refine wpAny_storeName_cell I.ok.kind hk hc z (fun h' hc' hs => ?_)
    obtain ⟨oc, hoc, hocd⟩ := id z
    refine h { s with heap := h' } ⟨I.ok, I.os, I.bare, ⟨fun b o e n hb hx => ?_, fun b o e n hb hx => ?_, I.base.free, fun b o e hx => ?_, I.base.tups, I.base.frzs, I.base.tbls⟩, ⟨m, hn.sameBut hs (Ne.symm (cne x c hc)), fun j y v' e1 e2 e3 => ?_⟩, fun y c' e => ?_, I.free, I.freeC, fun p hp => ?_, tracked ⟨oc, hoc, I.freeC x c hc⟩ hs, by simpa using I.len⟩ ⟨c, hs, .inr hc⟩
    · exact (hs.2 b (Nat.ne_of_lt (Nat.lt_of_lt_of_le (Heap.lt_size e) (I.ok.cab x c hfn hc)))).trans (I.base.keep b o e n hb hx)
    · obtain ⟨sl, e1⟩ := I.base.slot b o e n hb hx
      exact ⟨sl, (hs.2 b (Nat.ne_of_lt (Nat.lt_of_lt_of_le (Heap.lt_size e) (I.ok.cab x c hfn hc)))).trans e1⟩
    · obtain ⟨o', e1⟩ := I.base.there b o e hx
      exact ⟨o', (hs.2 b (Nat.ne_of_lt (Nat.lt_of_lt_of_le (Heap.lt_size e) (I.ok.cab x c hfn hc)))).trans e1⟩
    · by_cases hj : j = i
      · subst hj
        rw [hi] at e1; cases e1
        rw [List.getElem?_set_self hiσ] at e2
        cases e2
        exact ⟨u, r, .inr ⟨.inl hk, c, hc, hc'⟩⟩
      · rw [List.getElem?_set_ne (Ne.symm hj)] at e2
        obtain ⟨u', r', q⟩ := hl j y v' e1 e2 e3
        refine ⟨u', r', ?_⟩
        rcases q with q | ⟨k, c', e, z'⟩
        · exact .inl q
        · refine .inr ⟨k, c', e, z'.sameBut hs ?_⟩
          rintro rfl
          exact hj (nodup_ix hN e1 (I.ok.inj _ _ _ e hc ▸ hi))
    · by_cases hcc : c' = c
      · subst hcc; exact ⟨_, hc'⟩
      · obtain ⟨w2, z2⟩ := I.cell y c' e
        exact ⟨w2, z2.sameBut hs hcc⟩
    · obtain ⟨e, n, ne, nf, d⟩ := I.pin p hp
      refine ⟨(hs.2 p.1 ?_).trans e, n, ne, nf, d⟩
      intro q
      rw [q, hoc] at e
      have q' : oc = p.2 := Option.some.inj e
      exact d w' (by rw [← q']; exact hocd)
theorem store_ok {M : Model} {A : Around} {E : Value → Shared → Prop} {i : Nat} {x : Str} {v : V} {u : Value} {Q : Unit → Shared → Prop} (I : Inv X pins σ H s) (hN : X.N.Nodup) (hi : X.N[i]? = some x) (hx : Loc X.env.scope x) (r : RelV v u)
    (h : ∀ s', Inv X pins (σ.set i (some v)) H s' → Q () s') (hf : X.fn x = true ∨ X.env.scope.names.lookup x = some .local := by first | exact .inl rfl | exact .inr rfl | assumption) : wpAny M A (storeName X.env x u) Q E s :=
  store_ok2 I hN hi hx r (fun s' I' _ => h s' I') hf
theorem Inv.call' {s' : Shared} {ch : List Addr} (I : Inv X pins σ H s) (ho : s'.os = s.os) (u : Un (frs X.stack) ch H H' s.heap s'.heap) (hok : HOk X.prog X.w H' s'.heap) (hg : AllBare s'.gens)
    (hch : ∀ b ∈ ch, (b ∈ X.ex ∨ X.s_0.heap.objs.size ≤ b) ∧ b ≠ X.env.locals ∧ (∀ x c, X.env.cells.lookup x = some c → c ≠ b) ∧ ∀ p ∈ X.pn ++ pins, p.1 ≠ b) : Inv X pins σ H' s' := by
  obtain ⟨h', g', d', t', o'⟩ := s'
  have e : o' = s.os := ho
  subst e
  exact I.call (g' := g') (t' := t') (d' := d') u hok hg hch
end
abbrev XK := Value → Option Addr → Hp → Prop
abbrev St := List (Option V)
abbrev VK := V → Hp → Prop
abbrev TE := St → Hp → VK → Prop
abbrev TT := St → Hp → (Bool → Hp → Prop) → Prop
abbrev TA := St → Hp → (List V → Hp → Prop) → Prop
structure Ends where
  nx : St → Hp → Prop
  rt : VK
  bk : St → Hp → Prop := fun _ _ => False
  ct : St → Hp → Prop := fun _ _ => False
abbrev TS := Ends → St → Hp → Prop
def EP (X : Cx) (pins : List (Addr × Obj)) (σ : St) (Q : VK) (u : Value) (s' : Shared) : Prop := ∃ v H', Inv X pins σ H' s' ∧ RelV v u ∧ Q v H'
def TP (X : Cx) (pins : List (Addr × Obj)) (σ : St) (Q : Bool → Hp → Prop) (b : Bool) (s' : Shared) : Prop := ∃ H', Inv X pins σ H' s' ∧ Q b H'
def AP (X : Cx) (pins : List (Addr × Obj)) (σ : St) (Q : List V → Hp → Prop) (us : List Value) (s' : Shared) : Prop := ∃ vs H', Inv X pins σ H' s' ∧ Vals vs us ∧ Q vs H'
def SP (X : Cx) (pins : List (Addr × Obj)) (D : Ends) (f : Flow) (s' : Shared) : Prop :=
  match f with
  | .next => ∃ σ' H', Inv X pins σ' H' s' ∧ D.nx σ' H'
  | .brk => ∃ σ' H', Inv X pins σ' H' s' ∧ D.bk σ' H'
  | .cont => ∃ σ' H', Inv X pins σ' H' s' ∧ D.ct σ' H'
  | .ret u => ∃ v σ' H', Inv X pins σ' H' s' ∧ RelV v u ∧ D.rt v H'
def PE (X : Cx) (e : Expr) (t : TE) : Prop :=
  ∀ (pins : List (Addr × Obj)) (s : Shared) (σ : St) (H : Hp) (Q : VK), Inv X pins σ H s → t σ H Q → wpAny (model X.prog X.w) X.A (eval e X.env) (EP X pins σ Q) X.xe s
def PT (X : Cx) (e : Expr) (t : TT) : Prop :=
  ∀ (pins : List (Addr × Obj)) (s : Shared) (σ : St) (H : Hp) (Q : Bool → Hp → Prop), Inv X pins σ H s → t σ H Q → wpAny (model X.prog X.w) X.A (isTrue e X.env (eval e X.env)) (TP X pins σ Q) X.xe s
def PW (X : Cx) (e : Expr) (t : TT) : Prop :=
  ∀ (whole : Sem Value) (pins : List (Addr × Obj)) (s : Shared) (σ : St) (H : Hp) (Q : Bool → Hp → Prop), Inv X pins σ H s → t σ H Q → wpAny (model X.prog X.w) X.A (isTrue e X.env whole) (TP X pins σ Q) X.xe s
theorem PW.pt {X : Cx} {e : Expr} {t : TT} (h : PW X e t) : PT X e t := h _
def PA (X : Cx) (es : List Expr) (t : TA) : Prop :=
  ∀ (pos : Pos) (pins : List (Addr × Obj)) (s : Shared) (σ : St) (H : Hp) (Q : List V → Hp → Prop), Inv X pins σ H s → t σ H Q → wpAny (model X.prog X.w) X.A (spliced (backTo pos (starEach es X.env))) (AP X pins σ Q) X.xe s
def PS (X : Cx) (st : Stmt) (t : TS) : Prop :=
  ∀ (pins : List (Addr × Obj)) (s : Shared) (σ : St) (H : Hp) (D : Ends), Inv X pins σ H s → t D σ H → wpAny (model X.prog X.w) X.A (exec st X.env) (SP X pins D) X.xe s
def PSs (X : Cx) (st : List Stmt) (t : TS) : Prop :=
  ∀ (pins : List (Addr × Obj)) (s : Shared) (σ : St) (H : Hp) (D : Ends), Inv X pins σ H s → t D σ H → wpAny (model X.prog X.w) X.A (execs st X.env) (SP X pins D) X.xe s
theorem thn {α : Type} {t : Sem α} {Q Q' : α → Shared → Prop} {M : Model} {A : Around} {E : Value → Shared → Prop} {s : Shared} (h : wpAny M A t Q E s) (hQ : ∀ a s, Q a s → Q' a s) : wpAny M A t Q' E s := wpAny_mono h hQ fun _ _ x => x
end L2
namespace L2
open PySem PySem.Spec PyProof.Rows
section
variable {X : Cx}
theorem bin {a b : Expr} {ta tb : TE} (ha : PE X a ta) (hb : PE X b tb) {pins : List (Addr × Obj)} {s : Shared} {σ : St} {H : Hp} {R : V → V → Hp → Prop} (I : Inv X pins σ H s) (h : ta σ H fun x H1 => tb σ H1 fun y H2 => R x y H2)
    {α : Type} {Q : α → Shared → Prop} {f : Value → Value → Sem α}
    (hf : ∀ v u s2 x y H2, Inv X pins σ H2 s2 → RelV x v → RelV y u → R x y H2 → wpAny (model X.prog X.w) X.A (f v u) Q X.xe s2) :
    wpAny (model X.prog X.w) X.A (eval a X.env) (fun v s₁ => wpAny (model X.prog X.w) X.A (eval b X.env) (fun u s₂ => wpAny (model X.prog X.w) X.A (f v u) Q X.xe s₂) X.xe s₁) X.xe s := by
  refine thn (ha pins s σ H _ I h) fun v s1 ⟨x, H1, I1, r1, q1⟩ => ?_
  refine thn (hb pins s1 σ H1 _ I1 q1) fun u s2 ⟨y, H2, I2, r2, q2⟩ => ?_
  exact hf v u s2 x y H2 I2 r1 r2 q2
def tVar (i : Nat) : TE := fun σ H Q => ∃ v, σ[i]? = some (some v) ∧ Q v H
def tC (v : V) : TE := fun _ H Q => Q v H
theorem pe_var {i : Nat} {x : Str} {pos : Pos} (hN : X.N[i]? = some x) (hv : Vis X.env.scope x) (hd : (x == ("__debug__" : Str)) = false := by decide) (hcd : (x == ("__classdict__" : Str)) = false := by decide) : PE X (.Name x pos) (tVar i) := by
  intro pins s σ H Q I h
  obtain ⟨v, e, h⟩ := h
  obtain ⟨m, hn, hl⟩ := I.loc
  obtain ⟨u, r, l⟩ := hl i x v hN e hv
  have fin : EP X pins σ Q u s := ⟨v, H, I, r, h⟩
  rcases l with ⟨hk, hm⟩ | ⟨hk, c, hc, hcell⟩
  · exact wpAny_Name (wpAny_loadName_local I.ok.kind hk hn hm fin) hd
  · rcases hk with hk | hk
    · exact wpAny_Name (wpAny_loadName_cell I.ok.kind hk hc hcell fin) hd
    · exact wpAny_Name (wpAny_loadName_free I.ok.kind hk hc hcell fin hcd) hd
theorem pe_int {i j pos} : PE X (.Constant (.int i) j pos) (tC (.int i)) := fun _ _ _ H _ I h => wpAny_Constant_int ⟨.int i, H, I.tok _, ⟨_, rfl⟩, h⟩
theorem pe_bl {b j pos} : PE X (.Constant (.bool b) j pos) (tC (.bl b)) := fun _ _ _ H _ I h => Constant_bool ⟨.bl b, H, I, rfl, h⟩
theorem pe_non {j pos} : PE X (.Constant .none j pos) (tC .non) := fun _ _ _ H _ I h => Constant_none ⟨.non, H, I, rfl, h⟩
theorem pe_str {x j pos} : PE X (.Constant (.str x) j pos) (tC (.str x)) := fun _ _ _ H _ I h => Calls.Constant_str ⟨.str x, H, I.tok _, ⟨_, rfl⟩, h⟩
def Gl (X : Cx) (x : Str) : Prop := X.env.kindOf x = some .globalImplicit
theorem ld_glob {E : Value → Shared → Prop} {pins : List (Addr × Obj)} {s : Shared} {σ : St} {H : Hp} {x : Str} {u : Value} {pos : Pos} {Q : Value → Shared → Prop} (I : Inv X pins σ H s) (hg : Gl X x) (hm : X.mg x = some u) (h : Q u s)
    (hd : (x == ("__debug__" : Str)) = false := by decide) : wpAny (model X.prog X.w) X.A (eval (.Name x pos) X.env) Q E s :=
  Calls.Name_function_global I.ok.kind hg (Calls.loadGlobal_global (by rw [I.ok.glob]; exact I.mod.glob.keeps I.bk) hm h) hd
theorem ld_blt {E : Value → Shared → Prop} {pins : List (Addr × Obj)} {s : Shared} {σ : St} {H : Hp} {x : Str} {u : Value} {pos : Pos} {Q : Value → Shared → Prop} (I : Inv X pins σ H s) (hg : Gl X x) (hm : X.mg x = none) (hv : bootBuiltins x = some u) (h : Q u s)
    (hn : x ≠ "__name__" := by decide) (hd : (x == ("__debug__" : Str)) = false := by decide) : wpAny (model X.prog X.w) X.A (eval (.Name x pos) X.env) Q E s := by
  obtain ⟨mb, h1, h2⟩ := I.mod.blt
  exact Calls.Name_function_global I.ok.kind hg (Calls.loadGlobal_builtin (by rw [I.ok.glob]; exact I.mod.glob.keeps I.bk) hm (by rw [I.ok.blt]; exact h1.keeps I.bk) ((h2 x hn).trans hv) h) hd
theorem pe_glob {x : Str} {v : V} {u : Value} {pos : Pos} (hg : Gl X x) (hm : X.mg x = some u) (r : RelV v u) (hd : (x == ("__debug__" : Str)) = false := by decide) : PE X (.Name x pos) (tC v) :=
  fun _ _ _ H _ I h => ld_glob I hg hm ⟨v, H, I, r, h⟩ hd
theorem pe_bltn {x : Str} {v : V} {u : Value} {pos : Pos} (hg : Gl X x) (hm : X.mg x = none) (hv : bootBuiltins x = some u) (r : RelV v u) (hn : x ≠ "__name__" := by decide) (hd : (x == ("__debug__" : Str)) = false := by decide) : PE X (.Name x pos) (tC v) :=
  fun _ _ _ H _ I h => ld_blt I hg hm hv ⟨v, H, I, r, h⟩ hn hd
def t2I (ta tb : TE) (k : Int → Int → Hp → Prop) : St → Hp → Prop := fun σ H => ta σ H fun x H1 => tb σ H1 fun y H2 => ∃ i j, x = .int i ∧ y = .int j ∧ k i j H2
variable {a b : Expr} {ta tb : TE} {pos : Pos}
def PC (X : Cx) (op : CmpOp) (a b : Expr) (t : TE) : Prop :=
  ∀ (pins : List (Addr × Obj)) (s : Shared) (σ : St) (H : Hp) (Q : VK), Inv X pins σ H s → t σ H Q →
    wpAny (model X.prog X.w) X.A (eval a X.env) (fun v s₁ => wpAny (model X.prog X.w) X.A (eval b X.env) (fun u s₂ => wpAny (model X.prog X.w) X.A (compareOp op v u) (EP X pins σ Q) X.xe s₂) X.xe s₁) X.xe s
theorem nobehind (b : Expr) {op : CmpOp} (h : op ≠ .In) (h2 : op ≠ .NotIn) : behindInMarks op b = false := by
  have e1 : (op == CmpOp.In) = false := by cases op <;> first | rfl | exact absurd rfl h
  have e2 : (op == CmpOp.NotIn) = false := by cases op <;> first | rfl | exact absurd rfl h2
  cases b <;> simp [behindInMarks, e1, e2]
def tCmp (p : Int → Int → Bool) (ta tb : TE) : TE := fun σ H Q => t2I ta tb (fun i j H2 => Q (.bl (p i j)) H2) σ H
abbrev tLt : TE → TE → TE := tCmp fun i j => decide (i < j)
abbrev tLe : TE → TE → TE := tCmp fun i j => decide (i ≤ j)
abbrev tGt : TE → TE → TE := tCmp fun i j => decide (j < i)
abbrev tGe : TE → TE → TE := tCmp fun i j => decide (j ≤ i)
abbrev tEqI : TE → TE → TE := tCmp fun i j => decide (i = j)
abbrev tNeI : TE → TE → TE := tCmp fun i j => !decide (i = j)
theorem pc_int {op : CmpOp} {p : Int → Int → Bool} (ha : PE X a ta) (hb : PE X b tb)
    (rule : ∀ (i j : Int) (t u : Tok) (Q : Value → Shared → Prop) (s : Shared), Q (.bool (p i j)) s → wpAny (model X.prog X.w) X.A (compareOp op (.int i t) (.int j u)) Q X.xe s) : PC X op a b (tCmp p ta tb) := by
  intro pins s σ H Q I h
  refine bin ha hb I h fun v u s2 x y H2 I2 rx ry q => ?_
  obtain ⟨i, j, rfl, rfl, q⟩ := q
  obtain ⟨t, rfl⟩ := rx
  obtain ⟨t', rfl⟩ := ry
  exact rule i j t t' _ s2 ⟨.bl _, H2, I2, rfl, q⟩
theorem pc_lt (ha : PE X a ta) (hb : PE X b tb) : PC X .Lt a b (tLt ta tb) := pc_int ha hb fun _ _ _ _ _ _ h => lt_int h
theorem pc_le (ha : PE X a ta) (hb : PE X b tb) : PC X .LtE a b (tLe ta tb) := pc_int ha hb fun _ _ _ _ _ _ h => le_int h
theorem pc_gt (ha : PE X a ta) (hb : PE X b tb) : PC X .Gt a b (tGt ta tb) := pc_int ha hb fun _ _ _ _ _ _ h => gt_int h
theorem pc_ge (ha : PE X a ta) (hb : PE X b tb) : PC X .GtE a b (tGe ta tb) := pc_int ha hb fun _ _ _ _ _ _ h => ge_int h
theorem pc_eqI (ha : PE X a ta) (hb : PE X b tb) : PC X .Eq a b (tEqI ta tb) := pc_int ha hb fun _ _ _ _ _ _ h => eq_int (by rw [Bool.beq_eq_decide_eq]; exact h)
theorem pc_neI (ha : PE X a ta) (hb : PE X b tb) : PC X .NotEq a b (tNeI ta tb) := pc_int ha hb fun _ _ _ _ _ _ h => ne_int (by rw [bne, Bool.beq_eq_decide_eq]; exact h)
def tIsN (ta : TE) : TE := fun σ H Q => ta σ H fun x H1 => Q (.bl (decide (x = .non))) H1
def tNotN (ta : TE) : TE := fun σ H Q => ta σ H fun x H1 => Q (.bl (!decide (x = .non))) H1
theorem RelV.none_iff {x : V} {v : Value} (r : RelV x v) : (v == Value.none) = decide (x = .non) := by
  cases x with
  | non => cases r; rfl
  | bl _ => cases r; rfl
  | int _ => obtain ⟨t, rfl⟩ := r; rfl
  | str _ => obtain ⟨t, rfl⟩ := r; rfl
  | byt _ => obtain ⟨t, rfl⟩ := r; rfl
  | flt _ => obtain ⟨t, rfl⟩ := r; rfl
  | ref _ => cases r; rfl
  | ty _ => cases r; rfl
theorem pc_isN {j pos'} (ha : PE X a ta) : PC X .Is a (.Constant .none j pos') (tIsN ta) := by
  intro pins s σ H Q I h
  refine thn (ha pins s σ H _ I h) fun v s1 ⟨x, H1, I1, r1, q1⟩ => ?_
  exact Constant_none (is_none_gen ⟨.bl _, H1, I1, by rw [r1.none_iff]; rfl, q1⟩)
theorem pc_notN {j pos'} (ha : PE X a ta) : PC X .IsNot a (.Constant .none j pos') (tNotN ta) := by
  intro pins s σ H Q I h
  refine thn (ha pins s σ H _ I h) fun v s1 ⟨x, H1, I1, r1, q1⟩ => ?_
  exact Constant_none (isnot_none_gen ⟨.bl _, H1, I1, by rw [r1.none_iff]; rfl, q1⟩)
def tB (t : TE) : TT := fun σ H Q => t σ H fun x H1 => ∃ c, x = .bl c ∧ Q c H1
theorem pe_cmp {op : CmpOp} {t : TE} (h : PC X op a b t) (h1 : behindInMarks op b = false := by first | exact nobehind _ (by decide) (by decide) | rfl) : PE X (.Compare a [op] [b] pos) t := fun pins s σ H Q I hw => wpAny_Compare1 (h pins s σ H Q I hw) h1
theorem pt_cmp {op : CmpOp} {t : TE} (h : PC X op a b t) (h1 : behindInMarks op b = false := by first | exact nobehind _ (by decide) (by decide) | rfl) : PT X (.Compare a [op] [b] pos) (tB t) := by
  intro pins s σ H Q I hw
  refine wpAny_isTrue_Compare1 (thn (h pins s σ H _ I hw) fun v s1 h1 => thn h1 fun u s2 h2 => thn h2 fun c s3 ⟨x, H1, I1, r1, q1⟩ => ?_) h1
  obtain ⟨d, rfl, q⟩ := q1
  cases r1
  exact wpAny_truthy_bool ⟨H1, I1, q⟩
theorem pt_val {e : Expr} {t : TE} (h : PE X e t) (he : ∀ whole, isTrue e X.env whole = (do let v ← whole; standAt e.pos; holding [v] (truthy v)) := by intro _; rfl) : PT X e (tB t) := by
  intro pins s σ H Q I hw
  refine isTrue_plain (thn (h pins s σ H _ I hw) fun v s1 ⟨x, H1, I1, r1, q1⟩ => ?_) (he _)
  obtain ⟨d, rfl, q⟩ := q1
  cases r1
  exact wpAny_truthy_bool ⟨H1, I1, q⟩
variable {tA tB' : TT} {rest : List Expr}
def tAnd (t u : TT) : TT := fun σ H Q => t σ H fun c H1 => if c = true then u σ H1 Q else Q false H1
def tOr (t u : TT) : TT := fun σ H Q => t σ H fun c H1 => if c = true then Q true H1 else u σ H1 Q
def tNot (t : TT) : TT := fun σ H Q => t σ H fun c H1 => Q (!c) H1
theorem pw_and1 (ha : PT X a tA) : PW X (.BoolOp .And [a] pos) tA := by
  intro wh pins s σ H Q I h
  refine isTrue_and (thn (ha pins s σ H Q I h) fun c s1 e => ?_)
  cases c with
  | true => exact isTrue_and_nil e
  | false => exact e
theorem pw_or1 (ha : PT X a tA) : PW X (.BoolOp .Or [a] pos) tA := by
  intro wh pins s σ H Q I h
  refine isTrue_or (thn (ha pins s σ H Q I h) fun c s1 e => ?_)
  cases c with
  | false => exact isTrue_or_nil e
  | true => exact e
theorem pw_and (ha : PT X a tA) (hb : PW X (.BoolOp .And (b :: rest) pos) tB') : PW X (.BoolOp .And (a :: b :: rest) pos) (tAnd tA tB') := by
  intro wh pins s σ H Q I h
  refine isTrue_and (thn (ha pins s σ H _ I h) fun c s1 ⟨H1, I1, q1⟩ => ?_)
  cases c with
  | true => exact hb wh pins s1 σ H1 Q I1 q1
  | false => exact ⟨H1, I1, q1⟩
theorem pw_or (ha : PT X a tA) (hb : PW X (.BoolOp .Or (b :: rest) pos) tB') : PW X (.BoolOp .Or (a :: b :: rest) pos) (tOr tA tB') := by
  intro wh pins s σ H Q I h
  refine isTrue_or (thn (ha pins s σ H _ I h) fun c s1 ⟨H1, I1, q1⟩ => ?_)
  cases c with
  | true => exact ⟨H1, I1, q1⟩
  | false => exact hb wh pins s1 σ H1 Q I1 q1
theorem pt_not (ha : PT X a tA) : PT X (.UnaryOp .Not a pos) (tNot tA) := by
  intro pins s σ H Q I h
  exact isTrue_not (ha pins s σ H (fun c H1 => Q (!c) H1) I h)
def tAndV (ta tb : TE) : TE := fun σ H Q => ta σ H fun x H1 => ∃ c, x = .bl c ∧ if c = true then tb σ H1 Q else Q (.bl false) H1
def tOrV (ta tb : TE) : TE := fun σ H Q => ta σ H fun x H1 => ∃ c, x = .bl c ∧ if c = true then Q (.bl true) H1 else tb σ H1 Q
def tNotV (ta : TE) : TE := fun σ H Q => ta σ H fun x H1 => ∃ c, x = .bl c ∧ Q (.bl (!c)) H1
theorem pe_one {op} {t : TE} (h : PE X a t) : PE X (.BoolOp op [a] pos) t := fun pins s σ H Q I hw => BoolOp_one (h pins s σ H Q I hw)
theorem pe_and (ha : PE X a ta) (hb : PE X (.BoolOp .And (b :: rest) pos) tb) : PE X (.BoolOp .And (a :: b :: rest) pos) (tAndV ta tb) := by
  intro pins s σ H Q I h
  refine BoolOp_and (thn (ha pins s σ H _ I h) fun v s1 ⟨x, H1, I1, r1, q1⟩ => ?_)
  obtain ⟨c, rfl, q1⟩ := q1
  cases r1
  refine wpAny_truthy_bool ?_
  cases c with
  | true => exact hb pins s1 σ H1 Q I1 q1
  | false => exact ⟨.bl false, H1, I1, rfl, q1⟩
theorem pe_or (ha : PE X a ta) (hb : PE X (.BoolOp .Or (b :: rest) pos) tb) : PE X (.BoolOp .Or (a :: b :: rest) pos) (tOrV ta tb) := by
  intro pins s σ H Q I h
  refine BoolOp_or (thn (ha pins s σ H _ I h) fun v s1 ⟨x, H1, I1, r1, q1⟩ => ?_)
  obtain ⟨c, rfl, q1⟩ := q1
  cases r1
  refine wpAny_truthy_bool ?_
  cases c with
  | false => exact hb pins s1 σ H1 Q I1 q1
  | true => exact ⟨.bl true, H1, I1, rfl, q1⟩
theorem pe_not (ha : PE X a ta) : PE X (.UnaryOp .Not a pos) (tNotV ta) := by
  intro pins s σ H Q I h
  refine UnaryOp_ (thn (ha pins s σ H _ I h) fun v s1 ⟨x, H1, I1, r1, q1⟩ => ?_)
  obtain ⟨c, rfl, q1⟩ := q1
  cases r1
  exact not_of (wpAny_truthy_bool ⟨.bl (!c), H1, I1, rfl, q1⟩)
def tIf (t : TT) (ta tb : TE) : TE := fun σ H Q => t σ H fun c H1 => if c = true then ta σ H1 Q else tb σ H1 Q
theorem pe_ifExp {c : Expr} (hc : PT X c tA) (ha : PE X a ta) (hb : PE X b tb) : PE X (.IfExp c a b pos) (tIf tA ta tb) := by
  intro pins s σ H Q I h
  refine wpAny_IfExp (thn (hc pins s σ H _ I h) fun d s1 ⟨H1, I1, q1⟩ => ?_)
  cases d with
  | true => exact ha pins s1 σ H1 Q I1 q1
  | false => exact hb pins s1 σ H1 Q I1 q1
end
end L2
namespace L2
open PySem PySem.Spec PyProof.Rows
def SqL (K : PySem.W.Frag) (H : Hp) (a : Addr) (xs : List V) : Prop :=
  Rd H a (.lst xs) ∨
    ∃ (o : Obj) (its : Array Value) (n : Nat), K.lookup a = some o ∧ o.cls = .type "list" ∧ o.dict = none ∧ o.data = .seq its n ∧ its.size ≤ sizeLine ∧ Vals xs its.toList
def SqT (K : PySem.W.Frag) (H : Hp) (a : Addr) (xs : List V) : Prop :=
  Rd H a (.tup xs) ∨
    ∃ (o : Obj) (its : Array Value) (n : Nat), K.lookup a = some o ∧ o.cls = .type "tuple" ∧ o.data = .seq its n ∧ its.size ≤ sizeLine ∧ Vals xs its.toList
def absV : Value → Option V
  | .none => some .non
  | .bool b => some (.bl b)
  | .int i _ => some (.int i)
  | .str x _ => some (.str x)
  | .bytes b _ => some (.byt b)
  | .float b _ => some (.flt b)
  | .ref a => some (.ref a)
  | .type n => some (.ty n)
  | _ => none
theorem RelV.abs {x : V} {u : Value} (r : RelV x u) : absV u = some x := by
  cases x with
  | non => cases r; rfl
  | bl _ => cases r; rfl
  | int _ => obtain ⟨t, rfl⟩ := r; rfl
  | str _ => obtain ⟨t, rfl⟩ := r; rfl
  | byt _ => obtain ⟨t, rfl⟩ := r; rfl
  | flt _ => obtain ⟨t, rfl⟩ := r; rfl
  | ref _ => cases r; rfl
  | ty _ => cases r; rfl
theorem RelV.inj {x y : V} {u : Value} (r : RelV x u) (q : RelV y u) : x = y := Option.some.inj (r.abs.symm.trans q.abs)
theorem Vals.inj : ∀ {xs ys : List V} {us : List Value}, Vals xs us → Vals ys us → xs = ys
  | _, _, _, .nil, .nil => rfl
  | _, _, _, .cons r t, .cons r' t' => by rw [r.inj r', Vals.inj t t']
section
variable {X : Cx} {pins : List (Addr × Obj)} {σ : St} {H : Hp} {s : Shared} {a : Addr} {xs ys : List V}
theorem SqL.of {K : PySem.W.Frag} (h : H a = some (.lst xs)) : SqL K H a xs := .inl (.inl h)
theorem SqT.of {K : PySem.W.Frag} (h : H a = some (.tup xs)) : SqT K H a xs := .inl (.inl h)
theorem Inv.list (I : Inv X pins σ H s) (h : SqL X.K H a xs) : ∃ its : List Value, Vals xs its ∧ PlainL s.heap a its.toArray ∧ xs.length ≤ sizeLine := by
  rcases h with h | ⟨o, its, n, hk, hc, hd, hs, hz, r⟩
  · obtain ⟨z, its, n, r, e⟩ := h.ok I.hok
    exact ⟨its, r, ⟨_, n, e, rfl, rfl, rfl⟩, z⟩
  · refine ⟨its.toList, r, ⟨o, n, I.kIn a o hk, hc, hd, by simpa using hs⟩, ?_⟩
    have e := r.length
    simp only [Array.length_toList] at e
    omega
theorem Inv.tuple (I : Inv X pins σ H s) (h : SqT X.K H a xs) : ∃ its : List Value, Vals xs its ∧ IsTup s.heap a its.toArray ∧ xs.length ≤ sizeLine := by
  rcases h with h | ⟨o, its, n, hk, hc, hs, hz, r⟩
  · obtain ⟨z, its, r, p⟩ := h.ok I.hok
    exact ⟨its, r, p, z⟩
  · refine ⟨its.toList, r, ⟨o, I.kIn a o hk, hc, n, by simpa using hs⟩, ?_⟩
    have e := r.length
    simp only [Array.length_toList] at e
    omega
theorem Inv.list_inj (I : Inv X pins σ H s) (h : SqL X.K H a xs) (h' : SqL X.K H a ys) : xs = ys := by
  obtain ⟨its, r, ⟨o, n, e, _, _, d⟩, _⟩ := I.list h
  obtain ⟨its', r', ⟨o', n', e', _, _, d'⟩, _⟩ := I.list h'
  rw [e] at e'; cases e'
  rw [d] at d'
  injection d' with d1 _
  have : its = its' := by simpa using congrArg Array.toList d1
  subst this
  exact r.inj r'
theorem Inv.tuple_inj (I : Inv X pins σ H s) (h : SqT X.K H a xs) (h' : SqT X.K H a ys) : xs = ys := by
  obtain ⟨its, r, ⟨o, e, _, n, d⟩, _⟩ := I.tuple h
  obtain ⟨its', r', ⟨o', e', _, n', d'⟩, _⟩ := I.tuple h'
  rw [e] at e'; cases e'
  rw [d] at d'
  injection d' with d1 _
  have : its = its' := by simpa using congrArg Array.toList d1
  subst this
  exact r.inj r'
end
abbrev Cx.wish (X : Cx) (E : Value → Shared → Prop) : Cx := { X with xe := E }
abbrev Cx.nox (X : Cx) : Cx := X.wish fun _ _ => False
theorem Cx.Ok.wish {X : Cx} (ok : X.Ok) (E : Value → Shared → Prop) : (X.wish E).Ok :=
  ⟨ok.mod, ok.kind, ok.glob, ok.blt, ok.above, ok.inj, ok.has, ok.cab, ok.hd, ok.frames, ok.stk, ok.exf, ok.bs, ok.bsz, ok.noex, ok.exfs, ok.funs, ok.frf⟩
theorem Cx.Ok.unwish {X : Cx} {E : Value → Shared → Prop} (ok : (X.wish E).Ok) : X.Ok :=
  ⟨ok.mod, ok.kind, ok.glob, ok.blt, ok.above, ok.inj, ok.has, ok.cab, ok.hd, ok.frames, ok.stk, ok.exf, ok.bs, ok.bsz, ok.noex, ok.exfs, ok.funs, ok.frf⟩
section
variable {X : Cx} {pins : List (Addr × Obj)} {σ : St} {H : Hp} {s : Shared} {E : Value → Shared → Prop}
theorem Inv.wish (I : Inv X pins σ H s) (E : Value → Shared → Prop) : Inv (X.wish E) pins σ H s := ⟨I.ok.wish E, I.os, I.bare, I.base, I.loc, I.cell, I.free, I.freeC, I.pin, I.hok, I.len⟩
theorem Inv.unwish (I : Inv (X.wish E) pins σ H s) : Inv X pins σ H s := ⟨I.ok.unwish, I.os, I.bare, I.base, I.loc, I.cell, I.free, I.freeC, I.pin, I.hok, I.len⟩
theorem SP.unwish {D : Ends} {f : Flow} {s' : Shared} (h : SP (X.wish E) pins D f s') : SP X pins D f s' := by
  cases f with
  | next => obtain ⟨σ', H', I, q⟩ := h; exact ⟨σ', H', I.unwish, q⟩
  | brk => obtain ⟨σ', H', I, q⟩ := h; exact ⟨σ', H', I.unwish, q⟩
  | cont => obtain ⟨σ', H', I, q⟩ := h; exact ⟨σ', H', I.unwish, q⟩
  | ret u => obtain ⟨v, σ', H', I, r, q⟩ := h; exact ⟨v, σ', H', I.unwish, r, q⟩
theorem PE.nox {e : Expr} {t : TE} (h : PE X.nox e t) : PE X e t := fun pins s σ H Q I hw =>
  wpAny_mono (h pins s σ H Q (I.wish _) hw) (fun _ _ ⟨v, H', I', r, q⟩ => ⟨v, H', I'.unwish, r, q⟩) fun _ _ z => False.elim z
theorem PT.nox {e : Expr} {t : TT} (h : PT X.nox e t) : PT X e t := fun pins s σ H Q I hw =>
  wpAny_mono (h pins s σ H Q (I.wish _) hw) (fun _ _ ⟨H', I', q⟩ => ⟨H', I'.unwish, q⟩) fun _ _ z => False.elim z
theorem PSs.nox {st : List Stmt} {t : TS} (h : PSs X.nox st t) : PSs X st t := fun pins s σ H D I hw =>
  wpAny_mono (h pins s σ H D (I.wish _) hw) (fun _ _ q => q.unwish) fun _ _ z => False.elim z
end
section
variable {X : Cx} {st : Stmt} {rest : List Stmt} {t u : TS} {e : Expr} {te : TE} {pos : Pos}
def tNext : TS := fun D σ H => D.nx σ H
def tSeq (t u : TS) : TS := fun D σ H => t { D with nx := u D } σ H
theorem pss_nil : PSs X [] tNext := fun _ _ σ H _ I h => wpAny_execs_nil ⟨σ, H, I, h⟩
theorem pss_cons (h1 : PS X st t) (h2 : PSs X rest u) : PSs X (st :: rest) (tSeq t u) := by
  intro pins s σ H D I h
  refine wpAny_execs_cons (thn (h1 pins s σ H { D with nx := u D } I h) fun f s1 q => ?_)
  cases f with
  | next =>
    obtain ⟨σ', H', I', q⟩ := q
    exact h2 pins s1 σ' H' D I' q
  | ret v => exact q
  | brk => exact q
  | cont => exact q
theorem pss_one (h1 : PS X st t) : PSs X [st] t := by
  intro pins s σ H D I h
  refine wpAny_execs_cons (thn (h1 pins s σ H D I h) fun f s1 q => ?_)
  cases f with
  | next => exact wpAny_execs_nil q
  | ret v => exact q
  | brk => exact q
  | cont => exact q
def tBreak : TS := fun D σ H => D.bk σ H
def tCont : TS := fun D σ H => D.ct σ H
theorem ps_pass : PS X (.Pass pos) tNext := fun _ _ σ H _ I h => wpAny_Pass ⟨σ, H, I, h⟩
theorem ps_break : PS X (.Break pos) tBreak := fun _ _ σ H _ I h => wpAny_Break ⟨σ, H, I, h⟩
theorem ps_continue : PS X (.Continue pos) tCont := fun _ _ σ H _ I h => wpAny_Continue ⟨σ, H, I, h⟩
theorem Inv.quiet {pins : List (Addr × Obj)} {σ : St} {H : Hp} {s : Shared} (I : Inv X pins σ H s) : interactive X.env = false := by simp [interactive, I.ok.kind]
theorem ps_doc {x j pos pos'} : PS X (.Expr (.Constant (.str x) j pos) pos') tNext := fun _ s σ H _ I h => wpAny_Expr (Calls.Constant_str (show SP X _ _ .next { s with toks := s.toks + 1 } from ⟨σ, H, I.tok _, h⟩)) I.quiet
def tDrop (te : TE) : TS := fun D σ H => te σ H fun _ H1 => D.nx σ H1
theorem ps_expr (he : PE X e te) (hs : swapsWith e none pos.line X.env = pure false := by rfl) : PS X (.Expr e pos) (tDrop te) := by
  intro pins s σ H D I h
  exact wpAny_Expr_any (thn (he pins s σ H _ I h) fun v s1 ⟨x, H1, I1, r1, q1⟩ => ⟨σ, H1, I1, q1⟩) I.quiet hs
def tRet (te : TE) : TS := fun D σ H => te σ H D.rt
theorem ps_ret (he : PE X e te) : PS X (.Return (some e) pos) (tRet te) := by
  intro pins s σ H D I h
  exact wpAny_Return_some (thn (he pins s σ H _ I h) fun v s1 ⟨x, H1, I1, r1, q1⟩ => ⟨x, σ, H1, I1, r1, q1⟩)
def tRetN : TS := fun D _ H => D.rt .non H
theorem ps_retN : PS X (.Return none pos) tRetN := fun _ _ σ H _ I h => wpAny_Return_none ⟨.non, σ, H, I, rfl, h⟩
def tIfS (c : TT) (t u : TS) : TS := fun D σ H => c σ H fun b H1 => if b = true then t D σ H1 else u D σ H1
theorem ps_if {c : Expr} {a b : List Stmt} {tc : TT} (hc : PT X c tc) (ha : PSs X a t) (hb : PSs X b u) : PS X (.If c a b pos) (tIfS tc t u) := by
  intro pins s σ H D I h
  refine wpAny_If (thn (hc pins s σ H _ I h) fun d s1 ⟨H1, I1, q1⟩ => ?_)
  cases d with
  | true => exact ha pins s1 σ H1 D I1 q1
  | false => exact hb pins s1 σ H1 D I1 q1
def tNever : TS := fun _ _ _ => False
theorem ps_never : PS X st tNever := fun _ _ _ _ _ _ h => h.elim
theorem pss_never {sts : List Stmt} : PSs X sts tNever := fun _ _ _ _ _ _ h => h.elim
end
abbrev TG := V → St → Hp → (St → Hp → Prop) → Prop
abbrev TGs := List V → St → Hp → (St → Hp → Prop) → Prop
def PG (X : Cx) (target : Expr) (t : TG) : Prop :=
  ∀ (pins : List (Addr × Obj)) (s : Shared) (σ : St) (H : Hp) (v : V) (u : Value) (Q : St → Hp → Prop), Inv X pins σ H s → RelV v u → t v σ H Q →
    wpAny (model X.prog X.w) X.A (assign target X.env u) (fun _ s' => ∃ σ' H', Inv X pins σ' H' s' ∧ Q σ' H') X.xe s
def PGs (X : Cx) (ts : List Expr) (t : TGs) : Prop :=
  ∀ (pins : List (Addr × Obj)) (s : Shared) (σ : St) (H : Hp) (vs : List V) (us : List Value) (Q : St → Hp → Prop), Inv X pins σ H s → Vals vs us → t vs σ H Q →
    wpAny (model X.prog X.w) X.A (assignInOrder ((assignEach ts X.env).map (·.2)) us) (fun _ s' => ∃ σ' H', Inv X pins σ' H' s' ∧ Q σ' H') X.xe s
abbrev TSet := V → V → V → Hp → (Hp → Prop) → Prop
def PSet (X : Cx) (t : TSet) : Prop :=
  ∀ (pins : List (Addr × Obj)) (s : Shared) (σ : St) (H : Hp) (o i v : V) (ov iv u : Value) (Q : Hp → Prop), Inv X pins σ H s → RelV o ov → RelV i iv → RelV v u → t o i v H Q →
    wpAny (model X.prog X.w) X.A (setItem ov iv u) (fun _ s' => ∃ H', Inv X pins σ H' s' ∧ Q H') X.xe s
abbrev TIp := V → V → Hp → VK → Prop
def PIp (X : Cx) (op : Operator) (t : TIp) : Prop :=
  ∀ (pins : List (Addr × Obj)) (s : Shared) (σ : St) (H : Hp) (x y : V) (v u : Value) (Q : VK), Inv X pins σ H s → RelV x v → RelV y u → t x y H Q →
    wpAny (model X.prog X.w) X.A (inplaceOp op v u) (EP X pins σ Q) X.xe s
section
variable {X : Cx} {pos : Pos}
def gName (i : Nat) : TG := fun v σ H Q => Q (σ.set i (some v)) H
theorem pg_name {i : Nat} {x : Str} (hN : X.N.Nodup) (hi : X.N[i]? = some x) (hx : Loc X.env.scope x) (hf : X.fn x = true ∨ X.env.scope.names.lookup x = some .local := by first | exact .inl rfl | exact .inr rfl | assumption) : PG X (.Name x pos) (gName i) := by
  intro pins s σ H v u Q I r h
  exact wpAny_assign_Name (store_ok I hN hi hx r (fun s' I' => ⟨_, H, I', h⟩) hf)
def gNil : TGs := fun vs σ H Q => vs = [] ∧ Q σ H
def gCons (t : TG) (u : TGs) : TGs := fun vs σ H Q => ∃ v r, vs = v :: r ∧ t v σ H fun σ' H' => u r σ' H' Q
theorem pgs_nil : PGs X [] gNil := by
  intro pins s σ H vs us Q I r h
  obtain ⟨e, h⟩ := h
  subst e
  cases r
  exact assignInOrder_nil ⟨σ, H, I, h⟩
theorem pgs_cons {e : Expr} {es : List Expr} {t : TG} {u : TGs} (h1 : PG X e t) (h2 : PGs X es u)
    (hs : (assignEach (e :: es) X.env).map (·.2) = assign e X.env :: (assignEach es X.env).map (·.2) := by rfl) : PGs X (e :: es) (gCons t u) := by
  intro pins s σ H vs us Q I r h
  obtain ⟨v, vr, e1, h⟩ := h
  subst e1
  cases r with
  | cons r rr =>
    rw [hs]
    refine assignInOrder_cons (thn (h1 pins s σ H _ _ _ I r h) fun _ s1 ⟨σ1, H1, I1, q1⟩ => ?_)
    exact h2 pins s1 σ1 H1 _ _ Q I1 rr q1
def gTup (K : PySem.W.Frag) (n : Nat) (t : TGs) : TG := fun v σ H Q => ∃ a xs, v = .ref a ∧ SqT K H a xs ∧ xs.length = n ∧ t xs σ H Q
theorem pg_tup {es : List Expr} {k : Nat} {t : TGs} {n : Nat} (hc : X.calm = true) (h : PGs X es t)
    (hn : (assignEach es X.env).length = n := by rfl) (hst : (assignEach es X.env).findIdx? (·.1) = none := by rfl) : PG X (.Tuple es k pos) (gTup X.K n t) := by
  intro pins s σ H v u Q I r hw
  obtain ⟨a, xs, e1, hq, hl, hw⟩ := hw
  subst e1
  cases r
  obtain ⟨its, rv, ht, hz⟩ := I.tuple hq
  refine assign_Tuple_tuple (I.ok.hd hc) ht (by simp [hn, ← hl, rv.length]) hst fun h' hx => ?_
  have I1 : Inv X pins σ H { s with heap := h' } := I.kept (t' := s.toks) fun b o e => hx b o (Nat.ne_of_lt (Heap.lt_size e)) e
  exact h pins _ σ H xs _ Q I1 (by simpa using rv) hw
def gSub (to ti : TE) (t : TSet) : TG := fun v σ H Q => to σ H fun o H1 => ti σ H1 fun i H2 => t o i v H2 fun H3 => Q σ H3
theorem pg_sub {o i : Expr} {to ti : TE} {t : TSet} (ho : PE X o to) (hi : PE X i ti) (hs : PSet X t)
    (ha : ∀ v, assign (.Subscript o i pos) X.env v = (do
      let ov ← holding [v] (eval o X.env)
      let iv ← holding [v, ov] (eval i X.env)
      standAt pos
      holding [v, ov, iv] (setItem ov iv v)
      release [v, ov, iv] []) := by intro _; rfl) : PG X (.Subscript o i pos) (gSub to ti t) := by
  intro pins s σ H v u Q I r h
  rw [ha]
  refine wpAny_bind (wpAny_holding (thn (ho pins s σ H _ I h) fun ov s1 ⟨x, H1, I1, r1, q1⟩ => ?_))
  refine wpAny_bind (wpAny_holding (thn (hi pins s1 σ H1 _ I1 q1) fun iv s2 ⟨y, H2, I2, r2, q2⟩ => ?_))
  refine wpAny_bind (wpAny_standAt (wpAny_bind (wpAny_holding (thn (hs pins s2 σ H2 x y v ov iv u _ I2 r1 r2 r q2) fun _ s3 ⟨H3, I3, q3⟩ => ?_))))
  exact wpAny_release ⟨σ, H3, I3, q3⟩
def tAsg (te : TE) (g : TG) : TS := fun D σ H => te σ H fun x H1 => g x σ H1 D.nx
theorem ps_asg {tg e : Expr} {te : TE} {g : TG} (he : PE X e te) (hg : PG X tg g) (hs : swapsWithSole [tg] e pos.line X.env = pure false := by rfl) (hw : swappedStores [tg] e X.env = pure none := by rfl)
    (h1 : (assignEach [tg] X.env).map (·.2) = [assign tg X.env] := by rfl) : PS X (.Assign [tg] e pos) (tAsg te g) := by
  intro pins s σ H D I h
  refine wpAny_Assign_stores (thn (he pins s σ H _ I h) fun v s1 ⟨x, H1, I1, r1, q1⟩ => ?_) hs hw
  rw [h1]
  exact thn (hg pins s1 σ H1 x v _ I1 r1 q1) fun _ s2 q => q
theorem ps_set {i : Nat} {x : Str} {e : Expr} {te : TE} {pos' : Pos} (hN : X.N.Nodup) (hi : X.N[i]? = some x) (hx : Loc X.env.scope x) (he : PE X e te) (hs : swapsWith e (some (.Name x pos')) pos.line X.env = pure false := by rfl) (hf : X.fn x = true ∨ X.env.scope.names.lookup x = some .local := by first | exact .inl rfl | exact .inr rfl | assumption) :
    PS X (.Assign [.Name x pos'] e pos) (tAsg te (gName i)) := by
  intro pins s σ H D I h
  refine wpAny_Assign_Name (thn (he pins s σ H _ I h) fun v s1 ⟨y, H1, I1, r1, q1⟩ => ?_) hs
  exact store_ok I1 hN hi hx r1 (fun s2 I2 => ⟨_, H1, I2, q1⟩) hf
def tPar (i j : Nat) (ta : TA) : TS := fun D σ H => ta σ H fun vs H1 => ∃ v w, vs = [v, w] ∧ D.nx ((σ.set i (some v)).set j (some w)) H1
theorem ps_par {i j : Nat} {x y : Str} {a b : Expr} {ta : TA} {px py pt : Pos} {kt k2 pt2} (hc : X.calm = true) (hN : X.N.Nodup) (hi : X.N[i]? = some x) (hj : X.N[j]? = some y) (hij : i ≠ j)
    (hx : X.env.scope.names.lookup x = some .local) (hy : X.env.scope.names.lookup y = some .local) (ha : PA X [a, b] ta)
    (hw : swappedStores [.Tuple [.Name x px, .Name y py] kt pt] (.Tuple [a, b] k2 pt2) X.env = pure (some [x, y]))
    (hs : swapsWithSole [.Tuple [.Name x px, .Name y py] kt pt] (.Tuple [a, b] k2 pt2) pos.line X.env = pure false := by rfl) :
    PS X (.Assign [.Tuple [.Name x px, .Name y py] kt pt] (.Tuple [a, b] k2 pt2) pos) (tPar i j ta) := by
  intro pins s σ H D I h
  rw [exec_Assign_arm]
  refine wpAny_bind (wpAny_standAt ?_)
  rw [hs]
  refine wpAny_bind (wpAny_pure ?_)
  rw [if_neg (by decide)]
  refine wpAny_bind (Tuple_ (thn (ha _ pins s σ H _ I h) fun us s1 ⟨vs, H1, I1, r1, q1⟩ => ?_))
  obtain ⟨v, w, e1, q1⟩ := q1
  subst e1
  obtain ⟨u1, u2, rfl, rv, rw'⟩ : ∃ u1 u2, us = [u1, u2] ∧ RelV v u1 ∧ RelV w u2 := by
    cases r1 with
    | cons p q =>
      cases q with
      | cons p' q' =>
        cases q'
        exact ⟨_, _, rfl, p, p'⟩
  refine wpAny_newObj_type ?_ (by show 2 ≤ sizeLine; decide)
  have I2 : Inv X pins σ H1 { s1 with heap := s1.heap.push { cls := .type "tuple", data := .seq [u1, u2].toArray } } := I1.kept (t' := s1.toks) fun b o e => Heap.get?_push_of_some _ e
  rw [hw]
  refine wpAny_bind (wpAny_pure ?_)
  show wpAny (model X.prog X.w) X.A (do rule "assign.swapped-stores"; let items ← unpackItems (.ref s1.heap.objs.size) 2 none; assignInOrder [fun v => bindName X.env y v, fun v => bindName X.env x v] items.reverse; pure Flow.next) _ _ _
  refine wpAny_bind (wpAny_rule (wpAny_bind (unpackItems_tuple (items := #[u1, u2]) (I.ok.hd hc) (IsTup.new s1.heap _) fun h' hx' => ?_)))
  have I3 := I2.kept (h' := h') (t' := s1.toks) fun b o e => hx' b o (Nat.ne_of_lt (Heap.lt_size e)) e
  show wpAny _ _ (assignInOrder [fun v => bindName X.env y v, fun v => bindName X.env x v] [u2, u1] >>= fun _ => pure Flow.next) _ _ _
  refine wpAny_bind (assignInOrder_cons (wpAny_bindName (store_ok I3 hN hj (.inl hy) rw' (fun s2 I4 => ?_) (.inr hy))))
  refine assignInOrder_cons (wpAny_bindName (store_ok I4 hN hi (.inl hx) rv (fun s3 I5 => assignInOrder_nil (wpAny_pure ?_)) (.inr hx)))
  rw [List.set_comm _ _ (Ne.symm hij)] at I5
  exact ⟨_, H1, I5, q1⟩
def tAug (i : Nat) (te : TE) (ti : TIp) : TS := fun D σ H => ∃ x, σ[i]? = some (some x) ∧ te σ H fun y H1 => ti x y H1 fun z H2 => D.nx (σ.set i (some z)) H2
theorem ps_aug {i : Nat} {x : Str} {e : Expr} {te : TE} {op : Operator} {ti : TIp} {pos' : Pos} (hN : X.N.Nodup) (hi : X.N[i]? = some x) (hx : Loc X.env.scope x) (he : PE X e te) (ho : PIp X op ti) (hf : X.fn x = true ∨ X.env.scope.names.lookup x = some .local := by first | exact .inl rfl | exact .inr rfl | assumption) :
    PS X (.AugAssign (.Name x pos') op e pos) (tAug i te ti) := by
  intro pins s σ H D I h
  obtain ⟨v, e1, h⟩ := h
  obtain ⟨m, hn, hl⟩ := I.loc
  have vis : Vis X.env.scope x := by rcases hx with k | k; exact .inl k; exact .inr (.inl k)
  obtain ⟨u, r, l⟩ := hl i x v hi e1 vis
  refine wpAny_AugAssign_Name ?_
  have go : wpAny (model X.prog X.w) X.A (eval e X.env) (fun w s₂ => wpAny (model X.prog X.w) X.A (inplaceOp op u w) (fun r s₃ => wpAny (model X.prog X.w) X.A (storeName X.env x r) (fun _ => SP X pins D .next) X.xe s₃) X.xe s₂) X.xe s := by
    refine thn (he pins s σ H _ I h) fun w s1 ⟨y, H1, I1, r1, q1⟩ => ?_
    refine thn (ho pins s1 σ H1 v y u w _ I1 r r1 q1) fun z s2 ⟨zv, H2, I2, r2, q2⟩ => ?_
    exact store_ok I2 hN hi hx r2 (fun s3 I3 => ⟨_, H2, I3, q2⟩) hf
  rcases l with ⟨hk, hm⟩ | ⟨hk, c, hc, hcell⟩
  · exact wpAny_loadName_local I.ok.kind hk hn hm go
  · rcases hk with hk | hk
    · exact wpAny_loadName_cell I.ok.kind hk hc hcell go
    · rcases hx with k | k
      · have : X.env.scope.names.lookup x = some .free := hk
        rw [k] at this; cases this
      · have : X.env.scope.names.lookup x = some .free := hk
        rw [k] at this; cases this
def tAugS (to ti te : TE) (tget : V → V → Hp → VK → Prop) (tip : TIp) (tset : TSet) : TS := fun D σ H => to σ H fun o H1 => ti σ H1 fun i H2 => tget o i H2 fun x H3 => te σ H3 fun y H4 => tip x y H4 fun z H5 => tset o i z H5 fun H6 => D.nx σ H6
def PGet (X : Cx) (t : V → V → Hp → VK → Prop) : Prop :=
  ∀ (pins : List (Addr × Obj)) (s : Shared) (σ : St) (H : Hp) (o i : V) (ov iv : Value) (Q : VK), Inv X pins σ H s → RelV o ov → RelV i iv → t o i H Q →
    wpAny (model X.prog X.w) X.A (getItem ov iv) (EP X pins σ Q) X.xe s
theorem ps_augS {o i e : Expr} {to ti te : TE} {tget : V → V → Hp → VK → Prop} {tip : TIp} {tset : TSet} {op : Operator} {tpos : Pos} (ho : PE X o to) (hi : PE X i ti) (hg : PGet X tget) (he : PE X e te) (hp : PIp X op tip) (hs : PSet X tset)
    (ha : ∀ ov iv new, augStore i ov iv new = (do holding [new, ov, iv] (setItem ov iv new); release [new, ov, iv] []; pure .next) := by intros; rfl) : PS X (.AugAssign (.Subscript o i tpos) op e pos) (tAugS to ti te tget tip tset) := by
  intro pins s σ H D I h
  refine wpAny_AugAssign_SubscriptAny (thn (ho pins s σ H _ I h) fun ov s1 ⟨x1, H1, I1, r1, q1⟩ => ?_) ha
  refine thn (hi pins s1 σ H1 _ I1 q1) fun iv s2 ⟨x2, H2, I2, r2, q2⟩ => ?_
  refine thn (hg pins s2 σ H2 x1 x2 ov iv _ I2 r1 r2 q2) fun old s3 ⟨x3, H3, I3, r3, q3⟩ => ?_
  refine thn (he pins s3 σ H3 _ I3 q3) fun v s4 ⟨x4, H4, I4, r4, q4⟩ => ?_
  refine thn (hp pins s4 σ H4 x3 x4 old v _ I4 r3 r4 q4) fun new s5 ⟨x5, H5, I5, r5, q5⟩ => ?_
  exact thn (hs pins s5 σ H5 x1 x2 x5 ov iv new _ I5 r1 r2 r5 q5) fun _ s6 ⟨H6, I6, q6⟩ => ⟨σ, H6, I6, q6⟩
def ipI (f : Int → Int → Int) : TIp := fun x y H Q => ∃ i j, x = .int i ∧ y = .int j ∧ Q (.int (f i j)) H
theorem ip_add : PIp X .Add (ipI fun i j => i + j) := by
  intro pins s σ H x y v u Q I r1 r2 h
  obtain ⟨i, j, e1, e2, q⟩ := h
  subst e1; subst e2
  obtain ⟨t, rfl⟩ := r1
  obtain ⟨t', rfl⟩ := r2
  exact iadd_int ⟨.int _, H, I.tok _, ⟨_, rfl⟩, q⟩
theorem ip_sub : PIp X .Sub (ipI fun i j => i - j) := by
  intro pins s σ H x y v u Q I r1 r2 h
  obtain ⟨i, j, e1, e2, q⟩ := h
  subst e1; subst e2
  obtain ⟨t, rfl⟩ := r1
  obtain ⟨t', rfl⟩ := r2
  exact isub_int ⟨.int _, H, I.tok _, ⟨_, rfl⟩, q⟩
end
section
variable {X : Cx} {pos : Pos}
def tWhile (c : TT) (tb : TS) : TS := fun D σ H => ∃ W : Nat → St → Hp → Prop, (∃ m, W m σ H) ∧ ∀ m σ H, W m σ H →
  c σ H fun b H1 => if b = true then ∃ N : St → Hp → Prop, (∀ σ' H', N σ' H' → ∃ m', m' < m ∧ W m' σ' H') ∧ tb { D with nx := N, ct := N, bk := D.nx } σ H1 else D.nx σ H1
theorem ps_while {c : Expr} {body : List Stmt} {tc : TT} {tb : TS} (hp : PassesOwn (model X.prog X.w) X.A X.env X.xe) (hc : PT X c tc) (hb : PSs X body tb) : PS X (.While c body [] pos) (tWhile tc tb) := by
  intro pins s σ H D I h
  obtain ⟨W, ⟨m0, w0⟩, turn⟩ := h
  refine wpAny_While (codeAny_whileLoop (fun n s' => ∃ σ' H', Inv X pins σ' H' s' ∧ W n σ' H') ?_ m0 ⟨σ, H, I, w0⟩)
  rintro n s1 ⟨σ1, H1, I1, w1⟩
  refine wpAny_passesOwn hp (thn (hc pins s1 σ1 H1 _ I1 (turn n σ1 H1 w1)) fun b s2 ⟨H2, I2, q2⟩ => ?_)
  cases b with
  | true =>
    obtain ⟨N, hN, q2⟩ := q2
    rw [if_pos rfl]
    refine wpAny_passesOwn hp (thn (hb pins s2 σ1 H2 _ I2 q2) fun f s3 q3 => ?_)
    cases f with
    | next =>
      obtain ⟨σ3, H3, I3, n3⟩ := q3
      obtain ⟨m', hm, w3⟩ := hN σ3 H3 n3
      exact ⟨m', hm, σ3, H3, I3, w3⟩
    | cont =>
      obtain ⟨σ3, H3, I3, n3⟩ := q3
      obtain ⟨m', hm, w3⟩ := hN σ3 H3 n3
      exact ⟨m', hm, σ3, H3, I3, w3⟩
    | brk => exact q3
    | ret v => exact q3
  | false =>
    rw [if_neg Bool.false_ne_true]
    exact wpAny_execs_nil ⟨σ1, H2, I2, q2⟩
end
structure It where
  go : Nat → Hp → Prop
  yld : Nat → Hp → V → Hp → Prop
  stop : Nat → Hp → Prop
def FpOk (X : Cx) (pins : List (Addr × Obj)) (H : Hp) (b : Addr) : Prop :=
  H b = none ∧ b ≠ X.env.locals ∧ b ∉ X.fs ∧ (b ∈ X.ex ∨ X.s_0.heap.objs.size ≤ b) ∧ (∀ x c, X.env.cells.lookup x = some c → c ≠ b) ∧ ∀ p ∈ X.pn ++ pins, p.1 ≠ b
theorem Inv.fpOk {X : Cx} {pins : List (Addr × Obj)} {σ : St} {H H' : Hp} {s : Shared} {b : Addr} (I : Inv X pins σ H s) (hb : s.heap.objs.size ≤ b) (hn : H' b = none) : FpOk X pins H' b := by
  refine ⟨hn, Nat.ne_of_gt (Nat.lt_of_lt_of_le I.lt hb), I.nofs hb, .inr (Nat.le_trans I.sz hb), fun x c e z => ?_, fun p hp z => ?_⟩
  · obtain ⟨v, q⟩ := I.cell x c e
    exact absurd (Nat.lt_of_lt_of_le q.lt (by rw [z]; exact hb)) (Nat.lt_irrefl _)
  · exact absurd (Nat.lt_of_lt_of_le (Heap.lt_size (I.pin p hp).1) (by rw [z]; exact hb)) (Nat.lt_irrefl _)
structure Turn (P : Program) (w : World) (K : PySem.W.Frag) (tg : Expr) (J : It) (fp : List Addr) (it : Addr) (tn : Nat → Heap → Prop) : Prop where
  mem : it ∈ fp
  obj : ∀ i h, tn i h → ∀ b ∈ fp, ∃ o, h.get? b = some o ∧ ∀ v, o.data ≠ .cell v
  keep : ∀ i h h', tn i h → (∀ b ∈ fp, ∀ o, h.get? b = some o → h'.get? b = some o) → tn i h'
  item : ∀ (X : Cx), X.prog = P → X.w = w → X.K = K → X.calm = true → ∀ (i : Nat) (pins : List (Addr × Obj)) (s : Shared) (σ : St) (H : Hp) (E : Value → Shared → Prop), Inv X pins σ H s → (∀ b ∈ fp, FpOk X pins H b) → tn i s.heap → J.go i H →
    wpAny (model P w) X.A (pyNext (.ref it)) (fun r s1 => ∃ u, r = some u ∧
      wpAny (model P w) X.A (letOwnedTupleGo tg (.ref it) u) (fun _ s2 => ∃ x H', Inv X pins σ H' s2 ∧ RelV x u ∧ J.yld i H x H' ∧ tn (i + 1) s2.heap ∧ ∀ b ∈ fp, H' b = none) E s1) E s
  done : ∀ (X : Cx), X.prog = P → X.w = w → X.K = K → X.calm = true → ∀ (i : Nat) (pins : List (Addr × Obj)) (s : Shared) (σ : St) (H : Hp) (E : Value → Shared → Prop), Inv X pins σ H s → (∀ b ∈ fp, FpOk X pins H b) → tn i s.heap → J.stop i H →
    wpAny (model P w) X.A (pyNext (.ref it)) (fun r s1 => r = none ∧ Inv X pins σ H s1) E s
  self : ∀ (A : Around) (i : Nat) (s : Shared) (Q : Value → Shared → Prop) (E : Value → Shared → Prop), tn i s.heap → Q (.ref it) s → wpAny (model P w) A (pyIter (.ref it)) Q E s
abbrev TI := St → Hp → (It → Hp → Prop) → Prop
def PIE (X : Cx) (pins : List (Addr × Obj)) (σ : St) (tg : Expr) (R : It → Hp → Prop) (itv : Value) (s2 : Shared) : Prop :=
  ∃ (it : Addr) (fp : List Addr) (tn : Nat → Heap → Prop) (J : It) (H' : Hp), itv = .ref it ∧ Inv X pins σ H' s2 ∧ Turn X.prog X.w X.K tg J fp it tn ∧ tn 0 s2.heap ∧ (∀ b ∈ fp, FpOk X pins H' b) ∧ R J H'
def PI (X : Cx) (tg iter : Expr) (wi : TI) : Prop :=
  ∀ (pins : List (Addr × Obj)) (s : Shared) (σ : St) (H : Hp) (R : It → Hp → Prop), Inv X pins σ H s → wi σ H R →
    wpAny (model X.prog X.w) X.A (eval iter X.env) (fun v s1 => wpAny (model X.prog X.w) X.A (pyIter v) (PIE X pins σ tg R) X.xe s1) X.xe s
theorem go_of {M : Model} {A : Around} {E : Value → Shared → Prop} {s : Shared} {tg : Expr} {it : Addr} {u : Value} {o : Obj} {n : String} {vs : Array Value} {Q : Unit → Shared → Prop} (ho : s.heap.get? it = some o) (hc : o.cls = .type n) (hd : o.data = .fields vs)
    (hn : ["enumerate", "zip", "dict_itemiterator", "dict_reverseitemiterator", "odict_iterator", "itertools.zip_longest", "itertools.pairwise"].contains n = false) (hQ : Q () s) : wpAny M A (letOwnedTupleGo tg (.ref it) u) Q E s := by
  unfold letOwnedTupleGo
  cases tg <;> first
    | exact wpAny_pure hQ
    | (cases u <;> first
        | exact wpAny_pure hQ
        | (refine wpAny_bind (wpAny_load ho ?_)
           rw [hc, hd]
           show wpAny M A (if (["enumerate", "zip", "dict_itemiterator", "dict_reverseitemiterator", "odict_iterator", "itertools.zip_longest", "itertools.pairwise"].contains n && vs[0]? == some (rawInt _)) = true then _ else _) Q E s
           rw [if_neg (by intro h; rw [hn, Bool.false_and] at h; cases h)]
           exact wpAny_pure hQ))
def Itl (K : PySem.W.Frag) (a : Addr) : It :=
  ⟨fun i H => ∃ xs x, SqL K H a xs ∧ xs[i]? = some x, fun i H x H' => H' = H ∧ ∀ xs, SqL K H a xs → xs[i]? = some x, fun i H => ∃ xs, SqL K H a xs ∧ xs.length ≤ i⟩
def Itt (K : PySem.W.Frag) (a : Addr) : It :=
  ⟨fun i H => ∃ xs x, SqT K H a xs ∧ xs[i]? = some x, fun i H x H' => H' = H ∧ ∀ xs, SqT K H a xs → xs[i]? = some x, fun i H => ∃ xs, SqT K H a xs ∧ xs.length ≤ i⟩
def Itr (lo : Int) (n : Nat) : It := ⟨fun i _ => i < n, fun i H x H' => H' = H ∧ x = .int (lo + i), fun i _ => n ≤ i⟩
theorem turn_list {P : Program} {w : World} {K : PySem.W.Frag} {tg : Expr} (a it : Addr) : Turn P w K tg (Itl K a) [it] it (fun i h => h.IsListIter it a i) where
  mem := by simp
  obj := fun i h st b hb => by
    have e : b = it := by simpa using hb
    subst e
    obtain ⟨o, e, c, d⟩ := st
    exact ⟨o, e, fun v z => by rw [d] at z; cases z⟩
  keep := fun i h h' st k => st.at fun o e => k it (by simp) o e
  item := by
    intro X hP hw hK hc i pins s σ H E I hf st hg
    subst hP hw hK
    obtain ⟨xs, x, hq, hx⟩ := hg
    obtain ⟨its, rv, p, hz⟩ := I.list hq
    obtain ⟨u, hu, ru⟩ := rv.get hx
    obtain ⟨f0, f1, f2, f3, f4, f5⟩ := hf it (by simp)
    refine wpAny_pyNext_list_item st p.isList (x := u) (by simpa using hu) fun h' st' sb => ?_
    have I1 : Inv X pins σ H { s with heap := h' } := I.turned (t' := s.toks) (fun b o hb e => (sb.2 b hb).trans e) f0 f1 f3 f4 f5
    obtain ⟨o, e, c, d⟩ := id st'
    exact ⟨u, rfl, go_of (s := { s with heap := h' }) e c d (by decide) ⟨x, H, I1, ru, ⟨rfl, fun ys hy => by rw [I.list_inj hy hq]; exact hx⟩, st', fun b hb => (hf b hb).1⟩⟩
  done := by
    intro X hP hw hK hc i pins s σ H E I hf st hg
    subst hP hw hK
    obtain ⟨xs, hq, hx⟩ := hg
    obtain ⟨its, rv, p, hz⟩ := I.list hq
    obtain ⟨f0, f1, f2, f3, f4, f5⟩ := hf it (by simp)
    have hl := rv.length
    exact wpAny_pyNext_list_end (I.ok.hd hc) st p.isList (by simp; omega) fun h' eb => ⟨rfl, I.turned (t' := s.toks) (fun b o hb e => eb b o hb e) f0 f1 f3 f4 f5⟩
  self := fun _ _ _ _ _ st h => wpAny_pyIter_listiter st h
theorem turn_tuple {P : Program} {w : World} {K : PySem.W.Frag} {tg : Expr} (a it : Addr) : Turn P w K tg (Itt K a) [it] it (fun i h => h.IsTupleIter it a i) where
  mem := by simp
  obj := fun i h st b hb => by
    have e : b = it := by simpa using hb
    subst e
    obtain ⟨o, e, c, d⟩ := st
    exact ⟨o, e, fun v z => by rw [d] at z; cases z⟩
  keep := fun i h h' st k => st.at fun o e => k it (by simp) o e
  item := by
    intro X hP hw hK hc i pins s σ H E I hf st hg
    subst hP hw hK
    obtain ⟨xs, x, hq, hx⟩ := hg
    obtain ⟨its, rv, p, hz⟩ := I.tuple hq
    obtain ⟨u, hu, ru⟩ := rv.get hx
    obtain ⟨f0, f1, f2, f3, f4, f5⟩ := hf it (by simp)
    refine wpAny_pyNext_tuple_item st (show s.heap.IsTuple a its.toArray from p) (x := u) (by simpa using hu) fun h' st' sb => ?_
    have I1 : Inv X pins σ H { s with heap := h' } := I.turned (t' := s.toks) (fun b o hb e => (sb.2 b hb).trans e) f0 f1 f3 f4 f5
    obtain ⟨o, e, c, d⟩ := id st'
    exact ⟨u, rfl, go_of (s := { s with heap := h' }) e c d (by decide) ⟨x, H, I1, ru, ⟨rfl, fun ys hy => by rw [I.tuple_inj hy hq]; exact hx⟩, st', fun b hb => (hf b hb).1⟩⟩
  done := by
    intro X hP hw hK hc i pins s σ H E I hf st hg
    subst hP hw hK
    obtain ⟨xs, hq, hx⟩ := hg
    obtain ⟨its, rv, p, hz⟩ := I.tuple hq
    obtain ⟨f0, f1, f2, f3, f4, f5⟩ := hf it (by simp)
    have hl := rv.length
    exact wpAny_pyNext_tuple_end (I.ok.hd hc) st (show s.heap.IsTuple a its.toArray from p) (by simp; omega) fun h' eb => ⟨rfl, I.turned (t' := s.toks) (fun b o hb e => eb b o hb e) f0 f1 f3 f4 f5⟩
  self := fun _ _ _ _ _ st h => wpAny_pyIter_tupleiter st h
theorem turn_range {P : Program} {w : World} {K : PySem.W.Frag} {tg : Expr} (it : Addr) (lo : Int) (n : Nat) : Turn P w K tg (Itr lo n) [it] it (fun i h => IsRangeIter h it (lo + (i : Nat) * 1) ((n : Int) - (i : Nat)) 1) where
  mem := by simp
  obj := fun i h st b hb => by
    have e : b = it := by simpa using hb
    subst e
    exact ⟨_, st, fun v z => by
      have z' : Data.fields _ = Data.cell v := z
      cases z'⟩
  keep := fun i h h' st k => k it (by simp) _ st
  item := by
    intro X hP hw hK hc i pins s σ H E I hf st hg
    subst hP hw hK
    obtain ⟨f0, f1, f2, f3, f4, f5⟩ := hf it (by simp)
    have W := Walks.range (prog := X.prog) (w := X.w) (I.ok.hd hc) it lo 1 n
    refine W.item i s _ _ hg st fun v h' tk hv st' kk => ?_
    obtain ⟨t, rfl⟩ := hv
    have I1 : Inv X pins σ H { s with heap := h', toks := tk } := I.turned (fun b o hb e => kk b o (by simpa using hb) e) f0 f1 f3 f4 f5
    refine ⟨_, rfl, go_of (s := { s with heap := h', toks := tk }) (n := "range_iterator") st' rfl rfl (by decide) ⟨.int (lo + i), H, I1, ⟨t, ?_⟩, ⟨rfl, rfl⟩, st', fun b hb => (hf b hb).1⟩⟩
    rw [Int.mul_one]
  done := by
    intro X hP hw hK hc i pins s σ H E I hf st hg
    subst hP hw hK
    obtain ⟨f0, f1, f2, f3, f4, f5⟩ := hf it (by simp)
    exact wpAny_pyNext_range_end (I.ok.hd hc) st (by have : n ≤ i := hg; omega) fun h' eb => ⟨rfl, I.turned (t' := s.toks) (fun b o hb e => eb b o hb e) f0 f1 f3 f4 f5⟩
  self := fun _ _ _ _ _ st h => wpAny_pyIter_rangeiter st h
end L2
namespace L2
open PySem PySem.Spec PyProof.Rows
section
variable {X : Cx} {tg : Expr}
def iList (K : PySem.W.Frag) (tl : TE) : TI := fun σ H R => tl σ H fun x H1 => ∃ a, x = .ref a ∧ (∃ xs, SqL K H1 a xs) ∧ R (Itl K a) H1
def iTup (K : PySem.W.Frag) (tl : TE) : TI := fun σ H R => tl σ H fun x H1 => ∃ a, x = .ref a ∧ (∃ xs, SqT K H1 a xs) ∧ R (Itt K a) H1
theorem pi_list {l : Expr} {tl : TE} (hl : PE X l tl) : PI X tg l (iList X.K tl) := by
  intro pins s σ H R I h
  refine thn (hl pins s σ H _ I h) fun v s1 ⟨x, H1, I1, r1, q1⟩ => ?_
  obtain ⟨a, e, ⟨xs, hq⟩, q⟩ := q1
  subst e
  cases r1
  obtain ⟨its, rv, p, hz⟩ := I1.list hq
  refine wpAny_pyIter_list p.isList ?_
  refine ⟨s1.heap.objs.size, [s1.heap.objs.size], _, _, H1, rfl, I1.kept (t' := s1.toks) fun b o e => Heap.get?_push_of_some _ e, turn_list a _, ⟨_, Heap.get?_push_size _ rfl, rfl, rfl⟩, fun b hb => ?_, q⟩
  have e : b = s1.heap.objs.size := by simpa using hb
  subst e
  exact I1.fpOk (Nat.le_refl _) (I1.hok.fresh (Nat.le_refl _))
theorem pi_tup {l : Expr} {tl : TE} (hl : PE X l tl) : PI X tg l (iTup X.K tl) := by
  intro pins s σ H R I h
  refine thn (hl pins s σ H _ I h) fun v s1 ⟨x, H1, I1, r1, q1⟩ => ?_
  obtain ⟨a, e, ⟨xs, hq⟩, q⟩ := q1
  subst e
  cases r1
  obtain ⟨its, rv, p, hz⟩ := I1.tuple hq
  refine wpAny_pyIter_tuple (show s1.heap.IsTuple a its.toArray from p) ?_
  refine ⟨s1.heap.objs.size, [s1.heap.objs.size], _, _, H1, rfl, I1.kept (t' := s1.toks) fun b o e => Heap.get?_push_of_some _ e, turn_tuple a _, ⟨_, Heap.get?_push_size _ rfl, rfl, rfl⟩, fun b hb => ?_, q⟩
  have e : b = s1.heap.objs.size := by simpa using hb
  subst e
  exact I1.fpOk (Nat.le_refl _) (I1.hok.fresh (Nat.le_refl _))
theorem range_it {pins : List (Addr × Obj)} {σ : St} {H : Hp} {s : Shared} {R : It → Hp → Prop} {E : Value → Shared → Prop} {lo hi : Int} {t u v : Tok} {tk : Nat} (I : Inv X pins σ H s) (h1 : -(2 ^ 62) ≤ lo) (h2 : lo < 2 ^ 62) (h3 : -(2 ^ 62) ≤ hi) (h4 : hi < 2 ^ 62)
    (q : R (Itr lo (hi - lo).toNat) H) : wpAny (model X.prog X.w) X.A (pyIter (.ref s.heap.objs.size)) (PIE X pins σ tg R) E { s with heap := s.heap.push { cls := .type "range", data := .fields #[.int lo t, .int hi u, .int 1 v] }, toks := tk } := by
  refine wpAny_pyIter_range (IsRange.new ..) (small_one h1 h2 h3 h4) ?_
  have I1 : Inv X pins σ H { s with heap := s.heap.push { cls := .type "range", data := .fields #[.int lo t, .int hi u, .int 1 v] }, toks := tk } := I.kept fun b o e => Heap.get?_push_of_some _ e
  refine ⟨(s.heap.push { cls := .type "range", data := .fields #[.int lo t, .int hi u, .int 1 v] }).objs.size, [(s.heap.push { cls := .type "range", data := .fields #[.int lo t, .int hi u, .int 1 v] }).objs.size], _, _, H, rfl,
    I1.kept (t' := tk) fun b o e => Heap.get?_push_of_some _ e, turn_range _ lo (hi - lo).toNat, ?_, fun b hb => ?_, q⟩
  · have e1 : lo + ((0 : Nat) : Int) * 1 = lo := by simp
    have e2 : (((hi - lo).toNat : Nat) : Int) - ((0 : Nat) : Int) = Builtin.Range.rangeSize lo hi 1 := by rw [rangeSize_one]; split <;> omega
    show IsRangeIter _ _ (lo + ((0 : Nat) : Int) * 1) ((((hi - lo).toNat : Nat) : Int) - ((0 : Nat) : Int)) 1
    rw [e1, e2]
    exact Heap.get?_push_size _ rfl
  · have e : b = (s.heap.push { cls := .type "range", data := .fields #[.int lo t, .int hi u, .int 1 v] }).objs.size := by simpa using hb
    subst e
    exact I1.fpOk (Nat.le_refl _) (I1.hok.fresh (Nat.le_refl _))
def iRng1 (ta : TA) : TI := fun σ H R => ta σ H fun vs H1 => ∃ j : Int, vs = [.int j] ∧ -(2 ^ 62) ≤ j ∧ j < 2 ^ 62 ∧ R (Itr 0 j.toNat) H1
def iRng2 (ta : TA) : TI := fun σ H R => ta σ H fun vs H1 => ∃ i j : Int, vs = [.int i, .int j] ∧ (-(2 ^ 62) ≤ i ∧ i < 2 ^ 62 ∧ -(2 ^ 62) ≤ j ∧ j < 2 ^ 62) ∧ R (Itr i (j - i).toNat) H1
theorem pi_range1 {a : Expr} {ta : TA} {p pos : Pos} (hg : Gl X "range") (hm : X.mg "range" = none) (ha : PA X [a] ta) (hs : starEach [a] X.env = [(false, eval a X.env)] := by rfl) : PI X tg (.Call (.Name "range" p) [a] [] pos) (iRng1 ta) := by
  intro pins s σ H R I h
  refine Call_ (ld_blt I hg hm boot_range (PyProof.Rows.callWith_type1 (thn (ha pos pins s σ H _ I h) fun us s1 ⟨vs, H1, I1, r1, q1⟩ => ?_) hs rfl))
  obtain ⟨j, e, q1, q2, q⟩ := q1
  subst e
  cases r1 with
  | cons r rr =>
    cases rr
    obtain ⟨t, rfl⟩ := r
    exact call_range_1 (range_it I1 (by omega) (by omega) q1 q2 (by simpa using q))
theorem pi_range2 {a b : Expr} {ta : TA} {p pos : Pos} (hg : Gl X "range") (hm : X.mg "range" = none) (ha : PA X [a, b] ta) (hs : starEach [a, b] X.env = [(false, eval a X.env), (false, eval b X.env)] := by rfl) (hs2 : starEach [b] X.env = [(false, eval b X.env)] := by rfl) :
    PI X tg (.Call (.Name "range" p) [a, b] [] pos) (iRng2 ta) := by
  intro pins s σ H R I h
  refine Call_ (ld_blt I hg hm boot_range (PyProof.Rows.callWith_type1 (thn (ha pos pins s σ H _ I h) fun us s1 ⟨vs, H1, I1, r1, q1⟩ => ?_) (by rw [hs, hs2]) (by rw [hs2]; rfl)))
  obtain ⟨i, j, e, ⟨q1, q2, q3, q4⟩, q⟩ := q1
  subst e
  cases r1 with
  | cons r rr =>
    cases rr with
    | cons r' rr =>
      cases rr
      obtain ⟨t, rfl⟩ := r
      obtain ⟨t', rfl⟩ := r'
      exact call_range_2 (range_it I1 q1 q2 q3 q4 q)
def tFor (wi : TI) (g : TG) (tb : TS) : TS := fun D σ H => wi σ H fun J H1 => ∃ W : Nat → Nat → St → Hp → Prop, (∃ m, W 0 m σ H1) ∧ ∀ i m σ H, W i m σ H →
  (J.stop i H ∧ D.nx σ H) ∨ (J.go i H ∧ ∃ N : St → Hp → Prop, (∀ σ' H', N σ' H' → ∃ m', m' < m ∧ W (i + 1) m' σ' H') ∧ ∀ x H', J.yld i H x H' → g x σ H' fun σ2 H2 => tb { D with nx := N, ct := N, bk := D.nx } σ2 H2)
def pinsAt (fp : List Addr) (h : Heap) : List (Addr × Obj) := fp.filterMap fun b => (h.get? b).map fun o => (b, o)
theorem mem_pinsAt {fp : List Addr} {h : Heap} {b : Addr} {o : Obj} (hb : b ∈ fp) (e : h.get? b = some o) : (b, o) ∈ pinsAt fp h := List.mem_filterMap.mpr ⟨b, hb, by rw [e]; rfl⟩
theorem of_pinsAt {fp : List Addr} {h : Heap} {p : Addr × Obj} (hp : p ∈ pinsAt fp h) : p.1 ∈ fp ∧ h.get? p.1 = some p.2 := by
  obtain ⟨b, hb, e⟩ := List.mem_filterMap.mp hp
  cases q : h.get? b with
  | none => rw [q] at e; cases e
  | some o =>
    rw [q] at e
    have e' : (b, o) = p := Option.some.inj e
    subst e'
    exact ⟨hb, q⟩
theorem Inv.pinned {pins : List (Addr × Obj)} {σ : St} {H : Hp} {s : Shared} {fp : List Addr} (I : Inv X pins σ H s) (hf : ∀ b ∈ fp, FpOk X pins H b) (ho : ∀ b ∈ fp, ∃ o, s.heap.get? b = some o ∧ ∀ v, o.data ≠ .cell v) : Inv X (pins ++ pinsAt fp s.heap) σ H s :=
  I.pins_of fun p hp => (List.mem_append.mp hp).elim (fun z => I.pin p (List.mem_append_right _ z)) fun z => by
    obtain ⟨hb, e⟩ := of_pinsAt z
    obtain ⟨f0, f1, f2, _⟩ := hf p.1 hb
    obtain ⟨o, e', d⟩ := ho p.1 hb
    rw [e] at e'; cases e'
    exact ⟨e, f0, f1, f2, d⟩
theorem Inv.unpinned {pins pl : List (Addr × Obj)} {σ : St} {H : Hp} {s : Shared} (I : Inv X (pins ++ pl) σ H s) : Inv X pins σ H s := I.pins_of fun p hp => I.pin p (List.mem_append_right _ (List.mem_append_left _ hp))
theorem ps_for {iter : Expr} {body : List Stmt} {wi : TI} {g : TG} {tb : TS} {pos : Pos} (hp : PassesOwn (model X.prog X.w) X.A X.env X.xe) (hc : X.calm = true) (hi : PI X tg iter wi) (hg : PG X tg g) (hb : PSs X body tb)
    (hs : ∀ x, foldedSetIterable iter X.env x = pure x := by intro _; rfl) : PS X (.For tg iter body [] pos) (tFor wi g tb) := by
  intro pins s σ H D I h
  refine wpAny_For (thn (hi pins s σ H _ I h) fun v s1 h1 => thn h1 fun itv s2 h2 => ?_) hs
  obtain ⟨it, fp, tn, J, H2, e, I2, T, st2, f2, W, ⟨m0, w0⟩, turn⟩ := h2
  subst e
  -- what stays true of the iterator's objects through the loop
  have stat : ∀ {H' : Hp}, (∀ b ∈ fp, H' b = none) → ∀ b ∈ fp, FpOk X pins H' b := fun hn b hb => ⟨hn b hb, (f2 b hb).2⟩
  refine codeAny_forLoop_any (fun n s' => ∃ i σ' H', Inv X pins σ' H' s' ∧ tn i s'.heap ∧ (∀ b ∈ fp, H' b = none) ∧ W i n σ' H') ?_ m0 ⟨0, σ, H2, I2, st2, fun b hb => (f2 b hb).1, w0⟩
  rintro n s3 ⟨i, σ3, H3, I3, st3, fr3, w3⟩
  rcases turn i n σ3 H3 w3 with ⟨stop, qn⟩ | ⟨go, N, hN, step⟩
  · refine wpAny_passesOwn hp (thn (T.done X rfl rfl rfl hc i pins s3 σ3 H3 X.xe I3 (stat fr3) st3 stop) fun r s4 ⟨hr, I4⟩ => ?_)
    subst hr
    exact wpAny_execs_nil ⟨σ3, H3, I4, qn⟩
  · refine wpAny_passesOwn hp (thn (T.item X rfl rfl rfl hc i pins s3 σ3 H3 X.xe I3 (stat fr3) st3 go) fun r s4 ⟨u, hr, h4⟩ => ?_)
    subst hr
    refine wpAny_passesOwn hp (thn h4 fun _ s5 ⟨x, H5, I5, r5, y5, st5, fr5⟩ => ?_)
    have I5' := I5.pinned (stat fr5) (T.obj _ _ st5)
    refine wpAny_passesOwn hp (thn (hg _ s5 σ3 H5 x u _ I5' r5 (step x H5 y5)) fun _ s6 ⟨σ6, H6, I6, q6⟩ => ?_)
    refine wpAny_passesOwn hp (thn (hb _ s6 σ6 H6 _ I6 q6) fun f s7 q7 => ?_)
    have again : ∀ {σ7 : St} {H7 : Hp}, Inv X (pins ++ pinsAt fp s5.heap) σ7 H7 s7 → N σ7 H7 → ∃ m, m < n ∧ ∃ i σ' H', Inv X pins σ' H' s7 ∧ tn i s7.heap ∧ (∀ b ∈ fp, H' b = none) ∧ W i m σ' H' := fun {σ7 H7} I7 n7 => by
      obtain ⟨m', hm, w7⟩ := hN σ7 H7 n7
      refine ⟨m', hm, i + 1, σ7, H7, I7.unpinned, T.keep _ _ _ st5 fun b hb o e => (I7.pin (b, o) (List.mem_append_right _ (List.mem_append_right _ (mem_pinsAt hb e)))).1, fun b hb => ?_, w7⟩
      obtain ⟨o, e, d⟩ := T.obj _ _ st5 b hb
      exact (I7.pin (b, o) (List.mem_append_right _ (List.mem_append_right _ (mem_pinsAt hb e)))).2.1
    cases f with
    | next => obtain ⟨σ7, H7, I7, n7⟩ := q7; exact again I7 n7
    | cont => obtain ⟨σ7, H7, I7, n7⟩ := q7; exact again I7 n7
    | brk => obtain ⟨σ7, H7, I7, q7⟩ := q7; exact ⟨σ7, H7, I7.unpinned, q7⟩
    | ret v => obtain ⟨x7, σ7, H7, I7, r7, q7⟩ := q7; exact ⟨x7, σ7, H7, I7.unpinned, r7, q7⟩
end
theorem for_list {K : PySem.W.Frag} {a : Addr} {xs : List V} {g : TG} {tb : TS} {D : Ends} {σ : St} {H : Hp} (Pv : Nat → St → Hp → Prop) (h0 : Pv 0 σ H) (hl : ∀ i σ H, i ≤ xs.length → Pv i σ H → SqL K H a xs)
    (hs : ∀ i x σ H, xs[i]? = some x → Pv i σ H → g x σ H fun σ2 H2 => tb { D with nx := Pv (i + 1), ct := Pv (i + 1), bk := D.nx } σ2 H2) (hd : ∀ σ H, Pv xs.length σ H → D.nx σ H) :
    ∃ W : Nat → Nat → St → Hp → Prop, (∃ m, W 0 m σ H) ∧ ∀ i m σ H, W i m σ H →
      ((Itl K a).stop i H ∧ D.nx σ H) ∨ ((Itl K a).go i H ∧ ∃ N : St → Hp → Prop, (∀ σ' H', N σ' H' → ∃ m', m' < m ∧ W (i + 1) m' σ' H') ∧ ∀ x H', (Itl K a).yld i H x H' → g x σ H' fun σ2 H2 => tb { D with nx := N, ct := N, bk := D.nx } σ2 H2) := by
  refine ⟨fun i m σ H => m = xs.length - i ∧ i ≤ xs.length ∧ Pv i σ H, ⟨xs.length, by simp, Nat.zero_le _, h0⟩, ?_⟩
  rintro i m σ H ⟨rfl, hi, p⟩
  have q := hl i σ H hi p
  by_cases hlt : i < xs.length
  · refine .inr ⟨⟨xs, xs[i], q, by simp [hlt]⟩, Pv (i + 1), fun σ' H' p' => ⟨xs.length - (i + 1), by omega, rfl, hlt, p'⟩, fun x H' y => ?_⟩
    obtain ⟨e, y⟩ := y
    subst e
    exact hs i x σ _ (y xs q) p
  · have e : i = xs.length := by omega
    subst e
    exact .inl ⟨⟨xs, q, Nat.le_refl _⟩, hd σ H p⟩
theorem for_tup {K : PySem.W.Frag} {a : Addr} {xs : List V} {g : TG} {tb : TS} {D : Ends} {σ : St} {H : Hp} (Pv : Nat → St → Hp → Prop) (h0 : Pv 0 σ H) (hl : ∀ i σ H, i ≤ xs.length → Pv i σ H → SqT K H a xs)
    (hs : ∀ i x σ H, xs[i]? = some x → Pv i σ H → g x σ H fun σ2 H2 => tb { D with nx := Pv (i + 1), ct := Pv (i + 1), bk := D.nx } σ2 H2) (hd : ∀ σ H, Pv xs.length σ H → D.nx σ H) :
    ∃ W : Nat → Nat → St → Hp → Prop, (∃ m, W 0 m σ H) ∧ ∀ i m σ H, W i m σ H →
      ((Itt K a).stop i H ∧ D.nx σ H) ∨ ((Itt K a).go i H ∧ ∃ N : St → Hp → Prop, (∀ σ' H', N σ' H' → ∃ m', m' < m ∧ W (i + 1) m' σ' H') ∧ ∀ x H', (Itt K a).yld i H x H' → g x σ H' fun σ2 H2 => tb { D with nx := N, ct := N, bk := D.nx } σ2 H2) := by
  refine ⟨fun i m σ H => m = xs.length - i ∧ i ≤ xs.length ∧ Pv i σ H, ⟨xs.length, by simp, Nat.zero_le _, h0⟩, ?_⟩
  rintro i m σ H ⟨rfl, hi, p⟩
  have q := hl i σ H hi p
  by_cases hlt : i < xs.length
  · refine .inr ⟨⟨xs, xs[i], q, by simp [hlt]⟩, Pv (i + 1), fun σ' H' p' => ⟨xs.length - (i + 1), by omega, rfl, hlt, p'⟩, fun x H' y => ?_⟩
    obtain ⟨e, y⟩ := y
    subst e
    exact hs i x σ _ (y xs q) p
  · have e : i = xs.length := by omega
    subst e
    exact .inl ⟨⟨xs, q, Nat.le_refl _⟩, hd σ H p⟩
theorem for_range {lo : Int} {n : Nat} {g : TG} {tb : TS} {D : Ends} {σ : St} {H : Hp} (Pv : Nat → St → Hp → Prop) (h0 : Pv 0 σ H)
    (hs : ∀ i σ H, i < n → Pv i σ H → g (.int (lo + i)) σ H fun σ2 H2 => tb { D with nx := Pv (i + 1), ct := Pv (i + 1), bk := D.nx } σ2 H2) (hd : ∀ σ H, Pv n σ H → D.nx σ H) :
    ∃ W : Nat → Nat → St → Hp → Prop, (∃ m, W 0 m σ H) ∧ ∀ i m σ H, W i m σ H →
      ((Itr lo n).stop i H ∧ D.nx σ H) ∨ ((Itr lo n).go i H ∧ ∃ N : St → Hp → Prop, (∀ σ' H', N σ' H' → ∃ m', m' < m ∧ W (i + 1) m' σ' H') ∧ ∀ x H', (Itr lo n).yld i H x H' → g x σ H' fun σ2 H2 => tb { D with nx := N, ct := N, bk := D.nx } σ2 H2) := by
  refine ⟨fun i m σ H => m = n - i ∧ i ≤ n ∧ Pv i σ H, ⟨n, by simp, Nat.zero_le _, h0⟩, ?_⟩
  rintro i m σ H ⟨rfl, hi, p⟩
  by_cases hlt : i < n
  · refine .inr ⟨hlt, Pv (i + 1), fun σ' H' p' => ⟨n - (i + 1), by omega, rfl, hlt, p'⟩, fun x H' y => ?_⟩
    obtain ⟨e, y⟩ := y
    subst e y
    exact hs i σ _ hlt p
  · have e : i = n := by omega
    subst e
    exact .inl ⟨Nat.le_refl _, hd σ H p⟩
end L2
namespace L2
open PySem PySem.Spec PyProof.Rows
abbrev R2 := V → V → Hp → VK → Prop
def OpR (X : Cx) (f : Value → Value → Sem Value) (r : R2) : Prop :=
  ∀ (pins : List (Addr × Obj)) (s : Shared) (σ : St) (H : Hp) (x y : V) (v u : Value) (Q : VK), Inv X pins σ H s → RelV x v → RelV y u → r x y H Q →
    wpAny (model X.prog X.w) X.A (f v u) (EP X pins σ Q) X.xe s
def UnR (X : Cx) (f : Value → Sem Value) (r : V → Hp → VK → Prop) : Prop :=
  ∀ (pins : List (Addr × Obj)) (s : Shared) (σ : St) (H : Hp) (x : V) (v : Value) (Q : VK), Inv X pins σ H s → RelV x v → r x H Q →
    wpAny (model X.prog X.w) X.A (f v) (EP X pins σ Q) X.xe s
def CallR (X : Cx) (f : Value) (r : List V → Hp → VK → Prop) : Prop :=
  ∀ (pins : List (Addr × Obj)) (s : Shared) (σ : St) (H : Hp) (xs : List V) (us : List Value) (Q : VK), Inv X pins σ H s → Vals xs us → r xs H Q →
    wpAny (model X.prog X.w) X.A (call f us) (EP X pins σ Q) X.xe s
def TruR (X : Cx) (r : V → Hp → (Bool → Hp → Prop) → Prop) : Prop :=
  ∀ (pins : List (Addr × Obj)) (s : Shared) (σ : St) (H : Hp) (x : V) (v : Value) (Q : Bool → Hp → Prop), Inv X pins σ H s → RelV x v → r x H Q →
    wpAny (model X.prog X.w) X.A (truthy v) (TP X pins σ Q) X.xe s
def tOp (r : R2) (ta tb : TE) : TE := fun σ H Q => ta σ H fun x H1 => tb σ H1 fun y H2 => r x y H2 Q
def tUn (r : V → Hp → VK → Prop) (ta : TE) : TE := fun σ H Q => ta σ H fun x H1 => r x H1 Q
def rI (C : Int → Int → Prop) (g : Int → Int → V) : R2 := fun x y H Q => ∃ i j, x = .int i ∧ y = .int j ∧ C i j ∧ Q (g i j) H
def rI0 (g : Int → Int → V) : R2 := fun x y H Q => ∃ i j, x = .int i ∧ y = .int j ∧ Q (g i j) H
def rU (g : Int → V) : V → Hp → VK → Prop := fun x H Q => ∃ i, x = .int i ∧ Q (g i) H
section
variable {X : Cx} {a b c : Expr} {ta tb tc : TE} {pos : Pos}
theorem binT (ha : PE X a ta) (hb : PE X b tb) {pins : List (Addr × Obj)} {s : Shared} {σ : St} {H : Hp} {R : V → V → Hp → Prop} (I : Inv X pins σ H s)
    (h : ta σ H fun x H1 => tb σ H1 fun y H2 => R x y H2) {Q : Value → Shared → Prop} {f : Value → Value → Sem Value}
    (hf : ∀ v u s2 x y H2, Inv X pins σ H2 s2 → RelV x v → RelV y u → R x y H2 → wpAny (model X.prog X.w) X.A (f v u) Q X.xe s2) :
    wpAny (model X.prog X.w) X.A (eval a X.env) (fun v s₁ => wpAny (model X.prog X.w) X.A (eval b X.env) (fun u s₂ => wpAny (model X.prog X.w) X.A (f v u) Q X.xe s₂) X.xe s₁) X.xe s := by
  refine thn (ha pins s σ H _ I h) fun v s1 ⟨x, H1, I1, r1, q1⟩ => ?_
  refine thn (hb pins s1 σ H1 _ I1 q1) fun u s2 ⟨y, H2, I2, r2, q2⟩ => ?_
  exact hf v u s2 x y H2 I2 r1 r2 q2
theorem pe_op {op : Operator} {r : R2} (ho : OpR X (binaryOp op) r) (ha : PE X a ta) (hb : PE X b tb) : PE X (.BinOp a op b pos) (tOp r ta tb) := by
  intro pins s σ H Q I h
  exact wpAny_BinOp (binT ha hb I h fun v u s2 x y H2 I2 rx ry q => ho pins s2 σ H2 x y v u Q I2 rx ry q)
theorem pe_un {op : UnaryOp} {r : V → Hp → VK → Prop} (ho : UnR X (unaryOp op) r) (ha : PE X a ta) : PE X (.UnaryOp op a pos) (tUn r ta) := by
  intro pins s σ H Q I h
  exact UnaryOp_ (thn (ha pins s σ H _ I h) fun v s1 ⟨x, H1, I1, r1, q1⟩ => ho pins s1 σ H1 x v Q I1 r1 q1)
theorem opI {f : Value → Value → Sem Value} {C : Int → Int → Prop} {g : Int → Int → Int}
    (rule : ∀ (i j : Int) (t u : Tok) (s : Shared) (Q : Value → Shared → Prop) (E : Value → Shared → Prop), C i j → Q (.int (g i j) s.toks) { s with toks := s.toks + 1 } → wpAny (model X.prog X.w) X.A (f (.int i t) (.int j u)) Q E s) :
    OpR X f (rI C fun i j => .int (g i j)) := by
  intro pins s σ H x y v u Q I rx ry h
  obtain ⟨i, j, rfl, rfl, hc, q⟩ := h
  obtain ⟨t, rfl⟩ := rx
  obtain ⟨t', rfl⟩ := ry
  exact rule i j t t' s _ _ hc ⟨.int (g i j), H, I.tok _, ⟨_, rfl⟩, q⟩
theorem opI0 {f : Value → Value → Sem Value} {g : Int → Int → Int}
    (rule : ∀ (i j : Int) (t u : Tok) (s : Shared) (Q : Value → Shared → Prop) (E : Value → Shared → Prop), Q (.int (g i j) s.toks) { s with toks := s.toks + 1 } → wpAny (model X.prog X.w) X.A (f (.int i t) (.int j u)) Q E s) :
    OpR X f (rI0 fun i j => .int (g i j)) := by
  intro pins s σ H x y v u Q I rx ry h
  obtain ⟨i, j, rfl, rfl, q⟩ := h
  obtain ⟨t, rfl⟩ := rx
  obtain ⟨t', rfl⟩ := ry
  exact rule i j t t' s _ _ ⟨.int (g i j), H, I.tok _, ⟨_, rfl⟩, q⟩
theorem opB0 {f : Value → Value → Sem Value} {g : Int → Int → Bool}
    (rule : ∀ (i j : Int) (t u : Tok) (s : Shared) (Q : Value → Shared → Prop) (E : Value → Shared → Prop), Q (.bool (g i j)) s → wpAny (model X.prog X.w) X.A (f (.int i t) (.int j u)) Q E s) :
    OpR X f (rI0 fun i j => .bl (g i j)) := by
  intro pins s σ H x y v u Q I rx ry h
  obtain ⟨i, j, rfl, rfl, q⟩ := h
  obtain ⟨t, rfl⟩ := rx
  obtain ⟨t', rfl⟩ := ry
  exact rule i j t t' s _ _ ⟨.bl (g i j), H, I, rfl, q⟩
def CDiv (i j : Int) : Prop := 0 < j ∧ j < 1073741824
def CPow (i j : Int) : Prop := 0 ≤ j ∧ j ≤ 1000000 ∧ i.natAbs < 2 ^ 64
def CMul (i j : Int) : Prop := (-(2 ^ 64) < i ∧ i < 2 ^ 64) ∨ (-(2 ^ 64) < j ∧ j < 2 ^ 64)
theorem CMul.ok {i j : Int} (h : CMul i j) : IntMulOk i j := by
  rcases h with ⟨h1, h2⟩ | ⟨h1, h2⟩
  · exact .of_left (intBits_le_64 h1 h2)
  · exact .of_right (intBits_le_64 h1 h2)
theorem two_pow_nn (k : Nat) : (0 : Int) ≤ 2 ^ k := by
  rw [two_pow_cast]
  exact Int.natCast_nonneg _
theorem op_add : OpR X (binaryOp .Add) (rI0 fun i j => .int (i + j)) := opI0 fun _ _ _ _ _ _ _ q => add_int q
theorem op_sub : OpR X (binaryOp .Sub) (rI0 fun i j => .int (i - j)) := opI0 fun _ _ _ _ _ _ _ q => sub_int q
theorem op_mul : OpR X (binaryOp .Mult) (rI CMul fun i j => .int (i * j)) := opI fun _ _ _ _ _ _ _ hc q => mul_int q hc.ok
theorem op_fdiv : OpR X (binaryOp .FloorDiv) (rI CDiv fun i j => .int (i / j)) := opI fun i j _ _ _ _ _ hc q => by
  have h1 : (0 : Int) < j := hc.1
  have h2 : j < 1073741824 := hc.2
  exact floordiv_int (by omega) (by rw [Int.fdiv_eq_ediv_of_nonneg i (by omega)]; exact q) (.inl (PyProof.noPylong_small (by omega)))
theorem op_mod : OpR X (binaryOp .Mod) (rI (fun _ j => 0 < j) fun i j => .int (i % j)) := opI fun i j _ _ _ _ _ hc q => by
  have h1 : (0 : Int) < j := hc
  exact mod_int' (by omega) (by rw [Int.fmod_eq_emod_of_nonneg i (by omega)]; exact q)
theorem op_shl : OpR X (binaryOp .LShift) (rI CPow fun i j => .int (i * 2 ^ j.toNat)) := opI fun _ _ _ _ _ _ _ hc q => lshift_int_small hc.1 hc.2.1 hc.2.2 q
theorem op_shr : OpR X (binaryOp .RShift) (rI (fun _ j => 0 ≤ j) fun i j => .int (i / 2 ^ j.toNat)) := opI fun i j _ _ _ _ _ hc q =>
  rshift_int hc (by rw [Int.fdiv_eq_ediv_of_nonneg i (two_pow_nn _)]; exact q)
theorem op_and : OpR X (binaryOp .BitAnd) (rI0 fun i j => .int (Builtin.bitAnd i j)) := opI0 fun _ _ _ _ _ _ _ q => and_int q
theorem op_or : OpR X (binaryOp .BitOr) (rI0 fun i j => .int (Builtin.bitOr i j)) := opI0 fun _ _ _ _ _ _ _ q => or_int q
theorem op_xor : OpR X (binaryOp .BitXor) (rI0 fun i j => .int (Builtin.bitXor i j)) := opI0 fun _ _ _ _ _ _ _ q => xor_int q
theorem iop_add : OpR X (inplaceOp .Add) (rI0 fun i j => .int (i + j)) := opI0 fun _ _ _ _ _ _ _ q => iadd_int q
theorem iop_shl : OpR X (inplaceOp .LShift) (rI CPow fun i j => .int (i * 2 ^ j.toNat)) := opI fun _ _ _ _ _ _ _ hc q => ilshift_int_small hc.1 hc.2.1 hc.2.2 q
theorem iop_shr : OpR X (inplaceOp .RShift) (rI (fun _ j => 0 ≤ j) fun i j => .int (i / 2 ^ j.toNat)) := opI fun i j _ _ _ _ _ hc q =>
  irshift_int hc (by rw [Int.fdiv_eq_ediv_of_nonneg i (two_pow_nn _)]; exact q)
theorem iop_and : OpR X (inplaceOp .BitAnd) (rI0 fun i j => .int (Builtin.bitAnd i j)) := opI0 fun _ _ _ _ _ _ _ q => iand_int q
theorem iop_or : OpR X (inplaceOp .BitOr) (rI0 fun i j => .int (Builtin.bitOr i j)) := opI0 fun _ _ _ _ _ _ _ q => ior_int q
theorem iop_xor : OpR X (inplaceOp .BitXor) (rI0 fun i j => .int (Builtin.bitXor i j)) := opI0 fun _ _ _ _ _ _ _ q => ixor_int q
theorem unI {f : Value → Sem Value} {g : Int → Int}
    (rule : ∀ (i : Int) (t : Tok) (s : Shared) (Q : Value → Shared → Prop) (E : Value → Shared → Prop), Q (.int (g i) s.toks) { s with toks := s.toks + 1 } → wpAny (model X.prog X.w) X.A (f (.int i t)) Q E s) :
    UnR X f (rU fun i => .int (g i)) := by
  intro pins s σ H x v Q I rx h
  obtain ⟨i, rfl, q⟩ := h
  obtain ⟨t, rfl⟩ := rx
  exact rule i t s _ _ ⟨.int (g i), H, I.tok _, ⟨_, rfl⟩, q⟩
theorem un_neg : UnR X (unaryOp .USub) (rU fun i => .int (-i)) := unI fun _ _ _ _ _ q => neg_int q
theorem un_inv : UnR X (unaryOp .Invert) (rU fun i => .int (Builtin.bitNot i)) := unI fun _ _ _ _ _ q => invert_int q
end
def scal : V → V → Bool
  | .non, .non => true | .non, .int _ => true | .int _, .non => true | .non, .bl _ => true | .bl _, .non => true | .non, .str _ => true | .str _, .non => true
  | .int _, .int _ => true | .bl _, .bl _ => true | .str _, .str _ => true | .byt _, .byt _ => true
  | .int _, .str _ => true | .str _, .int _ => true | .bl _, .str _ => true | .str _, .bl _ => true
  | _, _ => false
def rEq : R2 := fun x y H Q => scal x y = true ∧ Q (.bl (decide (x = y))) H
def rNe : R2 := fun x y H Q => scal x y = true ∧ Q (.bl (!decide (x = y))) H
theorem dec_int {i j : Int} : decide (V.int i = V.int j) = (i == j) := by
  rw [Bool.eq_iff_iff]
  simp
theorem dec_bl {i j : Bool} : decide (V.bl i = V.bl j) = (i == j) := by
  rw [Bool.eq_iff_iff]
  simp
theorem dec_str {i j : Str} : decide (V.str i = V.str j) = (i == j) := by
  rw [Bool.eq_iff_iff]
  simp
theorem dec_byt {i j : Array UInt8} : decide (V.byt i = V.byt j) = (i.toList == j.toList) := by
  rw [Bool.eq_iff_iff]
  cases i
  cases j
  simp
section
variable {X : Cx} {a b c : Expr} {ta tb tc : TE} {pos : Pos}
theorem fin_bl {pins : List (Addr × Obj)} {σ : St} {H : Hp} {s : Shared} {Q : VK} {k k' : Bool} (I : Inv X pins σ H s) (q : Q (.bl k) H) (e : k = k') : EP X pins σ Q (.bool k') s := by
  subst e
  exact ⟨.bl k, H, I, rfl, q⟩
theorem op_eq : OpR X (compareOp .Eq) rEq := by
  intro pins s σ H x y v u Q I rx ry h
  obtain ⟨hs, q⟩ := h
  cases x with
  | non =>
    cases rx
    cases y with
    | non => cases ry; exact PySem.EqNone.eq_none_none (fin_bl I q (by simp))
    | bl j => cases ry; exact PySem.EqNone.eq_none_bool (fin_bl I q (by simp))
    | int j => obtain ⟨t', rfl⟩ := ry; exact PySem.EqNone.eq_none_int (fin_bl I q (by simp))
    | str j => obtain ⟨t', rfl⟩ := ry; exact PySem.EqNone.eq_none_str (fin_bl I q (by simp))
    | _ => exact absurd (show false = true from hs) Bool.false_ne_true
  | bl i =>
    cases rx
    cases y with
    | non => cases ry; exact PySem.EqNone.eq_bool_none (fin_bl I q (by simp))
    | bl j => cases ry; exact eq_bool (fin_bl I q dec_bl)
    | str j => obtain ⟨t', rfl⟩ := ry; exact PySem.EqMixed.eq_bool_str (fin_bl I q (by simp))
    | _ => exact absurd (show false = true from hs) Bool.false_ne_true
  | int i =>
    obtain ⟨t, rfl⟩ := rx
    cases y with
    | non => cases ry; exact PySem.EqNone.eq_int_none (fin_bl I q (by simp))
    | int j => obtain ⟨t', rfl⟩ := ry; exact eq_int (fin_bl I q dec_int)
    | str j => obtain ⟨t', rfl⟩ := ry; exact PySem.EqMixed.eq_int_str (fin_bl I q (by simp))
    | _ => exact absurd (show false = true from hs) Bool.false_ne_true
  | str i =>
    obtain ⟨t, rfl⟩ := rx
    cases y with
    | non => cases ry; exact PySem.EqNone.eq_str_none (fin_bl I q (by simp))
    | bl j => cases ry; exact PySem.EqMixed.eq_str_bool (fin_bl I q (by simp))
    | int j => obtain ⟨t', rfl⟩ := ry; exact PySem.EqMixed.eq_str_int (fin_bl I q (by simp))
    | str j => obtain ⟨t', rfl⟩ := ry; exact eq_str (fin_bl I q dec_str)
    | _ => exact absurd (show false = true from hs) Bool.false_ne_true
  | byt i =>
    obtain ⟨t, rfl⟩ := rx
    cases y with
    | byt j => obtain ⟨t', rfl⟩ := ry; exact PySem.W.eq_bytes (fin_bl I q dec_byt)
    | _ => exact absurd (show false = true from hs) Bool.false_ne_true
  | _ => cases y <;> exact absurd (show false = true from hs) Bool.false_ne_true
theorem op_ne : OpR X (compareOp .NotEq) rNe := by
  intro pins s σ H x y v u Q I rx ry h
  obtain ⟨hs, q⟩ := h
  cases x with
  | non =>
    cases rx
    cases y with
    | non => cases ry; exact PySem.EqNone.ne_none_none (fin_bl I q (by simp))
    | bl j => cases ry; exact PySem.EqNone.ne_none_bool (fin_bl I q (by simp))
    | int j => obtain ⟨t', rfl⟩ := ry; exact PySem.EqNone.ne_none_int (fin_bl I q (by simp))
    | str j => obtain ⟨t', rfl⟩ := ry; exact PySem.EqNone.ne_none_str (fin_bl I q (by simp))
    | _ => exact absurd (show false = true from hs) Bool.false_ne_true
  | bl i =>
    cases rx
    cases y with
    | non => cases ry; exact PySem.EqNone.ne_bool_none (fin_bl I q (by simp))
    | bl j => cases ry; exact ne_bool (fin_bl I q (congrArg not dec_bl))
    | str j => obtain ⟨t', rfl⟩ := ry; exact PySem.EqMixed.ne_bool_str (fin_bl I q (by simp))
    | _ => exact absurd (show false = true from hs) Bool.false_ne_true
  | int i =>
    obtain ⟨t, rfl⟩ := rx
    cases y with
    | non => cases ry; exact PySem.EqNone.ne_int_none (fin_bl I q (by simp))
    | int j => obtain ⟨t', rfl⟩ := ry; exact ne_int (fin_bl I q (congrArg not dec_int))
    | str j => obtain ⟨t', rfl⟩ := ry; exact PySem.EqMixed.ne_int_str (fin_bl I q (by simp))
    | _ => exact absurd (show false = true from hs) Bool.false_ne_true
  | str i =>
    obtain ⟨t, rfl⟩ := rx
    cases y with
    | non => cases ry; exact PySem.EqNone.ne_str_none (fin_bl I q (by simp))
    | bl j => cases ry; exact PySem.EqMixed.ne_str_bool (fin_bl I q (by simp))
    | int j => obtain ⟨t', rfl⟩ := ry; exact PySem.EqMixed.ne_str_int (fin_bl I q (by simp))
    | str j => obtain ⟨t', rfl⟩ := ry; exact ne_str (fin_bl I q (congrArg not dec_str))
    | _ => exact absurd (show false = true from hs) Bool.false_ne_true
  | byt i =>
    obtain ⟨t, rfl⟩ := rx
    cases y with
    | byt j => obtain ⟨t', rfl⟩ := ry; exact PySem.W.ne_bytes (fin_bl I q (congrArg not dec_byt))
    | _ => exact absurd (show false = true from hs) Bool.false_ne_true
  | _ => cases y <;> exact absurd (show false = true from hs) Bool.false_ne_true
theorem op_lt : OpR X (compareOp .Lt) (rI0 fun i j => .bl (decide (i < j))) := opB0 fun _ _ _ _ _ _ _ q => lt_int q
theorem op_le : OpR X (compareOp .LtE) (rI0 fun i j => .bl (decide (i ≤ j))) := opB0 fun _ _ _ _ _ _ _ q => le_int q
theorem op_gt : OpR X (compareOp .Gt) (rI0 fun i j => .bl (decide (j < i))) := opB0 fun _ _ _ _ _ _ _ q => gt_int q
theorem op_ge : OpR X (compareOp .GtE) (rI0 fun i j => .bl (decide (j ≤ i))) := opB0 fun _ _ _ _ _ _ _ q => ge_int q
theorem op_isN : OpR X (compareOp .Is) (fun x y H Q => y = .non ∧ Q (.bl (decide (x = .non))) H) := by
  intro pins s σ H x y v u Q I rx ry h
  obtain ⟨rfl, q⟩ := h
  cases ry
  refine is_none_gen (fin_bl I q ?_)
  cases x <;> first
    | (cases rx; rfl)
    | (obtain ⟨t, rfl⟩ := rx; rfl)
theorem op_notN : OpR X (compareOp .IsNot) (fun x y H Q => y = .non ∧ Q (.bl (!decide (x = .non))) H) := by
  intro pins s σ H x y v u Q I rx ry h
  obtain ⟨rfl, q⟩ := h
  cases ry
  refine isnot_none_gen (fin_bl I q ?_)
  cases x <;> first
    | (cases rx; rfl)
    | (obtain ⟨t, rfl⟩ := rx; rfl)
def isObj : HO → Bool
  | .lst _ => true
  | .ins _ _ _ => true
  | _ => false
theorem obj_there {pins : List (Addr × Obj)} {s : Shared} {σ : St} {H : Hp} {a : Addr} {o : HO} (I : Inv X pins σ H s) (h : H a = some o) (p : isObj o = true) : ∃ ob, s.heap.get? a = some ob ∧ ob.cls ≠ .type "tuple" := by
  cases o with
  | lst xs =>
    obtain ⟨_, its, n, _, e⟩ : xs.length ≤ sizeLine ∧ ∃ (its : List Value) (n : Nat), Vals xs its ∧ s.heap.get? a = some { cls := .type "list", data := .seq its.toArray n } := I.hok a _ h
    exact ⟨_, e, (by show Value.type "list" ≠ .type "tuple"; decide +kernel)⟩
  | ins C dx fs =>
    have x := I.hok a _ h
    obtain ⟨_, _, _, e, _⟩ := x
    exact ⟨_, e, (by show Value.ref C ≠ .type "tuple"; exact fun z => by cases z)⟩
  | _ => exact absurd (show false = true from p) Bool.false_ne_true
theorem op_is_ref : OpR X (compareOp .Is) (fun x y H Q => ∃ a b oa ob, x = .ref a ∧ y = .ref b ∧ H a = some oa ∧ isObj oa = true ∧ H b = some ob ∧ isObj ob = true ∧ Q (.bl (decide (a = b))) H) := by
  intro pins s σ H x y v u Q I rx ry h
  obtain ⟨a, b, oa, ob, rfl, rfl, ha, pa, hb, pb, q⟩ := h
  cases rx
  cases ry
  obtain ⟨o1, e1, n1⟩ := obj_there I ha pa
  obtain ⟨o2, e2, _⟩ := obj_there I hb pb
  by_cases z : a = b
  · subst z
    exact wpAny_is_ref_self (fin_bl I q (by simp))
  · exact wpAny_is_ref_other z e1 e2 n1 (fin_bl I q (by simp [z]))
theorem nomark (b : Expr) {op : CmpOp} (h : op ≠ .In := by decide) (h2 : op ≠ .NotIn := by decide) : behindInMarks op b = false := by
  have e1 : (op == CmpOp.In) = false := by cases op <;> first | rfl | exact absurd rfl h
  have e2 : (op == CmpOp.NotIn) = false := by cases op <;> first | rfl | exact absurd rfl h2
  cases b <;> simp [behindInMarks, e1, e2]
theorem pe_cmpR {op : CmpOp} {r : R2} (ho : OpR X (compareOp op) r) (ha : PE X a ta) (hb : PE X b tb) (hm : behindInMarks op b = false) : PE X (.Compare a [op] [b] pos) (tOp r ta tb) := by
  intro pins s σ H Q I h
  exact wpAny_Compare1 (binT ha hb I h fun v u s2 x y H2 I2 rx ry q => ho pins s2 σ H2 x y v u Q I2 rx ry q) hm
def tTest (t : TE) : TT := fun σ H Q => t σ H fun x H' => ∃ k, x = .bl k ∧ Q k H'
theorem pt_cmpR {op : CmpOp} {r : R2} (ho : OpR X (compareOp op) r) (ha : PE X a ta) (hb : PE X b tb) (hm : behindInMarks op b = false) : PT X (.Compare a [op] [b] pos) (tTest (tOp r ta tb)) := by
  intro pins s σ H Q I h
  refine wpAny_isTrue_Compare1 (thn (ha pins s σ H _ I h) fun v s1 ⟨x, H1, I1, r1, q1⟩ => thn (hb pins s1 σ H1 _ I1 q1) fun u s2 ⟨y, H2, I2, r2, q2⟩ =>
    thn (ho pins s2 σ H2 x y v u _ I2 r1 r2 q2) fun c s3 ⟨z, H3, I3, r3, k, e, q3⟩ => ?_) hm
  subst e
  cases r3
  exact wpAny_truthy_bool ⟨H3, I3, q3⟩
def tChain (r r' : R2) (ta tb tc : TE) : TE := fun σ H Q => ta σ H fun x H1 => tb σ H1 fun y H2 => r x y H2 fun z H3 => ∃ k, z = .bl k ∧
  (if k = true then tc σ H3 fun w' H4 => r' y w' H4 Q else Q (.bl false) H3)
theorem pe_chain {op op' : CmpOp} {r r' : R2} (ho : OpR X (compareOp op) r) (ho' : OpR X (compareOp op') r') (ha : PE X a ta) (hb : PE X b tb) (hc : PE X c tc)
    (hm : lastMarks [op, op'] [b, c] = false := by with_unfolding_all rfl) : PE X (.Compare a [op, op'] [b, c] pos) (tChain r r' ta tb tc) := by
  intro pins s σ H Q I h
  refine Compare_chain (thn (ha pins s σ H _ I h) fun v s1 ⟨x, H1, I1, r1, q1⟩ => chain_link (thn (hb pins s1 σ H1 _ I1 q1) fun u s2 ⟨y, H2, I2, r2, q2⟩ =>
    thn (ho pins s2 σ H2 x y v u _ I2 r1 r2 q2) fun d s3 ⟨z, H3, I3, r3, k, e, q3⟩ => ?_)) hm
  subst e
  cases r3
  refine wpAny_truthy_bool ?_
  cases k with
  | false => exact ite_ff ⟨.bl false, H3, I3, rfl, q3⟩
  | true => exact ite_tt (chain_last (thn (hc pins s3 σ H3 _ I3 q3) fun w' s4 ⟨z', H4, I4, r4, q4⟩ => ho' pins s4 σ H4 y z' u w' Q I4 r2 r4 q4))
theorem pt_chain {op op' : CmpOp} {r r' : R2} (ho : OpR X (compareOp op) r) (ho' : OpR X (compareOp op') r') (ha : PE X a ta) (hb : PE X b tb) (hc : PE X c tc)
    (hm : lastMarks [op, op'] [b, c] = false := by with_unfolding_all rfl) : PT X (.Compare a [op, op'] [b, c] pos) (tTest (tChain r r' ta tb tc)) := by
  intro pins s σ H Q I h
  refine isTrue_chain (thn (ha pins s σ H _ I h) fun v s1 ⟨x, H1, I1, r1, q1⟩ => test_link (thn (hb pins s1 σ H1 _ I1 q1) fun u s2 ⟨y, H2, I2, r2, q2⟩ =>
    thn (ho pins s2 σ H2 x y v u _ I2 r1 r2 q2) fun d s3 ⟨z, H3, I3, r3, k, e, q3⟩ => ?_)) hm
  subst e
  cases r3
  refine wpAny_truthy_bool ?_
  cases k with
  | false =>
    obtain ⟨k', e', q'⟩ := q3
    cases e'
    exact ite_ff ⟨H3, I3, q'⟩
  | true =>
    refine ite_tt (test_last (thn (hc pins s3 σ H3 _ I3 q3) fun w' s4 ⟨z', H4, I4, r4, q4⟩ => thn (ho' pins s4 σ H4 y z' u w' _ I4 r2 r4 q4) fun d' s5 ⟨z2, H5, I5, r5, k2, e2, q5⟩ => ?_))
    subst e2
    cases r5
    exact wpAny_truthy_bool ⟨H5, I5, q5⟩
def TruV (K : PySem.W.Frag) (x : V) (H : Hp) (k : Bool) : Prop :=
  match x with
  | .non => k = false
  | .bl b => k = b
  | .int i => k = (i != 0)
  | .str y => y.length ≤ sizeLine ∧ k = ((y.length : Int) != 0)
  | .byt y => y.size ≤ sizeLine ∧ k = ((y.size : Int) != 0)
  | .ref p => (∃ xs, SqL K H p xs ∧ k = !xs.isEmpty) ∨ (∃ xs, SqT K H p xs ∧ k = !xs.isEmpty) ∨ ∃ kvs, H p = some (.dK kvs) ∧ k = !kvs.isEmpty
  | _ => False
theorem isEmpty_kv {κ : Type} {kvs : List (κ × V)} {vs : List (κ × Value)} (r : KV kvs vs) : (!vs.isEmpty) = !kvs.isEmpty := by
  cases r <;> rfl
theorem isEmpty_of {xs : List V} {its : List Value} (r : Vals xs its) : (!its.toArray.isEmpty) = !xs.isEmpty := by
  cases r <;> simp
theorem line63 : (sizeLine : Nat) < 2 ^ 63 := by rw [sizeLine_eq]; decide
theorem tru_ok : TruR X (fun x H Q => ∃ k, TruV X.K x H k ∧ Q k H) := by
  intro pins s σ H x v Q I rx h
  obtain ⟨k, e, q⟩ := h
  have hl := line63
  have hs : sizeLine = 16777216 := sizeLine_eq
  cases x with
  | non =>
    cases rx
    have e' : k = false := e
    subst e'
    exact truthy_none ⟨H, I, q⟩
  | bl b =>
    cases rx
    have e' : k = b := e
    subst e'
    exact wpAny_truthy_bool ⟨H, I, q⟩
  | int i =>
    obtain ⟨t, rfl⟩ := rx
    have e' : k = (i != 0) := e
    subst e'
    exact PySem.P.truthy_int ⟨H, I, q⟩
  | str y =>
    obtain ⟨t, rfl⟩ := rx
    obtain ⟨hy, e'⟩ : y.length ≤ sizeLine ∧ k = ((y.length : Int) != 0) := e
    subst e'
    exact PySem.P.truthy_str (by omega) ⟨H, I.tok _, q⟩
  | byt y =>
    obtain ⟨t, rfl⟩ := rx
    obtain ⟨hy, e'⟩ : y.size ≤ sizeLine ∧ k = ((y.size : Int) != 0) := e
    subst e'
    exact PySem.W.truthy_bytes (by omega) ⟨H, I.tok _, q⟩
  | ref p =>
    cases rx
    have e' : (∃ xs, SqL X.K H p xs ∧ k = !xs.isEmpty) ∨ (∃ xs, SqT X.K H p xs ∧ k = !xs.isEmpty) ∨ ∃ kvs, H p = some (.dK kvs) ∧ k = !kvs.isEmpty := e
    rcases e' with ⟨xs, hx, e'⟩ | ⟨xs, hx, e'⟩ | ⟨kvs, hx, e'⟩
    · subst e'
      obtain ⟨its, r, pl, hz⟩ := I.list hx
      have hlen := r.length
      exact wpAny_truthy_list pl.isList (by simp only [List.size_toArray]; omega) ⟨H, I.tok _, by rw [isEmpty_of r]; exact q⟩
    · subst e'
      obtain ⟨its, r, pl, hz⟩ := I.tuple hx
      have hlen := r.length
      exact truthy_tuple pl (by simp only [List.size_toArray]; omega) ⟨H, I.tok _, by rw [isEmpty_of r]; exact q⟩
    · subst e'
      obtain ⟨hz, hS, vs, r, m⟩ : kvs.length ≤ sizeLine ∧ (p == sysModules) = false ∧ ∃ vs, KV kvs vs ∧ s.heap.DictOf (mixKind X.prog X.w) p vs := I.hok p _ hx
      have hlen : kvs.length = vs.length := Paired.length r
      exact wpAny_truthy_dict hS m (by omega) ⟨H, I.tok _, by rw [isEmpty_kv r]; exact q⟩
  | _ => exact (show False from e).elim
theorem pt_truth (ha : PE X a ta) (he : ∀ whole, isTrue a X.env whole = (do let v ← whole; standAt a.pos; holding [v] (truthy v))) :
    PT X a (fun σ H Q => ta σ H fun x H' => ∃ k, TruV X.K x H' k ∧ Q k H') := by
  intro pins s σ H Q I h
  exact isTrue_plain (thn (ha pins s σ H _ I h) fun v s1 ⟨x, H1, I1, r1, q1⟩ => tru_ok pins s1 σ H1 x v Q I1 r1 q1) (he _)
theorem vals1 {x : V} {us : List Value} (r : Vals [x] us) : ∃ u, us = [u] ∧ RelV x u := by
  cases r with
  | cons r1 r2 => cases r2; exact ⟨_, rfl, r1⟩
theorem vals2 {x y : V} {us : List Value} (r : Vals [x, y] us) : ∃ u w', us = [u, w'] ∧ RelV x u ∧ RelV y w' := by
  cases r with
  | cons r1 r2 =>
    cases r2 with
    | cons r3 r4 => cases r4; exact ⟨_, _, rfl, r1, r3⟩
theorem call_max2 (hc : X.calm = true) : CallR X (.builtin "max") (fun xs H Q => ∃ i j, xs = [.int i, .int j] ∧ Q (.int (if j > i then j else i)) H) := by
  intro pins s σ H xs us Q I r h
  obtain ⟨i, j, rfl, q⟩ := h
  obtain ⟨u, w', rfl, ⟨t, rfl⟩, ⟨t', rfl⟩⟩ := vals2 r
  refine max_two_ints (I.ok.hd hc) fun h' tk k => ⟨_, H, I.kept k, ?_, q⟩
  by_cases hj : j > i
  · rw [if_pos hj, if_pos hj]; exact ⟨_, rfl⟩
  · rw [if_neg hj, if_neg hj]; exact ⟨_, rfl⟩
theorem call_min2 (hc : X.calm = true) : CallR X (.builtin "min") (fun xs H Q => ∃ i j, xs = [.int i, .int j] ∧ Q (.int (if j < i then j else i)) H) := by
  intro pins s σ H xs us Q I r h
  obtain ⟨i, j, rfl, q⟩ := h
  obtain ⟨u, w', rfl, ⟨t, rfl⟩, ⟨t', rfl⟩⟩ := vals2 r
  refine min_two_ints (I.ok.hd hc) fun h' tk k => ⟨_, H, I.kept k, ?_, q⟩
  by_cases hj : j < i
  · rw [if_pos hj, if_pos hj]; exact ⟨_, rfl⟩
  · rw [if_neg hj, if_neg hj]; exact ⟨_, rfl⟩
theorem call_int1 : CallR X (.type "int") (fun xs H Q => (∃ i, xs = [.int i] ∧ Q (.int i) H) ∨ ∃ k, xs = [.bl k] ∧ Q (.int (if k then 1 else 0)) H) := by
  intro pins s σ H xs us Q I r h
  rcases h with ⟨i, rfl, q⟩ | ⟨k, rfl, q⟩
  · obtain ⟨u, rfl, t, rfl⟩ := vals1 r
    exact call_int_int ⟨.int i, H, I, ⟨_, rfl⟩, q⟩
  · obtain ⟨u, rfl, r1⟩ := vals1 r
    cases r1
    exact call_int_bool ⟨.int (if k then 1 else 0), H, I.tok _, ⟨_, rfl⟩, q⟩
theorem call_bool1 : CallR X (.type "bool") (fun xs H Q => (∃ i, xs = [.int i] ∧ Q (.bl (i != 0)) H) ∨ ∃ k, xs = [.bl k] ∧ Q (.bl k) H) := by
  intro pins s σ H xs us Q I r h
  rcases h with ⟨i, rfl, q⟩ | ⟨k, rfl, q⟩
  · obtain ⟨u, rfl, t, rfl⟩ := vals1 r
    exact call_bool_int ⟨.bl (i != 0), H, I, rfl, q⟩
  · obtain ⟨u, rfl, r1⟩ := vals1 r
    cases r1
    exact call_bool_bool ⟨.bl k, H, I, rfl, q⟩
end
end L2
namespace L2
open PySem PySem.Spec PyProof.Rows
structure ObjM (h : Heap) (x dx C : Addr) (mA : Str → Option Value) : Prop where
  obj : h.get? x = some (PySem.W.instObj C dx)
  ns : h.Ns1 dx mA
  ne : dx ≠ x
theorem lookIn_ns {h : Heap} {dx : Addr} {mA : Str → Option Value} (n : h.Ns1 dx mA) : ∃ od, h.get? dx = some od ∧ ∀ name, PySem.W.lookIn name od = some (mA name) := by
  obtain ⟨o, es, ep, ho, hd, hk, _, hm⟩ := n
  refine ⟨o, ho, fun name => ?_⟩
  have e := hm name
  unfold nsFind findBy at e
  rw [← Array.find?_toList] at e
  unfold PySem.W.lookIn
  rw [hd]
  dsimp only
  split
  · rename_i y q
    rw [q] at e
    exact congrArg some e
  · rename_i q
    rw [q] at e
    have a : es.toList.any (·.refKey) = false := by
      rw [List.any_eq_false]
      intro y hy
      obtain ⟨z, t, hkey⟩ := hk y (Array.mem_toList_iff.mp hy)
      simp [DictEntry.refKey, hkey]
    have a' : ¬ es.toList.any (·.refKey) = true := by rw [a]; exact Bool.false_ne_true
    rw [if_neg a']
    exact congrArg some e
theorem ObjM.look {h : Heap} {x dx C : Addr} {mA : Str → Option Value} (I : ObjM h x dx C mA) : ∃ od, PySem.W.InstAt h x (PySem.W.instObj C dx) C (some od) ∧ ∀ name, PySem.W.lookIn name od = some (mA name) :=
  let ⟨od, ho, hl⟩ := lookIn_ns I.ns
  ⟨od, ⟨I.obj, rfl, rfl, ho⟩, hl⟩
section
variable {prog : Program} {w : World} {A : Around} {E : Value → Shared → Prop} {s : Shared} {K : PySem.W.Frag} {x dx C f : Addr} {mA : Str → Option Value} {name : Str} {v : Value}
theorem get_map {expr : Bool} {Q : Value → Shared → Prop} (X : K.In s.heap) (I : ObjM s.heap x dx C mA) (hg : PySem.W.plainGet K C name = true) (hh : PySem.W.hasDictIn K C = true)
    (ha : PySem.W.findIn K (.ref C) name = some none) (hv : mA name = some v) (hv' : PySem.W.handedIn v = true) (h : Q v { s with toks := s.toks + 1 }) :
    wpAny (model prog w) A (getAttr (.ref x) name expr) Q E s := by
  obtain ⟨od, J, hl⟩ := I.look
  exact PySem.W.get_value X J (PySem.W.plainGet_of hg).1 (PySem.W.findObj_own hh ha rfl (by rw [hl, hv])) hv' h
theorem get_const {expr : Bool} {a : Value} {Q : Value → Shared → Prop} (X : K.In s.heap) (I : ObjM s.heap x dx C mA) (hg : PySem.W.plainGet K C name = true) (hh : PySem.W.hasDictIn K C = true)
    (ha : PySem.W.findIn K (.ref C) name = some (some a)) (hn : PySem.W.specialIn K a "__get__" = some none) (hc : PySem.W.copiedNames.contains name = false) (hv : mA name = none) (hv' : PySem.W.handedIn a = true)
    (h : Q a { s with toks := s.toks + 1 }) : wpAny (model prog w) A (getAttr (.ref x) name expr) Q E s := by
  obtain ⟨od, J, hl⟩ := I.look
  exact PySem.W.get_value X J (PySem.W.plainGet_of hg).1 (PySem.W.findObj_cls hh ha hn hv' hc (by rw [hl, hv])) hv' h
theorem get_meth {pl : Sem Bool} {Q : Value × List Value → Shared → Prop} (X : K.In s.heap) (I : ObjM s.heap x dx C mA) (hg : PySem.W.plainGet K C name = true)
    (hf : PySem.W.findIn K (.ref C) name = some (some (.ref f))) (ht : PySem.W.isFn K (.ref f) = true) (hv : mA name = none) (h : Q (.ref f, [.ref x]) s) :
    wpAny (model prog w) A (getMethod (.ref x) name pl) Q E s := by
  obtain ⟨od, J, hl⟩ := I.look
  exact PySem.W.method_fn X J (PySem.W.plainGet_of hg).1 (PySem.W.plainGet_of hg).2 hf (beq_iff_eq.mp ht) (by show (PySem.W.lookIn name od).map (·.isSome) = some false; rw [hl, hv]; rfl) h
theorem set_map {ns : List Str} {Q : Unit → Shared → Prop} (X : K.In s.heap) (I : ObjM s.heap x dx C mA)
    (hs : PySem.W.findIn K (.ref C) "__setattr__" = some (some (.builtin "object.__setattr__"))) (hp : PySem.W.plainOver K C = true) (ht : PySem.W.takerIn K C name = some none) (hh : PySem.W.hasDictIn K C = true)
    (hw : PySem.Within mA ns) (hsz : ns.length ≤ sizeLine)
    (h : ∀ h', ObjM h' x dx C (fun y => if y = name then some v else mA y) → Heap.SameBut dx s.heap h' → Q () { s with heap := h', toks := s.toks + 2 }) :
    wpAny (model prog w) A (setAttr (.ref x) name v) Q E s := by
  obtain ⟨od, J, hl⟩ := I.look
  refine PySem.W.set_plain X J hs (PySem.W.osa_open (s := { s with toks := s.toks + 1 }) (r := none) X J hp ht fun b => ?_)
  obtain ⟨cd, hc, hd'⟩ := PySem.W.any_some hh
  have hx : s.heap.get? x = some ⟨.ref C, some dx, .plain, #[]⟩ := I.obj
  refine wpAny_bind (wpAny_pure (wpAny_bind (wpAny_bind (wpAny_loadPart hx (wpAny_bind (PySem.W.Looks.here (s := { s with toks := s.toks + 1 }) (PySem.W.looks_clsIn X hc) ?_))))))
  rw [hd']
  refine wpAny_pure (a := some dx) (wpAny_bind (wpAny_pure (wpAny_bind ?_)))
  refine wpAny_nsSet1 (s := { s with toks := s.toks + 1 }) I.ns fun h' hn2 hs2 => ?_
  obtain ⟨oD, esD, epD, hoD, hdD, hcD⟩ := hn2.count (PySem.Within.cons name v hw)
  refine wpAny_bind (wpAny_lookBehind hoD (by rw [hdD]; exact pastItsLine_dict (Nat.le_trans hcD (by rw [List.length_cons]; omega))) ?_)
  exact wpAny_pure (h _ ⟨(hs2.2 _ (Ne.symm I.ne)).trans I.obj, hn2, I.ne⟩ hs2)
theorem make_map {R : Result → Shared → Prop} {vs : List Value} {kw : List (Str × Value)} (X : K.In s.heap) (hm : PySem.W.makesIn K C = true)
    (hi : PySem.W.findIn K (.ref C) "__init__" = some (some (.ref f))) (hf : PySem.W.typeIn K (.ref f) = some (.type "function"))
    (h : codeAny (model prog w) (A.under (.builtin "type.__call__" ⟨.ref C :: vs, kw⟩)) (.call (.ref f) ⟨.ref (s.heap.objs.size + 1) :: vs, kw⟩) (PySem.W.InitBack (s.heap.objs.size + 1) R)
      { s with heap := (s.heap.push PySem.W.emptyDict).push (PySem.W.instObj C s.heap.objs.size) }) :
    codeAny (model prog w) A (.call (.ref C) ⟨vs, kw⟩) R s := by
  obtain ⟨hh, g, d, t, os⟩ := s
  exact PySem.W.make_core (PySem.W.makes_of X hm) (PySem.W.looks_findIn X hi) (fun self => PySem.W.bind_fn X self hf) (.inl rfl) h
end
def putF (f : Str) (v : V) : List (Str × V) → List (Str × V)
  | [] => [(f, v)]
  | (g, x) :: r => if g = f then (g, v) :: r else (g, x) :: putF f v r
theorem lookup_putF (f g : Str) (v : V) : ∀ fs : List (Str × V), (putF f v fs).lookup g = if g = f then some v else fs.lookup g
  | [] => by
    show List.lookup g [(f, v)] = _
    by_cases h : g = f
    · have hb : (g == f) = true := beq_iff_eq.mpr h
      simp only [List.lookup, hb, if_pos h]
    · have hb : (g == f) = false := beq_eq_false_iff_ne.mpr h
      simp only [List.lookup, hb, if_neg h]
  | (k, x) :: r => by
    have ih := lookup_putF f g v r
    rw [show putF f v ((k, x) :: r) = (if k = f then (k, v) :: r else (k, x) :: putF f v r) from rfl]
    by_cases hk : k = f
    · rw [if_pos hk]
      by_cases h : g = k
      · have hb : (g == k) = true := beq_iff_eq.mpr h
        simp only [List.lookup, hb, if_pos (h.trans hk)]
      · have hb : (g == k) = false := beq_eq_false_iff_ne.mpr h
        simp only [List.lookup, hb, if_neg (fun e : g = f => h (e.trans hk.symm))]
    · rw [if_neg hk]
      by_cases h : g = k
      · have hb : (g == k) = true := beq_iff_eq.mpr h
        simp only [List.lookup, hb, if_neg (fun e : g = f => hk (h.symm.trans e))]
      · have hb : (g == k) = false := beq_eq_false_iff_ne.mpr h
        simp only [List.lookup, hb]
        exact ih
theorem keys_putF (f : Str) (v : V) : ∀ fs : List (Str × V), f ∈ (putF f v fs).map (·.1) ∧ ∀ g, g ∈ fs.map (·.1) → g ∈ (putF f v fs).map (·.1)
  | [] => ⟨by simp [putF], fun g h => by simp at h⟩
  | (k, x) :: r => by
    obtain ⟨i1, i2⟩ := keys_putF f v r
    rw [show putF f v ((k, x) :: r) = (if k = f then (k, v) :: r else (k, x) :: putF f v r) from rfl]
    by_cases hk : k = f
    · rw [if_pos hk]
      subst hk
      exact ⟨by simp, fun g h => by simpa using h⟩
    · rw [if_neg hk]
      refine ⟨?_, fun g h => ?_⟩
      · rw [List.map_cons]
        exact List.mem_cons_of_mem _ i1
      · rw [List.map_cons] at h ⊢
        rcases List.mem_cons.mp h with e | e
        · exact List.mem_cons.mpr (.inl e)
        · exact List.mem_cons_of_mem _ (i2 g e)
theorem length_putF (f : Str) (v : V) : ∀ fs : List (Str × V), (putF f v fs).length ≤ fs.length + 1
  | [] => by simp [putF]
  | (k, x) :: r => by
    have ih := length_putF f v r
    rw [show putF f v ((k, x) :: r) = (if k = f then (k, v) :: r else (k, x) :: putF f v r) from rfl]
    by_cases hk : k = f
    · rw [if_pos hk, List.length_cons, List.length_cons]; omega
    · rw [if_neg hk, List.length_cons, List.length_cons]; omega
theorem RelO.some_of {v : V} {o : Option Value} (r : RelO (some v) o) : ∃ u, o = some u ∧ RelV v u := by
  cases o with
  | none => exact (show False from r).elim
  | some u => exact ⟨u, rfl, r⟩
theorem RelO.none_of {o : Option Value} (r : RelO none o) : o = none := by
  cases o with
  | none => rfl
  | some u => exact (show False from r).elim
theorem handed_of {v : V} {u : Value} (r : RelV v u) : PySem.W.handedIn u = true := by
  cases v with
  | non => cases (show u = Value.none from r); rfl
  | bl b => cases (show u = Value.bool b from r); rfl
  | int i => obtain ⟨t, e⟩ := (show ∃ t, u = Value.int i t from r); cases e; rfl
  | str x => obtain ⟨t, e⟩ := (show ∃ t, u = Value.str x t from r); cases e; rfl
  | byt b => obtain ⟨t, e⟩ := (show ∃ t, u = Value.bytes b t from r); cases e; rfl
  | flt b => obtain ⟨t, e⟩ := (show ∃ t, u = Value.float b t from r); cases e; rfl
  | ref a => cases (show u = Value.ref a from r); rfl
  | ty n => cases (show u = Value.type n from r); rfl
section
variable {P : Program} {w : World} {H H' : Hp} {h h' : Heap} {a C dx : Addr} {fs fs' : List (Str × V)}
theorem ins_get (hok : HOk P w H h) (e : H a = some (.ins C dx fs)) : ∃ mA, ObjM h a dx C mA ∧ (∀ f, RelO (fs.lookup f) (mA f)) ∧ PySem.Within mA (fs.map (·.1)) ∧ fs.length ≤ 1000 ∧ H dx = some (.own a) := by
  obtain ⟨d, z, ne, ob, mA, n, r, q⟩ := (show ObjOk P w H h a (.ins C dx fs) from hok a _ e)
  exact ⟨mA, ⟨ob, n, ne⟩, r, q, z, d⟩
end
structure Cls (K : PySem.W.Frag) (C : Addr) : Prop where
  pg : PySem.W.plainGet K C Str.empty = true
  hd : PySem.W.hasDictIn K C = true
  po : PySem.W.plainOver K C = true
  sa : PySem.W.findIn K (.ref C) "__setattr__" = some (some (.builtin "object.__setattr__"))
theorem Cls.get {K : PySem.W.Frag} {C : Addr} (c : Cls K C) (f : Str) : PySem.W.plainGet K C f = true := c.pg
def NoAttr (K : PySem.W.Frag) (C : Addr) (f : Str) : Prop := PySem.W.findIn K (.ref C) f = some none
theorem NoAttr.taker {K : PySem.W.Frag} {C : Addr} {f : Str} (n : NoAttr K C f) : PySem.W.takerIn K C f = some none := by
  unfold PySem.W.takerIn
  rw [show PySem.W.findIn K (.ref C) f = some none from n]
  rfl
structure Con (K : PySem.W.Frag) (C : Addr) (f : Str) (v : V) (u : Value) : Prop where
  at_ : PySem.W.findIn K (.ref C) f = some (some u)
  rel : RelV v u
  get : PySem.W.specialIn K u "__get__" = some none
  cp : PySem.W.copiedNames.contains f = false
structure Meth (K : PySem.W.Frag) (C : Addr) (m : Str) (f : Addr) : Prop where
  at_ : PySem.W.findIn K (.ref C) m = some (some (.ref f))
  fn : PySem.W.isFn K (.ref f) = true
  kp : PySem.W.keepIn K (.ref f) = true
section
variable {X : Cx} {pins : List (Addr × Obj)} {σ : St} {H : Hp} {s : Shared} {a C dx : Addr} {fs : List (Str × V)} {f : Str} {v : V} {A : Around} {E : Value → Shared → Prop}
theorem getattr_ok {b : Bool} {Q : Value → Shared → Prop} (I : Inv X pins σ H s) (e : H a = some (.ins C dx fs)) (c : Cls X.K C) (n : NoAttr X.K C f) (l : fs.lookup f = some v)
    (h : ∀ u s', Inv X pins σ H s' → RelV v u → Q u s') : wpAny (model X.prog X.w) A (getAttr (.ref a) f b) Q E s := by
  obtain ⟨mA, O, r, _, _, _⟩ := ins_get I.hok e
  obtain ⟨u, hu, ru⟩ := RelO.some_of (v := v) (o := mA f) (by rw [← l]; exact r f)
  exact get_map I.kIn O (c.get f) c.hd n hu (handed_of ru) (h u _ (I.tok _) ru)
theorem getcon_ok {b : Bool} {u : Value} {Q : Value → Shared → Prop} (I : Inv X pins σ H s) (e : H a = some (.ins C dx fs)) (c : Cls X.K C) (k : Con X.K C f v u) (l : fs.lookup f = none)
    (h : ∀ s', Inv X pins σ H s' → Q u s') : wpAny (model X.prog X.w) A (getAttr (.ref a) f b) Q E s := by
  obtain ⟨mA, O, r, _, _, _⟩ := ins_get I.hok e
  have hn : mA f = none := RelO.none_of (by rw [← l]; exact r f)
  exact get_const I.kIn O (c.get f) c.hd k.at_ k.get k.cp hn (handed_of k.rel) (h _ (I.tok _))
theorem getmeth_ok {m : Str} {g : Addr} {pl : Sem Bool} {Q : Value × List Value → Shared → Prop} (I : Inv X pins σ H s) (e : H a = some (.ins C dx fs)) (c : Cls X.K C) (k : Meth X.K C m g) (l : fs.lookup m = none)
    (h : Q (.ref g, [.ref a]) s) : wpAny (model X.prog X.w) A (getMethod (.ref a) m pl) Q E s := by
  obtain ⟨mA, O, r, _, _, _⟩ := ins_get I.hok e
  have hn : mA m = none := RelO.none_of (by rw [← l]; exact r m)
  exact get_meth I.kIn O (c.get m) k.at_ k.fn hn h
theorem setattr_ok {y : V} {u : Value} {Q : Unit → Shared → Prop} (I : Inv X pins σ H s) (e : H a = some (.ins C dx fs)) (c : Cls X.K C) (n : NoAttr X.K C f) (hl : fs.length < 1000) (ry : RelV y u)
    (h : ∀ s', Inv X pins σ (upd H a (.ins C dx (putF f y fs))) s' → Q () s') : wpAny (model X.prog X.w) A (setAttr (.ref a) f u) Q E s := by
  obtain ⟨mA, O, r, wi, _, ho⟩ := ins_get I.hok e
  have hz : (fs.map (·.1)).length ≤ sizeLine := by rw [List.length_map, sizeLine_eq]; omega
  refine set_map I.kIn O c.sa c.po n.taker c.hd wi hz fun h' O' sb => h _ ?_
  have hd : ∃ o, h'.get? dx = some o := let ⟨o, _, _, e', _⟩ := O'.ns; ⟨o, e'⟩
  refine I.write (x := a) (e := dx) (by rw [e]; exact True.intro) (.inr ho) (fun b q hb z => (sb.2 b hb).trans z) hd ?_
  refine ⟨by rw [upd_ne O.ne]; exact ho, ?_, O.ne, O'.obj, _, O'.ns, fun g => ?_, fun g hg => ?_⟩
  · have := length_putF f y fs; omega
  · show RelO ((putF f y fs).lookup g) (if g = f then some u else mA g)
    rw [lookup_putF]
    by_cases q : g = f
    · rw [if_pos q, if_pos q]; exact ry
    · rw [if_neg q, if_neg q]; exact r g
  · by_cases q : g = f
    · rw [q]; exact (keys_putF f y fs).1
    · refine (keys_putF f y fs).2 g (wi g fun z => hg ?_)
      show (if g = f then some u else mA g) = none
      rw [if_neg q]; exact z
theorem Inv.made (I : Inv X pins σ H s) : Inv X pins σ (upd (upd H s.heap.objs.size (.own (s.heap.objs.size + 1))) (s.heap.objs.size + 1) (.ins C s.heap.objs.size []))
    { s with heap := (s.heap.push PySem.W.emptyDict).push (PySem.W.instObj C s.heap.objs.size) } := by
  have e1 : (s.heap.push PySem.W.emptyDict).get? s.heap.objs.size = some PySem.W.emptyDict := Heap.get?_push_size s.heap rfl
  have e2 : ((s.heap.push PySem.W.emptyDict).push (PySem.W.instObj C s.heap.objs.size)).get? (s.heap.objs.size + 1) = some (PySem.W.instObj C s.heap.objs.size) := by
    have := Heap.get?_push_size (s.heap.push PySem.W.emptyDict) (o := PySem.W.instObj C s.heap.objs.size) rfl
    rwa [Heap.size_push] at this
  have e3 : (s.heap.push PySem.W.emptyDict).Ns s.heap.objs.size (fun _ => none) := ⟨PySem.W.emptyDict, #[], _, e1, rfl, (fun e he => absurd he (by simp)), fun _ => rfl⟩
  have I1 := I.laid (a := s.heap.objs.size) (o := .own (s.heap.objs.size + 1)) (h' := s.heap.push PySem.W.emptyDict) (t' := s.toks) (fun b u q => Heap.get?_push_of_some _ q) (Nat.le_refl _) ⟨_, e1⟩
  refine I1.laid (a := s.heap.objs.size + 1) (o := .ins C s.heap.objs.size []) (t' := s.toks) (fun b u q => Heap.get?_push_of_some _ q) (Nat.le_of_eq (Heap.size_push _ _)) ?_
  have ne : s.heap.objs.size ≠ s.heap.objs.size + 1 := Nat.ne_of_lt (Nat.lt_succ_self _)
  refine ⟨by rw [upd_ne ne, upd_same], Nat.zero_le _, ne, e2, fun _ => none, (Heap.Ns1.of_empty e3).at fun o q => Heap.get?_push_of_some _ q, fun _ => True.intro, fun y hy => absurd rfl hy⟩
theorem attr_of {prog : Program} {w : World} {env : Env} {e : Expr} {f : Str} {pos : Pos} {s : Shared} {Q : Value → Shared → Prop} (hb : attributeBase e f env (eval e env) = eval e env)
    (h : wpAny (model prog w) A (eval e env) (fun o s₁ => wpAny (model prog w) A (getAttr o f true) Q E s₁) E s) : wpAny (model prog w) A (eval (.Attribute e f pos) env) Q E s :=
  Attribute_any_ h (by rw [arm_eval_Attribute, hb])
end
def tFld (K : PySem.W.Frag) (ta : TE) (f : Str) : TE := fun σ H Q => ta σ H fun x H1 => ∃ a C dx fs v, x = .ref a ∧ H1 a = some (.ins C dx fs) ∧ Cls K C ∧ NoAttr K C f ∧ fs.lookup f = some v ∧ Q v H1
def tCon (K : PySem.W.Frag) (ta : TE) (f : Str) : TE := fun σ H Q => ta σ H fun x H1 => ∃ a C dx fs v u, x = .ref a ∧ H1 a = some (.ins C dx fs) ∧ Cls K C ∧ Con K C f v u ∧ fs.lookup f = none ∧ Q v H1
def sFld (K : PySem.W.Frag) (ta tv : TE) (f : Str) : TS := fun D σ H => tv σ H fun y H1 => ta σ H1 fun x H2 => ∃ a C dx fs, x = .ref a ∧ H2 a = some (.ins C dx fs) ∧ Cls K C ∧ NoAttr K C f ∧ fs.length < 1000 ∧
  D.nx σ (upd H2 a (.ins C dx (putF f y fs)))
def InOp (X : Cx) (op : Operator) (rd : V → V → Hp → VK → Prop) : Prop :=
  ∀ (pins : List (Addr × Obj)) (s : Shared) (σ : St) (H : Hp) (x y : V) (u v : Value) (Q : VK), Inv X pins σ H s → RelV x u → RelV y v → rd x y H Q → wpAny (model X.prog X.w) X.A (inplaceOp op u v) (EP X pins σ Q) X.xe s
def sFldAug (K : PySem.W.Frag) (ta tv : TE) (rd : V → V → Hp → VK → Prop) (f : Str) : TS := fun D σ H => ta σ H fun x H1 => ∃ a C dx fs v, x = .ref a ∧ H1 a = some (.ins C dx fs) ∧ Cls K C ∧ NoAttr K C f ∧ fs.lookup f = some v ∧
  tv σ H1 fun y H2 => rd v y H2 fun z H3 => ∃ dx' fs', H3 a = some (.ins C dx' fs') ∧ fs'.length < 1000 ∧ D.nx σ (upd H3 a (.ins C dx' (putF f z fs')))
section
variable {X : Cx} {o e value : Expr} {f : Str} {pos pos' tpos : Pos} {ta tv : TE}
theorem pe_fld (he : PE X e ta) (hb : attributeBase e f X.env (eval e X.env) = eval e X.env) : PE X (.Attribute e f pos) (tFld X.K ta f) := by
  intro pins s σ H Q I h
  refine attr_of hb (thn (he pins s σ H _ I h) fun u s1 ⟨x, H1, I1, rx, a, C, dx, fs, v, ex, ea, c, n, l, q⟩ => ?_)
  subst ex
  obtain rfl : u = Value.ref a := rx
  exact getattr_ok I1 ea c n l fun u' s2 I2 ru => ⟨v, H1, I2, ru, q⟩
theorem pe_con (he : PE X e ta) (hb : attributeBase e f X.env (eval e X.env) = eval e X.env) : PE X (.Attribute e f pos) (tCon X.K ta f) := by
  intro pins s σ H Q I h
  refine attr_of hb (thn (he pins s σ H _ I h) fun u s1 ⟨x, H1, I1, rx, a, C, dx, fs, v, u0, ex, ea, c, k, l, q⟩ => ?_)
  subst ex
  obtain rfl : u = Value.ref a := rx
  exact getcon_ok I1 ea c k l fun s2 I2 => ⟨v, H1, I2, k.rel, q⟩
theorem ps_fld (ha : PE X o ta) (hv : PE X value tv) (hs : swapsWith value (some (.Attribute o f pos')) pos.line X.env = pure false) : PS X (.Assign [.Attribute o f pos'] value pos) (sFld X.K ta tv f) := by
  intro pins s σ H D I h
  refine plainObj_wpAny_Assign_Attribute (thn (hv pins s σ H _ I h) fun u s1 ⟨y, H1, I1, ry, q⟩ => thn (ha pins s1 σ H1 _ I1 q) fun ov s2 ⟨x, H2, I2, rx, a, C, dx, fs, ex, ea, c, n, l, q2⟩ => ?_) hs
  subst ex
  obtain rfl : ov = Value.ref a := rx
  exact setattr_ok I2 ea c n l ry fun s3 I3 => ⟨σ, _, I3, q2⟩
theorem ps_fldaug {op : Operator} {rd : V → V → Hp → VK → Prop} (ha : PE X o ta) (hv : PE X value tv) (hop : InOp X op rd) : PS X (.AugAssign (.Attribute o f tpos) op value pos) (sFldAug X.K ta tv rd f) := by
  intro pins s σ H D I h
  refine wpAny_AugAssign_AttributeAny (thn (ha pins s σ H _ I h) fun ov s1 ⟨x, H1, I1, rx, a, C, dx, fs, v, ex, ea, c, n, l, q⟩ => ?_)
  subst ex
  obtain rfl : ov = Value.ref a := rx
  refine getattr_ok I1 ea c n l fun u s2 I2 ru => thn (hv pins s2 σ H1 _ I2 q) fun w3 s3 ⟨y, H2, I3, ry, q3⟩ => thn (hop pins s3 σ H2 v y u w3 _ I3 ru ry q3) fun w4 s4 ⟨z, H3, I4, rz, dx', fs', ea', l', q4⟩ => ?_
  exact setattr_ok I4 ea' c n l' rz fun s5 I5 => ⟨σ, _, I5, q4⟩
def rAdd : V → V → Hp → VK → Prop := fun x y H Q => ∃ i j, x = .int i ∧ y = .int j ∧ Q (.int (i + j)) H
theorem in_add : InOp X .Add rAdd := by
  rintro pins s σ H x y u v Q I rx ry ⟨i, j, rfl, rfl, q⟩
  obtain ⟨t, rfl⟩ := (show ∃ t, u = Value.int i t from rx)
  obtain ⟨t', rfl⟩ := (show ∃ t', v = Value.int j t' from ry)
  exact PyProof.Rows.iadd_int ⟨.int (i + j), H, I.tok _, ⟨_, rfl⟩, q⟩
end
section
variable {X : Cx} {pins : List (Addr × Obj)} {σ : St} {H : Hp} {s : Shared} {A : Around} {E : Value → Shared → Prop} {Q : Value → Shared → Prop} {c : Value} {b : Bool}
end
end L2
namespace L2
open PySem PySem.Spec PyProof.Rows
structure Room (k : Nat) (A : Around) : Prop where
  hd : A.handled = none
  dp : A.depth + 3 * k + 5 < recursionLimit
  un : A.units + 16 * k + 200 < cLine
theorem Room.mono {j k : Nat} {A : Around} (r : Room k A) (h : j ≤ k) : Room j A := ⟨r.hd, by have := r.dp; omega, by have := r.un; omega⟩
theorem Room.deeper {k : Nat} {A : Around} (r : Room (k + 1) A) (env : Env) : Room k (A.deeper env) :=
  ⟨r.hd, by have := r.dp; show A.depth + 1 + 3 * k + 5 < _; omega, by have := r.un; show A.units + 3 + 16 * k + 200 < _; omega⟩
theorem Room.in1 {k : Nat} {A : Around} (r : Room (k + 1) A) : Room k A.in1 :=
  ⟨r.hd, by have := r.dp; show A.depth + 3 * k + 5 < _; omega, by have := r.un; show A.units + 1 + 16 * k + 200 < _; omega⟩
theorem make_depth {A : Around} {C : Addr} {us : List Value} {kw : List (Str × Value)} : (A.under (.builtin "type.__call__" ⟨.ref C :: us, kw⟩)).depth = A.depth + 1 := by
  first | rfl | simp [Around.under, Code.weight, Code.isCreation, Code.isGuard, Code.isCaller, Code.frames, Code.isFrame, guardIds]
theorem make_units {A : Around} {C : Addr} {us : List Value} {kw : List (Str × Value)} : (A.under (.builtin "type.__call__" ⟨.ref C :: us, kw⟩)).units = A.units + 1 := by
  first | rfl | simp [Around.under, Code.cUnits, Code.frames, Code.isFrame]
theorem Room.make {k : Nat} {A : Around} (r : Room (k + 1) A) (C : Addr) (us : List Value) (kw : List (Str × Value)) : Room k (A.under (.builtin "type.__call__" ⟨.ref C :: us, kw⟩)) :=
  ⟨r.hd, by have := r.dp; rw [make_depth]; omega, by have := r.un; rw [make_units]; omega⟩
theorem Room.depth {k : Nat} {A : Around} (r : Room k A) : A.depth < recursionLimit := by have := r.dp; omega
theorem Room.units {k : Nat} {A : Around} (r : Room k A) : A.units + 64 < cLine := by have := r.un; omega
def tNil : TA := fun _ H Q => Q [] H
def tCons (ta : TE) (tr : TA) : TA := fun σ H Q => ta σ H fun x H1 => tr σ H1 fun xs H2 => Q (x :: xs) H2
section
variable {X : Cx} {e : Expr} {es : List Expr} {te : TE} {t : TA} {pos : Pos}
theorem pa_nil : PA X [] tNil := fun _ _ _ _ H Q I h => Calls.spliced_nil ⟨[], H, I, .nil, h⟩
theorem pa_cons (ha : PE X e te) (hr : PA X es t) (hs : starEach (e :: es) X.env = (false, eval e X.env) :: starEach es X.env := by rfl) : PA X (e :: es) (tCons te t) := by
  intro pos pins s σ H Q I h
  rw [hs]
  show wpAny _ _ (spliced ((false, eval e X.env) :: backTo pos (starEach es X.env))) _ _ s
  refine Calls.spliced_cons (thn (ha pins s σ H _ I h) fun u s1 ⟨x, H1, I1, r1, q1⟩ => ?_)
  exact thn (hr pos pins s1 σ H1 _ I1 q1) fun us s2 ⟨xs, H2, I2, r2, q2⟩ => ⟨x :: xs, H2, I2, .cons r1 r2, q2⟩
def tTup (t : TA) : TE := fun σ H Q => t σ H fun xs H1 => xs.length ≤ sizeLine ∧ ∀ p, H1 p = none → Q (.ref p) (upd H1 p (.tup xs))
def tLst (t : TA) : TE := fun σ H Q => t σ H fun xs H1 => xs.length ≤ sizeLine ∧ ∀ p, H1 p = none → Q (.ref p) (upd H1 p (.lst xs))
theorem pe_tup {x1} (h : PA X es t) : PE X (.Tuple es x1 pos) (tTup t) := by
  intro pins s σ H Q I hq
  refine wpAny_Tuple_spliced (thn (h pos pins s σ H _ I hq) fun us s1 ⟨xs, H1, I1, r, z, q⟩ => ⟨by rw [← r.length]; exact z, ?_⟩)
  have hf : H1 s1.heap.objs.size = none := I1.hok.fresh (Nat.le_refl _)
  refine ⟨.ref s1.heap.objs.size, upd H1 s1.heap.objs.size (.tup xs), I1.laid (t' := s1.toks) (fun b u e => Heap.get?_push_of_some _ e) (Nat.le_refl _) ?_, rfl, q _ hf⟩
  exact ⟨z, us, r, ⟨_, Heap.get?_push_size _ rfl, rfl, _, rfl⟩⟩
theorem pe_lst (h : PA X es t) : PE X (.List es pos) (tLst t) := by
  intro pins s σ H Q I hq
  refine wpAny_List_spliced (thn (h pos pins s σ H _ I hq) fun us s1 ⟨xs, H1, I1, r, z, q⟩ => ⟨by rw [← r.length]; exact z, ?_⟩)
  have hf : H1 s1.heap.objs.size = none := I1.hok.fresh (Nat.le_refl _)
  refine ⟨.ref s1.heap.objs.size, upd H1 s1.heap.objs.size (.lst xs), I1.laid (t' := s1.toks) (fun b u e => Heap.get?_push_of_some _ e) (Nat.le_refl _) ?_, rfl, q _ hf⟩
  exact ⟨z, us, 0, r, Heap.get?_push_size _ rfl⟩
end
abbrev Sp := List V → Hp → VK → XK → Prop
abbrev CXT := List Env → Hp → Shared → XK → Value → Shared → Prop
structure Env0 (P : Program) (w : World) (K : PySem.W.Frag) (mg : Str → Option Value) (base : Heap) (A : Around) (outer : List Env) (s : Shared) (H : Hp) : Prop where
  frames : A.frames = some outer
  mod : Mod K mg base
  bs : ∀ b o, base.get? b = some o → s.heap.get? b = some o ∧ H b = none
  bsz : base.objs.size ≤ s.heap.objs.size
  funs : s.heap.FunFrames base outer
  frf : ∀ b ∈ frs outer, H b = none
  hok : HOk P w H s.heap
  bare : AllBare s.gens
def CE (outer : List Env) (P : Program) (w : World) (H : Hp) (s : Shared) (Q : VK) (u : Value) (s' : Shared) : Prop :=
  ∃ v H', s'.os = s.os ∧ AllBare s'.gens ∧ Un (frs outer) [] H H' s.heap s'.heap ∧ HOk P w H' s'.heap ∧ RelV v u ∧ Q v H'
def CR (CX : CXT) (outer : List Env) (P : Program) (w : World) (H : Hp) (s : Shared) (Q : VK) (E : XK) (r : Result) (s' : Shared) : Prop :=
  match r with
  | .ok (.ret u) => CE outer P w H s Q u s'
  | .ok _ => False
  | .error e => CX outer H s E e s'
structure FnOk (P : Program) (w : World) (K : PySem.W.Frag) (mg : Str → Option Value) (base : Heap) (CX : CXT) (k : Nat) (f : Addr) (fd : FuncData) (ps : List Str) (sp : Sp) : Prop where
  len : ∀ vs H Q E, sp vs H Q E → vs.length = ps.length
  run : ∀ (A : Around) (outer : List Env) (s : Shared) (H : Hp) (args : Args) (us : List Value) (vs : List V) (Q : VK) (E : XK), Room k A → Env0 P w K mg base A outer s H → BindsTo s fd args (ps.zip us) → Vals vs us → sp vs H Q E →
    codeAny (model P w) A (.call (.ref f) args) (CR CX outer P w H s Q E) s
theorem FnOk.mono {P : Program} {w : World} {K : PySem.W.Frag} {mg : Str → Option Value} {base : Heap} {CX : CXT} {j k : Nat} {f : Addr} {fd : FuncData} {ps : List Str} {sp : Sp} (F : FnOk P w K mg base CX j f fd ps sp) (h : j ≤ k) :
    FnOk P w K mg base CX k f fd ps sp := ⟨F.len, fun A outer s H args us vs Q E hr => F.run A outer s H args us vs Q E (hr.mono h)⟩
theorem Env0.make {P : Program} {w : World} {K : PySem.W.Frag} {mg : Str → Option Value} {base : Heap} {A : Around} {outer : List Env} {s : Shared} {H : Hp} (e : Env0 P w K mg base A outer s H) (C : Addr) (us : List Value) (kw : List (Str × Value)) :
    Env0 P w K mg base (A.under (.builtin "type.__call__" ⟨.ref C :: us, kw⟩)) outer s H := ⟨by first | exact e.frames | (simpa [Around.under, Code.envs, Code.isFrame, pushEnvs] using e.frames), e.mod, e.bs, e.bsz, e.funs, e.frf, e.hok, e.bare⟩
theorem Env0.in1 {P : Program} {w : World} {K : PySem.W.Frag} {mg : Str → Option Value} {base : Heap} {A : Around} {outer : List Env} {s : Shared} {H : Hp} (e : Env0 P w K mg base A outer s H) :
    Env0 P w K mg base A.in1 outer s H := ⟨e.frames, e.mod, e.bs, e.bsz, e.funs, e.frf, e.hok, e.bare⟩
section
variable {X : Cx} {pins : List (Addr × Obj)} {σ : St} {H : Hp} {s s' : Shared}
theorem Inv.env0 (I : Inv X pins σ H s) : Env0 X.prog X.w X.K X.mg X.base X.A X.stack s H :=
  ⟨I.ok.frames, I.ok.mod, I.bs, Nat.le_trans I.ok.bsz I.sz, I.stack, I.stkFree, I.hok, I.bare⟩
theorem Inv.after {Q : VK} {u : Value} (I : Inv X pins σ H s) (h : CE X.stack X.prog X.w H s Q u s') : EP X pins σ Q u s' := by
  obtain ⟨v, H', os, bare, un, hok, r, q⟩ := h
  obtain ⟨hh, g, d, t, os'⟩ := s'
  obtain rfl : os' = s.os := os
  exact ⟨v, H', I.call (h' := hh) (g' := g) (d' := d) (t' := t) (ch := []) un hok bare (fun b z => absurd z (by simp)), r, q⟩
end
def tCall (sp : Sp) (dvs : List V) (E : XK) (t : TA) : TE := fun σ H Q => t σ H fun vs H1 => sp (vs ++ dvs) H1 Q E
def tMeth (C : Addr) (m : Str) (sp : Sp) (dvs : List V) (E : XK) (ta : TE) (t : TA) : TE := fun σ H Q => ta σ H fun x H1 => ∃ a dx fs, x = .ref a ∧ H1 a = some (.ins C dx fs) ∧ fs.lookup m = none ∧
  t σ H1 fun vs H2 => sp (x :: (vs ++ dvs)) H2 Q E
def tMake (C : Addr) (sp : Sp) (dvs : List V) (E : XK) (t : TA) : TE := fun σ H Q => t σ H fun vs H1 => ∀ x dx, H1 x = none → H1 dx = none → dx ≠ x →
  sp (.ref x :: (vs ++ dvs)) (upd (upd H1 dx (.own x)) x (.ins C dx [])) (fun v H2 => v = .non ∧ Q (.ref x) H2) E
def Binds (K : PySem.W.Frag) (fd : FuncData) (ps : List Str) (ds : List Value) : Prop :=
  ∀ (s : Shared) (us : List Value), K.In s.heap → (us ++ ds).length = ps.length → BindsTo s fd ⟨us, []⟩ (ps.zip (us ++ ds))
theorem Binds.all {K : PySem.W.Frag} {fd : FuncData} {ps : List Str} (h : ∀ us : List Value, us.length = ps.length → bindArgs fd ⟨us, []⟩ = pure (ps.zip us)) : Binds K fd ps [] := fun s us _ hl => by
  rw [List.append_nil] at hl ⊢
  exact .of_eq (h us hl)
def Passes (CX : CXT) (X : Cx) (E : XK) : Prop := ∀ (pins : List (Addr × Obj)) (σ : St) (H : Hp) (s : Shared) (e : Value) (s' : Shared), Inv X pins σ H s → CX X.stack H s E e s' → X.xe e s'
section
variable {X : Cx} {CX : CXT} {k : Nat} {f C : Addr} {fd : FuncData} {ps : List Str} {sp : Sp} {dvs : List V} {ds : List Value} {E : XK} {x m : Str} {p pos apos : Pos} {e o : Expr} {es : List Expr} {ta : TE} {t : TA}
theorem run_fn {pins : List (Addr × Obj)} {σ : St} {H : Hp} {s : Shared} {Q : VK} {us : List Value} {vs : List V} (F : FnOk X.prog X.w X.K X.mg X.base CX k f fd ps sp) (hr : Room k X.A) (hb : Binds X.K fd ps ds) (hd : Vals dvs ds) (hx : Passes CX X E)
    (I : Inv X pins σ H s) (r : Vals vs us) (h : sp (vs ++ dvs) H Q E) : wpAny (model X.prog X.w) X.A (call (.ref f) us) (EP X pins σ Q) X.xe s := by
  have r2 : Vals (vs ++ dvs) (us ++ ds) := r.append hd
  have hl : (us ++ ds).length = ps.length := by rw [← r2.length]; exact F.len _ _ _ _ h
  refine wpAny_call (codeAny_mono (F.run X.A X.stack s H ⟨us, []⟩ (us ++ ds) (vs ++ dvs) Q E hr I.env0 (hb s us I.kIn hl) r2 h) fun r s' hq => ?_)
  cases r with
  | error e => exact hx pins σ H s e s' I hq
  | ok fl =>
    cases fl with
    | ret u => exact I.after hq
    | next => exact False.elim hq
    | brk => exact False.elim hq
    | cont => exact False.elim hq
theorem pe_call (F : FnOk X.prog X.w X.K X.mg X.base CX k f fd ps sp) (hr : Room k X.A) (hg : Gl X x) (hm : X.mg x = some (.ref f)) (hk : PySem.W.keepIn X.K (.ref f) = true) (hb : Binds X.K fd ps ds) (hd : Vals dvs ds) (hx : Passes CX X E)
    (ha : PA X (e :: es) t) (hdb : (x == ("__debug__" : Str)) = false := by decide) (he : starEach (e :: es) X.env = (false, eval e X.env) :: starEach es X.env := by rfl) (hpl : (backTo pos (starEach es X.env)).any (·.1) = false := by rfl) :
    PE X (.Call (.Name x p) (e :: es) [] pos) (tCall sp dvs E t) := by
  intro pins s σ H Q I h
  refine wpAny_Call_Name_kw (ld_glob I hg hm ?_ hdb)
  refine PySem.W.callWith_K (h₀ := X.base) I.ok.mod.kin hk (thn (ha pos pins s σ H _ I h) fun us s1 ⟨vs, H1, I1, r, q⟩ => ⟨I1.kIn, ?_⟩) he hpl
  exact run_fn F hr hb hd hx I1 r q
theorem pe_call0 (F : FnOk X.prog X.w X.K X.mg X.base CX k f fd ps sp) (hr : Room k X.A) (hg : Gl X x) (hm : X.mg x = some (.ref f)) (hk : PySem.W.keepIn X.K (.ref f) = true) (hb : Binds X.K fd ps ds) (hd : Vals dvs ds) (hx : Passes CX X E)
    (hdb : (x == ("__debug__" : Str)) = false := by decide) : PE X (.Call (.Name x p) [] [] pos) (tCall sp dvs E tNil) := by
  intro pins s σ H Q I h
  refine wpAny_Call_Name_kw (ld_glob I hg hm ?_ hdb)
  exact PySem.W.callWith_K0 I.kIn hk (run_fn (us := []) F hr hb hd hx I .nil h)
theorem pe_meth {pl : Sem Bool} (he : PE X o ta) (c : Cls X.K C) (hm : Meth X.K C m f) (F : FnOk X.prog X.w X.K X.mg X.base CX k f fd ps sp) (hr : Room k X.A) (hb : Binds X.K fd ps ds) (hd : Vals dvs ds) (hx : Passes CX X E) (ha : PA X (e :: es) t)
    (hst : starEach (e :: es) X.env = (false, eval e X.env) :: starEach es X.env := by rfl) (hpl : (backTo pos (starEach es X.env)).any (·.1) = false := by rfl)
    (ht : eval (.Call (.Attribute o m apos) (e :: es) [] pos) X.env = (do
      let ov ← eval o X.env
      standAt apos.atName
      let (f, first) ← holding [ov] (getMethod ov m pl)
      callWith pos f first (backTo pos (starEach (e :: es) X.env)) (backToKw pos (keywordEach [] X.env))) := by rfl) :
    PE X (.Call (.Attribute o m apos) (e :: es) [] pos) (tMeth C m sp dvs E ta t) := by
  intro pins s σ H Q I h
  refine PySem.W.methodCall_KW (pl := pl) (thn (he pins s σ H _ I h) fun u s1 ⟨x, H1, I1, rx, a, dx, fs, ex, ea, l, q⟩ => ?_) ht
  subst ex
  obtain rfl : u = Value.ref a := rx
  refine getmeth_ok I1 ea c hm l ?_
  refine PySem.W.callWith_K (first := [.ref a]) (h₀ := X.base) I.ok.mod.kin hm.kp (thn (ha pos pins s1 σ H1 _ I1 q) fun us s2 ⟨vs, H2, I2, r, q2⟩ => ⟨I2.kIn, ?_⟩) hst hpl
  exact run_fn (us := .ref a :: us) (vs := .ref a :: vs) F hr hb hd hx I2 (.cons rfl r) q2
theorem pe_meth0 {pl : Sem Bool} (he : PE X o ta) (c : Cls X.K C) (hm : Meth X.K C m f) (F : FnOk X.prog X.w X.K X.mg X.base CX k f fd ps sp) (hr : Room k X.A) (hb : Binds X.K fd ps ds) (hd : Vals dvs ds) (hx : Passes CX X E)
    (ht : eval (.Call (.Attribute o m apos) [] [] pos) X.env = (do
      let ov ← eval o X.env
      standAt apos.atName
      let (f, first) ← holding [ov] (getMethod ov m pl)
      callWith pos f first (backTo pos (starEach [] X.env)) (backToKw pos (keywordEach [] X.env))) := by rfl) :
    PE X (.Call (.Attribute o m apos) [] [] pos) (tMeth C m sp dvs E ta tNil) := by
  intro pins s σ H Q I h
  refine PySem.W.methodCall_KW (pl := pl) (thn (he pins s σ H _ I h) fun u s1 ⟨x, H1, I1, rx, a, dx, fs, ex, ea, l, q⟩ => ?_) ht
  subst ex
  obtain rfl : u = Value.ref a := rx
  refine getmeth_ok I1 ea c hm l ?_
  exact PySem.W.callWith_K0 (first := [.ref a]) I1.kIn hm.kp (run_fn (us := [.ref a]) (vs := [.ref a]) F hr hb hd hx I1 (.cons rfl .nil) q)
structure Mk (K : PySem.W.Frag) (C f : Addr) : Prop where
  makes : PySem.W.makesIn K C = true
  init : PySem.W.findIn K (.ref C) "__init__" = some (some (.ref f))
  fn : PySem.W.isFn K (.ref f) = true
  kp : PySem.W.keepIn K (.ref C) = true
theorem run_make {pins : List (Addr × Obj)} {σ : St} {H : Hp} {s : Shared} {Q : VK} {us : List Value} {vs : List V} (M : Mk X.K C f) (F : FnOk X.prog X.w X.K X.mg X.base CX k f fd ps sp) (hr : Room (k + 1) X.A) (hb : Binds X.K fd ps ds) (hd : Vals dvs ds)
    (hx : Passes CX X E) (I : Inv X pins σ H s) (r : Vals vs us)
    (h : ∀ x dx, H x = none → H dx = none → dx ≠ x → sp (.ref x :: (vs ++ dvs)) (upd (upd H dx (.own x)) x (.ins C dx [])) (fun v H2 => v = .non ∧ Q (.ref x) H2) E) :
    wpAny (model X.prog X.w) X.A (call (.ref C) us) (EP X pins σ Q) X.xe s := by
  have hq := h (s.heap.objs.size + 1) s.heap.objs.size (I.hok.fresh (Nat.le_succ _)) (I.hok.fresh (Nat.le_refl _)) (Nat.ne_of_lt (Nat.lt_succ_self _))
  have I2 := Inv.made (C := C) I
  have r2 : Vals (V.ref (s.heap.objs.size + 1) :: (vs ++ dvs)) (Value.ref (s.heap.objs.size + 1) :: (us ++ ds)) := .cons rfl (r.append hd)
  have hl : (Value.ref (s.heap.objs.size + 1) :: us ++ ds).length = ps.length := by
    have e := r2.length
    rw [F.len _ _ _ _ hq] at e
    exact e.symm
  refine wpAny_call (make_map (f := f) I.kIn M.makes M.init (beq_iff_eq.mp M.fn) (codeAny_mono (F.run _ X.stack _ _ ⟨Value.ref (s.heap.objs.size + 1) :: us, []⟩ (Value.ref (s.heap.objs.size + 1) :: (us ++ ds)) _ _ E (hr.make C us [])
    (I2.env0.make C us []) (hb _ (Value.ref (s.heap.objs.size + 1) :: us) I2.kIn hl) r2 hq) fun r s' hq' => ?_))
  cases r with
  | error e => exact hx pins σ _ _ e s' I2 hq'
  | ok fl =>
    cases fl with
    | ret u =>
      obtain ⟨v, H', I3, rv, ev, q3⟩ := I2.after hq'
      subst ev
      exact ⟨rv, ⟨V.ref (s.heap.objs.size + 1), H', I3, rfl, q3⟩⟩
    | next => exact False.elim hq'
    | brk => exact False.elim hq'
    | cont => exact False.elim hq'
theorem pe_make (M : Mk X.K C f) (F : FnOk X.prog X.w X.K X.mg X.base CX k f fd ps sp) (hr : Room (k + 1) X.A) (hg : Gl X x) (hm : X.mg x = some (.ref C)) (hb : Binds X.K fd ps ds) (hd : Vals dvs ds) (hx : Passes CX X E)
    (ha : PA X (e :: es) t) (hdb : (x == ("__debug__" : Str)) = false := by decide) (he : starEach (e :: es) X.env = (false, eval e X.env) :: starEach es X.env := by rfl) (hpl : (backTo pos (starEach es X.env)).any (·.1) = false := by rfl) :
    PE X (.Call (.Name x p) (e :: es) [] pos) (tMake C sp dvs E t) := by
  intro pins s σ H Q I h
  refine wpAny_Call_Name_kw (ld_glob I hg hm ?_ hdb)
  refine PySem.W.callWith_K (h₀ := X.base) I.ok.mod.kin M.kp (thn (ha pos pins s σ H _ I h) fun us s1 ⟨vs, H1, I1, r, q⟩ => ⟨I1.kIn, ?_⟩) he hpl
  exact run_make M F hr hb hd hx I1 r q
theorem pe_make0 (M : Mk X.K C f) (F : FnOk X.prog X.w X.K X.mg X.base CX k f fd ps sp) (hr : Room (k + 1) X.A) (hg : Gl X x) (hm : X.mg x = some (.ref C)) (hb : Binds X.K fd ps ds) (hd : Vals dvs ds) (hx : Passes CX X E)
    (hdb : (x == ("__debug__" : Str)) = false := by decide) : PE X (.Call (.Name x p) [] [] pos) (tMake C sp dvs E tNil) := by
  intro pins s σ H Q I h
  refine wpAny_Call_Name_kw (ld_glob I hg hm ?_ hdb)
  exact PySem.W.callWith_K0 I.kIn M.kp (run_make (us := []) M F hr hb hd hx I .nil h)
end
section
variable {X : Cx} {CX : CXT} {k : Nat} {f C : Addr} {fd : FuncData} {ps ks : List Str} {sp : Sp} {E : XK} {x m : Str} {p pos apos kpos : Pos} {e o : Expr} {es : List Expr} {kws : List Keyword} {te ta : TE} {t tk : TA} {nm : Option Str}
variable {g : List Value → List Value → List Value} {gV : List V → List V → List V}
end
structure FnScope (N P : List Str) (sc : Scope) : Prop where
  kind : sc.kind = .function
  co : sc.isCoroutine = false
  gen : sc.isGenerator = false
  nd : N.Nodup
  pre : N.take P.length = P
  par : ∀ x ∈ P, sc.names.lookup x = some .local ∨ sc.names.lookup x = some .cell
  nofree : ∀ y ∈ sc.names, y.2 ≠ .free
theorem bindL_out {kindOf : Str → Option NameKind} {x : Str} : ∀ {binds : List (Str × Value)} {m : Str → Option Value}, (∀ v, (x, v) ∉ binds) → bindL kindOf binds m x = m x
  | [], _, _ => rfl
  | (n, v) :: r, m, h => by
    unfold bindL
    rw [bindL_out fun w hw => h w (List.mem_cons_of_mem _ hw)]
    split
    · have : x ≠ n := by rintro rfl; exact h v List.mem_cons_self
      simp [this]
    · rfl
theorem bindC_out {kindOf : Str → Option NameKind} {x : Str} : ∀ {binds : List (Str × Value)} {m : Str → Option Value}, (∀ v, (x, v) ∉ binds) → bindC kindOf binds m x = m x
  | [], _, _ => rfl
  | (n, v) :: r, m, h => by
    unfold bindC
    rw [bindC_out fun w hw => h w (List.mem_cons_of_mem _ hw)]
    split
    · rfl
    · have : x ≠ n := by rintro rfl; exact h v List.mem_cons_self
      simp [this]
theorem bindL_get {kindOf : Str → Option NameKind} {x : Str} {v : Value} : ∀ {P : List Str} {vs : List Value} {i : Nat} {m : Str → Option Value}, P.Nodup → P[i]? = some x → vs[i]? = some v → kindOf x = some .local →
    bindL kindOf (P.zip vs) m x = some v
  | [], _, _, _, _, h, _, _ => by simp at h
  | _ :: _, [], _, _, _, _, h, _ => by simp at h
  | p :: P, w :: vs, 0, m, nd, h1, h2, hk => by
    simp at h1 h2; subst h1; subst h2
    show bindL kindOf ((p, w) :: P.zip vs) m p = _
    unfold bindL
    rw [bindL_out fun v hv => (List.nodup_cons.mp nd).1 (List.of_mem_zip hv).1, if_pos hk]
    simp
  | p :: P, w :: vs, i + 1, m, nd, h1, h2, hk => by
    show bindL kindOf ((p, w) :: P.zip vs) m x = _
    unfold bindL
    exact bindL_get (i := i) (List.nodup_cons.mp nd).2 (by simpa using h1) (by simpa using h2) hk
theorem bindC_get {kindOf : Str → Option NameKind} {x : Str} {v : Value} : ∀ {P : List Str} {vs : List Value} {i : Nat} {m : Str → Option Value}, P.Nodup → P[i]? = some x → vs[i]? = some v → kindOf x ≠ some .local →
    bindC kindOf (P.zip vs) m x = some v
  | [], _, _, _, _, h, _, _ => by simp at h
  | _ :: _, [], _, _, _, _, h, _ => by simp at h
  | p :: P, w :: vs, 0, m, nd, h1, h2, hk => by
    simp at h1 h2; subst h1; subst h2
    show bindC kindOf ((p, w) :: P.zip vs) m p = _
    unfold bindC
    rw [bindC_out fun v hv => (List.nodup_cons.mp nd).1 (List.of_mem_zip hv).1, if_neg hk]
    simp
  | p :: P, w :: vs, i + 1, m, nd, h1, h2, hk => by
    show bindC kindOf ((p, w) :: P.zip vs) m x = _
    unfold bindC
    exact bindC_get (i := i) (List.nodup_cons.mp nd).2 (by simpa using h1) (by simpa using h2) hk
def start (N : List Str) (vs : List V) : St := vs.map some ++ List.replicate (N.length - vs.length) none
def cxOf (CX : CXT) (P : Program) (w : World) (K : PySem.W.Frag) (mg : Str → Option Value) (base : Heap) (N : List Str) (qual : Str) (scope : Scope) (f : Addr) (cd : Value) (A : Around) (outer : List Env) (s : Shared) (H : Hp) (E : XK) : Cx where
  prog := P
  w := w
  K := K
  mg := mg
  base := base
  A := A.deeper (envOfC qual scope s.heap.objs.size f cd)
  N := N
  s_0 := s
  H_0 := H
  env := envOfC qual scope s.heap.objs.size f cd
  outer := outer
  stack := envOfC qual scope s.heap.objs.size f cd :: outer
  ex := []
  calm := true
  fn := fun _ => true
  pn := []
  xe := fun e s' => wpAny (model P w) (A.deeper (envOfC qual scope s.heap.objs.size f cd)) (leaving (envOfC qual scope s.heap.objs.size f cd) e) (fun _ s'' => CX outer H s E e s'') (fun e' s'' => CX outer H s E e' s'') s'
theorem cell_has {sc : Scope} {n : Nat} {x : Str} (h : sc.names.lookup x = some .cell) : ∃ c, (cellsFrom n sc.names []).lookup x = some c := by
  have q := PySem.W.cellsFrom_some sc.names n [] (.inl h)
  exact Option.isSome_iff_exists.mp q
theorem inv_start {CX : CXT} {P : Program} {w : World} {K : PySem.W.Frag} {mg : Str → Option Value} {base : Heap} {N ps : List Str} {qual : Str} {scope : Scope} {f : Addr} {cd : Value} {A : Around} {outer : List Env} {s s1 : Shared} {H : Hp} {E : XK} {us : List Value} {vs : List V}
    (S : FnScope N ps scope) (hd : A.handled = none) (e0 : Env0 P w K mg base A outer s H) (hl : vs.length = ps.length) (r : Vals vs us)
    (x : InCallC s s.heap.objs.size (bindL (envOfC qual scope s.heap.objs.size f cd).kindOf (ps.zip us) fun _ => none) (cellsFrom (s.heap.objs.size + 1) scope.names []) (bindC (envOfC qual scope s.heap.objs.size f cd).kindOf (ps.zip us) fun _ => none) s1) :
    Inv (cxOf CX P w K mg base N qual scope f cd A outer s H E) [] (start N vs) H s1 := by
  have hpl : ps.length ≤ N.length := by have := congrArg List.length S.pre; rw [List.length_take] at this; omega
  obtain ⟨h1, tk, rfl, hk⟩ := x.done
  have noA : ∀ b : Addr, b ∉ (cxOf CX P w K mg base N qual scope f cd A outer s H E).ex := fun b z => absurd (show b ∈ ([] : List Addr) from z) (by simp)
  refine ⟨⟨e0.mod, S.kind, rfl, rfl, Nat.le_refl _, fun y z c h1 h2 => ?_, fun y hy => ?_, fun y c _ h => ?_, fun _ => hd, Around.frames_deeper e0.frames, .inr ⟨rfl, rfl⟩, fun b z => absurd z (noA b), e0.bs, e0.bsz, fun b _ _ => noA b, fun b z => absurd z (noA b), e0.funs, e0.frf⟩,
    rfl, e0.bare, Un.kept hk, ⟨_, x.toInCall.ns, fun i y v h1 h2 h3 => ?_⟩, fun y c h => ⟨_, x.cell y c h⟩, e0.hok.fresh (Nat.le_refl _), fun y c h => ?_, fun p hp => absurd (show p ∈ ([] : List (Addr × Obj)) from hp) (by simp), e0.hok.kept hk, ?_⟩
  · exact name_of_addr x.apart (PySem.mem_of_lookup h1) (PySem.mem_of_lookup h2)
  · have hy : scope.names.lookup y = some .cell ∨ scope.names.lookup y = some .free := hy
    rcases hy with hy | hy
    · exact cell_has hy
    · exact absurd rfl (S.nofree _ (PySem.mem_of_lookup hy))
  · exact Nat.le_of_lt (x.above y c (PySem.mem_of_lookup h))
  · have hi : i < vs.length := by
      unfold start at h2
      by_cases hi : i < vs.length
      · exact hi
      · rw [List.getElem?_append_right (by simpa using hi)] at h2
        rw [List.getElem?_replicate] at h2
        split at h2 <;> cases h2
    have ha : vs[i]? = some v := by
      unfold start at h2
      rw [List.getElem?_append_left (by simpa using hi), List.getElem?_map] at h2
      cases e : vs[i]? with
      | none => rw [e] at h2; cases h2
      | some a => rw [e] at h2; cases h2; rfl
    obtain ⟨u, hu, rv⟩ := r.get ha
    have hp : ps[i]? = some y := by
      rw [← S.pre, List.getElem?_take_of_lt (by omega)]; exact h1
    have ndP : ps.Nodup := by rw [← S.pre]; exact S.nd.sublist (List.take_sublist _ _)
    refine ⟨u, rv, ?_⟩
    rcases S.par y (List.mem_of_getElem? hp) with k | k
    · exact .inl ⟨k, bindL_get ndP hp hu k⟩
    · obtain ⟨c, e⟩ := cell_has (n := s.heap.objs.size + 1) k
      refine .inr ⟨.inl k, c, e, ?_⟩
      have q := x.cell y c e
      rw [bindC_get ndP hp hu (by show scope.names.lookup y ≠ _; rw [k]; decide)] at q
      exact q
  · exact e0.hok.fresh (Nat.le_of_lt (x.above y c (PySem.mem_of_lookup h)))
  · unfold start
    show _ = N.length
    rw [List.length_append, List.length_map, List.length_replicate]
    omega
theorem fn_of {CX : CXT} {P : Program} {w : World} {K : PySem.W.Frag} {mg : Str → Option Value} {base : Heap} {k : Nat} {f : Addr} {name qual : Str} {params : Arguments} {body : List Stmt} {scope : Scope} {dV kV doc pm cdv ct oc : Value} {an od : Option Addr}
    {osl : Array (Option Value)} {N ps : List Str} {sp : Sp} (lk : K.lookup f = some ⟨oc, od, .func (PySem.W.fnOf name qual params body scope dV kV doc pm an cdv ct), osl⟩) (hcd : PySem.W.codeIn K cdv qual = true) (S : FnScope N ps scope)
    (len : ∀ vs H Q E, sp vs H Q E → vs.length = ps.length)
    (hbody : ∀ (A : Around) (outer : List Env) (s : Shared) (H : Hp) (vs : List V) (Q : VK) (E : XK), Room k (A.deeper (envOfC qual scope s.heap.objs.size f cdv)) → sp vs H Q E →
      ∃ t, PSs (cxOf CX P w K mg base N qual scope f cdv A outer s H E) body t ∧ t { nx := fun _ H' => Q .non H', rt := Q } (start N vs) H) :
    FnOk P w K mg base CX (k + 1) f (PySem.W.fnOf name qual params body scope dV kV doc pm an cdv ct) ps sp := by
  refine ⟨len, fun A outer s H args us vs Q E hr e0 hb r hsp => ?_⟩
  have hl := len _ _ _ _ hsp
  have KX : K.In s.heap := e0.mod.kin.keeps fun b o e => (e0.bs b o e).1
  have lim : s.heap.NoLimit := e0.mod.nolimit.keeps fun b o e => (e0.bs b o e).1
  have hkind : ∀ y ∈ ps.zip us, scope.names.lookup y.1 = some .local ∨ (scope.names.lookup y.1 = some .cell ∧ ((cellsFrom (s.heap.objs.size + 1) scope.names []).lookup y.1).isSome = true) := fun ⟨n, v⟩ hy => by
    rcases S.par n (List.of_mem_zip hy).1 with q | q
    · exact .inl q
    · exact .inr ⟨q, PySem.W.cellsFrom_some _ _ _ (.inl q)⟩
  refine codeAny_call_function hr.depth (KX _ _ lk) rfl S.co S.gen rfl (PySem.W.codeRec_of KX hcd) (hb _ _ _ _ ?_)
  refine wpAny_newFunctionEnv_cells S.kind hkind fun env he s1 x => ?_
  subst he
  refine ⟨lim.keeps x.toInCall.keep, codeAny_func ?_⟩
  obtain ⟨t, ht, hq⟩ := hbody A outer s H vs Q E (hr.deeper _) hsp
  have I : Inv (cxOf CX P w K mg base N qual scope f cdv A outer s H E) [] (start N vs) H s1 := inv_start S hr.hd e0 hl r x
  refine wpAny_mono (ht [] s1 (start N vs) H _ I hq) (fun fl s' hs => ?_) fun e s' hs => hs
  have fin : ∀ {σ' : St} {H' : Hp} {v : V} {u : Value}, Inv (cxOf CX P w K mg base N qual scope f cdv A outer s H E) [] σ' H' s' → RelV v u → Q v H' → CE outer P w H s Q u s' :=
    fun {σ' H' v u} J rv q => ⟨v, H', J.os, J.bare, J.base, J.hok, rv, q⟩
  cases fl with
  | ret u =>
    obtain ⟨v, σ', H', J, rv, q⟩ := hs
    exact fin J rv q
  | next =>
    obtain ⟨σ', H', J, q⟩ := hs
    exact fin (v := V.non) (u := Value.none) J rfl q
  | brk =>
    obtain ⟨_, _, _, q⟩ := hs
    exact False.elim q
  | cont =>
    obtain ⟨_, _, _, q⟩ := hs
    exact False.elim q
end L2
namespace L2
open PySem PySem.Spec PyProof.Rows
section
variable {X : Cx} {x : Str} {p pos : Pos} {e : Expr} {es : List Expr} {t : TA} {id T : String} {r : List V → Hp → VK → Prop}
def tCB (r : List V → Hp → VK → Prop) (t : TA) : TE := fun σ H Q => t σ H fun vs H1 => r vs H1 Q
theorem pe_callB (hc : CallR X (.builtin id) r) (hg : Gl X x) (hm : X.mg x = none) (hv : bootBuiltins x = some (.builtin id)) (ha : PA X (e :: es) t) (hn : x ≠ "__name__" := by decide) (hdb : (x == ("__debug__" : Str)) = false := by decide)
    (he : starEach (e :: es) X.env = (false, eval e X.env) :: starEach es X.env := by rfl) (hpl : (backTo pos (starEach es X.env)).any (·.1) = false := by rfl) : PE X (.Call (.Name x p) (e :: es) [] pos) (tCB r t) := by
  intro pins s σ H Q I h
  refine wpAny_Call_Name_kw (ld_blt I hg hm hv ?_ hn hdb)
  exact PyProof.Rows.callWith_builtin1 (thn (ha pos pins s σ H _ I h) fun us s1 ⟨vs, H1, I1, r1, q1⟩ => hc pins s1 σ H1 vs us Q I1 r1 q1) he hpl
theorem pe_callTy (hc : CallR X (.type T) r) (hg : Gl X x) (hm : X.mg x = none) (hv : bootBuiltins x = some (.type T)) (ha : PA X (e :: es) t) (hn : x ≠ "__name__" := by decide) (hdb : (x == ("__debug__" : Str)) = false := by decide)
    (he : starEach (e :: es) X.env = (false, eval e X.env) :: starEach es X.env := by rfl) (hpl : (backTo pos (starEach es X.env)).any (·.1) = false := by rfl) : PE X (.Call (.Name x p) (e :: es) [] pos) (tCB r t) := by
  intro pins s σ H Q I h
  refine wpAny_Call_Name_kw (ld_blt I hg hm hv ?_ hn hdb)
  exact PyProof.Rows.callWith_type1 (thn (ha pos pins s σ H _ I h) fun us s1 ⟨vs, H1, I1, r1, q1⟩ => hc pins s1 σ H1 vs us Q I1 r1 q1) he hpl
end
end L2
namespace HT
open PySem PyProof.Rows
section
open PySem.SeqAt
open PySem.AutoSeq1 (wpAny_loadPart')
open PySem.MeetsSeq PySem.MeetsSeq2 PySem.MeetsSeq3
end
section
variable {prog : Program} {w : World} {A : Around} {E : Value → Shared → Prop} {s : Shared}
theorem cat_tup {t b : Addr} {vs ws : List Value} {Q : Value → Shared → Prop} (ht : IsTup s.heap t vs.toArray) (hb : IsTup s.heap b ws.toArray) (hv : vs ≠ [])
    (h1 : ws = [] → Q (.ref t) s) (h2 : ws ≠ [] → Q (.ref s.heap.objs.size) { s with heap := s.heap.push { cls := .type "tuple", data := .seq (vs ++ ws).toArray } })
    (hsz : vs.length + ws.length ≤ sizeLine) : wpAny (model prog w) A (binaryOp .Add (.ref t) (.ref b)) Q E s := by
  obtain ⟨⟨cls, dd, data, sl⟩, ho, hc, n, hd⟩ := id ht
  obtain ⟨⟨cls2, dd2, data2, sl2⟩, ho2, hc2, n2, hd2⟩ := id hb
  simp only at hc hd hc2 hd2
  subst hc hd hc2 hd2
  have e : vs.toArray ++ ws.toArray = (vs ++ ws).toArray := by simp
  by_cases hw : ws = []
  · exact concat_meets ⟨_, ho, rfl⟩ ⟨_, ho2, rfl⟩ noFill_tuple_add seq_tuple_add PySem.F.slot_tuple_add PySem.F.entry_tuple_add (PySem.F.args_tuple_add_2 _ _)
      (tuple_addW1 t b vs.toArray ws.toArray n n2 dd dd2 sl sl2 (by simpa using hv) (by simp [hw])) ⟨ho, ho2, h1 hw⟩
  · refine concat_meets ⟨_, ho, rfl⟩ ⟨_, ho2, rfl⟩ noFill_tuple_add seq_tuple_add PySem.F.slot_tuple_add PySem.F.entry_tuple_add (PySem.F.args_tuple_add_2 _ _)
      (tuple_addW2 t b vs.toArray ws.toArray n n2 dd dd2 sl sl2 (by simpa using hv) (by simpa using hw) (by rw [List.size_toArray, List.size_toArray]; exact hsz)) ⟨ho, ho2, ?_⟩
    rw [e]
    exact h2 hw
def sIx (n d : Nat) : Option Int → Nat
  | none => d
  | some v => if v < 0 then (v + (n : Int)).toNat else min v.toNat n
theorem sIx_none (n d : Nat) : sIx n d none = d := rfl
theorem sIx_nat (n d k : Nat) : sIx n d (some (k : Int)) = min k n := by
  show (if (k : Int) < 0 then ((k : Int) + (n : Int)).toNat else min (k : Int).toNat n) = min k n
  rw [if_neg (by omega), Int.toNat_natCast]
theorem sIx_le (n d : Nat) (hd : d ≤ n) (o : Option Int) : sIx n d o ≤ n := by
  cases o with
  | none => exact hd
  | some v =>
    show (if v < 0 then (v + (n : Int)).toNat else min v.toNat n) ≤ n
    by_cases hv : v < 0
    · rw [if_pos hv]; omega
    · rw [if_neg hv]; exact Nat.min_le_right _ _
theorem clip_eq (v : Int) (n d : Nat) : (if v < 0 then max (v + (n : Int)) 0 else min v (n : Int)) = ((sIx n d (some v) : Nat) : Int) := by
  show (if v < 0 then max (v + (n : Int)) 0 else min v (n : Int)) = (((if v < 0 then (v + (n : Int)).toNat else min v.toNat n) : Nat) : Int)
  by_cases hv : v < 0
  · simp only [if_pos hv]; omega
  · simp only [if_neg hv]; omega
theorem adjust_gen (lo hi : Option Int) (n : Nat) : Builtin.Slice.sliceAdjust lo hi 1 (n : Int) = (((sIx n 0 lo : Nat) : Int), ((sIx n n hi : Nat) : Int)) := by
  have h1 : ¬ ((1 : Int) < 0) := by omega
  unfold Builtin.Slice.sliceAdjust
  simp only [h1, if_false]
  refine Prod.ext ?_ ?_
  · cases lo with
    | none => rfl
    | some v => exact clip_eq v n 0
  · cases hi with
    | none => rfl
    | some v => exact clip_eq v n n
theorem places_gen (i j : Nat) : Builtin.Slice.slicePlaces (i : Int) (j : Int) 1 = j - i := by
  unfold Builtin.Slice.slicePlaces
  have h1 : (1 : Int) > 0 := by omega
  simp only [h1, if_true, Int.ediv_one]
  split <;> omega
theorem slicePart_ {v : Value} {o : Option Int} {Q : Option Int → Shared → Prop} (p : IsPart v o) (h : Q o s) : wpAny (model prog w) A (Builtin.Slice.slicePartIndex v) Q E s := by
  cases p with
  | none => exact slicePart_none h
  | int i t => exact slicePart_int h
theorem sliceApplied_gen {sl : Addr} {vl vu : Value} {lo hi : Option Int} {n : Nat} {Q : Int × Int × Nat → Shared → Prop} (hs : s.heap.IsSliceOf sl vl vu .none) (pl : IsPart vl lo) (pu : IsPart vu hi)
    (h : Q (((sIx n 0 lo : Nat) : Int), 1, sIx n n hi - sIx n 0 lo) s) : wpAny (model prog w) A (Builtin.Slice.sliceApplied (.ref sl) (pure (n : Int))) Q E s := by
  obtain ⟨os, hos, hcs, hds⟩ := id hs
  unfold Builtin.Slice.sliceApplied Builtin.Slice.sliceFields
  refine wpAny_bind (wpAny_bind (wpAny_field hos hds (x := vl) rfl (wpAny_bind (wpAny_field hos hds (x := vu) rfl (wpAny_bind (wpAny_field hos hds (x := .none) rfl (wpAny_pure ?_)))))))
  refine wpAny_bind (slicePart_none ?_)
  show wpAny _ _ (if ((1 : Int) == 0) = true then _ else _) _ _ s
  rw [if_neg (by decide)]
  refine wpAny_bind (slicePart_ pl (wpAny_bind (slicePart_ pu (wpAny_bind (wpAny_pure ?_)))))
  show wpAny _ _ (match Builtin.Slice.sliceAdjust lo hi 1 (n : Int) with | (lo, hi) => pure (lo, (1 : Int), Builtin.Slice.slicePlaces lo hi 1)) _ _ s
  rw [adjust_gen lo hi n]
  show wpAny _ _ (pure (((sIx n 0 lo : Nat) : Int), (1 : Int), Builtin.Slice.slicePlaces ((sIx n 0 lo : Nat) : Int) ((sIx n n hi : Nat) : Int) 1)) _ _ s
  rw [places_gen]
  exact wpAny_pure h
theorem pick_gen (xs : Array Value) (i k : Nat) : ((List.range k).filterMap fun (m : Nat) => xs[((i : Int) + (m : Int) * 1).toNat]?).toArray = ((xs.toList.drop i).take k).toArray := by
  have e : (fun (m : Nat) => xs[((i : Int) + (m : Int) * 1).toNat]?) = fun m => xs[i + m]? := by
    funext m
    have : ((i : Int) + (m : Int) * 1).toNat = i + m := by omega
    rw [this]
  rw [e]
  have := pick_run xs i k
  rw [List.filterMap_map] at this
  have e2 : ((fun x => xs[x]?) ∘ fun x => i + x) = fun m => xs[i + m]? := rfl
  rw [e2] at this
  rw [this]
theorem getItem_tuple_cut {t sl : Addr} {items : Array Value} {vl vu : Value} {lo hi : Option Int} {Q : Value → Shared → Prop} (ht : IsTup s.heap t items) (hs : s.heap.IsSliceOf sl vl vu .none) (pl : IsPart vl lo) (pu : IsPart vu hi)
    (hw : ¬ (sIx items.size 0 lo = 0 ∧ sIx items.size items.size hi = items.size))
    (h : Q (.ref s.heap.objs.size) { s with heap := s.heap.push { cls := .type "tuple", data := .seq ((items.toList.drop (sIx items.size 0 lo)).take (sIx items.size items.size hi - sIx items.size 0 lo)).toArray } })
    (hsz : items.size ≤ sizeLine) : wpAny (model prog w) A (getItem (.ref t) (.ref sl)) Q E s := by
  have htake : sizeOk (.seq ((items.toList.drop (sIx items.size 0 lo)).take (sIx items.size items.size hi - sIx items.size 0 lo)).toArray) := by
    show ((items.toList.drop (sIx items.size 0 lo)).take (sIx items.size items.size hi - sIx items.size 0 lo)).toArray.size ≤ sizeLine
    rw [List.size_toArray, List.length_take, List.length_drop, Array.length_toList]
    omega
  have hj : sIx items.size items.size hi ≤ items.size := sIx_le _ _ (Nat.le_refl _) hi
  obtain ⟨os, hos, hcs, hds⟩ := id hs
  have hTs : s.TypeIs (.ref sl) "slice" := ⟨os, hos, hcs⟩
  unfold getItem
  try with_reducible refine wpAny_holding ?_
  first | refine wpAny_bind (wpAny_pure ?_) | skip
  refine wpAny_bind (wpAny_sequenceKey ht.typeIs (by decide) ?_)
  refine wpAny_bind (wpAny_callSpecial?_slot (name := Str.ofString "__getitem__") ht.typeIs PyProof.Rows.slot_tuple_getitem
    (wpAny_call_entry PyProof.Rows.slot_tuple_getitem ht.typeIs entry_tuple_getitem ?_ (args_tuple_getitem _ _)))
  show wpAny _ _ (Builtin.Tuple.tupleItemsOf (.ref t) >>= _) _ _ s
  refine wpAny_bind (tupleItemsOf_ ht ?_)
  refine wpAny_bind (wpAny_typeOf hTs ?_)
  rw [if_pos (by decide)]
  refine wpAny_bind (sliceApplied_gen hs pl pu ?_)
  have hno : ¬ ((((sIx items.size 0 lo : Nat) : Int) == 0 && (1 : Int) == 1 && (sIx items.size items.size hi - sIx items.size 0 lo) == items.size) = true) := by
    intro q
    rw [Bool.and_eq_true, Bool.and_eq_true] at q
    have q1 : ((sIx items.size 0 lo : Nat) : Int) = 0 := eq_of_beq q.1.1
    have q2 : sIx items.size items.size hi - sIx items.size 0 lo = items.size := eq_of_beq q.2
    exact hw ⟨by omega, by omega⟩
  show wpAny _ _ (if (((sIx items.size 0 lo : Nat) : Int) == 0 && (1 : Int) == 1 && (sIx items.size items.size hi - sIx items.size 0 lo) == items.size) = true then _ else _) _ _ s
  rw [if_neg hno, pick_gen]
  first
    | exact wpAny_bind (m := Builtin.Tuple.tupleExact _) (wpAny_newObj_type (wpAny_pure ⟨_, rfl, wpAny_pure h⟩) htake)
    | exact wpAny_bind (m := Builtin.Tuple.tupleExact _) (wpAny_newObj_type (wpAny_bind (wpAny_pure (wpAny_pure ⟨_, rfl, wpAny_pure h⟩))) htake)
    | exact wpAny_bind (wpAny_bind (m := Builtin.Tuple.tupleExact _) (wpAny_newObj_type (wpAny_pure (wpAny_pure ⟨_, rfl, wpAny_pure h⟩)) htake))
    | exact wpAny_bind (wpAny_bind (m := Builtin.Tuple.tupleExact _) (wpAny_newObj_type (wpAny_pure ⟨_, rfl, wpAny_pure h⟩) htake))
end
end HT
namespace L2
open PySem PySem.Spec PyProof.Rows
abbrev TO := St → Hp → (Option Int → Hp → Prop) → Prop
def PO (X : Cx) (e : Option Expr) (t : TO) : Prop :=
  ∀ (pins : List (Addr × Obj)) (s : Shared) (σ : St) (H : Hp) (Q : Option Int → Hp → Prop), Inv X pins σ H s → t σ H Q →
    wpAny (model X.prog X.w) X.A (evalPart e X.env) (fun u s' => ∃ o H', Inv X pins σ H' s' ∧ IsPart u o ∧ Q o H') X.xe s
def tNoPart : TO := fun _ H Q => Q none H
def tPart (t : TE) : TO := fun σ H Q => t σ H fun x H1 => ∃ i, x = .int i ∧ Q (some i) H1
section
variable {X : Cx} {e : Expr} {te : TE} {lo hi : Option Expr} {tl th : TO} {pos p2 : Pos}
theorem po_none : PO X none tNoPart := by
  intro pins s σ H Q I h
  rw [evalPart_none]
  exact wpAny_pure ⟨none, H, I, .none, h⟩
theorem po_some (h : PE X e te) : PO X (some e) (tPart te) := by
  intro pins s σ H Q I hw
  rw [evalPart_some]
  refine thn (h pins s σ H _ I hw) fun u s1 ⟨x, H1, I1, r1, q1⟩ => ?_
  obtain ⟨i, rfl, q⟩ := q1
  obtain ⟨t, rfl⟩ := r1
  exact ⟨some i, H1, I1, .int i t, q⟩
def SlR (X : Cx) (r : V → Option Int → Option Int → Hp → VK → Prop) : Prop :=
  ∀ (pins : List (Addr × Obj)) (s : Shared) (σ : St) (H : Hp) (x : V) (v vl vu : Value) (lo hi : Option Int) (sl : Addr) (Q : VK), Inv X pins σ H s → RelV x v → s.heap.IsSliceOf sl vl vu .none → IsPart vl lo → IsPart vu hi → r x lo hi H Q →
    ∃ T id, typeLookup (.type T) "__getitem__" = pure (some (.builtin id)) ∧ s.TypeIs v T ∧ wpAny (model X.prog X.w) X.A (getItem v (.ref sl)) (EP X pins σ Q) X.xe s
def tSl (r : V → Option Int → Option Int → Hp → VK → Prop) (te : TE) (tl th : TO) : TE := fun σ H Q => te σ H fun x H1 => tl σ H1 fun l H2 => th σ H2 fun u H3 => r x l u H3 Q
theorem pe_slice {r : V → Option Int → Option Int → Hp → VK → Prop} (hr : SlR X r) (he : PE X e te) (hl : PO X lo tl) (hu : PO X hi th) : PE X (.Subscript e (.Slice lo hi none p2) pos) (tSl r te tl th) := by
  intro pins s σ H Q I h
  refine Subscript_ (thn (he pins s σ H _ I h) fun v s1 ⟨x, H1, I1, r1, q1⟩ => ?_)
  refine wpAny_Slice (thn (hl pins s1 σ H1 _ I1 q1) fun vl s2 ⟨l, H2, I2, pl, q2⟩ => thn (hu pins s2 σ H2 _ I2 q2) fun vu s3 ⟨u, H3, I3, pu, q3⟩ => ?_)
  rw [evalPart_none]
  refine wpAny_pure ?_
  have I4 : Inv X pins σ H3 { s3 with heap := s3.heap.push { cls := .type "slice", data := .fields #[vl, vu, .none] } } := I3.kept (t' := s3.toks) fun b ob q => Heap.get?_push_of_some _ q
  obtain ⟨T, id, hT, ht, hg⟩ := hr pins { s3 with heap := s3.heap.push { cls := .type "slice", data := .fields #[vl, vu, .none] } } σ H3 x v vl vu l u s3.heap.objs.size Q I4 r1 (Heap.IsSliceOf.new ..) pl pu q3
  show wpAny (model X.prog X.w) X.A (subscriptTail e (.Slice lo hi none p2) v (.ref s3.heap.objs.size)) (EP X pins σ Q) X.xe { s3 with heap := s3.heap.push { cls := .type "slice", data := .fields #[vl, vu, .none] } }
  exact tail_any (ops := [.ref s3.heap.objs.size, v]) ht hT hg (by with_unfolding_all rfl)
def cutV (xs : List V) (lo hi : Option Int) : List V := (xs.drop (HT.sIx xs.length 0 lo)).take (HT.sIx xs.length xs.length hi - HT.sIx xs.length 0 lo)
theorem cutV_length (xs : List V) (lo hi : Option Int) : (cutV xs lo hi).length ≤ xs.length := by
  unfold cutV
  rw [List.length_take, List.length_drop]
  omega
def rSlT (K : PySem.W.Frag) : V → Option Int → Option Int → Hp → VK → Prop := fun x lo hi H Q => ∃ a xs, x = .ref a ∧ SqT K H a xs ∧
  ¬ (HT.sIx xs.length 0 lo = 0 ∧ HT.sIx xs.length xs.length hi = xs.length) ∧ ∀ p, H p = none → Q (.ref p) (upd H p (.tup (cutV xs lo hi)))
theorem sl_tup : SlR X (rSlT X.K) := by
  intro pins s σ H x v vl vu lo hi sl Q I rx hs pl pu h
  obtain ⟨a, xs, rfl, hx, hw, q⟩ := h
  cases rx
  obtain ⟨its, r, ht, hz⟩ := I.tuple hx
  have hlen : its.toArray.size = xs.length := by rw [List.size_toArray]; exact r.length.symm
  refine ⟨"tuple", _, PyProof.Rows.slot_tuple_getitem.lookup, ht.typeIs, ?_⟩
  refine HT.getItem_tuple_cut ht hs pl pu (by rw [hlen]; exact hw) ?_ (by rw [hlen]; exact hz)
  rw [hlen]
  refine ⟨.ref s.heap.objs.size, _, I.laid (t' := s.toks) (o := .tup (cutV xs lo hi)) (fun b ob q => Heap.get?_push_of_some _ q) (Nat.le_refl _) ?_, rfl, q _ (I.hok.fresh (Nat.le_refl _))⟩
  exact ⟨Nat.le_trans (cutV_length xs lo hi) hz, _, (r.drop (HT.sIx xs.length 0 lo)).take (HT.sIx xs.length xs.length hi - HT.sIx xs.length 0 lo), IsTup.new _ _⟩
def rCatT (K : PySem.W.Frag) : R2 := fun x y H Q => ∃ a b xs ys, x = .ref a ∧ y = .ref b ∧ SqT K H a xs ∧ SqT K H b ys ∧ xs ≠ [] ∧ xs.length + ys.length ≤ sizeLine ∧
  (ys = [] → Q (.ref a) H) ∧ (ys ≠ [] → ∀ p, H p = none → Q (.ref p) (upd H p (.tup (xs ++ ys))))
theorem Vals.nil_iff {xs : List V} {us : List Value} (r : Vals xs us) : us = [] ↔ xs = [] := by
  cases r with
  | nil => simp
  | cons _ _ => simp
theorem op_catT : OpR X (binaryOp .Add) (rCatT X.K) := by
  intro pins s σ H x y v u Q I rx ry h
  obtain ⟨a, b, xs, ys, rfl, rfl, ha, hb, hx, hz, q1, q2⟩ := h
  cases rx
  cases ry
  obtain ⟨its, r1, p1, _⟩ := I.tuple ha
  obtain ⟨its2, r2, p2, _⟩ := I.tuple hb
  refine HT.cat_tup p1 p2 (fun z => hx (r1.nil_iff.mp z)) (fun z => ⟨.ref a, H, I, rfl, q1 (r2.nil_iff.mp z)⟩) (fun z => ?_) (by rw [← r1.length, ← r2.length]; exact hz)
  refine ⟨.ref s.heap.objs.size, _, I.laid (t' := s.toks) (o := .tup (xs ++ ys)) (fun b ob q => Heap.get?_push_of_some _ q) (Nat.le_refl _) ?_, rfl, q2 (fun w => z (r2.nil_iff.mpr w)) _ (I.hok.fresh (Nat.le_refl _))⟩
  exact ⟨by rw [List.length_append]; exact hz, _, r1.append r2, IsTup.new _ _⟩
end
end L2
namespace L2
open PySem PySem.Spec PyProof.Rows
def ixN (n : Nat) (i : Int) : Option Nat := if 0 ≤ i then (if i < n then some i.toNat else none) else if -(n : Int) ≤ i then some (i + n).toNat else none
def atI {α : Type} (xs : List α) (i : Int) : Option α := (ixN xs.length i).bind fun j => xs[j]?
theorem ixN_seq {n : Nat} {i : Int} {j : Nat} (h : ixN n i = some j) : seqIndex? i n = some j ∧ j < n ∧ -(n : Int) ≤ i ∧ i < n := by
  unfold ixN at h
  by_cases h0 : 0 ≤ i
  · rw [if_pos h0] at h
    by_cases h1 : i < n
    · rw [if_pos h1] at h
      have e : i.toNat = j := Option.some.inj h
      exact ⟨by rw [seqIndex_of h0 h1, e], by omega, by omega, h1⟩
    · rw [if_neg h1] at h; cases h
  · rw [if_neg h0] at h
    by_cases h1 : -(n : Int) ≤ i
    · rw [if_pos h1] at h
      have e : (i + n).toNat = j := Option.some.inj h
      exact ⟨by rw [seqIndex_neg (by omega) h1, e], by omega, h1, by omega⟩
    · rw [if_neg h1] at h; cases h
theorem atI_get {α : Type} {xs : List α} {i : Int} {v : α} (h : atI xs i = some v) : ∃ j, seqIndex? i xs.length = some j ∧ xs[j]? = some v ∧ j < xs.length ∧ -(xs.length : Int) ≤ i ∧ i < xs.length := by
  unfold atI at h
  cases e : ixN xs.length i with
  | none => rw [e] at h; cases h
  | some j =>
    rw [e] at h
    obtain ⟨h1, h2, h3, h4⟩ := ixN_seq e
    exact ⟨j, h1, h, h2, h3, h4⟩
theorem atI_nat {α : Type} {xs : List α} {j : Nat} {v : α} (h : xs[j]? = some v) : atI xs (j : Int) = some v := by
  have hj : j < xs.length := (List.getElem?_eq_some_iff.mp h).1
  have e : ixN xs.length (j : Int) = some j := by
    unfold ixN
    rw [if_pos (by omega), if_pos (by omega)]; simp
  unfold atI; rw [e]; exact h
theorem atI_last {α : Type} (xs : List α) (v : α) : atI (xs ++ [v]) (-1) = some v := by
  have hl : (xs ++ [v]).length = xs.length + 1 := by simp
  have e : ixN (xs ++ [v]).length (-1) = some xs.length := by
    unfold ixN
    rw [hl, if_neg (by decide), if_pos (by omega)]
    congr 1
    omega
  unfold atI
  rw [e]
  show (xs ++ [v])[xs.length]? = some v
  simp
def PlainIx (b : Expr) : Prop := ∀ o i, subscripted b false o i = operate [o, i] (getItem o i)
def IxR (X : Cx) (r : R2) : Prop :=
  ∀ (value slice : Expr) (pins : List (Addr × Obj)) (s : Shared) (σ : St) (H : Hp) (x y : V) (v u : Value) (Q : VK), Inv X pins σ H s → RelV x v → RelV y u → r x y H Q →
    subscripted slice false v u = operate [v, u] (getItem v u) → wpAny (model X.prog X.w) X.A (subscriptTail value slice v u) (EP X pins σ Q) X.xe s
def MtR (X : Cx) (id : String) (r : V → List V → Hp → VK → Prop) : Prop :=
  ∀ (pins : List (Addr × Obj)) (s : Shared) (σ : St) (H : Hp) (x : V) (xs : List V) (v : Value) (us : List Value) (Q : VK), Inv X pins σ H s → RelV x v → Vals xs us → r x xs H Q →
    wpAny (model X.prog X.w) X.A (call (.builtin id) (v :: us)) (EP X pins σ Q) X.xe s
section
variable {X : Cx} {a b : Expr} {ta tb : TE} {pos : Pos}
theorem pe_ix {r : R2} (hr : IxR X r) (ha : PE X a ta) (hb : PE X b tb) (hs : PlainIx b) : PE X (.Subscript a b pos) (tOp r ta tb) := by
  intro pins s σ H Q I h
  exact Subscript_ (binT ha hb I h fun v u s2 x y H2 I2 rx ry q => hr a b pins s2 σ H2 x y v u Q I2 rx ry q (hs _ _))
def rIxL (K : PySem.W.Frag) : R2 := fun x y H Q => ∃ p xs i v, x = .ref p ∧ y = .int i ∧ SqL K H p xs ∧ atI xs i = some v ∧ Q v H
def rIxT (K : PySem.W.Frag) : R2 := fun x y H Q => ∃ p xs i v, x = .ref p ∧ y = .int i ∧ SqT K H p xs ∧ atI xs i = some v ∧ Q v H
theorem ix_list : IxR X (rIxL X.K) := by
  intro value slice pins s σ H x y v u Q I rx ry h hs
  obtain ⟨p, xs, i, z, rfl, rfl, hq, he, q⟩ := h
  cases rx
  obtain ⟨t, rfl⟩ := ry
  obtain ⟨its, r, pl, hz⟩ := I.list hq
  obtain ⟨j, h1, h2, h3, h4, h5⟩ := atI_get he
  obtain ⟨w, ew, rw'⟩ := r.get h2
  have hl := r.length
  have hn := line63
  have fin : EP X pins σ Q w s := ⟨z, H, I, rw', q⟩
  by_cases h0 : 0 ≤ i
  · have hj : i.toNat = j := by
      rw [seqIndex_of h0 h5] at h1
      exact Option.some.inj h1
    exact item_listR pl.isList h0 (by omega) (by rw [hj]; simpa using ew) fin hs
  · have hj : (i + (its.toArray.size : Int)).toNat = j := by
      rw [seqIndex_neg (by omega) h4] at h1
      rw [List.size_toArray, ← hl]
      exact Option.some.inj h1
    exact subscriptTail_builtinR (x := w) pl.isList.typeIs slot_list_getitem.lookup
      (wpAny_getItem_list_neg (Q := fun r s' => r = w ∧ EP X pins σ Q r s') pl.isList (by omega) (by rw [List.size_toArray] <;> omega) (by omega) (by rw [hj]; simpa using ew) ⟨rfl, fin⟩) hs
theorem ix_tup : IxR X (rIxT X.K) := by
  intro value slice pins s σ H x y v u Q I rx ry h hs
  obtain ⟨p, xs, i, z, rfl, rfl, hq, he, q⟩ := h
  cases rx
  obtain ⟨t, rfl⟩ := ry
  obtain ⟨its, r, pl, hz⟩ := I.tuple hq
  obtain ⟨j, h1, h2, h3, h4, h5⟩ := atI_get he
  obtain ⟨w, ew, rw'⟩ := r.get h2
  have hl := r.length
  have hn := line63
  have fin : EP X pins σ Q w s := ⟨z, H, I, rw', q⟩
  exact subscriptTail_builtinR (x := w) pl.typeIs slot_tuple_getitem.lookup
    (getItem_tuple (j := j) (Q := fun r s' => r = w ∧ EP X pins σ Q r s') pl (by omega) (by omega) (by rw [List.size_toArray, ← hl]; exact h1) (by simpa using ew) ⟨rfl, fin⟩) hs
theorem mapSeq_set (its : List Value) (n j : Nat) (u : Value) : Obj.mapSeq (·.setIfInBounds j u) { cls := .type "list", data := .seq its.toArray n } = { cls := .type "list", data := .seq (its.set j u).toArray n } := by
  simp [Obj.mapSeq]
theorem Inv.lst {pins : List (Addr × Obj)} {σ : St} {H : Hp} {s : Shared} {p : Addr} {xs : List V} (I : Inv X pins σ H s) (h : H p = some (.lst xs)) :
    ∃ (its : List Value) (n : Nat), Vals xs its ∧ s.heap.get? p = some { cls := .type "list", data := .seq its.toArray n } ∧ xs.length ≤ sizeLine := by
  obtain ⟨z, its, n, r, e⟩ := I.hok p _ h
  exact ⟨its, n, r, e, z⟩
theorem Inv.lstUpd {pins : List (Addr × Obj)} {σ : St} {H : Hp} {s : Shared} {p : Addr} {xs ys : List V} {its its' : List Value} {n n' : Nat} {f : Obj → Obj} (I : Inv X pins σ H s) (h : H p = some (.lst xs))
    (ho : s.heap.get? p = some { cls := .type "list", data := .seq its.toArray n }) (hf : f { cls := .type "list", data := .seq its.toArray n } = { cls := .type "list", data := .seq its'.toArray n' }) (r : Vals ys its') (hz : ys.length ≤ sizeLine) (t : Nat) :
    Inv X pins σ (upd H p (.lst ys)) { s with heap := s.heap.update p f, toks := t } := by
  have e : (s.heap.update p f).get? p = some { cls := .type "list", data := .seq its'.toArray n' } := by
    rw [Heap.get?_update_self f ho (by rw [hf] <;> rfl), hf]
  refine I.write (x := p) (e := p) (by rw [h]; trivial) (.inl rfl) (fun b u hb q => (Heap.get?_update_other _ _ (Ne.symm hb)).trans q) ⟨_, e⟩ ?_
  exact ⟨hz, its', n', r, e⟩
def rSetL : V → V → V → Hp → (Hp → Prop) → Prop := fun o i v H Q => ∃ p xs k j, o = .ref p ∧ i = .int k ∧ H p = some (.lst xs) ∧ ixN xs.length k = some j ∧ Q (upd H p (.lst (xs.set j v)))
theorem set_list : PSet X rSetL := by
  intro pins s σ H o i v ov iv u Q I ro ri rv h
  obtain ⟨p, xs, k, j, rfl, rfl, hp, hj, q⟩ := h
  cases ro
  obtain ⟨t, rfl⟩ := ri
  obtain ⟨its, n, r, ho, hz⟩ := I.lst hp
  obtain ⟨h1, h2, h3, h4⟩ := ixN_seq hj
  have hl := r.length
  have hn := line63
  have I' : Inv X pins σ (upd H p (.lst (xs.set j v))) { s with heap := s.heap.update p (Obj.mapSeq (·.setIfInBounds j u)) } :=
    I.lstUpd hp ho (mapSeq_set its n j u) (r.set rv j) (by rw [List.length_set]; exact hz) s.toks
  by_cases h0 : 0 ≤ k
  · have hk : k.toNat = j := by
      rw [seqIndex_of h0 h4] at h1
      exact Option.some.inj h1
    exact PySem.W.ki_setAt ho h0 (by omega) (by rw [List.size_toArray, ← hl]; exact h4) (by rw [hk]; exact ⟨_, I', q⟩)
  · have hk : (k + (its.toArray.size : Int)).toNat = j := by
      rw [seqIndex_neg (by omega) h3] at h1
      rw [List.size_toArray, ← hl]
      exact Option.some.inj h1
    exact PySem.W.ki_setBack ho (by omega) (by rw [List.size_toArray, ← hl]; exact h3) (by omega) (by rw [hk]; exact ⟨_, I', q⟩)
theorem slice_bounds (lo hi : Option Int) (n : Nat) : (sliceBounds lo hi none n).1 = ((HT.sIx n 0 lo : Nat) : Int) ∧ (sliceBounds lo hi none n).2.1 = ((HT.sIx n n hi : Nat) : Int) ∧ (sliceBounds lo hi none n).2.2 = 1 := by
  refine ⟨?_, ?_, rfl⟩
  · cases lo with
    | none => simp [sliceBounds, HT.sIx]
    | some i =>
      simp only [sliceBounds, HT.sIx, Option.getD_none, show (1 : Int) > 0 by decide, if_true]
      by_cases h : i < 0
      · simp only [h, if_true] <;> omega
      · simp only [h, if_false] <;> omega
  · cases hi with
    | none => simp [sliceBounds, HT.sIx]
    | some i =>
      simp only [sliceBounds, HT.sIx, Option.getD_none, show (1 : Int) > 0 by decide, if_true]
      by_cases h : i < 0
      · simp only [h, if_true] <;> omega
      · simp only [h, if_false] <;> omega
theorem slicePick_cut (its : List Value) (lo hi : Option Int) : slicePick its.toArray lo hi none = ((its.drop (HT.sIx its.length 0 lo)).take (HT.sIx its.length its.length hi - HT.sIx its.length 0 lo)).toArray := by
  obtain ⟨h1, h2, h3⟩ := slice_bounds lo hi its.toArray.size
  unfold slicePick
  rw [h1, h2, h3]
  simp only [sliceRange_one, pick_run, List.size_toArray] <;> rfl
def rSlL (K : PySem.W.Frag) : V → Option Int → Option Int → Hp → VK → Prop := fun x lo hi H Q => ∃ a xs, x = .ref a ∧ SqL K H a xs ∧ ∀ p, H p = none → Q (.ref p) (upd H p (.lst (cutV xs lo hi)))
theorem sl_list : SlR X (rSlL X.K) := by
  intro pins s σ H x v vl vu lo hi sl Q I rx hs pl pu h
  obtain ⟨a, xs, rfl, hx, q⟩ := h
  cases rx
  obtain ⟨its, r, ht, hz⟩ := I.list hx
  have hlen := r.length
  refine ⟨"list", _, slot_list_getitem.lookup, ht.isList.typeIs, ?_⟩
  refine wpAny_getItem_list_slice ht.isList hs pl pu .none (by simp) ?_ (by rw [List.size_toArray] <;> omega)
  rw [slicePick_cut, ← hlen]
  refine ⟨.ref s.heap.objs.size, _, I.laid (t' := s.toks) (o := .lst (cutV xs lo hi)) (fun b ob q => Heap.get?_push_of_some _ q) (Nat.le_refl _) ?_, rfl, q _ (I.hok.fresh (Nat.le_refl _))⟩
  exact ⟨Nat.le_trans (cutV_length xs lo hi) hz, _, 0, (r.drop (HT.sIx xs.length 0 lo)).take (HT.sIx xs.length xs.length hi - HT.sIx xs.length 0 lo), Heap.get?_push_size _ rfl⟩
def flatV : V → Bool
  | .non => true
  | .bl _ => true
  | .int _ => true
  | .str _ => true
  | _ => false
def eqV : V → V → Bool
  | .non, .non => true
  | .bl a, .bl b => a == b
  | .bl a, .int b => (if a then 1 else 0) == b
  | .int a, .bl b => a == (if b then 1 else 0)
  | .int a, .int b => a == b
  | .str a, .str b => a == b
  | _, _ => false
theorem eqAt_V {A : Around} {s : Shared} {y x : V} {u v : Value} (ry : RelV y u) (rx : RelV x v) (fy : flatV y = true) (fx : flatV x = true) : SeqAt.EqAt A s u v (eqV y x) := by
  cases y with
  | non =>
    cases ry
    cases x with
    | non => cases rx; exact SeqAt.EqAt.same _
    | bl b => cases rx; exact SeqAt.EqAt.none_bool b
    | int b => obtain ⟨t, rfl⟩ := rx; exact SeqAt.EqAt.none_int b t
    | str b => obtain ⟨t, rfl⟩ := rx; exact SeqAt.EqAt.none_str b t
    | _ => exact absurd (show false = true from fx) Bool.false_ne_true
  | bl a =>
    cases ry
    cases x with
    | non => cases rx; exact SeqAt.EqAt.bool_none a
    | bl b => cases rx; exact SeqAt.EqAt.bool_bool a b
    | int b => obtain ⟨t, rfl⟩ := rx; exact SeqAt.EqAt.bool_int a b t
    | str b => obtain ⟨t, rfl⟩ := rx; exact SeqAt.EqAt.bool_str a b t
    | _ => exact absurd (show false = true from fx) Bool.false_ne_true
  | int a =>
    obtain ⟨t', rfl⟩ := ry
    cases x with
    | non => cases rx; exact SeqAt.EqAt.int_none a t'
    | bl b => cases rx; exact SeqAt.EqAt.int_bool a t' b
    | int b => obtain ⟨t, rfl⟩ := rx; exact SeqAt.EqAt.int_int a t' b t
    | str b => obtain ⟨t, rfl⟩ := rx; exact SeqAt.EqAt.int_str a t' b t
    | _ => exact absurd (show false = true from fx) Bool.false_ne_true
  | str a =>
    obtain ⟨t', rfl⟩ := ry
    cases x with
    | non => cases rx; exact SeqAt.EqAt.str_none a t'
    | bl b => cases rx; exact SeqAt.EqAt.str_bool a t' b
    | int b => obtain ⟨t, rfl⟩ := rx; exact SeqAt.EqAt.str_int a t' b t
    | str b => obtain ⟨t, rfl⟩ := rx; exact SeqAt.EqAt.str_str a t' b t
    | _ => exact absurd (show false = true from fx) Bool.false_ne_true
  | _ => exact absurd (show false = true from fy) Bool.false_ne_true
def eqU (x : V) (u : Value) : Bool := match u with
  | .none => eqV .non x
  | .bool b => eqV (.bl b) x
  | .int i _ => eqV (.int i) x
  | .str z _ => eqV (.str z) x
  | _ => false
theorem eqU_of {x y : V} {u : Value} (r : RelV y u) (f : flatV y = true) : eqU x u = eqV y x := by
  cases y with
  | non => cases r; rfl
  | bl b => cases r; rfl
  | int i => obtain ⟨t, rfl⟩ := r; rfl
  | str z => obtain ⟨t, rfl⟩ := r; rfl
  | _ => exact absurd (show false = true from f) Bool.false_ne_true
theorem any_eqU {x : V} : ∀ {xs : List V} {us : List Value}, Vals xs us → xs.all flatV = true → us.any (eqU x) = xs.any fun y => eqV y x
  | _, _, .nil, _ => rfl
  | y :: xs, u :: us, .cons r t, f => by
    rw [List.all_cons, Bool.and_eq_true] at f
    rw [List.any_cons, List.any_cons, eqU_of r f.1, any_eqU t f.2]
theorem mem_eqAt {A : Around} {s : Shared} {x : V} {v : Value} (rx : RelV x v) (fx : flatV x = true) : ∀ {xs : List V} {us : List Value}, Vals xs us → xs.all flatV = true → ∀ u ∈ us, SeqAt.EqAt A s u v (eqU x u)
  | _, _, .nil, _ => fun u hu => by cases hu
  | y :: xs, u :: us, .cons r t, f => fun u' hu => by
    rw [List.all_cons, Bool.and_eq_true] at f
    rcases List.mem_cons.mp hu with rfl | hu
    · rw [eqU_of r f.1]; exact eqAt_V r rx f.1 fx
    · exact mem_eqAt rx fx t f.2 u' hu
def inV (x : V) (xs : List V) : Bool := xs.any fun y => eqV y x
def rIn (K : PySem.W.Frag) (neg : Bool) : R2 := fun x y H Q => ∃ p xs, y = .ref p ∧ (SqL K H p xs ∨ SqT K H p xs) ∧ flatV x = true ∧ xs.all flatV = true ∧ Q (.bl (if neg then !inV x xs else inV x xs)) H
theorem op_in_seq : OpR X (compareOp .In) (rIn X.K false) := by
  intro pins s σ H x y v u Q I rx ry h
  obtain ⟨p, xs, rfl, hq, fx, fs, q⟩ := h
  cases ry
  rcases hq with hq | hq
  · obtain ⟨its, r, pl, hz⟩ := I.list hq
    refine SeqAt.in_listAt (eqU x) pl.isList (fun w hw => mem_eqAt rx fx r fs w (by simpa using hw)) ⟨.bl _, H, I, rfl, ?_⟩
    rw [show its.toArray.any (eqU x) = its.any (eqU x) by simp, any_eqU r fs]
    exact q
  · obtain ⟨its, r, pl, hz⟩ := I.tuple hq
    refine SeqAt.in_tupleAt (eqU x) pl (fun w hw => mem_eqAt rx fx r fs w (by simpa using hw)) ⟨.bl _, H, I, rfl, ?_⟩
    rw [show its.toArray.any (eqU x) = its.any (eqU x) by simp, any_eqU r fs]
    exact q
theorem op_notIn_seq : OpR X (compareOp .NotIn) (rIn X.K true) := by
  intro pins s σ H x y v u Q I rx ry h
  obtain ⟨p, xs, rfl, hq, fx, fs, q⟩ := h
  cases ry
  rcases hq with hq | hq
  · obtain ⟨its, r, pl, hz⟩ := I.list hq
    refine SeqAt.notIn_listAt (eqU x) pl.isList (fun w hw => mem_eqAt rx fx r fs w (by simpa using hw)) ⟨.bl _, H, I, rfl, ?_⟩
    rw [show its.toArray.any (eqU x) = its.any (eqU x) by simp, any_eqU r fs]
    exact q
  · obtain ⟨its, r, pl, hz⟩ := I.tuple hq
    refine SeqAt.notIn_tupleAt (eqU x) pl (fun w hw => mem_eqAt rx fx r fs w (by simpa using hw)) ⟨.bl _, H, I, rfl, ?_⟩
    rw [show its.toArray.any (eqU x) = its.any (eqU x) by simp, any_eqU r fs]
    exact q
theorem call_len_seq : CallR X (.builtin "len") (fun xs H Q => ∃ p ys, xs = [.ref p] ∧ (SqL X.K H p ys ∨ SqT X.K H p ys) ∧ Q (.int ys.length) H) := by
  intro pins s σ H xs us Q I r h
  obtain ⟨p, ys, rfl, hq, q⟩ := h
  obtain ⟨u, rfl, rx⟩ := vals1 r
  cases rx
  have hn := line63
  rcases hq with hq | hq
  · obtain ⟨its, r', pl, hz⟩ := I.list hq
    have hlen := r'.length
    exact Calls.call_len_list pl.isList (by simp only [List.size_toArray] <;> omega) ⟨.int ys.length, H, I.tok _, ⟨s.toks + 1, by rw [List.size_toArray, hlen]⟩, q⟩
  · obtain ⟨its, r', pl, hz⟩ := I.tuple hq
    have hlen := r'.length
    exact len_tuple pl (by simp only [List.size_toArray] <;> omega) ⟨.int ys.length, H, I.tok _, ⟨s.toks + 1, by rw [List.size_toArray, hlen]⟩, q⟩
theorem call_list_of : CallR X (.type "list") (fun xs H Q => ∃ p ys, xs = [.ref p] ∧ (SqL X.K H p ys ∨ SqT X.K H p ys) ∧ ∀ l, H l = none → Q (.ref l) (upd H l (.lst ys))) := by
  intro pins s σ H xs us Q I r h
  obtain ⟨p, ys, rfl, hq, q⟩ := h
  obtain ⟨u, rfl, rx⟩ := vals1 r
  cases rx
  have fin : ∀ (its : List Value), Vals ys its → ys.length ≤ sizeLine → ∀ (h' : Heap) (c' : Nat), (∀ b o', s.heap.get? b = some o' → h'.get? b = some o') →
      h'.get? s.heap.objs.size = some { cls := .type "list", dict := none, data := .seq its.toArray c', slots := #[] } → EP X pins σ Q (.ref s.heap.objs.size) { s with heap := h' } := fun its r' hz h' c' kp e =>
    ⟨.ref s.heap.objs.size, _, I.laid (t' := s.toks) kp (Nat.le_refl _) (show ObjOk X.prog X.w _ h' _ (.lst ys) from ⟨hz, its, c', r', e⟩), rfl, q _ (I.hok.fresh (Nat.le_refl _))⟩
  rcases hq with hq | hq
  · obtain ⟨its, r', pl, hz⟩ := I.list hq
    have hlen := r'.length
    obtain ⟨o, ho, hc, n, hd⟩ := pl.isList
    exact call_list_seq p (.inl rfl) ho hc hd (fun h' c' kp e => fin its r' hz h' c' kp e) (by simp only [List.size_toArray] <;> omega)
  · obtain ⟨its, r', pl, hz⟩ := I.tuple hq
    have hlen := r'.length
    obtain ⟨o, ho, hc, n, hd⟩ := pl
    exact call_list_seq p (.inr rfl) ho hc hd (fun h' c' kp e => fin its r' hz h' c' kp e) (by simp only [List.size_toArray] <;> omega)
theorem call_tuple_of : CallR X (.type "tuple") (fun xs H Q => ∃ p ys, xs = [.ref p] ∧ ((SqL X.K H p ys ∧ ∀ l, H l = none → Q (.ref l) (upd H l (.tup ys))) ∨ (SqT X.K H p ys ∧ Q (.ref p) H))) := by
  intro pins s σ H xs us Q I r h
  obtain ⟨p, ys, rfl, h⟩ := h
  obtain ⟨u, rfl, rx⟩ := vals1 r
  cases rx
  rcases h with ⟨hq, q⟩ | ⟨hq, q⟩
  · obtain ⟨its, r', pl, hz⟩ := I.list hq
    have hlen := r'.length
    refine call_tuple_list pl.isList (fun h' kp => ?_) (by simp only [List.size_toArray] <;> omega)
    have I1 : Inv X pins σ H { s with heap := h' } := I.kept (t' := s.toks) kp
    have I2 : Inv X pins σ (upd H h'.objs.size (.tup ys)) { s with heap := h'.push { cls := .type "tuple", data := .seq its.toArray } } :=
      I1.laid (t' := s.toks) (fun b o e => Heap.get?_push_of_some _ e) (Nat.le_refl _) (show ObjOk X.prog X.w _ _ _ (.tup ys) from ⟨hz, its, r', IsTup.new _ _⟩)
    exact ⟨.ref h'.objs.size, _, I2, rfl, q _ (I1.hok.fresh (Nat.le_refl _))⟩
  · obtain ⟨its, r', pl, hz⟩ := I.tuple hq
    exact call_tuple_same pl ⟨.ref p, H, I, rfl, q⟩
def tyV (K : PySem.W.Frag) (T : String) (x : V) (H : Hp) : Prop := match x with
  | .str _ => T = "str"
  | .int _ => T = "int"
  | .ref p => (T = "list" ∧ ∃ xs, SqL K H p xs) ∨ (T = "tuple" ∧ ∃ o, K.lookup p = some o ∧ o.cls = .type "tuple" ∧ o.dict = none) ∨
      (T = "dict" ∧ ((∃ kvs, H p = some (.dK kvs)) ∨ ∃ kvs, H p = some (.dT kvs))) ∨ (T = "set" ∧ ∃ S n, H p = some (.set S n))
  | _ => False
theorem tyV_is {pins : List (Addr × Obj)} {σ : St} {H : Hp} {s : Shared} {T : String} {x : V} {v : Value} (I : Inv X pins σ H s) (r : RelV x v) (ty : tyV X.K T x H) :
    s.TypeIs v T ∧ ∀ a, v = .ref a → ∃ ob, s.heap.get? a = some ob ∧ ob.dict = none := by
  cases x with
  | str z =>
    obtain ⟨t, rfl⟩ := r
    cases (show T = "str" from ty)
    exact ⟨typeIs_str s z t, fun _ e => nomatch e⟩
  | int i =>
    obtain ⟨t, rfl⟩ := r
    cases (show T = "int" from ty)
    exact ⟨typeIs_int s i t, fun _ e => nomatch e⟩
  | ref p =>
    cases r
    rcases ty with ⟨rfl, xs, hq⟩ | ⟨rfl, o, hk, hc, hd⟩ | ⟨rfl, hk⟩ | ⟨rfl, S, n, hk⟩
    · obtain ⟨its, _, pl, _⟩ := I.list hq
      refine ⟨pl.isList.typeIs, fun a e => ?_⟩
      cases e
      obtain ⟨o, n, e, c, hd, _⟩ := pl
      exact ⟨o, e, hd⟩
    · refine ⟨⟨o, I.kIn p o hk, hc⟩, fun a e => ?_⟩
      cases e
      exact ⟨o, I.kIn _ o hk, hd⟩
    · have z : ∃ o, s.heap.get? p = some o ∧ o.ExactDict := by
        rcases hk with ⟨kvs, hk⟩ | ⟨kvs, hk⟩
        · obtain ⟨_, _, _, _, o, _, _, e, ex, _⟩ := I.hok p _ hk
          exact ⟨o, e, ex⟩
        · obtain ⟨_, _, _, _, o, _, _, e, ex, _⟩ := I.hok p _ hk
          exact ⟨o, e, ex⟩
      obtain ⟨o, e, ex⟩ := z
      refine ⟨⟨o, e, ex.1⟩, fun a e2 => ?_⟩
      cases e2
      exact ⟨o, e, ex.2.1⟩
    · obtain ⟨o, _, _, _, e, ex, _⟩ := I.hok p _ hk
      refine ⟨⟨o, e, ex.1⟩, fun a e2 => ?_⟩
      cases e2
      exact ⟨o, e, ex.2.1⟩
  | _ => exact False.elim ty
def tBM0 (K : PySem.W.Frag) (T : String) (r : V → List V → Hp → VK → Prop) (to : TE) : TE := fun σ H Q => to σ H fun x H1 => tyV K T x H1 ∧ r x [] H1 Q
def tBM (K : PySem.W.Frag) (T : String) (r : V → List V → Hp → VK → Prop) (to : TE) (t : TA) : TE := fun σ H Q => to σ H fun x H1 => tyV K T x H1 ∧ t σ H1 fun xs H2 => r x xs H2 Q
variable {o e : Expr} {es : List Expr} {to : TE} {t : TA} {name : Str} {apos cpos : Pos} {T id : String} {r : V → List V → Hp → VK → Prop}
theorem pe_bm0 (pa : PlainAttrs T) (slot : Slot T name id) (hty : typeOf (.builtin id) = pure (.type "method_descriptor")) (hm : MtR X id r) (ho : PE X o to)
    (hbase : attributeBase o name X.env (eval o X.env) = eval o X.env := by rfl) (hline : (apos.endLine == cpos.line) = true := by rfl) : PE X (.Call (.Attribute o name apos) [] [] cpos) (tBM0 X.K T r to) := by
  intro pins s σ H Q I h
  refine wpAny_Call_method0_late hbase hline (thn (ho pins s σ H _ I h) fun v s1 ⟨x, H1, I1, r1, ty, q1⟩ => ?_)
  obtain ⟨h1, h2⟩ := tyV_is I1 r1 ty
  exact ⟨T, id, pa, slot, hty, h1, h2, Calls.callWith_builtin rfl (PySem.evalArgs_none (hm pins s1 σ H1 x [] v [] Q I1 r1 .nil q1))⟩
theorem pe_bm (pa : PlainAttrs T) (slot : Slot T name id) (hty : typeOf (.builtin id) = pure (.type "method_descriptor")) (hm : MtR X id r) (ho : PE X o to) (ha : PA X (e :: es) t)
    (hbase : attributeBase o name X.env (eval o X.env) = eval o X.env := by rfl)
    (hfew : ((backTo cpos (starEach (e :: es) X.env)).all (fun x => !x.1) && (backToKw cpos (keywordEach [] X.env)).all (fun x => x.1.isSome)
      && decide ((e :: es).length + ([] : List Keyword).length + (if ([] : List Keyword).isEmpty then 0 else 1) < 30)) = true := by rfl)
    (hline : (apos.endLine == cpos.line) = true := by rfl) (hs : starEach (e :: es) X.env = (false, eval e X.env) :: starEach es X.env := by rfl) (hplain : (backTo cpos (starEach es X.env)).any (·.1) = false := by rfl) :
    PE X (.Call (.Attribute o name apos) (e :: es) [] cpos) (tBM X.K T r to t) := by
  intro pins s σ H Q I h
  refine wpAny_Call_method_late hbase hfew hline rfl (thn (ho pins s σ H _ I h) fun v s1 ⟨x, H1, I1, r1, ty, q1⟩ => ?_)
  obtain ⟨h1, h2⟩ := tyV_is I1 r1 ty
  refine ⟨T, id, pa, slot, hty, h1, h2, ?_⟩
  have hA := ha cpos pins s1 σ H1 _ I1 q1
  rw [hs] at hA ⊢
  refine Calls.callWith_builtin (by show (false || (backTo cpos (starEach es X.env)).any (·.1)) = false; rw [hplain] <;> rfl) (Calls.evalArgs_plain ?_)
  exact thn hA fun us s2 ⟨vs, H2, I2, r2, q2⟩ => hm pins s2 σ H2 x vs v us Q I2 r1 r2 q2
end
end L2
namespace L2
open PySem PySem.Spec PyProof.Rows
def MtM (X : Cx) (id : String) (r : V → List V → Hp → VK → Prop) : Prop :=
  ∀ (pins : List (Addr × Obj)) (s : Shared) (σ : St) (H : Hp) (x : V) (xs : List V) (v : Value) (us : List Value) (Q : VK), Inv X pins σ H s → RelV x v → Vals xs us → r x xs H Q →
    wpAny (model X.prog X.w) X.A (call (.builtin id) (v :: us)) (EP X pins σ Q) X.xe s
theorem Vals.one : ∀ {x : V} {us : List Value}, Vals [x] us → ∃ u, us = [u] ∧ RelV x u
  | _, _, .cons r .nil => ⟨_, rfl, r⟩
theorem Vals.two : ∀ {x y : V} {us : List Value}, Vals [x, y] us → ∃ u v, us = [u, v] ∧ RelV x u ∧ RelV y v
  | _, _, _, .cons r (.cons q .nil) => ⟨_, _, rfl, r, q⟩
theorem Vals.zero : ∀ {us : List Value}, Vals [] us → us = []
  | _, .nil => rfl
theorem Vals.dropLast {xs : List V} {us : List Value} (h : Vals xs us) : Vals xs.dropLast us.dropLast := by
  induction h with
  | nil => exact .nil
  | cons r t ih =>
    cases t with
    | nil => exact .nil
    | cons q t' => exact .cons r ih
theorem Vals.eraseIdx : ∀ {xs : List V} {us : List Value} (i : Nat), Vals xs us → Vals (xs.eraseIdx i) (us.eraseIdx i)
  | _, _, _, .nil => .nil
  | _, _, 0, .cons _ t => t
  | _, _, i + 1, .cons r t => .cons r (Vals.eraseIdx i t)
theorem Vals.reverse {xs : List V} {us : List Value} (h : Vals xs us) : Vals xs.reverse us.reverse := by
  induction h with
  | nil => exact .nil
  | cons r t ih => rw [List.reverse_cons, List.reverse_cons]; exact Vals.append ih (.cons r .nil)
theorem Vals.rep {xs : List V} {us : List Value} (h : Vals xs us) : ∀ k : Nat, Vals (List.replicate k xs).flatten (List.replicate k us).flatten
  | 0 => .nil
  | k + 1 => by
    rw [List.replicate_succ, List.replicate_succ, List.flatten_cons, List.flatten_cons]
    exact Vals.append h (Vals.rep h k)
theorem erase_last {α : Type} (l : List α) : l.eraseIdx (l.length - 1) = l.dropLast := by
  induction l with
  | nil => rfl
  | cons a r ih =>
    cases r with
    | nil => rfl
    | cons b r =>
      have e : (a :: b :: r).length - 1 = ((b :: r).length - 1) + 1 := by
        have h1 : (a :: b :: r).length = r.length + 2 := rfl
        have h2 : (b :: r).length = r.length + 1 := rfl
        omega
      rw [e, List.eraseIdx_cons_succ, ih]
      all_goals rfl
theorem foldl_rep (its : List Value) : ∀ (k : Nat) (acc : List Value),
    List.foldl (fun x1 x2 => x1 ++ x2) acc.toArray (List.replicate k its.toArray) = (acc ++ (List.replicate k its).flatten).toArray
  | 0, acc => by simp
  | k + 1, acc => by
    have e : acc.toArray ++ its.toArray = (acc ++ its).toArray := by simp
    have e2 : (acc ++ its) ++ (List.replicate k its).flatten = acc ++ (List.replicate (k + 1) its).flatten := by
      rw [List.replicate_succ, List.flatten_cons, List.append_assoc]
    rw [← e2, ← foldl_rep its k (acc ++ its), ← e, List.replicate_succ, List.foldl_cons]
section
variable {X : Cx} {pins : List (Addr × Obj)} {σ : St} {H : Hp} {s : Shared} {l b : Addr} {xs ys zs : List V}
theorem Inv.lset {its its' : List Value} {n : Nat} {f : Array Value → Array Value} {t' : Nat} (I : Inv X pins σ H s) (hH : H l = some (.lst xs))
    (e : s.heap.get? l = some { cls := .type "list", data := .seq its.toArray n }) (hf : f its.toArray = its'.toArray) (hv : Vals ys its') (hz : ys.length ≤ sizeLine) :
    Inv X pins σ (upd H l (.lst ys)) { s with heap := s.heap.update l (Obj.mapSeq f), toks := t' } := by
  have q := PySem.IsL.update e f
  rw [hf] at q
  refine I.write (x := l) (e := l) (by rw [hH]; exact trivial) (.inl rfl) (fun b' u hb hu => (Heap.get?_update_other s.heap (Obj.mapSeq f) (Ne.symm hb)).trans hu) ⟨_, q⟩ ?_
  exact ⟨hz, its', _, hv, q⟩
theorem Inv.lnew {its : List Value} {t' : Nat} (I : Inv X pins σ H s) (hv : Vals ys its) (hz : ys.length ≤ sizeLine) :
    Inv X pins σ (upd H s.heap.objs.size (.lst ys)) { s with heap := s.heap.push { cls := .type "list", data := .seq its.toArray }, toks := t' } :=
  I.laid (fun _ _ q => Heap.get?_push_of_some _ q) (Nat.le_refl _) ⟨hz, its, 0, hv, Heap.get?_push_size _ rfl⟩
theorem Inv.fresh (I : Inv X pins σ H s) : H s.heap.objs.size = none := I.hok.fresh (Nat.le_refl _)
theorem Inv.lstM (I : Inv X pins σ H s) (hH : H l = some (.lst xs)) : xs.length ≤ sizeLine ∧ ∃ (its : List Value) (n : Nat), Vals xs its ∧ xs.length = its.length ∧ s.heap.get? l = some { cls := .type "list", data := .seq its.toArray n } := by
  obtain ⟨z, its, n, r, e⟩ := I.hok l _ hH
  exact ⟨z, its, n, r, r.length, e⟩
theorem notLongL {n : Nat} (h : n ≤ sizeLine) : Builtin.List.listTooLong n = false := by
  unfold Builtin.List.listTooLong
  exact decide_eq_false (by omega)
end
section
variable {X : Cx}
def rAppend : V → List V → Hp → VK → Prop := fun x vs H Q => ∃ l xs y, x = .ref l ∧ vs = [y] ∧ H l = some (.lst xs) ∧ xs.length < sizeLine ∧ Q .non (upd H l (.lst (xs ++ [y])))
theorem mt_append : MtM X "list.append" rAppend := by
  intro pins s σ H x vs v us Q I rx rv h
  obtain ⟨l, xs, y, rfl, rfl, hH, hz, q⟩ := h
  cases rx
  obtain ⟨u, rfl, ru⟩ := rv.one
  obtain ⟨z, its, n, r, hl, e⟩ := I.lstM hH
  refine call_meets F.slot_list_append ⟨_, e, rfl⟩ F.entry_list_append (F.args_list_append_2 _ _) (PySem.list_append l its.toArray n u (by rw [List.size_toArray]; omega)) ⟨e, ?_⟩
  refine ⟨.non, _, I.lset (its' := its ++ [u]) hH e (by simp) (r.append (.cons ru .nil)) ?_, rfl, q⟩
  rw [List.length_append, List.length_singleton]
  omega
def rExtend : V → List V → Hp → VK → Prop := fun x vs H Q => ∃ l b xs zs, x = .ref l ∧ vs = [.ref b] ∧ H l = some (.lst xs) ∧ H b = some (.lst zs) ∧ xs.length + zs.length ≤ sizeLine ∧ Q .non (upd H l (.lst (xs ++ zs)))
theorem mt_extend : MtM X "list.extend" rExtend := by
  intro pins s σ H x vs v us Q I rx rv h
  obtain ⟨l, b, xs, zs, rfl, rfl, hH, hB, hz, q⟩ := h
  cases rx
  obtain ⟨u, rfl, ru⟩ := rv.one
  cases ru
  obtain ⟨z, its, n, r, hl, e⟩ := I.lstM hH
  obtain ⟨z2, its2, n2, r2, hl2, e2⟩ := I.lstM hB
  have hsz : its.toArray.size + its2.toArray.size ≤ sizeLine := by rw [List.size_toArray, List.size_toArray]; omega
  have hlong : ¬ (!its.toArray.isEmpty && Builtin.List.listTooLong (its.toArray.size + its2.toArray.size)) = true := by
    rw [notLongL hsz, Bool.and_false]
    exact Bool.false_ne_true
  refine call_meets F.slot_list_extend ⟨_, e, rfl⟩ F.entry_list_extend (F.args_list_extend_2 _ _)
    (AutoSeq1.list_extend_list_list_0 l its.toArray n b its2.toArray n2 hlong (by rw [List.size_toArray]; omega) (by omega)) ⟨e, e2, ?_⟩
  refine ⟨.non, _, I.lset (its' := its ++ its2) hH e (by simp) (r.append r2) ?_, rfl, q⟩
  rw [List.length_append]
  omega
def rPop : V → List V → Hp → VK → Prop := fun x vs H Q => ∃ l xs y, x = .ref l ∧ vs = [] ∧ H l = some (.lst xs) ∧ xs[xs.length - 1]? = some y ∧ Q y (upd H l (.lst xs.dropLast))
theorem mt_pop : MtM X "list.pop" rPop := by
  intro pins s σ H x vs v us Q I rx rv h
  obtain ⟨l, xs, y, rfl, rfl, hH, hy, q⟩ := h
  cases rx
  have hus := rv.zero
  subst hus
  obtain ⟨z, its, n, r, hl, e⟩ := I.lstM hH
  obtain ⟨u, hu, ru⟩ := r.get hy
  have hy' : its.toArray[its.toArray.size - 1]? = some u := by
    show its.toArray[its.length - 1]? = some u
    rw [← Array.getElem?_toList, ← hl]
    exact hu
  refine call_meets F.slot_list_pop ⟨_, e, rfl⟩ F.entry_list_pop (F.args_list_pop_1 _) (MeetsSeq.list_pop_last l its.toArray n u hy' (by rw [List.size_toArray]; omega)) ⟨e, ?_⟩
  refine ⟨y, _, I.lset (its' := its.dropLast) hH e ?_ r.dropLast ?_, ru, q⟩
  · show its.toArray.eraseIdxIfInBounds (its.toArray.size - 1) = its.dropLast.toArray
    rw [List.size_toArray, List.eraseIdxIfInBounds_toArray, erase_last]
  · rw [List.length_dropLast]
    omega
def rReverse : V → List V → Hp → VK → Prop := fun x vs H Q => ∃ l xs, x = .ref l ∧ vs = [] ∧ H l = some (.lst xs) ∧ Q .non (upd H l (.lst xs.reverse))
theorem mt_reverse : MtM X "list.reverse" rReverse := by
  intro pins s σ H x vs v us Q I rx rv h
  obtain ⟨l, xs, rfl, rfl, hH, q⟩ := h
  cases rx
  have hus := rv.zero
  subst hus
  obtain ⟨z, its, n, r, hl, e⟩ := I.lstM hH
  refine call_meets F.slot_list_reverse ⟨_, e, rfl⟩ F.entry_list_reverse (F.args_list_reverse_1 _) (AutoSeq1.list_reverse_list_0 l its.toArray n (by rw [List.size_toArray]; omega)) ⟨e, ?_⟩
  refine ⟨.non, _, I.lset (its' := its.reverse) hH e (by simp) r.reverse ?_, rfl, q⟩
  rw [List.length_reverse]
  omega
def rCat : R2 := fun x y H Q => ∃ l b xs zs, x = .ref l ∧ y = .ref b ∧ H l = some (.lst xs) ∧ H b = some (.lst zs) ∧ xs.length + zs.length ≤ sizeLine ∧ ∀ p, H p = none → Q (.ref p) (upd H p (.lst (xs ++ zs)))
theorem op_cat : OpR X (binaryOp .Add) rCat := by
  intro pins s σ H x y v u Q I rx ry h
  obtain ⟨l, b, xs, zs, rfl, rfl, hH, hB, hz, q⟩ := h
  cases rx
  cases ry
  obtain ⟨z, its, n, r, hl, e⟩ := I.lstM hH
  obtain ⟨z2, its2, n2, r2, hl2, e2⟩ := I.lstM hB
  refine PySem.P.add_list e e2 ?_ (by rw [List.size_toArray, List.size_toArray]; omega)
  have ea : its.toArray ++ its2.toArray = (its ++ its2).toArray := by simp
  rw [ea]
  exact ⟨.ref _, _, I.lnew (t' := s.toks) (r.append r2) (by rw [List.length_append]; omega), rfl, q _ I.fresh⟩
def rRep : R2 := fun x y H Q => ∃ l k xs, x = .ref l ∧ y = .int k ∧ H l = some (.lst xs) ∧ -(2 ^ 63) ≤ k ∧ k < 2 ^ 63 ∧ xs.length * k.toNat ≤ sizeLine ∧
  ∀ p, H p = none → Q (.ref p) (upd H p (.lst (List.replicate k.toNat xs).flatten))
theorem len_rep {α : Type} (xs : List α) (k : Nat) : (List.replicate k xs).flatten.length = k * xs.length := by
  induction k with
  | zero => simp
  | succ k ih => rw [List.replicate_succ, List.flatten_cons, List.length_append, ih, Nat.succ_mul, Nat.add_comm]
theorem op_rep : OpR X (binaryOp .Mult) rRep := by
  intro pins s σ H x y v u Q I rx ry h
  obtain ⟨l, k, xs, rfl, rfl, hH, h1, h2, hz, q⟩ := h
  cases rx
  obtain ⟨t, rfl⟩ := ry
  obtain ⟨z, its, n, r, hl, e⟩ := I.lstM hH
  have hlen : its.toArray.size * k.toNat ≤ sizeLine := by rw [List.size_toArray, ← hl]; exact hz
  have hcap : ¬ its.toArray.size * k.toNat > (2 ^ 63 - 1) / 8 := by
    have : (sizeLine : Nat) ≤ (2 ^ 63 - 1) / 8 := by decide
    omega
  have hfit : ¬ (!Builtin.List.listFitsIndex k) = true := by
    rw [fitsIndex_both h1 h2]
    exact Bool.false_ne_true
  have hlong : ¬ Builtin.List.listTooLong (its.toArray.size * k.toNat) = true := by
    rw [notLongL hlen]
    exact Bool.false_ne_true
  have hnew : List.foldl (fun x1 x2 => x1 ++ x2) #[] (List.replicate (if its.toArray.isEmpty = true then 0 else k.toNat) its.toArray) = (List.replicate k.toNat its).flatten.toArray := by
    have f0 : ∀ m : Nat, List.foldl (fun x1 x2 => x1 ++ x2) #[] (List.replicate m its.toArray) = (List.replicate m its).flatten.toArray := fun m => by
      have := foldl_rep its m []
      rw [List.nil_append] at this
      exact this
    rw [f0]
    cases its with
    | nil => simp
    | cons a r' => rw [if_neg (by simp)]
  refine wpAny_binaryOp_repeat_ref (T := "list") (U := "int") (by decide) ⟨_, e, rfl⟩ (fun s' => typeIs_int s' k t) noFill_list_mul F.fills_int_mul F.slot_int_rmul repeat_list F.slot_int_index.lookup
    (call_meets F.slot_int_rmul (typeIs_int s k t) F.entry_int_rmul (F.args_int_rmul_2 _ _) (int___rmul___int_list k t l its.toArray n)
      ⟨e, rfl, ⟨_, e, rfl⟩, call_meets F.slot_list_mul ⟨_, e, rfl⟩ F.entry_list_mul (F.args_list_mul_2 _ _) (AutoListH.list___mul___list_int_3 l its.toArray n k t hfit hcap hlong) ⟨e, ?_⟩⟩)
  rw [hnew]
  exact ⟨.ref _, _, I.lnew (t' := s.toks) (r.rep k.toNat) (by rw [len_rep, Nat.mul_comm]; exact hz), rfl, q _ I.fresh⟩
end
section
variable {prog : Program} {w : World} {A : Around} {E : Value → Shared → Prop} {s : Shared}
set_option maxRecDepth 100000 in
end
section
variable {X : Cx}
end
end L2
namespace L2
open PySem PySem.Spec PyProof.Rows
theorem Vals.ints : ∀ {ns : List Int} {us : List Value}, Vals (ns.map V.int) us → IntsAre us ns
  | [], us, h => by
    rw [List.map_nil] at h
    cases h
    exact IntsAre.nil
  | n :: ns, us, h => by
    rw [List.map_cons] at h
    cases h with
    | cons r t =>
      obtain ⟨k, rfl⟩ := r
      exact IntsAre.cons n k (Vals.ints t)
theorem Vals.strs : ∀ {xs : List Str} {us : List Value}, Vals (xs.map V.str) us → StrsAre us xs
  | [], us, h => by
    rw [List.map_nil] at h
    cases h
    exact StrsAre.nil
  | x :: xs, us, h => by
    rw [List.map_cons] at h
    cases h with
    | cons r t =>
      obtain ⟨k, rfl⟩ := r
      exact StrsAre.cons x k (Vals.strs t)
theorem Vals.ref1 {a : Addr} {us : List Value} (r : Vals [V.ref a] us) : us = [Value.ref a] := by
  cases r with
  | cons r t =>
    cases t
    cases r
    rfl
section
variable {prog : Program} {w : World} {A : Around} {E : Value → Shared → Prop} {s : Shared} {l : Addr} {its : List Value} {ns : List Int} {Q : Value → Shared → Prop}
theorem sum_raw (hh : A.handled = none) (hl : s.heap.IsList l its.toArray) (hi : IntsAre its ns)
    (h : ∀ h' tk t', (∀ b o, s.heap.get? b = some o → h'.get? b = some o) → Q (.int ns.sum t') { s with heap := h', toks := tk }) : wpAny (model prog w) A (call (.builtin "sum") [.ref l]) Q E s := by
  obtain ⟨xs, e⟩ := hi.allInts.items
  have hn : numsOf (intItems xs).toList = ns := by rw [← e]; exact hi.numsOf
  rw [nums_intItems] at hn
  rw [e] at hl
  refine PySem.sum_intListG hh hl fun h' tk t' hk => ?_
  have := h h' tk t' hk
  rw [preSum_eq, List.take_of_length_le (by simp), hn]; exact this
end
section
variable {X : Cx}
def rSum (K : PySem.W.Frag) : List V → Hp → VK → Prop := fun vs H Q => ∃ (a : Addr) (ns : List Int), vs = [V.ref a] ∧ SqL K H a (ns.map V.int) ∧ Q (.int ns.sum) H
theorem cr_sum (hc : X.calm = true) : CallR X (.builtin "sum") (rSum X.K) := by
  intro pins s σ H vs us Q I r h
  obtain ⟨a, ns, rfl, hs, q⟩ := h
  obtain ⟨its, rv, hl, _⟩ := I.list hs
  rw [Vals.ref1 r]
  exact sum_raw (I.ok.hd hc) hl.isList rv.ints fun h' tk t' hk => ⟨.int _, H, I.kept hk, ⟨_, rfl⟩, q⟩
end
section
variable {X : Cx}
end
section
variable {X : Cx}
end
section
variable {X : Cx}
end
mutual
inductive Dp (K : PySem.W.Frag) (H : Hp) : V → PyData → Prop
  | non : Dp K H .non .none
  | bl (b : Bool) : Dp K H (.bl b) (.bool b)
  | int (i : Int) : Dp K H (.int i) (.int i)
  | str (x : Str) : Dp K H (.str x) (.str x)
  | lst {a : Addr} {xs : List V} {ds : List PyData} : SqL K H a xs → DpAll K H xs ds → Dp K H (.ref a) (.list ds)
  | tup {a : Addr} {xs : List V} {ds : List PyData} : SqT K H a xs → DpAll K H xs ds → Dp K H (.ref a) (.tuple ds)
inductive DpAll (K : PySem.W.Frag) (H : Hp) : List V → List PyData → Prop
  | nil : DpAll K H [] []
  | cons {v : V} {vs : List V} {d : PyData} {ds : List PyData} : Dp K H v d → DpAll K H vs ds → DpAll K H (v :: vs) (d :: ds)
end
section
variable {X : Cx} {pins : List (Addr × Obj)} {σ : St} {H : Hp} {s : Shared}
mutual
theorem Dp.reads (I : Inv X pins σ H s) : ∀ (d : PyData) (v : V) (u : Value), Dp X.K H v d → RelV v u → ∃ as, Reads s.heap u d as
  | .none, _, _, h, r => by
    cases h
    cases r
    exact ⟨_, Reads.none⟩
  | .bool b, _, _, h, r => by
    cases h
    cases r
    exact ⟨_, Reads.bool b⟩
  | .int i, _, _, h, r => by
    cases h
    obtain ⟨t, rfl⟩ := r
    exact ⟨_, Reads.int i t⟩
  | .str x, _, _, h, r => by
    cases h
    obtain ⟨t, rfl⟩ := r
    exact ⟨_, Reads.str x t⟩
  | .list ds, _, _, h, r => by
    cases h with
    | lst hs ha =>
      cases r
      obtain ⟨its, rv, ⟨o, n, ho, hc, _, hd⟩, _⟩ := I.list hs
      obtain ⟨as, hr⟩ := Dp.readsAll I ds _ its ha rv
      exact ⟨_, Reads.list ho hc hd hr⟩
  | .tuple ds, _, _, h, r => by
    cases h with
    | tup hs ha =>
      cases r
      obtain ⟨its, rv, ⟨o, ho, hc, n, hd⟩, _⟩ := I.tuple hs
      obtain ⟨as, hr⟩ := Dp.readsAll I ds _ its ha rv
      exact ⟨_, Reads.tuple ho hc hd hr⟩
  | .dict _, _, _, h, _ => by cases h
theorem Dp.readsAll (I : Inv X pins σ H s) : ∀ (ds : List PyData) (vs : List V) (us : List Value), DpAll X.K H vs ds → Vals vs us → ∃ as, ReadsAll s.heap us ds as
  | [], _, _, h, r => by
    cases h
    cases r
    exact ⟨_, ReadsAll.nil⟩
  | d :: ds, _, _, h, r => by
    cases h with
    | cons h1 h2 =>
      cases r with
      | cons r1 r2 =>
        obtain ⟨as, q1⟩ := Dp.reads I d _ _ h1 r1
        obtain ⟨bs, q2⟩ := Dp.readsAll I ds _ _ h2 r2
        exact ⟨_, ReadsAll.cons q1 q2⟩
end
end
section
variable {X : Cx}
def rEqD (K : PySem.W.Frag) : R2 := fun x y H Q => ∃ d e, Dp K H x d ∧ Dp K H y e ∧ SeqAt.shaped d = true ∧ SeqAt.shaped e = true ∧ Q (.bl (PyData.eqv d e)) H
def rNeD (K : PySem.W.Frag) : R2 := fun x y H Q => ∃ d e, Dp K H x d ∧ Dp K H y e ∧ SeqAt.shaped d = true ∧ SeqAt.shaped e = true ∧ Q (.bl (!PyData.eqv d e)) H
theorem op_eqD (hu : X.A.units + 64 < cLine) : OpR X (compareOp .Eq) (rEqD X.K) := by
  intro pins s σ H x y v u Q I rx ry h
  obtain ⟨d, e, hd, he, sd, se, q⟩ := h
  obtain ⟨as, r1⟩ := Dp.reads I d x v hd rx
  obtain ⟨bs, r2⟩ := Dp.reads I e y u he ry
  exact SeqAt.compareEq_shaped r1 r2 sd se hu ⟨.bl _, H, I, rfl, q⟩
theorem op_neD (hu : X.A.units + 64 < cLine) : OpR X (compareOp .NotEq) (rNeD X.K) := by
  intro pins s σ H x y v u Q I rx ry h
  obtain ⟨d, e, hd, he, sd, se, q⟩ := h
  obtain ⟨as, r1⟩ := Dp.reads I d x v hd rx
  obtain ⟨bs, r2⟩ := Dp.reads I e y u he ry
  exact SeqAt.compareNe_shaped r1 r2 sd se hu ⟨.bl _, H, I, rfl, q⟩
end
end L2
namespace L2
open PySem PySem.Spec PyProof.Rows
abbrev CellAt (h : Heap) (c : Addr) (v : Option Value) : Prop := h.IsCell c v
def relS (scope sc : Scope) : Scope :=
  { scope with names := scope.names.map fun (n, k) => if (k == .free && sc.kind == .function && sc.names.lookup n == some .cell) then (n, .cell) else (n, k) }
def cloFrom (cells : List (Str × Addr)) : List (Str × NameKind) → List (Str × Addr) → List (Str × Addr)
  | [], acc => acc
  | (n, k) :: r, acc => if k == .free then cloFrom cells r ((n, (cells.lookup n).getD 0) :: acc) else cloFrom cells r acc
theorem closure_loop (env : Env) (f : Str × NameKind → List (Str × Addr) → Sem (ForInStep (List (Str × Addr))))
    (hf : ∀ n k c, f (n, k) c = if k == .free then (do let a ← cellOf env n; pure (.yield ((n, a) :: c))) else pure (.yield c)) :
    ∀ (names : List (Str × NameKind)) (acc : List (Str × Addr)), (∀ y ∈ names, y.2 = .free → ∃ c, env.cells.lookup y.1 = some c) → forIn names acc f = pure (cloFrom env.cells names acc)
  | [], acc, _ => by rw [List.forIn_nil]; rfl
  | (n, k) :: r, acc, h => by
    rw [List.forIn_cons, hf]
    have ih := fun acc => closure_loop env f hf r acc fun y hy => h y (List.mem_cons_of_mem _ hy)
    unfold cloFrom
    by_cases hk : (k == NameKind.free) = true
    · rw [if_pos hk, if_pos hk]
      obtain ⟨c, hc⟩ := h (n, k) List.mem_cons_self (by simpa using hk)
      have e : cellOf env n = pure c := by unfold cellOf; rw [hc]
      rw [e]
      have e2 : (env.cells.lookup n).getD 0 = c := by rw [hc]; rfl
      rw [e2]
      exact ih _
    · rw [if_neg hk, if_neg hk]
      exact ih _
theorem closure_ok {scope : Scope} {env : Env} (h : ∀ y ∈ scope.names, y.2 = .free → ∃ c, env.cells.lookup y.1 = some c) : closureFor scope env = pure (cloFrom env.cells scope.names []) := by
  simp only [closureFor]
  rw [closure_loop env _ (fun n k c => rfl) scope.names [] h]
  rfl
theorem mem_lookup {α : Type} : ∀ {l : List (Str × α)} {n : Str} {c : α}, (n, c) ∈ l → ∃ c', l.lookup n = some c'
  | (k, v) :: r, n, c, h => by
    rw [List.lookup_cons]
    cases hb : n == k with
    | true => exact ⟨_, rfl⟩
    | false =>
      rcases List.mem_cons.mp h with e | h
      · cases e; simp at hb
      · exact mem_lookup h
theorem cloFrom_mem {cells : List (Str × Addr)} : ∀ {names : List (Str × NameKind)} {acc : List (Str × Addr)} {n : Str} {c : Addr}, (n, c) ∈ cloFrom cells names acc → (n, c) ∈ acc ∨ ((n, .free) ∈ names ∧ c = (cells.lookup n).getD 0)
  | [], _, _, _, h => .inl h
  | (m, k) :: r, acc, n, c, h => by
    unfold cloFrom at h
    split at h
    · rename_i hk
      have hk : k = .free := by simpa using hk
      rcases cloFrom_mem h with h | ⟨h1, h2⟩
      · rcases List.mem_cons.mp h with e | h
        · cases e; exact .inr ⟨hk ▸ List.mem_cons_self, rfl⟩
        · exact .inl h
      · exact .inr ⟨List.mem_cons_of_mem _ h1, h2⟩
    · rcases cloFrom_mem h with h | ⟨h1, h2⟩
      · exact .inl h
      · exact .inr ⟨List.mem_cons_of_mem _ h1, h2⟩
theorem cloFrom_acc {cells : List (Str × Addr)} : ∀ {names : List (Str × NameKind)} {acc : List (Str × Addr)} {p : Str × Addr}, p ∈ acc → p ∈ cloFrom cells names acc
  | [], _, _, h => h
  | (m, k) :: r, acc, p, h => by
    unfold cloFrom
    split
    · exact cloFrom_acc (List.mem_cons_of_mem _ h)
    · exact cloFrom_acc h
theorem cloFrom_has {cells : List (Str × Addr)} : ∀ {names : List (Str × NameKind)} {acc : List (Str × Addr)} {n : Str}, (n, .free) ∈ names → (n, (cells.lookup n).getD 0) ∈ cloFrom cells names acc
  | (m, k) :: r, acc, n, h => by
    unfold cloFrom
    rcases List.mem_cons.mp h with e | h
    · cases e
      exact cloFrom_acc List.mem_cons_self
    · split
      · exact cloFrom_has h
      · exact cloFrom_has h
theorem cells_mem : ∀ {names : List (Str × NameKind)} {h : Heap} {acc : List (Str × Addr)} {x : Str} {c : Addr}, (x, c) ∈ cellsFrom h.objs.size names acc →
    (x, c) ∈ acc ∨ ((x, .cell) ∈ names ∧ h.objs.size ≤ c ∧ CellAt (pushCells h names) c none)
  | [], _, _, _, _, h => .inl h
  | (n, k) :: r, h, acc, x, c, hm => by
    unfold cellsFrom at hm
    unfold pushCells
    split at hm
    · rename_i hk
      rw [if_pos hk]
      have hk : k = .cell := by simpa using hk
      rw [← Heap.size_push h { cls := .type "cell", data := .cell none }] at hm
      rcases cells_mem hm with hm | ⟨h1, h2, h3⟩
      · rcases List.mem_cons.mp hm with e | hm
        · cases e
          exact .inr ⟨hk ▸ List.mem_cons_self, Nat.le_refl _, _, pushCells_keeps r _ _ _ (Heap.get?_push_size _ rfl), rfl⟩
        · exact .inl hm
      · rw [Heap.size_push] at h2
        exact .inr ⟨List.mem_cons_of_mem _ h1, Nat.le_of_succ_le h2, h3⟩
    · rename_i hk
      rw [if_neg hk]
      rcases cells_mem hm with hm | ⟨h1, h2, h3⟩
      · exact .inl hm
      · exact .inr ⟨List.mem_cons_of_mem _ h1, h2, h3⟩
theorem cells_acc : ∀ {names : List (Str × NameKind)} {n : Nat} {acc : List (Str × Addr)} {p : Str × Addr}, p ∈ acc → p ∈ cellsFrom n names acc
  | [], _, _, _, h => h
  | (m, k) :: r, n, acc, p, h => by
    unfold cellsFrom
    split
    · exact cells_acc (List.mem_cons_of_mem _ h)
    · exact cells_acc h
theorem cells_has : ∀ {names : List (Str × NameKind)} {n : Nat} {acc : List (Str × Addr)} {x : Str}, (x, .cell) ∈ names → ∃ c, (x, c) ∈ cellsFrom n names acc
  | (m, k) :: r, n, acc, x, h => by
    unfold cellsFrom
    rcases List.mem_cons.mp h with e | h
    · cases e
      exact ⟨n, cells_acc List.mem_cons_self⟩
    · split
      · exact cells_has h
      · exact cells_has h
theorem cells_inj : ∀ {names : List (Str × NameKind)} {h : Heap} {acc : List (Str × Addr)} {x y : Str} {c : Addr}, (∀ p ∈ acc, p.2 < h.objs.size) → (∀ x y c, (x, c) ∈ acc → (y, c) ∈ acc → x = y) →
    (x, c) ∈ cellsFrom h.objs.size names acc → (y, c) ∈ cellsFrom h.objs.size names acc → x = y
  | [], _, _, _, _, _, _, hi, h1, h2 => hi _ _ _ h1 h2
  | (n, k) :: r, h, acc, x, y, c, hl, hi, h1, h2 => by
    unfold cellsFrom at h1 h2
    split at h1
    · rename_i hk
      rw [if_pos hk] at h2
      rw [← Heap.size_push h { cls := .type "cell", data := .cell none }] at h1 h2
      refine cells_inj (h := h.push _) (fun p hp => ?_) (fun x y c a b => ?_) h1 h2
      · rw [Heap.size_push]
        rcases List.mem_cons.mp hp with rfl | hp
        · exact Nat.lt_succ_self _
        · exact Nat.lt_succ_of_lt (hl p hp)
      · rcases List.mem_cons.mp a with e | a <;> rcases List.mem_cons.mp b with e' | b
        · cases e; cases e'; rfl
        · cases e; exact absurd (hl _ b) (Nat.lt_irrefl _)
        · cases e'; exact absurd (hl _ a) (Nat.lt_irrefl _)
        · exact hi _ _ _ a b
    · rename_i hk
      rw [if_neg hk] at h2
      exact cells_inj hl hi h1 h2
theorem newEnv_comp {M : Model} {A : Around} {E : Value → Shared → Prop} {s : Shared} {scope : Scope} {globals : Addr} {closure : List (Str × Addr)} {qual : Str} {func : Option Addr} {code : Value} {around : Env} {builtins : Addr} {Q : Env → Shared → Prop}
    (h : Q (newEnv scope s.heap.objs.size globals (cellsFrom (s.heap.objs.size + 1) scope.names closure) qual func code (some around) builtins)
      { s with heap := pushCells (s.heap.push { cls := .type "dict", data := .dict #[] }) scope.names }) :
    wpAny M A (newFunctionEnv scope globals closure [] qual func code (some around) builtins) Q E s := by
  simp only [newFunctionEnv, Option.isSome_some, if_true]
  refine wpAny_bind (wpAny_alloc ?_)
  refine wpAny_bind (wpAny_layCells _ (fun n k c => rfl) scope.names closure _ _ ?_)
  rw [show ({ s with heap := s.heap.push { cls := .type "dict", data := .dict #[] } } : Shared).heap.objs.size = s.heap.objs.size + 1 from Heap.size_push ..]
  rw [List.forIn_nil]
  exact wpAny_bind (wpAny_pure (wpAny_pure h))
theorem lookup_relS {sc : Scope} : ∀ {names : List (Str × NameKind)} {x : Str} {k : NameKind},
    (names.map fun (n, k) => if (k == NameKind.free && sc.kind == .function && sc.names.lookup n == some .cell) then (n, NameKind.cell) else (n, k)).lookup x = some k →
    ∃ k', names.lookup x = some k' ∧ (k = k' ∨ (k' = .free ∧ k = .cell))
  | [], _, _, h => by simp at h
  | (n, k₀) :: r, x, k, h => by
    have ih := @lookup_relS sc r x k
    have h' : List.lookup x ((if (k₀ == NameKind.free && sc.kind == .function && sc.names.lookup n == some .cell) = true then (n, NameKind.cell) else (n, k₀)) :: (r.map _)) = some k := h
    cases hx : x == n with
    | true =>
      simp only [List.lookup_cons, hx]
      by_cases hc : (k₀ == NameKind.free && sc.kind == .function && sc.names.lookup n == some .cell) = true
      · rw [if_pos hc] at h'
        simp only [List.lookup_cons, hx] at h'
        cases h'
        simp only [Bool.and_eq_true, beq_iff_eq] at hc
        exact ⟨k₀, rfl, .inr ⟨hc.1.1, rfl⟩⟩
      · rw [if_neg hc] at h'
        simp only [List.lookup_cons, hx] at h'
        cases h'
        exact ⟨_, rfl, .inl rfl⟩
    | false =>
      simp only [List.lookup_cons, hx]
      by_cases hc : (k₀ == NameKind.free && sc.kind == .function && sc.names.lookup n == some .cell) = true
      · rw [if_pos hc] at h'
        simp only [List.lookup_cons, hx] at h'
        exact ih h'
      · rw [if_neg hc] at h'
        simp only [List.lookup_cons, hx] at h'
        exact ih h'
structure BlkOk (N : List Str) (sc scope : Scope) (own : List (Str × Nat)) : Prop where
  kind : scope.kind = .function
  uniq : ∀ y ∈ scope.names, scope.names.lookup y.1 = some y.2
  ix : ∀ p ∈ own, N[p.2]? = some p.1
  free : ∀ y ∈ scope.names, y.2 = .free → sc.names.lookup y.1 = some .cell ∨ sc.names.lookup y.1 = some .free
  own : ∀ y ∈ scope.names, y.2 = .local ∨ y.2 = .cell → y.1 ∈ own.map (·.1) ∨ y.1 ∉ N
def wipe (σ : St) : List Nat → St
  | [] => σ
  | v :: vs => (wipe σ vs).set v none
theorem wipe_length (σ : St) : ∀ vs : List Nat, (wipe σ vs).length = σ.length
  | [] => rfl
  | v :: vs => by unfold wipe; rw [List.length_set, wipe_length σ vs]
theorem wipe_some {σ : St} {i : Nat} {x : V} : ∀ {vs : List Nat}, (wipe σ vs)[i]? = some (some x) → σ[i]? = some (some x) ∧ i ∉ vs
  | [], h => ⟨h, by simp⟩
  | v :: vs, h => by
    unfold wipe at h
    by_cases hi : v = i
    · subst hi
      by_cases hv : v < (wipe σ vs).length
      · rw [List.getElem?_set_self hv] at h; cases h
      · rw [List.getElem?_eq_none (by simpa using hv)] at h; cases h
    · rw [List.getElem?_set_ne hi] at h
      obtain ⟨h1, h2⟩ := wipe_some h
      exact ⟨h1, by simp only [List.mem_cons, not_or]; exact ⟨fun e => hi e.symm, h2⟩⟩
abbrev Cx.blk (X : Cx) (s : Shared) (H : Hp) (scope : Scope) (cenv : Env) (fp : List Addr) : Cx := { X with s_0 := s, H_0 := H, env := cenv, outer := X.stack, ex := fp, fn := fun x => scope.names.lookup x == some .cell, pn := [], xe := fun _ _ => False }
section
variable {X : Cx} {pins : List (Addr × Obj)} {σ : St} {H : Hp} {s : Shared}
theorem block_start {scope : Scope} {own : List (Str × Nat)} {fp : List Addr} (I : Inv X pins σ H s) (ok : BlkOk X.N X.env.scope scope own) (hN : X.N.Nodup) (hfp : ∀ b ∈ fp, FpOk X pins H b ∧ b < s.heap.objs.size) :
    Inv (X.blk s H scope (compEnvC scope (cellsFrom (s.heap.objs.size + 1) scope.names (cloFrom X.env.cells scope.names [])) s.heap.objs.size X.env) fp) [] (wipe σ (own.map (·.2))) H { s with heap := pushCells (s.heap.push { cls := .type "dict", data := .dict #[] }) scope.names } := by
  have hfree : ∀ y ∈ scope.names, y.2 = .free → ∃ c, X.env.cells.lookup y.1 = some c := fun y hy e => by
    rcases ok.free y hy e with k | k
    · exact I.ok.has _ (.inl k)
    · exact I.ok.has _ (.inr k)
  generalize hcenv : compEnvC scope (cellsFrom (s.heap.objs.size + 1) scope.names (cloFrom X.env.cells scope.names [])) s.heap.objs.size X.env = cenv
  have kp : ∀ b o, s.heap.get? b = some o → (pushCells (s.heap.push { cls := .type "dict", data := .dict #[] }) scope.names).get? b = some o := fun b o e => pushCells_keeps _ _ _ _ (Heap.get?_push_of_some _ e)
  have hL : cenv.locals = s.heap.objs.size := by rw [← hcenv]; rfl
  have hcl : cenv.cells = cellsFrom (s.heap.objs.size + 1) scope.names (cloFrom X.env.cells scope.names []) := by rw [← hcenv]; rfl
  have hsc : cenv.scope = relS scope X.env.scope := by rw [← hcenv]; rfl
  rw [← Heap.size_push s.heap { cls := .type "dict", data := .dict #[] }] at hcl
  have cm : ∀ {y c}, (y, c) ∈ cloFrom X.env.cells scope.names [] → X.env.cells.lookup y = some c ∧ c < s.heap.objs.size := fun {y c} hm => by
    rcases cloFrom_mem hm with hm | ⟨h1, rfl⟩
    · cases hm
    · obtain ⟨c, hc⟩ := hfree _ h1 rfl
      rw [hc]
      obtain ⟨w, z⟩ := I.cell _ _ hc
      exact ⟨rfl, z.lt⟩
  have mem : ∀ {y c}, cenv.cells.lookup y = some c → (X.env.cells.lookup y = some c ∧ c < s.heap.objs.size) ∨ (s.heap.objs.size + 1 ≤ c ∧ CellAt (pushCells (s.heap.push { cls := .type "dict", data := .dict #[] }) scope.names) c none) := fun {y c} e => by
    rw [hcl] at e
    rcases cells_mem (PySem.mem_of_lookup e) with hm | ⟨_, h2, h3⟩
    · exact .inl (cm hm)
    · rw [Heap.size_push] at h2; exact .inr ⟨h2, h3⟩
  have look : ∀ {y}, scope.names.lookup y = some .free → ∃ c, cenv.cells.lookup y = some c ∧ X.env.cells.lookup y = some c := fun {y} hl => by
    have hy : (y, NameKind.free) ∈ scope.names := PySem.mem_of_lookup hl
    obtain ⟨c', e'⟩ := mem_lookup (cells_acc (names := scope.names) (n := (s.heap.push { cls := .type "dict", data := .dict #[] }).objs.size) (cloFrom_has (cells := X.env.cells) (acc := []) hy))
    rw [← hcl] at e'
    refine ⟨c', e', ?_⟩
    rw [hcl] at e'
    rcases cells_mem (PySem.mem_of_lookup e') with hm | ⟨h1, _, _⟩
    · exact (cm hm).1
    · have := ok.uniq _ h1
      rw [hl] at this; cases this
  have okB : (X.blk s H scope cenv fp).Ok := by
    refine ⟨I.ok.mod, by show cenv.scope.kind = _; rw [hsc]; exact ok.kind, by show cenv.globals = _; rw [← hcenv]; exact I.ok.glob, by show cenv.builtins = _; rw [← hcenv]; exact I.ok.blt, by show s.heap.objs.size ≤ cenv.locals; rw [hL]; exact Nat.le_refl _,
      fun y z c e1 e2 => ?_, fun y hy => ?_, fun y c z e => ?_, I.ok.hd, I.ok.frames, .inl rfl, fun b hb => ⟨?_, fun y c e z => ?_⟩, I.bs, Nat.le_trans I.ok.bsz I.sz, fun b o e hb => ?_, fun b hb z => ?_, I.stack, I.stkFree⟩
    · have e1 : cenv.cells.lookup y = some c := e1
      have e2 : cenv.cells.lookup z = some c := e2
      rw [hcl] at e1 e2
      refine cells_inj (fun p hp => ?_) (fun y z c a b => I.ok.inj y z c (cm a).1 (cm b).1) (PySem.mem_of_lookup e1) (PySem.mem_of_lookup e2)
      rw [Heap.size_push]
      exact Nat.lt_succ_of_lt (cm (y := p.1) (c := p.2) hp).2
    · show ∃ c, cenv.cells.lookup y = some c
      have key : ∀ k, cenv.kindOf y = some k → (k = .cell ∨ k = .free) → ∃ c, cenv.cells.lookup y = some c := fun k hk hk' => by
        unfold Env.kindOf at hk
        rw [hsc] at hk
        obtain ⟨k', e, r⟩ := lookup_relS hk
        have : k' = .cell ∨ k' = .free := by
          rcases r with rfl | ⟨rfl, _⟩
          · exact hk'
          · exact .inr rfl
        rcases this with rfl | rfl
        · obtain ⟨c, hm⟩ := cells_has (n := (s.heap.push { cls := .type "dict", data := .dict #[] }).objs.size) (acc := cloFrom X.env.cells scope.names []) (PySem.mem_of_lookup e)
          obtain ⟨c', e'⟩ := mem_lookup hm
          exact ⟨c', by rw [hcl]; exact e'⟩
        · obtain ⟨c, h1, _⟩ := look e
          exact ⟨c, h1⟩
      rcases hy with hy | hy
      · exact key _ hy (.inl rfl)
      · exact key _ hy (.inr rfl)
    · have z : (scope.names.lookup y == some NameKind.cell) = true := z
      have z : scope.names.lookup y = some .cell := by simpa using z
      have e : cenv.cells.lookup y = some c := e
      rw [hcl] at e
      rcases cells_mem (PySem.mem_of_lookup e) with hm | ⟨_, h2, _⟩
      · rcases cloFrom_mem hm with hm | ⟨h1, _⟩
        · cases hm
        · have q := ok.uniq _ h1
          rw [z] at q; cases q
      · rw [Heap.size_push] at h2
        exact Nat.le_of_succ_le h2
    · show b ≠ cenv.locals
      rw [hL]; exact Nat.ne_of_lt (hfp b hb).2
    · have e : cenv.cells.lookup y = some c := e
      rcases mem e with ⟨h1, _⟩ | ⟨h1, _⟩
      · exact (hfp b hb).1.2.2.2.2.1 y c h1 z
      · have h2 : s.heap.objs.size + 1 ≤ b := by rw [← z]; exact h1
        exact absurd (Nat.lt_of_lt_of_le (hfp b hb).2 (Nat.le_of_succ_le h2)) (Nat.lt_irrefl _)
    · rcases (hfp b hb).1.2.2.2.1 with z | z
      · exact I.ok.noex b o e z
      · exact absurd (Nat.lt_of_lt_of_le (Heap.lt_size e) (Nat.le_trans I.ok.bsz z)) (Nat.lt_irrefl _)
    · rcases List.mem_cons.mp (I.stkSub b z) with z | z
      · exact (hfp b hb).1.2.1 z
      · exact (hfp b hb).1.2.2.1 z
  refine ⟨okB, rfl, I.bare, Un.kept kp, ⟨fun _ => none, ?_, fun i y av e1 e2 e3 => ?_⟩, fun y c e => ?_, ?_, fun y c e => ?_, fun p hp => ?_, I.hok.kept kp, by rw [wipe_length]; exact I.len⟩
  · show Heap.Ns _ cenv.locals _
    rw [hL]
    exact Heap.Ns.keeps (Heap.Ns.new ..) fun b o e => pushCells_keeps _ _ _ _ e
  · obtain ⟨e2, hne⟩ := wipe_some e2
    have hfr : scope.names.lookup y = some .free ∧ (cenv.kindOf y = some .cell ∨ cenv.kindOf y = some .free) := by
      have key : ∀ k, cenv.scope.names.lookup y = some k → k = .local ∨ k = .cell ∨ k = .free → scope.names.lookup y = some .free ∧ (cenv.kindOf y = some .cell ∨ cenv.kindOf y = some .free) := fun k hk hk' => by
        have hk0 := hk
        rw [hsc] at hk
        obtain ⟨k', e, r⟩ := lookup_relS hk
        have no : ¬ (k' = .local ∨ k' = .cell) := fun hh => by
          rcases ok.own _ (PySem.mem_of_lookup e) hh with e' | e'
          · obtain ⟨p, hp, hpy⟩ := List.mem_map.mp e'
            have e3 := ok.ix p hp
            have : p.1 = y := hpy
            rw [this] at e3
            exact hne (List.mem_map.mpr ⟨p, hp, nodup_ix hN e3 e1⟩)
          · exact e' (List.mem_of_getElem? e1)
        rcases r with rfl | ⟨rfl, rfl⟩
        · rcases hk' with rfl | rfl | rfl
          · exact absurd (.inl rfl) no
          · exact absurd (.inr rfl) no
          · exact ⟨e, .inr hk0⟩
        · exact ⟨e, .inl hk0⟩
      have e3 : Vis cenv.scope y := e3
      rcases e3 with e3 | e3 | e3
      · exact key _ e3 (.inl rfl)
      · exact key _ e3 (.inr (.inl rfl))
      · exact key _ e3 (.inr (.inr rfl))
    obtain ⟨m, hn, hl⟩ := I.loc
    have hvis : Vis X.env.scope y := (ok.free _ (PySem.mem_of_lookup hfr.1) rfl).elim (fun k => .inr (.inl k)) (fun k => .inr (.inr k))
    obtain ⟨w, r, q⟩ := hl i y av e1 e2 hvis
    refine ⟨w, r, .inr ⟨hfr.2, ?_⟩⟩
    obtain ⟨c, h1, h2⟩ := look hfr.1
    rcases q with ⟨k, _⟩ | ⟨_, c', e', z⟩
    · have k : X.env.scope.names.lookup y = some .local := k
      rcases ok.free _ (PySem.mem_of_lookup hfr.1) rfl with k' | k' <;> rw [show X.env.scope.names.lookup y = _ from k'] at k <;> cases k
    · rw [h2] at e'; cases e'
      exact ⟨c, h1, z.keeps kp⟩
  · have e : cenv.cells.lookup y = some c := e
    rcases mem e with ⟨h1, _⟩ | ⟨_, z⟩
    · obtain ⟨w, z⟩ := I.cell y c h1
      exact ⟨w, z.keeps kp⟩
    · exact ⟨_, z⟩
  · show H cenv.locals = none
    rw [hL]; exact I.hok.fresh (Nat.le_refl _)
  · have e : cenv.cells.lookup y = some c := e
    rcases mem e with ⟨h1, _⟩ | ⟨h1, _⟩
    · exact I.freeC y c h1
    · exact I.hok.fresh (Nat.le_of_succ_le h1)
  · exact absurd (show p ∈ ([] : List (Addr × Obj)) ++ [] from hp) (by simp)
theorem app_ok {E : Value → Shared → Prop} {D : Addr} {xs : List V} {y : V} {v : Value} {Q : Value → Shared → Prop} (I : Inv X pins σ H s) (hD : H D = some (.lst xs)) (hz : xs.length < sizeLine) (r : RelV y v)
    (h : ∀ s', Inv X pins σ (upd H D (.lst (xs ++ [y]))) s' → Q .none s') : wpAny (model X.prog X.w) X.A (call (.builtin "list.append") [.ref D, v]) Q E s := by
  obtain ⟨hz', its, n, ri, e⟩ := I.hok D _ hD
  have hl := ri.length
  refine append_at (hsz := by rw [List.size_toArray]; omega) e fun h' sb ho' => ?_
  refine h { s with heap := h' } (I.write (t' := s.toks) (by rw [hD]; trivial) (.inl rfl) (fun b u hb q => (sb.2 b hb).trans q) ⟨_, ho'⟩ ⟨by rw [List.length_append]; exact hz, its ++ [v], n + 1, ri.append (.cons r .nil), ?_⟩)
  rw [ho']
  simp
def PTs (X : Cx) (ifs : List Expr) (t : TT) : Prop :=
  ∀ (pins : List (Addr × Obj)) (s : Shared) (σ : St) (H : Hp) (Q : Bool → Hp → Prop), Inv X pins σ H s → t σ H Q →
    wpAny (model X.prog X.w) X.A (forIn ifs true fun c r => if r = true then do let ok ← isTrue c X.env (eval c X.env); pure (ForInStep.yield ok) else pure (ForInStep.yield r)) (TP X pins σ Q) X.xe s
def tYes : TT := fun _ H Q => Q true H
theorem pts_nil : PTs X [] tYes := fun _ _ _ H _ I h => wpAny_tests_nil ⟨H, I, h⟩
end
theorem thnF {α : Type} {t : Sem α} {Q Q' : α → Shared → Prop} {M : Model} {A : Around} {E : Value → Shared → Prop} {s : Shared} (h : wpAny M A t Q (fun _ _ => False) s) (hQ : ∀ a s, Q a s → Q' a s) : wpAny M A t Q' E s := wpAny_mono h hQ fun _ _ z => False.elim z
theorem compLoop_any {prog : Program} {w : World} {A : Around} {R : Result → Shared → Prop} {s : Shared} {elt target iter : Expr} {ifs : List Expr} {scope : Scope} {pos : Pos} {it acc : Value} {env : Env} (I : Nat → Shared → Prop)
    (turn : ∀ n s, I n s → wpAny (model prog w) A (pyNext it) (fun r s₁ => match r with
      | none => R (.ok .next) s₁
      | some v => wpAny (model prog w) A (letOwnedTupleGo target it v) (fun _ s₁' => wpAny (model prog w) A (assign target env v) (fun _ s₂ =>
          wpAny (model prog w) A (forIn ifs true fun c r => if r = true then do let ok ← isTrue c env (eval c env); pure (ForInStep.yield ok) else pure (ForInStep.yield r)) (fun ok s₃ =>
            if ok = true then wpAny (model prog w) A (eval elt env) (fun x s₄ =>
              wpAny (model prog w) A (call (.builtin "list.append") [acc, x]) (fun _ s₅ => ∃ m, m < n ∧ I m s₅) (notedBy (model prog w) A env fun e s' => R (.error e) s') s₄) (notedBy (model prog w) A env fun e s' => R (.error e) s') s₃
            else ∃ m, m < n ∧ I m s₃) (notedBy (model prog w) A env fun e s' => R (.error e) s') s₂) (notedBy (model prog w) A env fun e s' => R (.error e) s') s₁') (notedBy (model prog w) A env fun e s' => R (.error e) s') s₁) (notedBy (model prog w) A env fun e s' => R (.error e) s') s)
    (n : Nat) (h : I n s) :
    codeAny (model prog w) A (.compLoop (.ListComp elt [⟨target, iter, ifs, 0⟩] scope pos) 0 it acc env) R s := by
  refine codeAny_loop rfl I (fun n s hI => ?_) n h
  show wpAny _ A ((compTurn (.ListComp elt [⟨target, iter, ifs, 0⟩] scope pos) 0 it acc env).onRaise (fun x => do noteFrame x env; theTreesLotGoes x)) _ _ s
  refine wpAny_noted ?_
  rw [compTurn_list]
  refine wpAny_bind (wpAny_standAt (wpAny_bind (wpAny_mono (turn n s hI) (fun r s₁ h₁ => ?_) fun _ _ h' => h')))
  cases r with
  | none => exact wpAny_pure h₁
  | some v =>
    refine wpAny_bind (wpAny_mono h₁ (fun _ s₁' h₁' => ?_) fun _ _ h' => h')
    refine wpAny_bind (wpAny_mono h₁' (fun _ s₂ h₂ => wpAny_bind (wpAny_mono h₂ (fun ok s₃ h₃ => ?_) fun _ _ h' => h')) fun _ _ h' => h')
    cases ok with
    | false => exact wpAny_pure ⟨rfl, h₃⟩
    | true =>
      exact wpAny_bind (wpAny_bind (wpAny_mono h₃ (fun x s₄ h₄ => wpAny_bind (wpAny_mono h₄ (fun _ s₅ h₅ => wpAny_pure (wpAny_pure ⟨rfl, h₅⟩)) fun _ _ h' => h')) fun _ _ h' => h'))
section
variable {X : Cx}
def tLc (wi : TI) (g : TG) (tt : TT) (te : TE) (vs : List Nat) : TE := fun σ H Q => wi σ H fun J H1 => ∀ D, H1 D = none → ∃ W : Nat → Nat → Hp → Prop, (∃ m, W 0 m (upd H1 D (.lst []))) ∧ ∀ i m H, W i m H →
  (J.stop i H ∧ Q (.ref D) H) ∨ (J.go i H ∧ ∃ Nx : Hp → Prop, (∀ H', Nx H' → ∃ m', m' < m ∧ W (i + 1) m' H') ∧ ∀ x H', J.yld i H x H' → g x (wipe σ vs) H' fun σ2 H2 => wipe σ2 vs = wipe σ vs ∧ tt σ2 H2 fun b H3 =>
    if b = true then te σ2 H3 fun y H4 => ∃ acc, H4 D = some (.lst acc) ∧ acc.length < sizeLine ∧ Nx (upd H4 D (.lst (acc ++ [y]))) else Nx H3)
theorem lc_core {pins : List (Addr × Obj)} {s : Shared} {σ : St} {H : Hp} {Q : VK} {elt tg iter : Expr} {ifs : List Expr} {scope : Scope} {own : List (Str × Nat)} {pos pos' : Pos} {wi : TI} {g : TG} {tt : TT} {te : TE} {use : Option (Value → Sem Unit)} {Qf : Value → Shared → Prop}
    (hc : X.calm = true) (hN : X.N.Nodup) (I : Inv X pins σ H s) (hi : PI X tg iter wi) (ok : BlkOk X.N X.env.scope scope own)
    (hg : ∀ (s : Shared) (H : Hp) (C : Addr) (cl : List (Str × Addr)) (fp : List Addr), PG (X.blk s H scope (compEnvC scope cl C X.env) fp) tg g) (ht : ∀ (s : Shared) (H : Hp) (C : Addr) (cl : List (Str × Addr)) (fp : List Addr), PTs (X.blk s H scope (compEnvC scope cl C X.env) fp) ifs tt)
    (he : ∀ (s : Shared) (H : Hp) (C : Addr) (cl : List (Str × Addr)) (fp : List Addr), PE (X.blk s H scope (compEnvC scope cl C X.env) fp) elt te) (hs : ∀ x, foldedSetIterable iter X.env x = pure x)
    (h : tLc wi g tt te (own.map (·.2)) σ H Q)
    (hRR : ∀ D C s' m H', Inv X pins σ H' s' → Q (.ref D) H' → s'.heap.Ns C m → FpOk X pins H' C → compPost (model X.prog X.w) X.A X.xe use Qf (.ref D) C (.ok .next) s') :
    wpAny (model X.prog X.w) X.A (comprehension (.ListComp elt [⟨tg, iter, ifs, 0⟩] scope pos) scope X.env pos' (newList []) false (eval iter X.env) use) Qf X.xe s := by
  have hfree : ∀ y ∈ scope.names, y.2 = .free → ∃ c, X.env.cells.lookup y.1 = some c := fun y hy e => by
    rcases ok.free y hy e with k | k
    · exact I.ok.has _ (.inl k)
    · exact I.ok.has _ (.inr k)
  refine wpAny_comprehension_free (use := use) rfl hs (closure_ok hfree) ok.kind (fun y hy e => by rw [ok.uniq y hy, e])
    (thn (hi pins s σ H _ I h) fun xv s1 hx => thn hx fun itv s2 h2 => ?_)
  obtain ⟨it, fp, tn, J, H2, e, I2, T, st2, f2, q⟩ := h2
  subst e
  refine wpAny_newObj_type (newEnv_comp ?_) (by show 0 ≤ sizeLine; decide)
  generalize hD : s2.heap.objs.size = D
  have hDn : H2 D = none := I2.hok.fresh (Nat.le_of_eq hD)
  obtain ⟨W, ⟨m0, w0⟩, turn⟩ := q D hDn
  -- the new list
  generalize hs3 : ({ s2 with heap := s2.heap.push { cls := .type "list", data := .seq ([] : List Value).toArray } } : Shared) = s3
  have I3 : Inv X pins σ (upd H2 D (.lst [])) s3 := by
    rw [← hs3]
    refine I2.laid (t' := s2.toks) (fun b o e => Heap.get?_push_of_some _ e) (Nat.le_of_eq hD) ⟨Nat.zero_le _, [], 0, .nil, ?_⟩
    rw [← hD]
    exact Heap.get?_push_size _ rfl
  have h3 : s3.heap = s2.heap.push { cls := .type "list", data := .seq ([] : List Value).toArray } := by rw [← hs3]
  have sz : ∀ b ∈ fp, b < s2.heap.objs.size := fun b hb => by
    obtain ⟨o, e, _⟩ := T.obj _ _ st2 b hb
    exact Heap.lt_size e
  have f3 : ∀ b ∈ fp, FpOk X pins (upd H2 D (.lst [])) b ∧ b < s3.heap.objs.size := fun b hb => by
    have hlt := sz b hb
    refine ⟨⟨?_, (f2 b hb).2⟩, by rw [h3, Heap.size_push]; exact Nat.lt_succ_of_lt hlt⟩
    rw [upd_ne (by rw [← hD]; exact Nat.ne_of_lt hlt)]
    exact (f2 b hb).1
  have st3 : tn 0 s3.heap := T.keep _ _ _ st2 fun b _ o e => by rw [h3]; exact Heap.get?_push_of_some _ e
  have I4 := block_start I3 ok hN f3
  have pg := hg s3 (upd H2 D (.lst [])) s3.heap.objs.size (cellsFrom (s3.heap.objs.size + 1) scope.names (cloFrom X.env.cells scope.names [])) fp
  have pt := ht s3 (upd H2 D (.lst [])) s3.heap.objs.size (cellsFrom (s3.heap.objs.size + 1) scope.names (cloFrom X.env.cells scope.names [])) fp
  have pe := he s3 (upd H2 D (.lst [])) s3.heap.objs.size (cellsFrom (s3.heap.objs.size + 1) scope.names (cloFrom X.env.cells scope.names [])) fp
  show codeAny _ _ (.compStart (.ListComp elt [⟨tg, iter, ifs, 0⟩] scope pos) 0 (.ref it) (.ref D) (compEnvC scope (cellsFrom (s3.heap.objs.size + 1) scope.names (cloFrom X.env.cells scope.names [])) s3.heap.objs.size X.env)) (compPost (model X.prog X.w) X.A X.xe use Qf (.ref D) s3.heap.objs.size) { s3 with heap := pushCells (s3.heap.push { cls := .type "dict", data := .dict #[] }) scope.names }
  have nfp : ∀ b ∈ fp, (upd H2 D (.lst [])) b = none := fun b hb => (f3 b hb).1.1
  generalize hce : compEnvC scope (cellsFrom (s3.heap.objs.size + 1) scope.names (cloFrom X.env.cells scope.names [])) s3.heap.objs.size X.env = ce at I4 pg pt pe ⊢
  have cL : ce.locals = s3.heap.objs.size := by subst hce; rfl
  generalize hH3 : upd H2 D (.lst []) = H3 at I3 I4 pg pt pe w0 nfp f3
  generalize hs4 : ({ s3 with heap := pushCells (s3.heap.push { cls := .type "dict", data := .dict #[] }) scope.names } : Shared) = s4 at I4 ⊢
  have st4 : tn 0 s4.heap := T.keep _ _ _ st3 fun b _ o e => by rw [← hs4]; exact pushCells_keeps _ _ _ _ (Heap.get?_push_of_some _ e)
  have stat : ∀ {σ' : St} {H' : Hp} {s' : Shared}, Inv (X.blk s3 H3 scope ce fp) [] σ' H' s' → (∀ b ∈ fp, H' b = none) → ∀ b ∈ fp, FpOk (X.blk s3 H3 scope ce fp) [] H' b := fun {σ' H' s'} I' hn b hb =>
    ⟨hn b hb, (I'.ok.exf b hb).1, I'.ok.exfs b hb, .inl hb, fun x c e => (I'.ok.exf b hb).2 x c e, fun p hp => absurd (show p ∈ ([] : List (Addr × Obj)) ++ [] from hp) (by simp)⟩
  have loop : codeAny (model X.prog X.w) X.A (.compLoop (.ListComp elt [⟨tg, iter, ifs, 0⟩] scope pos) 0 (.ref it) (.ref D) ce) (compPost (model X.prog X.w) X.A X.xe use Qf (.ref D) s3.heap.objs.size) s4 := by
    refine compLoop_any (fun n s' => ∃ i H', Inv (X.blk s3 H3 scope ce fp) [] (wipe σ (own.map (·.2))) H' s' ∧ tn i s'.heap ∧ (∀ b ∈ fp, H' b = none) ∧ W i n H') ?_ m0 ⟨0, H3, I4, st4, nfp, w0⟩
    rintro n s5 ⟨i, H5, I5, st5, n5, w5⟩
    rcases turn i n H5 w5 with ⟨stop, qq⟩ | ⟨go, Nx, hNx, step⟩
    · have td := T.done (X.blk s3 H3 scope ce fp) rfl rfl rfl hc i [] s5 _ H5 (fun _ _ => False) I5 (stat I5 n5) st5 stop
      refine thnF td fun r s6 ⟨hr, I6⟩ => ?_
      subst hr
      -- back in the def's context
      have I7 : Inv X pins σ H5 s6 := I3.call' (ch := fp) I6.os I6.base I6.hok I6.bare fun b hb => ⟨(f3 b hb).1.2.2.2.1, (f3 b hb).1.2.1, (f3 b hb).1.2.2.2.2.1, (f3 b hb).1.2.2.2.2.2⟩
      have nC : H5 s3.heap.objs.size = none := by
        have z : H5 ce.locals = none := I6.free
        rw [cL] at z
        exact z
      obtain ⟨m, hn, _⟩ := I6.loc
      have hn : s6.heap.Ns ce.locals m := hn
      rw [cL] at hn
      exact hRR D s3.heap.objs.size s6 m H5 I7 qq hn (I3.fpOk (Nat.le_refl _) nC)
    · have ti := T.item (X.blk s3 H3 scope ce fp) rfl rfl rfl hc i [] s5 _ H5 (fun _ _ => False) I5 (stat I5 n5) st5 go
      refine thnF ti fun r s6 ⟨u, hr, h6⟩ => ?_
      subst hr
      refine thnF h6 fun _ s7 ⟨x, H7, I7, r7, y7, st7, n7⟩ => ?_
      have I7' := I7.pinned (stat I7 n7) (T.obj _ _ st7)
      refine thnF (pg _ s7 _ H7 x u _ I7' r7 (step x H7 y7)) fun _ s8 ⟨σ8, H8, I8, hw8, q8⟩ => ?_
      refine thnF (pt _ s8 σ8 H8 _ I8 q8) fun b s9 ⟨H9, I9, q9⟩ => ?_
      -- the turn's end
      have fin : ∀ {s' : Shared} {H' : Hp}, Inv (X.blk s3 H3 scope ce fp) ([] ++ pinsAt fp s7.heap) σ8 H' s' → Nx H' → ∃ m, m < n ∧ ∃ i H', Inv (X.blk s3 H3 scope ce fp) [] (wipe σ (own.map (·.2))) H' s' ∧ tn i s'.heap ∧ (∀ b ∈ fp, H' b = none) ∧ W i m H' := fun {s' H'} I' nx => by
        obtain ⟨m', hm, w'⟩ := hNx H' nx
        have pin' : ∀ b ∈ fp, ∀ o, s7.heap.get? b = some o → s'.heap.get? b = some o ∧ H' b = none := fun b hb o e =>
          let z := I'.pin (b, o) (List.mem_append_right _ (List.mem_append_right _ (mem_pinsAt hb e)))
          ⟨z.1, z.2.1⟩
        have hl : (wipe σ (own.map (·.2))).length = σ8.length := by rw [← hw8, wipe_length]
        refine ⟨m', hm, i + 1, H', (I'.unpinned (pins := [])).weak hl (fun j v e => ?_), T.keep _ _ _ st7 fun b hb o e => (pin' b hb o e).1, fun b hb => ?_, w'⟩
        · rw [← hw8] at e
          exact (wipe_some e).1
        · obtain ⟨o, e, _⟩ := T.obj _ _ st7 b hb
          exact (pin' b hb o e).2
      cases b with
      | false =>
        simp only [Bool.false_eq_true, if_false] at q9 ⊢
        exact fin I9 q9
      | true =>
        simp only [if_true] at q9 ⊢
        refine thnF (pe _ s9 σ8 H9 _ I9 q9) fun z s10 ⟨yv, H10, I10, r10, acc, hD10, hz10, nx⟩ => ?_
        exact app_ok (X := X.blk s3 H3 scope ce fp) I10 hD10 hz10 r10 fun s11 I11 => fin I11 nx
  exact codeAny_compStart_list loop (T.self X.A 0 _ _ _ st4 loop)
theorem pe_lc {elt tg iter : Expr} {ifs : List Expr} {scope : Scope} {own : List (Str × Nat)} {pos : Pos} {wi : TI} {g : TG} {tt : TT} {te : TE} (hc : X.calm = true) (hN : X.N.Nodup) (hi : PI X tg iter wi) (ok : BlkOk X.N X.env.scope scope own)
    (hg : ∀ (s : Shared) (H : Hp) (C : Addr) (cl : List (Str × Addr)) (fp : List Addr), PG (X.blk s H scope (compEnvC scope cl C X.env) fp) tg g) (ht : ∀ (s : Shared) (H : Hp) (C : Addr) (cl : List (Str × Addr)) (fp : List Addr), PTs (X.blk s H scope (compEnvC scope cl C X.env) fp) ifs tt)
    (he : ∀ (s : Shared) (H : Hp) (C : Addr) (cl : List (Str × Addr)) (fp : List Addr), PE (X.blk s H scope (compEnvC scope cl C X.env) fp) elt te) (hs : ∀ x, foldedSetIterable iter X.env x = pure x := by intro _; rfl) :
    PE X (.ListComp elt [⟨tg, iter, ifs, 0⟩] scope pos) (tLc wi g tt te (own.map (·.2))) := by
  intro pins s σ H Q I h
  rw [eval_ListComp]
  refine lc_core hc hN I hi ok hg ht he hs h fun D C s' m H' I' q hn f => ⟨m, hn, fun h'' sb => ?_⟩
  obtain ⟨f0, f1, f2, f3, f4, f5⟩ := f
  exact ⟨.ref D, H', I'.turned (t' := s'.toks) (fun b o hb e => (sb.2 b hb).trans e) f0 f1 f3 f4 f5, rfl, q⟩
theorem ps_setLc {i : Nat} {y : Str} {py : Pos} {elt tg iter : Expr} {ifs : List Expr} {scope : Scope} {own : List (Str × Nat)} {pos spos : Pos} {wi : TI} {g : TG} {tt : TT} {te : TE} (hc : X.calm = true) (hN : X.N.Nodup) (hy : X.N[i]? = some y) (hyl : X.env.scope.names.lookup y = some .local)
    (hsw : swapsWith (.ListComp elt [⟨tg, iter, ifs, 0⟩] scope pos) (some (.Name y py)) spos.line X.env = pure true) (hi : PI X tg iter wi) (ok : BlkOk X.N X.env.scope scope own)
    (hg : ∀ (s : Shared) (H : Hp) (C : Addr) (cl : List (Str × Addr)) (fp : List Addr), PG (X.blk s H scope (compEnvC scope cl C X.env) fp) tg g) (ht : ∀ (s : Shared) (H : Hp) (C : Addr) (cl : List (Str × Addr)) (fp : List Addr), PTs (X.blk s H scope (compEnvC scope cl C X.env) fp) ifs tt)
    (he : ∀ (s : Shared) (H : Hp) (C : Addr) (cl : List (Str × Addr)) (fp : List Addr), PE (X.blk s H scope (compEnvC scope cl C X.env) fp) elt te) (hs : ∀ x, foldedSetIterable iter X.env x = pure x := by intro _; rfl) :
    PS X (.Assign [.Name y py] (.ListComp elt [⟨tg, iter, ifs, 0⟩] scope pos) spos) (tAsg (tLc wi g tt te (own.map (·.2))) (gName i)) := by
  intro pins s σ H D I h
  rw [exec_Assign_Name_used _ _ _ _ hsw]
  refine wpAny_bind (wpAny_standAt (wpAny_bind ?_))
  show wpAny _ X.A (do let _ ← comprehension (.ListComp elt [⟨tg, iter, ifs, 0⟩] scope pos) scope X.env (firstIterPos [⟨tg, iter, ifs, 0⟩] pos) (newList []) false (eval iter X.env) (some (assign (.Name y py) X.env))) _ _ s
  have h : tLc wi g tt te (own.map (·.2)) σ H (fun x H1 => gName i x σ H1 D.nx) := h
  refine wpAny_bind (thn (lc_core (Qf := fun _ s' => SP X pins D .next s') hc hN I hi ok hg ht he hs h fun L C s' m H' I' q hn f => ?_) fun _ s' hq => wpAny_pure (wpAny_pure hq))
  show wpAny _ _ (assign (.Name y py) X.env (.ref L)) _ _ _
  refine wpAny_assign_Name (store_ok2 (v := V.ref L) I' hN hy (.inl hyl) rfl (fun s2 I2 ⟨a, sb, ha⟩ => ?_) (.inr hyl))
  obtain ⟨f0, f1, f2, f3, f4, f5⟩ := f
  have haC : C ≠ a := by
    rcases ha with z | z
    · rw [z]; exact f1
    · exact fun e => f4 y a z e.symm
  refine ⟨m, hn.sameBut sb haC, fun h3 sb3 => ?_⟩
  exact ⟨_, H', I2.turned (t' := s2.toks) (fun b o hb e => (sb3.2 b hb).trans e) f0 f1 f3 f4 f5, q⟩
theorem sw_true {elt : Expr} {gs : List Comprehension} {scope : Scope} {pos py : Pos} {y : Str} {l : Nat} {env : Env} (hk : env.scope.kind = .function) (hy : env.scope.names.lookup y = some .local) (hl : (py.line == pos.line) = true)
    (ha : (scope.names.any fun (n, k) => n == y && (k == .local || k == .cell)) = false) : swapsWith (.ListComp elt gs scope pos) (some (.Name y py)) l env = pure true := by
  have ky : env.kindOf y = some .local := hy
  have hb : env.blockKind = .function := by unfold Env.blockKind; rw [hk]; rfl
  unfold swapsWith
  simp only [hb, ky, ha, Expr.pos, hl]
  rfl
end
theorem lc_range {lo : Int} {n : Nat} {g : TG} {tt : TT} {te : TE} {vs : List Nat} {σ : St} {H1 : Hp} {D : Addr} {Qd : Hp → Prop} (Pv : Nat → Hp → Prop) (h0 : Pv 0 (upd H1 D (.lst [])))
    (hs : ∀ i H, i < n → Pv i H → g (.int (lo + i)) (wipe σ vs) H fun σ2 H2 => wipe σ2 vs = wipe σ vs ∧ tt σ2 H2 fun b H3 =>
      if b = true then te σ2 H3 fun y H4 => ∃ acc, H4 D = some (.lst acc) ∧ acc.length < sizeLine ∧ Pv (i + 1) (upd H4 D (.lst (acc ++ [y]))) else Pv (i + 1) H3) (hd : ∀ H, Pv n H → Qd H) :
    ∃ W : Nat → Nat → Hp → Prop, (∃ m, W 0 m (upd H1 D (.lst []))) ∧ ∀ i m H, W i m H →
      ((Itr lo n).stop i H ∧ Qd H) ∨ ((Itr lo n).go i H ∧ ∃ Nx : Hp → Prop, (∀ H', Nx H' → ∃ m', m' < m ∧ W (i + 1) m' H') ∧ ∀ x H', (Itr lo n).yld i H x H' → g x (wipe σ vs) H' fun σ2 H2 => wipe σ2 vs = wipe σ vs ∧ tt σ2 H2 fun b H3 =>
        if b = true then te σ2 H3 fun y H4 => ∃ acc, H4 D = some (.lst acc) ∧ acc.length < sizeLine ∧ Nx (upd H4 D (.lst (acc ++ [y]))) else Nx H3) := by
  refine ⟨fun i m H => m = n - i ∧ i ≤ n ∧ Pv i H, ⟨n, by simp, Nat.zero_le _, h0⟩, ?_⟩
  rintro i m H ⟨rfl, hi, p⟩
  by_cases hlt : i < n
  · refine .inr ⟨hlt, Pv (i + 1), fun H' p' => ⟨n - (i + 1), by omega, rfl, hlt, p'⟩, fun x H' y => ?_⟩
    obtain ⟨e, y⟩ := y
    subst e y
    exact hs i _ hlt p
  · have e : i = n := by omega
    subst e
    exact .inl ⟨Nat.le_refl _, hd H p⟩
theorem lc_list {K : PySem.W.Frag} {a : Addr} {xs : List V} {g : TG} {tt : TT} {te : TE} {vs : List Nat} {σ : St} {H1 : Hp} {D : Addr} {Qd : Hp → Prop} (Pv : Nat → Hp → Prop) (h0 : Pv 0 (upd H1 D (.lst []))) (hl : ∀ i H, i ≤ xs.length → Pv i H → SqL K H a xs)
    (hs : ∀ i x H, xs[i]? = some x → Pv i H → g x (wipe σ vs) H fun σ2 H2 => wipe σ2 vs = wipe σ vs ∧ tt σ2 H2 fun b H3 =>
      if b = true then te σ2 H3 fun y H4 => ∃ acc, H4 D = some (.lst acc) ∧ acc.length < sizeLine ∧ Pv (i + 1) (upd H4 D (.lst (acc ++ [y]))) else Pv (i + 1) H3) (hd : ∀ H, Pv xs.length H → Qd H) :
    ∃ W : Nat → Nat → Hp → Prop, (∃ m, W 0 m (upd H1 D (.lst []))) ∧ ∀ i m H, W i m H →
      ((Itl K a).stop i H ∧ Qd H) ∨ ((Itl K a).go i H ∧ ∃ Nx : Hp → Prop, (∀ H', Nx H' → ∃ m', m' < m ∧ W (i + 1) m' H') ∧ ∀ x H', (Itl K a).yld i H x H' → g x (wipe σ vs) H' fun σ2 H2 => wipe σ2 vs = wipe σ vs ∧ tt σ2 H2 fun b H3 =>
        if b = true then te σ2 H3 fun y H4 => ∃ acc, H4 D = some (.lst acc) ∧ acc.length < sizeLine ∧ Nx (upd H4 D (.lst (acc ++ [y]))) else Nx H3) := by
  refine ⟨fun i m H => m = xs.length - i ∧ i ≤ xs.length ∧ Pv i H, ⟨xs.length, by simp, Nat.zero_le _, h0⟩, ?_⟩
  rintro i m H ⟨rfl, hi, p⟩
  have q := hl i H hi p
  by_cases hlt : i < xs.length
  · refine .inr ⟨⟨xs, xs[i], q, by simp [hlt]⟩, Pv (i + 1), fun H' p' => ⟨xs.length - (i + 1), by omega, rfl, hlt, p'⟩, fun x H' y => ?_⟩
    obtain ⟨e, y⟩ := y
    subst e
    exact hs i x _ (y xs q) p
  · have e : i = xs.length := by omega
    subst e
    exact .inl ⟨⟨xs, q, Nat.le_refl _⟩, hd H p⟩
theorem lc_tup {K : PySem.W.Frag} {a : Addr} {xs : List V} {g : TG} {tt : TT} {te : TE} {vs : List Nat} {σ : St} {H1 : Hp} {D : Addr} {Qd : Hp → Prop} (Pv : Nat → Hp → Prop) (h0 : Pv 0 (upd H1 D (.lst []))) (hl : ∀ i H, i ≤ xs.length → Pv i H → SqT K H a xs)
    (hs : ∀ i x H, xs[i]? = some x → Pv i H → g x (wipe σ vs) H fun σ2 H2 => wipe σ2 vs = wipe σ vs ∧ tt σ2 H2 fun b H3 =>
      if b = true then te σ2 H3 fun y H4 => ∃ acc, H4 D = some (.lst acc) ∧ acc.length < sizeLine ∧ Pv (i + 1) (upd H4 D (.lst (acc ++ [y]))) else Pv (i + 1) H3) (hd : ∀ H, Pv xs.length H → Qd H) :
    ∃ W : Nat → Nat → Hp → Prop, (∃ m, W 0 m (upd H1 D (.lst []))) ∧ ∀ i m H, W i m H →
      ((Itt K a).stop i H ∧ Qd H) ∨ ((Itt K a).go i H ∧ ∃ Nx : Hp → Prop, (∀ H', Nx H' → ∃ m', m' < m ∧ W (i + 1) m' H') ∧ ∀ x H', (Itt K a).yld i H x H' → g x (wipe σ vs) H' fun σ2 H2 => wipe σ2 vs = wipe σ vs ∧ tt σ2 H2 fun b H3 =>
        if b = true then te σ2 H3 fun y H4 => ∃ acc, H4 D = some (.lst acc) ∧ acc.length < sizeLine ∧ Nx (upd H4 D (.lst (acc ++ [y]))) else Nx H3) := by
  refine ⟨fun i m H => m = xs.length - i ∧ i ≤ xs.length ∧ Pv i H, ⟨xs.length, by simp, Nat.zero_le _, h0⟩, ?_⟩
  rintro i m H ⟨rfl, hi, p⟩
  have q := hl i H hi p
  by_cases hlt : i < xs.length
  · refine .inr ⟨⟨xs, xs[i], q, by simp [hlt]⟩, Pv (i + 1), fun H' p' => ⟨xs.length - (i + 1), by omega, rfl, hlt, p'⟩, fun x H' y => ?_⟩
    obtain ⟨e, y⟩ := y
    subst e
    exact hs i x _ (y xs q) p
  · have e : i = xs.length := by omega
    subst e
    exact .inl ⟨⟨xs, q, Nat.le_refl _⟩, hd H p⟩
def blkC (N : List Str) (sc scope : Scope) (own : List (Str × Nat)) : Bool :=
  (match scope.kind with | .function => true | _ => false) && (scope.names.all fun y => decide (scope.names.lookup y.1 = some y.2)) && (own.all fun p => decide (N[p.2]? = some p.1)) &&
    (scope.names.all fun y => match y.2 with
      | .free => (match sc.names.lookup y.1 with | some .cell => true | some .free => true | _ => false)
      | .local => decide (y.1 ∈ own.map (·.1)) || decide (y.1 ∉ N)
      | .cell => decide (y.1 ∈ own.map (·.1)) || decide (y.1 ∉ N)
      | _ => true)
theorem blkOk_by {N : List Str} {sc scope : Scope} {own : List (Str × Nat)} (h : blkC N sc scope own = true) : BlkOk N sc scope own := by
  unfold blkC at h
  simp only [Bool.and_eq_true, List.all_eq_true, decide_eq_true_eq] at h
  obtain ⟨⟨⟨h1, h2⟩, h3⟩, h4⟩ := h
  refine ⟨?_, h2, h3, fun y hy e => ?_, fun y hy e => ?_⟩
  · split at h1
    · assumption
    · cases h1
  · have q := h4 y hy
    simp only [e] at q
    split at q <;> first | exact .inl (by assumption) | exact .inr (by assumption) | cases q
  · have q := h4 y hy
    rcases e with e | e <;> (simp only [e, Bool.or_eq_true, decide_eq_true_eq] at q; exact q)
end L2
namespace L2
open PySem PySem.Spec PyProof.Rows
section
variable {prog : Program} {w : World} {A : Around} {R : Result → Shared → Prop} {s : Shared} {elt t0 i0 t1 i1 : Expr} {ifs0 ifs1 : List Expr} {scope : Scope} {pos : Pos} {it acc : Value} {env : Env}
end
section
variable {X : Cx}
end
end L2
namespace L2
open PySem PySem.Spec PyProof.Rows
section
variable {κ : Type} [DecidableEq κ]
def valV (kvs : List (κ × V)) (k : κ) : Option V := (kvs.find? fun kv => decide (kv.1 = k)).map (·.2)
def putK (kvs : List (κ × V)) (k : κ) (v : V) : List (κ × V) :=
  if (kvs.any fun kv => decide (kv.1 = k)) = true then kvs.map (fun kv => if kv.1 = k then (kv.1, v) else kv) else kvs ++ [(k, v)]
def dropK (kvs : List (κ × V)) (k : κ) : List (κ × V) := kvs.filter fun kv => decide (kv.1 ≠ k)
theorem valV_pos {p : κ × V} {r : List (κ × V)} {k : κ} (e : p.1 = k) : valV (p :: r) k = some p.2 := by simp [valV, List.find?_cons, e]
theorem valV_neg {p : κ × V} {r : List (κ × V)} {k : κ} (e : ¬ p.1 = k) : valV (p :: r) k = valV r k := by simp [valV, List.find?_cons, e]
theorem valV_any (k : κ) : ∀ kvs : List (κ × V), (kvs.any fun kv => decide (kv.1 = k)) = (valV kvs k).isSome
  | [] => rfl
  | p :: r => by
    rw [List.any_cons]
    by_cases e : p.1 = k
    · simp only [valV_pos e, decide_eq_true e, Bool.true_or, Option.isSome_some]
    · rw [valV_neg e, decide_eq_false e, Bool.false_or]; exact valV_any k r
theorem length_putK (kvs : List (κ × V)) (k : κ) (v : V) : (putK kvs k v).length ≤ kvs.length + 1 := by
  unfold putK
  split
  · rw [List.length_map]; omega
  · rw [List.length_append, List.length_cons, List.length_nil]; omega
theorem RelO.isSome_eq {o : Option V} {u : Option Value} (r : RelO o u) : o.isSome = u.isSome := by
  cases o with
  | none => cases u with
    | none => rfl
    | some _ => exact (show False from r).elim
  | some _ => cases u with
    | none => exact (show False from r).elim
    | some _ => rfl
theorem RelO.getD {o : Option V} {u : Option Value} {d : V} {d' : Value} (r : RelO o u) (rd : RelV d d') : RelV (o.getD d) (u.getD d') := by
  cases o with
  | none => cases u with
    | none => exact rd
    | some _ => exact (show False from r).elim
  | some _ => cases u with
    | none => exact (show False from r).elim
    | some _ => exact r
theorem KV.val {kvs : List (κ × V)} {vs : List (κ × Value)} (r : KV kvs vs) (k : κ) : RelO (valV kvs k) (valueAt vs k) := by
  unfold KV at r
  induction r with
  | nil => exact True.intro
  | @cons p q ps qs h t ih =>
    obtain ⟨h1, h2⟩ := h
    by_cases e : p.1 = k
    · have e' : q.1 = k := h1.symm.trans e
      have b : valueAt (q :: qs) k = some q.2 := by simp [valueAt, List.find?_cons, e']
      rw [valV_pos e, b]; exact h2
    · have e' : ¬ q.1 = k := fun z => e (h1.trans z)
      have b : valueAt (q :: qs) k = valueAt qs k := by simp [valueAt, List.find?_cons, e']
      rw [valV_neg e, b]; exact ih
theorem KV.any {kvs : List (κ × V)} {vs : List (κ × Value)} (r : KV kvs vs) (k : κ) : (kvs.any fun kv => decide (kv.1 = k)) = vs.any fun kv => decide (kv.1 = k) := by
  unfold KV at r
  induction r with
  | nil => rfl
  | cons h t ih => rw [List.any_cons, List.any_cons, ih, h.1]
theorem KV.repl {kvs : List (κ × V)} {vs : List (κ × Value)} (r : KV kvs vs) (k : κ) {y : V} {u : Value} (ry : RelV y u) :
    KV (kvs.map fun kv => if kv.1 = k then (kv.1, y) else kv) (vs.map fun kv => if kv.1 = k then (kv.1, u) else kv) := by
  unfold KV at r ⊢
  induction r with
  | nil => exact .nil
  | @cons p q ps qs h t ih =>
    rw [List.map_cons, List.map_cons]
    refine .cons ?_ ih
    obtain ⟨h1, h2⟩ := h
    by_cases e : p.1 = k
    · rw [if_pos e, if_pos (h1.symm.trans e)]; exact ⟨h1, ry⟩
    · rw [if_neg e, if_neg (fun z => e (h1.trans z))]; exact ⟨h1, h2⟩
theorem KV.put {kvs : List (κ × V)} {vs : List (κ × Value)} (r : KV kvs vs) (k : κ) {y : V} {u : Value} (ry : RelV y u) : KV (putK kvs k y) (stored vs k u) := by
  unfold putK stored
  rw [r.any k]
  by_cases e : (vs.any fun kv => decide (kv.1 = k)) = true
  · rw [if_pos e, if_pos e]; exact r.repl k ry
  · rw [if_neg e, if_neg e]; exact Paired.snoc r ⟨rfl, ry⟩
theorem KV.drop {kvs : List (κ × V)} {vs : List (κ × Value)} (r : KV kvs vs) (k : κ) : KV (dropK kvs k) (without vs k) := by
  unfold KV at r ⊢
  unfold dropK without
  induction r with
  | nil => exact .nil
  | @cons p q ps qs h t ih =>
    obtain ⟨h1, h2⟩ := h
    rw [List.filter_cons, List.filter_cons]
    by_cases e : p.1 = k
    · have a : ¬ decide (p.1 ≠ k) = true := by simp [e]
      have b : ¬ decide (q.1 ≠ k) = true := by simp [h1.symm.trans e]
      rw [if_neg a, if_neg b]; exact ih
    · have e' : ¬ q.1 = k := fun z => e (h1.trans z)
      have a : decide (p.1 ≠ k) = true := by simp [e]
      have b : decide (q.1 ≠ k) = true := by simp [e']
      rw [if_pos a, if_pos b]; exact .cons ⟨h1, h2⟩ ih
theorem KV.keys {kvs : List (κ × V)} {vs : List (κ × Value)} (r : KV kvs vs) : kvs.map (·.1) = vs.map (·.1) := by
  unfold KV at r
  induction r with
  | nil => rfl
  | cons h t ih => rw [List.map_cons, List.map_cons, ih, h.1]
theorem KV.length {kvs : List (κ × V)} {vs : List (κ × Value)} (r : KV kvs vs) : kvs.length = vs.length := Paired.length r
end
theorem kV_is {P : Program} {w : World} {k : Key} {u : Value} (r : RelV (kV k) u) : (mixKind P w).is k u = true := by
  cases k with
  | inl i => obtain ⟨t, e⟩ := (show ∃ t, u = Value.int i t from r); subst e; exact mixKind_int P w i t
  | inr x => obtain ⟨t, e⟩ := (show ∃ t, u = Value.str x t from r); subst e; exact mixKind_str P w x t
theorem items_are {P : Program} {w : World} : ∀ {ks : List Key} {us : List Value}, Vals (ks.map kV) us → ItemsAre (mixKind P w) ks us
  | [], _, r => by rw [List.map_nil] at r; cases r; exact .nil
  | k :: ks, _, r => by
    rw [List.map_cons] at r
    cases r with
    | cons h t => exact .cons (kV_is h) (items_are t)
abbrev KT (H : Hp) : List (List Key × V) → List (List Key × Addr × Value) → Prop := Paired fun p q => p.1 = q.1 ∧ H q.2.1 = some (.tup (p.1.map kV)) ∧ RelV p.2 q.2.2
theorem KT.val {H : Hp} {kvs : List (List Key × V)} {xs : List (List Key × Addr × Value)} (r : KT H kvs xs) (k : List Key) : RelO (valV kvs k) ((atKey xs k).map (·.2)) := by
  induction r with
  | nil => exact True.intro
  | @cons p q ps qs h t ih =>
    obtain ⟨h1, _, h2⟩ := h
    by_cases e : p.1 = k
    · have e' : q.1 = k := h1.symm.trans e
      have b : atKey (q :: qs) k = some q.2 := by simp [atKey, List.find?_cons, e']
      rw [valV_pos e, b]; exact h2
    · have e' : ¬ q.1 = k := fun z => e (h1.trans z)
      have b : atKey (q :: qs) k = atKey qs k := by simp [atKey, List.find?_cons, e']
      rw [valV_neg e, b]; exact ih
theorem KT.repl {H : Hp} {kvs : List (List Key × V)} {xs : List (List Key × Addr × Value)} (r : KT H kvs xs) (k : List Key) {y : V} {u : Value} (ry : RelV y u) :
    KT H (kvs.map fun kv => if kv.1 = k then (kv.1, y) else kv) (xs.map (putAt k u)) := by
  induction r with
  | nil => exact .nil
  | @cons p q ps qs h t ih =>
    rw [List.map_cons, List.map_cons]
    refine .cons ?_ ih
    obtain ⟨h1, h2, h3⟩ := h
    unfold putAt
    by_cases e : p.1 = k
    · rw [if_pos e, if_pos (h1.symm.trans e)]; exact ⟨h1, h2, ry⟩
    · rw [if_neg e, if_neg (fun z => e (h1.trans z))]; exact ⟨h1, h2, h3⟩
theorem KT.put {H : Hp} {kvs : List (List Key × V)} {xs : List (List Key × Addr × Value)} (r : KT H kvs xs) (k : List Key) {b : Addr} {y : V} {u : Value} (hb : H b = some (.tup (k.map kV))) (ry : RelV y u) :
    KT H (putK kvs k y) (storedH xs k b u) := by
  have e : (kvs.any fun kv => decide (kv.1 = k)) = (atKey xs k).isSome := by
    rw [valV_any, (r.val k).isSome_eq, Option.isSome_map]
  unfold putK storedH
  rw [e]
  by_cases q : (atKey xs k).isSome = true
  · rw [if_pos q, if_pos q]; exact r.repl k ry
  · rw [if_neg q, if_neg q]; exact Paired.snoc r ⟨rfl, hb, ry⟩
theorem KT.keeps {H H' : Hp} {kvs : List (List Key × V)} {xs : List (List Key × Addr × Value)} (r : KT H kvs xs) (ht : ∀ b ys, H b = some (.tup ys) → H' b = some (.tup ys)) : KT H' kvs xs :=
  Paired.mapP r fun _ _ z => ⟨z.1, ht _ _ z.2.1, z.2.2⟩
section
variable {P : Program} {w : World} {H : Hp} {h : Heap} {a : Addr}
theorem rd_of {u : HO} (ok : HOk P w H h) (e : Rd H a u) : ObjOk P w H h a u := e.ok ok
theorem dk_rd {kvs : List (Key × V)} (ok : HOk P w H h) (e : Rd H a (.dK kvs)) : kvs.length ≤ sizeLine ∧ (a == sysModules) = false ∧ ∃ vs, KV kvs vs ∧ h.DictOf (mixKind P w) a vs :=
  show ObjOk P w H h a (.dK kvs) from rd_of ok e
theorem dk_of {kvs : List (Key × V)} (ok : HOk P w H h) (e : H a = some (.dK kvs)) : kvs.length ≤ sizeLine ∧ (a == sysModules) = false ∧ ∃ vs, KV kvs vs ∧ h.DictOf (mixKind P w) a vs := dk_rd ok (.inl e)
theorem key_of {ks : List Key} (ok : HOk P w H h) (e : H a = some (.tup (ks.map kV))) : (tupleKind (mixKind P w)).is h ks a := by
  obtain ⟨_, its, r, o, h1, h2, n, h3⟩ := (show ObjOk P w H h a (.tup (ks.map kV)) from ok a _ e)
  exact ⟨o, its.toArray, n, h1, h2, h3, by simpa using items_are r⟩
theorem dt_rd {kvs : List (List Key × V)} (ok : HOk P w H h) (e : Rd H a (.dT kvs)) : kvs.length ≤ sizeLine ∧ (a == sysModules) = false ∧
    ∃ xs, KT H kvs xs ∧ h.DictOfH (tupleKind (mixKind P w)) a xs := by
  obtain ⟨z, y, xs, r, o, es, ep, h1, h2, h3, h4, h5⟩ := (show ObjOk P w H h a (.dT kvs) from rd_of ok e)
  refine ⟨z, y, xs, r, o, es, ep, h1, h2, h3, h4, fun x hx => ?_, h5⟩
  have all : ∀ {l : List (List Key × V)} {m : List (List Key × Addr × Value)}, KT H l m → ∀ x ∈ m, (tupleKind (mixKind P w)).is h x.1 x.2.1 := by
    intro l m q
    induction q with
    | nil => intro x hx; exact nomatch hx
    | @cons p q ps qs hq t ih =>
      intro x hx
      rcases List.mem_cons.mp hx with e | hx
      · subst e
        exact key_of ok (by rw [← hq.1]; exact hq.2.1)
      · exact ih x hx
  exact all r x hx
theorem dt_of {kvs : List (List Key × V)} (ok : HOk P w H h) (e : H a = some (.dT kvs)) : kvs.length ≤ sizeLine ∧ (a == sysModules) = false ∧
    ∃ xs, KT H kvs xs ∧ h.DictOfH (tupleKind (mixKind P w)) a xs := dt_rd ok (.inl e)
end
def DGet (H : Hp) (a : Addr) (y : V) (r : Option V) : Prop :=
  (∃ kvs k, Rd H a (.dK kvs) ∧ y = kV k ∧ r = valV kvs k) ∨ ∃ kvs k b, Rd H a (.dT kvs) ∧ y = .ref b ∧ H b = some (.tup (k.map kV)) ∧ r = valV kvs k
def DPut (H : Hp) (a : Addr) (y v : V) (H' : Hp) : Prop :=
  (∃ kvs k, H a = some (.dK kvs) ∧ y = kV k ∧ kvs.length < sizeLine ∧ H' = upd H a (.dK (putK kvs k v))) ∨
  ∃ kvs k b, H a = some (.dT kvs) ∧ y = .ref b ∧ H b = some (.tup (k.map kV)) ∧ kvs.length < sizeLine ∧ H' = upd H a (.dT (putK kvs k v))
theorem DGet.k {H : Hp} {a : Addr} {kvs : List (Key × V)} {k : Key} (e : H a = some (.dK kvs)) : DGet H a (kV k) (valV kvs k) := .inl ⟨kvs, k, .inl e, rfl, rfl⟩
theorem DGet.t {H : Hp} {a b : Addr} {kvs : List (List Key × V)} {k : List Key} (e : H a = some (.dT kvs)) (eb : H b = some (.tup (k.map kV))) : DGet H a (.ref b) (valV kvs k) := .inr ⟨kvs, k, b, .inl e, rfl, eb, rfl⟩
theorem DPut.k {H : Hp} {a : Addr} {kvs : List (Key × V)} {k : Key} {v : V} (e : H a = some (.dK kvs)) (hl : kvs.length < sizeLine) : DPut H a (kV k) v (upd H a (.dK (putK kvs k v))) := .inl ⟨kvs, k, e, rfl, hl, rfl⟩
theorem DPut.t {H : Hp} {a b : Addr} {kvs : List (List Key × V)} {k : List Key} {v : V} (e : H a = some (.dT kvs)) (eb : H b = some (.tup (k.map kV))) (hl : kvs.length < sizeLine) :
    DPut H a (.ref b) v (upd H a (.dT (putK kvs k v))) := .inr ⟨kvs, k, b, e, rfl, eb, hl, rfl⟩
section
variable {X : Cx} {pins : List (Addr × Obj)} {σ : St} {H : Hp} {s : Shared} {a : Addr} {y v : V} {u r : Value} {o : Option V} {A : Around} {E : Value → Shared → Prop}
theorem Inv.big (I : Inv X pins σ H s) : sysModules < s.heap.objs.size := by
  have h : mainGlobals < s.heap.objs.size := (I.mod.glob.keeps I.bk).lt
  exact Nat.lt_trans (by decide) h
theorem d_getItem {Q : Value → Shared → Prop} (hu : A.units + 1 < cLine) (I : Inv X pins σ H s) (g : DGet H a y (some v)) (ry : RelV y u) (h : ∀ w' s', Inv X pins σ H s' → RelV v w' → Q w' s') :
    wpAny (model X.prog X.w) A (getItem (.ref a) u) Q E s := by
  rcases g with ⟨kvs, k, e, ey, l⟩ | ⟨kvs, k, b, e, ey, eb, l⟩
  · subst ey
    obtain ⟨z, hd, vs, rel, dd⟩ := dk_rd I.hok e
    obtain ⟨w', hw, rw'⟩ := RelO.some_of (v := v) (o := valueAt vs k) (by rw [l]; exact rel.val k)
    exact wpAny_getItem_of (kV_is ry) dd.mapOf hw (h w' _ (I.tok _) rw')
  · subst ey
    cases (show u = Value.ref b from ry)
    obtain ⟨z, hd, xs, rel, dd⟩ := dt_rd I.hok e
    obtain ⟨w', hw, rw'⟩ := RelO.some_of (v := v) (o := (atKey xs k).map (·.2)) (by rw [l]; exact rel.val k)
    obtain ⟨p, hp, hp2⟩ := Option.map_eq_some_iff.mp hw
    refine wpAny_getItem_heap (tupleKind_room_in1 hu) (key_of I.hok eb) dd hp ?_
    rw [hp2]
    exact h w' _ (I.tok _) rw'
theorem d_write {h' : Heap} {t' : Nat} {ob : HO} (I : Inv X pins σ H s) (mu : Mut (H a)) (hs : Heap.SameBut a s.heap h') (he : ∃ q, h'.get? a = some q) (new : ObjOk X.prog X.w (upd H a ob) h' a ob) :
    Inv X pins σ (upd H a ob) { s with heap := h', toks := t' } :=
  I.write (x := a) (e := a) mu (.inl rfl) (fun b q hb z => (hs.2 b hb).trans z) he new
theorem dk_new {P : Program} {w : World} {H' : Hp} {h' : Heap} {kvs : List (Key × V)} {vs : List (Key × Value)} (z : kvs.length ≤ sizeLine) (hd : (a == sysModules) = false) (rel : KV kvs vs) (dd : h'.DictOf (mixKind P w) a vs) :
    ObjOk P w H' h' a (.dK kvs) := ⟨z, hd, vs, rel, dd⟩
theorem d_setItem {H' : Hp} {Q : Unit → Shared → Prop} (hu : A.units + 1 < cLine) (I : Inv X pins σ H s) (g : DPut H a y v H') (ry : RelV y u) (rv : RelV v r) (h : ∀ s', Inv X pins σ H' s' → Q () s') :
    wpAny (model X.prog X.w) A (setItem (.ref a) u r) Q E s := by
  rcases g with ⟨kvs, k, e, ey, l, eH⟩ | ⟨kvs, k, b, e, ey, eb, l, eH⟩
  · subst ey eH
    obtain ⟨z, hd, vs, rel, dd⟩ := dk_of I.hok e
    have hz : vs.length ≤ sizeLine := by rw [← rel.length]; exact z
    have hl : (putK kvs k v).length ≤ sizeLine := by have := length_putK kvs k v; omega
    refine wpAny_setItem_pairs (hsz := hz) (kV_is ry) dd fun h' dd' hs => h _ ?_
    have he : ∃ q, h'.get? a = some q := let ⟨q, _, _, hq, _⟩ := dd'; ⟨q, hq⟩
    exact d_write I (by rw [e]; exact True.intro) hs he (dk_new hl hd (rel.put k rv) dd')
  · subst ey eH
    cases (show u = Value.ref b from ry)
    obtain ⟨z, hd, xs, rel, dd⟩ := dt_of I.hok e
    have hz : xs.length ≤ sizeLine := by rw [← Paired.length rel]; exact z
    have hl : (putK kvs k v).length ≤ sizeLine := by have := length_putK kvs k v; omega
    refine wpAny_setItem_heap (hsz := hz) (tupleKind_room_in1 hu) (key_of I.hok eb) dd fun h' dd' hs => h _ ?_
    obtain ⟨q, es, ep, hq, h2, h3, h4, _, h5⟩ := dd'
    refine d_write I (by rw [e]; exact True.intro) hs ⟨q, hq⟩ ⟨hl, hd, _, (rel.put k eb rv).keeps fun c ys ec => ?_, q, es, ep, hq, h2, h3, h4, h5⟩
    rw [upd_ne (ne_of ec e (fun z => nomatch z))]
    exact ec
end
section
variable {X : Cx} {pins : List (Addr × Obj)} {σ : St} {H : Hp} {s : Shared} {a : Addr} {kvs : List (Key × V)} {k : Key} {u : Value} {A : Around} {E : Value → Shared → Prop}
end
def sDAug (td ty tv : TE) (rd : V → V → Hp → VK → Prop) : TS := fun D σ H => td σ H fun x H1 => ty σ H1 fun y H2 => ∃ a v, x = .ref a ∧ DGet H2 a y (some v) ∧
  tv σ H2 fun y2 H3 => rd v y2 H3 fun z H4 => ∃ H5, DPut H4 a y z H5 ∧ D.nx σ H5
section
variable {X : Cx} {o i e value : Expr} {pos pos' tpos : Pos} {td ty tv : TE}
theorem ps_daug {op : Operator} {rd : V → V → Hp → VK → Prop} (hu : X.A.units + 1 < cLine) (ho : PE X o td) (hi : PE X i ty) (hv : PE X value tv) (hop : InOp X op rd)
    (ha : ∀ ov iv new, augStore i ov iv new = (do holding [new, ov, iv] (setItem ov iv new); release [new, ov, iv] []; pure .next)) : PS X (.AugAssign (.Subscript o i tpos) op value pos) (sDAug td ty tv rd) := by
  intro pins s σ H D I h
  refine wpAny_AugAssign_SubscriptAny (thn (ho pins s σ H _ I h) fun u s1 ⟨x, H1, I1, rx, q1⟩ => thn (hi pins s1 σ H1 _ I1 q1) fun iv s2 ⟨y, H2, I2, ry, a, v, ex, g, q2⟩ => ?_) ha
  subst ex
  obtain rfl : u = Value.ref a := rx
  refine d_getItem hu I2 g ry fun w' s3 I3 rw' => thn (hv pins s3 σ H2 _ I3 q2) fun w2 s4 ⟨y2, H3, I4, ry2, q3⟩ => thn (hop pins s4 σ H3 v y2 w' w2 _ I4 rw' ry2 q3) fun w3 s5 ⟨z, H4, I5, rz, H5, g5, q4⟩ => ?_
  exact d_setItem hu I5 g5 ry rz fun s6 I6 => ⟨σ, H5, I6, q4⟩
end
section
variable {X : Cx} {pos : Pos}
end
section
variable {X : Cx} {pins : List (Addr × Obj)} {σ : St} {H : Hp} {s : Shared} {a : Addr} {y d : V} {u r : Value} {o : Option V} {A : Around} {E : Value → Shared → Prop}
end
section
variable {X : Cx} {o e f : Expr} {apos cpos : Pos} {td ty tx : TE}
end
section
variable {X : Cx} {pins : List (Addr × Obj)} {σ : St} {H : Hp} {s : Shared} {a : Addr} {kvs : List (Key × V)} {A : Around} {E : Value → Shared → Prop}
end
section
variable {X : Cx} {pins : List (Addr × Obj)} {σ : St} {H : Hp} {s : Shared} {a : Addr} {y : V} {u : Value} {A : Around} {E : Value → Shared → Prop}
end
end L2
namespace L2
open PySem PySem.Spec PyProof.Rows
section
variable {prog : Program} {w : World} {A : Around} {E : Value → Shared → Prop}
end
section
variable {X : Cx}
end
end L2
namespace L2
open PySem PySem.Spec PyProof.Rows
theorem boot_reversed5 : bootBuiltins "reversed" = some (.type "reversed") := by decide +kernel
section
variable {X : Cx} {pins : List (Addr × Obj)} {σ : St} {H : Hp} {s : Shared} {h' : Heap}
theorem Inv.turnedL {t' : Nat} {ch : List Addr} (I : Inv X pins σ H s) (k : ∀ b o, b ∉ ch → s.heap.get? b = some o → h'.get? b = some o) (hf : ∀ b ∈ ch, FpOk X pins H b) : Inv X pins σ H { s with heap := h', toks := t' } := by
  have nit : ∀ b u, H b = some u → b ∉ ch := fun b u e z => by
    have q := (hf b z).1
    rw [q] at e; cases e
  refine I.step (g' := s.gens) (d' := s.drawn) (ch := ch) (fun b hb => ⟨(hf b hb).2.2.2.1, (hf b hb).2.1, (hf b hb).2.2.2.2.1, (hf b hb).2.2.2.2.2⟩) (fun b o _ _ hc e _ => k b o hc e) (fun b o _ _ hc e _ => ⟨o.slots, k b o hc e⟩)
    (fun _ _ _ _ n => n) (fun b o hc e => ⟨o, k b o hc e⟩) (fun _ _ e => e) (fun _ _ _ e => e) (fun b ps e => ⟨#[], by rw [e]; simp⟩) (fun m hm => ?_) (fun b u e => ?_) I.bare
  · obtain ⟨o, es, ep, ho, r⟩ := hm
    exact ⟨o, es, ep, k _ o (fun z => (hf _ z).2.1 rfl) ho, r⟩
  · refine (I.hok b u e).stay (fun c v hc q => k c v ?_ q) (fun _ q => q) fun _ _ q => q
    rcases hc with z | z
    · rw [z]; exact nit b u e
    · exact nit c _ z
theorem Inv.turnedNew {t' : Nat} {ch : List Addr} {T : Addr} {ob : HO} (I : Inv X pins σ H s) (k : ∀ b o, b ∉ ch → s.heap.get? b = some o → h'.get? b = some o) (hf : ∀ b ∈ ch, FpOk X pins H b) (hT : s.heap.objs.size ≤ T)
    (new : ObjOk X.prog X.w (upd H T ob) h' T ob) : Inv X pins σ (upd H T ob) { s with heap := h', toks := t' } := by
  have hn : H T = none := I.hok.fresh hT
  have nit : ∀ b u, H b = some u → b ∉ ch := fun b u e z => by
    have q := (hf b z).1
    rw [q] at e; cases e
  refine I.step (g' := s.gens) (d' := s.drawn) (ch := ch) (fun b hb => ⟨(hf b hb).2.2.2.1, (hf b hb).2.1, (hf b hb).2.2.2.2.1, (hf b hb).2.2.2.2.2⟩) (fun b o _ _ hc e _ => k b o hc e) (fun b o _ _ hc e _ => ⟨o.slots, k b o hc e⟩)
    (fun b o _ e n => ?_) (fun b o hc e => ⟨o, k b o hc e⟩) (fun b xs e => ?_) (fun b o u e => ?_) (fun b ps e => ⟨#[], ?_⟩) (fun m hm => ?_) (fun b u e => ?_) I.bare
  · rw [upd_ne (Nat.ne_of_lt (Nat.lt_of_lt_of_le (Heap.lt_size e) hT))]; exact n
  · rw [upd_ne (ne_of_none e hn)]; exact e
  · rw [upd_ne (ne_of_none e hn)]; exact e
  · rw [upd_ne (ne_of_none e hn), e]; simp
  · obtain ⟨o, es, ep, ho, r⟩ := hm
    exact ⟨o, es, ep, k _ o (fun z => (hf _ z).2.1 rfl) ho, r⟩
  · by_cases hb : b = T
    · subst hb
      rw [upd_same] at e
      cases e
      exact new
    · rw [upd_ne hb] at e
      refine (I.hok b u e).stay (fun c v hc q => k c v ?_ q) (fun c q => by rw [upd_ne (ne_of_none q hn)]; exact q) fun c xs q => by rw [upd_ne (ne_of_none q hn)]; exact q
      rcases hc with z | z
      · rw [z]; exact nit b u e
      · exact nit c _ z
end
section
variable {X : Cx}
theorem pi_one {tg : Expr} {pins : List (Addr × Obj)} {σ : St} {H : Hp} {s : Shared} {R : It → Hp → Prop} {J : It} {tn : Nat → Heap → Prop} {tk : Nat} (I : Inv X pins σ H s) (o : Obj)
    (T : Turn X.prog X.w X.K tg J [s.heap.objs.size] s.heap.objs.size tn) (st : tn 0 (s.heap.push o)) (q : R J H) : PIE X pins σ tg R (.ref s.heap.objs.size) { s with heap := s.heap.push o, toks := tk } := by
  refine ⟨s.heap.objs.size, [s.heap.objs.size], tn, J, H, rfl, I.kept fun b ob e => Heap.get?_push_of_some _ e, T, st, fun b hb => ?_, q⟩
  have e : b = s.heap.objs.size := by simpa using hb
  subst e
  exact I.fpOk (Nat.le_refl _) (I.hok.fresh (Nat.le_refl _))
end
def Itc (lo c : Int) (n : Nat) : It := ⟨fun i _ => i < n, fun i H x H' => H' = H ∧ x = .int (lo + (i : Nat) * c), fun i _ => n ≤ i⟩
theorem turn_rangeC {P : Program} {w : World} {K : PySem.W.Frag} {tg : Expr} (it : Addr) (lo c : Int) (n : Nat) : Turn P w K tg (Itc lo c n) [it] it (fun i h => IsRangeIter h it (lo + (i : Nat) * c) ((n : Int) - (i : Nat)) c) where
  mem := by simp
  obj := fun i h st b hb => by
    have e : b = it := by simpa using hb
    subst e
    exact ⟨_, st, fun v z => nomatch z⟩
  keep := fun i h h' st k => k it (by simp) _ st
  item := by
    intro X hP hw hK hc i pins s σ H E I hf st hg
    subst hP hw hK
    obtain ⟨f0, f1, f2, f3, f4, f5⟩ := hf it (by simp)
    have W := Walks.range (prog := X.prog) (w := X.w) (I.ok.hd hc) it lo c n
    refine W.item i s _ _ hg st fun v h' tk hv st' kk => ?_
    obtain ⟨t, rfl⟩ := hv
    have I1 : Inv X pins σ H { s with heap := h', toks := tk } := I.turned (fun b o hb e => kk b o (by simpa using hb) e) f0 f1 f3 f4 f5
    exact ⟨_, rfl, go_of (s := { s with heap := h', toks := tk }) (n := "range_iterator") st' rfl rfl (by decide) ⟨.int (lo + (i : Nat) * c), H, I1, ⟨t, rfl⟩, ⟨rfl, rfl⟩, st', fun b hb => (hf b hb).1⟩⟩
  done := by
    intro X hP hw hK hc i pins s σ H E I hf st hg
    subst hP hw hK
    obtain ⟨f0, f1, f2, f3, f4, f5⟩ := hf it (by simp)
    exact wpAny_pyNext_range_end (I.ok.hd hc) st (by have : n ≤ i := hg; omega) fun h' eb => ⟨rfl, I.turned (t' := s.toks) (fun b o hb e => eb b o hb e) f0 f1 f3 f4 f5⟩
  self := fun A i s Q E st h => wpAny_pyIter_rangeiter st h
def RgC (i j c : Int) (n : Nat) : Prop := c ≠ 0 ∧ c.natAbs < 1073741824 ∧ Builtin.Range.small i j c = true ∧ Builtin.Range.rangeSize i j c = n
theorem RgC.neg {i j : Int} (ha : -(2 ^ 62) ≤ i) (ha' : i < 2 ^ 62) (hb : -(2 ^ 62) ≤ j) (hb' : j < 2 ^ 62) : RgC i j (-1) (i - j).toNat :=
  ⟨by decide, by decide, PySem.W.small_down ha ha' hb hb', PySem.W.rangeSize_downNat i j⟩
def iRng3 (ta : TA) : TI := fun σ H R => ta σ H fun vs H1 => ∃ (i j c : Int) (n : Nat), vs = [.int i, .int j, .int c] ∧ RgC i j c n ∧ R (Itc i c n) H1
section
variable {X : Cx} {tg : Expr}
theorem pi_range3 {a b c : Expr} {ta : TA} {p pos : Pos} (hg : Gl X "range") (hm : X.mg "range" = none) (ha : PA X [a, b, c] ta)
    (hs : starEach [a, b, c] X.env = (false, eval a X.env) :: starEach [b, c] X.env := by rfl) (hpl : (backTo pos (starEach [b, c] X.env)).any (·.1) = false := by rfl) :
    PI X tg (.Call (.Name "range" p) [a, b, c] [] pos) (iRng3 ta) := by
  intro pins s σ H R I h
  refine Call_ (ld_blt I hg hm boot_range (PyProof.Rows.callWith_type1 (thn (ha pos pins s σ H _ I h) fun us s1 ⟨vs, H1, I1, r1, q1⟩ => ?_) hs hpl))
  obtain ⟨i, j, k, n, e, ⟨c0, c1, c2, c3⟩, q⟩ := q1
  subst e
  cases r1 with
  | cons r rr =>
    cases rr with
    | cons r' rr =>
      cases rr with
      | cons r'' rr =>
        cases rr
        obtain ⟨t, rfl⟩ := r
        obtain ⟨t', rfl⟩ := r'
        obtain ⟨t'', rfl⟩ := r''
        refine call_range_3 c0 ?_ (.inl (PyProof.noPylong_small c1))
        refine wpAny_pyIter_range (IsRange.new ..) c2 ?_
        have I2 : Inv X pins σ H1 { s1 with heap := s1.heap.push { cls := .type "range", data := .fields #[.int i t, .int j t', .int k t''] } } := I1.kept (t' := s1.toks) fun b o e => Heap.get?_push_of_some _ e
        refine pi_one (tk := s1.toks) I2 _ (turn_rangeC _ i k n) ?_ q
        have e1 : i + ((0 : Nat) : Int) * k = i := by simp
        have e2 : (n : Int) - ((0 : Nat) : Int) = Builtin.Range.rangeSize i j k := by rw [c3]; simp
        show IsRangeIter _ _ (i + ((0 : Nat) : Int) * k) ((n : Int) - ((0 : Nat) : Int)) k
        rw [e1, e2]
        exact Heap.get?_push_size _ rfl
end
theorem for_rangeC {lo c : Int} {n : Nat} {g : TG} {tb : TS} {D : Ends} {σ : St} {H : Hp} (Pv : Nat → St → Hp → Prop) (h0 : Pv 0 σ H)
    (hs : ∀ i σ H, i < n → Pv i σ H → g (.int (lo + (i : Nat) * c)) σ H fun σ2 H2 => tb { D with nx := Pv (i + 1), ct := Pv (i + 1), bk := D.nx } σ2 H2) (hd : ∀ σ H, Pv n σ H → D.nx σ H) :
    ∃ W : Nat → Nat → St → Hp → Prop, (∃ m, W 0 m σ H) ∧ ∀ i m σ H, W i m σ H →
      ((Itc lo c n).stop i H ∧ D.nx σ H) ∨ ((Itc lo c n).go i H ∧ ∃ N : St → Hp → Prop, (∀ σ' H', N σ' H' → ∃ m', m' < m ∧ W (i + 1) m' σ' H') ∧ ∀ x H', (Itc lo c n).yld i H x H' → g x σ H' fun σ2 H2 => tb { D with nx := N, ct := N, bk := D.nx } σ2 H2) := by
  refine ⟨fun i m σ H => m = n - i ∧ i ≤ n ∧ Pv i σ H, ⟨n, by simp, Nat.zero_le _, h0⟩, ?_⟩
  rintro i m σ H ⟨rfl, hi, p⟩
  by_cases hlt : i < n
  · refine .inr ⟨hlt, Pv (i + 1), fun σ' H' p' => ⟨n - (i + 1), by omega, rfl, hlt, p'⟩, fun x H' y => ?_⟩
    obtain ⟨e, y⟩ := y
    subst e y
    exact hs i σ _ hlt p
  · have e : i = n := by omega
    subst e
    exact .inl ⟨Nat.le_refl _, hd σ H p⟩
def Itv (K : PySem.W.Frag) (a : Addr) (n : Nat) : It :=
  ⟨fun i H => i < n ∧ ∃ (xs : List V) (x : V), SqL K H a xs ∧ xs[n - 1 - i]? = some x, fun i H x H' => H' = H ∧ ∀ xs, SqL K H a xs → xs[n - 1 - i]? = some x, fun i _ => n ≤ i⟩
theorem turn_rev {P : Program} {w : World} {K : PySem.W.Frag} {tg : Expr} (a it : Addr) (n : Nat) : Turn P w K tg (Itv K a n) [it] it (fun i h => i ≤ n ∧ h.IsRevIter it a ((n : Int) - 1 - (i : Nat))) where
  mem := by simp
  obj := fun i h st b hb => by
    have e : b = it := by simpa using hb
    subst e
    obtain ⟨_, o, e, c, d⟩ := st
    exact ⟨o, e, fun v z => by rw [d] at z; cases z⟩
  keep := fun i h h' st k => ⟨st.1, st.2.at fun o e => k it (by simp) o e⟩
  item := by
    intro X hP hw hK hc i pins s σ H E I hf st hg
    subst hP hw hK
    obtain ⟨hin, xs, x, hq, hx⟩ := hg
    obtain ⟨its, rv, p, hz⟩ := I.list hq
    obtain ⟨u, hu, ru⟩ := rv.get hx
    obtain ⟨f0, f1, f2, f3, f4, f5⟩ := hf it (by simp)
    obtain ⟨_, hit⟩ := st
    have e1 : (n : Int) - 1 - ((i : Nat) : Int) = ((n - 1 - i : Nat) : Int) := by omega
    rw [e1] at hit
    refine wpAny_pyNext_rev_item hit p.isList (x := u) (by simpa using hu) fun h' st' sb => ?_
    have e2 : ((n - 1 - i : Nat) : Int) - 1 = (n : Int) - 1 - ((i + 1 : Nat) : Int) := by omega
    rw [e2] at st'
    have I1 : Inv X pins σ H { s with heap := h' } := I.turned (t' := s.toks) (fun b o hb e => (sb.2 b hb).trans e) f0 f1 f3 f4 f5
    obtain ⟨o, e, c, d⟩ := id st'
    exact ⟨u, rfl, go_of (s := { s with heap := h' }) e c d (by decide) ⟨x, H, I1, ru, ⟨rfl, fun ys hy => by rw [I.list_inj hy hq]; exact hx⟩, ⟨hin, st'⟩, fun b hb => (hf b hb).1⟩⟩
  done := by
    intro X hP hw hK hc i pins s σ H E I hf st hg
    subst hP hw hK
    obtain ⟨f0, f1, f2, f3, f4, f5⟩ := hf it (by simp)
    obtain ⟨hin, hit⟩ := st
    have hge : n ≤ i := hg
    have e1 : (n : Int) - 1 - ((i : Nat) : Int) = -1 := by omega
    rw [e1] at hit
    exact wpAny_pyNext_rev_end (I.ok.hd hc) hit fun h' eb => ⟨rfl, I.turned (t' := s.toks) (fun b o hb e => eb b o hb e) f0 f1 f3 f4 f5⟩
  self := fun A i s Q E st h => wpAny_pyIter_revIter st.2 h
def iRev (K : PySem.W.Frag) (ta : TA) : TI := fun σ H R => ta σ H fun vs H1 => ∃ (a : Addr) (xs : List V), vs = [.ref a] ∧ SqL K H1 a xs ∧ R (Itv K a xs.length) H1
section
variable {X : Cx} {tg : Expr}
theorem pi_reversed {e : Expr} {ta : TA} {p pos : Pos} (hg : Gl X "reversed") (hm : X.mg "reversed" = none) (ha : PA X [e] ta) (hs : starEach [e] X.env = [(false, eval e X.env)] := by rfl) : PI X tg (.Call (.Name "reversed" p) [e] [] pos) (iRev X.K ta) := by
  intro pins s σ H R I h
  refine Call_ (ld_blt I hg hm boot_reversed5 (PyProof.Rows.callWith_type1 (thn (ha pos pins s σ H _ I h) fun us s1 ⟨vs, H1, I1, r1, q1⟩ => ?_) hs rfl))
  obtain ⟨a, xs, e, hq, q⟩ := q1
  subst e
  cases r1 with
  | cons r rr =>
    cases rr
    cases r
    obtain ⟨its, rv, p', hz⟩ := I1.list hq
    have hl := rv.length
    have e1 : ((its.toArray.size : Nat) : Int) - 1 = (xs.length : Int) - 1 - ((0 : Nat) : Int) := by simp only [List.size_toArray]; omega
    refine call_reversed_list p'.isList (wpAny_pyIter_revIter (l := a) (i := ((its.toArray.size : Nat) : Int) - 1) ⟨_, Heap.get?_push_size _ rfl, rfl, rfl⟩ ?_)
    refine pi_one (tk := s1.toks) I1 _ (turn_rev a _ xs.length) ⟨Nat.zero_le _, ?_⟩ q
    rw [← e1]
    exact ⟨_, Heap.get?_push_size _ rfl, rfl, rfl⟩
end
section
variable {prog : Program} {w : World} {A : Around} {E : Value → Shared → Prop} {s : Shared}
end
section
variable {X : Cx} {pins : List (Addr × Obj)} {σ : St} {H : Hp} {s : Shared} {d : Addr} {o : Obj}
end
section
variable {P : Program} {w : World} {K : PySem.W.Frag} {tg : Expr} {d : Addr} {o : Obj} {es : Array DictEntry} {ep : Nat}
end
section
variable {X : Cx} {tg e : Expr} {td : TE} {apos cpos : Pos}
end
def Ite (K : PySem.W.Frag) (a : Addr) : It :=
  ⟨fun i H => ∃ (xs : List V) (x : V), SqL K H a xs ∧ xs[i]? = some x, fun i H v H' => ∃ T x, v = .ref T ∧ H T = none ∧ H' = upd H T (.tup [.int (i : Nat), x]) ∧ ∀ xs, SqL K H a xs → xs[i]? = some x, fun i H => ∃ xs : List V, SqL K H a xs ∧ xs.length ≤ i⟩
theorem turn_enum {P : Program} {w : World} {K : PySem.W.Frag} {elts : List Expr} {kk : Nat} {tpos : Pos} (a e it : Addr) :
    Turn P w K (.Tuple elts kk tpos) (Ite K a) [e, it] e (fun i h => (∃ old, IsEnum h e it ((i : Nat) : Int) old) ∧ h.IsListIter it a i ∧ e ≠ it) where
  mem := by simp
  obj := fun i h st b hb => by
    obtain ⟨⟨old, he⟩, ⟨o, ho, hc, hd⟩, _⟩ := st
    have e' : b = e ∨ b = it := by simpa using hb
    rcases e' with z | z
    · rw [z]; exact ⟨_, he, fun v q => nomatch q⟩
    · rw [z]; exact ⟨o, ho, fun v q => by rw [hd] at q; cases q⟩
  keep := fun i h h' st k => let ⟨⟨old, he⟩, hi, hne⟩ := st; ⟨⟨old, k e (by simp) _ he⟩, hi.at fun o q => k it (by simp) o q, hne⟩
  item := by
    intro X hP hw hK hc i pins s σ H E I hf st hg
    subst hP hw hK
    obtain ⟨⟨old, he⟩, hit, hne⟩ := st
    obtain ⟨xs, x, hq, hx⟩ := hg
    obtain ⟨its, rv, p, hz⟩ := I.list hq
    obtain ⟨u, hu, ru⟩ := rv.get hx
    have hel : e < s.heap.objs.size := Heap.lt_size he
    have hil : it < s.heap.objs.size := by obtain ⟨_, q, _⟩ := hit; exact Heap.lt_size q
    refine wpAny_pyNext_enum_item he hit p.isList (x := u) (by simpa using hu) hne fun h' ho hit' hT hsz hk => ?_
    refine ⟨_, rfl, wpAny_letOwnedTupleGo_enum (s := { s with heap := h', toks := s.toks + 1 }) ho fun h'' he' sb => ?_⟩
    have hT2 : h''.get? s.heap.objs.size = some { cls := .type "tuple", data := .seq #[.int i s.toks, u] } := (sb.2 _ (Nat.ne_of_gt hel)).trans hT
    have new : ObjOk X.prog X.w (upd H s.heap.objs.size (.tup [.int (i : Nat), x])) h'' s.heap.objs.size (.tup [.int (i : Nat), x]) :=
      ⟨by show 2 ≤ sizeLine; decide, [.int i s.toks, u], .cons ⟨_, rfl⟩ (.cons ru .nil), ⟨_, hT2, rfl, _, rfl⟩⟩
    have I1 : Inv X pins σ (upd H s.heap.objs.size (.tup [.int (i : Nat), x])) { s with heap := h'', toks := s.toks + 1 } :=
      I.turnedNew (ch := [e, it]) (fun b ob hb q => (sb.2 b (fun z => hb (by simp [z]))).trans (hk b ob (fun z => hb (by simp [z])) (fun z => hb (by simp [z])) q)) hf (Nat.le_refl _) new
    refine ⟨.ref s.heap.objs.size, _, I1, rfl, ⟨_, x, rfl, I.hok.fresh (Nat.le_refl _), rfl, fun ys hy => by rw [I.list_inj hy hq]; exact hx⟩, ⟨⟨u, ?_⟩, hit'.at fun o q => (sb.2 it (Ne.symm hne)).trans q, hne⟩, fun b hb => ?_⟩
    · have e1 : ((i + 1 : Nat) : Int) = (i : Int) + 1 := by omega
      rw [e1]; exact he'
    · have hb' : b < s.heap.objs.size := by
        have e' : b = e ∨ b = it := by simpa using hb
        rcases e' with z | z
        · rw [z]; exact hel
        · rw [z]; exact hil
      rw [upd_ne (Nat.ne_of_lt hb')]
      exact (hf b hb).1
  done := by
    intro X hP hw hK hc i pins s σ H E I hf st hg
    subst hP hw hK
    obtain ⟨⟨old, he⟩, hit, hne⟩ := st
    obtain ⟨xs, hq, hx⟩ := hg
    obtain ⟨its, rv, p, hz⟩ := I.list hq
    obtain ⟨f0, f1, f2, f3, f4, f5⟩ := hf it (by simp)
    have hl := rv.length
    exact wpAny_pyNext_enum_end (I.ok.hd hc) he hit p.isList (by simp; omega) fun h' eb => ⟨rfl, I.turned (t' := s.toks) (fun b o hb q => eb b o hb q) f0 f1 f3 f4 f5⟩
  self := fun A i s Q E st h => let ⟨⟨_, he⟩, _⟩ := st; wpAny_pyIter_enum he h
def iEnum (K : PySem.W.Frag) (ta : TA) : TI := fun σ H R => ta σ H fun vs H1 => ∃ a xs, vs = [.ref a] ∧ SqL K H1 a xs ∧ R (Ite K a) H1
theorem pi_enum {X : Cx} {e : Expr} {ta : TA} {p pos tpos : Pos} {elts : List Expr} {kk : Nat} (hg : Gl X "enumerate") (hm : X.mg "enumerate" = none) (ha : PA X [e] ta) (hs : starEach [e] X.env = [(false, eval e X.env)] := by rfl) :
    PI X (.Tuple elts kk tpos) (.Call (.Name "enumerate" p) [e] [] pos) (iEnum X.K ta) := by
  intro pins s σ H R I h
  refine Call_ (ld_blt I hg hm boot_enumerate (PyProof.Rows.callWith_type1 (thn (ha pos pins s σ H _ I h) fun us s1 ⟨vs, H1, I1, r1, q1⟩ => ?_) hs rfl))
  obtain ⟨a, xs, ex, hq, q⟩ := q1
  subst ex
  cases r1 with
  | cons r rr =>
    cases rr
    cases r
    obtain ⟨its, rv, p', hz⟩ := I1.list hq
    refine call_enumerate_list p'.isList fun h' he hit hsz hk => wpAny_pyIter_enum he ?_
    have I2 : Inv X pins σ H1 { s1 with heap := h' } := I1.kept (t' := s1.toks) hk
    refine ⟨s1.heap.objs.size + 1, [s1.heap.objs.size + 1, s1.heap.objs.size], _, _, H1, rfl, I2, turn_enum a (s1.heap.objs.size + 1) s1.heap.objs.size, ⟨⟨.none, he⟩, hit, Nat.succ_ne_self _⟩, fun b hb => ?_, q⟩
    have e' : b = s1.heap.objs.size + 1 ∨ b = s1.heap.objs.size := by simpa using hb
    have hle : s1.heap.objs.size ≤ b := by
      rcases e' with z | z
      · rw [z]; exact Nat.le_add_right _ _
      · rw [z]; exact Nat.le_refl _
    exact I1.fpOk hle (I1.hok.fresh hle)
theorem boot_zip5 : bootBuiltins "zip" = some (.type "zip") := by decide +kernel
def Itz (K : PySem.W.Frag) (a b : Addr) : It :=
  ⟨fun i H => ∃ (xs ys : List V) (x y : V), SqL K H a xs ∧ SqL K H b ys ∧ xs[i]? = some x ∧ ys[i]? = some y,
    fun i H v H' => ∃ T x y, v = .ref T ∧ H T = none ∧ H' = upd H T (.tup [x, y]) ∧ (∀ xs, SqL K H a xs → xs[i]? = some x) ∧ ∀ ys, SqL K H b ys → ys[i]? = some y,
    fun i H => ∃ xs ys : List V, SqL K H a xs ∧ SqL K H b ys ∧ (xs.length ≤ i ∨ ys.length ≤ i)⟩
theorem turn_zip {P : Program} {w : World} {K : PySem.W.Frag} {elts : List Expr} {kk : Nat} {tpos : Pos} {a b z TI TO i1 i2 : Addr} (D : ZipApart z TI TO i1 i2 a b) :
    Turn P w K (.Tuple elts kk tpos) (Itz K a b) [z, TI, TO, i1, i2] z (fun i h => IsZip h z TI TO .none ∧ IsPair h TI (.ref i1) (.ref i2) ∧ (∃ x y, IsPair h TO x y) ∧ h.IsListIter i1 a i ∧ h.IsListIter i2 b i) where
  mem := by simp
  obj := fun i h st c hc => by
    obtain ⟨hz, hTI, ⟨x, y, hTO⟩, ⟨o1, e1, _, d1⟩, ⟨o2, e2, _, d2⟩⟩ := st
    have e' : c = z ∨ c = TI ∨ c = TO ∨ c = i1 ∨ c = i2 := by simpa using hc
    rcases e' with q | q | q | q | q
    · rw [q]; exact ⟨_, hz, fun v q => nomatch q⟩
    · rw [q]; exact ⟨_, hTI, fun v q => nomatch q⟩
    · rw [q]; exact ⟨_, hTO, fun v q => nomatch q⟩
    · rw [q]; exact ⟨o1, e1, fun v q => by rw [d1] at q; cases q⟩
    · rw [q]; exact ⟨o2, e2, fun v q => by rw [d2] at q; cases q⟩
  keep := fun i h h' st k => by
    obtain ⟨hz, hTI, ⟨x, y, hTO⟩, h1, h2⟩ := st
    exact ⟨k z (by simp) _ hz, k TI (by simp) _ hTI, ⟨x, y, k TO (by simp) _ hTO⟩, h1.at fun o q => k i1 (by simp) o q, h2.at fun o q => k i2 (by simp) o q⟩
  item := by
    intro X hP hw hK hc i pins s σ H E I hf st hg
    subst hP hw hK
    obtain ⟨hz, hTI, ⟨x0, y0, hTO⟩, h1, h2⟩ := st
    obtain ⟨xs, ys, x, y, hqx, hqy, hx, hy⟩ := hg
    obtain ⟨its, rv, p, _⟩ := I.list hqx
    obtain ⟨its2, rv2, p2, _⟩ := I.list hqy
    obtain ⟨u, hu, ru⟩ := rv.get hx
    obtain ⟨u2, hu2, ru2⟩ := rv2.get hy
    have hzl : z < s.heap.objs.size := Heap.lt_size hz
    refine wpAny_pyNext_zip_item D hz hTI hTO h1 h2 p.isList p2.isList (x := u) (y := u2) (by simpa using hu) (by simpa using hu2) fun h' z' TO' h1' h2' hT hsz hk => ?_
    refine ⟨_, rfl, wpAny_letOwnedTupleGo_zip (s := { s with heap := h' }) z' fun h'' z'' sb => ?_⟩
    have hT2 : h''.get? s.heap.objs.size = some { cls := .type "tuple", data := .seq #[u, u2] } := (sb.2 _ (Nat.ne_of_gt hzl)).trans hT
    have new : ObjOk X.prog X.w (upd H s.heap.objs.size (.tup [x, y])) h'' s.heap.objs.size (.tup [x, y]) :=
      ⟨by show 2 ≤ sizeLine; decide, [u, u2], .cons ru (.cons ru2 .nil), ⟨_, hT2, rfl, _, rfl⟩⟩
    have I1 : Inv X pins σ (upd H s.heap.objs.size (.tup [x, y])) { s with heap := h'' } :=
      I.turnedNew (t' := s.toks) (ch := [z, TI, TO, i1, i2]) (fun c o hb q => (sb.2 c (fun q' => hb (by simp [q']))).trans (hk c o (fun q' => hb (by simp [q'])) (fun q' => hb (by simp [q'])) (fun q' => hb (by simp [q'])) (fun q' => hb (by simp [q'])) q)) hf (Nat.le_refl _) new
    refine ⟨.ref s.heap.objs.size, _, I1, rfl, ⟨_, x, y, rfl, I.hok.fresh (Nat.le_refl _), rfl, fun l hl => by rw [I.list_inj hl hqx]; exact hx, fun l hl => by rw [I.list_inj hl hqy]; exact hy⟩, ⟨z'', ?_, ⟨u, u2, ?_⟩, ?_, ?_⟩, fun c hcm => ?_⟩
    · exact (sb.2 _ D.TIz).trans (hk _ _ D.TIz D.TITO D.TIi1 D.TIi2 hTI)
    · exact (sb.2 _ D.TOz).trans TO'
    · exact h1'.at fun o q => (sb.2 _ D.i1z).trans q
    · exact h2'.at fun o q => (sb.2 _ D.i2z).trans q
    · have hlt : c < s.heap.objs.size := by
        have e' : c = z ∨ c = TI ∨ c = TO ∨ c = i1 ∨ c = i2 := by simpa using hcm
        rcases e' with q | q | q | q | q
        · rw [q]; exact hzl
        · rw [q]; exact Heap.lt_size hTI
        · rw [q]; exact Heap.lt_size hTO
        · rw [q]; obtain ⟨_, e1, _⟩ := h1; exact Heap.lt_size e1
        · rw [q]; obtain ⟨_, e2, _⟩ := h2; exact Heap.lt_size e2
      rw [upd_ne (Nat.ne_of_lt hlt)]
      exact (hf c hcm).1
  done := by
    intro X hP hw hK hc i pins s σ H E I hf st hg
    subst hP hw hK
    obtain ⟨hz, hTI, ⟨x0, y0, hTO⟩, h1, h2⟩ := st
    obtain ⟨xs, ys, hqx, hqy, hend⟩ := hg
    obtain ⟨its, rv, p, _⟩ := I.list hqx
    obtain ⟨its2, rv2, p2, _⟩ := I.list hqy
    have l1 := rv.length
    have l2 := rv2.length
    have he : its.toArray[i]? = none ∨ its2.toArray[i]? = none := by
      rcases hend with q | q
      · exact .inl (by simp; omega)
      · exact .inr (by simp; omega)
    exact wpAny_pyNext_zip_end (I.ok.hd hc) D hz hTI hTO h1 h2 p.isList p2.isList he fun h' hk => ⟨rfl, I.turnedL (t' := s.toks) (ch := [z, TI, TO, i1, i2]) (fun c o hb q =>
      hk c o (fun q' => hb (by simp [q'])) (fun q' => hb (by simp [q'])) (fun q' => hb (by simp [q'])) (fun q' => hb (by simp [q'])) q) hf⟩
  self := fun A i s Q E st h => wpAny_pyIter_zip st.1 h
def iZip (K : PySem.W.Frag) (ta : TA) : TI := fun σ H R => ta σ H fun vs H1 => ∃ a b xs ys, vs = [.ref a, .ref b] ∧ SqL K H1 a xs ∧ SqL K H1 b ys ∧ R (Itz K a b) H1
theorem pi_zip {X : Cx} {e e2 : Expr} {ta : TA} {p pos tpos : Pos} {elts : List Expr} {kk : Nat} (hg : Gl X "zip") (hm : X.mg "zip" = none) (ha : PA X [e, e2] ta)
    (hs : starEach [e, e2] X.env = (false, eval e X.env) :: starEach [e2] X.env := by rfl) (hpl : (backTo pos (starEach [e2] X.env)).any (·.1) = false := by rfl) :
    PI X (.Tuple elts kk tpos) (.Call (.Name "zip" p) [e, e2] [] pos) (iZip X.K ta) := by
  intro pins s σ H R I h
  refine Call_ (ld_blt I hg hm boot_zip5 (PyProof.Rows.callWith_type1 (thn (ha pos pins s σ H _ I h) fun us s1 ⟨vs, H1, I1, r1, q1⟩ => ?_) hs hpl))
  obtain ⟨a, b, xs, ys, ex, hqx, hqy, q⟩ := q1
  subst ex
  cases r1 with
  | cons r rr =>
    cases rr with
    | cons r' rr =>
      cases rr
      cases r
      cases r'
      obtain ⟨its, rv, p1, _⟩ := I1.list hqx
      obtain ⟨its2, rv2, p2, _⟩ := I1.list hqy
      have la : a < s1.heap.objs.size := p1.lt
      have lb : b < s1.heap.objs.size := p2.lt
      refine call_zip_2 p1.isList p2.isList fun h' hz hTI hTO h1 h2 hsz hk => wpAny_pyIter_zip hz ?_
      have I2 : Inv X pins σ H1 { s1 with heap := h' } := I1.kept (t' := s1.toks) hk
      refine ⟨s1.heap.objs.size + 4, [s1.heap.objs.size + 4, s1.heap.objs.size + 2, s1.heap.objs.size + 3, s1.heap.objs.size, s1.heap.objs.size + 1], _, _, H1, rfl, I2, turn_zip (PySem.W.ktu_apart s1.heap.objs.size a b la lb), ⟨hz, hTI, ⟨_, _, hTO⟩, h1, h2⟩, fun c hcm => ?_, q⟩
      have e' : c = s1.heap.objs.size + 4 ∨ c = s1.heap.objs.size + 2 ∨ c = s1.heap.objs.size + 3 ∨ c = s1.heap.objs.size ∨ c = s1.heap.objs.size + 1 := by simpa using hcm
      have hle : s1.heap.objs.size ≤ c := by
        rcases e' with z | z | z | z | z
        · rw [z]; exact Nat.le_add_right _ _
        · rw [z]; exact Nat.le_add_right _ _
        · rw [z]; exact Nat.le_add_right _ _
        · rw [z]; exact Nat.le_refl _
        · rw [z]; exact Nat.le_add_right _ _
      exact I1.fpOk hle (I1.hok.fresh hle)
end L2
section 
namespace Bits
open PySem PyProof.Rows
theorem nat_and_mul_pow (k : Nat) : ∀ a b : Nat, a < 2 ^ k → a &&& (b * 2 ^ k) = 0 := by
  induction k with
  | zero =>
    intro a b h
    have h0 : a = 0 := by
      rw [Nat.pow_zero] at h
      omega
    subst h0
    simp
  | succ k ih =>
    intro a b h
    have hm : (b * 2 ^ (k + 1)) = (b * 2 ^ k) * 2 := by rw [Nat.pow_succ, Nat.mul_assoc]
    have hlt : a / 2 < 2 ^ k := by
      rw [Nat.pow_succ] at h
      generalize 2 ^ k = m at h ⊢
      omega
    have i := ih (a / 2) b hlt
    rw [hm]
    generalize b * 2 ^ k = B at i ⊢
    have e : (a &&& (B * 2)) / 2 = a / 2 &&& (B * 2) / 2 := Nat.and_div_two
    have e2 : (B * 2) / 2 = B := by omega
    have o := @Nat.and_mod_two_eq_one a (B * 2)
    rw [e2, i] at e
    omega
theorem natCast_mul_pow (m k : Nat) : (m : Int) * 2 ^ k = ((m * 2 ^ k : Nat) : Int) := by
  rw [two_pow_cast]
  first
    | exact (Int.natCast_mul _ _).symm
    | simp
theorem bitOr_join {a b : Int} {k : Nat} (h0 : 0 ≤ a) (h1 : a < 2 ^ k) (hb : 0 ≤ b) : Builtin.bitOr a (b * 2 ^ k) = a + b * 2 ^ k := by
  obtain ⟨n, rfl⟩ := Int.eq_ofNat_of_zero_le h0
  obtain ⟨m, rfl⟩ := Int.eq_ofNat_of_zero_le hb
  have hn : n < 2 ^ k := by
    rw [two_pow_cast] at h1
    omega
  have e : Builtin.bitAnd (n : Int) ((m * 2 ^ k : Nat) : Int) = 0 := by
    rw [bitAnd_pp (by omega) (by omega), Int.toNat_natCast, Int.toNat_natCast, nat_and_mul_pow k n m hn] <;> rfl
  rw [natCast_mul_pow, bitOr_and, e]
  omega
theorem bitOr_join' {a b : Int} {k : Nat} (h0 : 0 ≤ a) (h1 : a < 2 ^ k) (hb : 0 ≤ b) : Builtin.bitOr (b * 2 ^ k) a = a + b * 2 ^ k := by
  rw [bitOr_comm]
  exact bitOr_join h0 h1 hb
theorem bitAnd_mask {x : Int} (k : Nat) (hx : 0 ≤ x) : Builtin.bitAnd x (2 ^ k - 1) = x % 2 ^ k := by
  obtain ⟨n, rfl⟩ := Int.eq_ofNat_of_zero_le hx
  have hp : 0 < 2 ^ k := Nat.two_pow_pos k
  rw [two_pow_cast]
  have e : ((2 ^ k : Nat) : Int) - 1 = ((2 ^ k - 1 : Nat) : Int) := by
    generalize (2 : Nat) ^ k = m at hp
    omega
  rw [e, bitAnd_pp (by omega) (by omega), Int.toNat_natCast, Int.toNat_natCast, Nat.and_two_pow_sub_one_eq_mod]
  first
    | rfl
    | exact Int.natCast_emod _ _
    | simp
theorem nat_xor_add_and (m : Nat) : ∀ n : Nat, (m ^^^ n) + 2 * (m &&& n) = m + n := by
  induction m using Nat.strongRecOn with
  | _ m ih =>
    intro n
    by_cases h0 : m = 0
    · subst h0
      simp
    · have ih' := ih (m / 2) (by omega) (n / 2)
      rw [← Nat.xor_div_two, ← Nat.and_div_two] at ih'
      have o1 := @Nat.xor_mod_two_eq_one m n
      have a1 := @Nat.and_mod_two_eq_one m n
      omega
theorem bitXor_pp {x y : Int} (hx : 0 ≤ x) (hy : 0 ≤ y) : Builtin.bitXor x y = ((x.toNat ^^^ y.toNat : Nat) : Int) := by
  have e := nat_xor_add_and x.toNat y.toNat
  rw [bitXor_and, bitAnd_pp hx hy]
  omega
theorem bitOr_pp {x y : Int} (hx : 0 ≤ x) (hy : 0 ≤ y) : Builtin.bitOr x y = ((x.toNat ||| y.toNat : Nat) : Int) := by
  have e := nat_or_add_and x.toNat y.toNat
  rw [bitOr_and, bitAnd_pp hx hy]
  omega
end Bits
end 
section 
namespace TL
open PySem PySem.Builtin PySem.Builtin.Str PySem.StrLaws
abbrev tl (x : Str) : List Nat := x.cps.toList
def pre (S l : List Nat) : Bool := l.take S.length == S
def par (S : List Nat) : List Nat → List Nat → Option (List Nat × List Nat)
  | _, [] => none
  | acc, c :: r => if pre S (c :: r) = true then some (acc, (c :: r).drop S.length) else par S (acc ++ [c]) r
end TL
end 
namespace L2
open PySem PySem.Spec PyProof.Rows
section
variable {X : Cx} {pins : List (Addr × Obj)} {σ : St} {H : Hp} {s : Shared} {Q : VK}
end
section
variable {X : Cx}
end
section
variable {X : Cx} {o e : Expr} {to te : TE}
end
end L2
namespace L2
open PySem PySem.Spec PyProof.Rows
section
variable {X : Cx}
end
end L2
namespace Att
open PySem PySem.W PySem.Calls PyProof.Rows
section
variable {prog : Program} {w : World} {A : Around} {E : Value → Shared → Prop} {s : Shared} {K : Frag}
end
end Att
namespace L2
open PySem PySem.Spec PyProof.Rows
end L2
namespace L2
open PySem PySem.Spec PyProof.Rows
end L2
namespace L2
open PySem PySem.Spec PyProof.Rows
def inClass (s : Stmt) (j : Nat) : Stmt := match s with
  | .ClassDef _ _ _ body _ _ _ _ _ _ _ => body.getD j (.Pass ⟨0, 0, 0, 0⟩)
  | _ => .Pass ⟨0, 0, 0, 0⟩
def defArgs (s : Stmt) : Arguments := match s with
  | .FunctionDef _ a _ _ _ _ _ _ _ _ => a
  | _ => { posonlyargs := [], args := [], vararg := none, kwonlyargs := [], kw_defaults := [], kwarg := none, defaults := [] }
def defBody (s : Stmt) : List Stmt := match s with
  | .FunctionDef _ _ b _ _ _ _ _ _ _ => b
  | _ => []
def defScope (s : Stmt) : Scope := match s with
  | .FunctionDef _ _ _ _ _ _ sc _ _ _ => sc
  | _ => { kind := .function, names := [], isGenerator := false, isCoroutine := false }
abbrev CX0 : CXT := fun _ _ _ _ _ _ => False
abbrev E0 : XK := fun _ _ _ => False
theorem pass0 {X : Cx} : Passes CX0 X E0 := fun _ _ _ _ _ _ _ h => h.elim
structure Fun (K : PySem.W.Frag) (x qual : Str) (st : Stmt) (f : Addr) (fd : FuncData) : Prop where
  ex : ∃ (oc : Value) (od : Option Addr) (kV doc pm : Value) (an : Option Addr) (cdv ct : Value) (osl : Array (Option Value)),
    fd = PySem.W.fnOf x qual (defArgs st) (defBody st) (defScope st) .none kV doc pm an cdv ct ∧ K.lookup f = some ⟨oc, od, .func fd, osl⟩ ∧ PySem.W.codeIn K cdv qual = true
  kp : PySem.W.keepIn K (.ref f) = true
section
variable {P : Program} {w : World} {K : PySem.W.Frag} {mg : Str → Option Value} {base : Heap}
theorem Fun.ok {x qual : Str} {st : Stmt} {f : Addr} {fd : FuncData} {N ps : List Str} {k : Nat} {sp : Sp} (F : Fun K x qual st f fd) (S : FnScope N ps (defScope st)) (len : ∀ vs H Q E, sp vs H Q E → vs.length = ps.length)
    (hbody : ∀ (cdv : Value) (A : Around) (outer : List Env) (s : Shared) (H : Hp) (vs : List V) (Q : VK) (E : XK), Room k (A.deeper (envOfC qual (defScope st) s.heap.objs.size f cdv)) → sp vs H Q E →
      ∃ t, PSs (cxOf CX0 P w K mg base N qual (defScope st) f cdv A outer s H E).nox (defBody st) t ∧ t { nx := fun _ H' => Q .non H', rt := Q } (start N vs) H) : FnOk P w K mg base CX0 (k + 1) f fd ps sp := by
  obtain ⟨oc, od, kV, doc, pm, an, cdv, ct, osl, rfl, lk, hcd⟩ := F.ex
  refine fn_of lk hcd S len fun A outer s H vs Q E hr hsp => ?_
  obtain ⟨t, h, q⟩ := hbody cdv A outer s H vs Q E hr hsp
  exact ⟨t, h.nox, q⟩
theorem Fun.binds {x qual : Str} {st : Stmt} {f : Addr} {fd : FuncData} {ps : List Str} (F : Fun K x qual st f fd)
    (h : ∀ (kV doc pm : Value) (an : Option Addr) (cdv ct : Value) (us : List Value), us.length = ps.length → bindArgs (PySem.W.fnOf x qual (defArgs st) (defBody st) (defScope st) .none kV doc pm an cdv ct) ⟨us, []⟩ = pure (ps.zip us)) : Binds K fd ps [] := by
  obtain ⟨oc, od, kV, doc, pm, an, cdv, ct, osl, rfl, lk, hcd⟩ := F.ex
  exact .all (h kV doc pm an cdv ct)
theorem fun_mk {x qual : Str} {st : Stmt} {f : Addr} {oc : Value} {od an : Option Addr} {osl : Array (Option Value)} {kV doc pm cdv ct : Value} (l : K.lookup f = some ⟨oc, od, .func (PySem.W.fnOf x qual (defArgs st) (defBody st) (defScope st) .none kV doc pm an cdv ct), osl⟩)
    (c : PySem.W.codeIn K cdv qual = true) (k : PySem.W.keepIn K (.ref f) = true) : Fun K x qual st f (PySem.W.fnOf x qual (defArgs st) (defBody st) (defScope st) .none kV doc pm an cdv ct) := ⟨⟨oc, od, kV, doc, pm, an, cdv, ct, osl, rfl, l, c⟩, k⟩
end
theorem hu_of {A : Around} {k : Nat} (hr : Room k A) : A.units + 1 < cLine := Nat.lt_of_le_of_lt (Nat.add_le_add_left (by decide : 1 ≤ 64) _) hr.units
section
variable {X : Cx}
theorem pv (i : Nat) {x : Str} {pos : Pos} (hN : X.N[i]? = some x := by rfl) (hv : Vis X.env.scope x := by first | exact Or.inl rfl | exact Or.inr (Or.inl rfl) | exact Or.inr (Or.inr rfl)) (hd : (x == ("__debug__" : Str)) = false := by decide)
    (hcd : (x == ("__classdict__" : Str)) = false := by decide) : PE X (.Name x pos) (tVar i) := pe_var hN hv hd hcd
end
theorem iteF {A B : Prop} (h : B) : if false = true then A else B := by
  rw [if_neg Bool.false_ne_true]
  exact h
theorem iteT {A B : Prop} (h : A) : if true = true then A else B := by
  rw [if_pos rfl]
  exact h
theorem ite2 {c A B : Prop} [Decidable c] (h1 : c → A) (h2 : ¬ c → B) : if c then A else B := by
  by_cases h : c
  · rw [if_pos h]
    exact h1 h
  · rw [if_neg h]
    exact h2 h
def Same (H H' : Hp) : Prop := ∀ b o, H b = some o → H' b = some o
theorem Same.refl (H : Hp) : Same H H := fun _ _ h => h
theorem Same.trans {H H1 H2 : Hp} (a : Same H H1) (b : Same H1 H2) : Same H H2 := fun c o h => b c o (a c o h)
theorem Same.free {H H' : Hp} (e : Same H H') {l : Addr} (h : H' l = Option.none) : H l = Option.none := by
  cases q : H l with
  | none => rfl
  | some o =>
    rw [e l o q] at h
    cases h
theorem Same.seq {K : PySem.W.Frag} {H H' : Hp} {a : Addr} {xs : List V} (e : Same H H') (h : SqL K H a xs) : SqL K H' a xs := by
  rcases h with (h | ⟨o, h⟩) | h
  · exact .inl (.inl (e _ _ h))
  · exact .inl (.inr ⟨o, e _ _ h⟩)
  · exact .inr h
section
variable {κ : Type} [DecidableEq κ]
end
theorem at_of {xs : List V} {z : Int} {j : Nat} {v : V} (e : z = (j : Int)) (h : xs[j]? = some v) : atI xs z = some v := by
  rw [e]
  exact atI_nat h
theorem Same.made {H H1 : Hp} {x dx C : Addr} (nx : H x = Option.none) (nd : H dx = Option.none) (k : ∀ b o, (upd (upd H dx (.own x)) x (.ins C dx [])) b = some o → b ≠ x → H1 b = some o) : Same H H1 := fun b o e =>
  k b o (by rw [upd_ne (ne_of_none e nx), upd_ne (ne_of_none e nd)]; exact e) (ne_of_none e nx)
end L2
end
section
set_option Elab.async false
set_option linter.all false
set_option maxRecDepth 100000
set_option maxHeartbeats 2000000
namespace L2
open PySem PySem.Spec PyProof.Rows
open PySem.W (WData Codec OpenSpec Well WellAll ReadsW ReadsAllW)
mutual
/-- x stands for the datum d, lists and tuples all the way -/
inductive Dw (K : PySem.W.Frag) (H : Hp) : V → WData → Prop
  | non : Dw K H .non .none
  | bl (b : Bool) : Dw K H (.bl b) (.bool b)
  | int (i : Int) : Dw K H (.int i) (.int i)
  | str (x : Str) : Dw K H (.str x) (.str x)
  | byt (b : Array UInt8) : Dw K H (.byt b) (.bytes b.toList)
  | lst {a : Addr} {xs : List V} {ds : List WData} : SqL K H a xs → DwAll K H xs ds → Dw K H (.ref a) (.list ds)
  | tup {a : Addr} {xs : List V} {ds : List WData} : SqT K H a xs → DwAll K H xs ds → Dw K H (.ref a) (.tuple ds)
inductive DwAll (K : PySem.W.Frag) (H : Hp) : List V → List WData → Prop
  | nil : DwAll K H [] []
  | cons {v : V} {vs : List V} {d : WData} {ds : List WData} : Dw K H v d → DwAll K H vs ds → DwAll K H (v :: vs) (d :: ds)
end
theorem dw_ints {K : PySem.W.Frag} {H : Hp} : ∀ ns : List Int, DwAll K H (ns.map V.int) (ns.map WData.int)
  | [] => .nil
  | n :: r => .cons (.int n) (dw_ints r)
theorem ints_dw {K : PySem.W.Frag} {H : Hp} : ∀ (ns : List Int) (xs : List V), DwAll K H xs (ns.map WData.int) → xs = ns.map V.int
  | [], xs, h => by
    cases h
    rfl
  | n :: r, xs, h => by
    cases h with
    | cons h1 h2 =>
      cases h1
      rw [ints_dw r _ h2] <;> rfl
section
variable {P : Program} {w : World} {K : PySem.W.Frag} {H : Hp} {h : Heap} {R : PySem.W.WRecords} {cl : Str → Option Addr}
theorem sqL_at {a : Addr} {xs : List V} (hok : HOk P w H h) (KX : K.In h) (q : SqL K H a xs) : ∃ (its : List Value) (o : Obj) (n : Nat), Vals xs its ∧ h.get? a = some o ∧ o.cls = .type "list" ∧ o.data = .seq its.toArray n := by
  rcases q with q | ⟨o, its, n, e, hc, _, hd, _, hv⟩
  · obtain ⟨_, its, n, hv, e⟩ := (show ObjOk P w H h a (.lst xs) from q.ok hok)
    exact ⟨its, _, n, hv, e, rfl, rfl⟩
  · exact ⟨its.toList, o, n, hv, KX _ _ e, hc, by simp [hd]⟩
theorem sqT_at {a : Addr} {xs : List V} (hok : HOk P w H h) (KX : K.In h) (q : SqT K H a xs) : ∃ (its : List Value) (o : Obj) (n : Nat), Vals xs its ∧ h.get? a = some o ∧ o.cls = .type "tuple" ∧ o.data = .seq its.toArray n := by
  rcases q with q | ⟨o, its, n, e, hc, hd, _, hv⟩
  · obtain ⟨_, its, hv, o, e, hc, n, hd⟩ := (show ObjOk P w H h a (.tup xs) from q.ok hok)
    exact ⟨its, o, n, hv, e, hc, hd⟩
  · exact ⟨its.toList, o, n, hv, KX _ _ e, hc, by simp [hd]⟩
mutual
theorem Dw.reads (hok : HOk P w H h) (KX : K.In h) : ∀ (d : WData) (v : V) (u : Value), Dw K H v d → RelV v u → ∃ as, ReadsW R cl h u d as
  | .none, _, _, x, r => by
    cases x
    cases r
    exact ⟨_, ReadsW.none⟩
  | .bool b, _, _, x, r => by
    cases x
    cases r
    exact ⟨_, ReadsW.bool b⟩
  | .int i, _, _, x, r => by
    cases x
    obtain ⟨t, rfl⟩ := r
    exact ⟨_, ReadsW.int i t⟩
  | .str s, _, _, x, r => by
    cases x
    obtain ⟨t, rfl⟩ := r
    exact ⟨_, ReadsW.str s t⟩
  | .bytes b, _, _, x, r => by
    cases x
    obtain ⟨t, rfl⟩ := r
    exact ⟨_, ReadsW.bytes _ t⟩
  | .list ds, _, _, x, r => by
    cases x with
    | lst hs ha =>
      cases r
      obtain ⟨its, o, n, rv, ho, hc, hd⟩ := sqL_at hok KX hs
      obtain ⟨as, hr⟩ := Dw.readsAll hok KX ds _ its ha rv
      exact ⟨_, ReadsW.list ho hc hd hr⟩
  | .tuple ds, _, _, x, r => by
    cases x with
    | tup hs ha =>
      cases r
      obtain ⟨its, o, n, rv, ho, hc, hd⟩ := sqT_at hok KX hs
      obtain ⟨as, hr⟩ := Dw.readsAll hok KX ds _ its ha rv
      exact ⟨_, ReadsW.tuple ho hc hd hr⟩
  | .float _, _, _, x, _ => by cases x
  | .dict _, _, _, x, _ => by cases x
  | .bytearray _, _, _, x, _ => by cases x
  | .set _, _, _, x, _ => by cases x
  | .frozenset _, _, _, x, _ => by cases x
  | .obj _ _, _, _, x, _ => by cases x
theorem Dw.readsAll (hok : HOk P w H h) (KX : K.In h) : ∀ (ds : List WData) (vs : List V) (us : List Value), DwAll K H vs ds → Vals vs us → ∃ as, ReadsAllW R cl h us ds as
  | [], _, _, x, r => by
    cases x
    cases r
    exact ⟨_, ReadsAllW.nil⟩
  | d :: ds, _, _, x, r => by
    cases x with
    | cons h1 h2 =>
      cases r with
      | cons r1 r2 =>
        obtain ⟨as, q1⟩ := Dw.reads hok KX d _ _ h1 r1
        obtain ⟨bs, q2⟩ := Dw.readsAll hok KX ds _ _ h2 r2
        exact ⟨_, ReadsAllW.cons q1 q2⟩
end
end
mutual
/-- data that a codec tells -/
def plW : WData → Bool
  | .none => true
  | .bool _ => true
  | .int _ => true
  | .str _ => true
  | .bytes _ => true
  | .list xs => plWs xs
  | .tuple xs => plWs xs
  | _ => false
def plWs : List WData → Bool
  | [] => true
  | x :: r => plW x && plWs r
end
theorem plWs_map {α : Type} {f : α → WData} (h : ∀ a, plW (f a) = true) : ∀ l : List α, plWs (l.map f) = true
  | [] => rfl
  | x :: r => by
    show (plW (f x) && plWs (r.map f)) = true
    rw [h x, plWs_map h r] <;> rfl
theorem pl_enc : ∀ (c : Codec) (a : c.denote), plW (c.enc a) = true
  | .unit, _ => rfl
  | .bool, _ => rfl
  | .int _ _, _ => rfl
  | .nat _ _, _ => rfl
  | .u8, _ => rfl
  | .bytes _ _, _ => rfl
  | .text _ _ _ _, _ => rfl
  | .list _ _ c, a => plWs_map (fun x => pl_enc c x) a
  | .pair c d, a => by
    show (plW (c.enc a.1) && (plW (d.enc a.2) && true)) = true
    rw [pl_enc c a.1, pl_enc d a.2] <;> rfl
  | .triple c d e, a => by
    show (plW (c.enc a.1) && (plW (d.enc a.2.1) && (plW (e.enc a.2.2) && true))) = true
    rw [pl_enc c a.1, pl_enc d a.2.1, pl_enc e a.2.2] <;> rfl
  | .option c, none => rfl
  | .option c, some x => pl_enc c x
theorem pl_encAll : ∀ (cs : List Codec) (a : Codec.denoteAll cs), plWs (Codec.encAll cs a) = true
  | [], _ => rfl
  | c :: cs, a => by
    show (plW (c.enc a.1) && plWs (Codec.encAll cs a.2)) = true
    rw [pl_enc c a.1, pl_encAll cs a.2] <;> rfl
theorem weight_mem : ∀ {xs : List WData} {d : WData}, d ∈ xs → d.weight ≤ WData.weightAll xs
  | [], d, h => absurd h (by simp)
  | x :: r, d, h => by
    show d.weight ≤ x.weight + 1 + WData.weightAll r
    rcases List.mem_cons.mp h with e | m
    · rw [e]
      omega
    · have z := weight_mem m
      omega
def toV : Value → V
  | .none => .non
  | .bool b => .bl b
  | .int i _ => .int i
  | .str x _ => .str x
  | .bytes b _ => .byt b
  | .ref a => .ref a
  | _ => .non
def OkU (A : List Addr) : Value → Prop
  | .none => True
  | .bool _ => True
  | .int _ _ => True
  | .str _ _ => True
  | .bytes _ _ => True
  | .ref a => a ∈ A
  | _ => False
theorem OkU.mono {A B : List Addr} (h : ∀ a ∈ A, a ∈ B) : ∀ {u : Value}, OkU A u → OkU B u := fun {u} x => by
  cases u with
  | ref a => exact h a x
  | none => trivial
  | bool b => trivial
  | int i t => trivial
  | str s t => trivial
  | bytes b t => trivial
  | _ => exact False.elim x
theorem relV_toV {A : List Addr} {u : Value} (x : OkU A u) : RelV (toV u) u := by
  cases u with
  | ref a => rfl
  | none => rfl
  | bool b => rfl
  | int i t => exact ⟨t, rfl⟩
  | str s t => exact ⟨t, rfl⟩
  | bytes b t => exact ⟨t, rfl⟩
  | _ => exact False.elim x
theorem vals_toV {A : List Addr} : ∀ {vs : List Value}, (∀ u ∈ vs, OkU A u) → Vals (vs.map toV) vs
  | [], _ => .nil
  | u :: r, h => .cons (relV_toV (h u (List.mem_cons_self ..))) (vals_toV fun x hx => h x (List.mem_cons_of_mem _ hx))
def ArgOb (h : Heap) (A : List Addr) (a : Addr) : Prop := ∃ vs : List Value, vs.length ≤ sizeLine ∧ (∀ u ∈ vs, OkU A u) ∧
  (h.get? a = some { cls := .type "list", data := .seq vs.toArray } ∨ h.get? a = some { cls := .type "tuple", data := .seq vs.toArray })
theorem ArgOb.mono {h : Heap} {A B : List Addr} {a : Addr} (k : ∀ a ∈ A, a ∈ B) (x : ArgOb h A a) : ArgOb h B a := by
  obtain ⟨vs, h1, h2, h3⟩ := x
  exact ⟨vs, h1, fun u hu => (h2 u hu).mono k, h3⟩
theorem wellAll_len {P : Params} {h : Heap} : ∀ {vs : List Value} {ds : List WData}, WellAll P h vs ds → vs.length = ds.length
  | _, _, .nil => rfl
  | _, _, .cons _ b => by
    show _ + 1 = _ + 1
    rw [wellAll_len b]
theorem well_list {P : Params} {h : Heap} {v : Value} {ds : List WData} (x : Well P h v (.list ds)) : ∃ (a : Addr) (vs : List Value), v = .ref a ∧ h.get? a = some { cls := .type "list", data := .seq vs.toArray } ∧ WellAll P h vs ds := by
  cases x with
  | list ho hall => exact ⟨_, _, rfl, ho, hall⟩
theorem well_tuple {P : Params} {h : Heap} {v : Value} {ds : List WData} (x : Well P h v (.tuple ds)) : ∃ (a : Addr) (vs : List Value), v = .ref a ∧ h.get? a = some { cls := .type "tuple", data := .seq vs.toArray } ∧ WellAll P h vs ds := by
  cases x with
  | tuple ho hall => exact ⟨_, _, rfl, ho, hall⟩
theorem well_cons {P : Params} {h : Heap} {us : List Value} {d : WData} {ds : List WData} (x : WellAll P h us (d :: ds)) : ∃ (v : Value) (vs : List Value), us = v :: vs ∧ Well P h v d ∧ WellAll P h vs ds := by
  cases x with
  | cons a b => exact ⟨_, _, rfl, a, b⟩
theorem line_of {n : Nat} (h : n ≤ 1048576) : n ≤ sizeLine := Nat.le_trans h (by decide)
section
variable {P : Params} {h : Heap}
mutual
theorem area_one : ∀ (d : WData) (v : Value), Well P h v d → plW d = true → d.weight ≤ 1048576 → ∃ A : List Addr, OkU A v ∧ ∀ a ∈ A, ArgOb h A a
  | .none, _, x, _, _ => by
    cases x
    exact ⟨[], trivial, fun a m => absurd m (by simp)⟩
  | .bool b, _, x, _, _ => by
    cases x
    exact ⟨[], trivial, fun a m => absurd m (by simp)⟩
  | .int i, _, x, _, _ => by
    cases x
    exact ⟨[], trivial, fun a m => absurd m (by simp)⟩
  | .str s, _, x, _, _ => by
    cases x
    exact ⟨[], trivial, fun a m => absurd m (by simp)⟩
  | .bytes b, _, x, _, _ => by
    cases x
    exact ⟨[], trivial, fun a m => absurd m (by simp)⟩
  | .list ds, _, x, p, z => by
    obtain ⟨a, vs, rfl, ho, hall⟩ := well_list x
    have z2 : WData.weightAll ds ≤ 1048576 := z
    obtain ⟨A, h1, h2⟩ := area_all ds _ hall p fun d hd => Nat.le_trans (weight_mem hd) z2
    have k : ∀ b ∈ A, b ∈ a :: A := fun b hb => List.mem_cons_of_mem _ hb
    refine ⟨a :: A, List.mem_cons_self .., fun b hb => ?_⟩
    rcases List.mem_cons.mp hb with e | m
    · rw [e]
      exact ⟨vs, line_of (by rw [wellAll_len hall]; exact Nat.le_trans (PySem.W.length_le_weightAllW ds) z2), fun u hu => (h1 u hu).mono k, .inl ho⟩
    · exact (h2 b m).mono k
  | .tuple ds, _, x, p, z => by
    obtain ⟨a, vs, rfl, ho, hall⟩ := well_tuple x
    have z2 : WData.weightAll ds ≤ 1048576 := z
    obtain ⟨A, h1, h2⟩ := area_all ds _ hall p fun d hd => Nat.le_trans (weight_mem hd) z2
    have k : ∀ b ∈ A, b ∈ a :: A := fun b hb => List.mem_cons_of_mem _ hb
    refine ⟨a :: A, List.mem_cons_self .., fun b hb => ?_⟩
    rcases List.mem_cons.mp hb with e | m
    · rw [e]
      exact ⟨vs, line_of (by rw [wellAll_len hall]; exact Nat.le_trans (PySem.W.length_le_weightAllW ds) z2), fun u hu => (h1 u hu).mono k, .inr ho⟩
    · exact (h2 b m).mono k
  | .float _, _, _, p, _ => Bool.noConfusion (show false = true from p)
  | .dict _, _, _, p, _ => Bool.noConfusion (show false = true from p)
  | .bytearray _, _, _, p, _ => Bool.noConfusion (show false = true from p)
  | .set _, _, _, p, _ => Bool.noConfusion (show false = true from p)
  | .frozenset _, _, _, p, _ => Bool.noConfusion (show false = true from p)
  | .obj _ _, _, _, p, _ => Bool.noConfusion (show false = true from p)
theorem area_all : ∀ (ds : List WData) (vs : List Value), WellAll P h vs ds → plWs ds = true → (∀ d ∈ ds, d.weight ≤ 1048576) → ∃ A : List Addr, (∀ u ∈ vs, OkU A u) ∧ ∀ a ∈ A, ArgOb h A a
  | [], _, x, _, _ => by
    cases x
    exact ⟨[], fun u m => absurd m (by simp), fun a m => absurd m (by simp)⟩
  | d :: ds, _, x, p, z => by
    obtain ⟨v, vs, rfl, x1, x2⟩ := well_cons x
    have q : plW d = true ∧ plWs ds = true := Bool.and_eq_true_iff.mp p
    obtain ⟨A, a1, a2⟩ := area_one d v x1 q.1 (z d (List.mem_cons_self ..))
    obtain ⟨B, b1, b2⟩ := area_all ds vs x2 q.2 fun e he => z e (List.mem_cons_of_mem _ he)
    have kA : ∀ b ∈ A, b ∈ A ++ B := fun b hb => List.mem_append.mpr (.inl hb)
    have kB : ∀ b ∈ B, b ∈ A ++ B := fun b hb => List.mem_append.mpr (.inr hb)
    refine ⟨A ++ B, fun u hu => ?_, fun b hb => ?_⟩
    · rcases List.mem_cons.mp hu with e | m
      · rw [e]
        exact a1.mono kA
      · exact (b1 u m).mono kB
    · rcases List.mem_append.mp hb with m | m
      · exact (a2 b m).mono kA
      · exact (b2 b m).mono kB
end
end
def hoOf (o : Obj) : Option HO := match o.data with
  | .seq vs _ => if (o.cls == Value.type "list") = true then some (.frz o (.lst (vs.toList.map toV))) else some (.frz o (.tup (vs.toList.map toV)))
  | _ => none
def argH (K : PySem.W.Frag) (h : Heap) (A : List Addr) : Hp := fun b => if b ∈ A then (if (K.lookup b).isNone = true then (h.get? b).bind hoOf else none) else none
def OnlyF (H : Hp) : Prop := ∀ b, H b = none ∨ ∃ o u, H b = some (.frz o u)
theorem hoOf_lst (vs : List Value) : hoOf { cls := .type "list", data := .seq vs.toArray } = some (.frz { cls := .type "list", data := .seq vs.toArray } (.lst (vs.map toV))) := by
  show (if (Value.type "list" == Value.type "list") = true then some (HO.frz { cls := .type "list", data := .seq vs.toArray } (.lst (vs.toArray.toList.map toV))) else some (HO.frz { cls := .type "list", data := .seq vs.toArray } (.tup (vs.toArray.toList.map toV)))) = _
  rw [if_pos (beq_self_eq_true _)]
theorem hoOf_tup (vs : List Value) : hoOf { cls := .type "tuple", data := .seq vs.toArray } = some (.frz { cls := .type "tuple", data := .seq vs.toArray } (.tup (vs.map toV))) := by
  show (if (Value.type "tuple" == Value.type "list") = true then some (HO.frz { cls := .type "tuple", data := .seq vs.toArray } (.lst (vs.toArray.toList.map toV))) else some (HO.frz { cls := .type "tuple", data := .seq vs.toArray } (.tup (vs.toArray.toList.map toV)))) = _
  rw [if_neg (by decide)]
section
variable {P : Program} {w : World} {K : PySem.W.Frag} {h : Heap} {A : List Addr}
theorem argH_at {b : Addr} {o : Obj} (hb : b ∈ A) (hk : K.lookup b = none) (e : h.get? b = some o) : argH K h A b = hoOf o := by
  unfold argH
  rw [if_pos hb, hk, if_pos (show (none : Option Obj).isNone = true from rfl), e] <;> rfl
theorem of_argH {b : Addr} {u : HO} (q : argH K h A b = some u) : b ∈ A ∧ K.lookup b = none := by
  unfold argH at q
  by_cases hb : b ∈ A
  · rw [if_pos hb] at q
    cases hk : K.lookup b with
    | none => exact ⟨hb, rfl⟩
    | some o =>
      rw [hk, if_neg (by simp)] at q
      cases q
  · rw [if_neg hb] at q
    cases q
theorem argH_is (ar : ∀ a ∈ A, ArgOb h A a) {b : Addr} {u : HO} (q : argH K h A b = some u) : K.lookup b = none ∧ ∃ vs : List Value, vs.length ≤ sizeLine ∧ (∀ u ∈ vs, OkU A u) ∧
    ((h.get? b = some { cls := .type "list", data := .seq vs.toArray } ∧ u = .frz { cls := .type "list", data := .seq vs.toArray } (.lst (vs.map toV))) ∨
     (h.get? b = some { cls := .type "tuple", data := .seq vs.toArray } ∧ u = .frz { cls := .type "tuple", data := .seq vs.toArray } (.tup (vs.map toV)))) := by
  obtain ⟨hb, hk⟩ := of_argH q
  obtain ⟨vs, h1, h2, h3⟩ := ar b hb
  refine ⟨hk, vs, h1, h2, ?_⟩
  rcases h3 with e | e
  · rw [argH_at hb hk e, hoOf_lst] at q
    exact .inl ⟨e, (Option.some.inj q).symm⟩
  · rw [argH_at hb hk e, hoOf_tup] at q
    exact .inr ⟨e, (Option.some.inj q).symm⟩
theorem argH_only (ar : ∀ a ∈ A, ArgOb h A a) : OnlyF (argH K h A) := fun b => by
  cases q : argH K h A b with
  | none => exact .inl rfl
  | some u =>
    obtain ⟨_, vs, _, _, ⟨_, e⟩ | ⟨_, e⟩⟩ := argH_is ar q
    · exact .inr ⟨_, _, by rw [e]⟩
    · exact .inr ⟨_, _, by rw [e]⟩
theorem argH_ok (ar : ∀ a ∈ A, ArgOb h A a) : HOk P w (argH K h A) h := fun b u q => by
  obtain ⟨_, vs, h1, h2, ⟨e, rfl⟩ | ⟨e, rfl⟩⟩ := argH_is ar q
  · exact ⟨e, by rw [List.length_map]; exact h1, vs, _, vals_toV h2, e⟩
  · exact ⟨e, by rw [List.length_map]; exact h1, vs, vals_toV h2, _, e, rfl, _, rfl⟩
theorem seq_inj {c c' : Value} {vs us : List Value} (e : (some { cls := c, data := .seq vs.toArray } : Option Obj) = some { cls := c', data := .seq us.toArray }) : c = c' ∧ vs = us := by
  have e1 := Option.some.inj e
  have e2 : c = c' := congrArg Obj.cls e1
  have e3 : Data.seq vs.toArray = Data.seq us.toArray := congrArg Obj.data e1
  injection e3 with e4
  refine ⟨e2, ?_⟩
  have e5 := congrArg Array.toList e4
  simpa using e5
theorem argL (KX : K.In h) (ar : ∀ a ∈ A, ArgOb h A a) {a : Addr} {vs : List Value} (ha : a ∈ A) (e : h.get? a = some { cls := .type "list", data := .seq vs.toArray }) : (∀ u ∈ vs, OkU A u) ∧ SqL K (argH K h A) a (vs.map toV) := by
  obtain ⟨us, h1, h2, h3⟩ := ar a ha
  have hu : us = vs := by
    rcases h3 with q | q
    · rw [e] at q
      exact (seq_inj q).2.symm
    · rw [e] at q
      exact absurd (Value.type.inj (seq_inj q).1) (by decide)
  subst hu
  refine ⟨h2, ?_⟩
  cases hk : K.lookup a with
  | none => exact .inl (.inr ⟨_, by rw [argH_at ha hk e, hoOf_lst]⟩)
  | some o =>
    have e2 := KX a o hk
    rw [e] at e2
    obtain rfl := Option.some.inj e2
    exact .inr ⟨_, us.toArray, _, hk, rfl, rfl, rfl, by rw [List.size_toArray]; exact h1, by simpa using vals_toV h2⟩
theorem argT (KX : K.In h) (ar : ∀ a ∈ A, ArgOb h A a) {a : Addr} {vs : List Value} (ha : a ∈ A) (e : h.get? a = some { cls := .type "tuple", data := .seq vs.toArray }) : (∀ u ∈ vs, OkU A u) ∧ SqT K (argH K h A) a (vs.map toV) := by
  obtain ⟨us, h1, h2, h3⟩ := ar a ha
  have hu : us = vs := by
    rcases h3 with q | q
    · rw [e] at q
      exact absurd (Value.type.inj (seq_inj q).1) (by decide)
    · rw [e] at q
      exact (seq_inj q).2.symm
  subst hu
  refine ⟨h2, ?_⟩
  cases hk : K.lookup a with
  | none => exact .inl (.inr ⟨_, by rw [argH_at ha hk e, hoOf_tup]⟩)
  | some o =>
    have e2 := KX a o hk
    rw [e] at e2
    obtain rfl := Option.some.inj e2
    exact .inr ⟨_, us.toArray, _, hk, rfl, rfl, by rw [List.size_toArray]; exact h1, by simpa using vals_toV h2⟩
mutual
theorem dw_one {Pm : Params} (KX : K.In h) (ar : ∀ a ∈ A, ArgOb h A a) : ∀ (d : WData) (v : Value), Well Pm h v d → plW d = true → OkU A v → Dw K (argH K h A) (toV v) d
  | .none, _, x, _, _ => by
    cases x
    exact .non
  | .bool b, _, x, _, _ => by
    cases x
    exact .bl b
  | .int i, _, x, _, _ => by
    cases x
    exact .int i
  | .str s, _, x, _, _ => by
    cases x
    exact .str s
  | .bytes b, _, x, _, _ => by
    cases x
    have z := Dw.byt (K := K) (H := argH K h A) b.toArray
    exact z
  | .list ds, _, x, p, hu => by
    obtain ⟨a, vs, rfl, ho, hall⟩ := well_list x
    obtain ⟨h2, hs⟩ := argL KX ar hu ho
    exact .lst hs (dw_all KX ar ds _ hall p h2)
  | .tuple ds, _, x, p, hu => by
    obtain ⟨a, vs, rfl, ho, hall⟩ := well_tuple x
    obtain ⟨h2, hs⟩ := argT KX ar hu ho
    exact .tup hs (dw_all KX ar ds _ hall p h2)
  | .float _, _, _, p, _ => Bool.noConfusion (show false = true from p)
  | .dict _, _, _, p, _ => Bool.noConfusion (show false = true from p)
  | .bytearray _, _, _, p, _ => Bool.noConfusion (show false = true from p)
  | .set _, _, _, p, _ => Bool.noConfusion (show false = true from p)
  | .frozenset _, _, _, p, _ => Bool.noConfusion (show false = true from p)
  | .obj _ _, _, _, p, _ => Bool.noConfusion (show false = true from p)
theorem dw_all {Pm : Params} (KX : K.In h) (ar : ∀ a ∈ A, ArgOb h A a) : ∀ (ds : List WData) (vs : List Value), WellAll Pm h vs ds → plWs ds = true → (∀ u ∈ vs, OkU A u) → DwAll K (argH K h A) (vs.map toV) ds
  | [], _, x, _, _ => by
    cases x
    exact .nil
  | d :: ds, _, x, p, hu => by
    obtain ⟨v, vs, rfl, x1, x2⟩ := well_cons x
    have q : plW d = true ∧ plWs ds = true := Bool.and_eq_true_iff.mp p
    exact .cons (dw_one KX ar d v x1 q.1 (hu _ (List.mem_cons_self ..))) (dw_all KX ar ds vs x2 q.2 fun u m => hu u (List.mem_cons_of_mem _ m))
end
end
theorem spec_call {P : Program} {w : World} {K : PySem.W.Frag} {mg mb : Str → Option Value} {CX : CXT} {k : Nat} {fa : Addr} {fd : FuncData} {ps : List Str} {sp : Sp} {s₁ : Shared} {vals : List Value} {ds : List WData} {R : PySem.W.WRecords} {cl : Str → Option Addr} {d0 : WData}
    (KX : K.In s₁.heap) (hns : s₁.heap.Ns mainGlobals mg) (hb : s₁.heap.Ns builtinsNs mb) (hbb : ∀ x : Str, x ≠ "__name__" → mb x = bootBuiltins x) (hlim : s₁.heap.NoLimit) (hg : s₁.gens = #[])
    (hwl : WellAll w.params s₁.heap vals ds) (hpl : plWs ds = true) (hwt : ∀ d ∈ ds, d.weight ≤ 1048576) (hr : Room k callerA)
    (F : ∀ base : Heap, K.In base → base.Ns mainGlobals mg → FnOk P w K mg base CX k fa fd ps sp) (hbind : ∀ (s : Shared) (us : List Value), us.length = ps.length → BindsTo s fd ⟨us, []⟩ (ps.zip us)) (hlen : ds.length = ps.length)
    (hsp : ∀ (H : Hp) (xs : List V), OnlyF H → DwAll K H xs ds → sp xs H (fun v H' => Dw K H' v d0) fun _ _ _ => False)
    (hCX : ∀ H e s', CX [] H s₁ (fun _ _ _ => False) e s' → False) :
    codeAny (model P w) callerA (.call (.ref fa) ⟨vals, []⟩) (fun r s' => ∃ u as, r = .ok (.ret u) ∧ ReadsW R cl s'.heap u d0 as ∧ OldK s₁.heap s'.heap ∧ s'.os = s₁.os ∧ AllBare s'.gens) s₁ := by
  obtain ⟨A, ho, ar⟩ := area_all ds vals hwl hpl hwt
  have hO : OnlyF (argH K s₁.heap A) := argH_only ar
  have hok : HOk P w (argH K s₁.heap A) s₁.heap := argH_ok ar
  have hS := dw_all KX ar ds vals hwl hpl ho
  have hV := vals_toV ho
  have hK : ∀ b u, argH K s₁.heap A b = some u → K.lookup b = none := fun b u q => (argH_is ar q).1
  have noA : ∀ {b : Addr} {o : Obj} {es : Array DictEntry} {ep : Nat}, s₁.heap.get? b = some o → o.data = .dict es ep → argH K s₁.heap A b = none := fun {b o es ep} e d => by
    cases q : argH K s₁.heap A b with
    | none => rfl
    | some u =>
      obtain ⟨_, vs, _, _, ⟨e2, _⟩ | ⟨e2, _⟩⟩ := argH_is ar q
      · rw [e2] at e
        cases e
        have d' : Data.seq vs.toArray _ = Data.dict es ep := d
        cases d'
      · rw [e2] at e
        cases e
        have d' : Data.seq vs.toArray _ = Data.dict es ep := d
        cases d'
  generalize argH K s₁.heap A = H at hO hok hS hK noA
  have base_of : ∀ {b : Addr} {o : Obj}, s₁.heap.get? b = some o → H b = none → (hidT s₁.heap H).get? b = some o := fun e n => hidT_get e n
  have nsK : ∀ {b : Addr} {m : Str → Option Value}, s₁.heap.Ns b m → (hidT s₁.heap H).Ns b m := fun {b m} ⟨o, es, ep, e, d, r⟩ => ⟨o, es, ep, base_of e (noA e d), d, r⟩
  have nK : ∀ b o, K.lookup b = some o → H b = none := fun b o e => by
    cases q : H b with
    | none => rfl
    | some u =>
      rw [hK b u q] at e
      cases e
  have hKb : K.In (hidT s₁.heap H) := fun b o e => base_of (KX b o e) (nK b o e)
  have hM : Mod K mg (hidT s₁.heap H) := ⟨hKb, nsK hns, ⟨mb, nsK hb, hbb⟩, let ⟨mc, h1, h2⟩ := hlim; ⟨mc, nsK h1, h2⟩⟩
  have e0 : Env0 P w K mg (hidT s₁.heap H) callerA [] s₁ H := ⟨rfl, hM, fun b o e => of_hidT e, Nat.le_of_eq (hidT_size _ _), trivial, fun b hb => absurd (show b ∈ ([] : List Addr) from hb) (by simp), hok, .of_eq hg⟩
  have hl : vals.length = ps.length := by rw [wellAll_len hwl]; exact hlen
  refine codeAny_mono ((F _ hKb (nsK hns)).run callerA [] s₁ H ⟨vals, []⟩ vals (vals.map toV) _ _ hr e0 (hbind s₁ vals hl) hV (hsp H _ hO hS)) fun r s' x => ?_
  cases r with
  | error e => exact (hCX H e s' x).elim
  | ok fl =>
    cases fl with
    | next => exact False.elim x
    | brk => exact False.elim x
    | cont => exact False.elim x
    | ret u =>
      obtain ⟨v, H', os, bare, un, hok', r', q⟩ := x
      have kept : ∀ b o, s₁.heap.get? b = some o → s'.heap.get? b = some o := fun b o e => by
        cases q2 : H b with
        | none => exact un.keep b o e q2 (by intro z; exact absurd (show b ∈ ([] : List Addr) from z) (by simp)) (by simp)
        | some u2 =>
          rcases hO b with z | ⟨ob, u3, z⟩
          · rw [q2] at z
            cases z
          · have z2 := un.frzs b ob _ z
            obtain ⟨e1, _⟩ := hok b _ z
            obtain ⟨e2, _⟩ := hok' b _ z2
            rw [e] at e1
            cases e1
            exact e2
      have KX' : K.In s'.heap := fun b o e => kept b o (KX b o e)
      obtain ⟨as, hrd⟩ := Dw.reads (R := R) (cl := cl) hok' KX' d0 v u q r'
      exact ⟨u, as, rfl, hrd, OldK.of_keep kept, os, bare⟩
theorem layable_weight {ds : List WData} (h : WData.layableAll ds = true) : ∀ d ∈ ds, d.weight ≤ 1048576 := fun d hd =>
  (PySem.W.layableW_iff.mp (List.all_eq_true.mp h d hd)).2.2
theorem encAll_len : ∀ (cs : List Codec) (a : Codec.denoteAll cs), (Codec.encAll cs a).length = cs.length
  | [], _ => rfl
  | c :: cs, a => by
    show (Codec.encAll cs a.2).length + 1 = cs.length + 1
    rw [encAll_len cs a.2]
theorem walk_spec {r : OpenSpec} {k : Nat} {q : Program} {loose : List Str} {XP : (Str → Option Value) → Heap → Prop} {YP : World → Heap → Prop} {d : DefRec} {K : Params → PySem.W.Frag} {CX : World → CXT} {ps : List Str} {sp : World → Sp}
    (hwell : r.wellSaid = true) (hdf : d.params.defaults = []) (hlen : r.args.length = ps.length) (hr : Room k callerA)
    (hY : ∀ (w : World) (h : Heap), YP w h → (K w.params).In h)
    (F : ∀ (w : World) (mg : Str → Option Value) (fa : Addr) (h : Heap), YP w h → (K w.params).In h → h.Ns mainGlobals mg → mg d.name = some (.ref fa) →
      ∃ fd : FuncData, (∀ (s : Shared) (us : List Value), us.length = ps.length → BindsTo s fd ⟨us, []⟩ (ps.zip us)) ∧
        ∀ base : Heap, (K w.params).In base → base.Ns mainGlobals mg → FnOk r.prog w (K w.params) mg base (CX w) k fa fd ps (sp w))
    (hsp : ∀ (w : World) (H : Hp) (xs : List V) (a : Codec.denoteAll r.args), OnlyF H → Codec.withinAll r.args a = true → Codec.app r.args r.asked a = true → DwAll (K w.params) H xs (Codec.encAll r.args a) →
      sp w xs H (fun v H' => Dw (K w.params) H' v (r.ret.enc (Codec.app r.args r.f a))) fun _ _ _ => False)
    (hCX : ∀ (w : World) (H : Hp) (s : Shared) (e : Value) (s' : Shared), CX w [] H s (fun _ _ _ => False) e s' → False) :
    PySem.W.WalkOS q loose XP YP r d [] (fun f vs => PySem.call f vs) := by
  intro w s_0 s₁ mg mb G Y fa o pm cd doc dV kV ho hd hcd hD hmg hg args vals as hpre hlay hrd hwl hlo
  obtain ⟨a, e1, e2⟩ := PySem.W.os_pre_some hpre
  obtain ⟨e3, hwi⟩ := Codec.encAll_of_decAll r.args args a e1
  subst e3
  have KX := hY w _ Y
  obtain ⟨fd, hb, hF⟩ := F w mg fa _ Y KX G.T.g hmg
  refine PySem.W.enter_call (codeAny_mono (spec_call (R := []) (cl := classAt s_0.heap) (d0 := r.ret.enc (Codec.app r.args r.f a)) KX G.T.g G.T.b G.T.builtins G.T.nolimit hg hwl (pl_encAll _ _) (layable_weight hlay) hr hF hb (by rw [encAll_len]; exact hlen)
    (fun H xs hO hS => hsp w H xs a hO hwi e2 hS) fun H e s' => hCX w H s₁ e s') fun r' s' hq => ?_)
  obtain ⟨u, as', rfl, h1, h2, h3, h4⟩ := hq
  exact ⟨.inl ⟨u, _, as', rfl, fun _ => rfl, h1, (OpenSpec.post_iff hwell hwi _ _).mpr rfl, fun z => Bool.noConfusion (show false = true from z)⟩, h2, h3, h4⟩
theorem walk_specK {r : OpenSpec} {k : Nat} {q : Program} {loose : List Str} {XP : (Str → Option Value) → Heap → Prop} {YP : World → Heap → Prop} {d : DefRec} {K : Params → PySem.W.Frag} {CX : CXT} {ps : List Str} {sp : PySem.W.Frag → Sp}
    (hwell : r.wellSaid = true) (hdf : d.params.defaults = []) (hlen : r.args.length = ps.length) (hr : Room k callerA)
    (hY : ∀ (w : World) (h : Heap), YP w h → (K w.params).In h)
    (F : ∀ (w : World) (mg : Str → Option Value) (fa : Addr) (h : Heap), YP w h → (K w.params).In h → h.Ns mainGlobals mg → mg d.name = some (.ref fa) →
      ∃ fd : FuncData, (∀ (s : Shared) (us : List Value), us.length = ps.length → BindsTo s fd ⟨us, []⟩ (ps.zip us)) ∧
        ∀ base : Heap, (K w.params).In base → base.Ns mainGlobals mg → FnOk r.prog w (K w.params) mg base CX k fa fd ps (sp (K w.params)))
    (hsp : ∀ (K : PySem.W.Frag) (H : Hp) (xs : List V) (a : Codec.denoteAll r.args), OnlyF H → Codec.withinAll r.args a = true → Codec.app r.args r.asked a = true → DwAll K H xs (Codec.encAll r.args a) →
      sp K xs H (fun v H' => Dw K H' v (r.ret.enc (Codec.app r.args r.f a))) fun _ _ _ => False)
    (hCX : ∀ (H : Hp) (s : Shared) (e : Value) (s' : Shared), CX [] H s (fun _ _ _ => False) e s' → False) :
    PySem.W.WalkOS q loose XP YP r d [] (fun f vs => PySem.call f vs) :=
  walk_spec (K := K) (CX := fun _ => CX) (sp := fun w => sp (K w.params)) hwell hdf hlen hr hY F (fun w H xs a h1 h2 h3 h4 => hsp (K w.params) H xs a h1 h2 h3 h4) fun _ H s e s' => hCX H s e s'
end L2
end

/-! Numbers of greatkeys: the specification's powers, inverses and trials, in plain arithmetic. -/
namespace Gk
open Sz28
/-! ### powers -/
theorem power_eq (m b : Nat) : ∀ (k e : Nat), e < 2 ^ k → Sz28.power m b k e = b ^ e % m
  | 0, e, h => by
    have h0 : e = 0 := by omega
    subst h0
    show 1 % m = b ^ 0 % m
    rw [Nat.pow_zero]
  | k + 1, e, h => by
    have h2 : e / 2 < 2 ^ k := by
      rw [Nat.pow_succ] at h
      omega
    have ih := power_eq m b k (e / 2) h2
    have hs : Sz28.power m b (k + 1) e = (if e % 2 = 1 then (Sz28.power m b k (e / 2) * Sz28.power m b k (e / 2) % m) * b % m else Sz28.power m b k (e / 2) * Sz28.power m b k (e / 2) % m) := rfl
    rw [hs, ih]
    have hsq : (b ^ (e / 2) % m) * (b ^ (e / 2) % m) % m = b ^ (e / 2 + e / 2) % m := by
      rw [← Nat.mul_mod, ← Nat.pow_add]
    rw [hsq]
    by_cases ho : e % 2 = 1
    · rw [if_pos ho, Nat.mod_mul_mod, ← Nat.pow_succ]
      have : (e / 2 + e / 2).succ = e := by omega
      rw [this]
    · rw [if_neg ho]
      have : e / 2 + e / 2 = e := by omega
      rw [this]
theorem raised_eq (m b e : Nat) : raised m b e = b ^ e % m := by
  unfold raised
  rw [power_eq m (b % m) _ e Nat.lt_log2_self, ← Nat.pow_mod]
/-- five bits more of an exponent -/
theorem pow_win {m b e : Nat} {r p : Nat} (hr : r = b ^ (e / 32) % m) (hp : p = b ^ (e % 32) % m) : (r ^ 32 % m) * p % m = b ^ e % m := by
  subst hr hp
  rw [← Nat.pow_mod, ← Nat.mul_mod, ← Nat.pow_mul, ← Nat.pow_add]
  congr 2
  omega
theorem sq_step {m r x : Nat} {j : Nat} (h : x = r ^ (2 ^ j) % m) : x * x % m = r ^ (2 ^ (j + 1)) % m := by
  subst h
  rw [← Nat.mul_mod, ← Nat.pow_add]
  congr 2
  rw [Nat.pow_succ]
  omega
/-! ### common divisors and multiples -/
theorem lcm_eq (a b : Nat) : a / Nat.gcd a b * b = a * b / Nat.gcd a b := by
  obtain ⟨c, hc⟩ := Nat.gcd_dvd_left a b
  by_cases hg : Nat.gcd a b = 0
  · rw [hg, Nat.div_zero, Nat.div_zero, Nat.zero_mul]
  · have hp : 0 < Nat.gcd a b := Nat.pos_of_ne_zero hg
    generalize Nat.gcd a b = g at *
    subst hc
    rw [Nat.mul_div_cancel_left c hp, Nat.mul_assoc, Nat.mul_div_cancel_left _ hp]
/-! ### inverses -/
/-- with fuel enough, more fuel tells nothing -/
theorem euclid_zero (k : Nat) (a x y : Int) : euclid k a 0 x y = (a, x) := by
  cases k with
  | zero => rfl
  | succ k => show (if (0 : Int) = 0 then (a, x) else _) = (a, x); rw [if_pos rfl]
theorem euclid_step (k : Nat) (a b x y : Int) (h : b ≠ 0) : euclid (k + 1) a b x y = euclid k b (a % b) y (x - a / b * y) := by
  show (if b = 0 then (a, x) else euclid k b (a.emod b) y (x - a / b * y)) = _
  rw [if_neg h]; rfl
theorem mod_half {b r : Nat} (hr : 0 < r) (h : r < b) : 2 * (b % r) < b := by
  have h1 : b % r < r := Nat.mod_lt _ hr
  have h2 : b % r + r ≤ b := by
    have h3 := Nat.div_add_mod b r
    have h4 : 1 ≤ b / r := Nat.div_pos (by omega) hr
    have h5 : r * 1 ≤ r * (b / r) := Nat.mul_le_mul_left _ h4
    omega
  omega
/-- what the loop needs: a number of turns that suffices -/
inductive Ends : Nat → Nat → Nat → Prop
  | done (k a : Nat) : Ends k a 0
  | turn {k a b : Nat} (h : 0 < b) (r : Ends k b (a % b)) : Ends (k + 1) a b
theorem ends_of : ∀ (j a b : Nat), b < 2 ^ j → Ends (2 * j) a b
  | 0, a, b, h => by
    have : b = 0 := by omega
    subst this
    exact .done _ _
  | j + 1, a, b, h => by
    by_cases hb : b = 0
    · subst hb; exact .done _ _
    · have hb0 : 0 < b := Nat.pos_of_ne_zero hb
      have hr : a % b < b := Nat.mod_lt _ hb0
      refine .turn (k := 2 * j + 1) hb0 ?_
      by_cases hr0 : a % b = 0
      · rw [hr0]; exact .done _ _
      · have hr1 : 0 < a % b := Nat.pos_of_ne_zero hr0
        refine .turn (k := 2 * j) hr1 (ends_of j _ _ ?_)
        have := mod_half hr1 hr
        rw [Nat.pow_succ] at h
        omega
theorem Ends.mono {k a b : Nat} (h : Ends k a b) : ∀ {l : Nat}, k ≤ l → Ends l a b := by
  induction h with
  | done k a => intro l _; exact .done _ _
  | turn hb _ ih =>
    intro l hl
    obtain ⟨l', rfl⟩ : ∃ l', l = l' + 1 := ⟨l - 1, by omega⟩
    exact .turn hb (ih (by omega))
theorem Ends.next {k a b : Nat} (h : Ends k a b) (hb : 0 < b) : ∃ l, k = l + 1 ∧ Ends l b (a % b) := by
  cases h with
  | done => omega
  | turn _ r => exact ⟨_, rfl, r⟩
/-- THE STATE of the loop that seeks an inverse of a modulo m -/
structure Eu (m a0 : Nat) (a b : Nat) (x y : Int) : Prop where
  run : ∃ k, Ends k a b ∧ euclid (2 * Nat.log2 (m + 1) + 4) (m : Int) ((a0 % m : Nat) : Int) 0 1 = euclid k a b x y
  size : ∃ X Y : Nat, ((x = X ∧ y = -Y) ∨ (x = -X ∧ y = Y)) ∧ a * Y + b * X = m
  pos : 0 < a
  less : b < a
theorem eu_start {m a0 : Nat} (hm : 0 < m) : Eu m a0 m (a0 % m) 0 1 := by
  refine ⟨⟨_, ?_, rfl⟩, ⟨0, 1, .inr ⟨rfl, rfl⟩, by omega⟩, hm, Nat.mod_lt _ hm⟩
  have h1 : a0 % m < 2 ^ (Nat.log2 (m + 1) + 1) := by
    have h2 : m + 1 < 2 ^ (Nat.log2 (m + 1) + 1) := Nat.lt_log2_self
    have h3 := Nat.mod_lt a0 hm
    omega
  exact (ends_of _ m _ h1).mono (by omega)
theorem eu_turn {m a0 a b : Nat} {x y : Int} (E : Eu m a0 a b x y) (hb : 0 < b) : Eu m a0 b (a % b) y (x - ((a / b : Nat) : Int) * y) := by
  obtain ⟨⟨k, en, run⟩, ⟨X, Y, sg, eq⟩, pos, less⟩ := E
  obtain ⟨l, rfl, en'⟩ := en.next hb
  refine ⟨⟨l, en', ?_⟩, ⟨Y, X + (a / b) * Y, ?_, ?_⟩, hb, Nat.mod_lt _ hb⟩
  · rw [run, euclid_step _ _ _ _ _ (by omega)]
    rfl
  · rcases sg with ⟨hx, hy⟩ | ⟨hx, hy⟩
    · right
      refine ⟨hy, ?_⟩
      subst hx hy
      rw [Int.mul_neg]
      push_cast
      omega
    · left
      refine ⟨hy, ?_⟩
      subst hx hy
      push_cast
      omega
  · have h := Nat.div_add_mod a b
    calc b * (X + a / b * Y) + a % b * Y = b * X + (b * (a / b) + a % b) * Y := by
          rw [Nat.mul_add, Nat.add_mul, Nat.mul_assoc]; omega
      _ = m := by rw [h]; omega
/-- what stands at the end -/
theorem eu_end {m a0 a : Nat} {x y : Int} (E : Eu m a0 a 0 x y) : inverse m a0 = if a = 1 then some (x % (m : Int)).toNat else none := by
  obtain ⟨⟨k, en, run⟩, _, _, _⟩ := E
  unfold inverse
  have r2 : euclid (2 * Nat.log2 (m + 1) + 4) (m : Int) ((a0 : Int) % (m : Int)) 0 1 = ((a : Int), x) := by
    have : ((a0 : Int) % (m : Int)) = ((a0 % m : Nat) : Int) := by push_cast; rfl
    rw [this, run]
    exact euclid_zero _ _ _ _
  rw [r2]
  show (if (a : Int) = 1 then some (x.emod (m : Int)).toNat else none) = _
  by_cases h : a = 1
  · rw [if_pos h, if_pos (by omega)]; rfl
  · rw [if_neg h, if_neg (by omega)]
/-- the factors stay small -/
theorem Eu.yb {m a0 a b : Nat} {x y : Int} (E : Eu m a0 a b x y) : -(m : Int) ≤ y ∧ y ≤ m := by
  obtain ⟨_, ⟨X, Y, sg, eq⟩, pos, _⟩ := E
  have h : 1 * Y ≤ a * Y := Nat.mul_le_mul_right _ pos
  omega
theorem Eu.xb {m a0 a b : Nat} {x y : Int} (E : Eu m a0 a b x y) (hb : 0 < b) : -(m : Int) ≤ x ∧ x ≤ m := by
  obtain ⟨_, ⟨X, Y, sg, eq⟩, pos, _⟩ := E
  have h : 1 * X ≤ b * X := Nat.mul_le_mul_right _ hb
  omega
/-! ### halvings -/
theorem twos_mul : ∀ (h k d : Nat), d % 2 = 1 → h ≤ k → twos (2 ^ h * d) k = h
  | 0, 0, d, _, _ => rfl
  | 0, k + 1, d, hd, _ => by
    show (if 2 ^ 0 * d % 2 = 0 then _ else 0) = 0
    rw [if_neg (by omega)]
  | h + 1, 0, d, _, hk => by omega
  | h + 1, k + 1, d, hd, hk => by
    have e : 2 ^ (h + 1) * d = 2 * (2 ^ h * d) := by rw [Nat.pow_succ, Nat.mul_comm (2 ^ h) 2, Nat.mul_assoc]
    show (if 2 ^ (h + 1) * d % 2 = 0 then twos (2 ^ (h + 1) * d / 2) k + 1 else 0) = h + 1
    rw [if_pos (by omega), e, Nat.mul_div_cancel_left _ (by decide), twos_mul h k d hd (by omega)]
theorem halv_le {n h d : Nat} (hn : n = 2 ^ h * d + 1) (hd : d % 2 = 1) : h ≤ Nat.log2 n + 1 := by
  have h1 : n < 2 ^ (Nat.log2 n + 1) := Nat.lt_log2_self
  have h2 : 2 ^ h * 1 ≤ 2 ^ h * d := Nat.mul_le_mul_left _ (by omega)
  have h3 : 2 ^ h < 2 ^ (Nat.log2 n + 1) := by omega
  exact Nat.le_of_lt ((Nat.pow_lt_pow_iff_right (by decide)).mp h3)
/-- **a base's trial**: x is what the power gave; the squares of it are looked at, one after another -/
theorem tried_eq {n a h d : Nat} (hn : n = 2 ^ h * d + 1) (hd : d % 2 = 1) (ha : 0 < a) (hal : a < n) :
    tried n a = (decide (a ^ d % n = 1) || (List.range h).any fun i => decide ((a ^ d % n) ^ (2 ^ i) % n = n - 1)) := by
  have hs : twos (n - 1) (Nat.log2 n + 1) = h := by
    have : n - 1 = 2 ^ h * d := by omega
    rw [this]
    exact twos_mul h _ d hd (halv_le hn hd)
  have hd2 : (n - 1) / 2 ^ h = d := by
    have : n - 1 = 2 ^ h * d := by omega
    rw [this]
    exact Nat.mul_div_cancel_left _ (Nat.two_pow_pos h)
  unfold tried
  simp only [hs, hd2, raised_eq]
  have h0 : (a % n == 0) = false := by
    rw [Nat.mod_eq_of_lt hal]
    exact beq_eq_false_iff_ne.mpr (by omega)
  rw [h0, Bool.false_or]
  congr 1
/-! ### bits -/
theorem bitsOf_eq_iff (n k : Nat) : bitsOf n = k + 1 ↔ 2 ^ k ≤ n ∧ n < 2 ^ (k + 1) := by
  unfold bitsOf
  by_cases h : n = 0
  · subst h
    rw [if_pos rfl]
    have := Nat.two_pow_pos k
    omega
  · rw [if_neg h]
    constructor
    · intro e
      have e2 : Nat.log2 n = k := by omega
      rw [← e2]
      exact ⟨Nat.log2_self_le h, Nat.lt_log2_self⟩
    · intro ⟨h1, h2⟩
      have := (Nat.le_log2 h).mpr h1
      have := (Nat.log2_lt h).mpr h2
      omega
theorem bitsOf_le (n : Nat) : n < 2 ^ bitsOf n := by
  unfold bitsOf
  by_cases h : n = 0
  · subst h; decide
  · rw [if_neg h]; exact Nat.lt_log2_self
end Gk

/-! The primes below a limit, by crossing out. -/
namespace Gk
open Sz28
theorem isPrime_iff (n : Nat) : isPrime n = true ↔ 2 ≤ n ∧ ∀ d, 2 ≤ d → d < n → n % d ≠ 0 := by
  unfold isPrime
  rw [Bool.and_eq_true, decide_eq_true_iff, List.all_eq_true]
  constructor
  · rintro ⟨h1, h2⟩
    refine ⟨h1, fun d hd hl e => ?_⟩
    have h3 := h2 d (List.mem_range.mpr hl)
    rw [Bool.or_eq_true, decide_eq_true_iff] at h3
    rcases h3 with h3 | h3
    · omega
    · rw [e] at h3; exact absurd h3 (by decide)
  · rintro ⟨h1, h2⟩
    refine ⟨h1, fun d hd => ?_⟩
    rw [Bool.or_eq_true, decide_eq_true_iff]
    by_cases h3 : d < 2
    · exact .inl h3
    · exact .inr (bne_iff_ne.mpr (h2 d (by omega) (List.mem_range.mp hd)))
/-- the least divisor from 2 on -/
theorem least_div (n : Nat) (hn : 2 ≤ n) : ∀ k, (∀ d, 2 ≤ d → d < n - k → n % d ≠ 0) → k ≤ n - 2 → ∃ p, 2 ≤ p ∧ p ≤ n ∧ n % p = 0 ∧ ∀ d, 2 ≤ d → d < p → n % d ≠ 0
  | 0, h, _ => ⟨n, hn, Nat.le_refl _, Nat.mod_self n, h⟩
  | k + 1, h, hk => by
    by_cases e : n % (n - (k + 1)) = 0
    · exact ⟨n - (k + 1), by omega, by omega, e, h⟩
    · refine least_div n hn k (fun d h1 h2 => ?_) (by omega)
      by_cases h3 : d = n - (k + 1)
      · rw [h3]; exact e
      · exact h d h1 (by omega)
theorem least_prime {n : Nat} (hn : 2 ≤ n) : ∃ p, isPrime p = true ∧ p ≤ n ∧ n % p = 0 ∧ ∀ d, 2 ≤ d → d < p → n % d ≠ 0 := by
  obtain ⟨p, h1, h2, h3, h4⟩ := least_div n hn (n - 2) (fun d h1 h2 => by omega) (Nat.le_refl _)
  refine ⟨p, (isPrime_iff p).mpr ⟨h1, fun d hd hl e => ?_⟩, h2, h3, h4⟩
  exact h4 d hd hl (Nat.mod_eq_zero_of_dvd (Nat.dvd_trans (Nat.dvd_of_mod_eq_zero e) (Nat.dvd_of_mod_eq_zero h3)))
/-- what is crossed out by the primes below n -/
def crossB (n m : Nat) : Bool := (List.range n).any fun p => isPrime p && (decide (p * p ≤ m) && decide (m % p = 0))
theorem crossB_iff (n m : Nat) : crossB n m = true ↔ ∃ p, p < n ∧ isPrime p = true ∧ p * p ≤ m ∧ m % p = 0 := by
  unfold crossB
  rw [List.any_eq_true]
  constructor
  · rintro ⟨p, hp, h⟩
    rw [Bool.and_eq_true, Bool.and_eq_true, decide_eq_true_iff, decide_eq_true_iff] at h
    exact ⟨p, List.mem_range.mp hp, h⟩
  · rintro ⟨p, hp, h⟩
    refine ⟨p, List.mem_range.mpr hp, ?_⟩
    rw [Bool.and_eq_true, Bool.and_eq_true, decide_eq_true_iff, decide_eq_true_iff]
    exact h
theorem crossB_two (m : Nat) : crossB 2 m = false := by
  cases h : crossB 2 m with
  | false => rfl
  | true =>
    obtain ⟨p, hp, h1, _⟩ := (crossB_iff 2 m).mp h
    have := ((isPrime_iff p).mp h1).1
    omega
theorem crossB_self {n : Nat} (hn : 2 ≤ n) : crossB n n = !isPrime n := by
  cases h : isPrime n with
  | true =>
    cases h2 : crossB n n with
    | false => rfl
    | true =>
      obtain ⟨p, hp, h3, _, h4⟩ := (crossB_iff n n).mp h2
      exact absurd h4 (((isPrime_iff n).mp h).2 p ((isPrime_iff p).mp h3).1 hp)
  | false =>
    obtain ⟨p, h1, h2, h3, h4⟩ := least_prime hn
    have hp2 := ((isPrime_iff p).mp h1).1
    have hne : p ≠ n := fun e => by rw [e, h] at h1; cases h1
    refine (crossB_iff n n).mpr ⟨p, by omega, h1, ?_, h3⟩
    obtain ⟨c, hc⟩ := Nat.dvd_of_mod_eq_zero h3
    have hc2 : 2 ≤ c := by
      rcases Nat.lt_or_ge c 2 with z | z
      · have : c = 0 ∨ c = 1 := by omega
        rcases this with rfl | rfl <;> omega
      · exact z
    have hcp : p ≤ c := by
      rcases Nat.lt_or_ge c p with z | z
      · exact absurd (Nat.mod_eq_zero_of_dvd ⟨p, by rw [Nat.mul_comm]; exact hc⟩) (h4 c hc2 z)
      · exact z
    calc p * p ≤ p * c := Nat.mul_le_mul_left _ hcp
      _ = n := hc.symm
theorem crossB_next (n m : Nat) : crossB (n + 1) m = (crossB n m || (isPrime n && (decide (n * n ≤ m) && decide (m % n = 0)))) := by
  unfold crossB
  rw [List.range_succ, List.any_append]
  simp
theorem filter_next (n : Nat) : (List.range (n + 1)).filter isPrime = (List.range n).filter isPrime ++ (if isPrime n = true then [n] else []) := by
  rw [List.range_succ, List.filter_append]
  congr 1
  cases h : isPrime n with
  | true => rw [if_pos rfl, List.filter_cons, if_pos h, List.filter_nil]
  | false => rw [if_neg (by decide), List.filter_cons, if_neg (by rw [h]; decide), List.filter_nil]
/-- crossed out so far, within the inner loop behind j turns -/
def crossJ (n j m : Nat) : Bool := crossB n m || (decide (n * n ≤ m) && (decide (m < n * n + j * n) && decide (m % n = 0)))
theorem crossJ_zero (n m : Nat) : crossJ n 0 m = crossB n m := by
  unfold crossJ
  cases crossB n m with
  | true => rfl
  | false =>
    rw [Bool.false_or]
    by_cases h : n * n ≤ m
    · rw [decide_eq_false (show ¬ m < n * n + 0 * n by omega)]
      simp
    · rw [decide_eq_false h]; rfl
theorem crossJ_next {n j m : Nat} (hn : 0 < n) : crossJ n (j + 1) m = if m = n * n + j * n then true else crossJ n j m := by
  unfold crossJ
  by_cases h : m = n * n + j * n
  · rw [if_pos h]
    have h1 : n * n ≤ m := by omega
    have h2 : m < n * n + (j + 1) * n := by rw [Nat.add_mul]; omega
    have h3 : m % n = 0 := by rw [h, ← Nat.add_mul, Nat.mul_mod_left]
    rw [decide_eq_true h1, decide_eq_true h2, decide_eq_true h3]
    simp
  · rw [if_neg h]
    congr 2
    by_cases h3 : m % n = 0
    · rw [decide_eq_true h3, Bool.and_true, Bool.and_true]
      have : (m < n * n + (j + 1) * n) ↔ (m < n * n + j * n) := by
        obtain ⟨c, hc⟩ := Nat.dvd_of_mod_eq_zero h3
        subst hc
        rw [Nat.mul_comm n c] at h ⊢
        rw [← Nat.add_mul, ← Nat.add_mul] at *
        rw [Nat.mul_lt_mul_right hn, Nat.mul_lt_mul_right hn]
        have : c ≠ n + j := fun e => h (by rw [e])
        omega
      exact decide_eq_decide.mpr this
    · rw [decide_eq_false h3, Bool.and_false, Bool.and_false]
theorem crossJ_end {n j m : Nat} (hp : isPrime n = true) (hm : m < n * n + j * n) : crossJ n j m = crossB (n + 1) m := by
  rw [crossB_next, hp]
  unfold crossJ
  rw [decide_eq_true hm, Bool.true_and, Bool.true_and]
theorem crossB_skip {n m : Nat} (hp : isPrime n = false) : crossB (n + 1) m = crossB n m := by
  rw [crossB_next, hp, Bool.false_and, Bool.or_false]
/-! ### the trial of a number -/
theorem mem_small {n : Nat} (h : n < 2000) : decide (n ∈ small) = isPrime n := by
  cases e : isPrime n with
  | true => exact decide_eq_true (List.mem_filter.mpr ⟨List.mem_range.mpr h, e⟩)
  | false => exact decide_eq_false fun m => by rw [(List.mem_filter.mp m).2] at e; cases e
theorem small_pos {p : Nat} (h : p ∈ small) : 2 ≤ p ∧ p < 2000 :=
  ⟨((isPrime_iff p).mp (List.mem_filter.mp h).2).1, List.mem_range.mp (List.mem_filter.mp h).1⟩
end Gk

/-! Rows of bytes; calls one behind another. -/
namespace Gk
open Sz28
def isByte (z : Int) : Prop := 0 ≤ z ∧ z < 256
def Row (l : List Int) : Prop := ∀ z ∈ l, isByte z
theorem octet_toNat {z : Int} (h : isByte z) : ((UInt8.ofNat z.toNat).toNat : Int) = z := by
  obtain ⟨h1, h2⟩ := h
  have : z.toNat < 256 := by omega
  rw [UInt8.toNat_ofNat_of_lt' (by simpa using this)]
  omega
/-- the number of a row, by its toInts -/
def bigI (l : List Int) : Int := l.foldl (fun v z => 256 * v + z) 0
theorem bigI_fold : ∀ (l : List Int) (a : Nat), Row l → l.foldl (fun v z => 256 * v + z) (a : Int) = (((Sz28Neutral.octets l).foldl (fun (v : Nat) (b : UInt8) => 256 * v + b.toNat) a : Nat) : Int)
  | [], a, _ => rfl
  | z :: l, a, h => by
    have hz : isByte z := h z (List.mem_cons_self)
    have e : 256 * (a : Int) + z = ((256 * a + (UInt8.ofNat z.toNat).toNat : Nat) : Int) := by
      rw [Int.natCast_add, octet_toNat hz]
      rfl
    show l.foldl _ (256 * (a : Int) + z) = (((Sz28Neutral.octets l).foldl _ (256 * a + (UInt8.ofNat z.toNat).toNat) : Nat) : Int)
    rw [e]
    exact bigI_fold l _ fun y hy => h y (List.mem_cons_of_mem _ hy)
theorem bigI_eq {l : List Int} (h : Row l) : bigI l = ((big (Sz28Neutral.octets l) : Nat) : Int) := bigI_fold l 0 h
theorem bigI_snoc (l : List Int) (z : Int) : bigI (l ++ [z]) = 256 * bigI l + z := by
  unfold bigI
  rw [List.foldl_append]
  rfl
theorem big_lt_fold : ∀ (l : Bytes) (a n : Nat), a < 256 ^ n → l.foldl (fun (v : Nat) (b : UInt8) => 256 * v + b.toNat) a < 256 ^ (n + l.length)
  | [], a, n, h => h
  | b :: l, a, n, h => by
    have hb := b.toNat_lt
    have := big_lt_fold l (256 * a + b.toNat) (n + 1) (by rw [Nat.pow_succ]; omega)
    have e : n + (b :: l).length = n + 1 + l.length := by rw [List.length_cons]; omega
    rw [e]
    exact this
theorem big_lt (l : Bytes) : big l < 256 ^ l.length := by
  have := big_lt_fold l 0 0 (by decide)
  rw [Nat.zero_add] at this
  exact this
theorem length_octets (l : List Int) : (Sz28Neutral.octets l).length = l.length := List.length_map ..
theorem length_bytesOf (n x : Nat) : (bytesOf n x).length = n := by
  unfold bytesOf
  rw [List.length_map, List.length_range]
/-- bytes as the answers tell them -/
def toInts (l : Bytes) : List Int := l.map fun b => (b.toNat : Int)
theorem ints_bytesOf (n x : Nat) : toInts (bytesOf n x) = (List.range n).map fun (i : Nat) => ((x / 2 ^ (8 * (n - 1 - i)) % 256 : Nat) : Int) := by
  unfold toInts bytesOf
  rw [List.map_map]
  refine List.map_congr_left fun i _ => ?_
  show (((UInt8.ofNat (x / 256 ^ (n - 1 - i) % 256)).toNat : Nat) : Int) = _
  rw [UInt8.toNat_ofNat_of_lt' (by have := Nat.mod_lt (x / 256 ^ (n - 1 - i)) (show 0 < 256 by decide); simpa using this), Nat.pow_mul]
theorem octets_ints (l : Bytes) : Sz28Neutral.octets (toInts l) = l := by
  unfold Sz28Neutral.octets toInts
  rw [List.map_map]
  conv => rhs; rw [← List.map_id l]
  refine List.map_congr_left fun b _ => ?_
  show UInt8.ofNat ((b.toNat : Int)).toNat = b
  simp
theorem ints_octets {l : List Int} (h : Row l) : toInts (Sz28Neutral.octets l) = l := by
  unfold Sz28Neutral.octets toInts
  rw [List.map_map]
  conv => rhs; rw [← List.map_id l]
  exact List.map_congr_left fun z hz => octet_toNat (h z hz)
theorem row_ints (l : Bytes) : Row (toInts l) := fun z hz => by
  obtain ⟨b, _, rfl⟩ := List.mem_map.mp hz
  have := b.toNat_lt
  exact ⟨by omega, by omega⟩
theorem ints_append (a b : Bytes) : toInts (a ++ b) = toInts a ++ toInts b := List.map_append ..
theorem octets_append (a b : List Int) : Sz28Neutral.octets (a ++ b) = Sz28Neutral.octets a ++ Sz28Neutral.octets b := List.map_append ..
theorem ints_length (a : Bytes) : (toInts a).length = a.length := List.length_map ..
theorem big_snoc (l : Bytes) (b : UInt8) : big (l ++ [b]) = 256 * big l + b.toNat := by
  unfold big
  rw [List.foldl_append]
  rfl
/-- a number back from its bytes -/
theorem bytesOf_succ (n x : Nat) : bytesOf (n + 1) x = bytesOf n (x / 256) ++ [UInt8.ofNat (x % 256)] := by
  unfold bytesOf
  rw [List.range_succ, List.map_append]
  congr 1
  · refine List.map_congr_left fun i hi => ?_
    have hi := List.mem_range.mp hi
    have e : n + 1 - 1 - i = (n - 1 - i) + 1 := by omega
    rw [e, Nat.pow_succ, Nat.mul_comm (256 ^ (n - 1 - i)) 256, Nat.div_div_eq_div_mul]
  · simp
theorem big_bytesOf : ∀ (n x : Nat), x < 256 ^ n → big (bytesOf n x) = x
  | 0, x, h => by
    have : x = 0 := by rw [Nat.pow_zero] at h; omega
    subst this; rfl
  | n + 1, x, h => by
    rw [bytesOf_succ, big_snoc, big_bytesOf n (x / 256) (by rw [Nat.pow_succ] at h; omega), UInt8.toNat_ofNat_of_lt' (by have := Nat.mod_lt x (show 0 < 256 by decide); simpa using this)]
    omega
end Gk

/-! The calls of a line, one behind another. -/
namespace Gk
open Sz28
theorem row_of_all {c : List Int} (h : (c.all fun (z : Int) => Sz28Neutral.natural z 8) = true) : Row c := fun z hz => by
  have h1 := List.all_eq_true.mp h z hz
  unfold Sz28Neutral.natural at h1
  rw [Bool.and_eq_true, decide_eq_true_iff, decide_eq_true_iff] at h1
  exact ⟨h1.1, by have := h1.2; omega⟩
theorem whole32_iff {z : Int} : Sz28Neutral.whole32 z = true ↔ -2147483648 ≤ z ∧ z < 2147483648 := by
  unfold Sz28Neutral.whole32
  rw [Bool.and_eq_true, decide_eq_true_iff, decide_eq_true_iff]
  exact Iff.rfl
theorem natural32_iff {z : Int} : Sz28Neutral.natural z 32 = true ↔ 0 ≤ z ∧ z < 4294967296 := by
  unfold Sz28Neutral.natural
  rw [Bool.and_eq_true, decide_eq_true_iff, decide_eq_true_iff]
  exact Iff.rfl
/-- how many bytes there are of a size -/
def sizeN (z : Int) : Int := if z = 128 ∨ z = 256 ∨ z = 384 ∨ z = 512 then z else 0
/-- **the eight calls**, as they may be handed in -/
inductive Kind : List (List Int) → Prop
  | key (z e : Int) (n : List Int) (hz : -2147483648 ≤ z ∧ z < 2147483648) (he : 0 ≤ e ∧ e < 4294967296) (hn : Row n) (hl : (n.length : Int) = sizeN z) : Kind [[1, z, e], n]
  | make (z e : Int) (p q : List Int) (hz : -2147483648 ≤ z ∧ z < 2147483648) (he : 0 ≤ e ∧ e < 4294967296) (hp : Row p) (hq : Row q) (hpl : (p.length : Int) = sizeN z / 2) (hql : (q.length : Int) = sizeN z / 2) : Kind [[2, z, e], p, q]
  | numbers : Kind [[3]]
  | prime (z r : Int) (n : List Int) (hz : -2147483648 ≤ z ∧ z < 2147483648) (hr : -2147483648 ≤ r ∧ r < 2147483648) (hn : Row n) (hl : (n.length : Int) = sizeN z) : Kind [[4, z, r], n]
  | sign (w : Int) (m t : List Int) (hw : -2147483648 ≤ w ∧ w < 2147483648) (hm : Row m) (ht : Row t) (hl : m.length ≤ 16777216) (htl : t.length = 32) : Kind [[5, w], m, t]
  | check (w : Int) (m t : List Int) (hw : -2147483648 ≤ w ∧ w < 2147483648) (hm : Row m) (ht : Row t) (hl : m.length ≤ 16777216) (htl : t.length = 512) : Kind [[6, w], m, t]
  | seals (b m t : List Int) (hb : Row b) (hm : Row m) (ht : Row t) (hbl : b.length ≤ 16777216) (hl : m.length ≤ 16777216) (htl : t.length = 32) : Kind [[7], b, m, t]
  | unseals (b t : List Int) (hb : Row b) (ht : Row t) (hbl : b.length ≤ 16777216) (htl : t.length = 512) : Kind [[8], b, t]
theorem long_of {l : List Int} (h : Sz28Neutral.long l (l.length : Int) 0 16777216 = true) : l.length ≤ 16777216 := by
  unfold Sz28Neutral.long at h
  have h1 := of_decide_eq_true h
  by_cases q : (0 : Int) ≤ (l.length : Int) ∧ (l.length : Int) ≤ 16777216
  · omega
  · rw [if_neg q] at h1; omega
theorem long_just {l : List Int} {k : Nat} (h : Sz28Neutral.long l (k : Int) (k : Int) (k : Int) = true) : l.length = k := by
  unfold Sz28Neutral.long at h
  have h1 := of_decide_eq_true h
  rw [if_pos ⟨Int.le_refl _, Int.le_refl _⟩] at h1
  omega
theorem len0 {α : Type} {l : List α} (h : l.length = 0) : l = [] := List.eq_nil_of_length_eq_zero h
theorem len1 {α : Type} {l : List α} (h : l.length = 1) : ∃ a, l = [a] := by
  match l, h with
  | [a], _ => exact ⟨a, rfl⟩
theorem len2 {α : Type} {l : List α} (h : l.length = 2) : ∃ a b, l = [a, b] := by
  match l, h with
  | [a, b], _ => exact ⟨a, b, rfl⟩
theorem len3 {α : Type} {l : List α} (h : l.length = 3) : ∃ a b c, l = [a, b, c] := by
  match l, h with
  | [a, b, c], _ => exact ⟨a, b, c, rfl⟩
theorem kind_of {c : List (List Int)} (ok : PyFlat.okCall PySz28.shape c) (as : Sz28Neutral.asked1 (PySz28.whole c) = true) : Kind c := by
  obtain ⟨p, a, xs, rfl, hs⟩ := ok
  unfold PySz28.shape at hs
  by_cases h1 : p = 1
  · subst h1
    rw [if_pos rfl] at hs
    obtain ⟨e1, e2⟩ := Prod.mk.inj (Option.some.inj hs)
    obtain ⟨x, y, rfl⟩ := len2 e1.symm
    obtain ⟨r, rfl⟩ := len1 e2.symm
    have q : (Sz28Neutral.whole32 x && (Sz28Neutral.natural y 32 && (r.all (fun (z : Int) => Sz28Neutral.natural z 8) && decide ((r.length : Int) = if x = 128 ∨ x = 256 ∨ x = 384 ∨ x = 512 then x else 0)))) = true := as
    rw [Bool.and_eq_true, Bool.and_eq_true, Bool.and_eq_true, decide_eq_true_iff] at q
    exact .key x y r (whole32_iff.mp q.1) (natural32_iff.mp q.2.1) (row_of_all q.2.2.1) q.2.2.2
  · rw [if_neg h1] at hs
    by_cases h2 : p = 2
    · subst h2
      rw [if_pos rfl] at hs
      obtain ⟨e1, e2⟩ := Prod.mk.inj (Option.some.inj hs)
      obtain ⟨x, y, rfl⟩ := len2 e1.symm
      obtain ⟨r, r', rfl⟩ := len2 e2.symm
      have q : (Sz28Neutral.whole32 x && (Sz28Neutral.natural y 32 && ((r.all (fun (z : Int) => Sz28Neutral.natural z 8) && decide ((r.length : Int) = if x = 128 ∨ x = 256 ∨ x = 384 ∨ x = 512 then x / 2 else 0)) && (r'.all (fun (z : Int) => Sz28Neutral.natural z 8) && decide ((r'.length : Int) = if x = 128 ∨ x = 256 ∨ x = 384 ∨ x = 512 then x / 2 else 0))))) = true := as
      rw [Bool.and_eq_true, Bool.and_eq_true, Bool.and_eq_true, Bool.and_eq_true, Bool.and_eq_true, decide_eq_true_iff, decide_eq_true_iff] at q
      have hh : (if x = 128 ∨ x = 256 ∨ x = 384 ∨ x = 512 then x / 2 else 0) = sizeN x / 2 := by
        unfold sizeN
        by_cases w : x = 128 ∨ x = 256 ∨ x = 384 ∨ x = 512
        · rw [if_pos w, if_pos w]
        · rw [if_neg w, if_neg w]; rfl
      rw [hh] at q
      exact .make x y r r' (whole32_iff.mp q.1) (natural32_iff.mp q.2.1) (row_of_all q.2.2.1.1) (row_of_all q.2.2.2.1) q.2.2.1.2 q.2.2.2.2
    · rw [if_neg h2] at hs
      by_cases h3 : p = 3
      · subst h3
        rw [if_pos rfl] at hs
        obtain ⟨e1, e2⟩ := Prod.mk.inj (Option.some.inj hs)
        rw [len0 e1.symm, len0 e2.symm]
        exact .numbers
      · rw [if_neg h3] at hs
        by_cases h4 : p = 4
        · subst h4
          rw [if_pos rfl] at hs
          obtain ⟨e1, e2⟩ := Prod.mk.inj (Option.some.inj hs)
          obtain ⟨x, y, rfl⟩ := len2 e1.symm
          obtain ⟨r, rfl⟩ := len1 e2.symm
          have q : (Sz28Neutral.whole32 x && (Sz28Neutral.whole32 y && (r.all (fun (z : Int) => Sz28Neutral.natural z 8) && decide ((r.length : Int) = if x = 128 ∨ x = 256 ∨ x = 384 ∨ x = 512 then x else 0)))) = true := as
          rw [Bool.and_eq_true, Bool.and_eq_true, Bool.and_eq_true, decide_eq_true_iff] at q
          exact .prime x y r (whole32_iff.mp q.1) (whole32_iff.mp q.2.1) (row_of_all q.2.2.1) q.2.2.2
        · rw [if_neg h4] at hs
          by_cases h5 : p = 5
          · subst h5
            rw [if_pos rfl] at hs
            obtain ⟨e1, e2⟩ := Prod.mk.inj (Option.some.inj hs)
            obtain ⟨x, rfl⟩ := len1 e1.symm
            obtain ⟨r, r', rfl⟩ := len2 e2.symm
            have q : (Sz28Neutral.whole32 x && (Sz28Neutral.whole32 (r.length : Int) && ((r.all (fun (z : Int) => Sz28Neutral.natural z 8) && Sz28Neutral.long r (r.length : Int) 0 16777216) && (r'.all (fun (z : Int) => Sz28Neutral.natural z 8) && Sz28Neutral.long r' 32 32 32)))) = true := as
            rw [Bool.and_eq_true, Bool.and_eq_true, Bool.and_eq_true, Bool.and_eq_true, Bool.and_eq_true] at q
            exact .sign x r r' (whole32_iff.mp q.1) (row_of_all q.2.2.1.1) (row_of_all q.2.2.2.1) (long_of q.2.2.1.2) (long_just (k := 32) q.2.2.2.2)
          · rw [if_neg h5] at hs
            by_cases h6 : p = 6
            · subst h6
              rw [if_pos rfl] at hs
              obtain ⟨e1, e2⟩ := Prod.mk.inj (Option.some.inj hs)
              obtain ⟨x, rfl⟩ := len1 e1.symm
              obtain ⟨r, r', rfl⟩ := len2 e2.symm
              have q : (Sz28Neutral.whole32 x && (Sz28Neutral.whole32 (r.length : Int) && ((r.all (fun (z : Int) => Sz28Neutral.natural z 8) && Sz28Neutral.long r (r.length : Int) 0 16777216) && (r'.all (fun (z : Int) => Sz28Neutral.natural z 8) && Sz28Neutral.long r' 512 512 512)))) = true := as
              rw [Bool.and_eq_true, Bool.and_eq_true, Bool.and_eq_true, Bool.and_eq_true, Bool.and_eq_true] at q
              exact .check x r r' (whole32_iff.mp q.1) (row_of_all q.2.2.1.1) (row_of_all q.2.2.2.1) (long_of q.2.2.1.2) (long_just (k := 512) q.2.2.2.2)
            · rw [if_neg h6] at hs
              by_cases h7 : p = 7
              · subst h7
                rw [if_pos rfl] at hs
                obtain ⟨e1, e2⟩ := Prod.mk.inj (Option.some.inj hs)
                rw [len0 e1.symm] at as ⊢
                obtain ⟨r, r', r'', rfl⟩ := len3 e2.symm
                have q : (Sz28Neutral.whole32 (r.length : Int) && (Sz28Neutral.whole32 (r'.length : Int) && ((r.all (fun (z : Int) => Sz28Neutral.natural z 8) && Sz28Neutral.long r (r.length : Int) 0 16777216) && ((r'.all (fun (z : Int) => Sz28Neutral.natural z 8) && Sz28Neutral.long r' (r'.length : Int) 0 16777216) && (r''.all (fun (z : Int) => Sz28Neutral.natural z 8) && Sz28Neutral.long r'' 32 32 32))))) = true := as
                rw [Bool.and_eq_true, Bool.and_eq_true, Bool.and_eq_true, Bool.and_eq_true, Bool.and_eq_true, Bool.and_eq_true, Bool.and_eq_true] at q
                exact .seals r r' r'' (row_of_all q.2.2.1.1) (row_of_all q.2.2.2.1.1) (row_of_all q.2.2.2.2.1) (long_of q.2.2.1.2) (long_of q.2.2.2.1.2) (long_just (k := 32) q.2.2.2.2.2)
              · rw [if_neg h7] at hs
                by_cases h8 : p = 8
                · subst h8
                  rw [if_pos rfl] at hs
                  obtain ⟨e1, e2⟩ := Prod.mk.inj (Option.some.inj hs)
                  rw [len0 e1.symm] at as ⊢
                  obtain ⟨r, r', rfl⟩ := len2 e2.symm
                  have q : (Sz28Neutral.whole32 (r.length : Int) && ((r.all (fun (z : Int) => Sz28Neutral.natural z 8) && Sz28Neutral.long r (r.length : Int) 0 16777216) && (r'.all (fun (z : Int) => Sz28Neutral.natural z 8) && Sz28Neutral.long r' 512 512 512))) = true := as
                  rw [Bool.and_eq_true, Bool.and_eq_true, Bool.and_eq_true, Bool.and_eq_true] at q
                  exact .unseals r r' (row_of_all q.2.1.1) (row_of_all q.2.2.1) (long_of q.2.1.2) (long_just (k := 512) q.2.2.2)
                · rw [if_neg h8] at hs; cases hs
/-! ### the specification, call by call -/
abbrev stp (s : St) (c : List (List Int)) : St × List Int := Sz28Neutral.step s (PySz28.whole c)
/-- what is answered to the calls from a state on -/
def run (s : St) : List (List (List Int)) → List Int
  | [] => []
  | c :: r => ((stp s c).2.length : Int) :: (stp s c).2 ++ run (stp s c).1 r
theorem told_run : ∀ (cs : List (List (List Int))) (s : St), PyFlat.told (PyFlat.played Sz28Neutral.step s (cs.map PySz28.whole)) = run s cs
  | [], _ => rfl
  | c :: r, s => by
    have ih := told_run r (stp s c).1
    show ((stp s c).2.length : Int) :: ((stp s c).2 ++ PyFlat.told (PyFlat.played Sz28Neutral.step (stp s c).1 (r.map PySz28.whole))) = _
    rw [ih]
    rfl
theorem asked_split {l : List Int} (h : PySz28.answers_asked l = true) :
    ∃ cs, l = PyFlat.put cs ∧ cs.length ≤ 100 ∧ (∀ c ∈ cs, Kind c) ∧ PySz28.answers l = run none cs := by
  unfold PySz28.answers_asked at h
  unfold PySz28.answers
  cases e : PySz28.calls l with
  | none => rw [e] at h; cases h
  | some ds =>
    rw [e] at h
    have e0 := e
    unfold PySz28.calls at e
    cases e2 : PyFlat.calls PySz28.shape l.length l with
    | none => rw [e2] at e; cases e
    | some cs =>
      rw [e2] at e
      have e3 : cs.map PySz28.whole = ds := Option.some.inj e
      subst e3
      obtain ⟨h1, h2⟩ := PyFlat.put_calls _ _ _ e2
      have h3 : (PyFlat.atMost 100 (cs.map PySz28.whole) && Sz28Neutral.asked (cs.map PySz28.whole)) = true := h
      rw [Bool.and_eq_true] at h3
      have h4 := h3.2
      unfold Sz28Neutral.asked at h4
      rw [Bool.and_eq_true] at h4
      have h5 := of_decide_eq_true h3.1
      rw [List.length_map] at h5
      refine ⟨cs, h1, h5, fun c hc => kind_of (h2 c hc) ?_, told_run cs none⟩
      exact List.all_eq_true.mp h4.1 _ (List.mem_map_of_mem hc)
/-! ### walking a list from its front -/
theorem drop_cons {l r : List Int} {k : Nat} {x : Int} (h : l.drop k = x :: r) : l[k]? = some x ∧ l.drop (k + 1) = r := by
  constructor
  · rw [← List.head?_drop, h]; rfl
  · rw [← List.drop_drop, h]; rfl
theorem drop_row {l r x : List Int} {k : Nat} (h : l.drop k = PyFlat.putRow x ++ r) : l[k]? = some (x.length : Int) ∧ (l.drop (k + 1)).take x.length = x ∧ l.drop (k + 1 + x.length) = r ∧ k + 1 + x.length ≤ l.length := by
  have h' : l.drop k = (x.length : Int) :: (x ++ r) := h
  obtain ⟨h1, h2⟩ := drop_cons h'
  refine ⟨h1, ?_, ?_, ?_⟩
  · rw [h2]; exact PyFlat.take_len x r
  · rw [← List.drop_drop, h2]; exact PyFlat.drop_len x r
  · have h3 := congrArg List.length h'
    rw [List.length_drop, List.length_cons, List.length_append] at h3
    omega
end Gk

/-! SHA-256 as the specification tells it: lengths, bounds, blocks one after another. -/
namespace Gk
open Sz28
theorem W_eq : W = 4294967296 := by decide
theorem padded_length (m : Bytes) : (padded m).length = 64 * ((m.length + 72) / 64) := by
  unfold padded
  rw [List.length_append, List.length_cons, List.length_append, List.length_replicate, length_bytesOf]
  omega
/-- one block -/
@[irreducible] def blockStep (v : List Nat) (b : Bytes) : List Nat := (v.zip ((keys.zip (schedule b)).foldl round v)).map fun p => (p.1 + p.2) % W
theorem blocks_next (k : Nat) (m : Bytes) (v : List Nat) (h : m ≠ []) : blocks (k + 1) m v = blocks k (m.drop 64) (blockStep v (m.take 64)) := by
  unfold blockStep
  rw [blocks, if_neg h]
theorem blocks_nil (k : Nat) (v : List Nat) : blocks k [] v = v := by
  cases k with
  | zero => rw [blocks]
  | succ k => rw [blocks, if_pos rfl]
theorem blocks_fold (j : Nat) : ∀ (k : Nat) (m : Bytes) (v : List Nat), m.length = 64 * j → j ≤ k → blocks k m v = (List.range j).foldl (fun v i => blockStep v ((m.drop (64 * i)).take 64)) v := by
  induction j with
  | zero =>
    intro k m v h _
    have e : m = [] := List.eq_nil_of_length_eq_zero (by omega)
    subst e
    rw [blocks_nil, List.range_zero, List.foldl_nil]
  | succ j ih =>
    intro k m v h hk
    obtain ⟨k, rfl⟩ : ∃ k', k = k' + 1 := ⟨k - 1, by omega⟩
    have hne : m ≠ [] := fun e => by subst e; simp at h
    rw [blocks_next k m v hne, ih k (m.drop 64) _ (by rw [List.length_drop]; omega) (by omega), List.range_succ_eq_map, List.foldl_cons, List.foldl_map]
    have e0 : (m.drop (64 * 0)).take 64 = m.take 64 := by simp
    rw [e0]
    congr 1
    funext v i
    rw [List.drop_drop, Nat.succ_eq_add_one, Nat.mul_add, Nat.add_comm 64]
theorem sha_fold (m : Bytes) : sha m = ((List.range ((m.length + 72) / 64)).foldl (fun v i => blockStep v (((padded m).drop (64 * i)).take 64)) starts).flatMap (bytesOf 4) := by
  unfold sha
  rw [blocks_fold ((m.length + 72) / 64) _ (padded m) starts (padded_length m) (by omega)]
theorem round_length (v : List Nat) (kw : Nat × Nat) : (round v kw).length = 8 := rfl
theorem fold_round_length : ∀ (l : List (Nat × Nat)) (v : List Nat), v.length = 8 → (l.foldl round v).length = 8
  | [], _, h => h
  | _ :: l, v, _ => fold_round_length l _ (round_length v _)
theorem blockStep_length {v : List Nat} (h : v.length = 8) (b : Bytes) : (blockStep v b).length = 8 := by
  unfold blockStep
  rw [List.length_map, List.length_zip, fold_round_length _ _ h, h]
  rfl
theorem fold_length {f : List Nat → Nat → List Nat} (hf : ∀ v i, v.length = 8 → (f v i).length = 8) : ∀ (l : List Nat) (v : List Nat), v.length = 8 → (l.foldl f v).length = 8
  | [], _, h => h
  | i :: l, v, h => fold_length hf l _ (hf v i h)
theorem starts_length : starts.length = 8 := by decide +kernel
theorem keys_length : keys.length = 64 := by decide +kernel
theorem flat4_length : ∀ l : List Nat, (l.flatMap (bytesOf 4)).length = 4 * l.length
  | [] => rfl
  | x :: l => by
    rw [List.flatMap_cons, List.length_append, flat4_length l, length_bytesOf, List.length_cons]
    omega
theorem sha_length (m : Bytes) : (sha m).length = 32 := by
  rw [sha_fold, flat4_length, fold_length (fun v i h => blockStep_length h _) _ _ starts_length]
theorem flatC_length {f : Nat → Bytes} {c : Nat} (hf : ∀ i, (f i).length = c) : ∀ l : List Nat, (l.flatMap f).length = c * l.length
  | [] => rfl
  | x :: l => by
    rw [List.flatMap_cons, List.length_append, flatC_length hf l, hf, List.length_cons, Nat.mul_add]
    omega
theorem mask_length (seed : Bytes) (n : Nat) : (mask seed n).length = n := by
  unfold mask
  rw [List.length_take, flatC_length (c := 32) (fun i => sha_length _), List.length_range]
  omega
theorem mix_length (a b : Bytes) : (mix a b).length = min a.length b.length := by
  unfold mix
  rw [List.length_map, List.length_zip]
/-! ### turned words -/
theorem turned_lt {x k : Nat} (hx : x < 2 ^ 32) (hk : k ≤ 32) : turned x k < 2 ^ 32 := by
  unfold turned
  have h1 : x / 2 ^ k < 2 ^ (32 - k) := by
    rw [Nat.div_lt_iff_lt_mul (Nat.two_pow_pos k), ← Nat.pow_add]
    have : 32 - k + k = 32 := by omega
    rw [this]; exact hx
  have h2 : x % 2 ^ k < 2 ^ k := Nat.mod_lt _ (Nat.two_pow_pos k)
  have h3 : x % 2 ^ k * 2 ^ (32 - k) + 2 ^ (32 - k) ≤ 2 ^ k * 2 ^ (32 - k) := by
    rw [← Nat.succ_mul]
    exact Nat.mul_le_mul_right _ h2
  have h4 : 2 ^ k * 2 ^ (32 - k) = 2 ^ 32 := by
    rw [← Nat.pow_add]
    congr 1
    omega
  omega
theorem low_turn {x k : Nat} (hx : x < 2 ^ 32) (hk : k ≤ 32) : x * 2 ^ (32 - k) % 2 ^ 32 = x % 2 ^ k * 2 ^ (32 - k) := by
  have h4 : 2 ^ 32 = 2 ^ k * 2 ^ (32 - k) := by
    rw [← Nat.pow_add]
    congr 1
    omega
  rw [h4, Nat.mul_mod_mul_right]
theorem turned_or {x k : Nat} (hx : x < 2 ^ 32) (hk : k ≤ 32) : turned x k = (x / 2 ^ k) ||| (x * 2 ^ (32 - k) % 2 ^ 32) := by
  unfold turned
  rw [low_turn hx hk]
  have h1 : x / 2 ^ k < 2 ^ (32 - k) := by
    rw [Nat.div_lt_iff_lt_mul (Nat.two_pow_pos k), ← Nat.pow_add]
    have : 32 - k + k = 32 := by omega
    rw [this]; exact hx
  rw [Nat.or_comm, Nat.mul_comm (x % 2 ^ k), ← Nat.two_pow_add_eq_or_of_lt h1]
  omega
end Gk

/-! Keys: what is put together, and what holds of a key. -/
namespace Gk
open Sz28
def Sized (k : Nat) : Prop := k = 128 ∨ k = 256 ∨ k = 384 ∨ k = 512
theorem Sized.pos {k : Nat} (h : Sized k) : 128 ≤ k ∧ k ≤ 512 := by rcases h with h | h | h | h <;> omega
theorem sized_toNat {z : Int} (h : sized z) : ∃ k : Nat, z = (k : Int) ∧ Sized k := by
  rcases h with h | h | h | h
  · exact ⟨128, h, .inl rfl⟩
  · exact ⟨256, h, .inr (.inl rfl)⟩
  · exact ⟨384, h, .inr (.inr (.inl rfl))⟩
  · exact ⟨512, h, .inr (.inr (.inr rfl))⟩
structure KeyOk (k : Key) : Prop where
  size : Sized k.size
  bits : bitsOf k.n = 8 * k.size
  e : k.e < 2 ^ 32
  d : k.d < k.n
theorem KeyOk.lt {k : Key} (h : KeyOk k) : k.n < 2 ^ (8 * k.size) := by
  have := bitsOf_le k.n
  rw [h.bits] at this
  exact this
theorem KeyOk.lo {k : Key} (h : KeyOk k) : 2 ^ (8 * k.size - 1) ≤ k.n := by
  have hs := h.size.pos
  have e : 8 * k.size = (8 * k.size - 1) + 1 := by omega
  have hb := h.bits
  rw [e] at hb
  exact ((bitsOf_eq_iff _ _).mp hb).1
theorem KeyOk.gt {k : Key} (h : KeyOk k) : 1 < k.n := by
  have hs := h.size.pos
  have h1 := h.lo
  have h2 : 2 ^ 1 ≤ 2 ^ (8 * k.size - 1) := Nat.pow_le_pow_right (by decide) (by omega)
  omega
def StOk : St → Prop
  | none => True
  | some k => KeyOk k
/-- the two primes are great if their product is -/
theorem factors_gt {p q s : Nat} (hs : 4 ≤ s) (hp : p < 256 ^ (s / 2)) (hq : q < 256 ^ (s / 2)) (h2 : s % 2 = 0) (hb : bitsOf (p * q) = 8 * s) : 2 ≤ p ∧ 2 ≤ q := by
  have e : 8 * s = (8 * s - 1) + 1 := by omega
  rw [e] at hb
  have h1 := ((bitsOf_eq_iff _ _).mp hb).1
  have h3 : 256 ^ (s / 2) = 2 ^ (4 * s) := by
    have : 256 = 2 ^ 8 := rfl
    rw [this, ← Nat.pow_mul]
    congr 1
    omega
  rw [h3] at hp hq
  have h4 : 2 ^ (4 * s) ≤ 2 ^ (8 * s - 1) := Nat.pow_le_pow_right (by decide) (by omega)
  constructor
  · rcases Nat.lt_or_ge p 2 with z | z
    · have : p * q ≤ 1 * q := Nat.mul_le_mul_right _ (by omega)
      omega
    · exact z
  · rcases Nat.lt_or_ge q 2 with z | z
    · have : p * q ≤ p * 1 := Nat.mul_le_mul_left _ (by omega)
      omega
    · exact z
def lcmN (a b : Nat) : Nat := a / Nat.gcd a b * b
theorem lcmN_pos {a b : Nat} (ha : 0 < a) (hb : 0 < b) : 0 < lcmN a b := by
  unfold lcmN
  have h1 : Nat.gcd a b ≤ a := Nat.gcd_le_left b ha
  have h2 : 0 < Nat.gcd a b := Nat.gcd_pos_of_pos_left b ha
  exact Nat.mul_pos (Nat.div_pos h1 h2) hb
theorem lcmN_le {a b : Nat} : lcmN a b ≤ a * b := Nat.mul_le_mul_right _ (Nat.div_le_self _ _)
/-- **a key put together**, in the order in which one may look -/
theorem together_eq (size p q e : Nat) : together size p q e =
    if p = q ∨ bitsOf (p * q) ≠ 8 * size then none else match inverse (lcmN (p - 1) (q - 1)) e with
      | none => none
      | some d => if prime p 20 = true ∧ prime q 20 = true then some ⟨size, p * q, e, d⟩ else none := by
  unfold together
  have hl : (p - 1) * (q - 1) / Nat.gcd (p - 1) (q - 1) = lcmN (p - 1) (q - 1) := (lcm_eq _ _).symm
  simp only [hl]
  by_cases h : p = q ∨ bitsOf (p * q) ≠ 8 * size
  · rw [if_pos h, if_pos (h.elim .inl fun z => .inr (.inr (.inr z)))]
  · rw [if_neg h]
    have h1 : p ≠ q := fun z => h (.inl z)
    have h2 : ¬ bitsOf (p * q) ≠ 8 * size := fun z => h (.inr z)
    cases hi : inverse (lcmN (p - 1) (q - 1)) e with
    | none => split <;> rfl
    | some d =>
      by_cases hp : prime p 20 = true ∧ prime q 20 = true
      · rw [if_neg (by rintro (z | z | z | z); exact h1 z; rw [hp.1] at z; cases z; rw [hp.2] at z; cases z; exact h2 z)]
        simp only [Option.map_some]
        rw [if_pos hp]
      · rw [if_pos]
        · simp only
          rw [if_neg hp]
        · cases a : prime p 20 with
          | false => exact .inr (.inl rfl)
          | true => cases b : prime q 20 with
            | false => exact .inr (.inr (.inl rfl))
            | true => exact absurd ⟨a, b⟩ hp
theorem inverse_lt {m a d : Nat} (hm : 0 < m) (h : inverse m a = some d) : d < m := by
  unfold inverse at h
  simp only at h
  split at h
  · have e := Option.some.inj h
    subst e
    have h1 := Int.emod_nonneg (euclid (2 * Nat.log2 (m + 1) + 4) (m : Int) ((a : Int) % (m : Int)) 0 1).2 (show (m : Int) ≠ 0 by omega)
    have h2 := Int.emod_lt_of_pos (euclid (2 * Nat.log2 (m + 1) + 4) (m : Int) ((a : Int) % (m : Int)) 0 1).2 (show (0 : Int) < (m : Int) by omega)
    have h3 : ∀ z : Int, 0 ≤ z → z < (m : Int) → z.toNat < m := fun z _ _ => by omega
    exact h3 _ h1 h2
  · cases h
theorem together_ok {size p q e : Nat} {k : Key} (hs : Sized size) (hp : p < 256 ^ (size / 2)) (hq : q < 256 ^ (size / 2)) (he : e < 2 ^ 32) (h : together size p q e = some k) : KeyOk k := by
  rw [together_eq] at h
  split at h
  · cases h
  · rename_i hc
    have h2 : bitsOf (p * q) = 8 * size := by
      rcases Nat.decEq (bitsOf (p * q)) (8 * size) with z | z
      · exact absurd (.inr z) hc
      · exact z
    obtain ⟨gp, gq⟩ := factors_gt (by have := hs.pos; omega) hp hq (by rcases hs with z | z | z | z <;> omega) h2
    split at h
    · cases h
    · rename_i d hi
      split at h
      · have e := Option.some.inj h
        subst e
        refine ⟨hs, h2, he, ?_⟩
        have h3 := inverse_lt (lcmN_pos (show 0 < p - 1 by omega) (show 0 < q - 1 by omega)) hi
        have h4 : lcmN (p - 1) (q - 1) ≤ (p - 1) * (q - 1) := lcmN_le
        have h5 : (p - 1) * (q - 1) ≤ p * q := Nat.mul_le_mul (by omega) (by omega)
        show d < p * q
        omega
      · cases h
theorem exponent_iff (e : Nat) : exponent e = true ↔ 3 ≤ e ∧ e % 2 = 1 := by
  unfold exponent
  rw [Bool.and_eq_true, decide_eq_true_iff, beq_iff_eq]
end Gk

/-! What each call answers, in plain lists. -/
namespace Gk
open Sz28
abbrev ob (l : List Int) : Bytes := Sz28Neutral.octets l
theorem tell_eq (y : St × Ans) : (y.1, y.2.value :: (y.2.first ++ y.2.second).map fun (b : UInt8) => (b.toNat : Int)) = (y.1, y.2.value :: (toInts y.2.first ++ toInts y.2.second)) := by
  rw [List.map_append]
  rfl
theorem stp_key (s : St) (z e : Int) (n : List Int) : stp s [[1, z, e], n] =
    if ¬ sized z ∨ exponent e.toNat = false ∨ bitsOf (big (ob n)) ≠ 8 * z.toNat ∨ big (ob n) % 2 = 0 then (none, [-1]) else (some ⟨z.toNat, big (ob n), e.toNat, 0⟩, [0]) := by
  show ((does s (.key z (ob n) e.toNat)).1, _ :: _) = _
  rw [tell_eq]
  unfold does
  dsimp only
  split <;> rfl
theorem stp_make (s : St) (z e : Int) (p q : List Int) : stp s [[2, z, e], p, q] =
    if ¬ sized z ∨ exponent e.toNat = false then (none, [-1]) else match together z.toNat (big (ob p)) (big (ob q)) e.toNat with
      | some k => (some k, [0])
      | none => (none, [-3]) := by
  show ((does s (.make z (ob p) (ob q) e.toNat)).1, _ :: _) = _
  rw [tell_eq]
  unfold does
  dsimp only
  split
  · rfl
  · cases together z.toNat (big (ob p)) (big (ob q)) e.toNat <;> rfl
theorem stp_numbers (s : St) : stp s [[3]] = (s, match s with
    | some k => (k.size : Int) :: (toInts (bytesOf k.size k.n) ++ toInts (bytesOf k.size k.d))
    | none => [-2]) := by
  show ((does s .numbers).1, _ :: _) = _
  rw [tell_eq]
  cases s <;> rfl
theorem stp_prime (s : St) (z r : Int) (n : List Int) : stp s [[4, z, r], n] = (s, if ¬ sized z ∨ r < 1 ∨ 40 < r then [-1] else [((prime (big (ob n)) r.toNat).toNat : Int)]) := by
  show ((does s (.prime z (ob n) r)).1, _ :: _) = _
  rw [tell_eq]
  unfold does
  dsimp only
  split <;> rfl
theorem most_le {l : List Int} (h : l.length ≤ 16777216) : ¬ ((l.length : Int) < 0 ∨ MOST < (l.length : Int)) := by
  unfold MOST
  omega
theorem stp_sign (s : St) (w : Int) (m t : List Int) (hl : m.length ≤ 16777216) : stp s [[5, w], m, t] = (s, match s with
    | some k => if w < 0 ∨ 1 < w then [-1] else if k.d = 0 then [-4] else (k.size : Int) :: toInts (k.sign w.toNat (ob m) (ob t))
    | none => [-2]) := by
  show ((does s (.sign w (ob m) (m.length : Int) (ob t))).1, _ :: _) = _
  rw [tell_eq]
  cases s with
  | none => rfl
  | some k =>
    unfold does
    dsimp only
    have h1 := most_le hl
    have e : (w < 0 ∨ 1 < w ∨ (m.length : Int) < 0 ∨ MOST < (m.length : Int)) ↔ (w < 0 ∨ 1 < w) := by
      constructor
      · rintro (a | a | a | a)
        · exact .inl a
        · exact .inr a
        · exact absurd (.inl a) h1
        · exact absurd (.inr a) h1
      · rintro (a | a)
        · exact .inl a
        · exact .inr (.inl a)
    simp only [e]
    split
    · rfl
    · split
      · rfl
      · show (some k, (k.size : Int) :: (toInts _ ++ [])) = _
        rw [List.append_nil]
theorem stp_check (s : St) (w : Int) (m t : List Int) (hl : m.length ≤ 16777216) : stp s [[6, w], m, t] = (s, match s with
    | some k => if w < 0 ∨ 1 < w then [-1] else [((k.check w.toNat (ob m) ((ob t).take k.size)).toNat : Int)]
    | none => [-2]) := by
  show ((does s (.check w (ob m) (m.length : Int) (ob t))).1, _ :: _) = _
  rw [tell_eq]
  cases s with
  | none => rfl
  | some k =>
    unfold does
    dsimp only
    have h1 := most_le hl
    have e : (w < 0 ∨ 1 < w ∨ (m.length : Int) < 0 ∨ MOST < (m.length : Int)) ↔ (w < 0 ∨ 1 < w) := by
      constructor
      · rintro (a | a | a | a)
        · exact .inl a
        · exact .inr a
        · exact absurd (.inl a) h1
        · exact absurd (.inr a) h1
      · rintro (a | a)
        · exact .inl a
        · exact .inr (.inl a)
    simp only [e]
    split <;> rfl
theorem stp_seal (s : St) (b m t : List Int) (hb : b.length ≤ 16777216) : stp s [[7], b, m, t] = (s, match s with
    | some k => if (k.size : Int) - 66 < (m.length : Int) then [-1] else (k.size : Int) :: toInts (bytesOf k.size (k.open_ (big (sealForm k.size (ob b) (ob m) (ob t)))))
    | none => [-2]) := by
  show ((does s (.sealIn (ob b) (b.length : Int) (ob m) (m.length : Int) (ob t))).1, _ :: _) = _
  rw [tell_eq]
  cases s with
  | none => rfl
  | some k =>
    unfold does
    dsimp only
    have h1 := most_le hb
    have e : ((b.length : Int) < 0 ∨ MOST < (b.length : Int) ∨ (m.length : Int) < 0 ∨ (k.size : Int) - 66 < (m.length : Int)) ↔ ((k.size : Int) - 66 < (m.length : Int)) := by
      constructor
      · rintro (a | a | a | a)
        · exact absurd (.inl a) h1
        · exact absurd (.inr a) h1
        · omega
        · exact a
      · exact fun a => .inr (.inr (.inr a))
    simp only [e]
    split
    · rfl
    · show (some k, (k.size : Int) :: (toInts _ ++ [])) = _
      rw [List.append_nil]
theorem stp_unseal (s : St) (b t : List Int) (hb : b.length ≤ 16777216) : stp s [[8], b, t] = (s, match s with
    | some k => if k.d = 0 then [-4] else if k.n ≤ big ((ob t).take k.size) then [-5] else match sealOpened k.size (ob b) (bytesOf k.size (k.secret (big ((ob t).take k.size)))) with
      | some m => (m.length : Int) :: toInts m
      | none => [-5]
    | none => [-2]) := by
  show ((does s (.sealOut (ob b) (b.length : Int) (ob t))).1, _ :: _) = _
  rw [tell_eq]
  cases s with
  | none => rfl
  | some k =>
    unfold does
    dsimp only
    have h1 := most_le hb
    rw [if_neg h1]
    split
    · rfl
    · split
      · rfl
      · cases sealOpened k.size (ob b) (bytesOf k.size (k.secret (big ((ob t).take k.size)))) with
        | none => rfl
        | some m =>
          show (some k, (m.length : Int) :: (toInts m ++ [])) = _
          rw [List.append_nil]
end Gk

/-! The state and the answers through a line of calls. -/
namespace Gk
open Sz28
theorem sized_len {z : Int} {k : Nat} (h : sized z) (e : (k : Int) = sizeN z) : z.toNat = k := by
  unfold sizeN at e
  rw [if_pos h] at e
  omega
theorem stp_ok {s : St} {c : List (List Int)} (h : StOk s) (k : Kind c) : StOk (stp s c).1 := by
  cases k with
  | key z e n hz he hn hl =>
    rw [stp_key]
    split
    · exact True.intro
    · rename_i hc
      have h1 : sized z := Decidable.byContradiction fun y => hc (.inl y)
      have h3 : bitsOf (big (ob n)) = 8 * z.toNat := Decidable.byContradiction fun y => hc (.inr (.inr (.inl y)))
      obtain ⟨k, rfl, hk⟩ := sized_toNat h1
      refine ⟨hk, h3, by show e.toNat < 2 ^ 32; omega, ?_⟩
      show 0 < big (ob n)
      rcases Nat.eq_zero_or_pos (big (ob n)) with y | y
      · rw [y] at h3
        have := hk.pos
        have h4 : bitsOf 0 = 0 := rfl
        rw [h4, Int.toNat_natCast] at h3
        omega
      · exact y
  | make z e p q hz he hp hq hpl hql =>
    rw [stp_make]
    split
    · exact True.intro
    · rename_i hc
      have h1 : sized z := Decidable.byContradiction fun y => hc (.inl y)
      obtain ⟨k, rfl, hk⟩ := sized_toNat h1
      have hs : sizeN ((k : Nat) : Int) = k := by unfold sizeN; rw [if_pos h1]
      rw [hs] at hpl hql
      have lp : p.length = k / 2 := by omega
      have lq : q.length = k / 2 := by omega
      rw [Int.toNat_natCast]
      cases ht : together k (big (ob p)) (big (ob q)) e.toNat with
      | none => exact True.intro
      | some key =>
        refine together_ok hk ?_ ?_ (by omega) ht
        · have := big_lt (ob p)
          rw [length_octets, lp] at this
          exact this
        · have := big_lt (ob q)
          rw [length_octets, lq] at this
          exact this
  | numbers => rw [stp_numbers]; exact h
  | prime z r n hz hr hn hl => rw [stp_prime]; exact h
  | sign w m t hw hm ht hl htl => rw [stp_sign _ _ _ _ hl]; exact h
  | check w m t hw hm ht hl htl => rw [stp_check _ _ _ _ hl]; exact h
  | seals b m t hb hm ht hbl hl htl => rw [stp_seal _ _ _ _ hbl]; exact h
  | unseals b t hb ht hbl htl => rw [stp_unseal _ _ _ hbl]; exact h
theorem dropWhile_length {α : Type} (p : α → Bool) : ∀ l : List α, (l.dropWhile p).length ≤ l.length
  | [] => Nat.le_refl _
  | a :: l => by
    rw [List.dropWhile_cons]
    split
    · exact Nat.le_trans (dropWhile_length p l) (Nat.le_succ _)
    · exact Nat.le_refl _
theorem opened_length {size : Nat} {label em m : Bytes} (h : sealOpened size label em = some m) : m.length ≤ em.length := by
  unfold sealOpened at h
  dsimp only at h
  split at h
  · have e := Option.some.inj h
    subst e
    rw [List.length_drop]
    have h1 := dropWhile_length (fun b => b == (0 : UInt8)) ((mix (em.drop 33) (mask (mix ((em.drop 1).take 32) (mask (em.drop 33) 32)) (size - 33))).drop 32)
    rw [List.length_drop, mix_length, List.length_drop] at h1
    omega
  · cases h
theorem one_le : 1 ≤ 1100 := by decide
theorem stp_len {s : St} {c : List (List Int)} (h : StOk s) (k : Kind c) : (stp s c).2.length ≤ 1100 := by
  cases k with
  | key z e n hz he hn hl => rw [stp_key]; split <;> exact one_le
  | make z e p q hz he hp hq hpl hql =>
    rw [stp_make]
    split
    · exact one_le
    · cases together z.toNat (big (ob p)) (big (ob q)) e.toNat <;> exact one_le
  | numbers =>
    rw [stp_numbers]
    cases s with
    | none => exact one_le
    | some k =>
      have := (show KeyOk k from h).size.pos
      show ((k.size : Int) :: (toInts (bytesOf k.size k.n) ++ toInts (bytesOf k.size k.d))).length ≤ 1100
      rw [List.length_cons, List.length_append, ints_length, ints_length, length_bytesOf, length_bytesOf]
      omega
  | prime z r n hz hr hn hl => rw [stp_prime]; dsimp only; split <;> exact one_le
  | sign w m t hw hm ht hl htl =>
    rw [stp_sign _ _ _ _ hl]
    cases s with
    | none => exact one_le
    | some k =>
      have := (show KeyOk k from h).size.pos
      dsimp only
      split
      · exact one_le
      · split
        · exact one_le
        · rw [List.length_cons, ints_length]
          unfold Key.sign
          rw [length_bytesOf]
          omega
  | check w m t hw hm ht hl htl =>
    rw [stp_check _ _ _ _ hl]
    cases s with
    | none => exact one_le
    | some k =>
      dsimp only
      split
      · exact one_le
      · exact one_le
  | seals b m t hb hm ht hbl hl htl =>
    rw [stp_seal _ _ _ _ hbl]
    cases s with
    | none => exact one_le
    | some k =>
      have := (show KeyOk k from h).size.pos
      dsimp only
      split
      · exact one_le
      · rw [List.length_cons, ints_length, length_bytesOf]
        omega
  | unseals b t hb ht hbl htl =>
    rw [stp_unseal _ _ _ hbl]
    cases s with
    | none => exact one_le
    | some k =>
      have := (show KeyOk k from h).size.pos
      dsimp only
      split
      · exact one_le
      · split
        · exact one_le
        · cases ho : sealOpened k.size (ob b) (bytesOf k.size (k.secret (big ((ob t).take k.size)))) with
          | none => exact one_le
          | some m =>
            have hm := opened_length ho
            rw [length_bytesOf] at hm
            dsimp only
            rw [List.length_cons, ints_length]
            omega
theorem put1_ne {c : List (List Int)} (k : Kind c) : PyFlat.put1 c ≠ [] := by
  cases k <;> (intro h; cases h)
end Gk

/-! Tables and forms of the specification. -/
namespace Gk
open Sz28
theorem starts_eq : starts = [0x6a09e667, 0xbb67ae85, 0x3c6ef372, 0xa54ff53a, 0x510e527f, 0x9b05688c, 0x1f83d9ab, 0x5be0cd19] := by decide +kernel
theorem keys_eq : keys = [0x428a2f98, 0x71374491, 0xb5c0fbcf, 0xe9b5dba5, 0x3956c25b, 0x59f111f1, 0x923f82a4, 0xab1c5ed5,
    0xd807aa98, 0x12835b01, 0x243185be, 0x550c7dc3, 0x72be5d74, 0x80deb1fe, 0x9bdc06a7, 0xc19bf174,
    0xe49b69c1, 0xefbe4786, 0x0fc19dc6, 0x240ca1cc, 0x2de92c6f, 0x4a7484aa, 0x5cb0a9dc, 0x76f988da,
    0x983e5152, 0xa831c66d, 0xb00327c8, 0xbf597fc7, 0xc6e00bf3, 0xd5a79147, 0x06ca6351, 0x14292967,
    0x27b70a85, 0x2e1b2138, 0x4d2c6dfc, 0x53380d13, 0x650a7354, 0x766a0abb, 0x81c2c92e, 0x92722c85,
    0xa2bfe8a1, 0xa81a664b, 0xc24b8b70, 0xc76c51a3, 0xd192e819, 0xd6990624, 0xf40e3585, 0x106aa070,
    0x19a4c116, 0x1e376c08, 0x2748774c, 0x34b0bcb5, 0x391c0cb3, 0x4ed8aa4a, 0x5b9cca4f, 0x682e6ff3,
    0x748f82ee, 0x78a5636f, 0x84c87814, 0x8cc70208, 0x90befffa, 0xa4506ceb, 0xbef9a3f7, 0xc67178f2] := by decide +kernel
theorem plain_length {size : Nat} (h : 54 ≤ size) (m : Bytes) : (plainForm size m).length = size := by
  unfold plainForm prefix_
  simp only [List.length_append, List.length_cons, List.length_nil, List.length_replicate, sha_length]
  omega
theorem seal_length {size : Nat} {label m seed : Bytes} (hm : m.length + 66 ≤ size) (hs : seed.length = 32) : (sealForm size label m seed).length = size := by
  unfold sealForm
  simp only [List.length_append, List.length_cons, List.length_replicate, sha_length, mix_length, mask_length, hs]
  omega
theorem salt_length {size : Nat} {m salt : Bytes} (h : 66 ≤ size) (hs : salt.length = 32) : (saltForm size m salt).length = size := by
  unfold saltForm
  simp only [List.length_append, List.length_cons, List.length_nil, List.length_replicate, List.length_drop, sha_length, mix_length, mask_length, hs]
  omega
theorem turned_mask {x k : Nat} (hx : x < 2 ^ 32) (hk : k ≤ 32) : ((x / 2 ^ k) ||| (x * 2 ^ (32 - k))) % 2 ^ 32 = turned x k := by
  rw [turned_or hx hk, ← Nat.and_two_pow_sub_one_eq_mod, Nat.and_or_distrib_right, Nat.and_two_pow_sub_one_eq_mod, Nat.and_two_pow_sub_one_eq_mod]
  rw [Nat.mod_eq_of_lt (show x / 2 ^ k < 2 ^ 32 from Nat.lt_of_le_of_lt (Nat.div_le_self _ _) hx)]
end Gk

set_option linter.all false
/-! Forms read back: the salt of a form, the message of a sealed form. -/
namespace Gk
open Sz28
theorem mix_cons (a b : UInt8) (x y : Bytes) : mix (a :: x) (b :: y) = (a ^^^ b) :: mix x y := rfl
theorem mix_mix : ∀ (x y : Bytes), x.length = y.length → mix (mix x y) y = x
  | [], [], _ => rfl
  | a :: x, b :: y, h => by
    rw [mix_cons, mix_cons, mix_mix x y (by simpa using h)]
    have e : (a ^^^ b) ^^^ b = a := by rw [UInt8.xor_assoc, UInt8.xor_self, UInt8.xor_zero]
    rw [e]
  | [], _ :: _, h => by simp at h
  | _ :: _, [], h => by simp at h
theorem mix_len {x y : Bytes} (h : x.length = y.length) : (mix x y).length = x.length := by
  rw [mix_length, h, Nat.min_self]
theorem top_bit (a b : UInt8) : ((a ^^^ b) &&& 127 = 0 ∧ a.toNat < 128) ↔ a = (0 ^^^ b) &&& 127 := by
  have ha := a.toNat_lt
  have hb := b.toNat_lt
  have e7 : ∀ n : Nat, n &&& 127 = n % 128 := fun n => Nat.and_two_pow_sub_one_eq_mod n 7
  have hx : (a.toNat ^^^ b.toNat) % 128 = (a.toNat % 128) ^^^ (b.toNat % 128) := Nat.xor_mod_two_pow (n := 7)
  rw [← UInt8.toNat_inj, ← UInt8.toNat_inj, UInt8.toNat_and, UInt8.toNat_and, UInt8.toNat_xor, UInt8.toNat_xor]
  show ((a.toNat ^^^ b.toNat) &&& 127 = 0 ∧ _) ↔ a.toNat = (0 ^^^ b.toNat) &&& 127
  rw [Nat.zero_xor, e7, e7, hx]
  constructor
  · rintro ⟨h1, h2⟩
    rw [Nat.mod_eq_of_lt h2] at h1
    have h3 : a.toNat ^^^ (a.toNat ^^^ b.toNat % 128) = a.toNat ^^^ 0 := by rw [h1]
    rw [← Nat.xor_assoc, Nat.xor_self, Nat.zero_xor, Nat.xor_zero] at h3
    exact h3.symm
  · intro h
    rw [h]
    refine ⟨?_, Nat.mod_lt _ (by decide)⟩
    rw [Nat.mod_mod, Nat.xor_self]
/-- the salt that a form can only have -/
def saltOf (em : Bytes) : Bytes :=
  let D := mix (em.take (em.length - 33)) (mask ((em.drop (em.length - 33)).take 32) (em.length - 33))
  D.drop (D.length - 32)
theorem saltOf_length {em : Bytes} (h : 66 ≤ em.length) : (saltOf em).length = 32 := by
  unfold saltOf
  have e : (mix (em.take (em.length - 33)) (mask ((em.drop (em.length - 33)).take 32) (em.length - 33))).length = em.length - 33 := by
    rw [mix_length, mask_length, List.length_take]
    omega
  simp only
  rw [List.length_drop, e]
  omega
theorem salt_iff {size : Nat} {m em : Bytes} (hs : 128 ≤ size) (hl : em.length = size) : saltRight size m em = decide (em = saltForm size m (saltOf em)) := by
  have hsl := saltOf_length (em := em) (by omega)
  rw [Bool.eq_iff_iff, decide_eq_true_iff]
  -- the form in its parts
  obtain ⟨x, hx⟩ : ∃ x, x = em.take (size - 33) := ⟨_, rfl⟩
  obtain ⟨t, ht⟩ : ∃ t, t = em.drop (size - 33) := ⟨_, rfl⟩
  have hem : em = x ++ t := by rw [hx, ht, List.take_append_drop]
  have lx : x.length = size - 33 := by rw [hx, List.length_take]; omega
  have lt : t.length = 33 := by rw [ht, List.length_drop]; omega
  obtain ⟨h, hh⟩ : ∃ h, h = t.take 32 := ⟨_, rfl⟩
  have lh : h.length = 32 := by rw [hh, List.length_take]; omega
  obtain ⟨z, hz⟩ : ∃ z, t = h ++ [z] := by
    have e := List.take_append_drop 32 t
    have l1 : (t.drop 32).length = 1 := by rw [List.length_drop]; omega
    match e2 : t.drop 32, l1 with
    | [z], _ => exact ⟨z, by rw [hh, ← e2, e]⟩
  obtain ⟨M, hM⟩ : ∃ M, M = mask h (size - 33) := ⟨_, rfl⟩
  have lM : M.length = size - 33 := by rw [hM, mask_length]
  match hx2 : x, hM2 : M, lx, lM with
  | [], _, lx, _ => simp at lx; omega
  | _ :: _, [], _, lM => simp at lM; omega
  | x0 :: xs, M0 :: Ms, lx, lM =>
    have lxs : xs.length = size - 34 := by simp at lx; omega
    have lMs : Ms.length = size - 34 := by simp at lM; omega
    have lmx : (mix xs Ms).length = size - 34 := by rw [mix_len (by omega), lxs]
    have hsalt : saltOf em = (mix xs Ms).drop (size - 66) := by
      unfold saltOf
      rw [hl, ← ht, ← hx, ← hh, ← hM, mix_cons]
      simp only [List.length_cons, lmx]
      have e : size - 34 + 1 - 32 = (size - 66) + 1 := by omega
      rw [e, List.drop_succ_cons]
    have hlast : em.getLast? = some z := by rw [hem, hz, ← List.append_assoc, List.getLast?_append]; simp
    have hhead : em.headD 0 = x0 := by rw [hem]; rfl
    have e65 : size - 65 = (size - 66) + 1 := by omega
    have hR : saltRight size m em = (z == 0xBC && (decide (x0.toNat < 128) && ((((x0 ^^^ M0) &&& 127) :: (mix xs Ms).take (size - 66)) == List.replicate (size - 66) 0 ++ [1] && sha (List.replicate 8 0 ++ (sha m ++ saltOf em)) == h))) := by
      unfold saltRight
      simp only
      rw [← ht, ← hx, ← hh, ← hM, hlast, hhead, mix_cons, e65]
      simp only [List.headD_cons, List.drop_succ_cons, List.drop_zero, List.take_succ_cons]
      rw [← hsalt]
      rfl
    have hF : saltForm size m (saltOf em) = ((((List.replicate (size - 66) (0 : UInt8) ++ (1 :: saltOf em)).headD 0 ^^^ (mask (sha (List.replicate 8 0 ++ (sha m ++ saltOf em))) (size - 33)).headD 0) &&& 127) ::
        mix ((List.replicate (size - 66) (0 : UInt8) ++ (1 :: saltOf em)).drop 1) ((mask (sha (List.replicate 8 0 ++ (sha m ++ saltOf em))) (size - 33)).drop 1)) ++ (sha (List.replicate 8 0 ++ (sha m ++ saltOf em)) ++ [0xBC]) := by
      unfold saltForm
      simp only
      rw [hsl]
      have e : size - 32 - 34 = size - 66 := by omega
      rw [e]
      have l1 : (List.replicate (size - 66) (0 : UInt8) ++ (1 :: saltOf em)).length = size - 33 := by
        rw [List.length_append, List.length_replicate, List.length_cons, hsl]
        omega
      generalize List.replicate (size - 66) (0 : UInt8) ++ (1 :: saltOf em) = A at l1
      have l2 := mask_length (sha (List.replicate 8 0 ++ (sha m ++ saltOf em))) (size - 33)
      generalize mask (sha (List.replicate 8 0 ++ (sha m ++ saltOf em))) (size - 33) = B at l2
      match A, B, l1, l2 with
      | [], _, l1, _ => simp at l1; omega
      | _ :: _, [], _, l2 => simp at l2; omega
      | a :: A, b :: B, _, _ => rfl
    rw [hR, hF]
    clear hR hF
    generalize saltOf em = sa at hsl hsalt ⊢
    generalize hS : sha (List.replicate 8 0 ++ (sha m ++ sa)) = S
    have lS : S.length = 32 := by rw [← hS, sha_length]
    obtain ⟨k, hk⟩ : ∃ k, size - 66 = k + 1 := ⟨size - 67, by omega⟩
    have hdrop : mix xs Ms = (mix xs Ms).take (k + 1) ++ sa := by
      rw [hsalt, hk, List.take_append_drop]
    simp only [Bool.and_eq_true, beq_iff_eq, decide_eq_true_eq]
    rw [hem, hz, hk, List.replicate_succ]
    simp only [List.cons_append, List.headD_cons, List.drop_succ_cons, List.drop_zero]
    constructor
    · rintro ⟨rfl, hx0, hd, rfl⟩
      rw [← hM]
      simp only [List.headD_cons, List.drop_succ_cons, List.drop_zero]
      obtain ⟨d1, d2⟩ := List.cons.inj hd
      have hx1 := (top_bit x0 M0).mp ⟨d1, hx0⟩
      have hmx : mix xs Ms = List.replicate k 0 ++ 1 :: sa := by
        rw [hdrop, d2, List.append_assoc]
        rfl
      rw [← hmx, mix_mix xs Ms (by omega), ← hx1]
    · intro he
      have hl1 : (x0 :: xs).length = (((0 ^^^ (mask S (size - 33)).headD 0) &&& 127) :: mix (List.replicate k 0 ++ 1 :: sa) ((mask S (size - 33)).drop 1)).length := by
        have hmk := mask_length S (size - 33)
        simp only [List.length_cons]
        rw [mix_length, List.length_append, List.length_replicate, List.length_cons, hsl, List.length_drop, hmk, lxs]
        omega
      have he' : (x0 :: xs) ++ (h ++ [z]) = (((0 ^^^ (mask S (size - 33)).headD 0) &&& 127) :: mix (List.replicate k 0 ++ 1 :: sa) ((mask S (size - 33)).drop 1)) ++ (S ++ [0xBC]) := he
      obtain ⟨e1, e2⟩ := List.append_inj he' hl1
      obtain ⟨e3, e4⟩ := List.append_inj e2 (by rw [lh, lS])
      have ez : z = 0xBC := by simpa using e4
      subst e3
      rw [← hM] at e1
      simp only [List.headD_cons, List.drop_succ_cons, List.drop_zero] at e1
      obtain ⟨f1, f2⟩ := List.cons.inj e1
      obtain ⟨g1, g2⟩ := (top_bit x0 M0).mpr f1
      refine ⟨ez, g2, ?_, rfl⟩
      have hmx : mix xs Ms = List.replicate k 0 ++ 1 :: sa := by
        conv => lhs; rw [f2]
        refine mix_mix _ _ ?_
        rw [List.length_append, List.length_replicate, List.length_cons, hsl, lMs]
        omega
      rw [g1, hmx]
      have e : List.replicate k (0 : UInt8) ++ 1 :: sa = (List.replicate k 0 ++ [1]) ++ sa := by simp
      rw [e, List.take_left' (by simp)]
/-! ### sealed forms -/
/-- the block of a sealed form -/
def sealBlock (em : Bytes) : Bytes := mix (em.drop 33) (mask (mix ((em.drop 1).take 32) (mask (em.drop 33) 32)) (em.length - 33))
theorem sealBlock_length {em : Bytes} (h : 33 ≤ em.length) : (sealBlock em).length = em.length - 33 := by
  unfold sealBlock
  rw [mix_length, mask_length, List.length_drop, Nat.min_self]
theorem sealOpened_eq {size : Nat} {label em : Bytes} (hl : em.length = size) : sealOpened size label em =
    if em.headD 1 = 0 ∧ (sealBlock em).take 32 = sha label ∧ (((sealBlock em).drop 32).dropWhile fun b => b == 0).headD 0 = 1 then some ((((sealBlock em).drop 32).dropWhile fun b => b == 0).drop 1) else none := by
  subst hl
  rfl
theorem sealOpened_no {size : Nat} {label em : Bytes} (hl : em.length = size) (h : ¬ (em.headD 1 = 0 ∧ (sealBlock em).take 32 = sha label)) : sealOpened size label em = none := by
  rw [sealOpened_eq hl, if_neg (fun z => h ⟨z.1, z.2.1⟩)]
theorem dropWhile_at {db : Bytes} {n : Nat} {b : UInt8} (h : db[n]? = some b) : (db.drop n).dropWhile (fun b => b == 0) = if b = 0 then (db.drop (n + 1)).dropWhile (fun b => b == 0) else db.drop n := by
  have hn : n < db.length := (List.getElem?_eq_some_iff.mp h).1
  have e : db.drop n = b :: db.drop (n + 1) := by
    rw [List.drop_eq_getElem_cons hn]
    congr 1
    exact (List.getElem?_eq_some_iff.mp h).2
  rw [e, List.dropWhile_cons]
  by_cases hb : b = 0
  · subst hb
    rw [if_pos rfl, if_pos (by rfl)]
  · rw [if_neg hb, if_neg (by simpa using hb)]
end Gk

set_option Elab.async false
set_option linter.all false
set_option maxRecDepth 100000
set_option maxHeartbeats 1000000
/-! More rules over the layer: great numbers, bit_length, any, ranges with a step in a comprehension; defs in one word. -/
namespace L2
open PySem PySem.Spec PyProof.Rows
section
variable {X : Cx}
/-- so many bits -/
def Bits (m : Nat) (i : Int) : Prop := i.natAbs < 2 ^ m
theorem Bits.of_nat {m n : Nat} (h : n < 2 ^ m) : Bits m (n : Int) := by
  unfold Bits
  rw [Int.natAbs_natCast]
  exact h
theorem Bits.mono {m n : Nat} {i : Int} (h : Bits m i) (hl : m ≤ n) : Bits n i := Nat.lt_of_lt_of_le h (Nat.pow_le_pow_right (by decide) hl)
/-- a product of two numbers of so many bits -/
def CMulB (i j : Int) : Prop := ∃ m n : Nat, Bits m i ∧ Bits n j ∧ m + n ≤ 134217728
theorem op_mulB : OpR X (binaryOp .Mult) (rI CMulB fun i j => .int (i * j)) := opI fun i j _ _ _ _ _ hc q => by
  obtain ⟨m, n, h1, h2, h3⟩ := hc
  exact mul_int q (.of_le (intBits_le_iff.mpr h1) (intBits_le_iff.mpr h2) h3)
def CDivB (_ j : Int) : Prop := 0 < j ∧ ∃ m : Nat, Bits m j ∧ m ≤ 8900
theorem op_fdivB : OpR X (binaryOp .FloorDiv) (rI CDivB fun i j => .int (i / j)) := opI fun i j _ _ _ _ _ hc q => by
  obtain ⟨h1, m, h2, h3⟩ := hc
  refine floordiv_int (by omega) (by rw [Int.fdiv_eq_ediv_of_nonneg i (by omega)]; exact q) (.inl (PyProof.noPylong_of_log2 ?_))
  have h4 : j.natAbs ≠ 0 := by omega
  have h5 := (Nat.log2_lt h4).mpr h2
  omega
def CShlB (i j : Int) : Prop := 0 ≤ j ∧ ∃ m : Nat, Bits m i ∧ (m : Int) + j ≤ 134217728
theorem op_shlB : OpR X (binaryOp .LShift) (rI CShlB fun i j => .int (i * 2 ^ j.toNat)) := opI fun i j _ _ _ _ _ hc q => by
  obtain ⟨h1, m, h2, h3⟩ := hc
  have h4 := intBits_le_iff.mpr h2
  exact lshift_int h1 (by show ((Builtin.Int.intBits i : Nat) : Int) + j ≤ 134217728; omega) q
/-- n.bit_length() -/
theorem mt_bitlen : MtR X "int.bit_length" (fun x xs H Q => ∃ i, x = .int i ∧ xs = [] ∧ Q (.int (Builtin.Int.intBits i)) H) := by
  intro pins s σ H x xs v us Q I rx rxs h
  obtain ⟨i, rfl, rfl, q⟩ := h
  obtain ⟨t, rfl⟩ := rx
  cases rxs
  exact call_int_bit_length ⟨.int _, H, I.tok _, ⟨_, rfl⟩, q⟩
theorem bools_of {bs : List Bool} : ∀ {us : List Value}, Vals (bs.map V.bl) us → LSm.BoolsAre us bs := by
  induction bs with
  | nil => intro us r; cases r; exact .nil
  | cons b r ih =>
    intro us h
    cases h with
    | cons h1 h2 =>
      cases h1
      exact .cons b (ih h2)
/-- any(bools) -/
theorem call_anyB (hc : X.calm = true) : CallR X (.builtin "any") (fun xs H Q => ∃ (a : Addr) (bs : List Bool), xs = [.ref a] ∧ SqL X.K H a (bs.map V.bl) ∧ Q (.bl (bs.any id)) H) := by
  intro pins s σ H xs us Q I r h
  obtain ⟨a, bs, rfl, hs, q⟩ := h
  obtain ⟨u, rfl, rfl⟩ := Vals.one r
  obtain ⟨its, rv, p, hz⟩ := I.list hs
  have hb := bools_of rv
  have hl := p.isList
  have hlt : a < s.heap.objs.size := by obtain ⟨_, e, _⟩ := hl; exact Heap.lt_size e
  refine call_any_walk (wpAny_pyIter_list hl ?_)
  refine ⟨s.heap.objs.size, [s.heap.objs.size, a], [s.heap.objs.size], its.toArray.size, _, _, fun i => (bs[i]?).getD false, rfl, Walks.list (A := X.A.in1) (I.ok.hd hc) _ a (Nat.ne_of_lt hlt) its.toArray,
    ⟨⟨_, Heap.get?_push_size _ rfl, rfl, rfl⟩, hl.push _⟩, fun i v s' Q' E' hP hQ => ?_, fun h' tk hk => ?_⟩
  · obtain ⟨b, e, rfl⟩ := hb.get i v (by simpa using hP)
    simp only [e, Option.getD_some] at hQ
    exact wpAny_truthy_bool hQ
  · have e : ((List.range its.toArray.size).any fun i => (bs[i]?).getD false) = bs.any id := by
      rw [List.size_toArray, hb.length]; exact LSm.range_any bs
    rw [e]
    exact ⟨.bl _, H, I.kept (LSm.kept_iter hk), rfl, q⟩
end
theorem boot_any1 : bootBuiltins "any" = some (.builtin "any") := by decide +kernel
/-- a comprehension over a range with a step -/
theorem lc_rangeC {lo c : Int} {n : Nat} {g : TG} {tt : TT} {te : TE} {vs : List Nat} {σ : St} {H1 : Hp} {D : Addr} {Qd : Hp → Prop} (Pv : Nat → Hp → Prop) (h0 : Pv 0 (upd H1 D (.lst [])))
    (hs : ∀ i H, i < n → Pv i H → g (.int (lo + (i : Nat) * c)) (wipe σ vs) H fun σ2 H2 => wipe σ2 vs = wipe σ vs ∧ tt σ2 H2 fun b H3 =>
      if b = true then te σ2 H3 fun y H4 => ∃ acc, H4 D = some (.lst acc) ∧ acc.length < sizeLine ∧ Pv (i + 1) (upd H4 D (.lst (acc ++ [y]))) else Pv (i + 1) H3) (hd : ∀ H, Pv n H → Qd H) :
    ∃ W : Nat → Nat → Hp → Prop, (∃ m, W 0 m (upd H1 D (.lst []))) ∧ ∀ i m H, W i m H →
      ((Itc lo c n).stop i H ∧ Qd H) ∨ ((Itc lo c n).go i H ∧ ∃ Nx : Hp → Prop, (∀ H', Nx H' → ∃ m', m' < m ∧ W (i + 1) m' H') ∧ ∀ x H', (Itc lo c n).yld i H x H' → g x (wipe σ vs) H' fun σ2 H2 => wipe σ2 vs = wipe σ vs ∧ tt σ2 H2 fun b H3 =>
        if b = true then te σ2 H3 fun y H4 => ∃ acc, H4 D = some (.lst acc) ∧ acc.length < sizeLine ∧ Nx (upd H4 D (.lst (acc ++ [y]))) else Nx H3) := by
  refine ⟨fun i m H => m = n - i ∧ i ≤ n ∧ Pv i H, ⟨n, by simp, Nat.zero_le _, h0⟩, ?_⟩
  rintro i m H ⟨rfl, hi, p⟩
  by_cases hlt : i < n
  · refine .inr ⟨hlt, Pv (i + 1), fun H' p' => ⟨n - (i + 1), by omega, rfl, hlt, p'⟩, fun x H' y => ?_⟩
    obtain ⟨e, y⟩ := y
    subst e y
    exact hs i _ hlt p
  · have e : i = n := by omega
    subst e
    exact .inl ⟨Nat.le_refl _, hd H p⟩
/-! ### a def of the text in one word -/
section
variable {P : Program} {w : World} {K : PySem.W.Frag} {mg : Str → Option Value} {base : Heap}
/-- the def x of the module keeps its promise sp, with n calls' room -/
def Has (P : Program) (w : World) (K : PySem.W.Frag) (mg : Str → Option Value) (base : Heap) (n : Nat) (x : Str) (ps : List Str) (sp : Sp) : Prop :=
  ∃ (f : Addr) (fd : FuncData), mg x = some (.ref f) ∧ PySem.W.keepIn K (.ref f) = true ∧ Binds K fd ps [] ∧ FnOk P w K mg base CX0 n f fd ps sp
/-- a method of the class C -/
def HasM (P : Program) (w : World) (K : PySem.W.Frag) (mg : Str → Option Value) (base : Heap) (n : Nat) (C : Addr) (m : Str) (ps : List Str) (sp : Sp) : Prop :=
  ∃ (f : Addr) (fd : FuncData), Meth K C m f ∧ Binds K fd ps [] ∧ FnOk P w K mg base CX0 n f fd ps sp
/-- the making of an instance of the class C, by its __init__ -/
def HasC (P : Program) (w : World) (K : PySem.W.Frag) (mg : Str → Option Value) (base : Heap) (n : Nat) (x : Str) (C : Addr) (ps : List Str) (sp : Sp) : Prop :=
  mg x = some (.ref C) ∧ ∃ (f : Addr) (fd : FuncData), Mk K C f ∧ Binds K fd ps [] ∧ FnOk P w K mg base CX0 n f fd ps sp
end
section
variable {X : Cx} {n k : Nat} {x m : Str} {ps : List Str} {sp : Sp} {C : Addr} {p pos apos : Pos} {e o : Expr} {es : List Expr} {t : TA} {to : TE}
theorem pe_callH (h : Has X.prog X.w X.K X.mg X.base n x ps sp) (hr : Room k X.A) (hn : n ≤ k) (hg : Gl X x) (ha : PA X (e :: es) t) (hdb : (x == ("__debug__" : Str)) = false := by decide)
    (he : starEach (e :: es) X.env = (false, eval e X.env) :: starEach es X.env := by rfl) (hpl : (backTo pos (starEach es X.env)).any (·.1) = false := by rfl) :
    PE X (.Call (.Name x p) (e :: es) [] pos) (tCall sp [] E0 t) := by
  obtain ⟨f, fd, hm, hk, hb, F⟩ := h
  exact pe_call F (hr.mono hn) hg hm hk hb .nil pass0 ha hdb he hpl
theorem pe_callH0 (h : Has X.prog X.w X.K X.mg X.base n x ps sp) (hr : Room k X.A) (hn : n ≤ k) (hg : Gl X x) (hdb : (x == ("__debug__" : Str)) = false := by decide) :
    PE X (.Call (.Name x p) [] [] pos) (tCall sp [] E0 tNil) := by
  obtain ⟨f, fd, hm, hk, hb, F⟩ := h
  exact pe_call0 F (hr.mono hn) hg hm hk hb .nil pass0 hdb
theorem pe_methH {pl : Sem Bool} (ho : PE X o to) (c : Cls X.K C) (h : HasM X.prog X.w X.K X.mg X.base n C m ps sp) (hr : Room k X.A) (hn : n ≤ k) (ha : PA X (e :: es) t)
    (hst : starEach (e :: es) X.env = (false, eval e X.env) :: starEach es X.env := by rfl) (hpl : (backTo pos (starEach es X.env)).any (·.1) = false := by rfl)
    (ht : eval (.Call (.Attribute o m apos) (e :: es) [] pos) X.env = (do
      let ov ← eval o X.env
      standAt apos.atName
      let (f, first) ← holding [ov] (getMethod ov m pl)
      callWith pos f first (backTo pos (starEach (e :: es) X.env)) (backToKw pos (keywordEach [] X.env))) := by rfl) :
    PE X (.Call (.Attribute o m apos) (e :: es) [] pos) (tMeth C m sp [] E0 to t) := by
  obtain ⟨f, fd, hm, hb, F⟩ := h
  exact pe_meth ho c hm F (hr.mono hn) hb .nil pass0 ha hst hpl ht
theorem pe_methH0 {pl : Sem Bool} (ho : PE X o to) (c : Cls X.K C) (h : HasM X.prog X.w X.K X.mg X.base n C m ps sp) (hr : Room k X.A) (hn : n ≤ k)
    (ht : eval (.Call (.Attribute o m apos) [] [] pos) X.env = (do
      let ov ← eval o X.env
      standAt apos.atName
      let (f, first) ← holding [ov] (getMethod ov m pl)
      callWith pos f first (backTo pos (starEach [] X.env)) (backToKw pos (keywordEach [] X.env))) := by rfl) :
    PE X (.Call (.Attribute o m apos) [] [] pos) (tMeth C m sp [] E0 to tNil) := by
  obtain ⟨f, fd, hm, hb, F⟩ := h
  exact pe_meth0 ho c hm F (hr.mono hn) hb .nil pass0 ht
theorem pe_makeH (h : HasC X.prog X.w X.K X.mg X.base n x C ps sp) (hr : Room k X.A) (hn : n + 1 ≤ k) (hg : Gl X x) (ha : PA X (e :: es) t) (hdb : (x == ("__debug__" : Str)) = false := by decide)
    (he : starEach (e :: es) X.env = (false, eval e X.env) :: starEach es X.env := by rfl) (hpl : (backTo pos (starEach es X.env)).any (·.1) = false := by rfl) :
    PE X (.Call (.Name x p) (e :: es) [] pos) (tMake C sp [] E0 t) := by
  obtain ⟨hm, f, fd, M, hb, F⟩ := h
  exact pe_make M F (hr.mono hn) hg hm hb .nil pass0 ha hdb he hpl
theorem pe_makeH0 (h : HasC X.prog X.w X.K X.mg X.base n x C ps sp) (hr : Room k X.A) (hn : n + 1 ≤ k) (hg : Gl X x) (hdb : (x == ("__debug__" : Str)) = false := by decide) :
    PE X (.Call (.Name x p) [] [] pos) (tMake C sp [] E0 tNil) := by
  obtain ⟨hm, f, fd, M, hb, F⟩ := h
  exact pe_make0 M F (hr.mono hn) hg hm hb .nil pass0 hdb
end
/-- a number of the module's top -/
def GInt (mg : Str → Option Value) (x : Str) (i : Int) : Prop := ∃ t, mg x = some (.int i t)
theorem pe_gint {X : Cx} {x : Str} {i : Int} {pos : Pos} (h : GInt X.mg x i) (hg : Gl X x) (hd : (x == ("__debug__" : Str)) = false := by decide) : PE X (.Name x pos) (tC (.int i)) := by
  obtain ⟨t, e⟩ := h
  exact pe_glob hg e ⟨t, rfl⟩ hd
theorem RgC.neg5 {a : Int} (ha : 0 ≤ a) (ha' : a < 2 ^ 62) : RgC a (-1) (-5) (a / 5 + 1).toNat := by
  have e : Builtin.Range.rangeSize a (-1) (-5) = a / 5 + 1 := by
    unfold Builtin.Range.rangeSize
    rw [if_neg (by decide), if_pos (by omega)]
    have : (-(-5) : Int) = 5 := rfl
    rw [this]
    omega
  refine ⟨by decide, by decide, ?_, by rw [e]; omega⟩
  unfold Builtin.Range.small
  rw [e]
  simp only [Builtin.Range.rangeFitsLong, Bool.and_eq_true, Bool.or_eq_true, decide_eq_true_eq, beq_iff_eq, show ¬ ((-5 : Int) > 0) by decide, if_false]
  omega
theorem RgC.pos {a b c : Int} (hc : 0 < c) (hc2 : c < 1073741824) (ha : 0 ≤ a) (ha' : a < 2 ^ 61) (hb : 0 ≤ b) (hb' : b < 2 ^ 61) : RgC a b c (if a < b then ((b - a - 1) / c + 1).toNat else 0) := by
  have e : Builtin.Range.rangeSize a b c = ((if a < b then ((b - a - 1) / c + 1).toNat else 0 : Nat) : Int) := by
    unfold Builtin.Range.rangeSize
    rw [if_pos (by omega)]
    by_cases h : a < b
    · rw [if_pos h, if_pos h]
      have := Int.ediv_nonneg (show 0 ≤ b - a - 1 by omega) (show 0 ≤ c by omega)
      omega
    · rw [if_neg h, if_neg h]; rfl
  refine ⟨by omega, by omega, ?_, e⟩
  have h2 : ((if a < b then ((b - a - 1) / c + 1).toNat else 0 : Nat) : Int) < 2 ^ 62 := by
    by_cases h : a < b
    · rw [if_pos h]
      have := Int.ediv_nonneg (show 0 ≤ b - a - 1 by omega) (show 0 ≤ c by omega)
      have := Int.ediv_le_self c (show 0 ≤ b - a - 1 by omega)
      omega
    · rw [if_neg h]; decide
  unfold Builtin.Range.small
  rw [e]
  simp only [Builtin.Range.rangeFitsLong, Bool.and_eq_true, Bool.or_eq_true, decide_eq_true_eq, beq_iff_eq, show c > 0 from hc, if_true]
  omega
theorem iteD {c A B : Prop} [Decidable c] (h1 : c → A) (h2 : ¬ c → B) : if decide c = true then A else B := by
  by_cases h : c
  · rw [if_pos (decide_eq_true h)]; exact h1 h
  · rw [if_neg (by rw [decide_eq_false h]; exact Bool.false_ne_true)]; exact h2 h
theorem iteN {c A B : Prop} [Decidable c] (h1 : ¬ c → A) (h2 : c → B) : if (!decide c) = true then A else B := by
  by_cases h : c
  · rw [decide_eq_true h]; exact h2 h
  · rw [decide_eq_false h]; exact h1 h
theorem iteB {b : Bool} {A B : Prop} (h1 : b = true → A) (h2 : b = false → B) : if b = true then A else B := by
  cases b with
  | true => exact h1 rfl
  | false => exact h2 rfl
theorem Same.new {H : Hp} {p : Addr} {o : HO} (h : H p = Option.none) : Same H (upd H p o) := fun b u e => by rw [upd_ne (ne_of_none e h)]; exact e
theorem Same.upd {H H' : Hp} {p : Addr} {o : HO} (s : Same H H') (h : H p = Option.none) : Same H (upd H' p o) := fun b u e => by rw [upd_ne (ne_of_none e h)]; exact s b u e
theorem Same.tup {K : PySem.W.Frag} {H H' : Hp} {a : Addr} {xs : List V} (e : Same H H') (h : SqT K H a xs) : SqT K H' a xs := by
  rcases h with (h | ⟨o, h⟩) | h
  · exact .inl (.inl (e _ _ h))
  · exact .inl (.inr ⟨o, e _ _ h⟩)
  · exact .inr h
theorem map_at {α : Type} {f : α → V} {l : List α} {i : Nat} {y : V} (h : (l.map f)[i]? = some y) : ∃ z, l[i]? = some z ∧ y = f z := by
  rw [List.getElem?_map] at h
  cases e : l[i]? with
  | none => rw [e] at h; cases h
  | some z => rw [e] at h; exact ⟨z, rfl, (Option.some.inj h).symm⟩
theorem take_snoc {α : Type} {l : List α} {i : Nat} {x : α} (h : l[i]? = some x) : l.take (i + 1) = l.take i ++ [x] := by
  rw [List.take_succ, h]
  rfl
theorem lt_of_at {α : Type} {l : List α} {i : Nat} {x : α} (h : l[i]? = some x) : i < l.length := (List.getElem?_eq_some_iff.mp h).1
end L2

set_option Elab.async false
set_option linter.all false
set_option maxRecDepth 100000
/-! What the top has written: defs, classes, numbers and tuples of the module. -/
namespace L2
open PySem PySem.Spec PyProof.Rows
section
variable {P : Program} {w : World} {K : PySem.W.Frag} {mg : Str → Option Value} {base h : Heap}
theorem gint_mk (X : K.In h) (G : h.Ns mainGlobals mg) {x : Str} {i : Int} {t : Tok} (a : PySem.W.nsIn K mainGlobals x = some (some (.int i t))) : GInt mg x i := ⟨t, PySem.W.mg_of X G a⟩
theorem gnone_mk (X : K.In h) (G : h.Ns mainGlobals mg) {x : Str} (a : PySem.W.nsIn K mainGlobals x = some none) : mg x = none := PySem.W.mg_none_of X G a
def GTup (K : PySem.W.Frag) (mg : Str → Option Value) (x : Str) (ns : List Int) : Prop := ∃ a, mg x = some (.ref a) ∧ ∀ H, SqT K H a (ns.map V.int)
theorem absInts : ∀ {us : List Value} {ns : List Int}, us.map absV = ns.map (fun i => some (V.int i)) → Vals (ns.map V.int) us
  | [], [], _ => .nil
  | [], _ :: _, e => by cases e
  | _ :: _, [], e => by cases e
  | u :: us, n :: ns, e => by
    obtain ⟨e1, e2⟩ := List.cons.inj e
    refine .cons ?_ (absInts e2)
    cases u with
    | int i t =>
      have : V.int i = V.int n := Option.some.inj e1
      cases this
      exact ⟨t, rfl⟩
    | _ => cases e1
theorem gtup_mk (X : K.In h) (G : h.Ns mainGlobals mg) {x : Str} {a : Addr} {od : Option Addr} {its : Array Value} {n : Nat} {sl : Array (Option Value)} {ns : List Int} (e : PySem.W.nsIn K mainGlobals x = some (some (.ref a)))
    (l : K.lookup a = some ⟨.type "tuple", od, .seq its n, sl⟩) (v : its.toList.map absV = ns.map (fun i => some (V.int i))) (z : ns.length ≤ sizeLine) : GTup K mg x ns := by
  have r := absInts v
  refine ⟨a, PySem.W.mg_of X G e, fun H => .inr ⟨_, its, n, l, rfl, rfl, ?_, r⟩⟩
  have := r.length
  rw [List.length_map] at this
  have el : its.toList.length = its.size := by simp
  omega
/-- the written part, as it stands -/
abbrev KK {K : PySem.W.Frag} {h : Heap} (_ : K.In h) : PySem.W.Frag := K
theorem noattr_mk {C : Addr} {f : Str} (h : PySem.W.findIn K (.ref C) f = some none) : NoAttr K C f := h
/-- a def of the module -/
def DefAt (K : PySem.W.Frag) (mg : Str → Option Value) (x qual : Str) (st : Stmt) : Prop := ∃ (f : Addr) (fd : FuncData), mg x = some (.ref f) ∧ Fun K x qual st f fd
theorem def_mk (X : K.In h) (G : h.Ns mainGlobals mg) {x qual : Str} {st : Stmt} {f : Addr} {oc : Value} {od an : Option Addr} {osl : Array (Option Value)} {kV doc pm cdv ct : Value} (a : PySem.W.nsIn K mainGlobals x = some (some (.ref f)))
    (l : K.lookup f = some ⟨oc, od, .func (PySem.W.fnOf x qual (defArgs st) (defBody st) (defScope st) .none kV doc pm an cdv ct), osl⟩) (c : PySem.W.codeIn K cdv qual = true) (k : PySem.W.keepIn K (.ref f) = true) : DefAt K mg x qual st :=
  ⟨f, _, PySem.W.mg_of X G a, fun_mk l c k⟩
/-- how a def's arguments bind: no defaults -/
def BindOk (x qual : Str) (st : Stmt) (ps : List Str) : Prop := ∀ (kV doc pm : Value) (an : Option Addr) (cdv ct : Value) (us : List Value), us.length = ps.length → bindArgs (PySem.W.fnOf x qual (defArgs st) (defBody st) (defScope st) .none kV doc pm an cdv ct) ⟨us, []⟩ = pure (ps.zip us)
theorem has_of {n : Nat} {x qual : Str} {st : Stmt} {ps : List Str} {sp : Sp} (D : DefAt K mg x qual st) (b : BindOk x qual st ps) (ok : ∀ f fd, Fun K x qual st f fd → FnOk P w K mg base CX0 n f fd ps sp) : Has P w K mg base n x ps sp := by
  obtain ⟨f, fd, hm, F⟩ := D
  exact ⟨f, fd, hm, F.kp, F.binds b, ok f fd F⟩
/-- a method of a class -/
def MethAt (K : PySem.W.Frag) (C : Addr) (m qual : Str) (st : Stmt) : Prop := ∃ (f : Addr) (fd : FuncData), Meth K C m f ∧ Fun K m qual st f fd
theorem meth_mk {C : Addr} {m qual : Str} {st : Stmt} {f : Addr} {oc : Value} {od an : Option Addr} {osl : Array (Option Value)} {kV doc pm cdv ct : Value} (a : PySem.W.findIn K (.ref C) m = some (some (.ref f))) (i : PySem.W.isFn K (.ref f) = true)
    (l : K.lookup f = some ⟨oc, od, .func (PySem.W.fnOf m qual (defArgs st) (defBody st) (defScope st) .none kV doc pm an cdv ct), osl⟩) (c : PySem.W.codeIn K cdv qual = true) (k : PySem.W.keepIn K (.ref f) = true) : MethAt K C m qual st :=
  ⟨f, _, ⟨a, i, k⟩, fun_mk l c k⟩
theorem hasM_of {n : Nat} {C : Addr} {m qual : Str} {st : Stmt} {ps : List Str} {sp : Sp} (D : MethAt K C m qual st) (b : BindOk m qual st ps) (ok : ∀ f fd, Fun K m qual st f fd → FnOk P w K mg base CX0 n f fd ps sp) : HasM P w K mg base n C m ps sp := by
  obtain ⟨f, fd, hm, F⟩ := D
  exact ⟨f, fd, hm, F.binds b, ok f fd F⟩
/-- a class of the module: its name, and that it can be made -/
def ClassAt (K : PySem.W.Frag) (mg : Str → Option Value) (x : Str) (C : Addr) : Prop := mg x = some (.ref C) ∧ Cls K C ∧ PySem.W.makesIn K C = true ∧ PySem.W.keepIn K (.ref C) = true
theorem class_mk (X : K.In h) (G : h.Ns mainGlobals mg) {x : Str} {C : Addr} (a : PySem.W.nsIn K mainGlobals x = some (some (.ref C))) (pg : PySem.W.plainGet K C Str.empty = true) (hd : PySem.W.hasDictIn K C = true) (po : PySem.W.plainOver K C = true)
    (sa : PySem.W.findIn K (.ref C) "__setattr__" = some (some (.builtin "object.__setattr__"))) (mk : PySem.W.makesIn K C = true) (kc : PySem.W.keepIn K (.ref C) = true) : ClassAt K mg x C :=
  ⟨PySem.W.mg_of X G a, ⟨pg, hd, po, sa⟩, mk, kc⟩
theorem hasC_of {n : Nat} {x : Str} {C : Addr} {qual : Str} {st : Stmt} {ps : List Str} {sp : Sp} (T : ClassAt K mg x C) (D : MethAt K C "__init__" qual st) (b : BindOk "__init__" qual st ps) (ok : ∀ f fd, Fun K "__init__" qual st f fd → FnOk P w K mg base CX0 n f fd ps sp) : HasC P w K mg base n x C ps sp := by
  obtain ⟨f, fd, hm, F⟩ := D
  exact ⟨T.1, f, fd, ⟨T.2.2.1, hm.at_, hm.fn, T.2.2.2⟩, F.binds b, ok f fd F⟩
end
end L2

set_option Elab.async false
set_option linter.all false
set_option maxRecDepth 100000
set_option maxHeartbeats 2000000
/-! zip of a tuple and a list, walked two by two. -/
namespace L2
open PySem PySem.Spec PyProof.Rows
section
variable {prog : Program} {w : World} {A : Around} {E : Value → Shared → Prop} {s : Shared}
theorem nx_tupItem {it t : Addr} {i : Nat} {us : Array Value} {x : Value} {Q : Value → Shared → Prop} (p : s.heap.IsTupleIter it t i) (pt : s.heap.IsTuple t us) (px : us[i]? = some x)
    (q : ∀ g, g.IsTupleIter it t (i + 1) → Heap.SameBut it s.heap g → Q x { s with heap := g }) : wpAny (model prog w) A (Builtin.SmallTypes.nextOf (.ref it)) Q E s := by
  obtain ⟨o, po, pc, pd⟩ := id p
  obtain ⟨ot, pot, _, nt, pdt⟩ := pt
  unfold Builtin.SmallTypes.nextOf; refine wpAny_bind (wpAny_callSpecial?_slot (name := Str.ofString "__next__") p.typeIs F.slot_tuple_iterator_next (wpAny_call_entry F.slot_tuple_iterator_next p.typeIs F.entry_tuple_iterator_next ?_ (F.args_tuple_iterator_next_1 _)))
  show wpAny _ _ (field (.ref it) 0 >>= _) _ _ s; refine wpAny_bind (wpAny_field po pd (x := .ref t) rfl ?_)
  show wpAny _ _ (if (Value.ref t == Value.none) = true then _ else _) _ _ s; rw [if_neg (show ¬ ((Value.ref t == Value.none) = true) from Bool.false_ne_true)]
  show wpAny _ _ (field (.ref it) 1 >>= _) _ _ s; refine wpAny_bind (wpAny_field po pd (x := .int i 0) rfl ?_)
  show wpAny _ _ (seqItems? (.ref t) >>= _) _ _ s; refine wpAny_bind (wpAny_seqItems pot pdt ?_)
  simp only [Int.toNat_natCast, px]; refine wpAny_bind (wpAny_setField po pd (by simp) (wpAny_pure ⟨x, rfl, wpAny_pure (q _ ?_ (Heap.SameBut.update ..))⟩))
  exact ⟨_, Heap.get?_update_self _ po (Obj.isFreed_of_fields (Obj.data_mapFields pd _)), (Obj.cls_mapFields ..).trans pc, by rw [Obj.data_mapFields pd]; simp [rawInt]⟩
theorem nx_tupEnd {it t : Addr} {i : Nat} {us : Array Value} {Q : Value → Shared → Prop} (hh : A.handled = none) (p : s.heap.IsTupleIter it t i) (pt : s.heap.IsTuple t us) (px : us[i]? = none)
    (q : ∀ g e, Heap.ExtBut it s.heap g → (∃ o, g.get? e = some o ∧ o.cls = .type "StopIteration") → E (.ref e) { s with heap := g }) : wpAny (model prog w) A (Builtin.SmallTypes.nextOf (.ref it)) Q E s := by
  obtain ⟨o, po, pc, pd⟩ := id p
  obtain ⟨ot, pot, _, nt, pdt⟩ := pt
  unfold Builtin.SmallTypes.nextOf; refine wpAny_bind (wpAny_callSpecial?_slot (name := Str.ofString "__next__") p.typeIs F.slot_tuple_iterator_next (wpAny_call_entry F.slot_tuple_iterator_next p.typeIs F.entry_tuple_iterator_next ?_ (F.args_tuple_iterator_next_1 _)))
  show wpAny _ _ (field (.ref it) 0 >>= _) _ _ s; refine wpAny_bind (wpAny_field po pd (x := .ref t) rfl ?_)
  show wpAny _ _ (if (Value.ref t == Value.none) = true then _ else _) _ _ s; rw [if_neg (show ¬ ((Value.ref t == Value.none) = true) from Bool.false_ne_true)]
  show wpAny _ _ (field (.ref it) 1 >>= _) _ _ s; refine wpAny_bind (wpAny_field po pd (x := .int i 0) rfl ?_)
  show wpAny _ _ (seqItems? (.ref t) >>= _) _ _ s; refine wpAny_bind (wpAny_seqItems pot pdt ?_)
  simp only [Int.toNat_natCast, px]; refine wpAny_bind (wpAny_rule (wpAny_bind (wpAny_setField po pd (by simp) ?_)))
  show wpAny _ _ (newExc (.type "StopIteration") [] >>= _) _ _ _; refine wpAny_bind ?_
  simp only [newExc, newTuple]; refine wpAny_bind (wpAny_newObj_type ?_ (by size_fits))
  refine wpAny_bind (m := firstArgMember _ _) (wpAny_of_eq (a := Value.none) (by simp only [firstArgMember]; rfl) ?_); refine wpAny_newObj_type ?_ (by size_fits)
  simp only [raiseNew]; refine wpAny_bind (wpAny_handled ?_)
  rw [show A.in1.handled = none from hh]
  refine wpAny_bind (wpAny_pure (wpAny_throw ?_)); exact q _ _ (((Heap.SameBut.update ..).extBut.push _).push _) ⟨_, Heap.get?_push_size _ rfl, rfl⟩
theorem zipT_item {z TI TO i1 i2 l1 l2 : Addr} {k1 k2 : Nat} {xs ys : Array Value} {x y a b : Value} {Q : Value → Shared → Prop} (D : ZipApart z TI TO i1 i2 l1 l2) (pz : IsZip s.heap z TI TO .none) (pT : IsPair s.heap TI (.ref i1) (.ref i2)) (pO : IsPair s.heap TO a b)
    (p1 : s.heap.IsTupleIter i1 l1 k1) (p2 : s.heap.IsListIter i2 l2 k2) (pl1 : s.heap.IsTuple l1 xs) (pl2 : s.heap.IsList l2 ys) (px : xs[k1]? = some x) (py : ys[k2]? = some y)
    (q : ∀ g, IsZip g z TI TO (rawInt s.heap.objs.size) → IsPair g TO x y → g.IsTupleIter i1 l1 (k1 + 1) → g.IsListIter i2 l2 (k2 + 1) → IsPair g s.heap.objs.size x y → g.objs.size = s.heap.objs.size + 1 →
      (∀ c o, c ≠ z → c ≠ TO → c ≠ i1 → c ≠ i2 → s.heap.get? c = some o → g.get? c = some o) → Q (.ref s.heap.objs.size) { s with heap := g }) : wpAny (model prog w) A (Builtin.«zip.__next__» ⟨[.ref z], []⟩) (fun fin s' => ∃ v, fin = .done (.ret v) ∧ Q v s') E s := by
  show wpAny _ _ (field (.ref z) 2 >>= _) _ _ _; refine wpAny_bind (wpAny_field pz rfl (x := .bool false) rfl ?_)
  show wpAny _ _ (field (.ref z) 3 >>= _) _ _ _; refine wpAny_bind (wpAny_field pz rfl (x := .ref TI) rfl ?_)
  refine wpAny_bind (wpAny_seqItems pT rfl ?_)
  show wpAny _ _ (Builtin.SmallTypes.ownedTupleIsFree (.ref z) >>= _) _ _ _; refine wpAny_bind ?_; unfold Builtin.SmallTypes.ownedTupleIsFree
  refine wpAny_bind (wpAny_field pz rfl (x := .none) rfl (wpAny_pure ?_)); simp only [if_true]
  refine wpAny_bind (wpAny_rule ?_); refine wpAny_bind (wpAny_field pz rfl (x := .ref TO) rfl ?_)
  refine wpAny_bind (wpAny_setField_rec pz (by simp) fun g1 pz1 b1 => ?_); replace pz1 : IsZip g1 z TI TO .ellipsis := pz1
  refine wpAny_bind ?_; simp only [List.zipIdx_cons, List.zipIdx_nil, List.forIn_cons, List.forIn_nil]
  refine wpAny_bind (wpAny_bind (wpAny_onRaise ?_)); show wpAny _ _ (Builtin.SmallTypes.nextOf (.ref i1) >>= _) _ _ _
  refine wpAny_bind (nx_tupItem (p1.extBut b1.extBut D.i1z) (pl1.extBut b1.extBut D.l1z) px fun g2 p12 b2 => wpAny_pure ?_)
  have pO2 : IsPair g2 TO a b := b2.extBut _ _ D.TOi1 (b1.extBut _ _ D.TOz pO)
  refine wpAny_bind (wpAny_seqItems pO2 rfl ?_); refine wpAny_bind (wpAny_updateSeq_pair pO2 fun g3 pO3 b3 => ?_)
  replace pO3 : IsPair g3 TO x b := pO3
  refine wpAny_bind (wpAny_letGo (wpAny_pure ?_)); refine wpAny_bind (wpAny_bind (wpAny_onRaise ?_)); show wpAny _ _ (Builtin.SmallTypes.nextOf (.ref i2) >>= _) _ _ _
  refine wpAny_bind (wpAny_nextOf_list_item (((p2.extBut b1.extBut D.i2z).extBut b2.extBut D.i12.symm).extBut b3.extBut D.TOi2.symm) (((pl2.extBut b1.extBut D.l2z).extBut b2.extBut D.l2i1).extBut b3.extBut D.l2TO) py fun g4 p24 b4 => wpAny_pure ?_)
  have pO4 : IsPair g4 TO x b := b4.extBut _ _ D.TOi2 pO3
  refine wpAny_bind (wpAny_seqItems pO4 rfl ?_); refine wpAny_bind (wpAny_updateSeq_pair pO4 fun g5 pO5 b5 => ?_)
  replace pO5 : IsPair g5 TO x y := pO5
  refine wpAny_bind (wpAny_letGo (wpAny_pure (wpAny_pure ?_))); refine wpAny_bind (wpAny_seqItems pO5 rfl ?_); refine wpAny_bind (wpAny_newTuple ?_)
  have sz : g5.objs.size = s.heap.objs.size := by rw [b5.1, b4.1, b3.1, b2.1, b1.1]
  have pz5 : IsZip g5 z TI TO .ellipsis := b5.extBut _ _ D.TOz.symm (b4.extBut _ _ D.i2z.symm (b3.extBut _ _ D.TOz.symm (b2.extBut _ _ D.i1z.symm pz1)))
  have kp5 : ∀ c o, c ≠ z → c ≠ TO → c ≠ i1 → c ≠ i2 → s.heap.get? c = some o → g5.get? c = some o := fun c o c1 c2 c3 c4 e => b5.extBut _ _ c2 (b4.extBut _ _ c4 (b3.extBut _ _ c2 (b2.extBut _ _ c3 (b1.extBut _ _ c1 e))))
  have p15 : g5.IsTupleIter i1 l1 (k1 + 1) := ((p12.extBut b3.extBut D.TOi1.symm).extBut b4.extBut D.i12).extBut b5.extBut D.TOi1.symm
  have p25 : g5.IsListIter i2 l2 (k2 + 1) := p24.extBut b5.extBut D.TOi2.symm
  have zl : z < g5.objs.size := Heap.lt_size pz5
  show wpAny _ _ (Builtin.SmallTypes.ownedTupleHandOut (.ref z) (.ref g5.objs.size) >>= _) _ _ _; refine wpAny_bind ?_; unfold Builtin.SmallTypes.ownedTupleHandOut
  have pz6 : IsZip (g5.push { cls := .type "tuple", data := .seq #[x, y] }) z TI TO .ellipsis := Heap.get?_push_of_some _ pz5
  refine wpAny_bind (wpAny_setField_rec pz6 (by simp) fun g7 pz7 b7 => ?_); replace pz7 : IsZip g7 z TI TO (rawInt g5.objs.size) := pz7
  refine wpAny_setField_rec pz7 (by simp) fun g8 pz8 b8 => ?_; replace pz8 : IsZip g8 z TI TO (rawInt g5.objs.size) := pz8
  have up : ∀ c o, c ≠ z → g5.get? c = some o → g8.get? c = some o := fun c o c1 e => b8.extBut _ _ c1 (b7.extBut _ _ c1 (Heap.get?_push_of_some _ e))
  have pT8 : IsPair g8 g5.objs.size x y := b8.extBut _ _ (Nat.ne_of_gt zl) (b7.extBut _ _ (Nat.ne_of_gt zl) (Heap.get?_push_size _ rfl))
  have sz8 : g8.objs.size = g5.objs.size + 1 := by rw [b8.1, b7.1, Heap.size_push]
  rw [sz] at pz8 pT8 sz8
  refine wpAny_pure ⟨_, rfl, ?_⟩; show Q (.ref g5.objs.size) _; rw [sz]
  exact q g8 pz8 (up _ _ D.TOz pO5) (p15.at fun o e => up _ o D.i1z e) (p25.at fun o e => up _ o D.i2z e) pT8 sz8 fun c o c1 c2 c3 c4 e => up c o c1 (kp5 c o c1 c2 c3 c4 e)
theorem zipT_end {z TI TO i1 i2 l1 l2 : Addr} {k1 k2 : Nat} {xs ys : Array Value} {a b : Value} {Q : Fin → Shared → Prop} (hh : A.handled = none) (D : ZipApart z TI TO i1 i2 l1 l2) (pz : IsZip s.heap z TI TO .none) (pT : IsPair s.heap TI (.ref i1) (.ref i2)) (pO : IsPair s.heap TO a b)
    (p1 : s.heap.IsTupleIter i1 l1 k1) (p2 : s.heap.IsListIter i2 l2 k2) (pl1 : s.heap.IsTuple l1 xs) (pl2 : s.heap.IsList l2 ys) (pe : xs[k1]? = none ∨ ys[k2]? = none)
    (q : ∀ g e, (∀ c o, c ≠ z → c ≠ TO → c ≠ i1 → c ≠ i2 → s.heap.get? c = some o → g.get? c = some o) → (∃ o, g.get? e = some o ∧ o.cls = .type "StopIteration") → E (.ref e) { s with heap := g }) : wpAny (model prog w) A (Builtin.«zip.__next__» ⟨[.ref z], []⟩) Q E s := by
  show wpAny _ _ (field (.ref z) 2 >>= _) _ _ _; refine wpAny_bind (wpAny_field pz rfl (x := .bool false) rfl ?_)
  show wpAny _ _ (field (.ref z) 3 >>= _) _ _ _; refine wpAny_bind (wpAny_field pz rfl (x := .ref TI) rfl ?_)
  refine wpAny_bind (wpAny_seqItems pT rfl ?_)
  show wpAny _ _ (Builtin.SmallTypes.ownedTupleIsFree (.ref z) >>= _) _ _ _; refine wpAny_bind ?_; unfold Builtin.SmallTypes.ownedTupleIsFree
  refine wpAny_bind (wpAny_field pz rfl (x := .none) rfl (wpAny_pure ?_)); simp only [if_true]
  refine wpAny_bind (wpAny_rule ?_); refine wpAny_bind (wpAny_field pz rfl (x := .ref TO) rfl ?_)
  refine wpAny_bind (wpAny_setField_rec pz (by simp) fun g1 pz1 b1 => ?_); replace pz1 : IsZip g1 z TI TO .ellipsis := pz1
  refine wpAny_bind ?_; simp only [List.zipIdx_cons, List.zipIdx_nil, List.forIn_cons, List.forIn_nil]
  refine wpAny_bind (wpAny_bind (wpAny_onRaise ?_)); show wpAny _ _ (Builtin.SmallTypes.nextOf (.ref i1) >>= _) _ _ _
  cases px : xs[k1]? with
  | none =>
    refine wpAny_bind (nx_tupEnd hh (p1.extBut b1.extBut D.i1z) (pl1.extBut b1.extBut D.l1z) px fun g2 e b2 pe2 => ?_)
    obtain ⟨oe, pe3, pc⟩ := pe2
    have pz2 : IsZip g2 z TI TO .ellipsis := b2 _ _ D.i1z.symm pz1
    have ez : e ≠ z := fun x => by subst x; rw [pz2] at pe3; cases pe3; simp at pc
    refine wpAny_setField_rec pz2 (by simp) fun g3 _ b3 => q g3 e (fun c o c1 _ c3 _ x => b3.extBut _ _ c1 (b2 _ _ c3 (b1.extBut _ _ c1 x))) ⟨oe, b3.extBut _ _ ez pe3, pc⟩
  | some x =>
    have py : ys[k2]? = none := by
      rcases pe with h | h
      · rw [px] at h; cases h
      · exact h
    refine wpAny_bind (nx_tupItem (p1.extBut b1.extBut D.i1z) (pl1.extBut b1.extBut D.l1z) px fun g2 p12 b2 => wpAny_pure ?_)
    have pO2 : IsPair g2 TO a b := b2.extBut _ _ D.TOi1 (b1.extBut _ _ D.TOz pO)
    refine wpAny_bind (wpAny_seqItems pO2 rfl ?_); refine wpAny_bind (wpAny_updateSeq_pair pO2 fun g3 pO3 b3 => ?_)
    refine wpAny_bind (wpAny_letGo (wpAny_pure ?_)); refine wpAny_bind (wpAny_bind (wpAny_onRaise ?_)); show wpAny _ _ (Builtin.SmallTypes.nextOf (.ref i2) >>= _) _ _ _
    refine wpAny_bind (wpAny_nextOf_list_end hh (((p2.extBut b1.extBut D.i2z).extBut b2.extBut D.i12.symm).extBut b3.extBut D.TOi2.symm) (((pl2.extBut b1.extBut D.l2z).extBut b2.extBut D.l2i1).extBut b3.extBut D.l2TO) py fun g4 e b4 pe2 => ?_)
    obtain ⟨oe, pe3, pc⟩ := pe2
    have pz4 : IsZip g4 z TI TO .ellipsis := b4 _ _ D.i2z.symm (b3.extBut _ _ D.TOz.symm (b2.extBut _ _ D.i1z.symm pz1))
    have ez : e ≠ z := fun x => by subst x; rw [pz4] at pe3; cases pe3; simp at pc
    refine wpAny_setField_rec pz4 (by simp) fun g5 _ b5 => q g5 e (fun c o c1 c2 c3 c4 x => b5.extBut _ _ c1 (b4 _ _ c4 (b3.extBut _ _ c2 (b2.extBut _ _ c3 (b1.extBut _ _ c1 x))))) ⟨oe, b5.extBut _ _ ez pe3, pc⟩
theorem nextT_item {z TI TO i1 i2 l1 l2 : Addr} {k1 k2 : Nat} {xs ys : Array Value} {x y a b : Value} {Q : Option Value → Shared → Prop} (D : ZipApart z TI TO i1 i2 l1 l2) (pz : IsZip s.heap z TI TO .none) (pT : IsPair s.heap TI (.ref i1) (.ref i2)) (pO : IsPair s.heap TO a b)
    (p1 : s.heap.IsTupleIter i1 l1 k1) (p2 : s.heap.IsListIter i2 l2 k2) (pl1 : s.heap.IsTuple l1 xs) (pl2 : s.heap.IsList l2 ys) (px : xs[k1]? = some x) (py : ys[k2]? = some y)
    (q : ∀ g, IsZip g z TI TO (rawInt s.heap.objs.size) → IsPair g TO x y → g.IsTupleIter i1 l1 (k1 + 1) → g.IsListIter i2 l2 (k2 + 1) → IsPair g s.heap.objs.size x y → g.objs.size = s.heap.objs.size + 1 →
      (∀ c o, c ≠ z → c ≠ TO → c ≠ i1 → c ≠ i2 → s.heap.get? c = some o → g.get? c = some o) → Q (some (.ref s.heap.objs.size)) { s with heap := g }) : wpAny (model prog w) A (pyNext (.ref z)) Q E s := by
  have pt : s.TypeIs (.ref z) "zip" := ⟨_, pz, rfl⟩
  unfold pyNext; exact wpAny_bind (wpAny_attempt (wpAny_callSpecial?_slot (name := Str.ofString "__next__") pt F.slot_zip_next (wpAny_call_entry F.slot_zip_next pt F.entry_zip_next
      (zipT_item D pz pT pO p1 p2 pl1 pl2 px py fun g a1 a2 a3 a4 a5 a6 a7 => wpAny_pure (q g a1 a2 a3 a4 a5 a6 a7)) (F.args_zip_next_1 _))))
theorem nextT_end {z TI TO i1 i2 l1 l2 : Addr} {k1 k2 : Nat} {xs ys : Array Value} {a b : Value} {Q : Option Value → Shared → Prop} (hh : A.handled = none) (D : ZipApart z TI TO i1 i2 l1 l2) (pz : IsZip s.heap z TI TO .none) (pT : IsPair s.heap TI (.ref i1) (.ref i2)) (pO : IsPair s.heap TO a b)
    (p1 : s.heap.IsTupleIter i1 l1 k1) (p2 : s.heap.IsListIter i2 l2 k2) (pl1 : s.heap.IsTuple l1 xs) (pl2 : s.heap.IsList l2 ys) (pe : xs[k1]? = none ∨ ys[k2]? = none)
    (q : ∀ g, (∀ c o, c ≠ z → c ≠ TO → c ≠ i1 → c ≠ i2 → s.heap.get? c = some o → g.get? c = some o) → Q none { s with heap := g }) : wpAny (model prog w) A (pyNext (.ref z)) Q E s := by
  have pt : s.TypeIs (.ref z) "zip" := ⟨_, pz, rfl⟩
  unfold pyNext; refine wpAny_bind (wpAny_attempt (wpAny_callSpecial?_slot (name := Str.ofString "__next__") pt F.slot_zip_next (wpAny_call_entry F.slot_zip_next pt F.entry_zip_next (zipT_end hh D pz pT pO p1 p2 pl1 pl2 pe fun g e kp pe2 => ?_) (F.args_zip_next_1 _))))
  obtain ⟨o, po, pc⟩ := pe2
  refine wpAny_bind (wpAny_isInstance (T := "StopIteration") (b := true) ⟨o, po, pc⟩ isSubtype_stop ?_); exact wpAny_pure (q _ kp)
end
abbrev zH1 (h : Heap) (l1 : Addr) : Heap := h.push { cls := .type "tuple_iterator", data := .fields #[.ref l1, .int 0 0] }
abbrev zH2 (h : Heap) (l1 l2 : Addr) : Heap := (zH1 h l1).push { cls := .type "list_iterator", data := .fields #[.ref l2, .int 0 0] }
abbrev zH3 (h : Heap) (l1 l2 : Addr) : Heap := (zH2 h l1 l2).push { cls := .type "tuple", data := .seq #[.ref h.objs.size, .ref (zH1 h l1).objs.size] }
abbrev zH4 (h : Heap) (l1 l2 : Addr) : Heap := (zH3 h l1 l2).push { cls := .type "tuple", data := .seq #[.none, .none] }
abbrev zH5 (h : Heap) (l1 l2 : Addr) : Heap := (zH4 h l1 l2).push { cls := .type "zip", data := .fields #[.none, .bool false, .bool false, .ref (zH2 h l1 l2).objs.size, .ref (zH3 h l1 l2).objs.size] }
theorem meetsT_new (l1 l2 : Addr) (xs ys : Array Value) : Meets (Builtin.«zip.__new__» ⟨[.type "zip", .ref l1, .ref l2], []⟩) (fun _ R s => s.heap.IsTuple l1 xs ∧ s.heap.IsList l2 ys ∧
      R (.ok (.ret (.ref (zH4 s.heap l1 l2).objs.size))) { s with heap := zH5 s.heap l1 l2 }) :=
  .of_wp fun prog w A R s h => by
    obtain ⟨hp, g, d, tk, os⟩ := s; obtain ⟨p1, p2, h⟩ := h
    have hsub := sub_zip
    have pL1 : Heap.IsTuple (Shared.heap ⟨hp, g, d, tk, os⟩) l1 xs := p1
    have pL2 : Heap.IsList (Shared.heap ⟨hp.push { cls := .type "tuple_iterator", data := .fields #[.ref l1, .int 0 0] }, g, d, tk, os⟩) l2 ys := Heap.IsList.push p2 _
    wp_walk using wpAny_pyIter_tuple pL1, wpAny_pyIter_list pL2
    exact ⟨_, rfl, h⟩
theorem call_zipT {prog : Program} {w : World} {A : Around} {E : Value → Shared → Prop} {s : Shared} {l1 l2 : Addr} {xs ys : Array Value} {Q : Value → Shared → Prop} (p1 : s.heap.IsTuple l1 xs) (p2 : s.heap.IsList l2 ys)
    (h : ∀ g, IsZip g (s.heap.objs.size + 4) (s.heap.objs.size + 2) (s.heap.objs.size + 3) .none → IsPair g (s.heap.objs.size + 2) (.ref s.heap.objs.size) (.ref (s.heap.objs.size + 1)) → IsPair g (s.heap.objs.size + 3) .none .none → g.IsTupleIter s.heap.objs.size l1 0 → g.IsListIter (s.heap.objs.size + 1) l2 0 → g.objs.size = s.heap.objs.size + 5 →
      (∀ c o, s.heap.get? c = some o → g.get? c = some o) → Q (.ref (s.heap.objs.size + 4)) { s with heap := g }) : wpAny (model prog w) A (call (.type "zip") [.ref l1, .ref l2]) Q E s := by
  refine callType_new F.called_zip (by decide) (F.typeCall_zip_2 _ _) (F.newCall_zip_2 _ _) (fun obj => F.args_object_init_3 obj _ _) F.entry_zip_new (meetsT_new l1 l2 xs ys) ⟨p1, p2, ?_⟩
  have z1 : (zH1 s.heap l1).objs.size = s.heap.objs.size + 1 := Heap.size_push ..
  have z2 : (zH2 s.heap l1 l2).objs.size = s.heap.objs.size + 2 := by rw [Heap.size_push, z1]
  have z3 : (zH3 s.heap l1 l2).objs.size = s.heap.objs.size + 3 := by rw [Heap.size_push, z2]
  have z4 : (zH4 s.heap l1 l2).objs.size = s.heap.objs.size + 4 := by rw [Heap.size_push, z3]
  have z5 : (zH5 s.heap l1 l2).objs.size = s.heap.objs.size + 5 := by rw [Heap.size_push, z4]
  have g5 : (zH5 s.heap l1 l2).get? (zH4 s.heap l1 l2).objs.size = some _ := Heap.get?_push_size _ rfl
  have g4 : (zH5 s.heap l1 l2).get? (zH3 s.heap l1 l2).objs.size = some _ := Heap.get?_push_of_some _ (Heap.get?_push_size _ rfl)
  have g3 : (zH5 s.heap l1 l2).get? (zH2 s.heap l1 l2).objs.size = some _ := Heap.get?_push_of_some _ (Heap.get?_push_of_some _ (Heap.get?_push_size _ rfl))
  have g2 : (zH5 s.heap l1 l2).get? (zH1 s.heap l1).objs.size = some _ := Heap.get?_push_of_some _ (Heap.get?_push_of_some _ (Heap.get?_push_of_some _ (Heap.get?_push_size _ rfl)))
  have g1 : (zH5 s.heap l1 l2).get? s.heap.objs.size = some _ := Heap.get?_push_of_some _ (Heap.get?_push_of_some _ (Heap.get?_push_of_some _ (Heap.get?_push_of_some _ (Heap.get?_push_size _ rfl))))
  show _ ∧ _
  rw [z2, z3, z4] at g5
  rw [z1, z2] at g3
  rw [z3] at g4
  rw [z1] at g2
  rw [z4]
  exact ⟨⟨_, g5, rfl⟩, h _ g5 g3 g4 ⟨_, g1, rfl, rfl⟩ ⟨_, g2, rfl, rfl⟩ z5 fun c o x => Heap.get?_push_of_some _ (Heap.get?_push_of_some _ (Heap.get?_push_of_some _ (Heap.get?_push_of_some _ (Heap.get?_push_of_some _ x))))⟩
/-- the tuple at a and the list at b as they stand at each turn, the items in new pairs -/
def Itzt (K : PySem.W.Frag) (a b : Addr) : It :=
  ⟨fun i H => ∃ (xs ys : List V) (x y : V), SqT K H a xs ∧ SqL K H b ys ∧ xs[i]? = some x ∧ ys[i]? = some y,
    fun i H v H' => ∃ T x y, v = .ref T ∧ H T = none ∧ H' = upd H T (.tup [x, y]) ∧ (∀ xs, SqT K H a xs → xs[i]? = some x) ∧ ∀ ys, SqL K H b ys → ys[i]? = some y,
    fun i H => ∃ xs ys : List V, SqT K H a xs ∧ SqL K H b ys ∧ (xs.length ≤ i ∨ ys.length ≤ i)⟩
theorem turn_zipT {P : Program} {w : World} {K : PySem.W.Frag} {elts : List Expr} {kk : Nat} {tpos : Pos} {a b z TI TO i1 i2 : Addr} (D : ZipApart z TI TO i1 i2 a b) :
    Turn P w K (.Tuple elts kk tpos) (Itzt K a b) [z, TI, TO, i1, i2] z (fun i h => IsZip h z TI TO .none ∧ IsPair h TI (.ref i1) (.ref i2) ∧ (∃ x y, IsPair h TO x y) ∧ h.IsTupleIter i1 a i ∧ h.IsListIter i2 b i) where
  mem := by simp
  obj := fun i h st c hc => by
    obtain ⟨hz, hTI, ⟨x, y, hTO⟩, ⟨o1, e1, _, d1⟩, ⟨o2, e2, _, d2⟩⟩ := st
    have e' : c = z ∨ c = TI ∨ c = TO ∨ c = i1 ∨ c = i2 := by simpa using hc
    rcases e' with q | q | q | q | q
    · rw [q]; exact ⟨_, hz, fun v q => nomatch q⟩
    · rw [q]; exact ⟨_, hTI, fun v q => nomatch q⟩
    · rw [q]; exact ⟨_, hTO, fun v q => nomatch q⟩
    · rw [q]; exact ⟨o1, e1, fun v q => by rw [d1] at q; cases q⟩
    · rw [q]; exact ⟨o2, e2, fun v q => by rw [d2] at q; cases q⟩
  keep := fun i h h' st k => by
    obtain ⟨hz, hTI, ⟨x, y, hTO⟩, h1, h2⟩ := st
    exact ⟨k z (by simp) _ hz, k TI (by simp) _ hTI, ⟨x, y, k TO (by simp) _ hTO⟩, h1.at fun o q => k i1 (by simp) o q, h2.at fun o q => k i2 (by simp) o q⟩
  item := by
    intro X hP hw hK hc i pins s σ H E I hf st hg
    subst hP hw hK
    obtain ⟨hz, hTI, ⟨x0, y0, hTO⟩, h1, h2⟩ := st
    obtain ⟨xs, ys, x, y, hqx, hqy, hx, hy⟩ := hg
    obtain ⟨its, rv, p, _⟩ := I.tuple hqx
    obtain ⟨its2, rv2, p2, _⟩ := I.list hqy
    obtain ⟨u, hu, ru⟩ := rv.get hx
    obtain ⟨u2, hu2, ru2⟩ := rv2.get hy
    have hzl : z < s.heap.objs.size := Heap.lt_size hz
    refine nextT_item D hz hTI hTO h1 h2 (show s.heap.IsTuple a its.toArray from p) p2.isList (x := u) (y := u2) (by simpa using hu) (by simpa using hu2) fun h' z' TO' h1' h2' hT hsz hk => ?_
    refine ⟨_, rfl, wpAny_letOwnedTupleGo_zip (s := { s with heap := h' }) z' fun h'' z'' sb => ?_⟩
    have hT2 : h''.get? s.heap.objs.size = some { cls := .type "tuple", data := .seq #[u, u2] } := (sb.2 _ (Nat.ne_of_gt hzl)).trans hT
    have new : ObjOk X.prog X.w (upd H s.heap.objs.size (.tup [x, y])) h'' s.heap.objs.size (.tup [x, y]) :=
      ⟨by show 2 ≤ sizeLine; decide, [u, u2], .cons ru (.cons ru2 .nil), ⟨_, hT2, rfl, _, rfl⟩⟩
    have I1 : Inv X pins σ (upd H s.heap.objs.size (.tup [x, y])) { s with heap := h'' } :=
      I.turnedNew (t' := s.toks) (ch := [z, TI, TO, i1, i2]) (fun c o hb q => (sb.2 c (fun q' => hb (by simp [q']))).trans (hk c o (fun q' => hb (by simp [q'])) (fun q' => hb (by simp [q'])) (fun q' => hb (by simp [q'])) (fun q' => hb (by simp [q'])) q)) hf (Nat.le_refl _) new
    refine ⟨.ref s.heap.objs.size, _, I1, rfl, ⟨_, x, y, rfl, I.hok.fresh (Nat.le_refl _), rfl, fun l hl => by rw [I.tuple_inj hl hqx]; exact hx, fun l hl => by rw [I.list_inj hl hqy]; exact hy⟩, ⟨z'', ?_, ⟨u, u2, ?_⟩, ?_, ?_⟩, fun c hcm => ?_⟩
    · exact (sb.2 _ D.TIz).trans (hk _ _ D.TIz D.TITO D.TIi1 D.TIi2 hTI)
    · exact (sb.2 _ D.TOz).trans TO'
    · exact h1'.at fun o q => (sb.2 _ D.i1z).trans q
    · exact h2'.at fun o q => (sb.2 _ D.i2z).trans q
    · have hlt : c < s.heap.objs.size := by
        have e' : c = z ∨ c = TI ∨ c = TO ∨ c = i1 ∨ c = i2 := by simpa using hcm
        rcases e' with q | q | q | q | q
        · rw [q]; exact hzl
        · rw [q]; exact Heap.lt_size hTI
        · rw [q]; exact Heap.lt_size hTO
        · rw [q]; obtain ⟨_, e1, _⟩ := h1; exact Heap.lt_size e1
        · rw [q]; obtain ⟨_, e2, _⟩ := h2; exact Heap.lt_size e2
      rw [upd_ne (Nat.ne_of_lt hlt)]
      exact (hf c hcm).1
  done := by
    intro X hP hw hK hc i pins s σ H E I hf st hg
    subst hP hw hK
    obtain ⟨hz, hTI, ⟨x0, y0, hTO⟩, h1, h2⟩ := st
    obtain ⟨xs, ys, hqx, hqy, hend⟩ := hg
    obtain ⟨its, rv, p, _⟩ := I.tuple hqx
    obtain ⟨its2, rv2, p2, _⟩ := I.list hqy
    have l1 := rv.length
    have l2 := rv2.length
    have he : its.toArray[i]? = none ∨ its2.toArray[i]? = none := by
      rcases hend with q | q
      · exact .inl (by simp; omega)
      · exact .inr (by simp; omega)
    exact nextT_end (I.ok.hd hc) D hz hTI hTO h1 h2 (show s.heap.IsTuple a its.toArray from p) p2.isList he fun h' hk => ⟨rfl, I.turnedL (t' := s.toks) (ch := [z, TI, TO, i1, i2]) (fun c o hb q =>
      hk c o (fun q' => hb (by simp [q'])) (fun q' => hb (by simp [q'])) (fun q' => hb (by simp [q'])) (fun q' => hb (by simp [q'])) q) hf⟩
  self := fun A i s Q E st h => wpAny_pyIter_zip st.1 h
def iZipT (K : PySem.W.Frag) (ta : TA) : TI := fun σ H R => ta σ H fun vs H1 => ∃ a b xs ys, vs = [.ref a, .ref b] ∧ SqT K H1 a xs ∧ SqL K H1 b ys ∧ R (Itzt K a b) H1
theorem pi_zipT {X : Cx} {e e2 : Expr} {ta : TA} {p pos tpos : Pos} {elts : List Expr} {kk : Nat} (hg : Gl X "zip") (hm : X.mg "zip" = none) (ha : PA X [e, e2] ta)
    (hs : starEach [e, e2] X.env = (false, eval e X.env) :: starEach [e2] X.env := by rfl) (hpl : (backTo pos (starEach [e2] X.env)).any (·.1) = false := by rfl) :
    PI X (.Tuple elts kk tpos) (.Call (.Name "zip" p) [e, e2] [] pos) (iZipT X.K ta) := by
  intro pins s σ H R I h
  refine Call_ (ld_blt I hg hm boot_zip5 (PyProof.Rows.callWith_type1 (thn (ha pos pins s σ H _ I h) fun us s1 ⟨vs, H1, I1, r1, q1⟩ => ?_) hs hpl))
  obtain ⟨a, b, xs, ys, ex, hqx, hqy, q⟩ := q1
  subst ex
  cases r1 with
  | cons r rr =>
    cases rr with
    | cons r' rr =>
      cases rr
      cases r
      cases r'
      obtain ⟨its, rv, p1, _⟩ := I1.tuple hqx
      obtain ⟨its2, rv2, p2, _⟩ := I1.list hqy
      have la : a < s1.heap.objs.size := by obtain ⟨_, q, _⟩ := (show s1.heap.IsTuple a its.toArray from p1); exact Heap.lt_size q
      have lb : b < s1.heap.objs.size := p2.lt
      refine call_zipT (show s1.heap.IsTuple a its.toArray from p1) p2.isList fun h' hz hTI hTO h1 h2 hsz hk => wpAny_pyIter_zip hz ?_
      have I2 : Inv X pins σ H1 { s1 with heap := h' } := I1.kept (t' := s1.toks) hk
      refine ⟨s1.heap.objs.size + 4, [s1.heap.objs.size + 4, s1.heap.objs.size + 2, s1.heap.objs.size + 3, s1.heap.objs.size, s1.heap.objs.size + 1], _, _, H1, rfl, I2, turn_zipT (PySem.W.ktu_apart s1.heap.objs.size a b la lb), ⟨hz, hTI, ⟨_, _, hTO⟩, h1, h2⟩, fun c hcm => ?_, q⟩
      have e' : c = s1.heap.objs.size + 4 ∨ c = s1.heap.objs.size + 2 ∨ c = s1.heap.objs.size + 3 ∨ c = s1.heap.objs.size ∨ c = s1.heap.objs.size + 1 := by simpa using hcm
      have hle : s1.heap.objs.size ≤ c := by
        rcases e' with z | z | z | z | z
        · rw [z]; exact Nat.le_add_right _ _
        · rw [z]; exact Nat.le_add_right _ _
        · rw [z]; exact Nat.le_add_right _ _
        · rw [z]; exact Nat.le_refl _
        · rw [z]; exact Nat.le_add_right _ _
      exact I1.fpOk hle (I1.hok.fresh hle)
end L2

set_option Elab.async false
set_option linter.all false
set_option maxRecDepth 100000
set_option maxHeartbeats 1000000
/-! Loops over a zip; lists of ints compared; slices of lists. -/
namespace L2
open PySem PySem.Spec PyProof.Rows
/-- for (a, b) in zip(tuple, list), both as they are -/
theorem for_zipT {K : PySem.W.Frag} {a b : Addr} {xs ys : List V} {g : TG} {tb : TS} {D : Ends} {σ : St} {H : Hp} (Pv : Nat → St → Hp → Prop) (h0 : Pv 0 σ H) (hl : ∀ i σ H, Pv i σ H → SqT K H a xs ∧ SqL K H b ys) (n : Nat) (hx : xs.length = n) (hy : ys.length = n)
    (hs : ∀ i x y σ H T, xs[i]? = some x → ys[i]? = some y → H T = none → Pv i σ H → g (.ref T) σ (upd H T (.tup [x, y])) fun σ2 H2 => tb { D with nx := Pv (i + 1), ct := Pv (i + 1), bk := D.nx } σ2 H2) (hd : ∀ σ H, Pv n σ H → D.nx σ H) :
    ∃ W : Nat → Nat → St → Hp → Prop, (∃ m, W 0 m σ H) ∧ ∀ i m σ H, W i m σ H →
      ((Itzt K a b).stop i H ∧ D.nx σ H) ∨ ((Itzt K a b).go i H ∧ ∃ N : St → Hp → Prop, (∀ σ' H', N σ' H' → ∃ m', m' < m ∧ W (i + 1) m' σ' H') ∧ ∀ x H', (Itzt K a b).yld i H x H' → g x σ H' fun σ2 H2 => tb { D with nx := N, ct := N, bk := D.nx } σ2 H2) := by
  refine ⟨fun i m σ H => m = n - i ∧ i ≤ n ∧ Pv i σ H, ⟨n, by simp, Nat.zero_le _, h0⟩, ?_⟩
  rintro i m σ H ⟨rfl, hi, p⟩
  obtain ⟨q1, q2⟩ := hl i σ H p
  by_cases hlt : i < n
  · refine .inr ⟨⟨xs, ys, xs[i], ys[i], q1, q2, by simp [hx, hlt], by simp [hy, hlt]⟩, Pv (i + 1), fun σ' H' p' => ⟨n - (i + 1), by omega, rfl, hlt, p'⟩, fun z H' y => ?_⟩
    obtain ⟨T, x, y, rfl, hT, rfl, e1, e2⟩ := y
    exact hs i x y σ H T (e1 xs q1) (e2 ys q2) hT p
  · have e : i = n := by omega
    subst e
    exact .inl ⟨⟨xs, ys, q1, q2, .inl (by omega)⟩, hd σ H p⟩
/-- a comprehension over zip(list, list) -/
theorem lc_zip {K : PySem.W.Frag} {a b : Addr} {xs ys : List V} {g : TG} {tt : TT} {te : TE} {vs : List Nat} {σ : St} {H1 : Hp} {D : Addr} {Qd : Hp → Prop} (Pv : Nat → Hp → Prop) (h0 : Pv 0 (upd H1 D (.lst []))) (hl : ∀ i H, Pv i H → SqL K H a xs ∧ SqL K H b ys) (n : Nat) (hn : n = min xs.length ys.length)
    (hs : ∀ i x y H T, xs[i]? = some x → ys[i]? = some y → H T = none → Pv i H → g (.ref T) (wipe σ vs) (upd H T (.tup [x, y])) fun σ2 H2 => wipe σ2 vs = wipe σ vs ∧ tt σ2 H2 fun b H3 =>
      if b = true then te σ2 H3 fun y H4 => ∃ acc, H4 D = some (.lst acc) ∧ acc.length < sizeLine ∧ Pv (i + 1) (upd H4 D (.lst (acc ++ [y]))) else Pv (i + 1) H3) (hd : ∀ H, Pv n H → Qd H) :
    ∃ W : Nat → Nat → Hp → Prop, (∃ m, W 0 m (upd H1 D (.lst []))) ∧ ∀ i m H, W i m H →
      ((Itz K a b).stop i H ∧ Qd H) ∨ ((Itz K a b).go i H ∧ ∃ Nx : Hp → Prop, (∀ H', Nx H' → ∃ m', m' < m ∧ W (i + 1) m' H') ∧ ∀ x H', (Itz K a b).yld i H x H' → g x (wipe σ vs) H' fun σ2 H2 => wipe σ2 vs = wipe σ vs ∧ tt σ2 H2 fun b H3 =>
        if b = true then te σ2 H3 fun y H4 => ∃ acc, H4 D = some (.lst acc) ∧ acc.length < sizeLine ∧ Nx (upd H4 D (.lst (acc ++ [y]))) else Nx H3) := by
  refine ⟨fun i m H => m = n - i ∧ i ≤ n ∧ Pv i H, ⟨n, by simp, Nat.zero_le _, h0⟩, ?_⟩
  rintro i m H ⟨rfl, hi, p⟩
  obtain ⟨q1, q2⟩ := hl i H p
  by_cases hlt : i < n
  · have hx : i < xs.length := by omega
    have hy : i < ys.length := by omega
    refine .inr ⟨⟨xs, ys, xs[i], ys[i], q1, q2, by simp [hx], by simp [hy]⟩, Pv (i + 1), fun H' p' => ⟨n - (i + 1), by omega, rfl, hlt, p'⟩, fun z H' y => ?_⟩
    obtain ⟨T, x, y, rfl, hT, rfl, e1, e2⟩ := y
    exact hs i x y H T (e1 xs q1) (e2 ys q2) hT p
  · have e : i = n := by omega
    refine .inl ⟨⟨xs, ys, q1, q2, by omega⟩, hd H (e ▸ p)⟩
theorem dpAll_ints (K : PySem.W.Frag) (H : Hp) : ∀ ns : List Int, DpAll K H (ns.map V.int) (ns.map PyData.int)
  | [] => .nil
  | n :: ns => .cons (.int n) (dpAll_ints K H ns)
theorem Dp.list {K : PySem.W.Frag} {H : Hp} {a : Addr} {ns : List Int} (h : SqL K H a (ns.map V.int)) : Dp K H (.ref a) (.list (ns.map PyData.int)) := .lst h (dpAll_ints K H ns)
theorem shaped_list (ns : List Int) : SeqAt.shaped (.list (ns.map PyData.int)) = true := PySem.W.ke_shaped_ints ns
theorem eqv_list (ns ms : List Int) : PyData.eqv (.list (ns.map PyData.int)) (.list (ms.map PyData.int)) = decide (ns = ms) := by
  rw [PyData.eqv]
  exact PySem.W.ked_eqvAll ns ms
/-- a list of ints cut -/
theorem cut_map {α : Type} (f : α → V) (l : List α) (i j : Nat) : cutV (l.map f) (some (i : Int)) (some (j : Int)) = ((l.drop i).take (j - i)).map f := by
  unfold cutV
  rw [HT.sIx_nat, HT.sIx_nat, List.length_map, ← List.map_drop, ← List.map_take]
  congr 1
  by_cases h : i ≤ l.length
  · rw [Nat.min_eq_left h]
    by_cases h2 : j ≤ l.length
    · rw [Nat.min_eq_left h2]
    · rw [List.take_of_length_le (by rw [List.length_drop]; omega), List.take_of_length_le (by rw [List.length_drop]; omega)]
  · rw [List.drop_eq_nil_of_le (show l.length ≤ i by omega), List.drop_eq_nil_of_le (by omega), List.take_nil, List.take_nil]
theorem cut_to {α : Type} (f : α → V) (l : List α) (j : Nat) : cutV (l.map f) none (some (j : Int)) = (l.take j).map f := by
  unfold cutV
  rw [HT.sIx_nat, List.length_map, ← List.map_drop, ← List.map_take]
  congr 1
  show (l.drop 0).take (min j l.length - 0) = l.take j
  rw [List.drop_zero, Nat.sub_zero, ← List.take_take, List.take_of_length_le (Nat.le_refl _)]
theorem cut_from {α : Type} (f : α → V) (l : List α) (i : Nat) : cutV (l.map f) (some (i : Int)) none = (l.drop i).map f := by
  unfold cutV
  rw [HT.sIx_nat, List.length_map, ← List.map_drop, ← List.map_take]
  congr 1
  show (l.drop (min i l.length)).take (l.length - min i l.length) = l.drop i
  rw [List.take_of_length_le (by rw [List.length_drop]; omega)]
  by_cases h : i ≤ l.length
  · rw [Nat.min_eq_left h]
  · rw [List.drop_eq_nil_of_le (show l.length ≤ i by omega), List.drop_eq_nil_of_le (by omega)]
/-- what is behind the last k, all but the last k: by a number below 0 -/
theorem cut_last {α : Type} (f : α → V) (l : List α) {k : Nat} (hk : 0 < k) (hl : k ≤ l.length) : cutV (l.map f) (some (-(k : Int))) none = (l.drop (l.length - k)).map f := by
  have e : HT.sIx l.length 0 (some (-(k : Int))) = l.length - k := by
    show (if -(k : Int) < 0 then (-(k : Int) + (l.length : Int)).toNat else min (-(k : Int)).toNat l.length) = _
    rw [if_pos (by omega)]
    omega
  unfold cutV
  rw [List.length_map, e, ← List.map_drop, ← List.map_take]
  congr 1
  exact List.take_of_length_le (by rw [List.length_drop]; exact Nat.le_refl _)
theorem cut_but {α : Type} (f : α → V) (l : List α) {i k : Nat} (hk : 0 < k) (hl : i + k ≤ l.length) : cutV (l.map f) (some (i : Int)) (some (-(k : Int))) = ((l.drop i).take (l.length - k - i)).map f := by
  have e : HT.sIx l.length l.length (some (-(k : Int))) = l.length - k := by
    show (if -(k : Int) < 0 then (-(k : Int) + (l.length : Int)).toNat else min (-(k : Int)).toNat l.length) = _
    rw [if_pos (by omega)]
    omega
  unfold cutV
  rw [List.length_map, e, HT.sIx_nat, Nat.min_eq_left (by omega), ← List.map_drop, ← List.map_take]
theorem flatten1 {α : Type} (k : Nat) (v : α) : (List.replicate k [v]).flatten = List.replicate k v := by
  induction k with
  | zero => rfl
  | succ k ih => rw [List.replicate_succ, List.flatten_cons, ih, List.replicate_succ]; rfl
end L2

set_option Elab.async false
set_option linter.all false
/-! Words of 32 bits, as the program's operators tell them. -/
namespace Gk
open PySem PyProof.Rows
theorem bAnd (x y : Nat) : Builtin.bitAnd (x : Int) (y : Int) = ((x &&& y : Nat) : Int) := by
  rw [bitAnd_pp (by omega) (by omega), Int.toNat_natCast, Int.toNat_natCast]
theorem bXor (x y : Nat) : Builtin.bitXor (x : Int) (y : Int) = ((x ^^^ y : Nat) : Int) := by
  rw [_root_.Bits.bitXor_pp (by omega) (by omega), Int.toNat_natCast, Int.toNat_natCast]
theorem bOr (x y : Nat) : Builtin.bitOr (x : Int) (y : Int) = ((x ||| y : Nat) : Int) := by
  rw [_root_.Bits.bitOr_pp (by omega) (by omega), Int.toNat_natCast, Int.toNat_natCast]
theorem bMask (x : Nat) : Builtin.bitAnd (x : Int) 4294967295 = ((x % Sz28.W : Nat) : Int) := by
  rw [W_eq]
  have h : Builtin.bitAnd (x : Int) (2 ^ 32 - 1) = (x : Int) % 2 ^ 32 := _root_.Bits.bitAnd_mask 32 (by omega)
  have h2 : ((2 : Int) ^ 32 - 1) = 4294967295 := rfl
  rw [h2] at h
  rw [h]
  rfl
theorem and_split : ∀ (k e g : Nat), e < 2 ^ k → g < 2 ^ k → ((2 ^ k - 1 - e) &&& g) + (g &&& e) = g
  | 0, e, g, he, hg => by
    have h1 : e = 0 := by rw [Nat.pow_zero] at he; omega
    have h2 : g = 0 := by rw [Nat.pow_zero] at hg; omega
    subst h1 h2
    rfl
  | k + 1, e, g, he, hg => by
    have ih := and_split k (e / 2) (g / 2) (by rw [Nat.pow_succ] at he; omega) (by rw [Nat.pow_succ] at hg; omega)
    have hp := Nat.two_pow_pos k
    rw [Nat.pow_succ] at he hg ⊢
    generalize 2 ^ k = m at *
    have e1 : (m * 2 - 1 - e) / 2 = m - 1 - e / 2 := by omega
    have d1 : ((m * 2 - 1 - e) &&& g) / 2 = (m - 1 - e / 2) &&& (g / 2) := by rw [Nat.and_div_two, e1]
    have d2 : (g &&& e) / 2 = (g / 2) &&& (e / 2) := Nat.and_div_two
    have m1 : ((m * 2 - 1 - e) &&& g) % 2 = 1 ↔ (m * 2 - 1 - e) % 2 = 1 ∧ g % 2 = 1 := Nat.and_mod_two_eq_one
    have m2 : (g &&& e) % 2 = 1 ↔ g % 2 = 1 ∧ e % 2 = 1 := Nat.and_mod_two_eq_one
    have p1 : (m * 2 - 1 - e) % 2 = 1 ↔ e % 2 = 0 := by omega
    omega
theorem bNotAnd {e g : Nat} (he : e < 2 ^ 32) (hg : g < 2 ^ 32) : Builtin.bitAnd (Builtin.bitNot (e : Int)) (g : Int) = (((Sz28.W - 1 - e) &&& g : Nat) : Int) := by
  have hn : ¬ 0 ≤ Builtin.bitNot (e : Int) := by unfold Builtin.bitNot; omega
  rw [bitAnd_np hn (by omega), bitNot_bitNot, Int.toNat_natCast, Int.toNat_natCast]
  have h := and_split 32 e g he hg
  have hW : Sz28.W = 2 ^ 32 := rfl
  rw [hW]
  omega
theorem turned_int {x k : Nat} (hx : x < 2 ^ 32) (hk : k ≤ 32) : Builtin.bitOr ((x : Int) / 2 ^ (k : Int).toNat) (Builtin.bitAnd ((x : Int) * 2 ^ ((32 : Int) - (k : Int)).toNat) 4294967295) = ((Sz28.turned x k : Nat) : Int) := by
  have e1 : ((32 : Int) - (k : Int)).toNat = 32 - k := by omega
  rw [e1, Int.toNat_natCast]
  have e2 : (x : Int) * 2 ^ (32 - k) = ((x * 2 ^ (32 - k) : Nat) : Int) := by push_cast; rfl
  have e3 : (x : Int) / 2 ^ k = ((x / 2 ^ k : Nat) : Int) := by push_cast; rfl
  have hW : Sz28.W = 2 ^ 32 := rfl
  rw [e2, e3, bMask, bOr, turned_or hx hk, hW]
theorem shr_int (x k : Nat) : (x : Int) / 2 ^ (k : Int).toNat = ((x / 2 ^ k : Nat) : Int) := by
  rw [Int.toNat_natCast]
  push_cast
  rfl
theorem xor_lt {x y : Nat} (hx : x < 2 ^ 32) (hy : y < 2 ^ 32) : x ^^^ y < 2 ^ 32 := Nat.xor_lt_two_pow hx hy
end Gk

set_option linter.all false
/-! The schedule of words, and the rounds, one by one. -/
namespace Gk
open PySem PyProof.Rows
def w16 (b : Sz28.Bytes) : List Nat := (List.range 16).map fun i => Sz28.big ((b.drop (4 * i)).take 4)
def wAt (w : List Nat) (k : Nat) : Nat := w.getD (w.length - k) 0
def wNext (w : List Nat) : Nat := (wAt w 16 + (Sz28.turned (wAt w 15) 7 ^^^ (Sz28.turned (wAt w 15) 18 ^^^ wAt w 15 / 2 ^ 3)) + wAt w 7 + (Sz28.turned (wAt w 2) 17 ^^^ (Sz28.turned (wAt w 2) 19 ^^^ wAt w 2 / 2 ^ 10))) % Sz28.W
def wsch (b : Sz28.Bytes) (i : Nat) : List Nat := (List.range i).foldl (fun w _ => w ++ [wNext w]) (w16 b)
theorem schedule_eq (b : Sz28.Bytes) : Sz28.schedule b = wsch b 48 := rfl
theorem wsch_next (b : Sz28.Bytes) (i : Nat) : wsch b (i + 1) = wsch b i ++ [wNext (wsch b i)] := by
  unfold wsch
  rw [List.range_succ, List.foldl_append]
  rfl
theorem wsch_length (b : Sz28.Bytes) : ∀ i, (wsch b i).length = 16 + i
  | 0 => by
    show (w16 b).length = 16
    unfold w16
    rw [List.length_map, List.length_range]
  | i + 1 => by
    rw [wsch_next, List.length_append, wsch_length b i]
    rfl
theorem w16_lt (b : Sz28.Bytes) : ∀ x ∈ w16 b, x < 2 ^ 32 := by
  intro x hx
  obtain ⟨i, _, rfl⟩ := List.mem_map.mp hx
  have h1 := big_lt ((b.drop (4 * i)).take 4)
  have h2 : ((b.drop (4 * i)).take 4).length ≤ 4 := by rw [List.length_take]; omega
  have h3 : 256 ^ ((b.drop (4 * i)).take 4).length ≤ 256 ^ 4 := Nat.pow_le_pow_right (by decide) h2
  have h4 : 256 ^ 4 = 2 ^ 32 := by decide
  omega
theorem wNext_lt (w : List Nat) : wNext w < 2 ^ 32 := Nat.mod_lt _ (by decide)
theorem wsch_lt (b : Sz28.Bytes) : ∀ i, ∀ x ∈ wsch b i, x < 2 ^ 32
  | 0 => w16_lt b
  | i + 1 => by
    intro x hx
    rw [wsch_next] at hx
    rcases List.mem_append.mp hx with h | h
    · exact wsch_lt b i x h
    · have : x = wNext (wsch b i) := by simpa using h
      subst this
      exact wNext_lt _
theorem wAt_at {w : List Nat} {k : Nat} (h0 : 0 < k) (h : k ≤ w.length) : w[w.length - k]? = some (wAt w k) := by
  unfold wAt
  have hl : w.length - k < w.length := by omega
  rw [List.getD_eq_getElem?_getD, List.getElem?_eq_getElem hl]
  rfl
theorem wAt_lt {w : List Nat} {k : Nat} (hw : ∀ x ∈ w, x < 2 ^ 32) (h0 : 0 < k) (h : k ≤ w.length) : wAt w k < 2 ^ 32 := hw _ (List.mem_of_getElem? (wAt_at h0 h))
theorem wNext_int (w : List Nat) : ((wNext w : Nat) : Int) = Builtin.bitAnd ((wAt w 16 : Int) + Builtin.bitXor (Builtin.bitXor (Sz28.turned (wAt w 15) 7 : Nat) (Sz28.turned (wAt w 15) 18 : Nat)) ((wAt w 15 : Int) / 2 ^ (3 : Int).toNat) + (wAt w 7 : Int)
    + Builtin.bitXor (Builtin.bitXor (Sz28.turned (wAt w 2) 17 : Nat) (Sz28.turned (wAt w 2) 19 : Nat)) ((wAt w 2 : Int) / 2 ^ (10 : Int).toNat)) 4294967295 := by
  have e3 : (wAt w 15 : Int) / 2 ^ (3 : Int).toNat = ((wAt w 15 / 2 ^ 3 : Nat) : Int) := shr_int (wAt w 15) 3
  have e10 : (wAt w 2 : Int) / 2 ^ (10 : Int).toNat = ((wAt w 2 / 2 ^ 10 : Nat) : Int) := shr_int (wAt w 2) 10
  rw [e3, e10, bXor, bXor, bXor, bXor, ← Int.natCast_add, ← Int.natCast_add, ← Int.natCast_add, bMask, Nat.xor_assoc, Nat.xor_assoc]
  rfl
/-! ### rounds -/
def rAt (v : List Nat) (l : List (Nat × Nat)) (i : Nat) : List Nat := (l.take i).foldl Sz28.round v
theorem rAt_next {v : List Nat} {l : List (Nat × Nat)} {i : Nat} {p : Nat × Nat} (h : l[i]? = some p) : rAt v l (i + 1) = Sz28.round (rAt v l i) p := by
  unfold rAt
  have e : l.take (i + 1) = l.take i ++ [p] := by rw [List.take_succ, h]; rfl
  rw [e, List.foldl_append]
  rfl
theorem rAt_length {v : List Nat} (hv : v.length = 8) (l : List (Nat × Nat)) (i : Nat) : (rAt v l i).length = 8 := fold_round_length _ _ hv
theorem getD_lt {v : List Nat} (h : ∀ x ∈ v, x < 2 ^ 32) (i : Nat) : v.getD i 0 < 2 ^ 32 := by
  rw [List.getD_eq_getElem?_getD]
  cases e : v[i]? with
  | none => decide
  | some x => exact h x (List.mem_of_getElem? e)
theorem round_lt {v : List Nat} (h : ∀ x ∈ v, x < 2 ^ 32) (p : Nat × Nat) : ∀ x ∈ Sz28.round v p, x < 2 ^ 32 := by
  intro x hx
  unfold Sz28.round at hx
  simp only [List.mem_cons, List.not_mem_nil, or_false] at hx
  rcases hx with e | e | e | e | e | e | e | e
  · subst e
    exact Nat.mod_lt _ (by decide)
  · subst e; exact getD_lt h 0
  · subst e; exact getD_lt h 1
  · subst e; exact getD_lt h 2
  · subst e
    exact Nat.mod_lt _ (by decide)
  · subst e; exact getD_lt h 4
  · subst e; exact getD_lt h 5
  · subst e; exact getD_lt h 6
theorem rAt_lt {v : List Nat} (h : ∀ x ∈ v, x < 2 ^ 32) (l : List (Nat × Nat)) : ∀ i, ∀ x ∈ rAt v l i, x < 2 ^ 32 := by
  intro i
  unfold rAt
  generalize l.take i = m
  induction m generalizing v with
  | nil => exact h
  | cons p m ih => exact ih (round_lt h p)
def rT (r : List Nat) (p : Nat × Nat) : Nat := r.getD 7 0 + (Sz28.turned (r.getD 4 0) 6 ^^^ (Sz28.turned (r.getD 4 0) 11 ^^^ Sz28.turned (r.getD 4 0) 25)) + ((r.getD 4 0 &&& r.getD 5 0) ^^^ ((Sz28.W - 1 - r.getD 4 0) &&& r.getD 6 0)) + p.1 + p.2
def rU (r : List Nat) : Nat := (Sz28.turned (r.getD 0 0) 2 ^^^ (Sz28.turned (r.getD 0 0) 13 ^^^ Sz28.turned (r.getD 0 0) 22)) + ((r.getD 0 0 &&& r.getD 1 0) ^^^ ((r.getD 0 0 &&& r.getD 2 0) ^^^ (r.getD 1 0 &&& r.getD 2 0)))
theorem round_eq (r : List Nat) (p : Nat × Nat) : Sz28.round r p = [(rT r p + rU r) % Sz28.W, r.getD 0 0, r.getD 1 0, r.getD 2 0, (r.getD 3 0 + rT r p) % Sz28.W, r.getD 4 0, r.getD 5 0, r.getD 6 0] := rfl
theorem rT_int {r : List Nat} (h : ∀ x ∈ r, x < 2 ^ 32) (k w : Nat) : (r.getD 7 0 : Int) + Builtin.bitXor (Builtin.bitXor (Sz28.turned (r.getD 4 0) 6 : Nat) (Sz28.turned (r.getD 4 0) 11 : Nat)) (Sz28.turned (r.getD 4 0) 25 : Nat)
    + Builtin.bitXor (Builtin.bitAnd (r.getD 4 0 : Nat) (r.getD 5 0 : Nat)) (Builtin.bitAnd (Builtin.bitNot (r.getD 4 0 : Nat)) (r.getD 6 0 : Nat)) + (k : Int) + (w : Int) = ((rT r (k, w) : Nat) : Int) := by
  rw [bXor, bXor, bAnd, bNotAnd (getD_lt h 4) (getD_lt h 6), bXor, Nat.xor_assoc]
  rfl
theorem rU_int (r : List Nat) : Builtin.bitXor (Builtin.bitXor (Sz28.turned (r.getD 0 0) 2 : Nat) (Sz28.turned (r.getD 0 0) 13 : Nat)) (Sz28.turned (r.getD 0 0) 22 : Nat)
    + Builtin.bitXor (Builtin.bitXor (Builtin.bitAnd (r.getD 0 0 : Nat) (r.getD 1 0 : Nat)) (Builtin.bitAnd (r.getD 0 0 : Nat) (r.getD 2 0 : Nat))) (Builtin.bitAnd (r.getD 1 0 : Nat) (r.getD 2 0 : Nat)) = ((rU r : Nat) : Int) := by
  rw [bXor, bXor, bAnd, bAnd, bAnd, bXor, bXor, Nat.xor_assoc, Nat.xor_assoc]
  rfl
theorem blockStep_eq (v : List Nat) (b : Sz28.Bytes) : blockStep v b = (v.zip (rAt v (Sz28.keys.zip (Sz28.schedule b)) 64)).map fun p => (p.1 + p.2) % Sz28.W := by
  unfold blockStep rAt
  rw [List.take_of_length_le]
  rw [List.length_zip, keys_length]
  omega
theorem blockStep_lt (v : List Nat) (b : Sz28.Bytes) : ∀ x ∈ blockStep v b, x < 2 ^ 32 := by
  intro x hx
  unfold blockStep at hx
  obtain ⟨p, _, rfl⟩ := List.mem_map.mp hx
  exact Nat.mod_lt _ (by decide)
theorem starts_lt : ∀ x ∈ Sz28.starts, x < 2 ^ 32 := by
  rw [starts_eq]
  decide
end Gk

set_option Elab.async false
set_option linter.all false
set_option maxRecDepth 100000
set_option maxHeartbeats 2000000
/-! The program's defs, one promise each: rows of bytes, powers. -/
namespace Gk
open PySem PySem.Spec PyProof.Rows L2
def top (i : Nat) : Stmt := PySem.Challenge.pw_greatkeys_s01_answers.main.body.getD i (.Pass ⟨0, 0, 0, 0⟩)
abbrev sNumber : Stmt := top 1
abbrev sRow : Stmt := top 2
abbrev sLow : Stmt := top 38
abbrev sPower : Stmt := top 39
section
variable {P : Program} {w : World} {K : PySem.W.Frag} {mg : Str → Option Value} {base : Heap}
/-! ### number_of -/
def spNumber (K : PySem.W.Frag) : Sp := fun vs H Q _ => ∃ (a : Addr) (ns : List Int), vs = [.ref a] ∧ SqL K H a (ns.map V.int) ∧ Row ns ∧ ns.length ≤ 100000 ∧ Q (.int (bigI ns)) H
theorem scNumber : FnScope ["row", "number", "byte"] ["row"] (defScope sNumber) := ⟨rfl, rfl, rfl, by decide +kernel, rfl, by decide +kernel, by decide +kernel⟩
theorem Row.take {ns : List Int} (h : Row ns) (i : Nat) : Row (ns.take i) := fun z hz => h z (List.mem_of_mem_take hz)
theorem bigI_bits {ns : List Int} (h : Row ns) : 0 ≤ bigI ns ∧ Bits (8 * ns.length) (bigI ns) := by
  rw [bigI_eq h]
  refine ⟨by omega, Bits.of_nat ?_⟩
  have h1 := big_lt (Sz28Neutral.octets ns)
  rw [length_octets] at h1
  have e : 256 ^ ns.length = 2 ^ (8 * ns.length) := by rw [Nat.pow_mul]
  rw [← e]
  exact h1
theorem or_byte {v z : Int} (hv : 0 ≤ v) (hz : isByte z) : Builtin.bitOr (v * 2 ^ (8 : Int).toNat) z = 256 * v + z := by
  have h := _root_.Bits.bitOr_join' (a := z) (b := v) (k := 8) hz.1 (by have := hz.2; omega) hv
  have e : (2 : Int) ^ (8 : Int).toNat = 2 ^ 8 := rfl
  rw [e, h]
  omega
theorem ok_number {f : Addr} {fd : FuncData} (F : Fun K "number_of" "number_of" sNumber f fd) : FnOk P w K mg base CX0 1 f fd ["row"] (spNumber K) := by
  refine F.ok scNumber (fun vs H Q E h => ?_) (fun cdv A outer s H vs Q E hr h => ?_)
  · obtain ⟨a, ns, rfl, _⟩ := h
    rfl
  · obtain ⟨a, ns, rfl, hS, hR, hl, k⟩ := h
    refine ⟨_, pss_cons (ps_set (i := 1) scNumber.nd rfl (Or.inl rfl) pe_int)
      (pss_cons (ps_for PassesOwn.never rfl (pi_list (pv 0)) (pg_name (i := 2) scNumber.nd rfl (Or.inl rfl)) (pss_one (ps_set (i := 1) scNumber.nd rfl (Or.inl rfl) (pe_op op_or (pe_op op_shlB (pv 1) pe_int) (pv 2)))))
      (pss_one (ps_ret (pv 1)))), ?_⟩
    refine ⟨_, rfl, a, rfl, ⟨_, hS⟩, for_list (K := K) (a := a) (xs := ns.map V.int) (fun i σ H' => ∃ v : Option V, σ = [some (.ref a), some (.int (bigI (ns.take i))), v] ∧ H' = H)
      ⟨none, rfl, rfl⟩ (fun i σ H' _ ⟨_, _, e⟩ => e ▸ hS) ?_ ?_⟩
    · rintro i y σ H' hi ⟨v, rfl, rfl⟩
      obtain ⟨z, hz, rfl⟩ := map_at hi
      have hb := bigI_bits (hR.take i)
      refine ⟨_, rfl, _, _, rfl, rfl, ⟨by decide, _, hb.2, ?_⟩, _, rfl, _, _, rfl, rfl, some (.int z), ?_, rfl⟩
      · rw [List.length_take]
        have := Nat.min_le_right i ns.length
        omega
      · rw [take_snoc hz, bigI_snoc, ← or_byte hb.1 (hR z (List.mem_of_getElem? hz))]
        rfl
    · rintro σ H' ⟨v, rfl, rfl⟩
      rw [List.length_map, List.take_length]
      exact ⟨_, rfl, k⟩
/-! ### row_of -/
theorem row_at {n k i : Nat} (hi : i < k) : (toInts (Sz28.bytesOf k n))[i]? = some ((n / 2 ^ (8 * (k - 1 - i)) % 256 : Nat) : Int) := by
  rw [ints_bytesOf, List.getElem?_map, List.getElem?_range hi]
  rfl
theorem row_item {n k i : Nat} (hi : i < k) : ((n / 2 ^ (8 * (k - 1 - i)) % 256 : Nat) : Int) = Builtin.bitAnd ((n : Int) / 2 ^ (8 * ((k : Int) - 1 + (i : Nat) * (-1))).toNat) 255 := by
  have e : (8 * ((k : Int) - 1 + (i : Nat) * (-1))).toNat = 8 * (k - 1 - i) := by omega
  rw [e]
  have h : Builtin.bitAnd ((n : Int) / 2 ^ (8 * (k - 1 - i))) (2 ^ 8 - 1) = ((n : Int) / 2 ^ (8 * (k - 1 - i))) % 2 ^ 8 := _root_.Bits.bitAnd_mask 8 (Int.ediv_nonneg (by omega) (L2.two_pow_nn _))
  have h2 : ((2 : Int) ^ 8 - 1) = 255 := rfl
  rw [h2] at h
  rw [h]
  push_cast
  rfl
def bytesV (l : Sz28.Bytes) : List V := (toInts l).map V.int
def spRow : Sp := fun vs H Q _ => ∃ (n k : Nat), vs = [.int n, .int k] ∧ k ≤ 100000 ∧ ∀ p, H p = none → Q (.ref p) (upd H p (.lst (bytesV (Sz28.bytesOf k n))))
theorem scRow : FnScope ["number", "size", "place"] ["number", "size"] (defScope sRow) := ⟨rfl, rfl, rfl, by decide +kernel, rfl, by decide +kernel, by decide +kernel⟩
theorem ok_row {f : Addr} {fd : FuncData} (hrg : mg "range" = none) (F : Fun K "row_of" "row_of" sRow f fd) : FnOk P w K mg base CX0 1 f fd ["number", "size"] spRow := by
  refine F.ok scRow (fun vs H Q E h => ?_) (fun cdv A outer s H vs Q E hr h => ?_)
  · obtain ⟨n, k, rfl, _⟩ := h
    rfl
  · obtain ⟨n, k, rfl, hl, q⟩ := h
    refine ⟨_, pss_one (ps_ret (pe_lc (own := [("place", 2)]) rfl scRow.nd (pi_range3 rfl hrg (pa_cons (pe_op op_sub (pv 1) pe_int) (pa_cons (pe_un un_neg pe_int) (pa_cons (pe_un un_neg pe_int) pa_nil))))
      (blkOk_by (N := ["number", "size", "place"]) (sc := defScope sRow) (by decide +kernel)) (fun _ _ _ _ _ => pg_name (i := 2) scRow.nd rfl (Or.inl rfl)) (fun _ _ _ _ _ => pts_nil)
      (fun _ _ _ _ _ => pe_op op_and (pe_op op_shr (pv 0) (pe_op op_mul pe_int (pv 2))) pe_int))), ?_⟩
    have en : (((k : Int) - 1) - (-1)).toNat = k := by omega
    refine ⟨_, rfl, _, _, rfl, rfl, _, rfl, _, rfl, _, _, _, _, rfl, RgC.neg (i := (k : Int) - 1) (j := -1) (by omega) (by omega) (by omega) (by omega), fun D hD => ?_⟩
    refine lc_rangeC (fun i H' => H' = upd H D (.lst (((toInts (Sz28.bytesOf k n)).take i).map V.int))) rfl ?_ ?_
    · rintro i H' hi rfl
      rw [en] at hi
      have hlen : (toInts (Sz28.bytesOf k n)).length = k := by rw [ints_length, length_bytesOf]
      refine ⟨rfl, _, rfl, _, rfl, _, _, rfl, rfl, .inl ⟨by decide, by decide⟩, _, _, rfl, rfl, ?_, _, _, rfl, rfl, _, upd_same, ?_, ?_⟩
      · show (0 : Int) ≤ 8 * ((k : Int) - 1 + (i : Nat) * (-1))
        omega
      · rw [List.length_map, List.length_take, hlen, sizeLine_eq]
        omega
      · rw [upd_upd, take_snoc (x := ((n / 2 ^ (8 * (k - 1 - i)) % 256 : Nat) : Int)) (row_at hi), List.map_append, row_item hi]
        rfl
    · rintro H' rfl
      rw [en, List.take_of_length_le (by rw [ints_length, length_bytesOf]; exact Nat.le_refl _)]
      exact q D hD
/-! ### low_powers -/
def pws (b m j : Nat) : List V := (List.range j).map fun i => V.int ((b ^ i % m : Nat) : Int)
theorem pws_length (b m j : Nat) : (pws b m j).length = j := by unfold pws; rw [List.length_map, List.length_range]
theorem pws_next (b m j : Nat) : pws b m (j + 1) = pws b m j ++ [V.int ((b ^ j % m : Nat) : Int)] := by
  unfold pws
  rw [List.range_succ, List.map_append]
  rfl
def spLow : Sp := fun vs H Q _ => ∃ (b m : Nat), vs = [.int b, .int m] ∧ 1 < m ∧ b < 2 ^ 8200 ∧ m < 2 ^ 8200 ∧ ∀ p, H p = none → Q (.ref p) (upd H p (.lst (pws b m 32)))
theorem scLow : FnScope ["base", "modulus", "powers"] ["base", "modulus"] (defScope sLow) := ⟨rfl, rfl, rfl, by decide +kernel, rfl, by decide +kernel, by decide +kernel⟩
theorem ok_low {f : Addr} {fd : FuncData} (hln : mg "len" = none) (hwm : GInt mg "WINDOW_MASK" 31) (F : Fun K "low_powers" "low_powers" sLow f fd) : FnOk P w K mg base CX0 1 f fd ["base", "modulus"] spLow := by
  refine F.ok scLow (fun vs H Q E h => ?_) (fun cdv A outer s H vs Q E hr h => ?_)
  · obtain ⟨b, m, rfl, _⟩ := h
    rfl
  · obtain ⟨b, m, rfl, hm, hbb, hmb, q⟩ := h
    refine ⟨_, pss_cons (ps_set (i := 2) scLow.nd rfl (Or.inl rfl) (pe_lst (pa_cons pe_int pa_nil)))
      (pss_cons (ps_while PassesOwn.never (pt_cmpR op_le (pe_callB call_len_seq (by rfl) hln PySem.boot_len (pa_cons (pv 2) pa_nil)) (pe_gint hwm rfl) (nomark _))
        (pss_one (ps_expr (pe_bm PySem.F.plainAttrs_list PySem.F.slot_list_append PySem.F.type_list_append mt_append (pv 2) (pa_cons (pe_op op_mod (pe_op op_mulB (pe_ix ix_list (pv 2) (pe_un un_neg pe_int) (fun _ _ => rfl)) (pv 0)) (pv 1)) pa_nil)))))
      (pss_one (ps_ret (pv 2)))), ?_⟩
    refine ⟨(by decide), fun p hp => ?_⟩
    refine ⟨fun t σ H' => ∃ j, 1 ≤ j ∧ j ≤ 32 ∧ t = 32 - j ∧ σ = [some (.int b), some (.int m), some (.ref p)] ∧ H' = upd H p (.lst (pws b m j)), ⟨31, 1, by decide, by decide, rfl, rfl, ?_⟩, ?_⟩
    · have e : pws b m 1 = [V.int 1] := by
        show [V.int ((b ^ 0 % m : Nat) : Int)] = [V.int 1]
        rw [Nat.pow_zero, Nat.mod_eq_of_lt hm]
        rfl
      rw [e]
    · rintro t σ H' ⟨j, h1, h2, rfl, rfl, rfl⟩
      refine ⟨_, rfl, p, _, rfl, .inl (SqL.of upd_same), _, _, rfl, rfl, _, rfl, ?_⟩
      rw [pws_length]
      refine ite2 (fun hc => ?_) (fun hc => ?_)
      · have hj : j < 32 := by
          have := of_decide_eq_true hc
          omega
        refine ⟨fun σ' H' => ∃ t', t' < 32 - j ∧ ∃ j, 1 ≤ j ∧ j ≤ 32 ∧ t' = 32 - j ∧ σ' = [some (.int b), some (.int m), some (.ref p)] ∧ H' = upd H p (.lst (pws b m j)), fun _ _ z => z, ?_⟩
        obtain ⟨i, rfl⟩ : ∃ i, j = i + 1 := ⟨j - 1, by omega⟩
        have hx : atI (pws b m (i + 1)) (-1) = some (V.int ((b ^ i % m : Nat) : Int)) := by rw [pws_next]; exact atI_last _ _
        have hlt : b ^ i % m < m := Nat.mod_lt _ (by omega)
        refine ⟨_, rfl, .inl ⟨rfl, _, SqL.of upd_same⟩, _, rfl, _, rfl, p, _, _, _, rfl, rfl, SqL.of upd_same, hx, _, rfl, _, _, rfl, rfl, ⟨8200, 8200, Bits.of_nat (Nat.lt_trans hlt hmb), Bits.of_nat hbb, by decide⟩, _, rfl, _, _, rfl, rfl, ?_, p, _, _, rfl, rfl, upd_same, ?_, ?_⟩
        · show (0 : Int) < (m : Int)
          omega
        · rw [pws_length, sizeLine_eq]
          omega
        · refine ⟨32 - (i + 1 + 1), by omega, i + 1 + 1, by omega, by omega, rfl, rfl, ?_⟩
          rw [upd_upd, pws_next b m (i + 1)]
          have e : ((b ^ i % m : Nat) : Int) * (b : Int) % (m : Int) = ((b ^ (i + 1) % m : Nat) : Int) := by
            rw [Nat.pow_succ, ← Nat.mod_mul_mod]
            push_cast
            rfl
          rw [← e]
      · have hj : j = 32 := by
          have : ¬ ((j : Int) ≤ 31) := fun z => hc (decide_eq_true z)
          omega
        subst hj
        exact ⟨_, rfl, q p hp⟩
/-! ### power -/
theorem intBits_nat (n : Nat) : Builtin.Int.intBits (n : Int) = Sz28.bitsOf n := by
  unfold Builtin.Int.intBits Sz28.bitsOf
  by_cases h : n = 0
  · subst h; rfl
  · have hb : ((n : Int) == 0) = false := beq_eq_false_iff_ne.mpr (by omega)
    rw [hb, if_neg h, Int.natAbs_natCast]
    rfl
def spPower : Sp := fun vs H Q _ => ∃ (b e m : Nat), vs = [.int b, .int e, .int m] ∧ 1 < m ∧ b < 2 ^ 8200 ∧ m < 2 ^ 8200 ∧ e < 2 ^ 8200 ∧ ∀ H', Same H H' → Q (.int ((b ^ e % m : Nat) : Int)) H'
theorem scPower : FnScope ["base", "exponent", "modulus", "powers", "result", "highest", "place", "squaring"] ["base", "exponent", "modulus"] (defScope sPower) := ⟨rfl, rfl, rfl, by decide +kernel, rfl, by decide +kernel, by decide +kernel⟩
theorem ok_power {f : Addr} {fd : FuncData} (hrg : mg "range" = none) (hW : GInt mg "WINDOW" 5) (hwm : GInt mg "WINDOW_MASK" 31) (hlow : Has P w K mg base 1 "low_powers" ["base", "modulus"] spLow)
    (F : Fun K "power" "power" sPower f fd) : FnOk P w K mg base CX0 2 f fd ["base", "exponent", "modulus"] spPower := by
  refine F.ok scPower (fun vs H Q E h => ?_) (fun cdv A outer s H vs Q E hr h => ?_)
  · obtain ⟨b, e, m, rfl, _⟩ := h
    rfl
  · obtain ⟨b, e, m, rfl, hm, hbb, hmb, heb, q⟩ := h
    refine ⟨_, pss_cons (ps_set (i := 3) scPower.nd rfl (Or.inl rfl) (pe_callH hlow hr (by decide) rfl (pa_cons (pv 0) (pa_cons (pv 2) pa_nil))))
      (pss_cons (ps_set (i := 4) scPower.nd rfl (Or.inl rfl) pe_int)
      (pss_cons (ps_set (i := 5) scPower.nd rfl (Or.inl rfl) (pe_op op_mul (pe_op op_fdiv (pe_bm0 PySem.F.plainAttrs_int PySem.F.slot_int_bit_length PySem.F.type_int_bit_length mt_bitlen (pv 1)) (pe_gint hW rfl)) (pe_gint hW rfl)))
      (pss_cons (ps_for PassesOwn.never rfl (pi_range3 rfl hrg (pa_cons (pv 5) (pa_cons (pe_un un_neg pe_int) (pa_cons (pe_un un_neg (pe_gint hW rfl)) pa_nil)))) (pg_name (i := 6) scPower.nd rfl (Or.inl rfl))
        (pss_cons (ps_for PassesOwn.never rfl (pi_range1 rfl hrg (pa_cons (pe_gint hW rfl) pa_nil)) (pg_name (i := 7) scPower.nd rfl (Or.inl rfl)) (pss_one (ps_set (i := 4) scPower.nd rfl (Or.inl rfl) (pe_op op_mod (pe_op op_mulB (pv 4) (pv 4)) (pv 2)))))
        (pss_one (ps_set (i := 4) scPower.nd rfl (Or.inl rfl) (pe_op op_mod (pe_op op_mulB (pv 4) (pe_ix ix_list (pv 3) (pe_op op_and (pe_op op_shr (pv 1) (pv 6)) (pe_gint hwm rfl)) (fun _ _ => rfl))) (pv 2))))))
      (pss_one (ps_ret (pv 4)))))), ?_⟩
    refine ⟨_, rfl, _, rfl, b, m, rfl, hm, hbb, hmb, fun p hp => ?_⟩
    refine ⟨_, rfl, rfl, _, rfl, rfl, _, _, rfl, rfl, ⟨by decide, by decide⟩, _, _, rfl, rfl, .inr ⟨by decide, by decide⟩, ?_⟩
    have hbits : e < 2 ^ Builtin.Int.intBits (e : Int) := by rw [intBits_nat]; exact bitsOf_le e
    have hbl : Builtin.Int.intBits (e : Int) ≤ 8200 := intBits_le_iff.mpr (Bits.of_nat heb)
    generalize Builtin.Int.intBits (e : Int) = B at hbits hbl ⊢
    obtain ⟨t, ht⟩ : ∃ t, t = B / 5 := ⟨_, rfl⟩
    have ehi : (B : Int) / 5 * 5 = ((5 * t : Nat) : Int) := by omega
    have htn : (((B : Int) / 5 * 5) / 5 + 1).toNat = t + 1 := by omega
    refine ⟨_, rfl, _, rfl, _, rfl, _, _, _, _, rfl, RgC.neg5 (a := (B : Int) / 5 * 5) (by omega) (by omega), ?_⟩
    refine for_rangeC (fun i σ H' => ∃ v6 v7 : Option V, σ = [some (.int b), some (.int e), some (.int m), some (.ref p), some (.int ((b ^ (e / 2 ^ (5 * (t + 1 - i))) % m : Nat) : Int)), some (.int ((B : Int) / 5 * 5)), v6, v7] ∧ H' = upd H p (.lst (pws b m 32))) ?_ ?_ ?_
    · refine ⟨none, none, ?_, rfl⟩
      have e0 : e / 2 ^ (5 * (t + 1 - 0)) = 0 := by
        refine Nat.div_eq_of_lt (Nat.lt_of_lt_of_le hbits (Nat.pow_le_pow_right (by decide) ?_))
        omega
      rw [e0, Nat.pow_zero, Nat.mod_eq_of_lt hm]
      rfl
    · rintro i σ H' hi ⟨v6, v7, rfl, rfl⟩
      rw [htn] at hi
      have hpl : (B : Int) / 5 * 5 + (i : Nat) * (-5) = ((5 * (t - i) : Nat) : Int) := by omega
      rw [hpl]
      obtain ⟨r, hr'⟩ : ∃ r, r = b ^ (e / 2 ^ (5 * (t + 1 - i))) % m := ⟨_, rfl⟩
      rw [← hr']
      have hrm : r < m := by rw [hr']; exact Nat.mod_lt _ (by omega)
      refine ⟨5, rfl, by decide, by decide, for_range (n := 5) (fun j σ H' => ∃ v7 : Option V, σ = [some (.int b), some (.int e), some (.int m), some (.ref p), some (.int ((r ^ (2 ^ j) % m : Nat) : Int)), some (.int ((B : Int) / 5 * 5)), some (.int ((5 * (t - i) : Nat) : Int)), v7] ∧ H' = upd H p (.lst (pws b m 32))) ?_ ?_ ?_⟩
      · refine ⟨v7, ?_, rfl⟩
        rw [Nat.pow_zero, Nat.pow_one, Nat.mod_eq_of_lt hrm]
        rfl
      · rintro j σ H' hj ⟨v7', rfl, rfl⟩
        have hlt : r ^ 2 ^ j % m < m := Nat.mod_lt _ (by omega)
        refine ⟨_, rfl, _, rfl, _, _, rfl, rfl, ⟨8200, 8200, Bits.of_nat (Nat.lt_trans hlt hmb), Bits.of_nat (Nat.lt_trans hlt hmb), by decide⟩, _, rfl, _, _, rfl, rfl, ?_, some (.int (0 + (j : Nat))), ?_, rfl⟩
        · show (0 : Int) < (m : Int)
          omega
        · have e2 : ((r ^ 2 ^ j % m : Nat) : Int) * ((r ^ 2 ^ j % m : Nat) : Int) % (m : Int) = ((r ^ 2 ^ (j + 1) % m : Nat) : Int) := by
            rw [← sq_step (x := r ^ 2 ^ j % m) rfl]
            push_cast
            rfl
          rw [← e2]
          rfl
      · rintro σ H' ⟨v7', rfl, rfl⟩
        have hE : e / 2 ^ (5 * (t + 1 - i)) = e / 2 ^ (5 * (t - i)) / 32 := by
          have : 5 * (t + 1 - i) = 5 * (t - i) + 5 := by omega
          rw [this, Nat.pow_add, ← Nat.div_div_eq_div_mul]
        have hand : Builtin.bitAnd ((e : Int) / 2 ^ ((5 * (t - i) : Nat) : Int).toNat) 31 = ((e / 2 ^ (5 * (t - i)) % 32 : Nat) : Int) := by
          rw [Int.toNat_natCast, PyProof.Rows.bitAnd_m5]
          push_cast
          rfl
        have hix : atI (pws b m 32) (Builtin.bitAnd ((e : Int) / 2 ^ ((5 * (t - i) : Nat) : Int).toNat) 31) = some (V.int ((b ^ (e / 2 ^ (5 * (t - i)) % 32) % m : Nat) : Int)) := by
          refine at_of hand ?_
          unfold pws
          rw [List.getElem?_map, List.getElem?_range (Nat.mod_lt _ (by decide))]
          rfl
        have hl1 : r ^ 2 ^ 5 % m < m := Nat.mod_lt _ (by omega)
        have hl2 : b ^ (e / 2 ^ (5 * (t - i)) % 32) % m < m := Nat.mod_lt _ (by omega)
        refine ⟨_, rfl, _, rfl, _, rfl, _, rfl, _, _, rfl, rfl, ?_, _, _, rfl, rfl, p, _, _, _, rfl, rfl, SqL.of upd_same, hix, _, _, rfl, rfl, ⟨8200, 8200, Bits.of_nat (Nat.lt_trans hl1 hmb), Bits.of_nat (Nat.lt_trans hl2 hmb), by decide⟩, _, rfl, _, _, rfl, rfl, ?_, some (.int ((5 * (t - i) : Nat) : Int)), v7', ?_, rfl⟩
        · show (0 : Int) ≤ ((5 * (t - i) : Nat) : Int)
          omega
        · show (0 : Int) < (m : Int)
          omega
        · have e3 : ((r ^ 2 ^ 5 % m : Nat) : Int) * ((b ^ (e / 2 ^ (5 * (t - i)) % 32) % m : Nat) : Int) % (m : Int) = ((b ^ (e / 2 ^ (5 * (t + 1 - (i + 1)))) % m : Nat) : Int) := by
            have e4 : t + 1 - (i + 1) = t - i := by omega
            rw [e4, ← pow_win (m := m) (b := b) (e := e / 2 ^ (5 * (t - i))) (r := r) (by rw [hr', hE]) rfl]
            push_cast
            rfl
          rw [← e3]
          rfl
    · rintro σ H' ⟨v6, v7, rfl, rfl⟩
      rw [htn]
      have e5 : e / 2 ^ (5 * (t + 1 - (t + 1))) = e := by
        rw [Nat.sub_self, Nat.mul_zero, Nat.pow_zero, Nat.div_one]
      rw [e5]
      exact ⟨_, rfl, q _ (Same.new hp)⟩
end
end Gk

set_option Elab.async false
set_option linter.all false
set_option maxRecDepth 100000
set_option maxHeartbeats 2000000
/-! The program's defs: common divisors, multiples, inverses. -/
namespace Gk
open PySem PySem.Spec PyProof.Rows L2
abbrev sGcd : Stmt := top 40
abbrev sLcm : Stmt := top 41
abbrev sInv : Stmt := top 42
section
variable {P : Program} {w : World} {K : PySem.W.Frag} {mg : Str → Option Value} {base : Heap}
/-! ### common_divisor -/
def spGcd : Sp := fun vs H Q _ => ∃ (a b : Nat), vs = [.int a, .int b] ∧ Q (.int ((Nat.gcd a b : Nat) : Int)) H
theorem scGcd : FnScope ["first", "second", "rest"] ["first", "second"] (defScope sGcd) := ⟨rfl, rfl, rfl, by decide +kernel, rfl, by decide +kernel, by decide +kernel⟩
theorem ok_gcd {f : Addr} {fd : FuncData} (F : Fun K "common_divisor" "common_divisor" sGcd f fd) : FnOk P w K mg base CX0 1 f fd ["first", "second"] spGcd := by
  refine F.ok scGcd (fun vs H Q E h => ?_) (fun cdv A outer s H vs Q E hr h => ?_)
  · obtain ⟨a, b, rfl, _⟩ := h
    rfl
  · obtain ⟨a0, b0, rfl, q⟩ := h
    refine ⟨_, pss_cons (ps_while PassesOwn.never (pt_cmp (pc_neI (pv 1) pe_int))
      (pss_cons (ps_set (i := 2) scGcd.nd rfl (Or.inl rfl) (pe_op op_mod (pv 0) (pv 1))) (pss_cons (ps_set (i := 0) scGcd.nd rfl (Or.inl rfl) (pv 1)) (pss_one (ps_set (i := 1) scGcd.nd rfl (Or.inl rfl) (pv 2))))))
      (pss_one (ps_ret (pv 0))), ?_⟩
    refine ⟨fun m σ H' => ∃ (a b : Nat) (v : Option V), m = b ∧ σ = [some (.int a), some (.int b), v] ∧ Nat.gcd a b = Nat.gcd a0 b0 ∧ H' = H, ⟨b0, a0, b0, none, rfl, rfl, rfl, rfl⟩, ?_⟩
    rintro m σ H' ⟨a, b, v, rfl, rfl, hg, rfl⟩
    refine ⟨_, rfl, _, _, rfl, rfl, _, rfl, iteN (fun hb => ?_) (fun hb => ?_)⟩
    · have hb0 : 0 < m := by omega
      refine ⟨fun σ' H'' => ∃ t, t < m ∧ ∃ (a b : Nat) (v : Option V), t = b ∧ σ' = [some (.int a), some (.int b), v] ∧ Nat.gcd a b = Nat.gcd a0 b0 ∧ H'' = H', fun _ _ z => z, ?_⟩
      refine ⟨_, rfl, _, rfl, _, _, rfl, rfl, ?_, _, rfl, _, rfl, ?_⟩
      · show (0 : Int) < (m : Int)
        omega
      · have e : (a : Int) % (m : Int) = ((a % m : Nat) : Int) := by push_cast; rfl
        refine ⟨a % m, Nat.mod_lt _ hb0, m, a % m, some (.int ((a : Int) % (m : Int))), rfl, ?_, ?_, rfl⟩
        · rw [← e]
          rfl
        · rw [← hg, Nat.gcd_comm m, Nat.gcd_comm a m, ← Nat.gcd_rec]
    · have hb0 : m = 0 := by omega
      subst hb0
      rw [Nat.gcd_zero_right] at hg
      subst hg
      exact ⟨_, rfl, q⟩
/-! ### common_multiple -/
def spLcm : Sp := fun vs H Q _ => ∃ (a b : Nat), vs = [.int a, .int b] ∧ 0 < a ∧ a < 2 ^ 8200 ∧ b < 2 ^ 8200 ∧ Q (.int ((lcmN a b : Nat) : Int)) H
theorem scLcm : FnScope ["first", "second"] ["first", "second"] (defScope sLcm) := ⟨rfl, rfl, rfl, by decide +kernel, rfl, by decide +kernel, by decide +kernel⟩
theorem ok_lcm {f : Addr} {fd : FuncData} (hg : Has P w K mg base 1 "common_divisor" ["first", "second"] spGcd) (F : Fun K "common_multiple" "common_multiple" sLcm f fd) : FnOk P w K mg base CX0 2 f fd ["first", "second"] spLcm := by
  refine F.ok scLcm (fun vs H Q E h => ?_) (fun cdv A outer s H vs Q E hr h => ?_)
  · obtain ⟨a, b, rfl, _⟩ := h
    rfl
  · obtain ⟨a, b, rfl, ha, hab, hbb, q⟩ := h
    refine ⟨_, pss_one (ps_ret (pe_op op_mulB (pe_op op_fdivB (pv 0) (pe_callH hg hr (by decide) rfl (pa_cons (pv 0) (pa_cons (pv 1) pa_nil)))) (pv 1))), ?_⟩
    have g0 : 0 < Nat.gcd a b := Nat.gcd_pos_of_pos_left b ha
    have g1 : Nat.gcd a b ≤ a := Nat.gcd_le_left b ha
    have e : (a : Int) / ((Nat.gcd a b : Nat) : Int) = ((a / Nat.gcd a b : Nat) : Int) := by push_cast; rfl
    refine ⟨_, rfl, _, rfl, _, rfl, a, b, rfl, _, _, rfl, rfl, ⟨by omega, 8200, Bits.of_nat (Nat.lt_of_le_of_lt g1 hab), by decide⟩, _, rfl, _, _, rfl, rfl, ⟨8200, 8200, ?_, Bits.of_nat hbb, by decide⟩, ?_⟩
    · rw [e]
      exact Bits.of_nat (Nat.lt_of_le_of_lt (Nat.div_le_self _ _) hab)
    · have e2 : (a : Int) / ((Nat.gcd a b : Nat) : Int) * (b : Int) = ((lcmN a b : Nat) : Int) := by unfold lcmN; push_cast; rfl
      have q' : Q (.int ((a : Int) / ((Nat.gcd a b : Nat) : Int) * (b : Int))) H := by rw [e2]; exact q
      exact q'
/-! ### inverse -/
def optV : Option Nat → V
  | none => .non
  | some d => .int (d : Int)
def spInv : Sp := fun vs H Q _ => ∃ (a m : Nat), vs = [.int a, .int m] ∧ 0 < m ∧ m < 2 ^ 8200 ∧ Q (optV (Sz28.inverse m a)) H
theorem scInv : FnScope ["number", "modulus", "greater", "lesser", "greater_factor", "lesser_factor", "quotient", "rest", "rest_factor"] ["number", "modulus"] (defScope sInv) := ⟨rfl, rfl, rfl, by decide +kernel, rfl, by decide +kernel, by decide +kernel⟩
theorem bits_range {m : Nat} {y : Int} (h : -(m : Int) ≤ y ∧ y ≤ m) (hm : m < 2 ^ 8200) : Bits 8200 y := by
  have e : y.natAbs ≤ m := by omega
  exact Nat.lt_of_le_of_lt e hm
theorem ok_inv {f : Addr} {fd : FuncData} (F : Fun K "inverse" "inverse" sInv f fd) : FnOk P w K mg base CX0 1 f fd ["number", "modulus"] spInv := by
  refine F.ok scInv (fun vs H Q E h => ?_) (fun cdv A outer s H vs Q E hr h => ?_)
  · obtain ⟨a, b, rfl, _⟩ := h
    rfl
  · obtain ⟨n0, m, rfl, hm, hmb, q⟩ := h
    refine ⟨_, pss_cons (ps_set (i := 2) scInv.nd rfl (Or.inl rfl) (pv 1))
      (pss_cons (ps_set (i := 3) scInv.nd rfl (Or.inl rfl) (pe_op op_mod (pv 0) (pv 1)))
      (pss_cons (ps_set (i := 4) scInv.nd rfl (Or.inl rfl) pe_int)
      (pss_cons (ps_set (i := 5) scInv.nd rfl (Or.inl rfl) pe_int)
      (pss_cons (ps_while PassesOwn.never (pt_cmp (pc_neI (pv 3) pe_int))
        (pss_cons (ps_set (i := 6) scInv.nd rfl (Or.inl rfl) (pe_op op_fdivB (pv 2) (pv 3)))
        (pss_cons (ps_set (i := 7) scInv.nd rfl (Or.inl rfl) (pe_op op_sub (pv 2) (pe_op op_mulB (pv 6) (pv 3))))
        (pss_cons (ps_set (i := 8) scInv.nd rfl (Or.inl rfl) (pe_op op_sub (pv 4) (pe_op op_mulB (pv 6) (pv 5))))
        (pss_cons (ps_set (i := 2) scInv.nd rfl (Or.inl rfl) (pv 3))
        (pss_cons (ps_set (i := 4) scInv.nd rfl (Or.inl rfl) (pv 5))
        (pss_cons (ps_set (i := 3) scInv.nd rfl (Or.inl rfl) (pv 7))
        (pss_one (ps_set (i := 5) scInv.nd rfl (Or.inl rfl) (pv 8))))))))))
      (pss_cons (ps_if (pt_cmp (pc_neI (pv 2) pe_int)) (pss_one (ps_ret pe_non)) pss_nil)
      (pss_one (ps_ret (pe_op op_mod (pv 4) (pv 1))))))))), ?_⟩
    refine ⟨_, rfl, _, rfl, _, rfl, _, _, rfl, rfl, ?_, ?_⟩
    · show (0 : Int) < (m : Int)
      omega
    have e0 : (n0 : Int) % (m : Int) = ((n0 % m : Nat) : Int) := by push_cast; rfl
    refine ⟨fun t σ H' => ∃ (a b : Nat) (x y : Int) (v6 v7 v8 : Option V), t = b ∧ σ = [some (.int n0), some (.int m), some (.int a), some (.int b), some (.int x), some (.int y), v6, v7, v8] ∧ Eu m n0 a b x y ∧ a ≤ m ∧ H' = H,
      ⟨n0 % m, m, n0 % m, 0, 1, none, none, none, rfl, by rw [← e0]; rfl, eu_start hm, Nat.le_refl _, rfl⟩, ?_⟩
    rintro t σ H' ⟨a, b, x, y, v6, v7, v8, rfl, rfl, E, ham, rfl⟩
    refine ⟨_, rfl, _, _, rfl, rfl, _, rfl, iteN (fun hb => ?_) (fun hb => ?_)⟩
    · have hb0 : 0 < t := by omega
      have hta : t < a := E.less
      have e1 : (a : Int) / (t : Int) = ((a / t : Nat) : Int) := by push_cast; rfl
      have hq : a / t ≤ a := Nat.div_le_self _ _
      refine ⟨fun σ' H'' => ∃ u, u < t ∧ ∃ (a b : Nat) (x y : Int) (v6 v7 v8 : Option V), u = b ∧ σ' = [some (.int n0), some (.int m), some (.int a), some (.int b), some (.int x), some (.int y), v6, v7, v8] ∧ Eu m n0 a b x y ∧ a ≤ m ∧ H'' = H', fun _ _ z => z, ?_⟩
      have bt : Bits 8200 (t : Int) := Bits.of_nat (by omega)
      have bq : Bits 8200 ((a : Int) / (t : Int)) := by rw [e1]; exact Bits.of_nat (by omega)
      refine ⟨_, rfl, _, rfl, _, _, rfl, rfl, ⟨by omega, 8200, bt, by decide⟩,
        _, rfl, _, rfl, _, rfl, _, _, rfl, rfl, ⟨8200, 8200, bq, bt, by decide⟩, _, _, rfl, rfl,
        _, rfl, _, rfl, _, rfl, _, _, rfl, rfl, ⟨8200, 8200, bq, bits_range E.yb hmb, by decide⟩, _, _, rfl, rfl,
        _, rfl, _, rfl, _, rfl, _, rfl, ?_⟩
      have e2 : (a : Int) - (a : Int) / (t : Int) * (t : Int) = ((a % t : Nat) : Int) := by
        have := Int.mul_ediv_add_emod (a : Int) (t : Int)
        rw [Int.mul_comm] at this
        push_cast
        omega
      refine ⟨a % t, Nat.mod_lt _ hb0, t, a % t, y, x - ((a / t : Nat) : Int) * y, some (.int ((a : Int) / (t : Int))), some (.int ((a : Int) - (a : Int) / (t : Int) * (t : Int))), some (.int (x - (a : Int) / (t : Int) * y)), rfl, ?_, eu_turn E hb0, by omega, rfl⟩
      rw [← e2, ← e1]
      rfl
    · have hb0 : t = 0 := by omega
      subst hb0
      have hinv := eu_end E
      refine ⟨_, rfl, _, _, rfl, rfl, _, rfl, iteN (fun ha => ?_) (fun ha => ?_)⟩
      · rw [hinv, if_neg (by omega)] at q
        exact q
      · rw [hinv, if_pos (by omega)] at q
        refine ⟨_, rfl, _, rfl, _, _, rfl, rfl, ?_, ?_⟩
        · show (0 : Int) < (m : Int)
          omega
        · have e3 : (((x % (m : Int)).toNat : Nat) : Int) = x % (m : Int) := by
            have := Int.emod_nonneg x (show (m : Int) ≠ 0 by omega)
            omega
          have q' : Q (.int (((x % (m : Int)).toNat : Nat) : Int)) H' := q
          rw [e3] at q'
          exact q'
end
end Gk

set_option Elab.async false
set_option linter.all false
set_option maxRecDepth 100000
set_option maxHeartbeats 2000000
/-! The program's defs: the primes below a limit, a number tried as a prime. -/
namespace Gk
open PySem PySem.Spec PyProof.Rows L2
abbrev sBelow : Stmt := top 45
abbrev sTells : Stmt := top 46
abbrev sTaken : Stmt := top 47
section
variable {P : Program} {w : World} {K : PySem.W.Frag} {mg : Str → Option Value} {base : Heap}
/-! ### primes_below -/
def cr (L : Nat) (f : Nat → Bool) : List V := (List.range L).map fun m => V.bl (f m)
theorem cr_length (L : Nat) (f : Nat → Bool) : (cr L f).length = L := by unfold cr; rw [List.length_map, List.length_range]
theorem cr_at {L : Nat} {f : Nat → Bool} {j : Nat} (h : j < L) : (cr L f)[j]? = some (V.bl (f j)) := by
  unfold cr
  rw [List.getElem?_map, List.getElem?_range h]
  rfl
theorem cr_congr {L : Nat} {f g : Nat → Bool} (h : ∀ m, m < L → f m = g m) : cr L f = cr L g := by
  unfold cr
  exact List.map_congr_left fun m hm => by rw [h m (List.mem_range.mp hm)]
theorem cr_set {L : Nat} {f : Nat → Bool} {j : Nat} (h : j < L) : (cr L f).set j (V.bl true) = cr L (fun m => if m = j then true else f m) := by
  apply List.ext_getElem?
  intro i
  by_cases hi : i < L
  · rw [cr_at hi]
    by_cases hj : i = j
    · subst hj
      rw [List.getElem?_set_self (by rw [cr_length]; exact h), if_pos rfl]
    · rw [List.getElem?_set_ne (fun e => hj e.symm), cr_at hi, if_neg hj]
  · rw [List.getElem?_eq_none (by rw [List.length_set, cr_length]; omega), List.getElem?_eq_none (by rw [cr_length]; omega)]
theorem rep_flat (k : Nat) (v : V) : (List.replicate k [v]).flatten = (List.range k).map fun _ => v := by
  induction k with
  | zero => rfl
  | succ k ih => rw [List.replicate_succ, List.flatten_cons, ih, List.range_succ_eq_map, List.map_cons, List.map_map]; rfl
def prV (l : List Nat) : List V := l.map fun (n : Nat) => V.int (n : Int)
def cnt (n L : Nat) : Nat := if n * n < L then (L - n * n - 1) / n + 1 else 0
theorem cnt_lt {n L j : Nat} (hn : 0 < n) (h : j < cnt n L) : n * n + j * n < L := by
  unfold cnt at h
  by_cases h1 : n * n < L
  · rw [if_pos h1] at h
    have h2 : j * n ≤ (L - n * n - 1) / n * n := Nat.mul_le_mul_right _ (by omega)
    have h3 := Nat.div_mul_le_self (L - n * n - 1) n
    omega
  · rw [if_neg h1] at h; omega
theorem cnt_all {n L m : Nat} (hn : 0 < n) (h : m < L) : m < n * n + cnt n L * n := by
  unfold cnt
  by_cases h1 : n * n < L
  · rw [if_pos h1, Nat.add_mul, Nat.one_mul]
    have h3 := Nat.div_add_mod (L - n * n - 1) n
    have h4 := Nat.mod_lt (L - n * n - 1) hn
    rw [Nat.mul_comm] at h3
    omega
  · rw [if_neg h1]; omega
theorem cnt_rg {n L : Nat} (hn : 0 < n) (hn2 : n < 1000000) (hL : L < 1000000) : RgC ((n : Int) * (n : Int)) (L : Int) (n : Int) (cnt n L) := by
  have h1 : (n : Int) * (n : Int) = ((n * n : Nat) : Int) := by push_cast; rfl
  have h2 : n * n ≤ 1000000 * 1000000 := Nat.mul_le_mul (by omega) (by omega)
  have e : cnt n L = (if ((n : Int) * (n : Int)) < (L : Int) then (((L : Int) - ((n : Int) * (n : Int)) - 1) / (n : Int) + 1).toNat else 0) := by
    unfold cnt
    rw [h1]
    by_cases h : n * n < L
    · rw [if_pos h, if_pos (by omega)]
      have e1 : (L : Int) - ((n * n : Nat) : Int) - 1 = ((L - n * n - 1 : Nat) : Int) := by omega
      rw [e1]
      have e2 : ((L - n * n - 1 : Nat) : Int) / (n : Int) = (((L - n * n - 1) / n : Nat) : Int) := rfl
      rw [e2]
      generalize (L - n * n - 1) / n = y
      omega
    · rw [if_neg h, if_neg (by omega)]
  rw [e]
  rw [h1]
  exact RgC.pos (by omega) (by omega) (by omega) (by omega) (by omega) (by omega)
def spBelow : Sp := fun vs H Q _ => ∃ (L : Nat), vs = [.int L] ∧ 2 ≤ L ∧ L < 100000 ∧ ∀ H' p, Same H H' → H' p = some (.lst (prV ((List.range L).filter Sz28.isPrime))) → Q (.ref p) H'
theorem scBelow : FnScope ["limit", "crossed_out", "primes", "number", "multiple"] ["limit"] (defScope sBelow) := ⟨rfl, rfl, rfl, by decide +kernel, rfl, by decide +kernel, by decide +kernel⟩
theorem ok_below {f : Addr} {fd : FuncData} (hrg : mg "range" = none) (F : Fun K "primes_below" "primes_below" sBelow f fd) : FnOk P w K mg base CX0 1 f fd ["limit"] spBelow := by
  refine F.ok scBelow (fun vs H Q E h => ?_) (fun cdv A outer s H vs Q E hr h => ?_)
  · obtain ⟨L, rfl, _⟩ := h
    rfl
  · obtain ⟨L, rfl, hL, hL2, q⟩ := h
    refine ⟨_, pss_cons (ps_set (i := 1) scBelow.nd rfl (Or.inl rfl) (pe_op op_rep (pe_lst (pa_cons pe_bl pa_nil)) (pv 0)))
      (pss_cons (ps_set (i := 2) scBelow.nd rfl (Or.inl rfl) (pe_lst pa_nil))
      (pss_cons (ps_for PassesOwn.never rfl (pi_range2 rfl hrg (pa_cons pe_int (pa_cons (pv 0) pa_nil))) (pg_name (i := 3) scBelow.nd rfl (Or.inl rfl))
        (pss_one (ps_if (pt_not (pt_val (pe_ix ix_list (pv 1) (pv 3) (fun _ _ => rfl))))
          (pss_cons (ps_expr (pe_bm PySem.F.plainAttrs_list PySem.F.slot_list_append PySem.F.type_list_append mt_append (pv 2) (pa_cons (pv 3) pa_nil)))
          (pss_one (ps_for PassesOwn.never rfl (pi_range3 rfl hrg (pa_cons (pe_op op_mul (pv 3) (pv 3)) (pa_cons (pv 0) (pa_cons (pv 3) pa_nil)))) (pg_name (i := 4) scBelow.nd rfl (Or.inl rfl))
            (pss_one (ps_asg pe_bl (pg_sub (pv 1) (pv 4) set_list))))))
          pss_nil)))
      (pss_one (ps_ret (pv 2))))), ?_⟩
    refine ⟨(by decide), fun l0 hl0 => ⟨_, rfl, l0, _, _, rfl, rfl, upd_same, by omega, by omega, by show 1 * (L : Int).toNat ≤ sizeLine; rw [sizeLine_eq]; omega, fun c hc => ?_⟩⟩
    have hcH : H c = none := (Same.new (o := .lst [.bl false]) hl0).free hc
    refine ⟨(by decide), fun p hp => ?_⟩
    have s0 : Same H (upd (upd H l0 (.lst [.bl false])) c (.lst (List.replicate (L : Int).toNat [V.bl false]).flatten)) := (Same.new hl0).upd hcH
    have hpH : H p = none := s0.free hp
    have hcp : c ≠ p := ne_of_none (o := .lst (List.replicate (L : Int).toNat [V.bl false]).flatten) upd_same hp
    have e0 : (List.replicate (L : Int).toNat [V.bl false]).flatten = cr L (crossB 2) := by
      rw [rep_flat, Int.toNat_natCast]
      unfold cr
      exact List.map_congr_left fun m _ => by rw [show crossB 2 m = false from crossB_two m]
    refine ⟨_, rfl, _, _, rfl, ⟨by omega, by omega, by omega, by omega⟩, for_range (lo := 2) (fun i σ H' => ∃ v3 v4 : Option V, σ = [some (.int L), some (.ref c), some (.ref p), v3, v4] ∧ Same H H' ∧ H' c = some (.lst (cr L (crossB (2 + i)))) ∧ H' p = some (.lst (prV ((List.range (2 + i)).filter Sz28.isPrime)))) ?_ ?_ ?_⟩
    · refine ⟨none, none, rfl, s0.upd hpH, ?_, ?_⟩
      · rw [upd_ne hcp, upd_same, e0]
      · rw [upd_same]
        rfl
    · rintro i σ H' hi ⟨v3, v4, rfl, sH, hc', hp'⟩
      have hiL : 2 + i < L := by omega
      have en : (2 : Int) + (i : Nat) = ((2 + i : Nat) : Int) := by omega
      rw [en]
      generalize hn : 2 + i = n at *
      have hself : crossB n n = !Sz28.isPrime n := crossB_self (by omega)
      have enext : 2 + (i + 1) = n + 1 := by omega
      refine ⟨_, rfl, _, rfl, c, _, _, _, rfl, rfl, SqL.of hc', atI_nat (cr_at hiL), _, rfl, iteB (fun hb => ?_) (fun hb => ?_)⟩
      · have hpr : Sz28.isPrime n = true := by rw [hself] at hb; simpa using hb
        have hlen : (prV ((List.range n).filter Sz28.isPrime)).length < sizeLine := by
          unfold prV
          rw [List.length_map, sizeLine_eq]
          have := List.length_filter_le Sz28.isPrime (List.range n)
          rw [List.length_range] at this
          omega
        refine ⟨_, rfl, .inl ⟨rfl, _, SqL.of hp'⟩, _, rfl, p, _, _, rfl, rfl, hp', hlen, ?_⟩
        have hnm : n < 2 ^ 64 := by omega
        refine ⟨_, rfl, _, rfl, _, _, rfl, rfl, .inl ⟨by omega, by omega⟩, _, rfl, _, rfl, _, _, _, _, rfl, cnt_rg (n := n) (L := L) (by omega) (by omega) (by omega), ?_⟩
        refine for_rangeC (fun j σ H'' => ∃ v4 : Option V, σ = [some (.int L), some (.ref c), some (.ref p), some (.int n), v4] ∧ Same H H'' ∧ H'' c = some (.lst (cr L (crossJ n j))) ∧ H'' p = some (.lst (prV ((List.range (n + 1)).filter Sz28.isPrime)))) ?_ ?_ ?_
        · refine ⟨v4, rfl, sH.upd hpH, ?_, ?_⟩
          · rw [upd_ne hcp, hc', cr_congr fun m _ => (crossJ_zero n m).symm]
          · rw [upd_same, filter_next, if_pos hpr]
            unfold prV
            rw [List.map_append]
            rfl
        · rintro j σ H'' hj ⟨v4', rfl, sH2, hc2, hp2⟩
          have hlt := cnt_lt (by omega) hj
          have ej : (n : Int) * (n : Int) + (j : Nat) * (n : Int) = ((n * n + j * n : Nat) : Int) := by push_cast; rfl
          rw [ej]
          refine ⟨_, rfl, _, rfl, c, _, _, n * n + j * n, rfl, rfl, hc2, ?_, some (.int ((n * n + j * n : Nat) : Int)), rfl, sH2.upd hcH, ?_, ?_⟩
          · unfold ixN
            rw [cr_length, if_pos (by omega), if_pos (by omega)]
            rfl
          · rw [upd_same, cr_set hlt]
            exact congrArg (fun z => some (HO.lst z)) (cr_congr fun m _ => (crossJ_next (by omega)).symm)
          · rw [upd_ne hcp.symm]
            exact hp2
        · rintro σ H'' ⟨v4', rfl, sH2, hc2, hp2⟩
          refine ⟨some (.int n), v4', rfl, sH2, ?_, ?_⟩
          · rw [hc2, enext]
            exact congrArg (fun z => some (HO.lst z)) (cr_congr fun m hm => crossJ_end hpr (cnt_all (by omega) hm))
          · rw [enext]
            exact hp2
      · have hpr : Sz28.isPrime n = false := by rw [hself] at hb; simpa using hb
        refine ⟨some (.int n), v4, rfl, sH, ?_, ?_⟩
        · rw [hc', enext]
          exact congrArg (fun z => some (HO.lst z)) (cr_congr fun m _ => (crossB_skip hpr).symm)
        · rw [enext, filter_next, hpr, if_neg (by decide), List.append_nil]
          exact hp'
    · rintro σ H' ⟨v3, v4, rfl, sH, hc', hp'⟩
      have eL : 2 + ((L : Int) - 2).toNat = L := by omega
      rw [eL] at hp'
      exact ⟨_, rfl, q H' p sH hp'⟩
end
end Gk

set_option Elab.async false
set_option linter.all false
set_option maxRecDepth 100000
set_option maxHeartbeats 2000000
/-! The program's defs: a number tried as a prime. -/
namespace Gk
open PySem PySem.Spec PyProof.Rows L2
section
variable {P : Program} {w : World} {K : PySem.W.Frag} {mg : Str → Option Value} {base : Heap}
/-! ### tells_against -/
def spTells : Sp := fun vs H Q _ => ∃ (a n : Nat), vs = [.int a, .int n] ∧ 0 < a ∧ a < n ∧ n < 2 ^ 8200 ∧ ∀ H', Same H H' → Q (.bl (!Sz28.tried n a)) H'
theorem scTells : FnScope ["base", "number", "odd_part", "halvings", "reached", "squaring"] ["base", "number"] (defScope sTells) := ⟨rfl, rfl, rfl, by decide +kernel, rfl, by decide +kernel, by decide +kernel⟩
theorem any_at {h j : Nat} {f : Nat → Bool} (hj : j < h) (e : f j = true) : (List.range h).any f = true := List.any_eq_true.mpr ⟨j, List.mem_range.mpr hj, e⟩
theorem any_no {h : Nat} {f : Nat → Bool} (e : ∀ j, j < h → f j = false) : (List.range h).any f = false := by
  rw [List.any_eq_false]
  intro j hj
  rw [e j (List.mem_range.mp hj)]
  decide
theorem ok_tells {f : Addr} {fd : FuncData} (hrg : mg "range" = none) (hpow : Has P w K mg base 2 "power" ["base", "exponent", "modulus"] spPower) (F : Fun K "tells_against" "tells_against" sTells f fd) : FnOk P w K mg base CX0 3 f fd ["base", "number"] spTells := by
  refine F.ok scTells (fun vs H Q E h => ?_) (fun cdv A outer s H vs Q E hr h => ?_)
  · obtain ⟨a, n, rfl, _⟩ := h
    rfl
  · obtain ⟨a, n, rfl, ha, han, hnb, q⟩ := h
    refine ⟨_, pss_cons (ps_set (i := 2) scTells.nd rfl (Or.inl rfl) (pe_op op_sub (pv 1) pe_int))
      (pss_cons (ps_set (i := 3) scTells.nd rfl (Or.inl rfl) pe_int)
      (pss_cons (ps_while PassesOwn.never (pt_cmp (pc_eqI (pe_op op_mod (pv 2) pe_int) pe_int))
        (pss_cons (ps_set (i := 2) scTells.nd rfl (Or.inl rfl) (pe_op op_fdiv (pv 2) pe_int)) (pss_one (ps_aug (i := 3) scTells.nd rfl (Or.inl rfl) pe_int ip_add))))
      (pss_cons (ps_set (i := 4) scTells.nd rfl (Or.inl rfl) (pe_callH hpow hr (by decide) rfl (pa_cons (pv 0) (pa_cons (pv 2) (pa_cons (pv 1) pa_nil)))))
      (pss_cons (ps_if (pt_cmp (pc_eqI (pv 4) pe_int)) (pss_one (ps_ret pe_bl)) pss_nil)
      (pss_cons (ps_for PassesOwn.never rfl (pi_range1 rfl hrg (pa_cons (pv 3) pa_nil)) (pg_name (i := 5) scTells.nd rfl (Or.inl rfl))
        (pss_cons (ps_if (pt_cmp (pc_eqI (pv 4) (pe_op op_sub (pv 1) pe_int))) (pss_one (ps_ret pe_bl)) pss_nil)
        (pss_one (ps_set (i := 4) scTells.nd rfl (Or.inl rfl) (pe_op op_mod (pe_op op_mulB (pv 4) (pv 4)) (pv 1))))))
      (pss_one (ps_ret pe_bl))))))), ?_⟩
    have en : (n : Int) - 1 = ((n - 1 : Nat) : Int) := by omega
    refine ⟨_, rfl, _, _, rfl, rfl, ?_⟩
    refine ⟨fun t σ H' => ∃ (d h : Nat), t = d ∧ 0 < d ∧ n = 2 ^ h * d + 1 ∧ σ = [some (.int a), some (.int n), some (.int d), some (.int h), none, none] ∧ H' = H, ⟨n - 1, n - 1, 0, rfl, by omega, by rw [Nat.pow_zero]; omega, by rw [← en]; rfl, rfl⟩, ?_⟩
    rintro t σ H' ⟨d, h, rfl, hd, hn, rfl, rfl⟩
    refine ⟨_, rfl, _, _, rfl, rfl, ?_, _, _, rfl, rfl, _, rfl, iteD (fun he => ?_) (fun he => ?_)⟩
    · show (0 : Int) < 2
      decide
    · have h2 : t % 2 = 0 := by omega
      refine ⟨fun σ' H'' => ∃ u, u < t ∧ ∃ (d h : Nat), u = d ∧ 0 < d ∧ n = 2 ^ h * d + 1 ∧ σ' = [some (.int a), some (.int n), some (.int d), some (.int h), none, none] ∧ H'' = H', fun _ _ z => z, ?_⟩
      refine ⟨_, rfl, _, _, rfl, rfl, ⟨by decide, by decide⟩, _, rfl, _, _, rfl, rfl, ?_⟩
      refine ⟨t / 2, by omega, t / 2, h + 1, rfl, by omega, ?_, rfl, rfl⟩
      have e : 2 * (t / 2) = t := by omega
      rw [Nat.pow_succ, Nat.mul_assoc, e]
      exact hn
    · have h2 : t % 2 = 1 := by omega
      have htr := tried_eq hn h2 ha han
      have htb : t < 2 ^ 8200 := by
        have : 1 * t ≤ 2 ^ h * t := Nat.mul_le_mul_right _ (Nat.two_pow_pos h)
        omega
      have hh : h < 8200 := by
        have h3 : 2 ^ h * 1 ≤ 2 ^ h * t := Nat.mul_le_mul_left _ hd
        have h4 : 2 ^ h < 2 ^ 8200 := by omega
        exact (Nat.pow_lt_pow_iff_right (by decide)).mp h4
      refine ⟨_, rfl, _, rfl, _, rfl, a, t, n, rfl, by omega, Nat.lt_trans han hnb, hnb, htb, fun H1 s1 => ?_⟩
      generalize hx : a ^ t % n = x at htr ⊢
      have hxn : x < n := by rw [← hx]; exact Nat.mod_lt _ (by omega)
      refine ⟨_, rfl, _, _, rfl, rfl, _, rfl, iteD (fun h1 => ?_) (fun h1 => ?_)⟩
      · have h1' : x = 1 := by omega
        rw [htr, decide_eq_true h1', Bool.true_or] at q
        exact q H1 s1
      · have h1' : ¬ x = 1 := by omega
        rw [decide_eq_false h1', Bool.false_or] at htr
        refine ⟨_, rfl, (h : Int), rfl, by omega, by omega, ?_⟩
        rw [Int.toNat_natCast]
        refine for_range (lo := 0) (n := h) (fun j σ H'' => ∃ v5 : Option V, σ = [some (.int a), some (.int n), some (.int t), some (.int h), some (.int ((x ^ 2 ^ j % n : Nat) : Int)), v5] ∧ H'' = H1 ∧ ∀ i, i < j → ¬ x ^ 2 ^ i % n = n - 1) ?_ ?_ ?_
        · refine ⟨none, ?_, rfl, fun i hi => by omega⟩
          rw [Nat.pow_zero, Nat.pow_one, Nat.mod_eq_of_lt hxn]
          rfl
        · rintro j σ H'' hj ⟨v5, rfl, rfl, hno⟩
          have hlt : x ^ 2 ^ j % n < n := Nat.mod_lt _ (by omega)
          refine ⟨_, rfl, _, rfl, _, _, rfl, rfl, _, _, rfl, rfl, _, rfl, iteD (fun h3 => ?_) (fun h3 => ?_)⟩
          · have h3' : x ^ 2 ^ j % n = n - 1 := by omega
            rw [htr, any_at hj (decide_eq_true h3')] at q
            exact q _ s1
          · have h3' : ¬ x ^ 2 ^ j % n = n - 1 := by omega
            refine ⟨_, rfl, _, rfl, _, _, rfl, rfl, ⟨8200, 8200, Bits.of_nat (Nat.lt_trans hlt hnb), Bits.of_nat (Nat.lt_trans hlt hnb), by decide⟩, _, rfl, _, _, rfl, rfl, ?_, some (.int (0 + (j : Nat))), ?_, rfl, ?_⟩
            · show (0 : Int) < (n : Int)
              omega
            · have e2 : ((x ^ 2 ^ j % n : Nat) : Int) * ((x ^ 2 ^ j % n : Nat) : Int) % (n : Int) = ((x ^ 2 ^ (j + 1) % n : Nat) : Int) := by
                rw [← sq_step (x := x ^ 2 ^ j % n) rfl]
                push_cast
                rfl
              rw [← e2]
              rfl
            · intro i hi
              by_cases e : i = j
              · subst e; exact h3'
              · exact hno i (by omega)
        · rintro σ H'' ⟨v5, rfl, rfl, hno⟩
          rw [htr, any_no fun j hj => decide_eq_false (hno j hj)] at q
          exact q _ s1
/-! ### taken_for_prime -/
def spTaken : Sp := fun vs H Q _ => ∃ (n r : Nat), vs = [.int n, .int r] ∧ n < 2 ^ 8200 ∧ r ≤ 1000 ∧ ∀ H', Same H H' → Q (.bl (Sz28.prime n r)) H'
theorem scTaken : FnScope ["number", "rounds", "primes", "prime", "base"] ["number", "rounds"] (defScope sTaken) := ⟨rfl, rfl, rfl, by decide +kernel, rfl, by decide +kernel, by decide +kernel⟩
theorem inV_nat (n : Nat) (l : List Nat) : inV (.int n) (prV l) = decide (n ∈ l) := by
  unfold inV prV
  rw [List.any_map, Bool.eq_iff_iff, List.any_eq_true, decide_eq_true_iff]
  constructor
  · rintro ⟨p, hp, e⟩
    have e' : ((p : Int) == (n : Int)) = true := e
    have : p = n := by have := beq_iff_eq.mp e'; omega
    subst this
    exact hp
  · intro h
    exact ⟨n, h, beq_self_eq_true (n : Int)⟩
theorem flat_prV (l : List Nat) : (prV l).all flatV = true := by
  unfold prV
  rw [List.all_map, List.all_eq_true]
  intro x _
  rfl
theorem cut_take (xs : List V) (r : Nat) : cutV xs none (some (r : Int)) = xs.take r := by
  unfold cutV
  rw [HT.sIx_none, HT.sIx_nat, List.drop_zero, Nat.sub_zero, List.take_eq_take_iff]
  omega
theorem prime_lo {n r : Nat} (h : n < 2000) : Sz28.prime n r = decide (n ∈ Sz28.small) := by
  rw [mem_small h]
  unfold Sz28.prime
  rw [if_pos h]
theorem prime_hi {n r : Nat} (h : ¬ n < 2000) : Sz28.prime n r = (!(Sz28.small.map fun p => decide (n % p = 0)).any id && (Sz28.small.take r).all fun a => Sz28.tried n a) := by
  unfold Sz28.prime
  rw [if_neg h]
  congr 1
  rw [List.any_map, List.not_any_eq_all_not]
  congr 1
theorem small_len : Sz28.small.length ≤ 2000 := by
  unfold Sz28.small
  have := List.length_filter_le Sz28.isPrime (List.range 2000)
  rw [List.length_range] at this
  exact this
theorem ok_taken {f : Addr} {fd : FuncData} (hany : mg "any" = none) (hSL : GInt mg "SMALL_LIMIT" 2000) (hbelow : Has P w K mg base 1 "primes_below" ["limit"] spBelow) (htells : Has P w K mg base 3 "tells_against" ["base", "number"] spTells)
    (F : Fun K "taken_for_prime" "taken_for_prime" sTaken f fd) : FnOk P w K mg base CX0 4 f fd ["number", "rounds"] spTaken := by
  refine F.ok scTaken (fun vs H Q E h => ?_) (fun cdv A outer s H vs Q E hr h => ?_)
  · obtain ⟨n, r, rfl, _⟩ := h
    rfl
  · obtain ⟨n, r, rfl, hnb, hr40, q⟩ := h
    refine ⟨_, pss_cons (ps_set (i := 2) scTaken.nd rfl (Or.inl rfl) (pe_callH hbelow hr (by decide) rfl (pa_cons (pe_gint hSL rfl) pa_nil)))
      (pss_cons (ps_if (pt_cmp (pc_lt (pv 0) (pe_gint hSL rfl))) (pss_one (ps_ret (pe_cmpR op_in_seq (pv 0) (pv 2) rfl))) pss_nil)
      (pss_cons (ps_if (pt_val (pe_callB (call_anyB rfl) rfl hany boot_any1 (pa_cons (pe_lc (own := [("prime", 3)]) rfl scTaken.nd (pi_list (pv 2)) (blkOk_by (N := ["number", "rounds", "primes", "prime", "base"]) (sc := defScope sTaken) (by decide +kernel)) (fun _ _ _ _ _ => pg_name (i := 3) scTaken.nd rfl (Or.inl rfl)) (fun _ _ _ _ _ => pts_nil)
        (fun _ _ _ _ _ => pe_cmp (pc_eqI (pe_op op_mod (pv 0) (pv 3)) pe_int))) pa_nil))) (pss_one (ps_ret pe_bl)) pss_nil)
      (pss_cons (ps_for PassesOwn.never rfl (pi_list (pe_slice sl_list (pv 2) po_none (po_some (pv 1)))) (pg_name (i := 4) scTaken.nd rfl (Or.inl rfl))
        (pss_one (ps_if (pt_val (pe_callH htells hr (by decide) rfl (pa_cons (pv 4) (pa_cons (pv 0) pa_nil)))) (pss_one (ps_ret pe_bl)) pss_nil)))
      (pss_one (ps_ret pe_bl))))), ?_⟩
    refine ⟨2000, rfl, by decide, by decide, fun H1 p s1 hp => ?_⟩
    have hp : H1 p = some (.lst (prV Sz28.small)) := hp
    refine ⟨_, rfl, _, _, rfl, rfl, _, rfl, iteD (fun hlo => ?_) (fun hlo => ?_)⟩
    · refine ⟨_, rfl, _, rfl, p, _, rfl, .inl (SqL.of hp), rfl, flat_prV _, ?_⟩
      have hlo' : n < 2000 := by omega
      rw [if_neg Bool.false_ne_true, inV_nat, ← prime_lo (r := r) hlo']
      exact q H1 s1
    · have hhi : ¬ n < 2000 := by omega
      have hq := prime_hi (r := r) hhi
      refine ⟨_, rfl, p, rfl, ⟨_, SqL.of hp⟩, fun D hD => ?_⟩
      have hpD : p ≠ D := ne_of_none hp hD
      have hDH : H D = none := s1.free hD
      refine lc_list (K := K) (a := p) (xs := prV Sz28.small) (fun i H' => H' = upd H1 D (.lst (((Sz28.small.take i).map fun p => decide (n % p = 0)).map V.bl))) rfl (fun i H' _ e => by subst e; exact SqL.of (by rw [upd_ne hpD]; exact hp)) ?_ ?_
      · rintro i y H' hi rfl
        obtain ⟨z, hz, rfl⟩ := map_at hi
        have hz2 := small_pos (List.mem_of_getElem? hz)
        refine ⟨rfl, _, rfl, _, rfl, _, _, rfl, rfl, ?_, _, _, rfl, rfl, _, upd_same, ?_, ?_⟩
        · show (0 : Int) < (z : Int)
          omega
        · rw [List.length_map, List.length_map, List.length_take, sizeLine_eq]
          have := small_len
          omega
        · rw [upd_upd, take_snoc hz, List.map_append, List.map_append]
          have e : decide ((n : Int) % (z : Int) = 0) = decide (n % z = 0) := decide_eq_decide.mpr (by omega)
          dsimp only
          rw [e]
          rfl
      · rintro H' rfl
        have el : (prV Sz28.small).length = Sz28.small.length := by unfold prV; rw [List.length_map]
        rw [el, List.take_length]
        have s2 : Same H (upd H1 D (.lst ((Sz28.small.map fun p => decide (n % p = 0)).map V.bl))) := s1.upd hDH
        refine ⟨D, _, rfl, SqL.of upd_same, _, rfl, iteB (fun hb => ?_) (fun hb => ?_)⟩
        · rw [hq, hb] at q
          exact q _ s2
        · rw [hb, Bool.not_false, Bool.true_and] at hq
          generalize hH2 : upd H1 D (.lst ((Sz28.small.map fun p => decide (n % p = 0)).map V.bl)) = H2 at s2 ⊢
          have hp2 : H2 p = some (.lst (prV Sz28.small)) := by rw [← hH2, upd_ne hpD]; exact hp
          refine ⟨_, rfl, _, rfl, _, rfl, p, _, rfl, SqL.of hp2, fun l hl => ⟨l, rfl, ⟨_, SqL.of upd_same⟩, ?_⟩⟩
          have hlH : H l = none := s2.free hl
          rw [cut_take]
          have etk : (prV Sz28.small).take r = prV (Sz28.small.take r) := by unfold prV; rw [List.map_take]
          rw [etk]
          refine for_list (K := K) (a := l) (xs := prV (Sz28.small.take r)) (fun i σ H' => ∃ v4 : Option V, σ = [some (.int n), some (.int r), some (.ref p), none, v4] ∧ Same H H' ∧ H' l = some (.lst (prV (Sz28.small.take r))) ∧ ∀ a ∈ (Sz28.small.take r).take i, Sz28.tried n a = true)
            ⟨none, rfl, s2.upd hlH, upd_same, fun a ha => by rw [List.take_zero] at ha; cases ha⟩ (fun i σ H' _ ⟨_, _, _, h, _⟩ => SqL.of h) ?_ ?_
          · rintro i y σ H' hi ⟨v4, rfl, s3, hl3, hall⟩
            obtain ⟨a, haz, rfl⟩ := map_at hi
            have hmem : a ∈ Sz28.small := List.mem_of_mem_take (List.mem_of_getElem? haz)
            have ha2 := small_pos hmem
            refine ⟨_, rfl, _, rfl, a, n, rfl, by omega, by omega, hnb, fun H4 s4 => ⟨_, rfl, iteB (fun hb2 => ?_) (fun hb2 => ?_)⟩⟩
            · have : (Sz28.small.take r).all (fun a => Sz28.tried n a) = false := by
                rw [List.all_eq_false]
                exact ⟨a, List.mem_of_getElem? haz, by simpa using hb2⟩
              rw [hq, this] at q
              exact q _ (s3.trans s4)
            · refine ⟨some (.int a), rfl, s3.trans s4, s4 _ _ hl3, fun b hb3 => ?_⟩
              rw [take_snoc haz] at hb3
              rcases List.mem_append.mp hb3 with z | z
              · exact hall b z
              · have e : b = a := by simpa using z
                subst e
                simpa using hb2
          · rintro σ H' ⟨v4, rfl, s3, hl3, hall⟩
            have el2 : (prV (Sz28.small.take r)).length = (Sz28.small.take r).length := by unfold prV; rw [List.length_map]
            rw [el2, List.take_length] at hall
            have : (Sz28.small.take r).all (fun a => Sz28.tried n a) = true := List.all_eq_true.mpr hall
            rw [hq, this] at q
            exact q _ s3
end
end Gk

set_option Elab.async false
set_option linter.all false
set_option maxRecDepth 100000
set_option maxHeartbeats 2000000
/-! The program's defs: keys, and what they are put together of. -/
namespace Gk
open PySem PySem.Spec PyProof.Rows L2
abbrev sKeyInit : Stmt := inClass (top 52) 0
abbrev sIsSize : Stmt := top 53
abbrev sIsExp : Stmt := top 54
abbrev sFills : Stmt := top 55
abbrev sOpenKey : Stmt := top 56
abbrev sOfPrimes : Stmt := top 57
theorem putF_ne {f g : Str} {v x : V} {r : List (Str × V)} (h : ¬ g = f) : putF f v ((g, x) :: r) = (g, x) :: putF f v r := by
  show (if g = f then (g, v) :: r else (g, x) :: putF f v r) = _
  rw [if_neg h]
theorem putF_eq {f : Str} {v x : V} {r : List (Str × V)} : putF f v ((f, x) :: r) = (f, v) :: r := by
  show (if f = f then (f, v) :: r else (f, x) :: putF f v r) = _
  rw [if_pos rfl]
theorem look_ne {f g : Str} {x : V} {r : List (Str × V)} (h : ¬ f = g) : ((g, x) :: r).lookup f = r.lookup f := by
  have hb : (f == g) = false := beq_eq_false_iff_ne.mpr h
  simp only [List.lookup, hb]
theorem look_eq {f : Str} {x : V} {r : List (Str × V)} : ((f, x) :: r).lookup f = some x := by
  simp only [List.lookup, beq_self_eq_true]
def keyF (k : Sz28.Key) : List (Str × V) := [("size", .int k.size), ("modulus", .int k.n), ("exponent", .int k.e), ("secret", .int k.d)]
def KeyAt (C : Addr) (H : Hp) (a : Addr) (k : Sz28.Key) : Prop := ∃ dx, H a = some (.ins C dx (keyF k))
theorem KeyAt.same {C : Addr} {H H' : Hp} {a : Addr} {k : Sz28.Key} (h : KeyAt C H a k) (s : Same H H') : KeyAt C H' a k := let ⟨dx, e⟩ := h; ⟨dx, s _ _ e⟩
theorem keyF_size (k : Sz28.Key) : (keyF k).lookup ("size" : Str) = some (.int k.size) := look_eq
theorem keyF_mod (k : Sz28.Key) : (keyF k).lookup ("modulus" : Str) = some (.int k.n) := by
  unfold keyF
  rw [look_ne (by decide +kernel), look_eq]
theorem keyF_exp (k : Sz28.Key) : (keyF k).lookup ("exponent" : Str) = some (.int k.e) := by
  unfold keyF
  rw [look_ne (by decide +kernel), look_ne (by decide +kernel), look_eq]
theorem keyF_sec (k : Sz28.Key) : (keyF k).lookup ("secret" : Str) = some (.int k.d) := by
  unfold keyF
  rw [look_ne (by decide +kernel), look_ne (by decide +kernel), look_ne (by decide +kernel), look_eq]
/-- what of the text the class Key has -/
structure TKey (K : PySem.W.Frag) (C : Addr) : Prop where
  cl : Cls K C
  nS : NoAttr K C "size"
  nM : NoAttr K C "modulus"
  nE : NoAttr K C "exponent"
  nD : NoAttr K C "secret"
section
variable {P : Program} {w : World} {K : PySem.W.Frag} {mg : Str → Option Value} {base : Heap}
/-! ### Key.__init__ -/
def spKeyInit (C : Addr) : Sp := fun vs H Q _ => ∃ (a dx : Addr) (k : Sz28.Key), vs = [.ref a, .int k.size, .int k.n, .int k.e, .int k.d] ∧ H a = some (.ins C dx []) ∧ Q .non (upd H a (.ins C dx (keyF k)))
theorem scKeyInit : FnScope ["self", "size", "modulus", "exponent", "secret"] ["self", "size", "modulus", "exponent", "secret"] (defScope sKeyInit) := ⟨rfl, rfl, rfl, by decide +kernel, rfl, by decide +kernel, by decide +kernel⟩
theorem ok_keyInit {f C : Addr} {fd : FuncData} (T : TKey K C) (F : Fun K "__init__" "Key.__init__" sKeyInit f fd) : FnOk P w K mg base CX0 1 f fd ["self", "size", "modulus", "exponent", "secret"] (spKeyInit C) := by
  refine F.ok scKeyInit (fun vs H Q E h => ?_) (fun cdv A outer s H vs Q E hr h => ?_)
  · obtain ⟨a, dx, k, rfl, _⟩ := h
    rfl
  · obtain ⟨a, dx, k, rfl, h0, q⟩ := h
    refine ⟨_, pss_cons (ps_fld (pv 0) (pv 1) rfl) (pss_cons (ps_fld (pv 0) (pv 2) rfl) (pss_cons (ps_fld (pv 0) (pv 3) rfl) (pss_one (ps_fld (pv 0) (pv 4) rfl)))), ?_⟩
    refine ⟨_, rfl, _, rfl, a, C, dx, [], rfl, h0, T.cl, T.nS, by decide, _, rfl, _, rfl, a, C, dx, _, rfl, upd_same, T.cl, T.nM, by show 1 < 1000; decide, _, rfl, _, rfl, a, C, dx, _, rfl, upd_same, T.cl, T.nE, ?_, _, rfl, _, rfl, a, C, dx, _, rfl, upd_same, T.cl, T.nD, ?_, ?_⟩
    · have := length_putF "modulus" (V.int k.n) (putF "size" (V.int k.size) [])
      have := length_putF "size" (V.int k.size) []
      simp only [List.length_nil] at this
      omega
    · have := length_putF "exponent" (V.int k.e) (putF "modulus" (V.int k.n) (putF "size" (V.int k.size) []))
      have := length_putF "modulus" (V.int k.n) (putF "size" (V.int k.size) [])
      have := length_putF "size" (V.int k.size) []
      simp only [List.length_nil] at this
      omega
    · have e : putF "secret" (V.int k.d) (putF "exponent" (V.int k.e) (putF "modulus" (V.int k.n) (putF "size" (V.int k.size) []))) = keyF k := by
        show putF "secret" (V.int k.d) (putF "exponent" (V.int k.e) (putF "modulus" (V.int k.n) [("size", V.int k.size)])) = _
        rw [putF_ne (g := "size") (by decide +kernel)]
        show putF "secret" (V.int k.d) (putF "exponent" (V.int k.e) [("size", V.int k.size), ("modulus", V.int k.n)]) = _
        rw [putF_ne (g := "size") (by decide +kernel), putF_ne (g := "modulus") (by decide +kernel)]
        show putF "secret" (V.int k.d) [("size", V.int k.size), ("modulus", V.int k.n), ("exponent", V.int k.e)] = _
        rw [putF_ne (g := "size") (by decide +kernel), putF_ne (g := "modulus") (by decide +kernel), putF_ne (g := "exponent") (by decide +kernel)]
        rfl
      rw [upd_upd, upd_upd, upd_upd, e]
      exact q
/-! ### is_size, is_exponent, fills -/
def spIsSize : Sp := fun vs H Q _ => ∃ (z : Int), vs = [.int z] ∧ Q (.bl (decide (Sz28.sized z))) H
theorem scIsSize : FnScope ["size"] ["size"] (defScope sIsSize) := ⟨rfl, rfl, rfl, by decide +kernel, rfl, by decide +kernel, by decide +kernel⟩
theorem inV_sizes (z : Int) : inV (.int z) (([128, 256, 384, 512] : List Int).map V.int) = decide (Sz28.sized z) := by
  show (((128 : Int) == z) || (((256 : Int) == z) || (((384 : Int) == z) || (((512 : Int) == z) || false)))) = _
  rw [Bool.eq_iff_iff, decide_eq_true_iff]
  simp only [Bool.or_eq_true, beq_iff_eq, Bool.false_eq_true, or_false]
  unfold Sz28.sized
  omega
theorem ok_isSize {f : Addr} {fd : FuncData} (hS : GTup K mg "SIZES" [128, 256, 384, 512]) (F : Fun K "is_size" "is_size" sIsSize f fd) : FnOk P w K mg base CX0 1 f fd ["size"] spIsSize := by
  obtain ⟨a, ha, hT⟩ := hS
  refine F.ok scIsSize (fun vs H Q E h => ?_) (fun cdv A outer s H vs Q E hr h => ?_)
  · obtain ⟨z, rfl, _⟩ := h
    rfl
  · obtain ⟨z, rfl, q⟩ := h
    refine ⟨_, pss_one (ps_ret (pe_cmpR op_in_seq (pv 0) (pe_glob (v := .ref a) rfl ha rfl) rfl)), ?_⟩
    refine ⟨_, rfl, a, _, rfl, .inr (hT H), rfl, rfl, ?_⟩
    rw [if_neg Bool.false_ne_true, inV_sizes]
    exact q
def spIsExp : Sp := fun vs H Q _ => ∃ (e : Nat), vs = [.int e] ∧ Q (.bl (Sz28.exponent e)) H
theorem scIsExp : FnScope ["exponent"] ["exponent"] (defScope sIsExp) := ⟨rfl, rfl, rfl, by decide +kernel, rfl, by decide +kernel, by decide +kernel⟩
theorem ok_isExp {f : Addr} {fd : FuncData} (hL : GInt mg "LEAST_EXPONENT" 3) (F : Fun K "is_exponent" "is_exponent" sIsExp f fd) : FnOk P w K mg base CX0 1 f fd ["exponent"] spIsExp := by
  refine F.ok scIsExp (fun vs H Q E h => ?_) (fun cdv A outer s H vs Q E hr h => ?_)
  · obtain ⟨e, rfl, _⟩ := h
    rfl
  · obtain ⟨e, rfl, q⟩ := h
    refine ⟨_, pss_one (ps_ret (pe_and (pe_cmp (pc_ge (pv 0) (pe_gint hL rfl))) (pe_one (pe_cmp (pc_eqI (pe_op op_mod (pv 0) pe_int) pe_int))))), ?_⟩
    refine ⟨_, rfl, _, _, rfl, rfl, _, rfl, iteD (fun h3 => ?_) (fun h3 => ?_)⟩
    · refine ⟨_, rfl, _, _, rfl, rfl, ?_, _, _, rfl, rfl, ?_⟩
      · show (0 : Int) < 2
        decide
      · have ee : Sz28.exponent e = decide ((e : Int) % 2 = 1) := by
          rw [Bool.eq_iff_iff, exponent_iff, decide_eq_true_iff]
          omega
        have q' : Q (.bl (decide ((e : Int) % 2 = 1))) H := by rw [← ee]; exact q
        exact q'
    · have ee : Sz28.exponent e = false := by
        cases h : Sz28.exponent e with
        | false => rfl
        | true => have := (exponent_iff e).mp h; omega
      rw [ee] at q
      exact q
def spFills : Sp := fun vs H Q _ => ∃ (n k : Nat), vs = [.int n, .int k] ∧ Q (.bl (decide (Sz28.bitsOf n = 8 * k))) H
theorem scFills : FnScope ["number", "size"] ["number", "size"] (defScope sFills) := ⟨rfl, rfl, rfl, by decide +kernel, rfl, by decide +kernel, by decide +kernel⟩
theorem ok_fills {f : Addr} {fd : FuncData} (F : Fun K "fills" "fills" sFills f fd) : FnOk P w K mg base CX0 1 f fd ["number", "size"] spFills := by
  refine F.ok scFills (fun vs H Q E h => ?_) (fun cdv A outer s H vs Q E hr h => ?_)
  · obtain ⟨n, k, rfl, _⟩ := h
    rfl
  · obtain ⟨n, k, rfl, q⟩ := h
    refine ⟨_, pss_one (ps_ret (pe_cmp (pc_eqI (pe_bm0 PySem.F.plainAttrs_int PySem.F.slot_int_bit_length PySem.F.type_int_bit_length mt_bitlen (pv 0)) (pe_op op_mul pe_int (pv 1))))), ?_⟩
    refine ⟨_, rfl, rfl, _, rfl, rfl, _, rfl, _, _, rfl, rfl, .inl ⟨by decide, by decide⟩, _, _, rfl, rfl, ?_⟩
    have e : decide (((Builtin.Int.intBits (n : Int) : Nat) : Int) = 8 * (k : Int)) = decide (Sz28.bitsOf n = 8 * k) := by
      rw [intBits_nat]
      exact decide_eq_decide.mpr (by omega)
    have q' : Q (.bl (decide (((Builtin.Int.intBits (n : Int) : Nat) : Int) = 8 * (k : Int)))) H := by rw [e]; exact q
    exact q'
/-! ### open_key, key_of_primes -/
def spOpenKey (C : Addr) : Sp := fun vs H Q _ => ∃ (k e n : Nat), vs = [.int k, .int e, .int n] ∧ ((Sz28.bitsOf n ≠ 8 * k ∨ n % 2 = 0) → Q .non H) ∧ (¬ (Sz28.bitsOf n ≠ 8 * k ∨ n % 2 = 0) → ∀ H' a, Same H H' → H a = none → KeyAt C H' a ⟨k, n, e, 0⟩ → Q (.ref a) H')
theorem scOpenKey : FnScope ["size", "exponent", "modulus"] ["size", "exponent", "modulus"] (defScope sOpenKey) := ⟨rfl, rfl, rfl, by decide +kernel, rfl, by decide +kernel, by decide +kernel⟩
theorem ok_openKey {f C : Addr} {fd : FuncData} (hf : Has P w K mg base 1 "fills" ["number", "size"] spFills) (hk : HasC P w K mg base 1 "Key" C ["self", "size", "modulus", "exponent", "secret"] (spKeyInit C))
    (F : Fun K "open_key" "open_key" sOpenKey f fd) : FnOk P w K mg base CX0 3 f fd ["size", "exponent", "modulus"] (spOpenKey C) := by
  refine F.ok scOpenKey (fun vs H Q E h => ?_) (fun cdv A outer s H vs Q E hr h => ?_)
  · obtain ⟨k, e, n, rfl, _⟩ := h
    rfl
  · obtain ⟨k, e, n, rfl, q1, q2⟩ := h
    refine ⟨_, pss_cons (ps_if (PW.pt (pw_or (pt_not (pt_val (pe_callH hf hr (by decide) rfl (pa_cons (pv 2) (pa_cons (pv 0) pa_nil))))) (pw_or1 (pt_cmp (pc_eqI (pe_op op_mod (pv 2) pe_int) pe_int))))) (pss_one (ps_ret pe_non)) pss_nil)
      (pss_one (ps_ret (pe_makeH hk hr (by decide) rfl (pa_cons (pv 0) (pa_cons (pv 2) (pa_cons (pv 1) (pa_cons pe_int pa_nil))))))), ?_⟩
    refine ⟨_, rfl, _, rfl, n, k, rfl, _, rfl, iteN (fun hb => iteT (q1 (.inl hb))) (fun hb => ?_)⟩
    refine ⟨_, rfl, _, _, rfl, rfl, ?_, _, _, rfl, rfl, _, rfl, iteD (fun hz => ?_) (fun hz => ?_)⟩
    · show (0 : Int) < 2
      decide
    · exact q1 (.inr (by omega))
    · have hno : ¬ (Sz28.bitsOf n ≠ 8 * k ∨ n % 2 = 0) := by
        rintro (z | z)
        · exact z hb
        · omega
      refine ⟨_, rfl, _, rfl, _, rfl, fun x dx hx hdx hne => ?_⟩
      refine ⟨x, dx, ⟨k, n, e, 0⟩, rfl, upd_same, rfl, q2 hno _ x ?_ hx ⟨dx, upd_same⟩⟩
      exact fun b o eb => by rw [upd_ne (ne_of_none eb hx), upd_ne (ne_of_none eb hx), upd_ne (ne_of_none eb hdx)]; exact eb
def spOfPrimes (C : Addr) : Sp := fun vs H Q _ => ∃ (k e p q : Nat), vs = [.int k, .int e, .int p, .int q] ∧ Sized k ∧ p < 256 ^ (k / 2) ∧ q < 256 ^ (k / 2) ∧ e < 2 ^ 32 ∧
  (Sz28.together k p q e = none → ∀ H', Same H H' → Q .non H') ∧ (∀ key, Sz28.together k p q e = some key → ∀ H' a, Same H H' → H a = none → KeyAt C H' a key → Q (.ref a) H')
theorem scOfPrimes : FnScope ["size", "exponent", "first", "second", "secret", "number"] ["size", "exponent", "first", "second"] (defScope sOfPrimes) := ⟨rfl, rfl, rfl, by decide +kernel, rfl, by decide +kernel, by decide +kernel⟩
theorem size_pow {k p : Nat} (hs : Sized k) (h : p < 256 ^ (k / 2)) : p < 2 ^ 2048 := by
  refine Nat.lt_of_lt_of_le h ?_
  have e : (256 : Nat) = 2 ^ 8 := rfl
  rw [e, ← Nat.pow_mul]
  exact Nat.pow_le_pow_right (by decide) (by have := hs.pos; omega)
theorem mul_pow2 {p q a b : Nat} (hp : p < 2 ^ a) (hq : q < 2 ^ b) : p * q < 2 ^ (a + b) := by
  rw [Nat.pow_add]
  exact Nat.mul_lt_mul_of_lt_of_le hp (Nat.le_of_lt hq) (Nat.two_pow_pos b)
theorem ok_ofPrimes {f C : Addr} {fd : FuncData} (hR : GInt mg "ROUNDS_FOR_A_KEY" 20) (hf : Has P w K mg base 1 "fills" ["number", "size"] spFills) (hinv : Has P w K mg base 1 "inverse" ["number", "modulus"] spInv)
    (hlcm : Has P w K mg base 2 "common_multiple" ["first", "second"] spLcm) (htk : Has P w K mg base 4 "taken_for_prime" ["number", "rounds"] spTaken) (hk : HasC P w K mg base 1 "Key" C ["self", "size", "modulus", "exponent", "secret"] (spKeyInit C))
    (F : Fun K "key_of_primes" "key_of_primes" sOfPrimes f fd) : FnOk P w K mg base CX0 5 f fd ["size", "exponent", "first", "second"] (spOfPrimes C) := by
  refine F.ok scOfPrimes (fun vs H Q E h => ?_) (fun cdv A outer s H vs Q E hr h => ?_)
  · obtain ⟨k, e, p, q, rfl, _⟩ := h
    rfl
  · obtain ⟨k, e, p, q, rfl, hs, hp, hq, he, qn, qs⟩ := h
    refine ⟨_, pss_cons (ps_if (PW.pt (pw_or (pt_cmp (pc_eqI (pv 2) (pv 3))) (pw_or1 (pt_not (pt_val (pe_callH hf hr (by decide) rfl (pa_cons (pe_op op_mulB (pv 2) (pv 3)) (pa_cons (pv 0) pa_nil)))))))) (pss_one (ps_ret pe_non)) pss_nil)
      (pss_cons (ps_set (i := 4) scOfPrimes.nd rfl (Or.inl rfl) (pe_callH hinv hr (by decide) rfl (pa_cons (pv 1) (pa_cons (pe_callH hlcm hr (by decide) rfl (pa_cons (pe_op op_sub (pv 2) pe_int) (pa_cons (pe_op op_sub (pv 3) pe_int) pa_nil))) pa_nil))))
      (pss_cons (ps_if (pt_cmp (pc_isN (pv 4))) (pss_one (ps_ret pe_non)) pss_nil)
      (pss_cons (ps_for PassesOwn.never rfl (pi_tup (pe_tup (pa_cons (pv 2) (pa_cons (pv 3) pa_nil)))) (pg_name (i := 5) scOfPrimes.nd rfl (Or.inl rfl))
        (pss_one (ps_if (pt_not (pt_val (pe_callH htk hr (by decide) rfl (pa_cons (pv 5) (pa_cons (pe_gint hR rfl) pa_nil))))) (pss_one (ps_ret pe_non)) pss_nil)))
      (pss_one (ps_ret (pe_makeH hk hr (by decide) rfl (pa_cons (pv 0) (pa_cons (pe_op op_mulB (pv 2) (pv 3)) (pa_cons (pv 1) (pa_cons (pv 4) pa_nil)))))))))), ?_⟩
    have hp2 := size_pow hs hp
    have hq2 := size_pow hs hq
    have bp : Bits 2048 (p : Int) := Bits.of_nat hp2
    have bq : Bits 2048 (q : Int) := Bits.of_nat hq2
    have hpq : p * q < 2 ^ 4096 := mul_pow2 hp2 hq2
    have epq : (p : Int) * (q : Int) = ((p * q : Nat) : Int) := by push_cast; rfl
    have htg := together_eq k p q e
    refine ⟨_, rfl, _, rfl, _, _, rfl, rfl, _, rfl, iteD (fun heq => iteT ?_) (fun hne => ?_)⟩
    · rw [if_pos (.inl (by omega))] at htg
      exact qn htg H (Same.refl H)
    refine ⟨_, rfl, _, rfl, _, _, rfl, rfl, ⟨2048, 2048, bp, bq, by decide⟩, _, rfl, p * q, k, ?_, _, rfl, iteN (fun hb => ?_) (fun hb => ?_)⟩
    · show [V.int ((p : Int) * (q : Int)), V.int k] = _
      rw [epq]
    · rw [if_pos (.inr hb)] at htg
      exact qn htg H (Same.refl H)
    rw [if_neg (fun y => y.elim (fun z => hne (by omega)) (fun z => z hb))] at htg
    obtain ⟨gp, gq⟩ := factors_gt (by have := hs.pos; omega) hp hq (by rcases hs with z | z | z | z <;> omega) hb
    have e1 : (p : Int) - 1 = ((p - 1 : Nat) : Int) := by omega
    have e2 : (q : Int) - 1 = ((q - 1 : Nat) : Int) := by omega
    have pw1 : 2 ^ 2048 ≤ 2 ^ 8200 := Nat.pow_le_pow_right (by decide) (by decide)
    have pw2 : 2 ^ 4096 ≤ 2 ^ 8200 := Nat.pow_le_pow_right (by decide) (by decide)
    have hl0 := lcmN_pos (show 0 < p - 1 by omega) (show 0 < q - 1 by omega)
    have hl1 : lcmN (p - 1) (q - 1) < 2 ^ 8200 := by
      have h1 : lcmN (p - 1) (q - 1) ≤ (p - 1) * (q - 1) := lcmN_le
      have h2 : (p - 1) * (q - 1) ≤ p * q := Nat.mul_le_mul (by omega) (by omega)
      omega
    refine ⟨_, rfl, _, rfl, _, _, rfl, rfl, _, rfl, _, _, rfl, rfl, p - 1, q - 1, ?_, by omega, by omega, by omega, e, lcmN (p - 1) (q - 1), rfl, hl0, hl1, ?_⟩
    · show [V.int ((p : Int) - 1), V.int ((q : Int) - 1)] = _
      rw [e1, e2]
    cases hi : Sz28.inverse (lcmN (p - 1) (q - 1)) e with
    | none =>
      rw [hi] at htg
      exact ⟨_, rfl, _, rfl, iteD (fun _ => qn htg H (Same.refl H)) (fun z => absurd rfl z)⟩
    | some d =>
      rw [hi] at htg
      dsimp only at htg
      refine ⟨_, rfl, _, rfl, iteD (fun z => (by cases z)) (fun _ => ?_)⟩
      refine ⟨_, rfl, _, rfl, by show 2 ≤ sizeLine; decide, fun t ht => ⟨t, rfl, ⟨_, SqT.of upd_same⟩, ?_⟩⟩
      refine for_tup (K := K) (a := t) (xs := [.int p, .int q]) (fun i σ H' => ∃ v5 : Option V, σ = [some (.int k), some (.int e), some (.int p), some (.int q), some (.int d), v5] ∧ Same H H' ∧ H' t = some (.tup [.int p, .int q]) ∧ ∀ z ∈ [p, q].take i, Sz28.prime z 20 = true)
        ⟨none, rfl, Same.new ht, upd_same, fun z hz => by cases hz⟩ (fun i σ H' _ ⟨_, _, _, h, _⟩ => SqT.of h) ?_ ?_
      · rintro i y σ H' hi2 ⟨v5, rfl, s2, ht2, hall⟩
        have hi3 : (prV [p, q])[i]? = some y := hi2
        obtain ⟨z, hz, rfl⟩ := map_at hi3
        have hzb : z < 2 ^ 8200 := by
          have hm := List.mem_of_getElem? hz
          simp only [List.mem_cons, List.not_mem_nil, or_false] at hm
          rcases hm with rfl | rfl <;> omega
        refine ⟨_, rfl, z, 20, rfl, hzb, by decide, fun H3 s3 => ⟨_, rfl, ?_⟩⟩
        cases hpz : Sz28.prime z 20 with
        | false =>
          refine iteT ?_
          rw [if_neg] at htg
          · exact qn htg _ (s2.trans s3)
          · rintro ⟨z1, z2⟩
            have hm := List.mem_of_getElem? hz
            simp only [List.mem_cons, List.not_mem_nil, or_false] at hm
            rcases hm with rfl | rfl
            · rw [hpz] at z1; cases z1
            · rw [hpz] at z2; cases z2
        | true =>
          refine iteF ⟨some (.int z), rfl, s2.trans s3, s3 _ _ ht2, fun b hb2 => ?_⟩
          rw [take_snoc hz] at hb2
          rcases List.mem_append.mp hb2 with y | y
          · exact hall b y
          · have : b = z := by simpa using y
            subst this
            exact hpz
      · rintro σ H' ⟨v5, rfl, s2, ht2, hall⟩
        have hall' : ∀ z ∈ [p, q], Sz28.prime z 20 = true := hall
        rw [if_pos ⟨hall' p (by simp), hall' q (by simp)⟩] at htg
        refine ⟨_, rfl, _, rfl, _, rfl, _, _, rfl, rfl, ⟨2048, 2048, bp, bq, by decide⟩, _, rfl, _, rfl, fun x dx hx hdx hne => ?_⟩
        refine ⟨x, dx, ⟨k, p * q, e, d⟩, ?_, upd_same, rfl, qs _ htg _ x ?_ (s2.free hx) ⟨dx, upd_same⟩⟩
        · show [V.ref x, V.int k, V.int ((p : Int) * (q : Int)), V.int e, V.int d] = _
          rw [epq]
        · refine s2.trans fun b o eb => ?_
          rw [upd_ne (ne_of_none eb hx), upd_ne (ne_of_none eb hx), upd_ne (ne_of_none eb hdx)]
          exact eb
end
end Gk

set_option Elab.async false
set_option linter.all false
set_option maxRecDepth 100000
set_option maxHeartbeats 2000000
/-! The program's class Reader. -/
namespace Gk
open PySem PySem.Spec PyProof.Rows L2
abbrev sRdInit : Stmt := inClass (top 73) 0
abbrev sAtEnd : Stmt := inClass (top 73) 1
abbrev sTakeN : Stmt := inClass (top 73) 2
abbrev sTakeR : Stmt := inClass (top 73) 3
def readF (l : Addr) (n : Nat) : List (Str × V) := [("numbers", .ref l), ("place", .int (n : Int))]
theorem readF_nums (l : Addr) (n : Nat) : (readF l n).lookup ("numbers" : Str) = some (.ref l) := look_eq
theorem readF_place (l : Addr) (n : Nat) : (readF l n).lookup ("place" : Str) = some (.int (n : Int)) := by
  unfold readF
  rw [look_ne (by decide +kernel), look_eq]
theorem readF_put (l : Addr) (n m : Nat) : putF "place" (.int (m : Int)) (readF l n) = readF l m := by
  unfold readF
  rw [putF_ne (g := "numbers") (by decide +kernel), putF_eq]
theorem readF_no (l : Addr) (n : Nat) {m : Str} (h1 : ¬ m = "numbers") (h2 : ¬ m = "place") : (readF l n).lookup m = none := by
  unfold readF
  rw [look_ne h1, look_ne h2]
  rfl
structure TRead (K : PySem.W.Frag) (C : Addr) : Prop where
  cl : Cls K C
  nN : NoAttr K C "numbers"
  nP : NoAttr K C "place"
theorem _root_.L2.SqL.updI {K : PySem.W.Frag} {H : Hp} {l a C dx : Addr} {xs : List V} {fs : List (Str × V)} {o : HO} (h : SqL K H l xs) (ha : H a = some (.ins C dx fs)) : SqL K (upd H a o) l xs := by
  rcases h with (h | ⟨u, h⟩) | h
  · exact .inl (.inl (by rw [upd_ne (ne_of h ha (by intro z; cases z))]; exact h))
  · exact .inl (.inr ⟨u, by rw [upd_ne (ne_of h ha (by intro z; cases z))]; exact h⟩)
  · exact .inr h
section
variable {P : Program} {w : World} {K : PySem.W.Frag} {mg : Str → Option Value} {base : Heap}
def spRdInit (C : Addr) : Sp := fun vs H Q _ => ∃ (a dx l : Addr), vs = [.ref a, .ref l] ∧ H a = some (.ins C dx []) ∧ Q .non (upd H a (.ins C dx (readF l 0)))
theorem scRdInit : FnScope ["self", "numbers"] ["self", "numbers"] (defScope sRdInit) := ⟨rfl, rfl, rfl, by decide +kernel, rfl, by decide +kernel, by decide +kernel⟩
theorem ok_rdInit {f C : Addr} {fd : FuncData} (T : TRead K C) (F : Fun K "__init__" "Reader.__init__" sRdInit f fd) : FnOk P w K mg base CX0 1 f fd ["self", "numbers"] (spRdInit C) := by
  refine F.ok scRdInit (fun vs H Q E h => ?_) (fun cdv A outer s H vs Q E hr h => ?_)
  · obtain ⟨a, dx, l, rfl, _⟩ := h
    rfl
  · obtain ⟨a, dx, l, rfl, h0, q⟩ := h
    refine ⟨_, pss_cons (ps_fld (pv 0) (pv 1) rfl) (pss_one (ps_fld (pv 0) pe_int rfl)), ?_⟩
    refine ⟨_, rfl, _, rfl, a, C, dx, [], rfl, h0, T.cl, T.nN, by decide, _, rfl, a, C, dx, _, rfl, upd_same, T.cl, T.nP, by show 1 < 1000; decide, ?_⟩
    have e : putF "place" (V.int 0) (putF "numbers" (V.ref l) []) = readF l 0 := by
      show putF "place" (V.int 0) [("numbers", V.ref l)] = _
      rw [putF_ne (g := "numbers") (by decide +kernel)]
      rfl
    rw [upd_upd, e]
    exact q
def spAtEnd (K : PySem.W.Frag) (C : Addr) : Sp := fun vs H Q _ => ∃ (a dx l : Addr) (n : Nat) (ns : List Int), vs = [.ref a] ∧ H a = some (.ins C dx (readF l n)) ∧ SqL K H l (ns.map V.int) ∧ Q (.bl (decide (ns.length ≤ n))) H
theorem scAtEnd : FnScope ["self"] ["self"] (defScope sAtEnd) := ⟨rfl, rfl, rfl, by decide +kernel, rfl, by decide +kernel, by decide +kernel⟩
theorem ok_atEnd {f C : Addr} {fd : FuncData} (hln : mg "len" = none) (T : TRead K C) (F : Fun K "at_end" "Reader.at_end" sAtEnd f fd) : FnOk P w K mg base CX0 1 f fd ["self"] (spAtEnd K C) := by
  refine F.ok scAtEnd (fun vs H Q E h => ?_) (fun cdv A outer s H vs Q E hr h => ?_)
  · obtain ⟨a, dx, l, n, ns, rfl, _⟩ := h
    rfl
  · obtain ⟨a, dx, l, n, ns, rfl, h0, hS, q⟩ := h
    refine ⟨_, pss_one (ps_ret (pe_cmp (pc_ge (pe_fld (pv 0) rfl) (pe_callB call_len_seq (by rfl) hln PySem.boot_len (pa_cons (pe_fld (pv 0) rfl) pa_nil))))), ?_⟩
    refine ⟨_, rfl, a, C, dx, _, _, rfl, h0, T.cl, T.nP, readF_place l n, _, rfl, a, C, dx, _, _, rfl, h0, T.cl, T.nN, readF_nums l n, l, _, rfl, .inl hS, _, _, rfl, rfl, ?_⟩
    have e : decide ((((ns.map V.int).length : Nat) : Int) ≤ (n : Int)) = decide (ns.length ≤ n) := by
      rw [List.length_map]
      exact decide_eq_decide.mpr (by omega)
    have q' : Q (.bl (decide ((((ns.map V.int).length : Nat) : Int) ≤ (n : Int)))) H := by rw [e]; exact q
    exact q'
def spTakeN (K : PySem.W.Frag) (C : Addr) : Sp := fun vs H Q _ => ∃ (a dx l : Addr) (n : Nat) (ns : List Int) (x : Int), vs = [.ref a] ∧ H a = some (.ins C dx (readF l n)) ∧ SqL K H l (ns.map V.int) ∧ ns[n]? = some x ∧ Q (.int x) (upd H a (.ins C dx (readF l (n + 1))))
theorem scTakeN : FnScope ["self", "number"] ["self"] (defScope sTakeN) := ⟨rfl, rfl, rfl, by decide +kernel, rfl, by decide +kernel, by decide +kernel⟩
theorem ok_takeN {f C : Addr} {fd : FuncData} (T : TRead K C) (F : Fun K "take_number" "Reader.take_number" sTakeN f fd) : FnOk P w K mg base CX0 1 f fd ["self"] (spTakeN K C) := by
  refine F.ok scTakeN (fun vs H Q E h => ?_) (fun cdv A outer s H vs Q E hr h => ?_)
  · obtain ⟨a, dx, l, n, ns, x, rfl, _⟩ := h
    rfl
  · obtain ⟨a, dx, l, n, ns, x, rfl, h0, hS, hx, q⟩ := h
    refine ⟨_, pss_cons (ps_set (i := 1) scTakeN.nd rfl (Or.inl rfl) (pe_ix ix_list (pe_fld (pv 0) rfl) (pe_fld (pv 0) rfl) (fun _ _ => rfl)))
      (pss_cons (ps_fldaug (pv 0) pe_int in_add) (pss_one (ps_ret (pv 1)))), ?_⟩
    refine ⟨_, rfl, a, C, dx, _, _, rfl, h0, T.cl, T.nN, readF_nums l n, _, rfl, a, C, dx, _, _, rfl, h0, T.cl, T.nP, readF_place l n, l, _, _, _, rfl, rfl, hS, atI_nat (v := V.int x) (by rw [List.getElem?_map, hx]; rfl), ?_⟩
    refine ⟨_, rfl, a, C, dx, _, _, rfl, h0, T.cl, T.nP, readF_place l n, _, _, rfl, rfl, dx, _, h0, by show 2 < 1000; decide, ?_⟩
    have e : (n : Int) + 1 = ((n + 1 : Nat) : Int) := by omega
    rw [e, readF_put]
    exact ⟨_, rfl, q⟩
def spTakeR (K : PySem.W.Frag) (C : Addr) : Sp := fun vs H Q _ => ∃ (a dx l : Addr) (n : Nat) (ns x : List Int), vs = [.ref a] ∧ H a = some (.ins C dx (readF l n)) ∧ SqL K H l (ns.map V.int) ∧ ns[n]? = some (x.length : Int) ∧ n + 1 + x.length ≤ ns.length ∧ (ns.drop (n + 1)).take x.length = x ∧
  ∀ p, H p = none → Q (.ref p) (upd (upd H a (.ins C dx (readF l (n + 1 + x.length)))) p (.lst (x.map V.int)))
theorem scTakeR : FnScope ["self", "length", "start"] ["self"] (defScope sTakeR) := ⟨rfl, rfl, rfl, by decide +kernel, rfl, by decide +kernel, by decide +kernel⟩
theorem cut_mid {ns x : List Int} {n : Nat} (h1 : n + x.length ≤ ns.length) (h2 : (ns.drop n).take x.length = x) : cutV (ns.map V.int) (some (n : Int)) (some ((n + x.length : Nat) : Int)) = x.map V.int := by
  unfold cutV
  rw [HT.sIx_nat, HT.sIx_nat, List.length_map, Nat.min_eq_left h1, Nat.min_eq_left (show n ≤ ns.length by omega), ← List.map_drop, ← List.map_take]
  have e : n + x.length - n = x.length := by omega
  rw [e, h2]
theorem ok_takeR {f C : Addr} {fd : FuncData} (T : TRead K C) (hn : HasM P w K mg base 1 C "take_number" ["self"] (spTakeN K C)) (F : Fun K "take_row" "Reader.take_row" sTakeR f fd) : FnOk P w K mg base CX0 2 f fd ["self"] (spTakeR K C) := by
  refine F.ok scTakeR (fun vs H Q E h => ?_) (fun cdv A outer s H vs Q E hr h => ?_)
  · obtain ⟨a, dx, l, n, ns, x, rfl, _⟩ := h
    rfl
  · obtain ⟨a, dx, l, n, ns, x, rfl, h0, hS, hx, hlen, htk, q⟩ := h
    refine ⟨_, pss_cons (ps_set (i := 1) scTakeR.nd rfl (Or.inl rfl) (pe_methH0 (pv 0) T.cl hn hr (by decide)))
      (pss_cons (ps_set (i := 2) scTakeR.nd rfl (Or.inl rfl) (pe_fld (pv 0) rfl))
      (pss_cons (ps_fld (pv 0) (pe_op op_add (pv 2) (pv 1)) rfl)
      (pss_one (ps_ret (pe_slice sl_list (pe_fld (pv 0) rfl) (po_some (pv 2)) (po_some (pe_fld (pv 0) rfl))))))), ?_⟩
    refine ⟨_, rfl, a, dx, _, rfl, h0, readF_no l n (by decide +kernel) (by decide +kernel), a, dx, l, n, ns, _, rfl, h0, hS, hx, ?_⟩
    refine ⟨_, rfl, a, C, dx, _, _, rfl, upd_same, T.cl, T.nP, readF_place l (n + 1), ?_⟩
    refine ⟨_, rfl, _, rfl, _, _, rfl, rfl, _, rfl, a, C, dx, _, rfl, upd_same, T.cl, T.nP, by show 2 < 1000; decide, ?_⟩
    have e : ((n + 1 : Nat) : Int) + (x.length : Int) = ((n + 1 + x.length : Nat) : Int) := by omega
    dsimp only
    rw [e, readF_put, upd_upd]
    refine ⟨_, rfl, a, C, dx, _, _, rfl, upd_same, T.cl, T.nN, readF_nums l _, _, rfl, _, rfl, _, rfl, a, C, dx, _, _, rfl, upd_same, T.cl, T.nP, readF_place l _, _, rfl, l, _, rfl, hS.updI h0, fun p hp => ?_⟩
    rw [cut_mid hlen htk]
    refine q p ?_
    have hpa : p ≠ a := (ne_of_none (o := .ins C dx (readF l (n + 1 + x.length))) upd_same hp).symm
    rw [upd_ne hpa] at hp
    exact hp
end
end Gk

set_option Elab.async false
set_option linter.all false
set_option maxRecDepth 100000
set_option maxHeartbeats 2000000
/-! The program's class Holder: the key that is held, the calls 1 to 4. -/
namespace Gk
open PySem PySem.Spec PyProof.Rows L2
abbrev sHoldInit : Stmt := inClass (top 71) 0
abbrev sRsKey : Stmt := inClass (top 71) 1
abbrev sRsMake : Stmt := inClass (top 71) 2
abbrev sRsNumbers : Stmt := inClass (top 71) 3
abbrev sRsPrime : Stmt := inClass (top 71) 4
def heldF (v : V) : List (Str × V) := [("held", v)]
theorem heldF_held (v : V) : (heldF v).lookup ("held" : Str) = some v := look_eq
theorem heldF_put (v u : V) : putF "held" u (heldF v) = heldF u := putF_eq
theorem heldF_no (v : V) {m : Str} (h : ¬ m = "held") : (heldF v).lookup m = none := by
  unfold heldF
  rw [look_ne h]
  rfl
def HoldV (Ck : Addr) (H : Hp) (v : V) : Sz28.St → Prop
  | none => v = .non
  | some k => ∃ b, v = .ref b ∧ KeyAt Ck H b k
def HoldAt (Ch Ck : Addr) (H : Hp) (a : Addr) (st : Sz28.St) : Prop := ∃ dx v, H a = some (.ins Ch dx (heldF v)) ∧ HoldV Ck H v st
/-- all that was tracked but a stays as it was -/
def Keep (a : Addr) (H H' : Hp) : Prop := ∀ b o, H b = some o → b ≠ a → H' b = some o
theorem Keep.same {a : Addr} {H H1 H2 : Hp} (k : Keep a H H1) (s : Same H1 H2) : Keep a H H2 := fun b o e h => s b o (k b o e h)
theorem Keep.updA {a : Addr} {H : Hp} {o : HO} : Keep a H (upd H a o) := fun b u e h => by rw [upd_ne h]; exact e
theorem Keep.then_updA {a : Addr} {H H' : Hp} {o : HO} (k : Keep a H H') : Keep a H (upd H' a o) := fun b u e h => by rw [upd_ne h]; exact k b u e h
theorem _root_.L2.Same.keep {a : Addr} {H H' : Hp} (s : Same H H') : Keep a H H' := fun b o e _ => s b o e
theorem Keep.free {a p : Addr} {H H' : Hp} (k : Keep a H H') (h : H' p = none) (hp : p ≠ a) : H p = none := by
  cases q : H p with
  | none => rfl
  | some o => rw [k p o q hp] at h; cases h
theorem HoldV.same {Ck : Addr} {H H' : Hp} {v : V} {st : Sz28.St} (h : HoldV Ck H v st) (s : Same H H') : HoldV Ck H' v st := by
  cases st with
  | none => exact h
  | some k => obtain ⟨b, e, hb⟩ := h; exact ⟨b, e, hb.same s⟩
theorem HoldAt.same {Ch Ck a : Addr} {H H' : Hp} {st : Sz28.St} (h : HoldAt Ch Ck H a st) (s : Same H H') : HoldAt Ch Ck H' a st := by
  obtain ⟨dx, v, e, hv⟩ := h
  exact ⟨dx, v, s _ _ e, hv.same s⟩
/-- what a call on the holder a leaves: the state st, the answer r in a new list -/
def Done (Ch Ck : Addr) (H : Hp) (a : Addr) (st : Sz28.St) (r : List Int) (Q : VK) : Prop :=
  ∀ H' p, HoldAt Ch Ck H' a st → Keep a H H' → H p = none → H' p = some (.lst (r.map V.int)) → Q (.ref p) H'
structure THold (K : PySem.W.Frag) (C : Addr) : Prop where
  cl : Cls K C
  nH : NoAttr K C "held"
section
variable {P : Program} {w : World} {K : PySem.W.Frag} {mg : Str → Option Value} {base : Heap}
def spHoldInit (C : Addr) : Sp := fun vs H Q _ => ∃ (a dx : Addr), vs = [.ref a] ∧ H a = some (.ins C dx []) ∧ Q .non (upd H a (.ins C dx (heldF .non)))
theorem scHoldInit : FnScope ["self"] ["self"] (defScope sHoldInit) := ⟨rfl, rfl, rfl, by decide +kernel, rfl, by decide +kernel, by decide +kernel⟩
theorem ok_holdInit {f C : Addr} {fd : FuncData} (T : THold K C) (F : Fun K "__init__" "Holder.__init__" sHoldInit f fd) : FnOk P w K mg base CX0 1 f fd ["self"] (spHoldInit C) := by
  refine F.ok scHoldInit (fun vs H Q E h => ?_) (fun cdv A outer s H vs Q E hr h => ?_)
  · obtain ⟨a, dx, rfl, _⟩ := h
    rfl
  · obtain ⟨a, dx, rfl, h0, q⟩ := h
    refine ⟨_, pss_one (ps_fld (pv 0) pe_non rfl), ?_⟩
    exact ⟨_, rfl, a, C, dx, [], rfl, h0, T.cl, T.nH, by decide, q⟩
/-! ### rs_key -/
def spRsKey (K : PySem.W.Frag) (Ch Ck : Addr) : Sp := fun vs H Q _ => ∃ (a dx l : Addr) (v : V) (z e : Int) (n : List Int) (s : Sz28.St), vs = [.ref a, .int z, .int e, .ref l] ∧ H a = some (.ins Ch dx (heldF v)) ∧ SqL K H l (n.map V.int) ∧ 0 ≤ e ∧ Row n ∧ (n.length : Int) = sizeN z ∧
  Done Ch Ck H a (stp s [[1, z, e], n]).1 (stp s [[1, z, e], n]).2 Q
theorem scRsKey : FnScope ["self", "size", "exponent", "modulus_row"] ["self", "size", "exponent", "modulus_row"] (defScope sRsKey) := ⟨rfl, rfl, rfl, by decide +kernel, rfl, by decide +kernel, by decide +kernel⟩
theorem sizeN_le {z : Int} {n : Nat} (h : (n : Int) = sizeN z) : n ≤ 512 := by
  unfold sizeN at h
  split at h <;> omega
theorem ok_rsKey {f Ch Ck : Addr} {fd : FuncData} (T : THold K Ch) (hD : GInt mg "DONE" 0) (hWI : GInt mg "WRONG_INPUT" (-1)) (hS : Has P w K mg base 1 "is_size" ["size"] spIsSize) (hE : Has P w K mg base 1 "is_exponent" ["exponent"] spIsExp)
    (hN : Has P w K mg base 1 "number_of" ["row"] (spNumber K)) (hO : Has P w K mg base 3 "open_key" ["size", "exponent", "modulus"] (spOpenKey Ck))
    (F : Fun K "rs_key" "Holder.rs_key" sRsKey f fd) : FnOk P w K mg base CX0 4 f fd ["self", "size", "exponent", "modulus_row"] (spRsKey K Ch Ck) := by
  refine F.ok scRsKey (fun vs H Q E h => ?_) (fun cdv A outer s H vs Q E hr h => ?_)
  · obtain ⟨a, dx, l, v, z, e, n, st, rfl, _⟩ := h
    rfl
  · obtain ⟨a, dx, l, v, z, e, n, st, rfl, h0, hSl, he, hR, hlen, q⟩ := h
    refine ⟨_, pss_cons (ps_fld (pv 0) pe_non rfl)
      (pss_cons (ps_if (PW.pt (pw_or (pt_not (pt_val (pe_callH hS hr (by decide) rfl (pa_cons (pv 1) pa_nil)))) (pw_or1 (pt_not (pt_val (pe_callH hE hr (by decide) rfl (pa_cons (pv 2) pa_nil))))))) (pss_one (ps_ret (pe_lst (pa_cons (pe_gint hWI rfl) pa_nil)))) pss_nil)
      (pss_cons (ps_fld (pv 0) (pe_callH hO hr (by decide) rfl (pa_cons (pv 1) (pa_cons (pv 2) (pa_cons (pe_callH hN hr (by decide) rfl (pa_cons (pv 3) pa_nil)) pa_nil)))) rfl)
      (pss_cons (ps_if (pt_cmp (pc_isN (pe_fld (pv 0) rfl))) (pss_one (ps_ret (pe_lst (pa_cons (pe_gint hWI rfl) pa_nil)))) pss_nil)
      (pss_one (ps_ret (pe_lst (pa_cons (pe_gint hD rfl) pa_nil))))))), ?_⟩
    have hq := stp_key st z e n
    have ee : e = ((e.toNat : Nat) : Int) := by omega
    generalize e.toNat = en at hq ee
    subst ee
    have wrong : ∀ H1 : Hp, HoldAt Ch Ck H1 a none → Keep a H H1 → stp st [[1, z, (en : Int)], n] = (none, [-1]) → ∀ p, H1 p = none → Q (.ref p) (upd H1 p (.lst [.int (-1)])) := fun H1 h1 k1 e1 p hp => by
      rw [e1] at q
      have hpa : p ≠ a := by
        obtain ⟨dx1, v1, h2, _⟩ := h1
        exact (ne_of_none h2 hp).symm
      exact q _ p (h1.same (Same.new hp)) (k1.same (Same.new hp)) (k1.free hp hpa) upd_same
    refine ⟨_, rfl, a, Ch, dx, _, rfl, h0, T.cl, T.nH, by show 1 < 1000; decide, ?_⟩
    rw [heldF_put]
    have hA1 : HoldAt Ch Ck (upd H a (.ins Ch dx (heldF .non))) a none := ⟨dx, .non, upd_same, rfl⟩
    refine ⟨_, rfl, z, rfl, _, rfl, iteN (fun hz => iteT ?_) (fun hz => ?_)⟩
    · rw [if_pos (.inl hz)] at hq
      exact ⟨by decide, fun p hp => wrong _ hA1 Keep.updA hq p hp⟩
    obtain ⟨k, rfl, hk⟩ := sized_toNat hz
    rw [Int.toNat_natCast] at hq
    refine ⟨_, rfl, en, rfl, _, rfl, iteB (fun hb => ?_) (fun hb => ?_)⟩
    · rw [if_pos (.inr (.inl (by simpa using hb)))] at hq
      exact ⟨by decide, fun p hp => wrong _ hA1 Keep.updA hq p hp⟩
    have hexp : Sz28.exponent en = true := by simpa using hb
    refine ⟨_, rfl, _, rfl, _, rfl, l, n, rfl, hSl.updI h0, hR, by have := sizeN_le hlen; omega, ?_⟩
    rw [bigI_eq hR]
    refine ⟨k, en, Sz28.big (ob n), rfl, fun hbad => ?_, fun hgood H2 b s2 hb2 hkey => ?_⟩
    · rw [if_pos (hbad.elim (fun y => .inr (.inr (.inl y))) (fun y => .inr (.inr (.inr y))))] at hq
      refine ⟨_, rfl, a, Ch, dx, _, rfl, upd_same, T.cl, T.nH, by show 1 < 1000; decide, ?_⟩
      rw [heldF_put, upd_upd]
      exact ⟨_, rfl, a, Ch, dx, _, _, rfl, upd_same, T.cl, T.nH, heldF_held _, _, rfl, iteD (fun _ => ⟨by decide, fun p hp => wrong _ hA1 Keep.updA hq p hp⟩) (fun y => absurd rfl y)⟩
    · have hno : ¬ (¬ Sz28.sized ((k : Nat) : Int) ∨ Sz28.exponent en = false ∨ Sz28.bitsOf (Sz28.big (ob n)) ≠ 8 * k ∨ Sz28.big (ob n) % 2 = 0) := by
        rintro (y | y | y | y)
        · exact y hz
        · rw [hexp] at y
          cases y
        · exact hgood (.inl y)
        · exact hgood (.inr y)
      rw [if_neg hno] at hq
      have ha2 := s2 a _ (upd_same (H := H) (a := a) (o := .ins Ch dx (heldF .non)))
      refine ⟨_, rfl, a, Ch, dx, _, rfl, ha2, T.cl, T.nH, by show 1 < 1000; decide, ?_⟩
      rw [heldF_put]
      obtain ⟨dk, hkb⟩ := hkey
      have hba : b ≠ a := (ne_of_none (o := .ins Ch dx (heldF .non)) upd_same hb2).symm
      refine ⟨_, rfl, a, Ch, dx, _, _, rfl, upd_same, T.cl, T.nH, heldF_held _, _, rfl, iteD (fun y => (by cases y)) (fun _ => ?_)⟩
      refine ⟨by decide, fun p hp => ?_⟩
      rw [hq] at q
      have hpa : p ≠ a := (ne_of_none (o := .ins Ch dx (heldF (.ref b))) upd_same hp).symm
      have k3 : Keep a H (upd H2 a (.ins Ch dx (heldF (.ref b)))) := (Keep.updA.same s2).then_updA
      refine q _ p (HoldAt.same ⟨dx, .ref b, upd_same, b, rfl, dk, ?_⟩ (Same.new hp)) (k3.same (Same.new hp)) (k3.free hp hpa) upd_same
      rw [upd_ne hba]
      exact hkb
/-! ### rs_make -/
def spRsMake (K : PySem.W.Frag) (Ch Ck : Addr) : Sp := fun vs H Q _ => ∃ (a dx l l2 : Addr) (v : V) (z e : Int) (p q : List Int) (s : Sz28.St), vs = [.ref a, .int z, .int e, .ref l, .ref l2] ∧ H a = some (.ins Ch dx (heldF v)) ∧ SqL K H l (p.map V.int) ∧ SqL K H l2 (q.map V.int) ∧ 0 ≤ e ∧ e < 4294967296 ∧ Row p ∧ Row q ∧ (p.length : Int) = sizeN z / 2 ∧ (q.length : Int) = sizeN z / 2 ∧
  Done Ch Ck H a (stp s [[2, z, e], p, q]).1 (stp s [[2, z, e], p, q]).2 Q
theorem scRsMake : FnScope ["self", "size", "exponent", "first_row", "second_row"] ["self", "size", "exponent", "first_row", "second_row"] (defScope sRsMake) := ⟨rfl, rfl, rfl, by decide +kernel, rfl, by decide +kernel, by decide +kernel⟩
theorem sizeN_half {k : Nat} (hk : Sized k) {n : Nat} (h : (n : Int) = sizeN (k : Int) / 2) : n = k / 2 := by
  unfold sizeN at h
  rcases hk with rfl | rfl | rfl | rfl <;> simp at h <;> omega
theorem ok_rsMake {f Ch Ck : Addr} {fd : FuncData} (T : THold K Ch) (hD : GInt mg "DONE" 0) (hWI : GInt mg "WRONG_INPUT" (-1)) (hNP : GInt mg "NOT_PUT_TOGETHER" (-3)) (hS : Has P w K mg base 1 "is_size" ["size"] spIsSize) (hE : Has P w K mg base 1 "is_exponent" ["exponent"] spIsExp)
    (hN : Has P w K mg base 1 "number_of" ["row"] (spNumber K)) (hO : Has P w K mg base 5 "key_of_primes" ["size", "exponent", "first", "second"] (spOfPrimes Ck))
    (F : Fun K "rs_make" "Holder.rs_make" sRsMake f fd) : FnOk P w K mg base CX0 6 f fd ["self", "size", "exponent", "first_row", "second_row"] (spRsMake K Ch Ck) := by
  refine F.ok scRsMake (fun vs H Q E h => ?_) (fun cdv A outer s H vs Q E hr h => ?_)
  · obtain ⟨a, dx, l, l2, v, z, e, p, q, st, rfl, _⟩ := h
    rfl
  · obtain ⟨a, dx, l, l2, v, z, e, np, nq, st, rfl, h0, hSl, hSl2, he, heb, hR, hR2, hlen, hlen2, q⟩ := h
    refine ⟨_, pss_cons (ps_fld (pv 0) pe_non rfl)
      (pss_cons (ps_if (PW.pt (pw_or (pt_not (pt_val (pe_callH hS hr (by decide) rfl (pa_cons (pv 1) pa_nil)))) (pw_or1 (pt_not (pt_val (pe_callH hE hr (by decide) rfl (pa_cons (pv 2) pa_nil))))))) (pss_one (ps_ret (pe_lst (pa_cons (pe_gint hWI rfl) pa_nil)))) pss_nil)
      (pss_cons (ps_fld (pv 0) (pe_callH hO hr (by decide) rfl (pa_cons (pv 1) (pa_cons (pv 2) (pa_cons (pe_callH hN hr (by decide) rfl (pa_cons (pv 3) pa_nil)) (pa_cons (pe_callH hN hr (by decide) rfl (pa_cons (pv 4) pa_nil)) pa_nil))))) rfl)
      (pss_cons (ps_if (pt_cmp (pc_isN (pe_fld (pv 0) rfl))) (pss_one (ps_ret (pe_lst (pa_cons (pe_gint hNP rfl) pa_nil)))) pss_nil)
      (pss_one (ps_ret (pe_lst (pa_cons (pe_gint hD rfl) pa_nil))))))), ?_⟩
    have hq := stp_make st z e np nq
    have ee : e = ((e.toNat : Nat) : Int) := by omega
    generalize e.toNat = en at hq ee
    subst ee
    have wrong : ∀ (c : Int) (H1 : Hp), HoldAt Ch Ck H1 a none → Keep a H H1 → stp st [[2, z, (en : Int)], np, nq] = (none, [c]) → ∀ p, H1 p = none → Q (.ref p) (upd H1 p (.lst [.int c])) := fun c H1 h1 k1 e1 p hp => by
      rw [e1] at q
      have hpa : p ≠ a := by
        obtain ⟨dx1, v1, h2, _⟩ := h1
        exact (ne_of_none h2 hp).symm
      exact q _ p (h1.same (Same.new hp)) (k1.same (Same.new hp)) (k1.free hp hpa) upd_same
    refine ⟨_, rfl, a, Ch, dx, _, rfl, h0, T.cl, T.nH, by show 1 < 1000; decide, ?_⟩
    rw [heldF_put]
    have hA1 : HoldAt Ch Ck (upd H a (.ins Ch dx (heldF .non))) a none := ⟨dx, .non, upd_same, rfl⟩
    refine ⟨_, rfl, z, rfl, _, rfl, iteN (fun hz => iteT ?_) (fun hz => ?_)⟩
    · rw [if_pos (.inl hz)] at hq
      exact ⟨by decide, fun p hp => wrong (-1) _ hA1 Keep.updA hq p hp⟩
    obtain ⟨k, rfl, hk⟩ := sized_toNat hz
    rw [Int.toNat_natCast] at hq
    refine ⟨_, rfl, en, rfl, _, rfl, iteB (fun hb => ?_) (fun hb => ?_)⟩
    · rw [if_pos (.inr (by simpa using hb))] at hq
      exact ⟨by decide, fun p hp => wrong (-1) _ hA1 Keep.updA hq p hp⟩
    have hexp : Sz28.exponent en = true := by simpa using hb
    have hno : ¬ (¬ Sz28.sized ((k : Nat) : Int) ∨ Sz28.exponent en = false) := by
      rintro (y | y)
      · exact y hz
      · rw [hexp] at y
        cases y
    rw [if_neg hno] at hq
    have lp : np.length = k / 2 := sizeN_half hk hlen
    have lq : nq.length = k / 2 := sizeN_half hk hlen2
    have hk5 := hk.pos
    have bp : Sz28.big (ob np) < 256 ^ (k / 2) := by have := big_lt (ob np); rw [length_octets, lp] at this; exact this
    have bq : Sz28.big (ob nq) < 256 ^ (k / 2) := by have := big_lt (ob nq); rw [length_octets, lq] at this; exact this
    refine ⟨_, rfl, _, rfl, _, rfl, l, np, rfl, hSl.updI h0, hR, by omega, ?_⟩
    refine ⟨_, rfl, l2, nq, rfl, hSl2.updI h0, hR2, by omega, ?_⟩
    rw [bigI_eq hR, bigI_eq hR2]
    refine ⟨k, en, Sz28.big (ob np), Sz28.big (ob nq), rfl, hk, bp, bq, by omega, fun hbad H2 s2 => ?_, fun key hgood H2 b s2 hb2 hkey => ?_⟩
    · rw [hbad] at hq
      have ha2 := s2 a _ (upd_same (H := H) (a := a) (o := .ins Ch dx (heldF .non)))
      refine ⟨_, rfl, a, Ch, dx, _, rfl, ha2, T.cl, T.nH, by show 1 < 1000; decide, ?_⟩
      rw [heldF_put]
      have hA3 : HoldAt Ch Ck (upd H2 a (.ins Ch dx (heldF .non))) a none := ⟨dx, .non, upd_same, rfl⟩
      have k3 : Keep a H (upd H2 a (.ins Ch dx (heldF .non))) := (Keep.updA.same s2).then_updA
      exact ⟨_, rfl, a, Ch, dx, _, _, rfl, upd_same, T.cl, T.nH, heldF_held _, _, rfl, iteD (fun _ => ⟨by decide, fun p hp => wrong (-3) _ hA3 k3 hq p hp⟩) (fun y => absurd rfl y)⟩
    · rw [hgood] at hq
      have ha2 := s2 a _ (upd_same (H := H) (a := a) (o := .ins Ch dx (heldF .non)))
      refine ⟨_, rfl, a, Ch, dx, _, rfl, ha2, T.cl, T.nH, by show 1 < 1000; decide, ?_⟩
      rw [heldF_put]
      obtain ⟨dk, hkb⟩ := hkey
      have hba : b ≠ a := (ne_of_none (o := .ins Ch dx (heldF .non)) upd_same hb2).symm
      refine ⟨_, rfl, a, Ch, dx, _, _, rfl, upd_same, T.cl, T.nH, heldF_held _, _, rfl, iteD (fun y => (by cases y)) (fun _ => ?_)⟩
      refine ⟨by decide, fun p hp => ?_⟩
      rw [hq] at q
      have hpa : p ≠ a := (ne_of_none (o := .ins Ch dx (heldF (.ref b))) upd_same hp).symm
      have k3 : Keep a H (upd H2 a (.ins Ch dx (heldF (.ref b)))) := (Keep.updA.same s2).then_updA
      refine q _ p (HoldAt.same ⟨dx, .ref b, upd_same, b, rfl, dk, ?_⟩ (Same.new hp)) (k3.same (Same.new hp)) (k3.free hp hpa) upd_same
      rw [upd_ne hba]
      exact hkb
end
end Gk

set_option Elab.async false
set_option linter.all false
set_option maxRecDepth 100000
set_option maxHeartbeats 2000000
/-! The program's class Holder: the calls 3 and 4. -/
namespace Gk
open PySem PySem.Spec PyProof.Rows L2
/-- what a call that leaves the key as it is leaves: the answer r in a new list -/
def DoneR (H : Hp) (r : List Int) (Q : VK) : Prop := ∀ H' p, Same H H' → H p = none → H' p = some (.lst (r.map V.int)) → Q (.ref p) H'
theorem DoneR.one {H H1 : Hp} {c : Int} {Q : VK} {p : Addr} (q : DoneR H [c] Q) (s : Same H H1) (hp : H1 p = none) : Q (.ref p) (upd H1 p (.lst [.int c])) :=
  q _ p (s.upd (s.free hp)) (s.free hp) upd_same
section
variable {P : Program} {w : World} {K : PySem.W.Frag} {mg : Str → Option Value} {base : Heap}
/-! ### rs_numbers -/
def spRsNumbers (Ch Ck : Addr) : Sp := fun vs H Q _ => ∃ (a dx : Addr) (v : V) (s : Sz28.St), vs = [.ref a] ∧ H a = some (.ins Ch dx (heldF v)) ∧ HoldV Ck H v s ∧ StOk s ∧ DoneR H (stp s [[3]]).2 Q
theorem scRsNumbers : FnScope ["self", "size"] ["self"] (defScope sRsNumbers) := ⟨rfl, rfl, rfl, by decide +kernel, rfl, by decide +kernel, by decide +kernel⟩
theorem bytesV_len (l : Sz28.Bytes) : (bytesV l).length = l.length := by
  unfold bytesV
  rw [List.length_map, ints_length]
theorem ok_rsNumbers {f Ch Ck : Addr} {fd : FuncData} (T : THold K Ch) (TK : TKey K Ck) (hNK : GInt mg "NO_KEY" (-2)) (hRow : Has P w K mg base 1 "row_of" ["number", "size"] spRow)
    (F : Fun K "rs_numbers" "Holder.rs_numbers" sRsNumbers f fd) : FnOk P w K mg base CX0 2 f fd ["self"] (spRsNumbers Ch Ck) := by
  refine F.ok scRsNumbers (fun vs H Q E h => ?_) (fun cdv A outer s H vs Q E hr h => ?_)
  · obtain ⟨a, dx, v, st, rfl, _⟩ := h
    rfl
  · obtain ⟨a, dx, v, st, rfl, h0, hv, hok, q⟩ := h
    refine ⟨_, pss_cons (ps_if (pt_cmp (pc_isN (pe_fld (pv 0) rfl))) (pss_one (ps_ret (pe_lst (pa_cons (pe_gint hNK rfl) pa_nil)))) pss_nil)
      (pss_cons (ps_set (i := 1) scRsNumbers.nd rfl (Or.inl rfl) (pe_fld (pe_fld (pv 0) rfl) rfl))
      (pss_one (ps_ret (pe_op op_cat (pe_op op_cat (pe_lst (pa_cons (pv 1) pa_nil)) (pe_callH hRow hr (by decide) rfl (pa_cons (pe_fld (pe_fld (pv 0) rfl) rfl) (pa_cons (pv 1) pa_nil)))) (pe_callH hRow hr (by decide) rfl (pa_cons (pe_fld (pe_fld (pv 0) rfl) rfl) (pa_cons (pv 1) pa_nil))))))), ?_⟩
    rw [stp_numbers] at q
    cases st with
    | none =>
      obtain rfl : v = .non := hv
      exact ⟨_, rfl, a, Ch, dx, _, _, rfl, h0, T.cl, T.nH, heldF_held _, _, rfl, iteD (fun _ => ⟨by decide, fun p hp => q.one (Same.refl H) hp⟩) (fun y => absurd rfl y)⟩
    | some k =>
      obtain ⟨b, rfl, dk, hk⟩ := hv
      have hsz := hok.size.pos
      refine ⟨_, rfl, a, Ch, dx, _, _, rfl, h0, T.cl, T.nH, heldF_held _, _, rfl, iteD (fun y => (by cases y)) (fun _ => ?_)⟩
      refine ⟨_, rfl, a, Ch, dx, _, _, rfl, h0, T.cl, T.nH, heldF_held _, b, Ck, dk, _, _, rfl, hk, TK.cl, TK.nS, keyF_size k, ?_⟩
      refine ⟨_, rfl, by show 1 ≤ sizeLine; decide, fun l1 hl1 => ?_⟩
      have s1 : Same H (upd H l1 (.lst [.int k.size])) := Same.new hl1
      refine ⟨_, rfl, a, Ch, dx, _, _, rfl, s1 _ _ h0, T.cl, T.nH, heldF_held _, b, Ck, dk, _, _, rfl, s1 _ _ hk, TK.cl, TK.nM, keyF_mod k, _, rfl, k.n, k.size, rfl, by omega, fun l2 hl2 => ?_⟩
      have n21 : l1 ≠ l2 := ne_of_none (o := .lst [.int k.size]) upd_same hl2
      refine ⟨l1, l2, [V.int k.size], _, rfl, rfl, ?_, upd_same, ?_, fun l3 hl3 => ?_⟩
      · rw [upd_ne n21]
        exact upd_same
      · rw [bytesV_len, length_bytesOf, sizeLine_eq]
        show 1 + k.size ≤ _
        omega
      generalize hH2 : upd (upd H l1 (.lst [.int k.size])) l2 (.lst (bytesV (Sz28.bytesOf k.size k.n))) = H2 at hl3 ⊢
      have s2 : Same H H2 := by rw [← hH2]; exact s1.upd (s1.free hl2)
      have s3 : Same H (upd H2 l3 (.lst ([V.int k.size] ++ bytesV (Sz28.bytesOf k.size k.n)))) := s2.upd (s2.free hl3)
      refine ⟨_, rfl, a, Ch, dx, _, _, rfl, s3 _ _ h0, T.cl, T.nH, heldF_held _, b, Ck, dk, _, _, rfl, s3 _ _ hk, TK.cl, TK.nD, keyF_sec k, _, rfl, k.d, k.size, rfl, by omega, fun l4 hl4 => ?_⟩
      have n34 : l3 ≠ l4 := ne_of_none (o := .lst ([V.int k.size] ++ bytesV (Sz28.bytesOf k.size k.n))) upd_same hl4
      refine ⟨l3, l4, [V.int k.size] ++ bytesV (Sz28.bytesOf k.size k.n), _, rfl, rfl, ?_, upd_same, ?_, fun l5 hl5 => ?_⟩
      · rw [upd_ne n34]
        exact upd_same
      · rw [List.length_append, bytesV_len, bytesV_len, length_bytesOf, length_bytesOf, sizeLine_eq]
        show 1 + k.size + k.size ≤ _
        omega
      generalize hH4 : upd (upd H2 l3 (.lst ([V.int k.size] ++ bytesV (Sz28.bytesOf k.size k.n)))) l4 (.lst (bytesV (Sz28.bytesOf k.size k.d))) = H4 at hl5 ⊢
      have s4 : Same H H4 := by rw [← hH4]; exact s3.upd (s3.free hl4)
      refine q _ l5 (s4.upd (s4.free hl5)) (s4.free hl5) ?_
      rw [upd_same]
      show _ = some (HO.lst (((k.size : Int) :: (toInts (Sz28.bytesOf k.size k.n) ++ toInts (Sz28.bytesOf k.size k.d))).map V.int))
      rw [List.map_cons, List.map_append]
      rfl
/-! ### rs_prime -/
def spRsPrime (K : PySem.W.Frag) : Sp := fun vs H Q _ => ∃ (a l : Addr) (z r : Int) (n : List Int) (s : Sz28.St), vs = [.ref a, .int z, .int r, .ref l] ∧ SqL K H l (n.map V.int) ∧ Row n ∧ (n.length : Int) = sizeN z ∧ DoneR H (stp s [[4, z, r], n]).2 Q
theorem scRsPrime : FnScope ["self", "size", "rounds", "row"] ["self", "size", "rounds", "row"] (defScope sRsPrime) := ⟨rfl, rfl, rfl, by decide +kernel, rfl, by decide +kernel, by decide +kernel⟩
theorem ok_rsPrime {f : Addr} {fd : FuncData} (hWI : GInt mg "WRONG_INPUT" (-1)) (hMR : GInt mg "MOST_ROUNDS" 40) (hS : Has P w K mg base 1 "is_size" ["size"] spIsSize) (hN : Has P w K mg base 1 "number_of" ["row"] (spNumber K))
    (hT : Has P w K mg base 4 "taken_for_prime" ["number", "rounds"] spTaken) (F : Fun K "rs_prime" "Holder.rs_prime" sRsPrime f fd) : FnOk P w K mg base CX0 5 f fd ["self", "size", "rounds", "row"] (spRsPrime K) := by
  refine F.ok scRsPrime (fun vs H Q E h => ?_) (fun cdv A outer s H vs Q E hr h => ?_)
  · obtain ⟨a, l, z, r, n, st, rfl, _⟩ := h
    rfl
  · obtain ⟨a, l, z, r, n, st, rfl, hSl, hR, hlen, q⟩ := h
    refine ⟨_, pss_cons (ps_if (PW.pt (pw_or (pt_not (pt_val (pe_callH hS hr (by decide) rfl (pa_cons (pv 1) pa_nil)))) (pw_or (pt_cmp (pc_lt (pv 2) pe_int)) (pw_or1 (pt_cmp (pc_gt (pv 2) (pe_gint hMR rfl))))))) (pss_one (ps_ret (pe_lst (pa_cons (pe_gint hWI rfl) pa_nil)))) pss_nil)
      (pss_cons (ps_if (pt_val (pe_callH hT hr (by decide) rfl (pa_cons (pe_callH hN hr (by decide) rfl (pa_cons (pv 3) pa_nil)) (pa_cons (pv 2) pa_nil)))) (pss_one (ps_ret (pe_lst (pa_cons pe_int pa_nil)))) pss_nil)
      (pss_one (ps_ret (pe_lst (pa_cons pe_int pa_nil))))), ?_⟩
    rw [stp_prime] at q
    refine ⟨_, rfl, z, rfl, _, rfl, iteN (fun hz => iteT ?_) (fun hz => ?_)⟩
    · rw [if_pos (.inl hz)] at q
      exact ⟨by decide, fun p hp => q.one (Same.refl H) hp⟩
    refine ⟨_, rfl, _, _, rfl, rfl, _, rfl, iteD (fun h1 => iteT ?_) (fun h1 => ?_)⟩
    · rw [if_pos (.inr (.inl h1))] at q
      exact ⟨by decide, fun p hp => q.one (Same.refl H) hp⟩
    refine ⟨_, rfl, _, _, rfl, rfl, _, rfl, iteD (fun h2 => ?_) (fun h2 => ?_)⟩
    · rw [if_pos (.inr (.inr h2))] at q
      exact ⟨by decide, fun p hp => q.one (Same.refl H) hp⟩
    rw [if_neg (fun y => y.elim (fun y => y hz) (fun y => y.elim h1 h2))] at q
    have hl5 := sizeN_le hlen
    have er : r = ((r.toNat : Nat) : Int) := by omega
    generalize hrn : r.toNat = rn at q er
    subst er
    refine ⟨_, rfl, l, n, rfl, hSl, hR, by omega, ?_⟩
    rw [bigI_eq hR]
    refine ⟨_, rfl, Sz28.big (ob n), rn, rfl, ?_, by omega, fun H1 s1 => ⟨_, rfl, ?_⟩⟩
    · have h3 := big_lt (ob n)
      rw [length_octets] at h3
      refine Nat.lt_of_lt_of_le h3 ?_
      have e : (256 : Nat) = 2 ^ 8 := rfl
      rw [e, ← Nat.pow_mul]
      exact Nat.pow_le_pow_right (by decide) (by omega)
    · cases hp : Sz28.prime (Sz28.big (ob n)) rn with
      | true =>
        rw [hp] at q
        exact iteT ⟨by decide, fun p hp => q.one s1 hp⟩
      | false =>
        rw [hp] at q
        exact iteF ⟨by decide, fun p hp => q.one s1 hp⟩
end
end Gk

set_option Elab.async false
set_option linter.all false
set_option maxRecDepth 100000
set_option maxHeartbeats 2000000
/-! The desk: a list of calls is read, one behind another. -/
namespace Gk
open PySem PySem.Spec PyProof.Rows L2
abbrev sAnsKey : Stmt := top 84
abbrev sAnsMake : Stmt := top 85
abbrev sAnsPrime : Stmt := top 86
abbrev sAnswers : Stmt := top 92
/-- the addresses of the classes -/
structure Ads where
  Ch : Addr
  Ck : Addr
  Cr : Addr
theorem ne_rh {H : Hp} {r a Cr Ch dr dx l : Addr} {n : Nat} {v : V} (h1 : H r = some (.ins Cr dr (readF l n))) (h2 : H a = some (.ins Ch dx (heldF v))) : r ≠ a := ne_of h1 h2 (by
  intro z
  injection z with _ _ z
  unfold readF heldF at z
  injection z with _ z
  cases z)
theorem ne_rk {H : Hp} {r b Cr Ck dr dk l : Addr} {n : Nat} {k : Sz28.Key} (h1 : H r = some (.ins Cr dr (readF l n))) (h2 : H b = some (.ins Ck dk (keyF k))) : b ≠ r := ne_of h2 h1 (by
  intro z
  injection z with _ _ z
  unfold readF keyF at z
  injection z with _ z
  injection z with _ z
  cases z)
theorem HoldAt.keepR {Ch Ck Cr a r dr l : Addr} {H H' : Hp} {st : Sz28.St} {n : Nat} (h : HoldAt Ch Ck H a st) (k : Keep r H H') (hr : H r = some (.ins Cr dr (readF l n))) : HoldAt Ch Ck H' a st := by
  obtain ⟨dx, v, e, hv⟩ := h
  refine ⟨dx, v, k _ _ e (ne_rh hr e).symm, ?_⟩
  cases st with
  | none => exact hv
  | some key =>
    obtain ⟨b, e2, dk, hk⟩ := hv
    exact ⟨b, e2, dk, k _ _ hk (ne_rk hr hk)⟩
theorem _root_.L2.SqL.keepI {K : PySem.W.Frag} {H H' : Hp} {l r C d : Addr} {xs : List V} {fs : List (Str × V)} (h : SqL K H l xs) (k : Keep r H H') (hr : H r = some (.ins C d fs)) : SqL K H' l xs := by
  rcases h with (h | ⟨u, h⟩) | h
  · exact .inl (.inl (k _ _ h (ne_of h hr (by intro z; cases z))))
  · exact .inl (.inr ⟨u, k _ _ h (ne_of h hr (by intro z; cases z))⟩)
  · exact .inr h
/-- the desk's state: the holder at a, the reader at r over the list at l -/
structure Desk (K : PySem.W.Frag) (D : Ads) (H : Hp) (a r l : Addr) (ns : List Int) (st : Sz28.St) (n : Nat) : Prop where
  hold : HoldAt D.Ch D.Ck H a st
  read : ∃ dr, H r = some (.ins D.Cr dr (readF l n))
  list : SqL K H l (ns.map V.int)
  ok : StOk st
  len : ns.length ≤ 30000
def Keep2 (a r : Addr) (H H' : Hp) : Prop := ∀ b o, H b = some o → b ≠ a → b ≠ r → H' b = some o
/-- what is left behind the call c -/
def Fin (K : PySem.W.Frag) (D : Ads) (H : Hp) (a r l : Addr) (ns : List Int) (st : Sz28.St) (c : List (List Int)) (rest : List Int) (Q : VK) : Prop :=
  ∀ H' p n', Desk K D H' a r l ns (stp st c).1 n' → ns.drop n' = rest → Keep2 a r H H' → H p = none → H' p = some (.lst ((stp st c).2.map V.int)) → Q (.ref p) H'
/-- the reader has moved on, nothing else has changed -/
structure Moved (K : PySem.W.Frag) (D : Ads) (H Hk : Hp) (a r dr l : Addr) (ns : List Int) (st : Sz28.St) (n : Nat) : Prop where
  hold : HoldAt D.Ch D.Ck Hk a st
  read : Hk r = some (.ins D.Cr dr (readF l n))
  list : SqL K Hk l (ns.map V.int)
  keep : Keep r H Hk
  len : ns.length ≤ 30000
section
variable {K : PySem.W.Frag} {D : Ads} {H Hk : Hp} {a r dr l : Addr} {ns : List Int} {st : Sz28.St} {n : Nat}
theorem Desk.moved (d : Desk K D H a r l ns st n) : ∃ dr, Moved K D H H a r dr l ns st n := by
  obtain ⟨h1, ⟨dr, h2⟩, h3, _, h5⟩ := d
  exact ⟨dr, h1, h2, h3, fun b o e _ => e, h5⟩
theorem Moved.next (m : Moved K D H Hk a r dr l ns st n) (n' : Nat) : Moved K D H (upd Hk r (.ins D.Cr dr (readF l n'))) a r dr l ns st n' :=
  ⟨m.hold.keepR Keep.updA m.read, upd_same, m.list.updI m.read, m.keep.then_updA, m.len⟩
theorem Moved.new (m : Moved K D H Hk a r dr l ns st n) {p : Addr} {o : HO} (hp : Hk p = none) : Moved K D H (upd Hk p o) a r dr l ns st n :=
  ⟨m.hold.same (Same.new hp), Same.new hp _ _ m.read, (Same.new hp).seq m.list, m.keep.same (Same.new hp), m.len⟩
theorem Moved.row (m : Moved K D H Hk a r dr l ns st n) {p : Addr} {o : HO} (hp : Hk p = none) (n' : Nat) : Moved K D H (upd (upd Hk r (.ins D.Cr dr (readF l n'))) p o) a r dr l ns st n' :=
  (m.next n').new (by rw [upd_ne (ne_of_none m.read hp).symm]; exact hp)
theorem Moved.free (m : Moved K D H Hk a r dr l ns st n) {p : Addr} (hp : Hk p = none) : H p = none := m.keep.free hp (ne_of_none m.read hp).symm
/-- the call is done, and has changed the holder -/
theorem Moved.done {c : List (List Int)} {rest : List Int} {Q : VK} (m : Moved K D H Hk a r dr l ns st n) (hok : StOk st) (kd : Kind c) (q : Fin K D H a r l ns st c rest Q) (hd : ns.drop n = rest) : Done D.Ch D.Ck Hk a (stp st c).1 (stp st c).2 Q := by
  intro H' p h1 h2 h3 h4
  obtain ⟨dx, v, ha, _⟩ := m.hold
  have hra : r ≠ a := ne_rh m.read ha
  refine q H' p n ⟨h1, ⟨dr, h2 _ _ m.read hra⟩, m.list.keepI h2 ha, stp_ok hok kd, m.len⟩ hd (fun b o e n1 n2 => h2 b o (m.keep b o e n2) n1) (m.free h3) h4
/-- the call is done, and has left the holder as it was -/
theorem Moved.doneR {c : List (List Int)} {rest : List Int} {Q : VK} (m : Moved K D H Hk a r dr l ns st n) (hok : StOk st) (hs : (stp st c).1 = st) (q : Fin K D H a r l ns st c rest Q) (hd : ns.drop n = rest) : DoneR Hk (stp st c).2 Q := by
  intro H' p h1 h2 h3
  refine q H' p n ⟨?_, ⟨dr, h1 _ _ m.read⟩, h1.seq m.list, ?_, m.len⟩ hd (fun b o e n1 n2 => h1 b o (m.keep b o e n2)) (m.free h2) h3
  · rw [hs]
    exact m.hold.same h1
  · rw [hs]
    exact hok
end
/-- what an answering def promises of the calls of the number p, which the reader has behind it -/
def spAns (K : PySem.W.Frag) (D : Ads) (p : Int) : Sp := fun vs H Q _ => ∃ (a r l : Addr) (ns : List Int) (st : Sz28.St) (n : Nat) (nums : List Int) (rows : List (List Int)) (rest : List Int), vs = [.ref a, .ref r] ∧ Desk K D H a r l ns st n ∧ Kind ((p :: nums) :: rows) ∧
  ns.drop n = nums ++ (PyFlat.putRows rows ++ rest) ∧ Fin K D H a r l ns st ((p :: nums) :: rows) rest Q
structure Cls3 (K : PySem.W.Frag) (D : Ads) : Prop where
  h : THold K D.Ch
  k : TKey K D.Ck
  r : TRead K D.Cr
section
variable {P : Program} {w : World} {K : PySem.W.Frag} {mg : Str → Option Value} {base : Heap}
theorem scAnsKey : FnScope ["holder", "reader", "size", "exponent"] ["holder", "reader"] (defScope sAnsKey) := ⟨rfl, rfl, rfl, by decide +kernel, rfl, by decide +kernel, by decide +kernel⟩
theorem ok_ansKey {f : Addr} {fd : FuncData} {D : Ads} (T : Cls3 K D) (hN : HasM P w K mg base 1 D.Cr "take_number" ["self"] (spTakeN K D.Cr)) (hR : HasM P w K mg base 2 D.Cr "take_row" ["self"] (spTakeR K D.Cr))
    (hK : HasM P w K mg base 4 D.Ch "rs_key" ["self", "size", "exponent", "modulus_row"] (spRsKey K D.Ch D.Ck)) (F : Fun K "answer_key" "answer_key" sAnsKey f fd) : FnOk P w K mg base CX0 5 f fd ["holder", "reader"] (spAns K D 1) := by
  refine F.ok scAnsKey (fun vs H Q E h => ?_) (fun cdv A outer s H vs Q E hr h => ?_)
  · obtain ⟨a, r, l, ns, st, n, nums, rows, rest, rfl, _⟩ := h
    rfl
  · obtain ⟨a, r, l, ns, st, n, nums, rows, rest, rfl, d, kd, hd, q⟩ := h
    refine ⟨_, pss_cons (ps_set (i := 2) scAnsKey.nd rfl (Or.inl rfl) (pe_methH0 (pv 1) T.r.cl hN hr (by decide)))
      (pss_cons (ps_set (i := 3) scAnsKey.nd rfl (Or.inl rfl) (pe_methH0 (pv 1) T.r.cl hN hr (by decide)))
      (pss_one (ps_ret (pe_methH (pv 0) T.h.cl hK hr (by decide) (pa_cons (pv 2) (pa_cons (pv 3) (pa_cons (pe_methH0 (pv 1) T.r.cl hR hr (by decide)) pa_nil))))))), ?_⟩
    have kd0 := kd
    cases kd with
    | key z e x hz he hx hl =>
      obtain ⟨dr, m0⟩ := d.moved
      have hd1 := drop_cons (show ns.drop n = z :: (e :: (PyFlat.putRow x ++ ([] : List Int)) ++ rest) from hd)
      have hd2 := drop_cons (show ns.drop (n + 1) = e :: (PyFlat.putRow x ++ ([] ++ rest)) by rw [hd1.2, List.cons_append, List.append_assoc])
      obtain ⟨g1, g2, g3, g4⟩ := drop_row hd2.2
      refine ⟨_, rfl, r, dr, _, rfl, m0.read, readF_no l n (by decide +kernel) (by decide +kernel), r, dr, l, n, ns, z, rfl, m0.read, m0.list, hd1.1, ?_⟩
      have m1 := m0.next (n + 1)
      refine ⟨_, rfl, r, dr, _, rfl, m1.read, readF_no l _ (by decide +kernel) (by decide +kernel), r, dr, l, n + 1, ns, e, rfl, m1.read, m1.list, hd2.1, ?_⟩
      have m2 := m1.next (n + 1 + 1)
      obtain ⟨dx, v, ha, _⟩ := id m2.hold
      refine ⟨_, rfl, a, dx, _, rfl, ha, heldF_no _ (by decide +kernel), _, rfl, _, rfl, _, rfl, r, dr, _, rfl, m2.read, readF_no l _ (by decide +kernel) (by decide +kernel), r, dr, l, n + 1 + 1, ns, x, rfl, m2.read, m2.list, g1, g4, g2, fun p hp => ?_⟩
      have m3 := m2.row (o := .lst (x.map V.int)) hp (n + 1 + 1 + 1 + x.length)
      obtain ⟨dx, v, ha, _⟩ := id m3.hold
      exact ⟨a, dx, p, v, z, e, x, st, rfl, ha, SqL.of upd_same, he.1, hx, hl, m3.done d.ok kd0 q g3⟩
theorem scAnsMake : FnScope ["holder", "reader", "size", "exponent", "first_row"] ["holder", "reader"] (defScope sAnsMake) := ⟨rfl, rfl, rfl, by decide +kernel, rfl, by decide +kernel, by decide +kernel⟩
theorem ok_ansMake {f : Addr} {fd : FuncData} {D : Ads} (T : Cls3 K D) (hN : HasM P w K mg base 1 D.Cr "take_number" ["self"] (spTakeN K D.Cr)) (hR : HasM P w K mg base 2 D.Cr "take_row" ["self"] (spTakeR K D.Cr))
    (hK : HasM P w K mg base 6 D.Ch "rs_make" ["self", "size", "exponent", "first_row", "second_row"] (spRsMake K D.Ch D.Ck)) (F : Fun K "answer_make" "answer_make" sAnsMake f fd) : FnOk P w K mg base CX0 7 f fd ["holder", "reader"] (spAns K D 2) := by
  refine F.ok scAnsMake (fun vs H Q E h => ?_) (fun cdv A outer s H vs Q E hr h => ?_)
  · obtain ⟨a, r, l, ns, st, n, nums, rows, rest, rfl, _⟩ := h
    rfl
  · obtain ⟨a, r, l, ns, st, n, nums, rows, rest, rfl, d, kd, hd, q⟩ := h
    refine ⟨_, pss_cons (ps_set (i := 2) scAnsMake.nd rfl (Or.inl rfl) (pe_methH0 (pv 1) T.r.cl hN hr (by decide)))
      (pss_cons (ps_set (i := 3) scAnsMake.nd rfl (Or.inl rfl) (pe_methH0 (pv 1) T.r.cl hN hr (by decide)))
      (pss_cons (ps_set (i := 4) scAnsMake.nd rfl (Or.inl rfl) (pe_methH0 (pv 1) T.r.cl hR hr (by decide)))
      (pss_one (ps_ret (pe_methH (pv 0) T.h.cl hK hr (by decide) (pa_cons (pv 2) (pa_cons (pv 3) (pa_cons (pv 4) (pa_cons (pe_methH0 (pv 1) T.r.cl hR hr (by decide)) pa_nil))))))))), ?_⟩
    have kd0 := kd
    cases kd with
    | make z e x y hz he hx hy hl hl2 =>
      obtain ⟨dr, m0⟩ := d.moved
      have hd1 := drop_cons (show ns.drop n = z :: (e :: (PyFlat.putRow x ++ (PyFlat.putRow y ++ ([] : List Int))) ++ rest) from hd)
      have hd2 := drop_cons (show ns.drop (n + 1) = e :: (PyFlat.putRow x ++ (PyFlat.putRow y ++ ([] ++ rest))) by rw [hd1.2, List.cons_append, List.append_assoc, List.append_assoc])
      obtain ⟨g1, g2, g3, g4⟩ := drop_row hd2.2
      obtain ⟨i1, i2, i3, i4⟩ := drop_row g3
      refine ⟨_, rfl, r, dr, _, rfl, m0.read, readF_no l n (by decide +kernel) (by decide +kernel), r, dr, l, n, ns, z, rfl, m0.read, m0.list, hd1.1, ?_⟩
      have m1 := m0.next (n + 1)
      refine ⟨_, rfl, r, dr, _, rfl, m1.read, readF_no l _ (by decide +kernel) (by decide +kernel), r, dr, l, n + 1, ns, e, rfl, m1.read, m1.list, hd2.1, ?_⟩
      have m2 := m1.next (n + 1 + 1)
      refine ⟨_, rfl, r, dr, _, rfl, m2.read, readF_no l _ (by decide +kernel) (by decide +kernel), r, dr, l, n + 1 + 1, ns, x, rfl, m2.read, m2.list, g1, g4, g2, fun p hp => ?_⟩
      have m3 := m2.row (o := .lst (x.map V.int)) hp (n + 1 + 1 + 1 + x.length)
      obtain ⟨dx, v, ha, _⟩ := id m3.hold
      refine ⟨_, rfl, a, dx, _, rfl, ha, heldF_no _ (by decide +kernel), _, rfl, _, rfl, _, rfl, _, rfl, r, dr, _, rfl, m3.read, readF_no l _ (by decide +kernel) (by decide +kernel), r, dr, l, _, ns, y, rfl, m3.read, m3.list, i1, i4, i2, fun p2 hp2 => ?_⟩
      have hpr : p ≠ r := (ne_of_none m2.read hp).symm
      have m4 := m3.row (o := .lst (y.map V.int)) hp2 (n + 1 + 1 + 1 + x.length + 1 + y.length)
      obtain ⟨dx, v, ha, _⟩ := id m4.hold
      have hpp : p ≠ p2 := ne_of_none (o := .lst (x.map V.int)) upd_same hp2
      exact ⟨a, dx, p, p2, v, z, e, x, y, st, rfl, ha, SqL.of (by rw [upd_ne hpp, upd_ne hpr]; exact upd_same), SqL.of upd_same, he.1, he.2, hx, hy, hl, hl2, m4.done d.ok kd0 q i3⟩
theorem scAnsPrime : FnScope ["holder", "reader", "size", "rounds"] ["holder", "reader"] (defScope sAnsPrime) := ⟨rfl, rfl, rfl, by decide +kernel, rfl, by decide +kernel, by decide +kernel⟩
theorem ok_ansPrime {f : Addr} {fd : FuncData} {D : Ads} (T : Cls3 K D) (hN : HasM P w K mg base 1 D.Cr "take_number" ["self"] (spTakeN K D.Cr)) (hR : HasM P w K mg base 2 D.Cr "take_row" ["self"] (spTakeR K D.Cr))
    (hK : HasM P w K mg base 5 D.Ch "rs_prime" ["self", "size", "rounds", "row"] (spRsPrime K)) (F : Fun K "answer_prime" "answer_prime" sAnsPrime f fd) : FnOk P w K mg base CX0 6 f fd ["holder", "reader"] (spAns K D 4) := by
  refine F.ok scAnsPrime (fun vs H Q E h => ?_) (fun cdv A outer s H vs Q E hr h => ?_)
  · obtain ⟨a, r, l, ns, st, n, nums, rows, rest, rfl, _⟩ := h
    rfl
  · obtain ⟨a, r, l, ns, st, n, nums, rows, rest, rfl, d, kd, hd, q⟩ := h
    refine ⟨_, pss_cons (ps_set (i := 2) scAnsPrime.nd rfl (Or.inl rfl) (pe_methH0 (pv 1) T.r.cl hN hr (by decide)))
      (pss_cons (ps_set (i := 3) scAnsPrime.nd rfl (Or.inl rfl) (pe_methH0 (pv 1) T.r.cl hN hr (by decide)))
      (pss_one (ps_ret (pe_methH (pv 0) T.h.cl hK hr (by decide) (pa_cons (pv 2) (pa_cons (pv 3) (pa_cons (pe_methH0 (pv 1) T.r.cl hR hr (by decide)) pa_nil))))))), ?_⟩
    cases kd with
    | prime z e x hz he hx hl =>
      obtain ⟨dr, m0⟩ := d.moved
      have hd1 := drop_cons (show ns.drop n = z :: (e :: (PyFlat.putRow x ++ ([] : List Int)) ++ rest) from hd)
      have hd2 := drop_cons (show ns.drop (n + 1) = e :: (PyFlat.putRow x ++ ([] ++ rest)) by rw [hd1.2, List.cons_append, List.append_assoc])
      obtain ⟨g1, g2, g3, g4⟩ := drop_row hd2.2
      refine ⟨_, rfl, r, dr, _, rfl, m0.read, readF_no l n (by decide +kernel) (by decide +kernel), r, dr, l, n, ns, z, rfl, m0.read, m0.list, hd1.1, ?_⟩
      have m1 := m0.next (n + 1)
      refine ⟨_, rfl, r, dr, _, rfl, m1.read, readF_no l _ (by decide +kernel) (by decide +kernel), r, dr, l, n + 1, ns, e, rfl, m1.read, m1.list, hd2.1, ?_⟩
      have m2 := m1.next (n + 1 + 1)
      obtain ⟨dx, v, ha, _⟩ := id m2.hold
      refine ⟨_, rfl, a, dx, _, rfl, ha, heldF_no _ (by decide +kernel), _, rfl, _, rfl, _, rfl, r, dr, _, rfl, m2.read, readF_no l _ (by decide +kernel) (by decide +kernel), r, dr, l, n + 1 + 1, ns, x, rfl, m2.read, m2.list, g1, g4, g2, fun p hp => ?_⟩
      have m3 := m2.row (o := .lst (x.map V.int)) hp (n + 1 + 1 + 1 + x.length)
      exact ⟨a, p, z, e, x, st, rfl, SqL.of upd_same, hx, hl, m3.doneR d.ok (by rw [stp_prime]) q g3⟩
/-! ### answers -/
def spCall (K : PySem.W.Frag) (D : Ads) : Sp := fun vs H Q _ => ∃ (a r l : Addr) (ns : List Int) (st : Sz28.St) (n : Nat) (c : List (List Int)) (rest : List Int), vs = [.ref a, .ref r] ∧ Desk K D H a r l ns st n ∧ Kind c ∧ ns.drop n = PyFlat.put1 c ++ rest ∧ Fin K D H a r l ns st c rest Q
def spAnswers (K : PySem.W.Frag) : Sp := fun vs H Q _ => ∃ (l : Addr) (ns : List Int), vs = [.ref l] ∧ SqL K H l (ns.map V.int) ∧ ns.length ≤ 30000 ∧ PySz28.answers_asked ns = true ∧ ∀ H' p, H' p = some (.lst ((PySz28.answers ns).map V.int)) → Q (.ref p) H'
theorem scAnswers : FnScope ["calls", "holder", "reader", "given", "answer"] ["calls"] (defScope sAnswers) := ⟨rfl, rfl, rfl, by decide +kernel, rfl, by decide +kernel, by decide +kernel⟩
theorem ok_answers {f : Addr} {fd : FuncData} {D : Ads} (hln : mg "len" = none) (T : Cls3 K D) (hCh : HasC P w K mg base 1 "Holder" D.Ch ["self"] (spHoldInit D.Ch)) (hCr : HasC P w K mg base 1 "Reader" D.Cr ["self", "numbers"] (spRdInit D.Cr))
    (hE : HasM P w K mg base 1 D.Cr "at_end" ["self"] (spAtEnd K D.Cr)) (hC : Has P w K mg base 18 "answer_call" ["holder", "reader"] (spCall K D)) (F : Fun K "answers" "answers" sAnswers f fd) : FnOk P w K mg base CX0 20 f fd ["calls"] (spAnswers K) := by
  refine F.ok scAnswers (fun vs H Q E h => ?_) (fun cdv A outer s H vs Q E hr h => ?_)
  · obtain ⟨l, ns, rfl, _⟩ := h
    rfl
  · obtain ⟨l, ns, rfl, hS, hl30, hask, q⟩ := h
    obtain ⟨cs, hput, hcs, hkind, hans⟩ := asked_split hask
    refine ⟨_, pss_cons (ps_set (i := 1) scAnswers.nd rfl (Or.inl rfl) (pe_makeH0 hCh hr (by decide) rfl))
      (pss_cons (ps_set (i := 2) scAnswers.nd rfl (Or.inl rfl) (pe_makeH hCr hr (by decide) rfl (pa_cons (pv 0) pa_nil)))
      (pss_cons (ps_set (i := 3) scAnswers.nd rfl (Or.inl rfl) (pe_lst pa_nil))
      (pss_cons (ps_while PassesOwn.never (pt_not (pt_val (pe_methH0 (pv 2) T.r.cl hE hr (by decide))))
        (pss_cons (ps_set (i := 4) scAnswers.nd rfl (Or.inl rfl) (pe_callH hC hr (by decide) rfl (pa_cons (pv 1) (pa_cons (pv 2) pa_nil))))
        (pss_cons (ps_expr (pe_bm PySem.F.plainAttrs_list PySem.F.slot_list_append PySem.F.type_list_append mt_append (pv 3) (pa_cons (pe_callB call_len_seq (by rfl) hln PySem.boot_len (pa_cons (pv 4) pa_nil)) pa_nil)))
        (pss_one (ps_expr (pe_bm PySem.F.plainAttrs_list PySem.F.slot_list_extend PySem.F.type_list_extend mt_extend (pv 3) (pa_cons (pv 4) pa_nil)))))))
      (pss_one (ps_ret (pv 3)))))), ?_⟩
    intro a da na nda nea
    refine ⟨a, da, rfl, upd_same, rfl, ?_⟩
    generalize hH1 : upd (upd (upd H da (.own a)) a (.ins D.Ch da [])) a (.ins D.Ch da (heldF .non)) = H1
    have s1 : Same H H1 := by
      rw [← hH1]
      exact fun b o e => by rw [upd_ne (ne_of_none e na), upd_ne (ne_of_none e na), upd_ne (ne_of_none e nda)]; exact e
    have hA1 : H1 a = some (.ins D.Ch da (heldF .non)) := by rw [← hH1]; exact upd_same
    refine ⟨_, rfl, fun r dr nr ndr ner => ?_⟩
    refine ⟨r, dr, l, rfl, upd_same, rfl, ?_⟩
    generalize hH2 : upd (upd (upd H1 dr (.own r)) r (.ins D.Cr dr [])) r (.ins D.Cr dr (readF l 0)) = H2
    have s2 : Same H1 H2 := by
      rw [← hH2]
      exact fun b o e => by rw [upd_ne (ne_of_none e nr), upd_ne (ne_of_none e nr), upd_ne (ne_of_none e ndr)]; exact e
    have hR2 : H2 r = some (.ins D.Cr dr (readF l 0)) := by rw [← hH2]; exact upd_same
    refine ⟨by decide, fun g hg => ?_⟩
    have s3 : Same H2 (upd H2 g (.lst [])) := Same.new hg
    have hc : l ≠ g ∨ ∀ Hx, SqL K Hx l (ns.map V.int) := by
      have hgH : H g = none := (s1.trans s2).free hg
      rcases hS with (y | ⟨u, y⟩) | y
      · exact .inl (ne_of_none y hgH)
      · exact .inl (ne_of_none y hgH)
      · exact .inr fun _ => .inr y
    have d0 : Desk K D (upd H2 g (.lst [])) a r l ns none 0 := ⟨⟨da, .non, s3 _ _ (s2 _ _ hA1), rfl⟩, ⟨dr, s3 _ _ hR2⟩, s3.seq (s2.seq (s1.seq hS)), True.intro, hl30⟩
    refine ⟨fun t σ H' => ∃ (todo : List (List (List Int))) (out : List Int) (st : Sz28.St) (n : Nat) (v4 : Option V), t = todo.length ∧ σ = [some (.ref l), some (.ref a), some (.ref r), some (.ref g), v4] ∧ Desk K D H' a r l ns st n ∧ ns.drop n = PyFlat.put todo ∧ (∀ c ∈ todo, Kind c) ∧
      H' g = some (.lst (out.map V.int)) ∧ out ++ run st todo = run none cs ∧ todo.length ≤ 100 ∧ out.length + 1101 * todo.length ≤ 110100, ⟨cs.length, cs, [], none, 0, none, rfl, rfl, d0, hput, hkind, upd_same, rfl, hcs, ?_⟩, ?_⟩
    · simp only [List.length_nil]
      omega
    rintro t σ H' ⟨todo, out, st, n, v4, rfl, rfl, d, hd, hk, hg', hrun, hl100, hlo⟩
    obtain ⟨dr', hr'⟩ := d.read
    refine ⟨_, rfl, r, dr', _, rfl, hr', readF_no l n (by decide +kernel) (by decide +kernel), r, dr', l, n, ns, rfl, hr', d.list, _, rfl, iteN (fun hmore => ?_) (fun hend => ?_)⟩
    · cases todo with
      | nil =>
        have := congrArg List.length hd
        rw [List.length_drop] at this
        have e : (PyFlat.put ([] : List (List (List Int)))).length = 0 := rfl
        omega
      | cons c rest =>
        refine ⟨fun σ' H'' => ∃ t', t' < (c :: rest).length ∧ ∃ (todo : List (List (List Int))) (out : List Int) (st : Sz28.St) (n : Nat) (v4 : Option V), t' = todo.length ∧ σ' = [some (.ref l), some (.ref a), some (.ref r), some (.ref g), v4] ∧ Desk K D H'' a r l ns st n ∧ ns.drop n = PyFlat.put todo ∧ (∀ c ∈ todo, Kind c) ∧
          H'' g = some (.lst (out.map V.int)) ∧ out ++ run st todo = run none cs ∧ todo.length ≤ 100 ∧ out.length + 1101 * todo.length ≤ 110100, fun _ _ z => z, ?_⟩
        have kc : Kind c := hk c (List.mem_cons_self ..)
        refine ⟨_, rfl, _, rfl, a, r, l, ns, st, n, c, PyFlat.put rest, rfl, d, kc, hd, fun H5 p n' d5 hd5 k5 hp5 hl5 => ?_⟩
        obtain ⟨dx5, v5, ha5, _⟩ := id d.hold
        have hga : g ≠ a := ne_of hg' ha5 (by intro z; cases z)
        have hgr : g ≠ r := ne_of hg' hr' (by intro z; cases z)
        have hg5 := k5 g _ hg' hga hgr
        have hgp : g ≠ p := ne_of_none hg' hp5
        have hlen := stp_len d.ok kc
        rw [List.length_cons] at hlo
        refine ⟨_, rfl, .inl ⟨rfl, _, SqL.of hg5⟩, _, rfl, p, _, rfl, .inl (SqL.of hl5), g, _, _, rfl, rfl, hg5, ?_, ?_⟩
        · rw [List.length_map, sizeLine_eq]
          omega
        refine ⟨_, rfl, .inl ⟨rfl, _, SqL.of upd_same⟩, _, rfl, g, p, _, (stp st c).2.map V.int, rfl, rfl, upd_same, ?_, ?_, ?_⟩
        · rw [upd_ne hgp.symm]
          exact hl5
        · rw [List.length_append, List.length_map, List.length_map, sizeLine_eq]
          simp only [List.length_cons, List.length_nil]
          omega
        rw [upd_upd]
        have hnew : ∀ {o : HO}, Desk K D (upd H5 g o) a r l ns (stp st c).1 n' := fun {o} => by
          obtain ⟨⟨dx6, v6, ha6, hv6⟩, ⟨dr6, hr6⟩, hl6, hok6, hln6⟩ := d5
          refine ⟨⟨dx6, v6, ?_, ?_⟩, ⟨dr6, ?_⟩, ?_, hok6, hln6⟩
          · rw [upd_ne hga.symm]
            exact ha6
          · cases hs : (stp st c).1 with
            | none => rw [hs] at hv6; exact hv6
            | some key =>
              rw [hs] at hv6
              obtain ⟨b, e, dk, hb⟩ := hv6
              exact ⟨b, e, dk, by rw [upd_ne (ne_of hb hg5 (by intro z; cases z))]; exact hb⟩
          · rw [upd_ne hgr.symm]
            exact hr6
          · rcases hc with hlg | hall
            · rcases hl6 with (y | ⟨u, y⟩) | y
              · exact .inl (.inl (by rw [upd_ne hlg]; exact y))
              · exact .inl (.inr ⟨u, by rw [upd_ne hlg]; exact y⟩)
              · exact .inr y
            · exact hall _
        refine ⟨rest.length, Nat.lt_succ_self _, rest, out ++ (((stp st c).2.length : Int) :: (stp st c).2), (stp st c).1, n', some (.ref p), rfl, rfl, hnew, hd5, fun c' hc' => hk c' (List.mem_cons_of_mem _ hc'), ?_, ?_, ?_, ?_⟩
        · rw [upd_same, List.map_append, List.length_map, List.append_assoc]
          rfl
        · rw [← hrun, List.append_assoc]
          rfl
        · rw [List.length_cons] at hl100
          omega
        · rw [List.length_append, List.length_cons]
          omega
    · cases todo with
      | nil =>
        rw [show run st [] = [] from rfl, List.append_nil] at hrun
        refine ⟨_, rfl, q H' g ?_⟩
        rw [hg', hrun, hans]
      | cons c rest =>
        have h1 : ns.drop n = [] := List.drop_eq_nil_of_le hend
        rw [hd] at h1
        have h2 : PyFlat.put1 c ++ PyFlat.put rest = [] := h1
        exact absurd (List.append_eq_nil_iff.mp h2).1 (put1_ne (hk c (List.mem_cons_self ..)))
end
end Gk

set_option Elab.async false
set_option linter.all false
set_option maxRecDepth 100000
set_option maxHeartbeats 2000000
/-! The program's defs: rows mixed, a message filled up, words turned. -/
namespace Gk
open PySem PySem.Spec PyProof.Rows L2
abbrev sXor : Stmt := top 3
abbrev sFilled : Stmt := top 12
abbrev sTurned : Stmt := top 13
theorem newAt {H : Hp} {p : Addr} (o : HO) (hp : H p = none) : ∃ H1, upd H p o = H1 ∧ Same H H1 ∧ H1 p = some o := ⟨_, rfl, Same.new hp, upd_same⟩
theorem bytes_at {x : Sz28.Bytes} {i : Nat} {v : V} (h : (bytesV x)[i]? = some v) : ∃ b, x[i]? = some b ∧ v = .int (b.toNat : Int) := by
  obtain ⟨z, hz, rfl⟩ := map_at h
  unfold toInts at hz
  rw [List.getElem?_map] at hz
  cases e : x[i]? with
  | none => rw [e] at hz; cases hz
  | some b => rw [e] at hz; exact ⟨b, rfl, by rw [← Option.some.inj hz]⟩
theorem mix_at {x y : Sz28.Bytes} {i : Nat} {b c : UInt8} (hx : x[i]? = some b) (hy : y[i]? = some c) : (toInts (Sz28.mix x y))[i]? = some ((b.toNat ^^^ c.toNat : Nat) : Int) := by
  unfold toInts Sz28.mix
  rw [List.getElem?_map, List.getElem?_map]
  have e : (x.zip y)[i]? = some (b, c) := by rw [List.getElem?_zip_eq_some]; exact ⟨hx, hy⟩
  rw [e]
  show some (((b ^^^ c).toNat : Nat) : Int) = _
  rw [UInt8.toNat_xor]
section
variable {P : Program} {w : World} {K : PySem.W.Frag} {mg : Str → Option Value} {base : Heap}
/-! ### exclusive_or -/
def spXor (K : PySem.W.Frag) : Sp := fun vs H Q _ => ∃ (a b : Addr) (x y : Sz28.Bytes), vs = [.ref a, .ref b] ∧ SqL K H a (bytesV x) ∧ SqL K H b (bytesV y) ∧ x.length ≤ 100000 ∧ DoneR H (toInts (Sz28.mix x y)) Q
theorem scXor : FnScope ["first", "second", "one", "other"] ["first", "second"] (defScope sXor) := ⟨rfl, rfl, rfl, by decide +kernel, rfl, by decide +kernel, by decide +kernel⟩
theorem ok_xor {f : Addr} {fd : FuncData} (hzp : mg "zip" = none) (F : Fun K "exclusive_or" "exclusive_or" sXor f fd) : FnOk P w K mg base CX0 1 f fd ["first", "second"] (spXor K) := by
  refine F.ok scXor (fun vs H Q E h => ?_) (fun cdv A outer s H vs Q E hr h => ?_)
  · obtain ⟨a, b, x, y, rfl, _⟩ := h
    rfl
  · obtain ⟨a, b, x, y, rfl, ha, hb, hlx, q⟩ := h
    refine ⟨_, pss_one (ps_ret (pe_lc (g := gTup K 2 (gCons (gName 2) (gCons (gName 3) gNil))) (own := [("one", 2), ("other", 3)]) rfl scXor.nd (pi_zip rfl hzp (pa_cons (pv 0) (pa_cons (pv 1) pa_nil)))
      (blkOk_by (N := ["first", "second", "one", "other"]) (sc := defScope sXor) (by decide +kernel)) (fun _ _ _ _ _ => ?pg) (fun _ _ _ _ _ => pts_nil)
      (fun _ _ _ _ _ => pe_op op_xor (pv 2) (pv 3)))), ?main⟩
    case pg =>
      refine pg_tup rfl ?_
      refine pgs_cons (pg_name (i := 2) scXor.nd rfl (Or.inl rfl)) ?_
      exact pgs_cons (pg_name (i := 3) scXor.nd rfl (Or.inl rfl)) pgs_nil
    refine ⟨_, rfl, _, rfl, a, b, _, _, rfl, ha, hb, fun D hD => ?_⟩
    refine lc_zip (xs := bytesV x) (ys := bytesV y) (fun i H' => Same H H' ∧ H' D = some (.lst (((toInts (Sz28.mix x y)).take i).map V.int))) ⟨Same.new hD, upd_same⟩ (fun i H' h => ⟨h.1.seq ha, h.1.seq hb⟩) (min x.length y.length) (by rw [bytesV_len, bytesV_len]) ?_ ?_
    · rintro i vx vy H' T hx hy hT ⟨sH, hD'⟩
      obtain ⟨bx, hbx, rfl⟩ := bytes_at hx
      obtain ⟨by', hby, rfl⟩ := bytes_at hy
      have hTD : D ≠ T := ne_of_none hD' hT
      refine ⟨T, _, rfl, SqT.of upd_same, rfl, _, _, rfl, _, _, rfl, rfl, rfl, _, rfl, _, rfl, _, _, rfl, rfl, _, (by rw [upd_ne hTD]; exact hD'), ?_, (sH.upd (sH.free hT)).upd hD, ?_⟩
      · rw [List.length_map, List.length_take, sizeLine_eq, ints_length, mix_length]
        omega
      · rw [upd_same, take_snoc (mix_at hbx hby), List.map_append, ← bXor]
        rfl
    · rintro H' ⟨sH, hD'⟩
      refine q H' D sH hD ?_
      rw [hD', List.take_of_length_le (by rw [ints_length, mix_length]; exact Nat.le_refl _)]
/-! ### turned -/
def spTurned : Sp := fun vs H Q _ => ∃ (x k : Nat), vs = [.int x, .int k] ∧ x < 2 ^ 32 ∧ k ≤ 32 ∧ Q (.int (Sz28.turned x k : Nat)) H
theorem scTurned : FnScope ["word", "bits"] ["word", "bits"] (defScope sTurned) := ⟨rfl, rfl, rfl, by decide +kernel, rfl, by decide +kernel, by decide +kernel⟩
theorem ok_turned {f : Addr} {fd : FuncData} (hWB : GInt mg "WORD_BITS" 32) (hWM : GInt mg "WORD_MASK" 4294967295) (F : Fun K "turned" "turned" sTurned f fd) : FnOk P w K mg base CX0 1 f fd ["word", "bits"] spTurned := by
  refine F.ok scTurned (fun vs H Q E h => ?_) (fun cdv A outer s H vs Q E hr h => ?_)
  · obtain ⟨x, k, rfl, _⟩ := h
    rfl
  · obtain ⟨x, k, rfl, hx, hk, q⟩ := h
    refine ⟨_, pss_one (ps_ret (pe_op op_or (pe_op op_shr (pv 0) (pv 1)) (pe_op op_and (pe_op op_shlB (pv 0) (pe_op op_sub (pe_gint hWB rfl) (pv 1))) (pe_gint hWM rfl)))), ?_⟩
    rw [← turned_int hx hk] at q
    refine ⟨_, rfl, _, rfl, _, _, rfl, rfl, ?_, _, rfl, _, rfl, _, _, rfl, rfl, _, _, rfl, rfl, ⟨?_, 32, Bits.of_nat hx, ?_⟩, _, _, rfl, rfl, _, _, rfl, rfl, q⟩
    · show (0 : Int) ≤ (k : Int)
      omega
    · show (0 : Int) ≤ 32 - (k : Int)
      omega
    · show ((32 : Nat) : Int) + (32 - (k : Int)) ≤ 134217728
      omega
/-! ### filled_up -/
def spFilled : Sp := fun vs H Q _ => ∃ (a : Addr) (m : Sz28.Bytes), vs = [.ref a] ∧ H a = some (.lst (bytesV m)) ∧ m.length ≤ 40000 ∧ DoneR H (toInts (Sz28.padded m)) Q
theorem scFilled : FnScope ["message", "zeros"] ["message"] (defScope sFilled) := ⟨rfl, rfl, rfl, by decide +kernel, rfl, by decide +kernel, by decide +kernel⟩
theorem ok_filled {f : Addr} {fd : FuncData} (hln : mg "len" = none) (hBB : GInt mg "BLOCK_BYTES" 64) (hRow : Has P w K mg base 1 "row_of" ["number", "size"] spRow) (F : Fun K "filled_up" "filled_up" sFilled f fd) : FnOk P w K mg base CX0 2 f fd ["message"] spFilled := by
  refine F.ok scFilled (fun vs H Q E h => ?_) (fun cdv A outer s H vs Q E hr h => ?_)
  · obtain ⟨a, m, rfl, _⟩ := h
    rfl
  · obtain ⟨a, m, rfl, ha, hlm, q⟩ := h
    refine ⟨_, pss_cons (ps_set (i := 1) scFilled.nd rfl (Or.inl rfl) (pe_op op_mod (pe_op op_sub pe_int (pe_callB call_len_seq (by rfl) hln PySem.boot_len (pa_cons (pv 0) pa_nil))) (pe_gint hBB rfl)))
      (pss_one (ps_ret (pe_op op_cat (pe_op op_cat (pe_op op_cat (pv 0) (pe_lst (pa_cons pe_int pa_nil))) (pe_op op_rep (pe_lst (pa_cons pe_int pa_nil)) (pv 1))) (pe_callH hRow hr (by decide) rfl (pa_cons (pe_op op_mul pe_int (pe_callB call_len_seq (by rfl) hln PySem.boot_len (pa_cons (pv 0) pa_nil))) (pa_cons pe_int pa_nil)))))), ?_⟩
    refine ⟨_, rfl, a, _, rfl, .inl (SqL.of ha), _, _, rfl, rfl, _, _, rfl, rfl, (by show (0 : Int) < 64; decide), ?_⟩
    have ez : ((55 : Int) - (((bytesV m).length : Nat) : Int)) % 64 = (((119 - m.length % 64) % 64 : Nat) : Int) := by
      rw [bytesV_len]
      omega
    dsimp only
    rw [ez]
    generalize hzn : (119 - m.length % 64) % 64 = zn
    have hzn64 : zn < 64 := by omega
    refine ⟨_, rfl, (by decide), fun l1 h1 => ?_⟩
    obtain ⟨H1, e1, s1, a1⟩ := newAt (.lst [V.int 128]) h1
    rw [e1]
    refine ⟨a, l1, bytesV m, [V.int 128], rfl, rfl, s1 _ _ ha, a1, (by rw [bytesV_len, sizeLine_eq]; simp only [List.length_cons, List.length_nil]; omega), fun c1 h2 => ?_⟩
    obtain ⟨H2, e2, s2, a2⟩ := newAt (.lst (bytesV m ++ [V.int 128])) h2
    rw [e2]
    refine ⟨(by decide), fun l2 h3 => ?_⟩
    obtain ⟨H3, e3, s3, a3⟩ := newAt (.lst [V.int 0]) h3
    rw [e3]
    refine ⟨_, rfl, l2, (zn : Int), [V.int 0], rfl, rfl, a3, by omega, by omega, (by show 1 * (zn : Int).toNat ≤ sizeLine; rw [sizeLine_eq]; omega), fun l3 h4 => ?_⟩
    obtain ⟨H4, e4, s4, a4⟩ := newAt (.lst (List.replicate (zn : Int).toNat [V.int 0]).flatten) h4
    rw [e4]
    rw [flatten1, Int.toNat_natCast] at a4
    refine ⟨c1, l3, bytesV m ++ [V.int 128], List.replicate zn (V.int 0), rfl, rfl, s4 _ _ (s3 _ _ a2), a4, (by rw [List.length_append, bytesV_len, List.length_replicate, sizeLine_eq]; simp only [List.length_cons, List.length_nil]; omega), fun c2 h5 => ?_⟩
    obtain ⟨H5, e5, s5, a5⟩ := newAt (.lst (bytesV m ++ [V.int 128] ++ List.replicate zn (V.int 0))) h5
    rw [e5]
    have S5 : Same H H5 := s1.trans (s2.trans (s3.trans (s4.trans s5)))
    refine ⟨_, rfl, a, _, rfl, .inl (SqL.of (S5 _ _ ha)), _, _, rfl, rfl, .inl ⟨by decide, by decide⟩, 8 * m.length, 8, ?_, by decide, fun l4 h6 => ?_⟩
    · rw [bytesV_len]
      show [V.int (8 * (m.length : Int)), V.int 8] = _
      rw [show (8 * (m.length : Int)) = ((8 * m.length : Nat) : Int) by omega]
      rfl
    obtain ⟨H6, e6, s6, a6⟩ := newAt (.lst (bytesV (Sz28.bytesOf 8 (8 * m.length)))) h6
    rw [e6]
    refine ⟨c2, l4, bytesV m ++ [V.int 128] ++ List.replicate zn (V.int 0), bytesV (Sz28.bytesOf 8 (8 * m.length)), rfl, rfl, s6 _ _ a5, a6, (by rw [List.length_append, List.length_append, bytesV_len, bytesV_len, List.length_replicate, length_bytesOf, sizeLine_eq]; simp only [List.length_cons, List.length_nil]; omega), fun c3 h7 => ?_⟩
    have S6 := S5.trans s6
    refine q _ c3 (S6.upd (S6.free h7)) (S6.free h7) ?_
    rw [upd_same]
    unfold Sz28.padded bytesV
    rw [hzn, ints_append]
    show some (HO.lst ((toInts m).map V.int ++ [V.int 128] ++ List.replicate zn (V.int 0) ++ (toInts (Sz28.bytesOf 8 (8 * m.length))).map V.int)) = some (HO.lst ((toInts m ++ (128 :: toInts (List.replicate zn 0 ++ Sz28.bytesOf 8 (8 * m.length)))).map V.int))
    rw [ints_append, List.map_append, List.map_cons, List.map_append]
    have er : (toInts (List.replicate zn (0 : UInt8))).map V.int = List.replicate zn (V.int 0) := by
      unfold toInts
      rw [List.map_replicate, List.map_replicate]
      rfl
    rw [er, List.append_assoc, List.append_assoc]
    rfl
end
end Gk

set_option Elab.async false
set_option linter.all false
set_option maxRecDepth 100000
set_option maxHeartbeats 2000000
/-! The program's defs: the words of a block. -/
namespace Gk
open PySem PySem.Spec PyProof.Rows L2
abbrev sWords : Stmt := top 14
/-- a new list of words, all else as it was -/
def DoneN (H : Hp) (r : List Nat) (Q : VK) : Prop := ∀ H' p, Same H H' → H p = none → H' p = some (.lst (prV r)) → Q (.ref p) H'
theorem prV_length (l : List Nat) : (prV l).length = l.length := by unfold prV; rw [List.length_map]
theorem prV_at {l : List Nat} {i x : Nat} (h : l[i]? = some x) : (prV l)[i]? = some (V.int (x : Int)) := by
  unfold prV
  rw [List.getElem?_map, h]
  rfl
theorem prV_of {l : List Nat} {i : Nat} {v : V} (h : (prV l)[i]? = some v) : ∃ x, l[i]? = some x ∧ v = .int (x : Int) := map_at h
theorem prV_snoc (l : List Nat) (x : Nat) : prV (l ++ [x]) = prV l ++ [V.int (x : Int)] := by
  unfold prV
  rw [List.map_append]
  rfl
section
variable {P : Program} {w : World} {K : PySem.W.Frag} {mg : Str → Option Value} {base : Heap}
def spWords : Sp := fun vs H Q _ => ∃ (a : Addr) (b : Sz28.Bytes), vs = [.ref a] ∧ H a = some (.lst (bytesV b)) ∧ b.length ≤ 64 ∧ DoneN H (Sz28.schedule b) Q
theorem scWords : FnScope ["block", "words", "place", "u", "v", "from_u", "from_v", "start"] ["block"] (defScope sWords) := ⟨rfl, rfl, rfl, by decide +kernel, rfl, by decide +kernel, by decide +kernel⟩
theorem ok_words {f : Addr} {fd : FuncData} (hrg : mg "range" = none) (hln : mg "len" = none) (hBB : GInt mg "BLOCK_BYTES" 64) (hBW : GInt mg "BLOCK_WORDS" 16) (hWM : GInt mg "WORD_MASK" 4294967295) (ns : List Int) (hns : ns.length = 64) (hRN : GTup K mg "ROUND_NUMBERS" ns)
    (hN : Has P w K mg base 1 "number_of" ["row"] (spNumber K)) (hT : Has P w K mg base 1 "turned" ["word", "bits"] spTurned) (F : Fun K "words_of" "words_of" sWords f fd) : FnOk P w K mg base CX0 2 f fd ["block"] spWords := by
  obtain ⟨ar, har, hTup⟩ := hRN
  refine F.ok scWords (fun vs H Q E h => ?_) (fun cdv A outer s H vs Q E hr h => ?_)
  · obtain ⟨a, b, rfl, _⟩ := h
    rfl
  · obtain ⟨a, b, rfl, ha, hlb, q⟩ := h
    refine ⟨_, pss_cons (ps_setLc (i := 1) (own := [("start", 7)]) rfl scWords.nd rfl rfl rfl (pi_range3 rfl hrg (pa_cons pe_int (pa_cons (pe_gint hBB rfl) (pa_cons pe_int pa_nil))))
        (blkOk_by (N := ["block", "words", "place", "u", "v", "from_u", "from_v", "start"]) (sc := defScope sWords) (by decide +kernel)) (fun _ _ _ _ _ => pg_name (i := 7) scWords.nd rfl (Or.inl rfl)) (fun _ _ _ _ _ => pts_nil)
        (fun _ _ _ _ _ => pe_callH hN hr (by decide) rfl (pa_cons (pe_slice (r := rSlL K) sl_list (pv 0) (po_some (pv 7)) (po_some (pe_op op_add (pv 7) pe_int))) pa_nil)))
      (pss_cons (ps_for PassesOwn.never rfl (pi_range2 rfl hrg (pa_cons (pe_gint hBW rfl) (pa_cons (pe_callB call_len_seq (by rfl) hln PySem.boot_len (pa_cons (pe_glob (v := .ref ar) rfl har rfl) pa_nil)) pa_nil))) (pg_name (i := 2) scWords.nd rfl (Or.inl rfl))
        (pss_cons (ps_set (i := 3) scWords.nd rfl (Or.inl rfl) (pe_ix ix_list (pv 1) (pe_op op_sub (pv 2) pe_int) (fun _ _ => rfl)))
        (pss_cons (ps_set (i := 4) scWords.nd rfl (Or.inl rfl) (pe_ix ix_list (pv 1) (pe_op op_sub (pv 2) pe_int) (fun _ _ => rfl)))
        (pss_cons (ps_set (i := 5) scWords.nd rfl (Or.inl rfl) (pe_op op_xor (pe_op op_xor (pe_callH hT hr (by decide) rfl (pa_cons (pv 3) (pa_cons pe_int pa_nil))) (pe_callH hT hr (by decide) rfl (pa_cons (pv 3) (pa_cons pe_int pa_nil)))) (pe_op op_shr (pv 3) pe_int)))
        (pss_cons (ps_set (i := 6) scWords.nd rfl (Or.inl rfl) (pe_op op_xor (pe_op op_xor (pe_callH hT hr (by decide) rfl (pa_cons (pv 4) (pa_cons pe_int pa_nil))) (pe_callH hT hr (by decide) rfl (pa_cons (pv 4) (pa_cons pe_int pa_nil)))) (pe_op op_shr (pv 4) pe_int)))
        (pss_one (ps_expr (pe_bm PySem.F.plainAttrs_list PySem.F.slot_list_append PySem.F.type_list_append mt_append (pv 1) (pa_cons (pe_op op_and (pe_op op_add (pe_op op_add (pe_op op_add (pe_ix ix_list (pv 1) (pe_op op_sub (pv 2) pe_int) (fun _ _ => rfl)) (pv 5)) (pe_ix ix_list (pv 1) (pe_op op_sub (pv 2) pe_int) (fun _ _ => rfl))) (pv 6)) (pe_gint hWM rfl)) pa_nil)))))))))
      (pss_one (ps_ret (pv 1)))), ?_⟩
    refine ⟨_, _, _, _, rfl, RgC.pos (a := 0) (b := 64) (c := 4) (by decide) (by decide) (by decide) (by decide) (by decide) (by decide), fun D hD => ?_⟩
    refine lc_rangeC (fun i H' => Same H H' ∧ H' D = some (.lst (prV ((w16 b).take i)))) ⟨Same.new hD, upd_same⟩ ?_ ?_
    · rintro i H' hi ⟨sH, hD'⟩
      have hi16 : i < 16 := hi
      have ei : (0 : Int) + (i : Nat) * 4 = ((4 * i : Nat) : Int) := by omega
      rw [ei]
      refine ⟨rfl, _, rfl, _, rfl, _, rfl, _, rfl, _, _, rfl, rfl, _, rfl, a, _, rfl, SqL.of (sH _ _ ha), fun p hp => ?_⟩
      have ec : cutV (bytesV b) (some ((4 * i : Nat) : Int)) (some (((4 * i : Nat) : Int) + 4)) = bytesV ((b.drop (4 * i)).take 4) := by
        have h4 : ((4 * i : Nat) : Int) + 4 = ((4 * i + 4 : Nat) : Int) := by omega
        unfold bytesV toInts
        rw [h4, List.map_map, List.map_map, cut_map]
        congr 2
        omega
      rw [ec]
      have hDp : D ≠ p := ne_of_none hD' hp
      refine ⟨p, toInts ((b.drop (4 * i)).take 4), rfl, SqL.of upd_same, row_ints _, ?_, _, (by rw [upd_ne hDp]; exact hD'), ?_, (sH.upd (sH.free hp)).upd hD, ?_⟩
      · rw [ints_length, List.length_take]
        omega
      · rw [prV_length, List.length_take, sizeLine_eq]
        omega
      · have e16 : (w16 b)[i]? = some (Sz28.big ((b.drop (4 * i)).take 4)) := by
          unfold w16
          rw [List.getElem?_map, List.getElem?_range hi16]
          rfl
        rw [upd_same, take_snoc e16, prV_snoc, bigI_eq (row_ints _), octets_ints]
    · rintro H' ⟨sH, hD'⟩
      have hD2 : H' D = some (.lst (prV (wsch b 0))) := by
        rw [hD']
        show some (HO.lst (prV ((w16 b).take 16))) = _
        rw [List.take_of_length_le (by unfold w16; rw [List.length_map, List.length_range]; exact Nat.le_refl _)]
        rfl
      refine ⟨ar, _, rfl, .inr (hTup _), _, _, rfl, ?_, ?_⟩
      · rw [List.length_map, hns]
        exact ⟨by decide, by decide, by decide, by decide⟩
      rw [List.length_map, hns]
      refine for_range (lo := 16) (n := 48) (fun i σ H' => ∃ v2 v3 v4 v5 v6 : Option V, σ = [some (.ref a), some (.ref D), v2, v3, v4, v5, v6, none] ∧ Same H H' ∧ H' D = some (.lst (prV (wsch b i)))) ⟨none, none, none, none, none, rfl, sH, hD2⟩ ?_ ?_
      · rintro i σ H2 hi ⟨v2, v3, v4, v5, v6, rfl, s2, hD3⟩
        have hlw := wsch_length b i
        have hlt := wsch_lt b i
        have hnext := wNext_int (wsch b i)
        generalize hw : wsch b i = w at hlw hlt hnext hD3
        have at15 : atI (prV w) ((16 : Int) + (i : Nat) - 15) = some (V.int (wAt w 15)) := by
          have e : ((16 : Int) + (i : Nat) - 15) = ((w.length - 15 : Nat) : Int) := by omega
          rw [e]
          exact atI_nat (prV_at (wAt_at (by decide) (by omega)))
        have at2 : atI (prV w) ((16 : Int) + (i : Nat) - 2) = some (V.int (wAt w 2)) := by
          have e : ((16 : Int) + (i : Nat) - 2) = ((w.length - 2 : Nat) : Int) := by omega
          rw [e]
          exact atI_nat (prV_at (wAt_at (by decide) (by omega)))
        have at16 : atI (prV w) ((16 : Int) + (i : Nat) - 16) = some (V.int (wAt w 16)) := by
          have e : ((16 : Int) + (i : Nat) - 16) = ((w.length - 16 : Nat) : Int) := by omega
          rw [e]
          exact atI_nat (prV_at (wAt_at (by decide) (by omega)))
        have at7 : atI (prV w) ((16 : Int) + (i : Nat) - 7) = some (V.int (wAt w 7)) := by
          have e : ((16 : Int) + (i : Nat) - 7) = ((w.length - 7 : Nat) : Int) := by omega
          rw [e]
          exact atI_nat (prV_at (wAt_at (by decide) (by omega)))
        have l15 := wAt_lt hlt (k := 15) (by decide) (by omega)
        have l2 := wAt_lt hlt (k := 2) (by decide) (by omega)
        refine ⟨_, rfl, _, rfl, _, _, rfl, rfl, D, _, _, _, rfl, rfl, SqL.of hD3, at15, ?_⟩
        refine ⟨_, rfl, _, rfl, _, _, rfl, rfl, D, _, _, _, rfl, rfl, SqL.of hD3, at2, ?_⟩
        refine ⟨_, rfl, wAt w 15, 7, rfl, l15, by decide, _, rfl, wAt w 15, 18, rfl, l15, by decide, _, _, rfl, rfl, _, rfl, _, _, rfl, rfl, (by show (0 : Int) ≤ 3; decide), _, _, rfl, rfl, ?_⟩
        refine ⟨_, rfl, wAt w 2, 17, rfl, l2, by decide, _, rfl, wAt w 2, 19, rfl, l2, by decide, _, _, rfl, rfl, _, rfl, _, _, rfl, rfl, (by show (0 : Int) ≤ 10; decide), _, _, rfl, rfl, ?_⟩
        refine ⟨_, rfl, .inl ⟨rfl, _, SqL.of hD3⟩, _, rfl, _, rfl, _, _, rfl, rfl, D, _, _, _, rfl, rfl, SqL.of hD3, at16, _, rfl, _, _, rfl, rfl, _, rfl, _, rfl, _, _, rfl, rfl, D, _, _, _, rfl, rfl, SqL.of hD3, at7, _, _, rfl, rfl, _, rfl, _, _, rfl, rfl, _, _, rfl, rfl, D, _, _, rfl, rfl, hD3, ?_, ?_⟩
        · rw [prV_length, sizeLine_eq, hlw]
          omega
        · refine ⟨_, _, _, _, _, rfl, s2.upd hD, ?_⟩
          rw [upd_same, wsch_next, hw, prV_snoc, hnext]
      · rintro σ H2 ⟨v2, v3, v4, v5, v6, rfl, s2, hD3⟩
        exact ⟨_, rfl, q H2 D s2 hD hD3⟩
end
end Gk

set_option Elab.async false
set_option linter.all false
set_option maxRecDepth 100000
set_option maxHeartbeats 4000000
/-! The program's defs: a block goes into the eight words. -/
namespace Gk
open PySem PySem.Spec PyProof.Rows L2
abbrev sStirred : Stmt := top 15
theorem getD_at {v : List Nat} {i : Nat} (h : i < v.length) : v[i]? = some (v.getD i 0) := by
  rw [List.getD_eq_getElem?_getD, List.getElem?_eq_getElem h]
  rfl
theorem list8 {v : List Nat} (h : v.length = 8) : [v.getD 0 0, v.getD 1 0, v.getD 2 0, v.getD 3 0, v.getD 4 0, v.getD 5 0, v.getD 6 0, v.getD 7 0] = v := by
  match v, h with
  | [_, _, _, _, _, _, _, _], _ => rfl
theorem g8_0 (a b c d e f g h : Nat) : [a, b, c, d, e, f, g, h].getD 0 0 = a := rfl
theorem g8_1 (a b c d e f g h : Nat) : [a, b, c, d, e, f, g, h].getD 1 0 = b := rfl
theorem g8_2 (a b c d e f g h : Nat) : [a, b, c, d, e, f, g, h].getD 2 0 = c := rfl
theorem g8_3 (a b c d e f g h : Nat) : [a, b, c, d, e, f, g, h].getD 3 0 = d := rfl
theorem g8_4 (a b c d e f g h : Nat) : [a, b, c, d, e, f, g, h].getD 4 0 = e := rfl
theorem g8_5 (a b c d e f g h : Nat) : [a, b, c, d, e, f, g, h].getD 5 0 = f := rfl
theorem g8_6 (a b c d e f g h : Nat) : [a, b, c, d, e, f, g, h].getD 6 0 = g := rfl
theorem g8_7 (a b c d e f g h : Nat) : [a, b, c, d, e, f, g, h].getD 7 0 = h := rfl
theorem pg_two {X : Cx} {i j : Nat} {x y : Str} {k : Nat} {pos p1 p2 : Pos} (hc : X.calm = true) (hN : X.N.Nodup) (hi : X.N[i]? = some x) (hj : X.N[j]? = some y) (hx : Loc X.env.scope x) (hy : Loc X.env.scope y)
    (hf : X.fn x = true ∨ X.env.scope.names.lookup x = some .local := by first | exact .inl rfl | exact .inr rfl) (hg : X.fn y = true ∨ X.env.scope.names.lookup y = some .local := by first | exact .inl rfl | exact .inr rfl) :
    PG X (.Tuple [.Name x p1, .Name y p2] k pos) (gTup X.K 2 (gCons (gName i) (gCons (gName j) gNil))) :=
  pg_tup hc (pgs_cons (pg_name hN hi hx hf) (pgs_cons (pg_name hN hj hy hg) pgs_nil))
section
variable {P : Program} {w : World} {K : PySem.W.Frag} {mg : Str → Option Value} {base : Heap}
def spStirred : Sp := fun vs H Q _ => ∃ (ea ba : Addr) (v : List Nat) (b : Sz28.Bytes), vs = [.ref ea, .ref ba] ∧ H ea = some (.lst (prV v)) ∧ H ba = some (.lst (bytesV b)) ∧ v.length = 8 ∧ (∀ x ∈ v, x < 2 ^ 32) ∧ b.length ≤ 64 ∧ DoneN H (blockStep v b) Q
theorem scStirred : FnScope ["eight", "block", "a", "b", "c", "d", "e", "f", "g", "h", "k", "w", "t", "u", "before", "after"] ["eight", "block"] (defScope sStirred) := ⟨rfl, rfl, rfl, by decide +kernel, rfl, by decide +kernel, by decide +kernel⟩
theorem ok_stirred {f : Addr} {fd : FuncData} (hzp : mg "zip" = none) (hWM : GInt mg "WORD_MASK" 4294967295) (ns : List Int) (hns : ns.map V.int = prV Sz28.keys) (hRN : GTup K mg "ROUND_NUMBERS" ns)
    (hW : Has P w K mg base 2 "words_of" ["block"] spWords) (hT : Has P w K mg base 1 "turned" ["word", "bits"] spTurned) (F : Fun K "stirred" "stirred" sStirred f fd) : FnOk P w K mg base CX0 3 f fd ["eight", "block"] spStirred := by
  obtain ⟨ar, har, hTup⟩ := hRN
  rw [hns] at hTup
  refine F.ok scStirred (fun vs H Q E h => ?_) (fun cdv A outer s H vs Q E hr h => ?_)
  · obtain ⟨ea, ba, v, b, rfl, _⟩ := h
    rfl
  · obtain ⟨ea, ba, v, b, rfl, he, hb, hv8, hvlt, hlb, q⟩ := h
    refine ⟨_, pss_cons (ps_set (i := 2) scStirred.nd rfl (Or.inl rfl) (pe_ix ix_list (pv 0) pe_int (fun _ _ => rfl)))
      (pss_cons (ps_set (i := 3) scStirred.nd rfl (Or.inl rfl) (pe_ix ix_list (pv 0) pe_int (fun _ _ => rfl)))
      (pss_cons (ps_set (i := 4) scStirred.nd rfl (Or.inl rfl) (pe_ix ix_list (pv 0) pe_int (fun _ _ => rfl)))
      (pss_cons (ps_set (i := 5) scStirred.nd rfl (Or.inl rfl) (pe_ix ix_list (pv 0) pe_int (fun _ _ => rfl)))
      (pss_cons (ps_set (i := 6) scStirred.nd rfl (Or.inl rfl) (pe_ix ix_list (pv 0) pe_int (fun _ _ => rfl)))
      (pss_cons (ps_set (i := 7) scStirred.nd rfl (Or.inl rfl) (pe_ix ix_list (pv 0) pe_int (fun _ _ => rfl)))
      (pss_cons (ps_set (i := 8) scStirred.nd rfl (Or.inl rfl) (pe_ix ix_list (pv 0) pe_int (fun _ _ => rfl)))
      (pss_cons (ps_set (i := 9) scStirred.nd rfl (Or.inl rfl) (pe_ix ix_list (pv 0) pe_int (fun _ _ => rfl)))
      (pss_cons (ps_for PassesOwn.never rfl (pi_zipT rfl hzp (pa_cons (pe_glob (v := .ref ar) rfl har rfl) (pa_cons (pe_callH hW hr (by decide) rfl (pa_cons (pv 1) pa_nil)) pa_nil))) (pg_two (i := 10) (j := 11) rfl scStirred.nd rfl rfl (Or.inl rfl) (Or.inl rfl))
        (pss_cons (ps_set (i := 12) scStirred.nd rfl (Or.inl rfl) (pe_op op_add (pe_op op_add (pe_op op_add (pe_op op_add (pv 9)
          (pe_op op_xor (pe_op op_xor (pe_callH hT hr (by decide) rfl (pa_cons (pv 6) (pa_cons pe_int pa_nil))) (pe_callH hT hr (by decide) rfl (pa_cons (pv 6) (pa_cons pe_int pa_nil)))) (pe_callH hT hr (by decide) rfl (pa_cons (pv 6) (pa_cons pe_int pa_nil)))))
          (pe_op op_xor (pe_op op_and (pv 6) (pv 7)) (pe_op op_and (pe_un un_inv (pv 6)) (pv 8)))) (pv 10)) (pv 11)))
        (pss_cons (ps_set (i := 13) scStirred.nd rfl (Or.inl rfl) (pe_op op_add (pe_op op_xor (pe_op op_xor (pe_callH hT hr (by decide) rfl (pa_cons (pv 2) (pa_cons pe_int pa_nil))) (pe_callH hT hr (by decide) rfl (pa_cons (pv 2) (pa_cons pe_int pa_nil)))) (pe_callH hT hr (by decide) rfl (pa_cons (pv 2) (pa_cons pe_int pa_nil))))
          (pe_op op_xor (pe_op op_xor (pe_op op_and (pv 2) (pv 3)) (pe_op op_and (pv 2) (pv 4))) (pe_op op_and (pv 3) (pv 4)))))
        (pss_cons (ps_set (i := 9) scStirred.nd rfl (Or.inl rfl) (pv 8))
        (pss_cons (ps_set (i := 8) scStirred.nd rfl (Or.inl rfl) (pv 7))
        (pss_cons (ps_set (i := 7) scStirred.nd rfl (Or.inl rfl) (pv 6))
        (pss_cons (ps_set (i := 6) scStirred.nd rfl (Or.inl rfl) (pe_op op_and (pe_op op_add (pv 5) (pv 12)) (pe_gint hWM rfl)))
        (pss_cons (ps_set (i := 5) scStirred.nd rfl (Or.inl rfl) (pv 4))
        (pss_cons (ps_set (i := 4) scStirred.nd rfl (Or.inl rfl) (pv 3))
        (pss_cons (ps_set (i := 3) scStirred.nd rfl (Or.inl rfl) (pv 2))
        (pss_one (ps_set (i := 2) scStirred.nd rfl (Or.inl rfl) (pe_op op_and (pe_op op_add (pv 12) (pv 13)) (pe_gint hWM rfl))))))))))))))
      (pss_one (ps_ret (pe_lc (g := gTup K 2 (gCons (gName 14) (gCons (gName 15) gNil))) (own := [("before", 14), ("after", 15)]) rfl scStirred.nd
        (pi_zip rfl hzp (pa_cons (pv 0) (pa_cons (pe_lst (pa_cons (pv 2) (pa_cons (pv 3) (pa_cons (pv 4) (pa_cons (pv 5) (pa_cons (pv 6) (pa_cons (pv 7) (pa_cons (pv 8) (pa_cons (pv 9) pa_nil))))))))) pa_nil)))
        (blkOk_by (N := ["eight", "block", "a", "b", "c", "d", "e", "f", "g", "h", "k", "w", "t", "u", "before", "after"]) (sc := defScope sStirred) (by decide +kernel)) (fun _ _ _ _ _ => ?pg2) (fun _ _ _ _ _ => pts_nil)
        (fun _ _ _ _ _ => pe_op op_and (pe_op op_add (pv 14) (pv 15)) (pe_gint hWM rfl))))))))))))), ?main⟩
    case pg2 =>
      refine pg_tup rfl ?_
      refine pgs_cons (pg_name (i := 14) scStirred.nd rfl (Or.inl rfl)) ?_
      exact pgs_cons (pg_name (i := 15) scStirred.nd rfl (Or.inl rfl)) pgs_nil
    have at_ : ∀ i : Nat, i < 8 → atI (prV v) (i : Int) = some (V.int (v.getD i 0 : Nat)) := fun i hi => atI_nat (prV_at (getD_at (by omega)))
    refine ⟨_, rfl, ea, _, _, _, rfl, rfl, SqL.of he, at_ 0 (by decide), ?_⟩
    refine ⟨_, rfl, ea, _, _, _, rfl, rfl, SqL.of he, at_ 1 (by decide), ?_⟩
    refine ⟨_, rfl, ea, _, _, _, rfl, rfl, SqL.of he, at_ 2 (by decide), ?_⟩
    refine ⟨_, rfl, ea, _, _, _, rfl, rfl, SqL.of he, at_ 3 (by decide), ?_⟩
    refine ⟨_, rfl, ea, _, _, _, rfl, rfl, SqL.of he, at_ 4 (by decide), ?_⟩
    refine ⟨_, rfl, ea, _, _, _, rfl, rfl, SqL.of he, at_ 5 (by decide), ?_⟩
    refine ⟨_, rfl, ea, _, _, _, rfl, rfl, SqL.of he, at_ 6 (by decide), ?_⟩
    refine ⟨_, rfl, ea, _, _, _, rfl, rfl, SqL.of he, at_ 7 (by decide), ?_⟩
    refine ⟨_, rfl, ba, b, rfl, hb, hlb, fun H1 wl s1 hwl hwl1 => ?_⟩
    refine ⟨ar, wl, _, _, rfl, hTup _, SqL.of hwl1, ?_⟩
    have hsl : (Sz28.schedule b).length = 64 := by rw [schedule_eq, wsch_length]
    have hzl : ∀ {i : Nat} {k y : Nat}, Sz28.keys[i]? = some k → (Sz28.schedule b)[i]? = some y → (Sz28.keys.zip (Sz28.schedule b))[i]? = some (k, y) := fun h1 h2 => by rw [List.getElem?_zip_eq_some]; exact ⟨h1, h2⟩
    generalize hL : Sz28.keys.zip (Sz28.schedule b) = L at hzl
    refine for_zipT (xs := prV Sz28.keys) (ys := prV (Sz28.schedule b)) (fun i σ H' => ∃ v10 v11 v12 v13 : Option V, σ = [some (.ref ea), some (.ref ba), some (.int ((rAt v L i).getD 0 0 : Nat)), some (.int ((rAt v L i).getD 1 0 : Nat)), some (.int ((rAt v L i).getD 2 0 : Nat)), some (.int ((rAt v L i).getD 3 0 : Nat)),
      some (.int ((rAt v L i).getD 4 0 : Nat)), some (.int ((rAt v L i).getD 5 0 : Nat)), some (.int ((rAt v L i).getD 6 0 : Nat)), some (.int ((rAt v L i).getD 7 0 : Nat)), v10, v11, v12, v13, none, none] ∧ Same H1 H') ⟨none, none, none, none, rfl, Same.refl H1⟩
      (fun i σ H' ⟨_, _, _, _, _, z⟩ => ⟨hTup _, z.seq (SqL.of hwl1)⟩) 64 (by rw [prV_length, keys_length]) (by rw [prV_length, hsl]) ?_ ?_
    · rintro i vx vy σ H' T hx hy hT' ⟨v10, v11, v12, v13, rfl, s2⟩
      obtain ⟨k, hk, rfl⟩ := prV_of hx
      obtain ⟨y, hy', rfl⟩ := prV_of hy
      have hnx := rAt_next (v := v) (hzl hk hy')
      have hlt := rAt_lt hvlt L i
      have iT := rT_int hlt k y
      have iU := rU_int (rAt v L i)
      generalize rAt v L i = r at hnx hlt iT iU
      have hA : (((rAt v L (i + 1)).getD 0 0 : Nat) : Int) = Builtin.bitAnd (((rT r (k, y) : Nat) : Int) + ((rU r : Nat) : Int)) 4294967295 := by
        rw [← Int.natCast_add, bMask, hnx, round_eq, g8_0]
      have hE : (((rAt v L (i + 1)).getD 4 0 : Nat) : Int) = Builtin.bitAnd (((r.getD 3 0 : Nat) : Int) + ((rT r (k, y) : Nat) : Int)) 4294967295 := by
        rw [← Int.natCast_add, bMask, hnx, round_eq, g8_4]
      rw [← iT, ← iU] at hA
      rw [← iT] at hE
      have hB : (rAt v L (i + 1)).getD 1 0 = r.getD 0 0 := by rw [hnx, round_eq, g8_1]
      have hC : (rAt v L (i + 1)).getD 2 0 = r.getD 1 0 := by rw [hnx, round_eq, g8_2]
      have hD : (rAt v L (i + 1)).getD 3 0 = r.getD 2 0 := by rw [hnx, round_eq, g8_3]
      have hF : (rAt v L (i + 1)).getD 5 0 = r.getD 4 0 := by rw [hnx, round_eq, g8_5]
      have hG : (rAt v L (i + 1)).getD 6 0 = r.getD 5 0 := by rw [hnx, round_eq, g8_6]
      have hH : (rAt v L (i + 1)).getD 7 0 = r.getD 6 0 := by rw [hnx, round_eq, g8_7]
      have le := getD_lt hlt 4
      have la := getD_lt hlt 0
      refine ⟨T, _, rfl, SqT.of upd_same, rfl, _, _, rfl, _, _, rfl, rfl, ?_⟩
      refine ⟨_, rfl, _, rfl, r.getD 4 0, 6, rfl, le, by decide, _, rfl, r.getD 4 0, 11, rfl, le, by decide, _, _, rfl, rfl, _, rfl, r.getD 4 0, 25, rfl, le, by decide, _, _, rfl, rfl, _, _, rfl, rfl, _, rfl, _, rfl, _, _, rfl, rfl, _, rfl, _, rfl, _, rfl, _, _, rfl, rfl, _, _, rfl, rfl, _, _, rfl, rfl, _, rfl, _, _, rfl, rfl, _, rfl, _, _, rfl, rfl, ?_⟩
      refine ⟨_, rfl, r.getD 0 0, 2, rfl, la, by decide, _, rfl, r.getD 0 0, 13, rfl, la, by decide, _, _, rfl, rfl, _, rfl, r.getD 0 0, 22, rfl, la, by decide, _, _, rfl, rfl, _, rfl, _, rfl, _, _, rfl, rfl, _, rfl, _, rfl, _, _, rfl, rfl, _, _, rfl, rfl, _, rfl, _, rfl, _, _, rfl, rfl, _, _, rfl, rfl, _, _, rfl, rfl, ?_⟩
      refine ⟨_, rfl, _, rfl, _, rfl, _, rfl, _, rfl, _, _, rfl, rfl, _, _, rfl, rfl, _, rfl, _, rfl, _, rfl, _, rfl, _, rfl, _, _, rfl, rfl, _, _, rfl, rfl, _, _, _, _, (by rw [hA, hE, hB, hC, hD, hF, hG, hH]; rfl), s2.trans (Same.new hT')⟩
    · rintro σ H' ⟨v10, v11, v12, v13, rfl, s2⟩
      have hr8 := rAt_length hv8 L 64
      have hbs := blockStep_eq v b
      rw [hL] at hbs
      generalize rAt v L 64 = r at hr8 hbs
      have s3 : Same H H' := s1.trans s2
      refine ⟨_, rfl, _, rfl, _, rfl, _, rfl, _, rfl, _, rfl, _, rfl, _, rfl, _, rfl, (by show 8 ≤ sizeLine; decide), fun l8 hl8 => ?_⟩
      obtain ⟨H2, e2, s4, a2⟩ := newAt (.lst [V.int (r.getD 0 0 : Nat), V.int (r.getD 1 0 : Nat), V.int (r.getD 2 0 : Nat), V.int (r.getD 3 0 : Nat), V.int (r.getD 4 0 : Nat), V.int (r.getD 5 0 : Nat), V.int (r.getD 6 0 : Nat), V.int (r.getD 7 0 : Nat)]) hl8
      rw [e2]
      have a3 : H2 l8 = some (.lst (prV r)) := by
        rw [a2]
        conv => rhs; rw [← list8 hr8]
        rfl
      have s5 : Same H H2 := s3.trans s4
      refine ⟨ea, l8, _, _, rfl, SqL.of (s5 _ _ he), SqL.of a3, fun D hD => ?_⟩
      have hDH : H D = none := s5.free hD
      refine lc_zip (xs := prV v) (ys := prV r) (fun i H' => Same H2 H' ∧ H' D = some (.lst (prV ((blockStep v b).take i)))) ⟨Same.new hD, upd_same⟩ (fun i H' h => ⟨h.1.seq (SqL.of (s5 _ _ he)), h.1.seq (SqL.of a3)⟩) 8 (by rw [prV_length, prV_length, hv8, hr8]; rfl) ?_ ?_
      · rintro i vx vy H3 T hx hy hT' ⟨s6, hD'⟩
        obtain ⟨x, hx', rfl⟩ := prV_of hx
        obtain ⟨y, hy', rfl⟩ := prV_of hy
        have hTD : D ≠ T := ne_of_none hD' hT'
        refine ⟨T, _, rfl, SqT.of upd_same, rfl, _, _, rfl, _, _, rfl, rfl, rfl, _, rfl, _, rfl, _, _, rfl, rfl, _, _, rfl, rfl, _, (by rw [upd_ne hTD]; exact hD'), ?_, (s6.upd (s6.free hT')).upd hD, ?_⟩
        · rw [prV_length, List.length_take, sizeLine_eq, blockStep_length hv8]
          omega
        · have eb : (blockStep v b)[i]? = some ((x + y) % Sz28.W) := by
            rw [hbs, List.getElem?_map]
            have e : (v.zip r)[i]? = some (x, y) := by rw [List.getElem?_zip_eq_some]; exact ⟨hx', hy'⟩
            rw [e]
            rfl
          rw [upd_same, take_snoc eb, prV_snoc, ← bMask]
          rfl
      · rintro H3 ⟨s6, hD'⟩
        refine q H3 D (s5.trans s6) hDH ?_
        rw [hD', List.take_of_length_le (by rw [blockStep_length hv8]; exact Nat.le_refl _)]
end
end Gk

set_option Elab.async false
set_option linter.all false
set_option maxRecDepth 100000
set_option maxHeartbeats 4000000
/-! The program's defs: sums and masks. -/
namespace Gk
open PySem PySem.Spec PyProof.Rows L2
abbrev sSum : Stmt := top 16
abbrev sMask : Stmt := top 17
theorem boot_list1 : bootBuiltins "list" = some (.type "list") := by decide +kernel
/-- the eight words behind i blocks -/
def fAt (m : Sz28.Bytes) (i : Nat) : List Nat := (List.range i).foldl (fun v i => blockStep v (((Sz28.padded m).drop (64 * i)).take 64)) Sz28.starts
theorem fAt_next (m : Sz28.Bytes) (i : Nat) : fAt m (i + 1) = blockStep (fAt m i) (((Sz28.padded m).drop (64 * i)).take 64) := by
  unfold fAt
  rw [List.range_succ, List.foldl_append]
  rfl
theorem fAt_length (m : Sz28.Bytes) (i : Nat) : (fAt m i).length = 8 := fold_length (fun v i h => blockStep_length h _) _ _ starts_length
theorem fAt_lt (m : Sz28.Bytes) : ∀ i, ∀ x ∈ fAt m i, x < 2 ^ 32
  | 0 => starts_lt
  | i + 1 => by
    rw [fAt_next]
    exact blockStep_lt _ _
theorem flat_snoc {α β : Type} {f : α → List β} {l : List α} {i : Nat} {x : α} (h : l[i]? = some x) : (l.take (i + 1)).flatMap f = (l.take i).flatMap f ++ f x := by
  rw [take_snoc h, List.flatMap_append]
  simp
theorem bytesV_append (a b : Sz28.Bytes) : bytesV (a ++ b) = bytesV a ++ bytesV b := by
  unfold bytesV
  rw [ints_append, List.map_append]
theorem cut_bytes (b : Sz28.Bytes) (i j : Nat) : cutV (bytesV b) (some (i : Int)) (some (j : Int)) = bytesV ((b.drop i).take (j - i)) := by
  unfold bytesV toInts
  rw [List.map_map, List.map_map, cut_map]
theorem cut_bytesTo (b : Sz28.Bytes) (j : Nat) : cutV (bytesV b) none (some (j : Int)) = bytesV (b.take j) := by
  unfold bytesV toInts
  rw [List.map_map, List.map_map, cut_to]
theorem cut_bytesFrom (b : Sz28.Bytes) (i : Nat) : cutV (bytesV b) (some (i : Int)) none = bytesV (b.drop i) := by
  unfold bytesV toInts
  rw [List.map_map, List.map_map, cut_from]
section
variable {P : Program} {w : World} {K : PySem.W.Frag} {mg : Str → Option Value} {base : Heap}
/-! ### sum_of -/
def spSum : Sp := fun vs H Q _ => ∃ (a : Addr) (m : Sz28.Bytes), vs = [.ref a] ∧ H a = some (.lst (bytesV m)) ∧ m.length ≤ 40000 ∧ DoneR H (toInts (Sz28.sha m)) Q
theorem scSum : FnScope ["message", "eight", "filled", "start", "result", "word"] ["message"] (defScope sSum) := ⟨rfl, rfl, rfl, by decide +kernel, rfl, by decide +kernel, by decide +kernel⟩
theorem ok_sum {f : Addr} {fd : FuncData} (hrg : mg "range" = none) (hln : mg "len" = none) (hls : mg "list" = none) (hBB : GInt mg "BLOCK_BYTES" 64) (fs : List Int) (hfs : fs.map V.int = prV Sz28.starts) (hFW : GTup K mg "FIRST_WORDS" fs)
    (hF : Has P w K mg base 2 "filled_up" ["message"] spFilled) (hS : Has P w K mg base 3 "stirred" ["eight", "block"] spStirred) (hRow : Has P w K mg base 1 "row_of" ["number", "size"] spRow) (F : Fun K "sum_of" "sum_of" sSum f fd) : FnOk P w K mg base CX0 4 f fd ["message"] spSum := by
  obtain ⟨af, haf, hTup⟩ := hFW
  rw [hfs] at hTup
  refine F.ok scSum (fun vs H Q E h => ?_) (fun cdv A outer s H vs Q E hr h => ?_)
  · obtain ⟨a, m, rfl, _⟩ := h
    rfl
  · obtain ⟨a, m, rfl, ha, hlm, q⟩ := h
    refine ⟨_, pss_cons (ps_set (i := 1) scSum.nd rfl (Or.inl rfl) (pe_callTy call_list_of rfl hls boot_list1 (pa_cons (pe_glob (v := .ref af) rfl haf rfl) pa_nil)))
      (pss_cons (ps_set (i := 2) scSum.nd rfl (Or.inl rfl) (pe_callH hF hr (by decide) rfl (pa_cons (pv 0) pa_nil)))
      (pss_cons (ps_for PassesOwn.never rfl (pi_range3 rfl hrg (pa_cons pe_int (pa_cons (pe_callB call_len_seq (by rfl) hln PySem.boot_len (pa_cons (pv 2) pa_nil)) (pa_cons (pe_gint hBB rfl) pa_nil)))) (pg_name (i := 3) scSum.nd rfl (Or.inl rfl))
        (pss_one (ps_set (i := 1) scSum.nd rfl (Or.inl rfl) (pe_callH hS hr (by decide) rfl (pa_cons (pv 1) (pa_cons (pe_slice sl_list (pv 2) (po_some (pv 3)) (po_some (pe_op op_add (pv 3) (pe_gint hBB rfl)))) pa_nil))))))
      (pss_cons (ps_set (i := 4) scSum.nd rfl (Or.inl rfl) (pe_lst pa_nil))
      (pss_cons (ps_for PassesOwn.never rfl (pi_list (pv 1)) (pg_name (i := 5) scSum.nd rfl (Or.inl rfl))
        (pss_one (ps_expr (pe_bm PySem.F.plainAttrs_list PySem.F.slot_list_extend PySem.F.type_list_extend mt_extend (pv 4) (pa_cons (pe_callH hRow hr (by decide) rfl (pa_cons (pv 5) (pa_cons pe_int pa_nil))) pa_nil)))))
      (pss_one (ps_ret (pv 4))))))), ?_⟩
    refine ⟨af, _, rfl, .inr (hTup _), fun e0 he0 => ?_⟩
    obtain ⟨H1, e1, s1, a1⟩ := newAt (.lst (prV Sz28.starts)) he0
    rw [e1]
    refine ⟨_, rfl, a, m, rfl, s1 _ _ ha, hlm, fun H2 fl s2 nfl hfl => ?_⟩
    have hpl := padded_length m
    have hsha := sha_fold m
    obtain ⟨j, hj⟩ : ∃ j, j = (m.length + 72) / 64 := ⟨_, rfl⟩
    rw [← hj] at hpl hsha
    have hfl' : H2 fl = some (.lst (bytesV (Sz28.padded m))) := hfl
    have hlen : (((bytesV (Sz28.padded m)).length : Nat) : Int) = ((64 * j : Nat) : Int) := by rw [bytesV_len, hpl]
    have hcnt : (if (0 : Int) < ((64 * j : Nat) : Int) then ((((64 * j : Nat) : Int) - 0 - 1) / 64 + 1).toNat else 0) = j := by
      by_cases h0 : (0 : Int) < ((64 * j : Nat) : Int)
      · rw [if_pos h0]
        omega
      · rw [if_neg h0]
        omega
    have hrc := RgC.pos (a := 0) (b := ((64 * j : Nat) : Int)) (c := 64) (by decide) (by decide) (by decide) (by decide) (by omega) (by omega)
    rw [hcnt] at hrc
    refine ⟨_, rfl, fl, _, rfl, .inl (SqL.of hfl'), _, _, _, _, rfl, (by rw [hlen]; exact hrc), ?_⟩
    refine for_rangeC (fun i σ H' => ∃ (e : Addr) (v3 : Option V), σ = [some (.ref a), some (.ref e), some (.ref fl), v3, none, none] ∧ Same H2 H' ∧ H' e = some (.lst (prV (fAt m i)))) ⟨e0, none, rfl, Same.refl H2, s2 _ _ a1⟩ ?_ ?_
    · rintro i σ H' hi ⟨e, v3, rfl, s3, he⟩
      have ei : (0 : Int) + (i : Nat) * 64 = ((64 * i : Nat) : Int) := by omega
      rw [ei]
      refine ⟨_, rfl, _, rfl, _, rfl, _, rfl, _, rfl, _, _, rfl, rfl, _, rfl, fl, _, rfl, SqL.of (s3 _ _ hfl'), fun p hp => ?_⟩
      have ec : cutV (bytesV (Sz28.padded m)) (some ((64 * i : Nat) : Int)) (some (((64 * i : Nat) : Int) + 64)) = bytesV (((Sz28.padded m).drop (64 * i)).take 64) := by
        have h4 : ((64 * i : Nat) : Int) + 64 = ((64 * i + 64 : Nat) : Int) := by omega
        rw [h4, cut_bytes]
        congr 2
        omega
      rw [ec]
      obtain ⟨H3, e3, s4, a3⟩ := newAt (.lst (bytesV (((Sz28.padded m).drop (64 * i)).take 64))) hp
      rw [e3]
      refine ⟨e, p, fAt m i, ((Sz28.padded m).drop (64 * i)).take 64, rfl, s4 _ _ he, a3, fAt_length m i, fAt_lt m i, ?_, fun H4 e' s5 ne' he' => ?_⟩
      · rw [List.length_take]
        omega
      · exact ⟨e', _, rfl, s3.trans (s4.trans s5), by rw [fAt_next]; exact he'⟩
    · rintro σ H' ⟨e, v3, rfl, s3, he⟩
      refine ⟨by decide, fun rp hrp => ?_⟩
      have S3 : Same H H' := s1.trans (s2.trans s3)
      have nrp : H rp = none := S3.free hrp
      have ner : e ≠ rp := ne_of_none he hrp
      have hl8 := fAt_length m j
      have hlt := fAt_lt m j
      have hres : Sz28.sha m = (fAt m j).flatMap (Sz28.bytesOf 4) := hsha
      generalize fAt m j = v at he hl8 hlt hres
      refine ⟨_, rfl, e, rfl, ⟨_, SqL.of (by rw [upd_ne ner]; exact he)⟩, for_list (K := K) (a := e) (xs := prV v) (fun i σ H'' => ∃ v5 : Option V, σ = [some (.ref a), some (.ref e), some (.ref fl), v3, some (.ref rp), v5] ∧ Same H H'' ∧ H'' e = some (.lst (prV v)) ∧ H'' rp = some (.lst (bytesV ((v.take i).flatMap (Sz28.bytesOf 4)))))
        ⟨none, rfl, S3.upd nrp, by rw [upd_ne ner]; exact he, upd_same⟩ (fun i σ H'' _ ⟨_, _, _, h, _⟩ => SqL.of h) ?_ ?_⟩
      · rintro i y σ H'' hi ⟨v5, rfl, s5, he5, hr5⟩
        obtain ⟨x, hx, rfl⟩ := prV_of hi
        refine ⟨_, rfl, .inl ⟨rfl, _, SqL.of hr5⟩, _, rfl, x, 4, rfl, by decide, fun p hp => ?_⟩
        have nrp2 : rp ≠ p := ne_of_none hr5 hp
        have nep : e ≠ p := ne_of_none he5 hp
        have lfl : (bytesV ((v.take i).flatMap (Sz28.bytesOf 4))).length ≤ 32 := by
          rw [bytesV_len, flat4_length, List.length_take]
          omega
        refine ⟨rp, p, bytesV ((v.take i).flatMap (Sz28.bytesOf 4)), bytesV (Sz28.bytesOf 4 x), rfl, rfl, by rw [upd_ne nrp2]; exact hr5, upd_same, ?_, ?_⟩
        · have e4 : (bytesV (Sz28.bytesOf 4 x)).length = 4 := by rw [bytesV_len, length_bytesOf]
          rw [e4, sizeLine_eq]
          omega
        · refine ⟨_, rfl, (s5.upd (s5.free hp)).upd nrp, ?_, ?_⟩
          · rw [upd_ne ner, upd_ne nep]
            exact he5
          · rw [upd_same, flat_snoc hx, bytesV_append]
      · rintro σ H'' ⟨v5, rfl, s5, he5, hr5⟩
        refine ⟨_, rfl, q H'' rp s5 nrp ?_⟩
        rw [hr5, prV_length, List.take_length, hres]
        rfl
/-! ### mask_of -/
def mAt (seed : Sz28.Bytes) (j : Nat) : Sz28.Bytes := (List.range j).flatMap fun i => Sz28.sha (seed ++ Sz28.bytesOf 4 i)
theorem mAt_next (seed : Sz28.Bytes) (j : Nat) : mAt seed (j + 1) = mAt seed j ++ Sz28.sha (seed ++ Sz28.bytesOf 4 j) := by
  unfold mAt
  rw [List.range_succ, List.flatMap_append]
  simp
theorem mAt_length (seed : Sz28.Bytes) (j : Nat) : (mAt seed j).length = 32 * j := by
  unfold mAt
  rw [flatC_length (c := 32) (fun i => sha_length _), List.length_range]
def spMask : Sp := fun vs H Q _ => ∃ (a : Addr) (seed : Sz28.Bytes) (n : Nat), vs = [.ref a, .int n] ∧ H a = some (.lst (bytesV seed)) ∧ seed.length ≤ 30000 ∧ n ≤ 30000 ∧ DoneR H (toInts (Sz28.mask seed n)) Q
theorem scMask : FnScope ["seed", "size", "mask", "turn"] ["seed", "size"] (defScope sMask) := ⟨rfl, rfl, rfl, by decide +kernel, rfl, by decide +kernel, by decide +kernel⟩
theorem ok_mask {f : Addr} {fd : FuncData} (hln : mg "len" = none) (hS : Has P w K mg base 4 "sum_of" ["message"] spSum) (hRow : Has P w K mg base 1 "row_of" ["number", "size"] spRow) (F : Fun K "mask_of" "mask_of" sMask f fd) : FnOk P w K mg base CX0 5 f fd ["seed", "size"] spMask := by
  refine F.ok scMask (fun vs H Q E h => ?_) (fun cdv A outer s H vs Q E hr h => ?_)
  · obtain ⟨a, seed, n, rfl, _⟩ := h
    rfl
  · obtain ⟨a, seed, n, rfl, ha, hls, hn, q⟩ := h
    refine ⟨_, pss_cons (ps_set (i := 2) scMask.nd rfl (Or.inl rfl) (pe_lst pa_nil))
      (pss_cons (ps_set (i := 3) scMask.nd rfl (Or.inl rfl) pe_int)
      (pss_cons (ps_while PassesOwn.never (pt_cmpR op_lt (pe_callB call_len_seq (by rfl) hln PySem.boot_len (pa_cons (pv 2) pa_nil)) (pv 1) (nomark _))
        (pss_cons (ps_expr (pe_bm PySem.F.plainAttrs_list PySem.F.slot_list_extend PySem.F.type_list_extend mt_extend (pv 2) (pa_cons (pe_callH hS hr (by decide) rfl (pa_cons (pe_op op_cat (pv 0) (pe_callH hRow hr (by decide) rfl (pa_cons (pv 3) (pa_cons pe_int pa_nil)))) pa_nil)) pa_nil)))
        (pss_one (ps_aug (i := 3) scMask.nd rfl (Or.inl rfl) pe_int ip_add))))
      (pss_one (ps_ret (pe_slice sl_list (pv 2) po_none (po_some (pv 1))))))), ?_⟩
    refine ⟨by decide, fun mp hmp => ?_⟩
    refine ⟨fun t σ H' => ∃ j, j ≤ (n + 31) / 32 ∧ t = (n + 31) / 32 - j ∧ σ = [some (.ref a), some (.int n), some (.ref mp), some (.int (j : Nat))] ∧ Same H H' ∧ H' mp = some (.lst (bytesV (mAt seed j))), ⟨_, 0, Nat.zero_le _, rfl, rfl, Same.new hmp, upd_same⟩, ?_⟩
    rintro t σ H' ⟨j, hj, rfl, rfl, sH, hm⟩
    have hml : (bytesV (mAt seed j)).length = 32 * j := by rw [bytesV_len, mAt_length]
    refine ⟨_, rfl, mp, _, rfl, .inl (SqL.of hm), _, rfl, _, _, rfl, rfl, _, rfl, ?_⟩
    rw [hml]
    refine iteD (fun hc => ?_) (fun hc => ?_)
    · have hjn : j < (n + 31) / 32 := by omega
      refine ⟨fun σ' H'' => ∃ t', t' < (n + 31) / 32 - j ∧ ∃ j, j ≤ (n + 31) / 32 ∧ t' = (n + 31) / 32 - j ∧ σ' = [some (.ref a), some (.int n), some (.ref mp), some (.int (j : Nat))] ∧ Same H H'' ∧ H'' mp = some (.lst (bytesV (mAt seed j))), fun _ _ z => z, ?_⟩
      refine ⟨_, rfl, .inl ⟨rfl, _, SqL.of hm⟩, _, rfl, _, rfl, j, 4, rfl, by decide, fun p hp => ?_⟩
      obtain ⟨H1, e1, s1, a1⟩ := newAt (.lst (bytesV (Sz28.bytesOf 4 j))) hp
      rw [e1]
      have haH := s1 _ _ (sH _ _ ha)
      refine ⟨a, p, bytesV seed, bytesV (Sz28.bytesOf 4 j), rfl, rfl, haH, a1, (by rw [bytesV_len, bytesV_len, length_bytesOf, sizeLine_eq]; omega), fun c hc2 => ?_⟩
      obtain ⟨H2, e2, s2, a2⟩ := newAt (.lst (bytesV seed ++ bytesV (Sz28.bytesOf 4 j))) hc2
      rw [e2]
      rw [← bytesV_append] at a2
      refine ⟨c, seed ++ Sz28.bytesOf 4 j, rfl, a2, (by rw [List.length_append, length_bytesOf]; omega), fun H3 d s3 nd hd => ?_⟩
      have hm3 := s3 _ _ (s2 _ _ (s1 _ _ hm))
      refine ⟨mp, d, bytesV (mAt seed j), bytesV (Sz28.sha (seed ++ Sz28.bytesOf 4 j)), rfl, rfl, hm3, hd, ?_, ?_⟩
      · rw [hml, bytesV_len, sha_length, sizeLine_eq]
        omega
      · refine ⟨_, rfl, _, _, rfl, rfl, (n + 31) / 32 - (j + 1), by omega, j + 1, by omega, rfl, rfl, (sH.trans (s1.trans (s2.trans s3))).upd hmp, ?_⟩
        rw [upd_same, mAt_next, bytesV_append]
    · have hjn : j = (n + 31) / 32 := by omega
      refine ⟨_, rfl, _, rfl, _, rfl, mp, _, rfl, SqL.of hm, fun p hp => ?_⟩
      rw [cut_bytesTo]
      refine q _ p (sH.upd (sH.free hp)) (sH.free hp) ?_
      rw [upd_same, hjn]
      rfl
end
end Gk

set_option Elab.async false
set_option linter.all false
set_option maxRecDepth 100000
set_option maxHeartbeats 4000000
/-! The program's defs: forms of a message. -/
namespace Gk
open PySem PySem.Spec PyProof.Rows L2
abbrev sMasked : Stmt := top 27
abbrev sPlain : Stmt := top 28
abbrev sSalted : Stmt := top 29
theorem rep_bytes (k : Nat) (b : UInt8) : (List.replicate k [V.int (b.toNat : Int)]).flatten = bytesV (List.replicate k b) := by
  unfold bytesV toInts
  rw [flatten1, List.map_replicate, List.map_replicate]
section
variable {P : Program} {w : World} {K : PySem.W.Frag} {mg : Str → Option Value} {base : Heap}
/-! ### masked -/
def spMasked : Sp := fun vs H Q _ => ∃ (a b : Addr) (x seed : Sz28.Bytes), vs = [.ref a, .ref b] ∧ H a = some (.lst (bytesV x)) ∧ H b = some (.lst (bytesV seed)) ∧ x.length ≤ 30000 ∧ seed.length ≤ 30000 ∧ DoneR H (toInts (Sz28.mix x (Sz28.mask seed x.length))) Q
theorem scMasked : FnScope ["row", "seed"] ["row", "seed"] (defScope sMasked) := ⟨rfl, rfl, rfl, by decide +kernel, rfl, by decide +kernel, by decide +kernel⟩
theorem ok_masked {f : Addr} {fd : FuncData} (hln : mg "len" = none) (hX : Has P w K mg base 1 "exclusive_or" ["first", "second"] (spXor K)) (hM : Has P w K mg base 5 "mask_of" ["seed", "size"] spMask) (F : Fun K "masked" "masked" sMasked f fd) : FnOk P w K mg base CX0 6 f fd ["row", "seed"] spMasked := by
  refine F.ok scMasked (fun vs H Q E h => ?_) (fun cdv A outer s H vs Q E hr h => ?_)
  · obtain ⟨a, b, x, seed, rfl, _⟩ := h
    rfl
  · obtain ⟨a, b, x, seed, rfl, ha, hb, hlx, hls, q⟩ := h
    refine ⟨_, pss_one (ps_ret (pe_callH hX hr (by decide) rfl (pa_cons (pv 0) (pa_cons (pe_callH hM hr (by decide) rfl (pa_cons (pv 1) (pa_cons (pe_callB call_len_seq (by rfl) hln PySem.boot_len (pa_cons (pv 0) pa_nil)) pa_nil))) pa_nil)))), ?_⟩
    refine ⟨_, rfl, _, rfl, _, rfl, a, _, rfl, .inl (SqL.of ha), b, seed, (bytesV x).length, rfl, hb, hls, by rw [bytesV_len]; exact hlx, fun H1 p s1 n1 a1 => ?_⟩
    rw [bytesV_len] at a1
    exact ⟨a, p, x, _, rfl, SqL.of (s1 _ _ ha), SqL.of a1, by omega, fun H2 r s2 n2 a2 => q H2 r (s1.trans s2) (s1.free n2) a2⟩
/-! ### plain_form -/
def spPlain : Sp := fun vs H Q _ => ∃ (k : Nat) (a : Addr) (m : Sz28.Bytes), vs = [.int k, .ref a] ∧ H a = some (.lst (bytesV m)) ∧ m.length ≤ 40000 ∧ 128 ≤ k ∧ k ≤ 512 ∧ DoneR H (toInts (Sz28.plainForm k m)) Q
theorem scPlain : FnScope ["size", "message"] ["size", "message"] (defScope sPlain) := ⟨rfl, rfl, rfl, by decide +kernel, rfl, by decide +kernel, by decide +kernel⟩
theorem ok_plain {f : Addr} {fd : FuncData} (hls : mg "list" = none) (hPR : GInt mg "PLAIN_REST" 54) (ss : List Int) (hss : ss.map V.int = bytesV Sz28.prefix_) (hSS : GTup K mg "SUM_SIGN" ss) (hS : Has P w K mg base 4 "sum_of" ["message"] spSum)
    (F : Fun K "plain_form" "plain_form" sPlain f fd) : FnOk P w K mg base CX0 5 f fd ["size", "message"] spPlain := by
  obtain ⟨ag, hag, hTup⟩ := hSS
  rw [hss] at hTup
  refine F.ok scPlain (fun vs H Q E h => ?_) (fun cdv A outer s H vs Q E hr h => ?_)
  · obtain ⟨k, a, m, rfl, _⟩ := h
    rfl
  · obtain ⟨k, a, m, rfl, ha, hlm, hk1, hk2, q⟩ := h
    refine ⟨_, pss_one (ps_ret (pe_op op_cat (pe_op op_cat (pe_op op_cat (pe_op op_cat (pe_lst (pa_cons pe_int (pa_cons pe_int pa_nil))) (pe_op op_rep (pe_lst (pa_cons pe_int pa_nil)) (pe_op op_sub (pv 0) (pe_gint hPR rfl)))) (pe_lst (pa_cons pe_int pa_nil)))
      (pe_callTy call_list_of rfl hls boot_list1 (pa_cons (pe_glob (v := .ref ag) rfl hag rfl) pa_nil))) (pe_callH hS hr (by decide) rfl (pa_cons (pv 1) pa_nil)))), ?_⟩
    have hkn : ((k : Int) - 54).toNat = k - 54 := by omega
    refine ⟨by decide, fun l1 h1 => ?_⟩
    obtain ⟨H1, e1, s1, a1⟩ := newAt (.lst [V.int 0, V.int 1]) h1
    rw [e1]
    refine ⟨by decide, fun l2 h2 => ?_⟩
    obtain ⟨H2, e2, s2, a2⟩ := newAt (.lst [V.int 255]) h2
    rw [e2]
    refine ⟨_, rfl, _, _, rfl, rfl, l2, (k : Int) - 54, [V.int 255], rfl, rfl, a2, by omega, by omega, (by show 1 * ((k : Int) - 54).toNat ≤ sizeLine; rw [sizeLine_eq]; omega), fun l3 h3 => ?_⟩
    obtain ⟨H3, e3, s3, a3⟩ := newAt (.lst (List.replicate ((k : Int) - 54).toNat [V.int 255]).flatten) h3
    rw [e3]
    rw [hkn, show (255 : Int) = (((255 : UInt8).toNat : Nat) : Int) from rfl, rep_bytes] at a3
    refine ⟨l1, l3, [V.int 0, V.int 1], bytesV (List.replicate (k - 54) 255), rfl, rfl, s3 _ _ (s2 _ _ a1), a3, (by rw [bytesV_len, List.length_replicate, sizeLine_eq]; simp only [List.length_cons, List.length_nil]; omega), fun c1 h4 => ?_⟩
    obtain ⟨H4, e4, s4, a4⟩ := newAt (.lst ([V.int 0, V.int 1] ++ bytesV (List.replicate (k - 54) 255))) h4
    rw [e4]
    refine ⟨by decide, fun l4 h5 => ?_⟩
    obtain ⟨H5, e5, s5, a5⟩ := newAt (.lst [V.int 0]) h5
    rw [e5]
    refine ⟨c1, l4, [V.int 0, V.int 1] ++ bytesV (List.replicate (k - 54) 255), [V.int 0], rfl, rfl, s5 _ _ a4, a5, (by rw [List.length_append, bytesV_len, List.length_replicate, sizeLine_eq]; simp only [List.length_cons, List.length_nil]; omega), fun c2 h6 => ?_⟩
    obtain ⟨H6, e6, s6, a6⟩ := newAt (.lst ([V.int 0, V.int 1] ++ bytesV (List.replicate (k - 54) 255) ++ [V.int 0])) h6
    rw [e6]
    refine ⟨ag, _, rfl, .inr (hTup _), fun l5 h7 => ?_⟩
    obtain ⟨H7, e7, s7, a7⟩ := newAt (.lst (bytesV Sz28.prefix_)) h7
    rw [e7]
    refine ⟨c2, l5, [V.int 0, V.int 1] ++ bytesV (List.replicate (k - 54) 255) ++ [V.int 0], bytesV Sz28.prefix_, rfl, rfl, s7 _ _ a6, a7, (by rw [List.length_append, List.length_append, bytesV_len, bytesV_len, List.length_replicate, sizeLine_eq, show Sz28.prefix_.length = 19 from rfl]; simp only [List.length_cons, List.length_nil]; omega), fun c3 h8 => ?_⟩
    obtain ⟨H8, e8, s8, a8⟩ := newAt (.lst ([V.int 0, V.int 1] ++ bytesV (List.replicate (k - 54) 255) ++ [V.int 0] ++ bytesV Sz28.prefix_)) h8
    rw [e8]
    have S8 : Same H H8 := s1.trans (s2.trans (s3.trans (s4.trans (s5.trans (s6.trans (s7.trans s8))))))
    refine ⟨_, rfl, a, m, rfl, S8 _ _ ha, hlm, fun H9 l6 s9 n9 a9 => ?_⟩
    refine ⟨c3, l6, [V.int 0, V.int 1] ++ bytesV (List.replicate (k - 54) 255) ++ [V.int 0] ++ bytesV Sz28.prefix_, bytesV (Sz28.sha m), rfl, rfl, s9 _ _ a8, a9, (by rw [List.length_append, List.length_append, List.length_append, bytesV_len, bytesV_len, bytesV_len, List.length_replicate, sha_length, sizeLine_eq, show Sz28.prefix_.length = 19 from rfl]; simp only [List.length_cons, List.length_nil]; omega), fun c4 h10 => ?_⟩
    have S9 := S8.trans s9
    refine q _ c4 (S9.upd (S9.free h10)) (S9.free h10) ?_
    rw [upd_same]
    show _ = some (HO.lst (bytesV (Sz28.plainForm k m)))
    unfold Sz28.plainForm
    rw [bytesV_append, bytesV_append, show (0 :: (Sz28.prefix_ ++ Sz28.sha m) : Sz28.Bytes) = [0] ++ (Sz28.prefix_ ++ Sz28.sha m) from rfl, bytesV_append, bytesV_append]
    simp only [List.append_assoc]
    rfl
/-! ### salted_form -/
def spSalted : Sp := fun vs H Q _ => ∃ (k : Nat) (a b : Addr) (m salt : Sz28.Bytes), vs = [.int k, .ref a, .ref b] ∧ H a = some (.lst (bytesV m)) ∧ H b = some (.lst (bytesV salt)) ∧ m.length ≤ 40000 ∧ salt.length = 32 ∧ 128 ≤ k ∧ k ≤ 512 ∧ DoneR H (toInts (Sz28.saltForm k m salt)) Q
theorem scSalted : FnScope ["size", "message", "salt", "salted_sum", "front"] ["size", "message", "salt"] (defScope sSalted) := ⟨rfl, rfl, rfl, by decide +kernel, rfl, by decide +kernel, by decide +kernel⟩
theorem ok_salted {f : Addr} {fd : FuncData} (hSR : GInt mg "SALTED_REST" 66) (hAB : GInt mg "ALL_BUT_HIGHEST_BIT" 127) (hSE : GInt mg "SALTED_END" 188) (hS : Has P w K mg base 4 "sum_of" ["message"] spSum) (hM : Has P w K mg base 6 "masked" ["row", "seed"] spMasked)
    (F : Fun K "salted_form" "salted_form" sSalted f fd) : FnOk P w K mg base CX0 7 f fd ["size", "message", "salt"] spSalted := by
  refine F.ok scSalted (fun vs H Q E h => ?_) (fun cdv A outer s H vs Q E hr h => ?_)
  · obtain ⟨k, a, b, m, salt, rfl, _⟩ := h
    rfl
  · obtain ⟨k, a, b, m, salt, rfl, ha, hb, hlm, hls, hk1, hk2, q⟩ := h
    refine ⟨_, pss_cons (ps_set (i := 3) scSalted.nd rfl (Or.inl rfl) (pe_callH hS hr (by decide) rfl (pa_cons (pe_op op_cat (pe_op op_cat (pe_op op_rep (pe_lst (pa_cons pe_int pa_nil)) pe_int) (pe_callH hS hr (by decide) rfl (pa_cons (pv 1) pa_nil))) (pv 2)) pa_nil)))
      (pss_cons (ps_set (i := 4) scSalted.nd rfl (Or.inl rfl) (pe_callH hM hr (by decide) rfl (pa_cons (pe_op op_cat (pe_op op_cat (pe_op op_rep (pe_lst (pa_cons pe_int pa_nil)) (pe_op op_sub (pv 0) (pe_gint hSR rfl))) (pe_lst (pa_cons pe_int pa_nil))) (pv 2)) (pa_cons (pv 3) pa_nil))))
      (pss_cons (ps_asg (pe_op op_and (pe_ix ix_list (pv 4) pe_int (fun _ _ => rfl)) (pe_gint hAB rfl)) (pg_sub (pv 4) pe_int set_list))
      (pss_one (ps_ret (pe_op op_cat (pe_op op_cat (pv 4) (pv 3)) (pe_lst (pa_cons (pe_gint hSE rfl) pa_nil))))))), ?_⟩
    have hkn : ((k : Int) - 66).toNat = k - 66 := by omega
    refine ⟨by decide, fun l1 h1 => ?_⟩
    obtain ⟨H1, e1, s1, a1⟩ := newAt (.lst [V.int 0]) h1
    rw [e1]
    refine ⟨l1, 8, [V.int 0], rfl, rfl, a1, by decide, by decide, by decide, fun l2 h2 => ?_⟩
    obtain ⟨H2, e2, s2, a2⟩ := newAt (.lst (List.replicate (8 : Int).toNat [V.int 0]).flatten) h2
    rw [e2]
    have a2' : H2 l2 = some (.lst (bytesV (List.replicate 8 0))) := a2
    have S2 := s1.trans s2
    refine ⟨_, rfl, a, m, rfl, S2 _ _ ha, hlm, fun H3 l3 s3 n3 a3 => ?_⟩
    refine ⟨l2, l3, bytesV (List.replicate 8 0), bytesV (Sz28.sha m), rfl, rfl, s3 _ _ a2', a3, (by rw [bytesV_len, bytesV_len, sha_length, List.length_replicate, sizeLine_eq]; omega), fun c1 h4 => ?_⟩
    obtain ⟨H4, e4, s4, a4⟩ := newAt (.lst (bytesV (List.replicate 8 0) ++ bytesV (Sz28.sha m))) h4
    rw [e4]
    have S4 := S2.trans (s3.trans s4)
    refine ⟨_, rfl, c1, b, bytesV (List.replicate 8 0) ++ bytesV (Sz28.sha m), bytesV salt, rfl, rfl, a4, S4 _ _ hb, (by rw [List.length_append, bytesV_len, bytesV_len, bytesV_len, sha_length, List.length_replicate, hls, sizeLine_eq]; omega), fun c2 h5 => ?_⟩
    obtain ⟨H5, e5, s5, a5⟩ := newAt (.lst (bytesV (List.replicate 8 0) ++ bytesV (Sz28.sha m) ++ bytesV salt)) h5
    rw [e5]
    rw [List.append_assoc, ← bytesV_append, ← bytesV_append] at a5
    have hsum : (Sz28.sha (List.replicate 8 0 ++ (Sz28.sha m ++ salt))).length = 32 := sha_length _
    refine ⟨c2, List.replicate 8 0 ++ (Sz28.sha m ++ salt), rfl, a5, (by rw [List.length_append, List.length_append, sha_length, List.length_replicate, hls]; omega), fun H6 ss s6 n6 a6 => ?_⟩
    have hform : Sz28.saltForm k m salt = (((Sz28.mix (List.replicate (k - 66) 0 ++ (1 :: salt)) (Sz28.mask (Sz28.sha (List.replicate 8 0 ++ (Sz28.sha m ++ salt))) (k - 33))).headD 0 &&& 127) :: (Sz28.mix (List.replicate (k - 66) 0 ++ (1 :: salt)) (Sz28.mask (Sz28.sha (List.replicate 8 0 ++ (Sz28.sha m ++ salt))) (k - 33))).drop 1) ++ (Sz28.sha (List.replicate 8 0 ++ (Sz28.sha m ++ salt)) ++ [0xBC]) := by
      unfold Sz28.saltForm
      simp only
      rw [hls, show k - 32 - 34 = k - 66 by omega]
    generalize hSg : Sz28.sha (List.replicate 8 0 ++ (Sz28.sha m ++ salt)) = Sg at a6 hsum hform
    have S6 := S4.trans (s5.trans s6)
    refine ⟨by decide, fun l4 h7 => ?_⟩
    obtain ⟨H7, e7, s7, a7⟩ := newAt (.lst [V.int 0]) h7
    rw [e7]
    refine ⟨_, rfl, _, _, rfl, rfl, l4, (k : Int) - 66, [V.int 0], rfl, rfl, a7, by omega, by omega, (by show 1 * ((k : Int) - 66).toNat ≤ sizeLine; rw [sizeLine_eq]; omega), fun l5 h8 => ?_⟩
    obtain ⟨H8, e8, s8, a8⟩ := newAt (.lst (List.replicate ((k : Int) - 66).toNat [V.int 0]).flatten) h8
    rw [e8]
    rw [hkn, show (0 : Int) = (((0 : UInt8).toNat : Nat) : Int) from rfl, rep_bytes] at a8
    refine ⟨by decide, fun l6 h9 => ?_⟩
    obtain ⟨H9, e9, s9, a9⟩ := newAt (.lst [V.int 1]) h9
    rw [e9]
    refine ⟨l5, l6, bytesV (List.replicate (k - 66) 0), [V.int 1], rfl, rfl, s9 _ _ a8, a9, (by rw [bytesV_len, List.length_replicate, sizeLine_eq]; simp only [List.length_cons, List.length_nil]; omega), fun c3 h10 => ?_⟩
    obtain ⟨H10, e10, s10, a10⟩ := newAt (.lst (bytesV (List.replicate (k - 66) 0) ++ [V.int 1])) h10
    rw [e10]
    have S10 := S6.trans (s7.trans (s8.trans (s9.trans s10)))
    refine ⟨_, rfl, c3, b, bytesV (List.replicate (k - 66) 0) ++ [V.int 1], bytesV salt, rfl, rfl, a10, S10 _ _ hb, (by rw [List.length_append, bytesV_len, bytesV_len, List.length_replicate, hls, sizeLine_eq]; simp only [List.length_cons, List.length_nil]; omega), fun c4 h11 => ?_⟩
    obtain ⟨H11, e11, s11, a11⟩ := newAt (.lst (bytesV (List.replicate (k - 66) 0) ++ [V.int 1] ++ bytesV salt)) h11
    rw [e11]
    have edb : bytesV (List.replicate (k - 66) 0) ++ [V.int 1] ++ bytesV salt = bytesV (List.replicate (k - 66) 0 ++ (1 :: salt)) := by
      rw [bytesV_append, List.append_assoc]
      rfl
    rw [edb] at a11
    have ldb : (List.replicate (k - 66) (0 : UInt8) ++ (1 :: salt)).length = k - 33 := by
      rw [List.length_append, List.length_replicate, List.length_cons, hls]
      omega
    generalize List.replicate (k - 66) (0 : UInt8) ++ (1 :: salt) = db at a11 ldb hform
    have hss := s11 _ _ (s10 _ _ (s9 _ _ (s8 _ _ (s7 _ _ a6))))
    have S11 := S10.trans s11
    refine ⟨_, rfl, c4, ss, db, Sg, rfl, a11, hss, by omega, by omega, fun H12 fr s12 n12 a12 => ?_⟩
    rw [ldb] at a12
    have lfr : (Sz28.mix db (Sz28.mask Sg (k - 33))).length = k - 33 := by rw [mix_length, mask_length, ldb, Nat.min_self]
    generalize Sz28.mix db (Sz28.mask Sg (k - 33)) = x at a12 lfr hform
    match x, lfr with
    | [], lfr => simp at lfr; omega
    | x0 :: xs, lfr =>
      have a12' : H12 fr = some (.lst (bytesV (x0 :: xs))) := a12
      have nfr : H fr = none := S11.free n12
      have hix : ixN (bytesV (x0 :: xs)).length 0 = some 0 := by
        unfold ixN
        rw [if_pos (by decide), if_pos (by rw [bytesV_len, List.length_cons]; omega)]
        rfl
      have hat : atI (bytesV (x0 :: xs)) 0 = some (V.int (x0.toNat : Int)) := by
        unfold atI
        rw [hix]
        rfl
      refine ⟨_, rfl, fr, _, _, _, rfl, rfl, SqL.of a12', hat, _, _, rfl, rfl, _, rfl, fr, bytesV (x0 :: xs), 0, 0, rfl, rfl, a12', hix, ?_⟩
      have hset : (bytesV (x0 :: xs)).set 0 (V.int (Builtin.bitAnd (x0.toNat : Int) 127)) = bytesV ((x0 &&& 127) :: xs) := by
        have e : Builtin.bitAnd (x0.toNat : Int) 127 = (((x0 &&& 127).toNat : Nat) : Int) := by
          rw [UInt8.toNat_and]
          exact bAnd x0.toNat 127
        rw [e]
        rfl
      have hset' : upd H12 fr (.lst ((bytesV (x0 :: xs)).set 0 ((fun i j => V.int (Builtin.bitAnd i j)) (x0.toNat : Int) 127))) = upd H12 fr (.lst (bytesV ((x0 &&& 127) :: xs))) := by
        show upd H12 fr (.lst ((bytesV (x0 :: xs)).set 0 (V.int (Builtin.bitAnd (x0.toNat : Int) 127)))) = _
        rw [hset]
      obtain ⟨H13, e13⟩ : ∃ H13, upd H12 fr (.lst (bytesV ((x0 &&& 127) :: xs))) = H13 := ⟨_, rfl⟩
      have a13 : H13 fr = some (.lst (bytesV ((x0 &&& 127) :: xs))) := by rw [← e13]; exact upd_same
      have S13 : Same H H13 := by rw [← e13]; exact (S11.trans s12).upd nfr
      have hne : ss ≠ fr := ne_of_none hss n12
      have ss13 : H13 ss = some (.lst (bytesV Sg)) := by rw [← e13, upd_ne hne]; exact s12 _ _ hss
      have lxs : xs.length + 1 = k - 33 := lfr
      have step : ∀ (G : Hp → Prop), G H13 → G (upd H12 fr (.lst ((bytesV (x0 :: xs)).set 0 ((fun i j => V.int (Builtin.bitAnd i j)) (x0.toNat : Int) 127)))) := fun G g => by rw [hset', e13]; exact g
      refine step _ ?_
      refine ⟨_, rfl, _, rfl, fr, ss, bytesV ((x0 &&& 127) :: xs), bytesV Sg, rfl, rfl, a13, ss13, (by rw [bytesV_len, bytesV_len, hsum, List.length_cons, sizeLine_eq]; omega), fun c5 h14 => ?_⟩
      obtain ⟨H14, e14, s14, a14⟩ := newAt (.lst (bytesV ((x0 &&& 127) :: xs) ++ bytesV Sg)) h14
      rw [e14]
      refine ⟨by decide, fun l7 h15 => ?_⟩
      obtain ⟨H15, e15, s15, a15⟩ := newAt (.lst [V.int 188]) h15
      rw [e15]
      refine ⟨c5, l7, bytesV ((x0 &&& 127) :: xs) ++ bytesV Sg, [V.int 188], rfl, rfl, s15 _ _ a14, a15, (by rw [List.length_append, bytesV_len, bytesV_len, hsum, List.length_cons, sizeLine_eq]; simp only [List.length_cons, List.length_nil]; omega), fun c6 h16 => ?_⟩
      have S15 := S13.trans (s14.trans s15)
      refine q _ c6 (S15.upd (S15.free h16)) (S15.free h16) ?_
      rw [upd_same, hform]
      show _ = some (HO.lst (bytesV (((x0 &&& 127) :: xs) ++ (Sg ++ [0xBC]))))
      rw [bytesV_append, bytesV_append, List.append_assoc]
      rfl
end
end Gk

set_option Elab.async false
set_option linter.all false
set_option maxRecDepth 100000
set_option maxHeartbeats 4000000
/-! The program's defs: forms that are looked at. -/
namespace Gk
open PySem PySem.Spec PyProof.Rows L2
abbrev sIsSalted : Stmt := top 30
abbrev sFits : Stmt := top 31
abbrev sSealed : Stmt := top 32
abbrev sUnmask : Stmt := top 33
abbrev sSealMsg : Stmt := top 34
theorem cut_bytesLast (b : Sz28.Bytes) {k : Nat} (hk : 0 < k) (hl : k ≤ b.length) : cutV (bytesV b) (some (-(k : Int))) none = bytesV (b.drop (b.length - k)) := by
  unfold bytesV toInts
  rw [List.map_map, List.map_map, cut_last _ _ hk hl]
theorem cut_bytesBut (b : Sz28.Bytes) {i k : Nat} (hk : 0 < k) (hl : i + k ≤ b.length) : cutV (bytesV b) (some (i : Int)) (some (-(k : Int))) = bytesV ((b.drop i).take (b.length - k - i)) := by
  unfold bytesV toInts
  rw [List.map_map, List.map_map, cut_but _ _ hk hl]
theorem ints_inj {a b : Sz28.Bytes} : toInts a = toInts b ↔ a = b := ⟨fun h => by rw [← octets_ints a, ← octets_ints b, h], fun h => by rw [h]⟩
section
variable {P : Program} {w : World} {K : PySem.W.Frag} {mg : Str → Option Value} {base : Heap}
/-! ### is_salted_form -/
def spIsSalted : Sp := fun vs H Q _ => ∃ (a b : Addr) (em m : Sz28.Bytes), vs = [.ref a, .ref b] ∧ H a = some (.lst (bytesV em)) ∧ H b = some (.lst (bytesV m)) ∧ 128 ≤ em.length ∧ em.length ≤ 512 ∧ m.length ≤ 40000 ∧ ∀ H', Same H H' → Q (.bl (Sz28.saltRight em.length m em)) H'
theorem scIsSalted : FnScope ["form", "message", "front_bytes", "salted_sum", "salt"] ["form", "message"] (defScope sIsSalted) := ⟨rfl, rfl, rfl, by decide +kernel, rfl, by decide +kernel, by decide +kernel⟩
theorem ok_isSalted {f : Addr} {fd : FuncData} (hln : mg "len" = none) (hSB : GInt mg "SUM_BYTES" 32) (hST : GInt mg "SALT_BYTES" 32) (hM : Has P w K mg base 6 "masked" ["row", "seed"] spMasked) (hF : Has P w K mg base 7 "salted_form" ["size", "message", "salt"] spSalted)
    (F : Fun K "is_salted_form" "is_salted_form" sIsSalted f fd) : FnOk P w K mg base CX0 8 f fd ["form", "message"] spIsSalted := by
  refine F.ok scIsSalted (fun vs H Q E h => ?_) (fun cdv A outer s H vs Q E hr h => ?_)
  · obtain ⟨a, b, em, m, rfl, _⟩ := h
    rfl
  · obtain ⟨a, b, em, m, rfl, ha, hb, hk1, hk2, hlm, q⟩ := h
    refine ⟨_, pss_cons (ps_set (i := 2) scIsSalted.nd rfl (Or.inl rfl) (pe_op op_sub (pe_op op_sub (pe_callB call_len_seq (by rfl) hln PySem.boot_len (pa_cons (pv 0) pa_nil)) (pe_gint hSB rfl)) pe_int))
      (pss_cons (ps_set (i := 3) scIsSalted.nd rfl (Or.inl rfl) (pe_slice sl_list (pv 0) (po_some (pv 2)) (po_some (pe_un un_neg pe_int))))
      (pss_cons (ps_set (i := 4) scIsSalted.nd rfl (Or.inl rfl) (pe_slice sl_list (pe_callH hM hr (by decide) rfl (pa_cons (pe_slice sl_list (pv 0) po_none (po_some (pv 2))) (pa_cons (pv 3) pa_nil))) (po_some (pe_un un_neg (pe_gint hST rfl))) po_none))
      (pss_one (ps_ret (pe_cmpR (op_eqD hr.units) (pv 0) (pe_callH hF hr (by decide) rfl (pa_cons (pe_callB call_len_seq (by rfl) hln PySem.boot_len (pa_cons (pv 0) pa_nil)) (pa_cons (pv 1) (pa_cons (pv 4) pa_nil)))) (nomark _)))))), ?_⟩
    have eb : (((bytesV em).length : Nat) : Int) - 32 - 1 = ((em.length - 33 : Nat) : Int) := by rw [bytesV_len]; omega
    refine ⟨_, rfl, a, _, rfl, .inl (SqL.of ha), _, _, rfl, rfl, _, _, rfl, rfl, ?_⟩
    dsimp only
    rw [eb]
    refine ⟨_, rfl, _, rfl, _, rfl, _, rfl, _, rfl, a, _, rfl, SqL.of ha, fun ss h1 => ?_⟩
    have ec1 : cutV (bytesV em) (some ((em.length - 33 : Nat) : Int)) (some (-1)) = bytesV ((em.drop (em.length - 33)).take 32) := by
      have h := cut_bytesBut em (i := em.length - 33) (k := 1) (by decide) (by omega)
      rw [show em.length - 1 - (em.length - 33) = 32 by omega] at h
      exact h
    rw [ec1]
    obtain ⟨H1, e1, s1, a1⟩ := newAt (.lst (bytesV ((em.drop (em.length - 33)).take 32))) h1
    rw [e1]
    refine ⟨_, rfl, _, rfl, _, rfl, a, _, rfl, SqL.of (s1 _ _ ha), fun fb h2 => ?_⟩
    rw [cut_bytesTo]
    obtain ⟨H2, e2, s2, a2⟩ := newAt (.lst (bytesV (em.take (em.length - 33)))) h2
    rw [e2]
    have lx : (em.take (em.length - 33)).length = em.length - 33 := by rw [List.length_take]; omega
    have lh : ((em.drop (em.length - 33)).take 32).length = 32 := by rw [List.length_take, List.length_drop]; omega
    refine ⟨_, rfl, fb, ss, em.take (em.length - 33), (em.drop (em.length - 33)).take 32, rfl, a2, s2 _ _ a1, by omega, by omega, fun H3 mk s3 n3 a3 => ?_⟩
    rw [lx] at a3
    have a3' : H3 mk = some (.lst (bytesV (Sz28.mix (em.take (em.length - 33)) (Sz28.mask ((em.drop (em.length - 33)).take 32) (em.length - 33))))) := a3
    have lmk : (Sz28.mix (em.take (em.length - 33)) (Sz28.mask ((em.drop (em.length - 33)).take 32) (em.length - 33))).length = em.length - 33 := by rw [mix_length, mask_length, lx, Nat.min_self]
    refine ⟨_, rfl, _, rfl, mk, _, rfl, SqL.of a3', fun st h4 => ?_⟩
    have ec2 : cutV (bytesV (Sz28.mix (em.take (em.length - 33)) (Sz28.mask ((em.drop (em.length - 33)).take 32) (em.length - 33)))) (some (-32)) none = bytesV (saltOf em) :=
      cut_bytesLast _ (k := 32) (by decide) (by omega)
    rw [ec2]
    obtain ⟨H4, e4, s4, a4⟩ := newAt (.lst (bytesV (saltOf em))) h4
    rw [e4]
    have S4 := s1.trans (s2.trans (s3.trans s4))
    refine ⟨_, rfl, _, rfl, a, _, rfl, .inl (SqL.of (S4 _ _ ha)), _, rfl, _, rfl, (bytesV em).length, b, st, m, saltOf em, rfl, S4 _ _ hb, a4, hlm, saltOf_length (by omega), by rw [bytesV_len]; exact hk1, by rw [bytesV_len]; exact hk2, fun H5 fm s5 n5 a5 => ?_⟩
    rw [bytesV_len] at a5
    have S5 := S4.trans s5
    refine ⟨_, _, Dp.list (ns := toInts em) (SqL.of (S5 _ _ ha)), Dp.list (SqL.of a5), shaped_list _, shaped_list _, ?_⟩
    have eq1 : PyData.eqv (.list ((toInts em).map PyData.int)) (.list ((toInts (Sz28.saltForm em.length m (saltOf em))).map PyData.int)) = Sz28.saltRight em.length m em := by
      rw [eqv_list, salt_iff hk1 rfl]
      exact decide_eq_decide.mpr ints_inj
    rw [eq1]
    exact q H5 S5
/-! ### fits_sealed_form -/
def spFits : Sp := fun vs H Q _ => ∃ (k : Nat) (a : Addr) (l : List V), vs = [.int k, .ref a] ∧ H a = some (.lst l) ∧ Q (.bl (decide ((l.length : Int) ≤ (k : Int) - 66))) H
theorem scFits : FnScope ["size", "message"] ["size", "message"] (defScope sFits) := ⟨rfl, rfl, rfl, by decide +kernel, rfl, by decide +kernel, by decide +kernel⟩
theorem ok_fits {f : Addr} {fd : FuncData} (hln : mg "len" = none) (hSR : GInt mg "SEALED_REST" 66) (F : Fun K "fits_sealed_form" "fits_sealed_form" sFits f fd) : FnOk P w K mg base CX0 1 f fd ["size", "message"] spFits := by
  refine F.ok scFits (fun vs H Q E h => ?_) (fun cdv A outer s H vs Q E hr h => ?_)
  · obtain ⟨k, a, l, rfl, _⟩ := h
    rfl
  · obtain ⟨k, a, l, rfl, ha, q⟩ := h
    refine ⟨_, pss_one (ps_ret (pe_cmpR op_le (pe_callB call_len_seq (by rfl) hln PySem.boot_len (pa_cons (pv 1) pa_nil)) (pe_op op_sub (pv 0) (pe_gint hSR rfl)) (nomark _))), ?_⟩
    exact ⟨_, rfl, a, _, rfl, .inl (SqL.of ha), _, rfl, _, _, rfl, rfl, _, _, rfl, rfl, q⟩
/-! ### sealed_form -/
def spSealed : Sp := fun vs H Q _ => ∃ (k : Nat) (a b c : Addr) (label m seed : Sz28.Bytes), vs = [.int k, .ref a, .ref b, .ref c] ∧ H a = some (.lst (bytesV label)) ∧ H b = some (.lst (bytesV m)) ∧ H c = some (.lst (bytesV seed)) ∧ label.length ≤ 40000 ∧ m.length + 66 ≤ k ∧ seed.length = 32 ∧ k ≤ 512 ∧ DoneR H (toInts (Sz28.sealForm k label m seed)) Q
theorem scSealed : FnScope ["size", "label", "message", "seed", "block", "hidden_block"] ["size", "label", "message", "seed"] (defScope sSealed) := ⟨rfl, rfl, rfl, by decide +kernel, rfl, by decide +kernel, by decide +kernel⟩
theorem ok_sealed {f : Addr} {fd : FuncData} (hln : mg "len" = none) (hSR : GInt mg "SEALED_REST" 66) (hS : Has P w K mg base 4 "sum_of" ["message"] spSum) (hM : Has P w K mg base 6 "masked" ["row", "seed"] spMasked)
    (F : Fun K "sealed_form" "sealed_form" sSealed f fd) : FnOk P w K mg base CX0 7 f fd ["size", "label", "message", "seed"] spSealed := by
  refine F.ok scSealed (fun vs H Q E h => ?_) (fun cdv A outer s H vs Q E hr h => ?_)
  · obtain ⟨k, a, b, c, label, m, seed, rfl, _⟩ := h
    rfl
  · obtain ⟨k, a, b, c, label, m, seed, rfl, ha, hb, hc, hll, hlm, hls, hk, q⟩ := h
    refine ⟨_, pss_cons (ps_set (i := 4) scSealed.nd rfl (Or.inl rfl) (pe_op op_cat (pe_op op_cat (pe_op op_cat (pe_callH hS hr (by decide) rfl (pa_cons (pv 1) pa_nil)) (pe_op op_rep (pe_lst (pa_cons pe_int pa_nil)) (pe_op op_sub (pe_op op_sub (pv 0) (pe_gint hSR rfl)) (pe_callB call_len_seq (by rfl) hln PySem.boot_len (pa_cons (pv 2) pa_nil))))) (pe_lst (pa_cons pe_int pa_nil))) (pv 2)))
      (pss_cons (ps_set (i := 5) scSealed.nd rfl (Or.inl rfl) (pe_callH hM hr (by decide) rfl (pa_cons (pv 4) (pa_cons (pv 3) pa_nil))))
      (pss_one (ps_ret (pe_op op_cat (pe_op op_cat (pe_lst (pa_cons pe_int pa_nil)) (pe_callH hM hr (by decide) rfl (pa_cons (pv 3) (pa_cons (pv 5) pa_nil)))) (pv 5))))), ?_⟩
    refine ⟨_, rfl, a, label, rfl, ha, hll, fun H1 l1 s1 n1 a1 => ?_⟩
    refine ⟨by decide, fun l2 h2 => ?_⟩
    obtain ⟨H2, e2, s2, a2⟩ := newAt (.lst [V.int 0]) h2
    rw [e2]
    have S2 := s1.trans s2
    have hkn : ((k : Int) - 66 - (((bytesV m).length : Nat) : Int)).toNat = k - m.length - 66 := by rw [bytesV_len]; omega
    refine ⟨_, rfl, _, _, rfl, rfl, _, rfl, b, _, rfl, .inl (SqL.of (S2 _ _ hb)), _, _, rfl, rfl, l2, (k : Int) - 66 - (((bytesV m).length : Nat) : Int), [V.int 0], rfl, rfl, a2, by rw [bytesV_len]; omega, by rw [bytesV_len]; omega, (by show 1 * ((k : Int) - 66 - (((bytesV m).length : Nat) : Int)).toNat ≤ sizeLine; rw [hkn, sizeLine_eq]; omega), fun l3 h3 => ?_⟩
    obtain ⟨H3, e3, s3, a3⟩ := newAt (.lst (List.replicate ((k : Int) - 66 - (((bytesV m).length : Nat) : Int)).toNat [V.int 0]).flatten) h3
    rw [e3]
    rw [hkn, show (0 : Int) = (((0 : UInt8).toNat : Nat) : Int) from rfl, rep_bytes] at a3
    refine ⟨l1, l3, bytesV (Sz28.sha label), bytesV (List.replicate (k - m.length - 66) 0), rfl, rfl, s3 _ _ (s2 _ _ a1), a3, (by rw [bytesV_len, bytesV_len, List.length_replicate, sha_length, sizeLine_eq]; omega), fun c1 h4 => ?_⟩
    obtain ⟨H4, e4, s4, a4⟩ := newAt (.lst (bytesV (Sz28.sha label) ++ bytesV (List.replicate (k - m.length - 66) 0))) h4
    rw [e4]
    refine ⟨by decide, fun l4 h5 => ?_⟩
    obtain ⟨H5, e5, s5, a5⟩ := newAt (.lst [V.int 1]) h5
    rw [e5]
    refine ⟨c1, l4, bytesV (Sz28.sha label) ++ bytesV (List.replicate (k - m.length - 66) 0), [V.int 1], rfl, rfl, s5 _ _ a4, a5, (by rw [List.length_append, bytesV_len, bytesV_len, List.length_replicate, sha_length, sizeLine_eq]; simp only [List.length_cons, List.length_nil]; omega), fun c2 h6 => ?_⟩
    obtain ⟨H6, e6, s6, a6⟩ := newAt (.lst (bytesV (Sz28.sha label) ++ bytesV (List.replicate (k - m.length - 66) 0) ++ [V.int 1])) h6
    rw [e6]
    have S6 := S2.trans (s3.trans (s4.trans (s5.trans s6)))
    refine ⟨_, rfl, c2, b, bytesV (Sz28.sha label) ++ bytesV (List.replicate (k - m.length - 66) 0) ++ [V.int 1], bytesV m, rfl, rfl, a6, S6 _ _ hb, (by rw [List.length_append, List.length_append, bytesV_len, bytesV_len, bytesV_len, List.length_replicate, sha_length, sizeLine_eq]; simp only [List.length_cons, List.length_nil]; omega), fun c3 h7 => ?_⟩
    obtain ⟨H7, e7, s7, a7⟩ := newAt (.lst (bytesV (Sz28.sha label) ++ bytesV (List.replicate (k - m.length - 66) 0) ++ [V.int 1] ++ bytesV m)) h7
    rw [e7]
    have edb : bytesV (Sz28.sha label) ++ bytesV (List.replicate (k - m.length - 66) 0) ++ [V.int 1] ++ bytesV m = bytesV (Sz28.sha label ++ (List.replicate (k - m.length - 66) 0 ++ (1 :: m))) := by
      rw [bytesV_append, bytesV_append, List.append_assoc, List.append_assoc]
      rfl
    rw [edb] at a7
    have hform : Sz28.sealForm k label m seed = 0 :: (Sz28.mix seed (Sz28.mask (Sz28.mix (Sz28.sha label ++ (List.replicate (k - m.length - 66) 0 ++ (1 :: m))) (Sz28.mask seed (k - 33))) 32) ++ Sz28.mix (Sz28.sha label ++ (List.replicate (k - m.length - 66) 0 ++ (1 :: m))) (Sz28.mask seed (k - 33))) := rfl
    have ldb : (Sz28.sha label ++ (List.replicate (k - m.length - 66) 0 ++ (1 :: m))).length = k - 33 := by
      rw [List.length_append, List.length_append, List.length_replicate, List.length_cons, sha_length]
      omega
    generalize Sz28.sha label ++ (List.replicate (k - m.length - 66) 0 ++ (1 :: m)) = db at a7 ldb hform
    have S7 := S6.trans s7
    refine ⟨_, rfl, _, rfl, c3, c, db, seed, rfl, a7, S7 _ _ hc, by omega, by omega, fun H8 hb8 s8 n8 a8 => ?_⟩
    rw [ldb] at a8
    have lx : (Sz28.mix db (Sz28.mask seed (k - 33))).length = k - 33 := by rw [mix_length, mask_length, ldb, Nat.min_self]
    generalize Sz28.mix db (Sz28.mask seed (k - 33)) = x at a8 lx hform
    have a8' : H8 hb8 = some (.lst (bytesV x)) := a8
    refine ⟨by decide, fun l5 h9 => ?_⟩
    obtain ⟨H9, e9, s9, a9⟩ := newAt (.lst [V.int 0]) h9
    rw [e9]
    have S9 := S7.trans (s8.trans s9)
    refine ⟨_, rfl, _, rfl, c, hb8, seed, x, rfl, S9 _ _ hc, s9 _ _ a8', by omega, by omega, fun H10 ms s10 n10 a10 => ?_⟩
    rw [hls] at a10
    refine ⟨l5, ms, [V.int 0], bytesV (Sz28.mix seed (Sz28.mask x 32)), rfl, rfl, s10 _ _ a9, a10, (by rw [bytesV_len, mix_length, mask_length, hls, sizeLine_eq]; simp only [List.length_cons, List.length_nil]; omega), fun c4 h11 => ?_⟩
    obtain ⟨H11, e11, s11, a11⟩ := newAt (.lst ([V.int 0] ++ bytesV (Sz28.mix seed (Sz28.mask x 32)))) h11
    rw [e11]
    refine ⟨_, rfl, c4, hb8, [V.int 0] ++ bytesV (Sz28.mix seed (Sz28.mask x 32)), bytesV x, rfl, rfl, a11, s11 _ _ (s10 _ _ (s9 _ _ a8')), (by rw [List.length_append, bytesV_len, bytesV_len, mix_length, mask_length, hls, lx, sizeLine_eq]; simp only [List.length_cons, List.length_nil]; omega), fun c5 h12 => ?_⟩
    have S11 := S9.trans (s10.trans s11)
    refine q _ c5 (S11.upd (S11.free h12)) (S11.free h12) ?_
    rw [upd_same, hform]
    show _ = some (HO.lst (bytesV ([0] ++ (Sz28.mix seed (Sz28.mask x 32) ++ x))))
    rw [bytesV_append, bytesV_append, List.append_assoc]
    rfl
/-! ### unmasked_block -/
def spUnmask : Sp := fun vs H Q _ => ∃ (a : Addr) (em : Sz28.Bytes), vs = [.ref a] ∧ H a = some (.lst (bytesV em)) ∧ 128 ≤ em.length ∧ em.length ≤ 512 ∧ DoneR H (toInts (sealBlock em)) Q
theorem scUnmask : FnScope ["form", "hidden_block", "seed"] ["form"] (defScope sUnmask) := ⟨rfl, rfl, rfl, by decide +kernel, rfl, by decide +kernel, by decide +kernel⟩
theorem ok_unmask {f : Addr} {fd : FuncData} (hSd : GInt mg "SEED_BYTES" 32) (hM : Has P w K mg base 6 "masked" ["row", "seed"] spMasked) (F : Fun K "unmasked_block" "unmasked_block" sUnmask f fd) : FnOk P w K mg base CX0 7 f fd ["form"] spUnmask := by
  refine F.ok scUnmask (fun vs H Q E h => ?_) (fun cdv A outer s H vs Q E hr h => ?_)
  · obtain ⟨a, em, rfl, _⟩ := h
    rfl
  · obtain ⟨a, em, rfl, ha, hk1, hk2, q⟩ := h
    refine ⟨_, pss_cons (ps_set (i := 1) scUnmask.nd rfl (Or.inl rfl) (pe_slice sl_list (pv 0) (po_some (pe_op op_add pe_int (pe_gint hSd rfl))) po_none))
      (pss_cons (ps_set (i := 2) scUnmask.nd rfl (Or.inl rfl) (pe_callH hM hr (by decide) rfl (pa_cons (pe_slice sl_list (pv 0) (po_some pe_int) (po_some (pe_op op_add pe_int (pe_gint hSd rfl)))) (pa_cons (pv 1) pa_nil))))
      (pss_one (ps_ret (pe_callH hM hr (by decide) rfl (pa_cons (pv 1) (pa_cons (pv 2) pa_nil)))))), ?_⟩
    refine ⟨_, rfl, _, _, rfl, rfl, _, rfl, a, _, rfl, SqL.of ha, fun hb h1 => ?_⟩
    have ec1 : cutV (bytesV em) (some ((1 : Int) + 32)) none = bytesV (em.drop 33) := cut_bytesFrom em 33
    rw [ec1]
    obtain ⟨H1, e1, s1, a1⟩ := newAt (.lst (bytesV (em.drop 33))) h1
    rw [e1]
    refine ⟨_, rfl, _, rfl, _, _, rfl, rfl, _, rfl, a, _, rfl, SqL.of (s1 _ _ ha), fun sd h2 => ?_⟩
    have ec2 : cutV (bytesV em) (some 1) (some ((1 : Int) + 32)) = bytesV ((em.drop 1).take 32) := cut_bytes em 1 33
    rw [ec2]
    obtain ⟨H2, e2, s2, a2⟩ := newAt (.lst (bytesV ((em.drop 1).take 32))) h2
    rw [e2]
    have l1 : (em.drop 33).length = em.length - 33 := List.length_drop ..
    have l2 : ((em.drop 1).take 32).length = 32 := by rw [List.length_take, List.length_drop]; omega
    refine ⟨_, rfl, sd, hb, (em.drop 1).take 32, em.drop 33, rfl, a2, s2 _ _ a1, by omega, by omega, fun H3 mk s3 n3 a3 => ?_⟩
    rw [l2] at a3
    have a3' : H3 mk = some (.lst (bytesV (Sz28.mix ((em.drop 1).take 32) (Sz28.mask (em.drop 33) 32)))) := a3
    refine ⟨_, rfl, _, rfl, hb, mk, em.drop 33, Sz28.mix ((em.drop 1).take 32) (Sz28.mask (em.drop 33) 32), rfl, s3 _ _ (s2 _ _ a1), a3', by omega, (by rw [mix_length, mask_length]; omega), fun H4 r s4 n4 a4 => ?_⟩
    rw [l1] at a4
    have S3 := s1.trans (s2.trans s3)
    exact q H4 r (S3.trans s4) (S3.free n4) a4
end
end Gk

set_option Elab.async false
set_option linter.all false
set_option maxRecDepth 100000
set_option maxHeartbeats 4000000
/-! The program's defs: a sealed form opened; a key put to a number. -/
namespace Gk
open PySem PySem.Spec PyProof.Rows L2
section
variable {P : Program} {w : World} {K : PySem.W.Frag} {mg : Str → Option Value} {base : Heap}
/-! ### sealed_message -/
def spSealMsg : Sp := fun vs H Q _ => ∃ (a b : Addr) (em label : Sz28.Bytes), vs = [.ref a, .ref b] ∧ H a = some (.lst (bytesV em)) ∧ H b = some (.lst (bytesV label)) ∧ 128 ≤ em.length ∧ em.length ≤ 512 ∧ label.length ≤ 40000 ∧
  (Sz28.sealOpened em.length label em = none → ∀ H', Same H H' → Q .non H') ∧ (∀ m, Sz28.sealOpened em.length label em = some m → DoneR H (toInts m) Q)
theorem scSealMsg : FnScope ["form", "label", "block", "place"] ["form", "label"] (defScope sSealMsg) := ⟨rfl, rfl, rfl, by decide +kernel, rfl, by decide +kernel, by decide +kernel⟩
theorem bytesV_at {x : Sz28.Bytes} {i : Nat} {b : UInt8} (h : x[i]? = some b) : (bytesV x)[i]? = some (V.int (b.toNat : Int)) := by
  unfold bytesV toInts
  rw [List.map_map, List.getElem?_map, h]
  rfl
theorem byte_ne (b c : UInt8) : ((b.toNat : Int) = (c.toNat : Int)) ↔ b = c := ⟨fun h => UInt8.toNat_inj.mp (by omega), fun h => by rw [h]⟩
theorem ok_sealMsg {f : Addr} {fd : FuncData} (hln : mg "len" = none) (hSB : GInt mg "SUM_BYTES" 32) (hU : Has P w K mg base 7 "unmasked_block" ["form"] spUnmask) (hS : Has P w K mg base 4 "sum_of" ["message"] spSum)
    (F : Fun K "sealed_message" "sealed_message" sSealMsg f fd) : FnOk P w K mg base CX0 8 f fd ["form", "label"] spSealMsg := by
  refine F.ok scSealMsg (fun vs H Q E h => ?_) (fun cdv A outer s H vs Q E hr h => ?_)
  · obtain ⟨a, b, em, label, rfl, _⟩ := h
    rfl
  · obtain ⟨a, b, em, label, rfl, ha, hb, hk1, hk2, hll, qn, qs⟩ := h
    refine ⟨_, pss_cons (ps_set (i := 2) scSealMsg.nd rfl (Or.inl rfl) (pe_callH hU hr (by decide) rfl (pa_cons (pv 0) pa_nil)))
      (pss_cons (ps_if (PW.pt (pw_or (pt_cmp (pc_neI (pe_ix ix_list (pv 0) pe_int (fun _ _ => rfl)) pe_int)) (pw_or1 (pt_cmpR (op_neD hr.units) (pe_slice sl_list (pv 2) po_none (po_some (pe_gint hSB rfl))) (pe_callH hS hr (by decide) rfl (pa_cons (pv 1) pa_nil)) (nomark _))))) (pss_one (ps_ret pe_non)) pss_nil)
      (pss_cons (ps_set (i := 3) scSealMsg.nd rfl (Or.inl rfl) (pe_gint hSB rfl))
      (pss_cons (ps_while PassesOwn.never (PW.pt (pw_and (pt_cmp (pc_lt (pv 3) (pe_callB call_len_seq (by rfl) hln PySem.boot_len (pa_cons (pv 2) pa_nil)))) (pw_and1 (pt_cmp (pc_eqI (pe_ix ix_list (pv 2) (pv 3) (fun _ _ => rfl)) pe_int)))))
        (pss_one (ps_aug (i := 3) scSealMsg.nd rfl (Or.inl rfl) pe_int ip_add)))
      (pss_cons (ps_if (PW.pt (pw_or (pt_cmp (pc_eqI (pv 3) (pe_callB call_len_seq (by rfl) hln PySem.boot_len (pa_cons (pv 2) pa_nil)))) (pw_or1 (pt_cmp (pc_neI (pe_ix ix_list (pv 2) (pv 3) (fun _ _ => rfl)) pe_int))))) (pss_one (ps_ret pe_non)) pss_nil)
      (pss_one (ps_ret (pe_slice sl_list (pv 2) (po_some (pe_op op_add (pv 3) pe_int)) po_none))))))), ?_⟩
    refine ⟨_, rfl, a, em, rfl, ha, hk1, hk2, fun H1 bl s1 n1 a1 => ?_⟩
    have a1' : H1 bl = some (.lst (bytesV (sealBlock em))) := a1
    have lb := sealBlock_length (em := em) (by omega)
    have hno := sealOpened_no (label := label) (em := em) rfl
    have heq := sealOpened_eq (label := label) (em := em) rfl
    obtain ⟨e0, es, hem⟩ : ∃ e0 es, em = e0 :: es := by
      cases em with
      | nil => simp at hk1
      | cons e0 es => exact ⟨e0, es, rfl⟩
    have hhead : em.headD 1 = e0 := by rw [hem]; rfl
    have hat0 : atI (bytesV em) 0 = some (V.int (e0.toNat : Int)) := atI_nat (j := 0) (bytesV_at (by rw [hem]; rfl))
    rw [hhead] at hno heq
    clear hem hhead
    generalize sealBlock em = db at a1' lb hno heq
    refine ⟨_, rfl, a, _, _, _, rfl, rfl, SqL.of (s1 _ _ ha), hat0, _, _, rfl, rfl, _, rfl, iteN (fun h0 => iteT ?_) (fun h0 => ?_)⟩
    · refine qn (hno fun z => ?_) _ s1
      exact h0 ((byte_ne e0 0).mpr z.1)
    have he0 : e0 = 0 := (byte_ne e0 0).mp h0
    refine ⟨_, rfl, _, rfl, bl, _, rfl, SqL.of a1', fun c h2 => ?_⟩
    have ec : cutV (bytesV db) none (some 32) = bytesV (db.take 32) := cut_bytesTo db 32
    rw [ec]
    obtain ⟨H2, e2, s2, a2⟩ := newAt (.lst (bytesV (db.take 32))) h2
    rw [e2]
    refine ⟨_, rfl, b, label, rfl, s2 _ _ (s1 _ _ hb), hll, fun H3 sm s3 n3 a3 => ?_⟩
    have S3 := s1.trans (s2.trans s3)
    refine ⟨_, _, Dp.list (ns := toInts (db.take 32)) (SqL.of (s3 _ _ a2)), Dp.list (SqL.of a3), shaped_list _, shaped_list _, _, rfl, ?_⟩
    rw [eqv_list]
    refine iteN (fun h1 => ?_) (fun h1 => ?_)
    · exact qn (hno fun z => h1 (by rw [z.2])) _ S3
    have h1' : db.take 32 = Sz28.sha label := ints_inj.mp h1
    have hbl := s3 _ _ (s2 _ _ a1')
    refine ⟨fun t σ H' => ∃ n, 32 ≤ n ∧ n ≤ db.length ∧ t = db.length - n ∧ σ = [some (.ref a), some (.ref b), some (.ref bl), some (.int (n : Nat))] ∧ H' = H3 ∧ (db.drop 32).dropWhile (fun b => b == 0) = (db.drop n).dropWhile (fun b => b == 0), ⟨_, 32, Nat.le_refl _, by omega, rfl, rfl, rfl, rfl⟩, ?_⟩
    rintro t σ H' ⟨n, hn1, hn2, rfl, rfl, rfl, hdw⟩
    have hlen : (bytesV db).length = db.length := bytesV_len db
    refine ⟨_, rfl, _, rfl, bl, _, rfl, .inl (SqL.of hbl), _, _, rfl, rfl, _, rfl, ?_⟩
    rw [hlen]
    refine iteD (fun hlt => ?_) (fun hlt => ?_)
    · have hlt' : n < db.length := by omega
      obtain ⟨bv, hbv⟩ : ∃ bv, db[n]? = some bv := ⟨_, List.getElem?_eq_getElem hlt'⟩
      have hdn := dropWhile_at hbv
      have hat := atI_nat (bytesV_at hbv)
      refine ⟨_, rfl, _, rfl, bl, _, _, _, rfl, rfl, SqL.of hbl, hat, _, _, rfl, rfl, _, rfl, iteD (fun hz => ?_) (fun hz => ?_)⟩
      · have hz' : bv = 0 := (byte_ne bv 0).mp hz
        refine ⟨fun σ' H'' => ∃ t', t' < db.length - n ∧ ∃ n, 32 ≤ n ∧ n ≤ db.length ∧ t' = db.length - n ∧ σ' = [some (.ref a), some (.ref b), some (.ref bl), some (.int (n : Nat))] ∧ H'' = H' ∧ (db.drop 32).dropWhile (fun b => b == 0) = (db.drop n).dropWhile (fun b => b == 0), fun _ _ z => z, ?_⟩
        refine ⟨_, rfl, _, _, rfl, rfl, db.length - (n + 1), by omega, n + 1, by omega, by omega, rfl, rfl, rfl, ?_⟩
        rw [hdw, hdn, if_pos hz']
      · have hz' : bv ≠ 0 := fun z => hz ((byte_ne bv 0).mpr z)
        rw [if_neg hz'] at hdn
        have edr : db.drop n = bv :: db.drop (n + 1) := by
          rw [List.drop_eq_getElem_cons hlt']
          congr 1
          exact (List.getElem?_eq_some_iff.mp hbv).2
        rw [hdw, hdn, edr] at heq
        simp only [List.headD_cons, List.drop_succ_cons, List.drop_zero] at heq
        refine ⟨_, rfl, _, rfl, bl, _, rfl, .inl (SqL.of hbl), _, _, rfl, rfl, _, rfl, ?_⟩
        rw [hlen]
        refine iteD (fun hz2 => absurd hz2 (by omega)) (fun hz2 => ?_)
        refine ⟨_, rfl, _, rfl, bl, _, _, _, rfl, rfl, SqL.of hbl, hat, _, _, rfl, rfl, _, rfl, iteN (fun h3 => ?_) (fun h3 => ?_)⟩
        · rw [if_neg (fun z => h3 ((byte_ne bv 1).mpr z.2.2))] at heq
          exact qn heq _ S3
        · rw [if_pos ⟨he0, h1', (byte_ne bv 1).mp h3⟩] at heq
          refine ⟨_, rfl, _, rfl, _, _, rfl, rfl, _, rfl, bl, _, rfl, SqL.of hbl, fun p hp => ?_⟩
          have ec2 : cutV (bytesV db) (some ((n : Int) + 1)) none = bytesV (db.drop (n + 1)) := cut_bytesFrom db (n + 1)
          rw [ec2]
          exact qs _ heq _ p (S3.upd (S3.free hp)) (S3.free hp) upd_same
    · have hn : n = db.length := by omega
      refine ⟨_, rfl, _, rfl, bl, _, rfl, .inl (SqL.of hbl), _, _, rfl, rfl, _, rfl, ?_⟩
      rw [hlen]
      refine iteD (fun hz2 => iteT ?_) (fun hz2 => absurd (by omega) hz2)
      rw [hdw, hn, List.drop_length] at heq
      rw [if_neg (fun z => by have := z.2.2; simp at this)] at heq
      exact qn heq _ S3
/-! ### Key.is_open, open_of, secret_of -/
abbrev sIsOpen : Stmt := inClass (top 52) 1
abbrev sOpenOf : Stmt := inClass (top 52) 2
abbrev sSecretOf : Stmt := inClass (top 52) 3
def spIsOpen (C : Addr) : Sp := fun vs H Q _ => ∃ (a : Addr) (k : Sz28.Key), vs = [.ref a] ∧ KeyAt C H a k ∧ Q (.bl (decide (k.d = 0))) H
theorem scIsOpen : FnScope ["self"] ["self"] (defScope sIsOpen) := ⟨rfl, rfl, rfl, by decide +kernel, rfl, by decide +kernel, by decide +kernel⟩
theorem ok_isOpen {f C : Addr} {fd : FuncData} (T : TKey K C) (F : Fun K "is_open" "Key.is_open" sIsOpen f fd) : FnOk P w K mg base CX0 1 f fd ["self"] (spIsOpen C) := by
  refine F.ok scIsOpen (fun vs H Q E h => ?_) (fun cdv A outer s H vs Q E hr h => ?_)
  · obtain ⟨a, k, rfl, _⟩ := h
    rfl
  · obtain ⟨a, k, rfl, ⟨dx, ha⟩, q⟩ := h
    refine ⟨_, pss_one (ps_ret (pe_cmp (pc_eqI (pe_fld (pv 0) rfl) pe_int))), ?_⟩
    have e : decide (k.d = 0) = decide ((k.d : Int) = 0) := decide_eq_decide.mpr (by omega)
    rw [e] at q
    exact ⟨_, rfl, a, C, dx, _, _, rfl, ha, T.cl, T.nD, keyF_sec k, _, _, rfl, rfl, q⟩
def spPut (C : Addr) (g : Sz28.Key → Nat → Nat) : Sp := fun vs H Q _ => ∃ (a : Addr) (k : Sz28.Key) (x : Nat), vs = [.ref a, .int x] ∧ KeyAt C H a k ∧ KeyOk k ∧ x < 2 ^ 8200 ∧ ∀ H', Same H H' → Q (.int (g k x : Nat)) H'
theorem scOpenOf : FnScope ["self", "number"] ["self", "number"] (defScope sOpenOf) := ⟨rfl, rfl, rfl, by decide +kernel, rfl, by decide +kernel, by decide +kernel⟩
theorem scSecretOf : FnScope ["self", "number"] ["self", "number"] (defScope sSecretOf) := ⟨rfl, rfl, rfl, by decide +kernel, rfl, by decide +kernel, by decide +kernel⟩
theorem KeyOk.small {k : Sz28.Key} (h : KeyOk k) : k.n < 2 ^ 8200 := by
  refine Nat.lt_of_lt_of_le h.lt (Nat.pow_le_pow_right (by decide) ?_)
  have := h.size.pos
  omega
theorem ok_openOf {f C : Addr} {fd : FuncData} (T : TKey K C) (hP : Has P w K mg base 2 "power" ["base", "exponent", "modulus"] spPower) (F : Fun K "open_of" "Key.open_of" sOpenOf f fd) : FnOk P w K mg base CX0 3 f fd ["self", "number"] (spPut C Sz28.Key.open_) := by
  refine F.ok scOpenOf (fun vs H Q E h => ?_) (fun cdv A outer s H vs Q E hr h => ?_)
  · obtain ⟨a, k, x, rfl, _⟩ := h
    rfl
  · obtain ⟨a, k, x, rfl, ⟨dx, ha⟩, hok, hx, q⟩ := h
    refine ⟨_, pss_one (ps_ret (pe_callH hP hr (by decide) rfl (pa_cons (pv 1) (pa_cons (pe_fld (pv 0) rfl) (pa_cons (pe_fld (pv 0) rfl) pa_nil))))), ?_⟩
    have he : k.e < 2 ^ 8200 := Nat.lt_of_lt_of_le hok.e (Nat.pow_le_pow_right (by decide) (by decide))
    refine ⟨_, rfl, _, rfl, a, C, dx, _, _, rfl, ha, T.cl, T.nE, keyF_exp k, _, rfl, a, C, dx, _, _, rfl, ha, T.cl, T.nM, keyF_mod k, x, k.e, k.n, rfl, hok.gt, hx, hok.small, he, fun H' s' => ?_⟩
    have := q H' s'
    unfold Sz28.Key.open_ at this
    rw [raised_eq] at this
    exact this
theorem ok_secretOf {f C : Addr} {fd : FuncData} (T : TKey K C) (hP : Has P w K mg base 2 "power" ["base", "exponent", "modulus"] spPower) (F : Fun K "secret_of" "Key.secret_of" sSecretOf f fd) : FnOk P w K mg base CX0 3 f fd ["self", "number"] (spPut C Sz28.Key.secret) := by
  refine F.ok scSecretOf (fun vs H Q E h => ?_) (fun cdv A outer s H vs Q E hr h => ?_)
  · obtain ⟨a, k, x, rfl, _⟩ := h
    rfl
  · obtain ⟨a, k, x, rfl, ⟨dx, ha⟩, hok, hx, q⟩ := h
    refine ⟨_, pss_one (ps_ret (pe_callH hP hr (by decide) rfl (pa_cons (pv 1) (pa_cons (pe_fld (pv 0) rfl) (pa_cons (pe_fld (pv 0) rfl) pa_nil))))), ?_⟩
    refine ⟨_, rfl, _, rfl, a, C, dx, _, _, rfl, ha, T.cl, T.nD, keyF_sec k, _, rfl, a, C, dx, _, _, rfl, ha, T.cl, T.nM, keyF_mod k, x, k.d, k.n, rfl, hok.gt, hx, hok.small, Nat.lt_trans hok.d hok.small, fun H' s' => ?_⟩
    have := q H' s'
    unfold Sz28.Key.secret at this
    rw [raised_eq] at this
    exact this
end
end Gk

set_option Elab.async false
set_option linter.all false
set_option maxRecDepth 100000
set_option maxHeartbeats 4000000
/-! The program's class Holder: the calls 5 and 6. -/
namespace Gk
open PySem PySem.Spec PyProof.Rows L2
abbrev sIsKind : Stmt := top 69
abbrev sIsLen : Stmt := top 70
abbrev sRsSign : Stmt := inClass (top 71) 5
abbrev sRsCheck : Stmt := inClass (top 71) 6
abbrev sIsRight : Stmt := inClass (top 71) 7
theorem keyF_no (k : Sz28.Key) {m : Str} (h1 : ¬ m = "size") (h2 : ¬ m = "modulus") (h3 : ¬ m = "exponent") (h4 : ¬ m = "secret") : (keyF k).lookup m = none := by
  unfold keyF
  rw [look_ne h1, look_ne h2, look_ne h3, look_ne h4]
  rfl
theorem rowV {m : List Int} (h : Row m) : m.map V.int = bytesV (ob m) := by
  unfold bytesV
  rw [ints_octets h]
theorem ob_take (l : List Int) (n : Nat) : ob (l.take n) = (ob l).take n := List.map_take ..
theorem ob_length (l : List Int) : (ob l).length = l.length := length_octets l
theorem big_small {x : Sz28.Bytes} (h : x.length ≤ 512) : Sz28.big x < 2 ^ 8200 := by
  refine Nat.lt_of_lt_of_le (big_lt x) ?_
  have e : (256 : Nat) = 2 ^ 8 := rfl
  rw [e, ← Nat.pow_mul]
  exact Nat.pow_le_pow_right (by decide) (by omega)
section
variable {P : Program} {w : World} {K : PySem.W.Frag} {mg : Str → Option Value} {base : Heap}
/-! ### is_kind, is_length -/
def spIsKind : Sp := fun vs H Q _ => ∃ (z : Int), vs = [.int z] ∧ ∀ H', Same H H' → Q (.bl (decide (z = 0 ∨ z = 1))) H'
theorem scIsKind : FnScope ["kind"] ["kind"] (defScope sIsKind) := ⟨rfl, rfl, rfl, by decide +kernel, rfl, by decide +kernel, by decide +kernel⟩
theorem inV_kinds (z : Int) : inV (.int z) [V.int 0, V.int 1] = decide (z = 0 ∨ z = 1) := by
  show (((0 : Int) == z) || (((1 : Int) == z) || false)) = _
  rw [Bool.eq_iff_iff, decide_eq_true_iff]
  simp only [Bool.or_eq_true, beq_iff_eq, Bool.false_eq_true, or_false]
  omega
theorem ok_isKind {f : Addr} {fd : FuncData} (hP : GInt mg "PLAIN" 0) (hS : GInt mg "SALTED" 1) (F : Fun K "is_kind" "is_kind" sIsKind f fd) : FnOk P w K mg base CX0 1 f fd ["kind"] spIsKind := by
  refine F.ok scIsKind (fun vs H Q E h => ?_) (fun cdv A outer s H vs Q E hr h => ?_)
  · obtain ⟨z, rfl, _⟩ := h
    rfl
  · obtain ⟨z, rfl, q⟩ := h
    refine ⟨_, pss_one (ps_ret (pe_cmpR op_in_seq (pv 0) (pe_tup (pa_cons (pe_gint hP rfl) (pa_cons (pe_gint hS rfl) pa_nil))) (by with_unfolding_all rfl))), ?_⟩
    refine ⟨_, rfl, by decide, fun t ht => ⟨t, _, rfl, .inr (SqT.of upd_same), rfl, rfl, ?_⟩⟩
    rw [if_neg Bool.false_ne_true, inV_kinds]
    exact q _ (Same.new ht)
def spIsLen : Sp := fun vs H Q _ => ∃ (a : Addr) (l : List V), vs = [.ref a] ∧ H a = some (.lst l) ∧ l.length ≤ 16777216 ∧ Q (.bl true) H
theorem scIsLen : FnScope ["row"] ["row"] (defScope sIsLen) := ⟨rfl, rfl, rfl, by decide +kernel, rfl, by decide +kernel, by decide +kernel⟩
theorem ok_isLen {f : Addr} {fd : FuncData} (hln : mg "len" = none) (hMB : GInt mg "MOST_BYTES" 16777216) (F : Fun K "is_length" "is_length" sIsLen f fd) : FnOk P w K mg base CX0 1 f fd ["row"] spIsLen := by
  refine F.ok scIsLen (fun vs H Q E h => ?_) (fun cdv A outer s H vs Q E hr h => ?_)
  · obtain ⟨a, l, rfl, _⟩ := h
    rfl
  · obtain ⟨a, l, rfl, ha, hl, q⟩ := h
    refine ⟨_, pss_one (ps_ret (pe_cmpR op_le (pe_callB call_len_seq (by rfl) hln PySem.boot_len (pa_cons (pv 0) pa_nil)) (pe_gint hMB rfl) (nomark _))), ?_⟩
    refine ⟨_, rfl, a, _, rfl, .inl (SqL.of ha), _, _, rfl, rfl, ?_⟩
    have q' : Q (.bl (decide ((l.length : Int) ≤ 16777216))) H := by
      rw [decide_eq_true (by omega)]
      exact q
    exact q'
/-! ### rs_sign -/
def spRsSign (Ch Ck : Addr) : Sp := fun vs H Q _ => ∃ (a dx l t : Addr) (v : V) (w : Int) (m s : List Int) (st : Sz28.St), vs = [.ref a, .int w, .ref l, .ref t] ∧ H a = some (.ins Ch dx (heldF v)) ∧ HoldV Ck H v st ∧ StOk st ∧ H l = some (.lst (m.map V.int)) ∧ H t = some (.lst (s.map V.int)) ∧ Row m ∧ Row s ∧ m.length ≤ 30000 ∧ s.length = 32 ∧ DoneR H (stp st [[5, w], m, s]).2 Q
theorem scRsSign : FnScope ["self", "kind", "message", "salt", "size", "form"] ["self", "kind", "message", "salt"] (defScope sRsSign) := ⟨rfl, rfl, rfl, by decide +kernel, rfl, by decide +kernel, by decide +kernel⟩
theorem ok_rsSign {f Ch Ck : Addr} {fd : FuncData} (T : THold K Ch) (TK : TKey K Ck) (hNK : GInt mg "NO_KEY" (-2)) (hWI : GInt mg "WRONG_INPUT" (-1)) (hOK : GInt mg "OPEN_KEY" (-4)) (hPL : GInt mg "PLAIN" 0)
    (hKd : Has P w K mg base 1 "is_kind" ["kind"] spIsKind) (hLn : Has P w K mg base 1 "is_length" ["row"] spIsLen) (hIO : HasM P w K mg base 1 Ck "is_open" ["self"] (spIsOpen Ck)) (hSec : HasM P w K mg base 3 Ck "secret_of" ["self", "number"] (spPut Ck Sz28.Key.secret))
    (hPf : Has P w K mg base 5 "plain_form" ["size", "message"] spPlain) (hSf : Has P w K mg base 7 "salted_form" ["size", "message", "salt"] spSalted) (hRow : Has P w K mg base 1 "row_of" ["number", "size"] spRow) (hN : Has P w K mg base 1 "number_of" ["row"] (spNumber K))
    (F : Fun K "rs_sign" "Holder.rs_sign" sRsSign f fd) : FnOk P w K mg base CX0 8 f fd ["self", "kind", "message", "salt"] (spRsSign Ch Ck) := by
  refine F.ok scRsSign (fun vs H Q E h => ?_) (fun cdv A outer s H vs Q E hr h => ?_)
  · obtain ⟨a, dx, l, t, v, w, m, s, st, rfl, _⟩ := h
    rfl
  · obtain ⟨a, dx, l, t, v, wk, m, sl, st, rfl, h0, hv, hok, hl, ht, hRm, hRs, hlm, hls, q⟩ := h
    refine ⟨_, pss_cons (ps_if (pt_cmp (pc_isN (pe_fld (pv 0) rfl))) (pss_one (ps_ret (pe_lst (pa_cons (pe_gint hNK rfl) pa_nil)))) pss_nil)
      (pss_cons (ps_if (PW.pt (pw_or (pt_not (pt_val (pe_callH hKd hr (by decide) rfl (pa_cons (pv 1) pa_nil)))) (pw_or1 (pt_not (pt_val (pe_callH hLn hr (by decide) rfl (pa_cons (pv 2) pa_nil))))))) (pss_one (ps_ret (pe_lst (pa_cons (pe_gint hWI rfl) pa_nil)))) pss_nil)
      (pss_cons (ps_if (pt_val (pe_methH0 (pe_fld (pv 0) rfl) TK.cl hIO hr (by decide))) (pss_one (ps_ret (pe_lst (pa_cons (pe_gint hOK rfl) pa_nil)))) pss_nil)
      (pss_cons (ps_set (i := 4) scRsSign.nd rfl (Or.inl rfl) (pe_fld (pe_fld (pv 0) rfl) rfl))
      (pss_cons (ps_if (pt_cmp (pc_eqI (pv 1) (pe_gint hPL rfl))) (pss_one (ps_set (i := 5) scRsSign.nd rfl (Or.inl rfl) (pe_callH hPf hr (by decide) rfl (pa_cons (pv 4) (pa_cons (pv 2) pa_nil)))))
        (pss_one (ps_set (i := 5) scRsSign.nd rfl (Or.inl rfl) (pe_callH hSf hr (by decide) rfl (pa_cons (pv 4) (pa_cons (pv 2) (pa_cons (pv 3) pa_nil)))))))
      (pss_one (ps_ret (pe_op op_cat (pe_lst (pa_cons (pv 4) pa_nil)) (pe_callH hRow hr (by decide) rfl (pa_cons (pe_methH (pe_fld (pv 0) rfl) TK.cl hSec hr (by decide) (pa_cons (pe_callH hN hr (by decide) rfl (pa_cons (pv 5) pa_nil)) pa_nil)) (pa_cons (pv 4) pa_nil)))))))))), ?_⟩
    rw [stp_sign _ _ _ _ (by omega)] at q
    cases st with
    | none =>
      obtain rfl : v = .non := hv
      exact ⟨_, rfl, a, Ch, dx, _, _, rfl, h0, T.cl, T.nH, heldF_held _, _, rfl, iteD (fun _ => ⟨by decide, fun p hp => q.one (Same.refl H) hp⟩) (fun y => absurd rfl y)⟩
    | some k =>
      obtain ⟨b, rfl, dk, hk⟩ := hv
      have hok' : KeyOk k := hok
      have hsz := hok'.size.pos
      dsimp only at q
      refine ⟨_, rfl, a, Ch, dx, _, _, rfl, h0, T.cl, T.nH, heldF_held _, _, rfl, iteD (fun y => (by cases y)) (fun _ => ?_)⟩
      refine ⟨_, rfl, wk, rfl, fun H1 s1 => ⟨_, rfl, iteN (fun hw => iteT ?_) (fun hw => ?_)⟩⟩
      · rw [if_pos (by omega)] at q
        exact ⟨by decide, fun p hp => q.one s1 hp⟩
      rw [if_neg (by omega)] at q
      refine ⟨_, rfl, l, _, rfl, s1 _ _ hl, by rw [List.length_map]; omega, _, rfl, iteF ?_⟩
      refine ⟨_, rfl, a, Ch, dx, _, _, rfl, s1 _ _ h0, T.cl, T.nH, heldF_held _, b, dk, _, rfl, s1 _ _ hk, keyF_no k (by decide +kernel) (by decide +kernel) (by decide +kernel) (by decide +kernel), b, k, rfl, ⟨dk, s1 _ _ hk⟩, _, rfl, iteD (fun hd => ?_) (fun hd => ?_)⟩
      · rw [if_pos hd] at q
        exact ⟨by decide, fun p hp => q.one s1 hp⟩
      rw [if_neg hd] at q
      refine ⟨_, rfl, a, Ch, dx, _, _, rfl, s1 _ _ h0, T.cl, T.nH, heldF_held _, b, Ck, dk, _, _, rfl, s1 _ _ hk, TK.cl, TK.nS, keyF_size k, ?_⟩
      rw [rowV hRm] at hl
      rw [rowV hRs] at ht
      unfold Sz28.Key.sign at q
      refine ⟨_, rfl, _, _, rfl, rfl, _, rfl, iteD (fun hz => ?_) (fun hz => ?_)⟩
      · rw [if_pos (show wk.toNat = 0 by omega)] at q
        have lf : (Sz28.plainForm k.size (ob m)).length = k.size := plain_length (by omega) _
        refine ⟨_, rfl, _, rfl, k.size, l, ob m, rfl, s1 _ _ hl, by rw [ob_length]; omega, hsz.1, hsz.2, fun H2 fm s2 n2 a2 => ?_⟩
        generalize Sz28.plainForm k.size (ob m) = form at q lf a2
        have S2 := s1.trans s2
        refine ⟨_, rfl, by show 1 ≤ sizeLine; decide, fun l1 hl1 => ?_⟩
        obtain ⟨H3, e3, s3, a3⟩ := newAt (.lst [V.int k.size]) hl1
        rw [e3]
        have S3 := S2.trans s3
        refine ⟨_, rfl, a, Ch, dx, _, _, rfl, S3 _ _ h0, T.cl, T.nH, heldF_held _, b, dk, _, rfl, S3 _ _ hk, keyF_no k (by decide +kernel) (by decide +kernel) (by decide +kernel) (by decide +kernel), _, rfl, fm, toInts form, rfl, SqL.of (s3 _ _ a2), row_ints _, by rw [ints_length]; omega, ?_⟩
        rw [bigI_eq (row_ints _), octets_ints]
        refine ⟨b, k, Sz28.big form, rfl, ⟨dk, S3 _ _ hk⟩, hok', big_small (by omega), fun H4 s4 => ?_⟩
        refine ⟨_, rfl, k.secret (Sz28.big form), k.size, rfl, by omega, fun l2 hl2 => ?_⟩
        obtain ⟨H5, e5, s5, a5⟩ := newAt (.lst (bytesV (Sz28.bytesOf k.size (k.secret (Sz28.big form))))) hl2
        rw [e5]
        refine ⟨l1, l2, [V.int k.size], bytesV (Sz28.bytesOf k.size (k.secret (Sz28.big form))), rfl, rfl, s5 _ _ (s4 _ _ a3), a5, (by rw [bytesV_len, length_bytesOf, sizeLine_eq]; show 1 + k.size ≤ _; omega), fun l3 hl3 => ?_⟩
        have S5 := S3.trans (s4.trans s5)
        exact q _ l3 (S5.upd (S5.free hl3)) (S5.free hl3) upd_same
      · rw [if_neg (show ¬ wk.toNat = 0 by omega)] at q
        have lf : (Sz28.saltForm k.size (ob m) (ob sl)).length = k.size := salt_length (by omega) (by rw [ob_length]; exact hls)
        refine ⟨_, rfl, _, rfl, _, rfl, k.size, l, t, ob m, ob sl, rfl, s1 _ _ hl, s1 _ _ ht, by rw [ob_length]; omega, by rw [ob_length]; exact hls, hsz.1, hsz.2, fun H2 fm s2 n2 a2 => ?_⟩
        generalize Sz28.saltForm k.size (ob m) (ob sl) = form at q lf a2
        have S2 := s1.trans s2
        refine ⟨_, rfl, by show 1 ≤ sizeLine; decide, fun l1 hl1 => ?_⟩
        obtain ⟨H3, e3, s3, a3⟩ := newAt (.lst [V.int k.size]) hl1
        rw [e3]
        have S3 := S2.trans s3
        refine ⟨_, rfl, a, Ch, dx, _, _, rfl, S3 _ _ h0, T.cl, T.nH, heldF_held _, b, dk, _, rfl, S3 _ _ hk, keyF_no k (by decide +kernel) (by decide +kernel) (by decide +kernel) (by decide +kernel), _, rfl, fm, toInts form, rfl, SqL.of (s3 _ _ a2), row_ints _, by rw [ints_length]; omega, ?_⟩
        rw [bigI_eq (row_ints _), octets_ints]
        refine ⟨b, k, Sz28.big form, rfl, ⟨dk, S3 _ _ hk⟩, hok', big_small (by omega), fun H4 s4 => ?_⟩
        refine ⟨_, rfl, k.secret (Sz28.big form), k.size, rfl, by omega, fun l2 hl2 => ?_⟩
        obtain ⟨H5, e5, s5, a5⟩ := newAt (.lst (bytesV (Sz28.bytesOf k.size (k.secret (Sz28.big form))))) hl2
        rw [e5]
        refine ⟨l1, l2, [V.int k.size], bytesV (Sz28.bytesOf k.size (k.secret (Sz28.big form))), rfl, rfl, s5 _ _ (s4 _ _ a3), a5, (by rw [bytesV_len, length_bytesOf, sizeLine_eq]; show 1 + k.size ≤ _; omega), fun l3 hl3 => ?_⟩
        have S5 := S3.trans (s4.trans s5)
        exact q _ l3 (S5.upd (S5.free hl3)) (S5.free hl3) upd_same
/-! ### is_right, rs_check -/
def spIsRight (Ch Ck : Addr) : Sp := fun vs H Q _ => ∃ (a dx b l t : Addr) (w : Int) (m s : List Int) (k : Sz28.Key), vs = [.ref a, .int w, .ref l, .ref t] ∧ H a = some (.ins Ch dx (heldF (.ref b))) ∧ KeyAt Ck H b k ∧ KeyOk k ∧ H l = some (.lst (m.map V.int)) ∧ H t = some (.lst (s.map V.int)) ∧ Row m ∧ Row s ∧ m.length ≤ 30000 ∧ s.length = 512 ∧ (w = 0 ∨ w = 1) ∧
  ∀ H', Same H H' → Q (.bl (k.check w.toNat (ob m) ((ob s).take k.size))) H'
theorem scIsRight : FnScope ["self", "kind", "message", "signature_row", "size", "signature", "form"] ["self", "kind", "message", "signature_row"] (defScope sIsRight) := ⟨rfl, rfl, rfl, by decide +kernel, rfl, by decide +kernel, by decide +kernel⟩
theorem ok_isRight {f Ch Ck : Addr} {fd : FuncData} (T : THold K Ch) (TK : TKey K Ck) (hPL : GInt mg "PLAIN" 0) (hOp : HasM P w K mg base 3 Ck "open_of" ["self", "number"] (spPut Ck Sz28.Key.open_))
    (hPf : Has P w K mg base 5 "plain_form" ["size", "message"] spPlain) (hIs : Has P w K mg base 8 "is_salted_form" ["form", "message"] spIsSalted) (hRow : Has P w K mg base 1 "row_of" ["number", "size"] spRow) (hN : Has P w K mg base 1 "number_of" ["row"] (spNumber K))
    (F : Fun K "is_right" "Holder.is_right" sIsRight f fd) : FnOk P w K mg base CX0 9 f fd ["self", "kind", "message", "signature_row"] (spIsRight Ch Ck) := by
  refine F.ok scIsRight (fun vs H Q E h => ?_) (fun cdv A outer s H vs Q E hr h => ?_)
  · obtain ⟨a, dx, b, l, t, w, m, s, k, rfl, _⟩ := h
    rfl
  · obtain ⟨a, dx, b, l, t, wk, m, sg, k, rfl, h0, ⟨dk, hk⟩, hok, hl, ht, hRm, hRs, hlm, hls, hw, q⟩ := h
    refine ⟨_, pss_cons (ps_set (i := 4) scIsRight.nd rfl (Or.inl rfl) (pe_fld (pe_fld (pv 0) rfl) rfl))
      (pss_cons (ps_set (i := 5) scIsRight.nd rfl (Or.inl rfl) (pe_callH hN hr (by decide) rfl (pa_cons (pe_slice sl_list (pv 3) po_none (po_some (pv 4))) pa_nil)))
      (pss_cons (ps_if (pt_cmp (pc_ge (pv 5) (pe_fld (pe_fld (pv 0) rfl) rfl))) (pss_one (ps_ret pe_bl)) pss_nil)
      (pss_cons (ps_set (i := 6) scIsRight.nd rfl (Or.inl rfl) (pe_callH hRow hr (by decide) rfl (pa_cons (pe_methH (pe_fld (pv 0) rfl) TK.cl hOp hr (by decide) (pa_cons (pv 5) pa_nil)) (pa_cons (pv 4) pa_nil))))
      (pss_cons (ps_if (pt_cmp (pc_eqI (pv 1) (pe_gint hPL rfl))) (pss_one (ps_ret (pe_cmpR (op_eqD hr.units) (pv 6) (pe_callH hPf hr (by decide) rfl (pa_cons (pv 4) (pa_cons (pv 2) pa_nil))) (nomark _)))) pss_nil)
      (pss_one (ps_ret (pe_callH hIs hr (by decide) rfl (pa_cons (pv 6) (pa_cons (pv 2) pa_nil))))))))), ?_⟩
    have hsz := hok.size.pos
    have hch : k.check wk.toNat (ob m) ((ob sg).take k.size) = (decide (Sz28.big ((ob sg).take k.size) < k.n) && (if wk.toNat = 0 then Sz28.bytesOf k.size (k.open_ (Sz28.big ((ob sg).take k.size))) == Sz28.plainForm k.size (ob m) else Sz28.saltRight k.size (ob m) (Sz28.bytesOf k.size (k.open_ (Sz28.big ((ob sg).take k.size)))))) := rfl
    rw [hch] at q
    refine ⟨_, rfl, a, Ch, dx, _, _, rfl, h0, T.cl, T.nH, heldF_held _, b, Ck, dk, _, _, rfl, hk, TK.cl, TK.nS, keyF_size k, ?_⟩
    refine ⟨_, rfl, _, rfl, _, rfl, t, _, rfl, SqL.of ht, fun c hc => ?_⟩
    have ec : cutV (sg.map V.int) none (some ((k.size : Nat) : Int)) = (sg.take k.size).map V.int := cut_to V.int sg k.size
    rw [ec]
    obtain ⟨H1, e1, s1, a1⟩ := newAt (.lst ((sg.take k.size).map V.int)) hc
    rw [e1]
    have hRt := hRs.take k.size
    refine ⟨c, sg.take k.size, rfl, SqL.of a1, hRt, by rw [List.length_take]; omega, ?_⟩
    rw [bigI_eq hRt, show Sz28Neutral.octets (sg.take k.size) = (ob sg).take k.size from ob_take sg k.size]
    have lsg : ((ob sg).take k.size).length ≤ 512 := by rw [List.length_take, ob_length]; omega
    have hbs := big_small lsg
    generalize Sz28.big ((ob sg).take k.size) = x at q hbs
    refine ⟨_, rfl, _, rfl, a, Ch, dx, _, _, rfl, s1 _ _ h0, T.cl, T.nH, heldF_held _, b, Ck, dk, _, _, rfl, s1 _ _ hk, TK.cl, TK.nM, keyF_mod k, _, _, rfl, rfl, _, rfl, iteD (fun hge => ?_) (fun hge => ?_)⟩
    · have q' := q H1 s1
      rw [decide_eq_false (by omega), Bool.false_and] at q'
      exact q'
    rw [decide_eq_true (show x < k.n by omega), Bool.true_and] at q
    refine ⟨_, rfl, a, Ch, dx, _, _, rfl, s1 _ _ h0, T.cl, T.nH, heldF_held _, b, dk, _, rfl, s1 _ _ hk, keyF_no k (by decide +kernel) (by decide +kernel) (by decide +kernel) (by decide +kernel), _, rfl, b, k, x, rfl, ⟨dk, s1 _ _ hk⟩, hok, hbs, fun H2 s2 => ?_⟩
    refine ⟨_, rfl, k.open_ x, k.size, rfl, by omega, fun fm hfm => ?_⟩
    obtain ⟨H3, e3, s3, a3⟩ := newAt (.lst (bytesV (Sz28.bytesOf k.size (k.open_ x)))) hfm
    rw [e3]
    have lem : (Sz28.bytesOf k.size (k.open_ x)).length = k.size := length_bytesOf _ _
    generalize Sz28.bytesOf k.size (k.open_ x) = em at q a3 lem
    have S3 := s1.trans (s2.trans s3)
    rw [rowV hRm] at hl
    refine ⟨_, rfl, _, _, rfl, rfl, _, rfl, iteD (fun hz => ?_) (fun hz => ?_)⟩
    · rw [if_pos (show wk.toNat = 0 by omega)] at q
      refine ⟨_, rfl, _, rfl, _, rfl, k.size, l, ob m, rfl, S3 _ _ hl, by rw [ob_length]; omega, hsz.1, hsz.2, fun H4 pf s4 n4 a4 => ?_⟩
      refine ⟨_, _, Dp.list (ns := toInts em) (SqL.of (s4 _ _ a3)), Dp.list (SqL.of a4), shaped_list _, shaped_list _, ?_⟩
      have eq1 : PyData.eqv (.list ((toInts em).map PyData.int)) (.list ((toInts (Sz28.plainForm k.size (ob m))).map PyData.int)) = (em == Sz28.plainForm k.size (ob m)) := by
        rw [eqv_list, Bool.eq_iff_iff, decide_eq_true_iff, beq_iff_eq]
        exact ints_inj
      rw [eq1]
      exact q H4 (S3.trans s4)
    · rw [if_neg (show ¬ wk.toNat = 0 by omega)] at q
      refine ⟨_, rfl, _, rfl, fm, l, em, ob m, rfl, a3, S3 _ _ hl, by omega, by omega, by rw [ob_length]; omega, fun H4 s4 => ?_⟩
      rw [lem]
      exact q H4 (S3.trans s4)
def spRsCheck (Ch Ck : Addr) : Sp := fun vs H Q _ => ∃ (a dx l t : Addr) (v : V) (w : Int) (m s : List Int) (st : Sz28.St), vs = [.ref a, .int w, .ref l, .ref t] ∧ H a = some (.ins Ch dx (heldF v)) ∧ HoldV Ck H v st ∧ StOk st ∧ H l = some (.lst (m.map V.int)) ∧ H t = some (.lst (s.map V.int)) ∧ Row m ∧ Row s ∧ m.length ≤ 30000 ∧ s.length = 512 ∧ DoneR H (stp st [[6, w], m, s]).2 Q
theorem scRsCheck : FnScope ["self", "kind", "message", "signature_row"] ["self", "kind", "message", "signature_row"] (defScope sRsCheck) := ⟨rfl, rfl, rfl, by decide +kernel, rfl, by decide +kernel, by decide +kernel⟩
theorem ok_rsCheck {f Ch Ck : Addr} {fd : FuncData} (T : THold K Ch) (hNK : GInt mg "NO_KEY" (-2)) (hWI : GInt mg "WRONG_INPUT" (-1)) (hKd : Has P w K mg base 1 "is_kind" ["kind"] spIsKind) (hLn : Has P w K mg base 1 "is_length" ["row"] spIsLen)
    (hIR : HasM P w K mg base 9 Ch "is_right" ["self", "kind", "message", "signature_row"] (spIsRight Ch Ck)) (F : Fun K "rs_check" "Holder.rs_check" sRsCheck f fd) : FnOk P w K mg base CX0 10 f fd ["self", "kind", "message", "signature_row"] (spRsCheck Ch Ck) := by
  refine F.ok scRsCheck (fun vs H Q E h => ?_) (fun cdv A outer s H vs Q E hr h => ?_)
  · obtain ⟨a, dx, l, t, v, w, m, s, st, rfl, _⟩ := h
    rfl
  · obtain ⟨a, dx, l, t, v, wk, m, sl, st, rfl, h0, hv, hok, hl, ht, hRm, hRs, hlm, hls, q⟩ := h
    refine ⟨_, pss_cons (ps_if (pt_cmp (pc_isN (pe_fld (pv 0) rfl))) (pss_one (ps_ret (pe_lst (pa_cons (pe_gint hNK rfl) pa_nil)))) pss_nil)
      (pss_cons (ps_if (PW.pt (pw_or (pt_not (pt_val (pe_callH hKd hr (by decide) rfl (pa_cons (pv 1) pa_nil)))) (pw_or1 (pt_not (pt_val (pe_callH hLn hr (by decide) rfl (pa_cons (pv 2) pa_nil))))))) (pss_one (ps_ret (pe_lst (pa_cons (pe_gint hWI rfl) pa_nil)))) pss_nil)
      (pss_cons (ps_if (pt_val (pe_methH (pv 0) T.cl hIR hr (by decide) (pa_cons (pv 1) (pa_cons (pv 2) (pa_cons (pv 3) pa_nil))))) (pss_one (ps_ret (pe_lst (pa_cons pe_int pa_nil)))) pss_nil)
      (pss_one (ps_ret (pe_lst (pa_cons pe_int pa_nil)))))), ?_⟩
    rw [stp_check _ _ _ _ (by omega)] at q
    cases st with
    | none =>
      obtain rfl : v = .non := hv
      exact ⟨_, rfl, a, Ch, dx, _, _, rfl, h0, T.cl, T.nH, heldF_held _, _, rfl, iteD (fun _ => ⟨by decide, fun p hp => q.one (Same.refl H) hp⟩) (fun y => absurd rfl y)⟩
    | some k =>
      obtain ⟨b, rfl, dk, hk⟩ := hv
      have hok' : KeyOk k := hok
      dsimp only at q
      refine ⟨_, rfl, a, Ch, dx, _, _, rfl, h0, T.cl, T.nH, heldF_held _, _, rfl, iteD (fun y => (by cases y)) (fun _ => ?_)⟩
      refine ⟨_, rfl, wk, rfl, fun H1 s1 => ⟨_, rfl, iteN (fun hw => iteT ?_) (fun hw => ?_)⟩⟩
      · rw [if_pos (by omega)] at q
        exact ⟨by decide, fun p hp => q.one s1 hp⟩
      rw [if_neg (by omega)] at q
      refine ⟨_, rfl, l, _, rfl, s1 _ _ hl, by rw [List.length_map]; omega, _, rfl, iteF ?_⟩
      refine ⟨_, rfl, a, dx, _, rfl, s1 _ _ h0, heldF_no _ (by decide +kernel), _, rfl, _, rfl, _, rfl, a, dx, b, l, t, wk, m, sl, k, rfl, s1 _ _ h0, ⟨dk, s1 _ _ hk⟩, hok', s1 _ _ hl, s1 _ _ ht, hRm, hRs, hlm, hls, hw, fun H2 s2 => ⟨_, rfl, ?_⟩⟩
      have S2 := s1.trans s2
      cases hc : k.check wk.toNat (ob m) ((ob sl).take k.size) with
      | true =>
        rw [hc] at q
        exact iteT ⟨by decide, fun p hp => q.one S2 hp⟩
      | false =>
        rw [hc] at q
        exact iteF ⟨by decide, fun p hp => q.one S2 hp⟩
end
end Gk

set_option Elab.async false
set_option linter.all false
set_option maxRecDepth 100000
set_option maxHeartbeats 4000000
/-! The program's class Holder: the calls 7 and 8. -/
namespace Gk
open PySem PySem.Spec PyProof.Rows L2
abbrev sRsSeal : Stmt := inClass (top 71) 8
abbrev sRsUnseal : Stmt := inClass (top 71) 9
section
variable {P : Program} {w : World} {K : PySem.W.Frag} {mg : Str → Option Value} {base : Heap}
/-! ### rs_seal -/
def spRsSeal (Ch Ck : Addr) : Sp := fun vs H Q _ => ∃ (a dx lb l t : Addr) (v : V) (b m s : List Int) (st : Sz28.St), vs = [.ref a, .ref lb, .ref l, .ref t] ∧ H a = some (.ins Ch dx (heldF v)) ∧ HoldV Ck H v st ∧ StOk st ∧ H lb = some (.lst (b.map V.int)) ∧ H l = some (.lst (m.map V.int)) ∧ H t = some (.lst (s.map V.int)) ∧ Row b ∧ Row m ∧ Row s ∧ b.length ≤ 30000 ∧ m.length ≤ 30000 ∧ s.length = 32 ∧ DoneR H (stp st [[7], b, m, s]).2 Q
theorem scRsSeal : FnScope ["self", "label", "message", "seed", "size", "form"] ["self", "label", "message", "seed"] (defScope sRsSeal) := ⟨rfl, rfl, rfl, by decide +kernel, rfl, by decide +kernel, by decide +kernel⟩
theorem ok_rsSeal {f Ch Ck : Addr} {fd : FuncData} (T : THold K Ch) (TK : TKey K Ck) (hNK : GInt mg "NO_KEY" (-2)) (hWI : GInt mg "WRONG_INPUT" (-1))
    (hLn : Has P w K mg base 1 "is_length" ["row"] spIsLen) (hFt : Has P w K mg base 1 "fits_sealed_form" ["size", "message"] spFits) (hOp : HasM P w K mg base 3 Ck "open_of" ["self", "number"] (spPut Ck Sz28.Key.open_))
    (hSf : Has P w K mg base 7 "sealed_form" ["size", "label", "message", "seed"] spSealed) (hRow : Has P w K mg base 1 "row_of" ["number", "size"] spRow) (hN : Has P w K mg base 1 "number_of" ["row"] (spNumber K))
    (F : Fun K "rs_seal" "Holder.rs_seal" sRsSeal f fd) : FnOk P w K mg base CX0 8 f fd ["self", "label", "message", "seed"] (spRsSeal Ch Ck) := by
  refine F.ok scRsSeal (fun vs H Q E h => ?_) (fun cdv A outer s H vs Q E hr h => ?_)
  · obtain ⟨a, dx, lb, l, t, v, b, m, s, st, rfl, _⟩ := h
    rfl
  · obtain ⟨a, dx, lb, l, t, v, lab, m, sd, st, rfl, h0, hv, hok, hlb, hl, ht, hRb, hRm, hRs, hbl, hlm, hls, q⟩ := h
    refine ⟨_, pss_cons (ps_if (pt_cmp (pc_isN (pe_fld (pv 0) rfl))) (pss_one (ps_ret (pe_lst (pa_cons (pe_gint hNK rfl) pa_nil)))) pss_nil)
      (pss_cons (ps_set (i := 4) scRsSeal.nd rfl (Or.inl rfl) (pe_fld (pe_fld (pv 0) rfl) rfl))
      (pss_cons (ps_if (PW.pt (pw_or (pt_not (pt_val (pe_callH hLn hr (by decide) rfl (pa_cons (pv 1) pa_nil)))) (pw_or1 (pt_not (pt_val (pe_callH hFt hr (by decide) rfl (pa_cons (pv 4) (pa_cons (pv 2) pa_nil)))))))) (pss_one (ps_ret (pe_lst (pa_cons (pe_gint hWI rfl) pa_nil)))) pss_nil)
      (pss_cons (ps_set (i := 5) scRsSeal.nd rfl (Or.inl rfl) (pe_callH hSf hr (by decide) rfl (pa_cons (pv 4) (pa_cons (pv 1) (pa_cons (pv 2) (pa_cons (pv 3) pa_nil))))))
      (pss_one (ps_ret (pe_op op_cat (pe_lst (pa_cons (pv 4) pa_nil)) (pe_callH hRow hr (by decide) rfl (pa_cons (pe_methH (pe_fld (pv 0) rfl) TK.cl hOp hr (by decide) (pa_cons (pe_callH hN hr (by decide) rfl (pa_cons (pv 5) pa_nil)) pa_nil)) (pa_cons (pv 4) pa_nil))))))))), ?_⟩
    rw [stp_seal _ _ _ _ (by omega)] at q
    cases st with
    | none =>
      obtain rfl : v = .non := hv
      exact ⟨_, rfl, a, Ch, dx, _, _, rfl, h0, T.cl, T.nH, heldF_held _, _, rfl, iteD (fun _ => ⟨by decide, fun p hp => q.one (Same.refl H) hp⟩) (fun y => absurd rfl y)⟩
    | some k =>
      obtain ⟨b, rfl, dk, hk⟩ := hv
      have hok' : KeyOk k := hok
      have hsz := hok'.size.pos
      dsimp only at q
      refine ⟨_, rfl, a, Ch, dx, _, _, rfl, h0, T.cl, T.nH, heldF_held _, _, rfl, iteD (fun y => (by cases y)) (fun _ => ?_)⟩
      refine ⟨_, rfl, a, Ch, dx, _, _, rfl, h0, T.cl, T.nH, heldF_held _, b, Ck, dk, _, _, rfl, hk, TK.cl, TK.nS, keyF_size k, ?_⟩
      refine ⟨_, rfl, lb, _, rfl, hlb, by rw [List.length_map]; omega, _, rfl, iteF ?_⟩
      refine ⟨_, rfl, _, rfl, k.size, l, _, rfl, hl, _, rfl, ?_⟩
      rw [List.length_map]
      refine iteN (fun hfit => ?_) (fun hfit => ?_)
      · rw [if_pos (by omega)] at q
        exact ⟨by decide, fun p hp => q.one (Same.refl H) hp⟩
      rw [if_neg (by omega)] at q
      rw [rowV hRb] at hlb
      rw [rowV hRm] at hl
      rw [rowV hRs] at ht
      have lf : (Sz28.sealForm k.size (ob lab) (ob m) (ob sd)).length = k.size := seal_length (by rw [ob_length]; omega) (by rw [ob_length]; exact hls)
      refine ⟨_, rfl, _, rfl, _, rfl, _, rfl, k.size, lb, l, t, ob lab, ob m, ob sd, rfl, hlb, hl, ht, by rw [ob_length]; omega, by rw [ob_length]; omega, by rw [ob_length]; exact hls, hsz.2, fun H2 fm s2 n2 a2 => ?_⟩
      generalize Sz28.sealForm k.size (ob lab) (ob m) (ob sd) = form at q lf a2
      refine ⟨_, rfl, by show 1 ≤ sizeLine; decide, fun l1 hl1 => ?_⟩
      obtain ⟨H3, e3, s3, a3⟩ := newAt (.lst [V.int k.size]) hl1
      rw [e3]
      have S3 := s2.trans s3
      refine ⟨_, rfl, a, Ch, dx, _, _, rfl, S3 _ _ h0, T.cl, T.nH, heldF_held _, b, dk, _, rfl, S3 _ _ hk, keyF_no k (by decide +kernel) (by decide +kernel) (by decide +kernel) (by decide +kernel), _, rfl, fm, toInts form, rfl, SqL.of (s3 _ _ a2), row_ints _, by rw [ints_length]; omega, ?_⟩
      rw [bigI_eq (row_ints _), octets_ints]
      refine ⟨b, k, Sz28.big form, rfl, ⟨dk, S3 _ _ hk⟩, hok', big_small (by omega), fun H4 s4 => ?_⟩
      refine ⟨_, rfl, k.open_ (Sz28.big form), k.size, rfl, by omega, fun l2 hl2 => ?_⟩
      obtain ⟨H5, e5, s5, a5⟩ := newAt (.lst (bytesV (Sz28.bytesOf k.size (k.open_ (Sz28.big form))))) hl2
      rw [e5]
      refine ⟨l1, l2, [V.int k.size], bytesV (Sz28.bytesOf k.size (k.open_ (Sz28.big form))), rfl, rfl, s5 _ _ (s4 _ _ a3), a5, (by rw [bytesV_len, length_bytesOf, sizeLine_eq]; show 1 + k.size ≤ _; omega), fun l3 hl3 => ?_⟩
      have S5 := S3.trans (s4.trans s5)
      exact q _ l3 (S5.upd (S5.free hl3)) (S5.free hl3) upd_same
/-! ### rs_unseal -/
def spRsUnseal (Ch Ck : Addr) : Sp := fun vs H Q _ => ∃ (a dx lb t : Addr) (v : V) (b s : List Int) (st : Sz28.St), vs = [.ref a, .ref lb, .ref t] ∧ H a = some (.ins Ch dx (heldF v)) ∧ HoldV Ck H v st ∧ StOk st ∧ H lb = some (.lst (b.map V.int)) ∧ H t = some (.lst (s.map V.int)) ∧ Row b ∧ Row s ∧ b.length ≤ 30000 ∧ s.length = 512 ∧ DoneR H (stp st [[8], b, s]).2 Q
theorem scRsUnseal : FnScope ["self", "label", "sealed_row", "size", "sealed", "message"] ["self", "label", "sealed_row"] (defScope sRsUnseal) := ⟨rfl, rfl, rfl, by decide +kernel, rfl, by decide +kernel, by decide +kernel⟩
theorem opened_le {size : Nat} {label em m : Sz28.Bytes} (hl : em.length = size) (h : Sz28.sealOpened size label em = some m) : m.length ≤ size := by
  rw [sealOpened_eq hl] at h
  split at h
  · have e := Option.some.inj h
    rw [← e, List.length_drop]
    have h1 := dropWhile_length (fun b => b == 0) ((sealBlock em).drop 32)
    have h2 : (sealBlock em).length ≤ em.length := by
      unfold sealBlock
      rw [mix_length, List.length_drop]
      omega
    rw [List.length_drop] at h1
    omega
  · cases h
theorem ok_rsUnseal {f Ch Ck : Addr} {fd : FuncData} (T : THold K Ch) (TK : TKey K Ck) (hln : mg "len" = none) (hNK : GInt mg "NO_KEY" (-2)) (hWI : GInt mg "WRONG_INPUT" (-1)) (hOK : GInt mg "OPEN_KEY" (-4)) (hNS : GInt mg "NOT_SEALED" (-5))
    (hLn : Has P w K mg base 1 "is_length" ["row"] spIsLen) (hIO : HasM P w K mg base 1 Ck "is_open" ["self"] (spIsOpen Ck)) (hSec : HasM P w K mg base 3 Ck "secret_of" ["self", "number"] (spPut Ck Sz28.Key.secret))
    (hSm : Has P w K mg base 8 "sealed_message" ["form", "label"] spSealMsg) (hRow : Has P w K mg base 1 "row_of" ["number", "size"] spRow) (hN : Has P w K mg base 1 "number_of" ["row"] (spNumber K))
    (F : Fun K "rs_unseal" "Holder.rs_unseal" sRsUnseal f fd) : FnOk P w K mg base CX0 9 f fd ["self", "label", "sealed_row"] (spRsUnseal Ch Ck) := by
  refine F.ok scRsUnseal (fun vs H Q E h => ?_) (fun cdv A outer s H vs Q E hr h => ?_)
  · obtain ⟨a, dx, lb, t, v, b, s, st, rfl, _⟩ := h
    rfl
  · obtain ⟨a, dx, lb, t, v, lab, sg, st, rfl, h0, hv, hok, hlb, ht, hRb, hRs, hbl, hls, q⟩ := h
    refine ⟨_, pss_cons (ps_if (pt_cmp (pc_isN (pe_fld (pv 0) rfl))) (pss_one (ps_ret (pe_lst (pa_cons (pe_gint hNK rfl) pa_nil)))) pss_nil)
      (pss_cons (ps_if (pt_not (pt_val (pe_callH hLn hr (by decide) rfl (pa_cons (pv 1) pa_nil)))) (pss_one (ps_ret (pe_lst (pa_cons (pe_gint hWI rfl) pa_nil)))) pss_nil)
      (pss_cons (ps_if (pt_val (pe_methH0 (pe_fld (pv 0) rfl) TK.cl hIO hr (by decide))) (pss_one (ps_ret (pe_lst (pa_cons (pe_gint hOK rfl) pa_nil)))) pss_nil)
      (pss_cons (ps_set (i := 3) scRsUnseal.nd rfl (Or.inl rfl) (pe_fld (pe_fld (pv 0) rfl) rfl))
      (pss_cons (ps_set (i := 4) scRsUnseal.nd rfl (Or.inl rfl) (pe_callH hN hr (by decide) rfl (pa_cons (pe_slice sl_list (pv 2) po_none (po_some (pv 3))) pa_nil)))
      (pss_cons (ps_if (pt_cmp (pc_ge (pv 4) (pe_fld (pe_fld (pv 0) rfl) rfl))) (pss_one (ps_ret (pe_lst (pa_cons (pe_gint hNS rfl) pa_nil)))) pss_nil)
      (pss_cons (ps_set (i := 5) scRsUnseal.nd rfl (Or.inl rfl) (pe_callH hSm hr (by decide) rfl (pa_cons (pe_callH hRow hr (by decide) rfl (pa_cons (pe_methH (pe_fld (pv 0) rfl) TK.cl hSec hr (by decide) (pa_cons (pv 4) pa_nil)) (pa_cons (pv 3) pa_nil))) (pa_cons (pv 1) pa_nil))))
      (pss_cons (ps_if (pt_cmp (pc_isN (pv 5))) (pss_one (ps_ret (pe_lst (pa_cons (pe_gint hNS rfl) pa_nil)))) pss_nil)
      (pss_one (ps_ret (pe_op op_cat (pe_lst (pa_cons (pe_callB call_len_seq (by rfl) hln PySem.boot_len (pa_cons (pv 5) pa_nil)) pa_nil)) (pv 5))))))))))), ?_⟩
    rw [stp_unseal _ _ _ (by omega)] at q
    cases st with
    | none =>
      obtain rfl : v = .non := hv
      exact ⟨_, rfl, a, Ch, dx, _, _, rfl, h0, T.cl, T.nH, heldF_held _, _, rfl, iteD (fun _ => ⟨by decide, fun p hp => q.one (Same.refl H) hp⟩) (fun y => absurd rfl y)⟩
    | some k =>
      obtain ⟨b, rfl, dk, hk⟩ := hv
      have hok' : KeyOk k := hok
      have hsz := hok'.size.pos
      dsimp only at q
      refine ⟨_, rfl, a, Ch, dx, _, _, rfl, h0, T.cl, T.nH, heldF_held _, _, rfl, iteD (fun y => (by cases y)) (fun _ => ?_)⟩
      refine ⟨_, rfl, lb, _, rfl, hlb, by rw [List.length_map]; omega, _, rfl, iteF ?_⟩
      refine ⟨_, rfl, a, Ch, dx, _, _, rfl, h0, T.cl, T.nH, heldF_held _, b, dk, _, rfl, hk, keyF_no k (by decide +kernel) (by decide +kernel) (by decide +kernel) (by decide +kernel), b, k, rfl, ⟨dk, hk⟩, _, rfl, iteD (fun hd => ?_) (fun hd => ?_)⟩
      · rw [if_pos hd] at q
        exact ⟨by decide, fun p hp => q.one (Same.refl H) hp⟩
      rw [if_neg hd] at q
      refine ⟨_, rfl, a, Ch, dx, _, _, rfl, h0, T.cl, T.nH, heldF_held _, b, Ck, dk, _, _, rfl, hk, TK.cl, TK.nS, keyF_size k, ?_⟩
      refine ⟨_, rfl, _, rfl, _, rfl, t, _, rfl, SqL.of ht, fun c hc => ?_⟩
      have ec : cutV (sg.map V.int) none (some ((k.size : Nat) : Int)) = (sg.take k.size).map V.int := cut_to V.int sg k.size
      rw [ec]
      obtain ⟨H1, e1, s1, a1⟩ := newAt (.lst ((sg.take k.size).map V.int)) hc
      rw [e1]
      have hRt := hRs.take k.size
      refine ⟨c, sg.take k.size, rfl, SqL.of a1, hRt, by rw [List.length_take]; omega, ?_⟩
      rw [bigI_eq hRt, show Sz28Neutral.octets (sg.take k.size) = (ob sg).take k.size from ob_take sg k.size]
      have lsg : ((ob sg).take k.size).length ≤ 512 := by rw [List.length_take, ob_length]; omega
      have hbs := big_small lsg
      generalize Sz28.big ((ob sg).take k.size) = x at q hbs
      refine ⟨_, rfl, _, rfl, a, Ch, dx, _, _, rfl, s1 _ _ h0, T.cl, T.nH, heldF_held _, b, Ck, dk, _, _, rfl, s1 _ _ hk, TK.cl, TK.nM, keyF_mod k, _, _, rfl, rfl, _, rfl, iteD (fun hge => ?_) (fun hge => ?_)⟩
      · rw [if_pos (by omega)] at q
        exact ⟨by decide, fun p hp => q.one s1 hp⟩
      rw [if_neg (by omega)] at q
      refine ⟨_, rfl, a, Ch, dx, _, _, rfl, s1 _ _ h0, T.cl, T.nH, heldF_held _, b, dk, _, rfl, s1 _ _ hk, keyF_no k (by decide +kernel) (by decide +kernel) (by decide +kernel) (by decide +kernel), _, rfl, b, k, x, rfl, ⟨dk, s1 _ _ hk⟩, hok', hbs, fun H2 s2 => ?_⟩
      refine ⟨_, rfl, k.secret x, k.size, rfl, by omega, fun fm hfm => ?_⟩
      obtain ⟨H3, e3, s3, a3⟩ := newAt (.lst (bytesV (Sz28.bytesOf k.size (k.secret x)))) hfm
      rw [e3]
      have lem : (Sz28.bytesOf k.size (k.secret x)).length = k.size := length_bytesOf _ _
      generalize Sz28.bytesOf k.size (k.secret x) = em at q a3 lem
      have S3 := s1.trans (s2.trans s3)
      rw [rowV hRb] at hlb
      refine ⟨_, rfl, fm, lb, em, ob lab, rfl, a3, S3 _ _ hlb, by omega, by omega, by rw [ob_length]; omega, fun hno H4 s4 => ?_, fun msg hms H4 mp s4 n4 a4 => ?_⟩
      · rw [lem] at hno
        rw [hno] at q
        exact ⟨_, rfl, _, rfl, iteD (fun _ => ⟨by decide, fun p hp => q.one (S3.trans s4) hp⟩) (fun z => absurd rfl z)⟩
      · rw [lem] at hms
        have hle := opened_le lem hms
        rw [hms] at q
        refine ⟨_, rfl, _, rfl, iteD (fun z => (by cases z)) (fun _ => ?_)⟩
        have a4' : H4 mp = some (.lst (bytesV msg)) := a4
        refine ⟨_, rfl, mp, _, rfl, .inl (SqL.of a4'), by show 1 ≤ sizeLine; decide, fun l1 hl1 => ?_⟩
        obtain ⟨H5, e5, s5, a5⟩ := newAt (.lst [V.int ((bytesV msg).length : Nat)]) hl1
        rw [e5]
        refine ⟨_, rfl, l1, mp, [V.int ((bytesV msg).length : Nat)], bytesV msg, rfl, rfl, a5, s5 _ _ a4', (by rw [bytesV_len, sizeLine_eq]; show 1 + msg.length ≤ _; omega), fun l2 hl2 => ?_⟩
        have S5 := S3.trans (s4.trans s5)
        refine q _ l2 (S5.upd (S5.free hl2)) (S5.free hl2) ?_
        rw [upd_same, bytesV_len]
        rfl
end
end Gk

set_option Elab.async false
set_option linter.all false
set_option maxRecDepth 100000
set_option maxHeartbeats 4000000
/-! The desk: the calls 5 to 8, and any call. -/
namespace Gk
open PySem PySem.Spec PyProof.Rows L2
abbrev sAnsSign : Stmt := top 87
abbrev sAnsCheck : Stmt := top 88
abbrev sAnsSeal : Stmt := top 89
abbrev sAnsUnseal : Stmt := top 90
abbrev sAnsCall : Stmt := top 91
theorem Fin.next {K : PySem.W.Frag} {D : Ads} {H : Hp} {a r l dr : Addr} {ns : List Int} {st : Sz28.St} {n n' : Nat} {c : List (List Int)} {rest : List Int} {Q : VK} (q : Fin K D H a r l ns st c rest Q) (hr : H r = some (.ins D.Cr dr (readF l n))) : Fin K D (upd H r (.ins D.Cr dr (readF l n'))) a r l ns st c rest Q := by
  intro H' p n2 h1 h2 h3 h4 h5
  have hpr : p ≠ r := fun e => by rw [e, upd_same] at h4; cases h4
  refine q H' p n2 h1 h2 (fun b o e n1 n3 => h3 b o (by rw [upd_ne n3]; exact e) n1 n3) ?_ h5
  rw [upd_ne hpr] at h4
  exact h4
section
variable {P : Program} {w : World} {K : PySem.W.Frag} {mg : Str → Option Value} {base : Heap}
theorem scAnsSign : FnScope ["holder", "reader", "kind", "message"] ["holder", "reader"] (defScope sAnsSign) := ⟨rfl, rfl, rfl, by decide +kernel, rfl, by decide +kernel, by decide +kernel⟩
theorem ok_ansSign {f : Addr} {fd : FuncData} {D : Ads} (T : Cls3 K D) (hN : HasM P w K mg base 1 D.Cr "take_number" ["self"] (spTakeN K D.Cr)) (hR : HasM P w K mg base 2 D.Cr "take_row" ["self"] (spTakeR K D.Cr))
    (hK : HasM P w K mg base 8 D.Ch "rs_sign" ["self", "kind", "message", "salt"] (spRsSign D.Ch D.Ck)) (F : Fun K "answer_sign" "answer_sign" sAnsSign f fd) : FnOk P w K mg base CX0 9 f fd ["holder", "reader"] (spAns K D 5) := by
  refine F.ok scAnsSign (fun vs H Q E h => ?_) (fun cdv A outer s H vs Q E hr h => ?_)
  · obtain ⟨a, r, l, ns, st, n, nums, rows, rest, rfl, _⟩ := h
    rfl
  · obtain ⟨a, r, l, ns, st, n, nums, rows, rest, rfl, d, kd, hd, q⟩ := h
    refine ⟨_, pss_cons (ps_set (i := 2) scAnsSign.nd rfl (Or.inl rfl) (pe_methH0 (pv 1) T.r.cl hN hr (by decide)))
      (pss_cons (ps_set (i := 3) scAnsSign.nd rfl (Or.inl rfl) (pe_methH0 (pv 1) T.r.cl hR hr (by decide)))
      (pss_one (ps_ret (pe_methH (pv 0) T.h.cl hK hr (by decide) (pa_cons (pv 2) (pa_cons (pv 3) (pa_cons (pe_methH0 (pv 1) T.r.cl hR hr (by decide)) pa_nil))))))), ?_⟩
    cases kd with
    | sign z x y hz hx hy hl hl2 =>
      obtain ⟨dr, m0⟩ := d.moved
      have hd1 := drop_cons (show ns.drop n = z :: ((PyFlat.putRow x ++ (PyFlat.putRow y ++ ([] : List Int))) ++ rest) from hd)
      have hd2 : ns.drop (n + 1) = PyFlat.putRow x ++ (PyFlat.putRow y ++ ([] ++ rest)) := by rw [hd1.2, List.append_assoc, List.append_assoc]
      obtain ⟨g1, g2, g3, g4⟩ := drop_row hd2
      obtain ⟨i1, i2, i3, i4⟩ := drop_row g3
      refine ⟨_, rfl, r, dr, _, rfl, m0.read, readF_no l n (by decide +kernel) (by decide +kernel), r, dr, l, n, ns, z, rfl, m0.read, m0.list, hd1.1, ?_⟩
      have m1 := m0.next (n + 1)
      refine ⟨_, rfl, r, dr, _, rfl, m1.read, readF_no l _ (by decide +kernel) (by decide +kernel), r, dr, l, n + 1, ns, x, rfl, m1.read, m1.list, g1, g4, g2, fun p hp => ?_⟩
      have m2 := m1.row (o := .lst (x.map V.int)) hp (n + 1 + 1 + x.length)
      obtain ⟨dx, v, ha, _⟩ := id m2.hold
      refine ⟨_, rfl, a, dx, _, rfl, ha, heldF_no _ (by decide +kernel), _, rfl, _, rfl, _, rfl, r, dr, _, rfl, m2.read, readF_no l _ (by decide +kernel) (by decide +kernel), r, dr, l, _, ns, y, rfl, m2.read, m2.list, i1, i4, i2, fun p2 hp2 => ?_⟩
      have hpr : p ≠ r := (ne_of_none m1.read hp).symm
      have m3 := m2.row (o := .lst (y.map V.int)) hp2 (n + 1 + 1 + x.length + 1 + y.length)
      obtain ⟨dx, v, ha, hv⟩ := id m3.hold
      have hpp : p ≠ p2 := ne_of_none (o := .lst (x.map V.int)) upd_same hp2
      have hlen := d.len
      exact ⟨a, dx, p, p2, v, z, x, y, st, rfl, ha, hv, d.ok, by rw [upd_ne hpp, upd_ne hpr]; exact upd_same, upd_same, hx, hy, by omega, hl2, m3.doneR d.ok (by rw [stp_sign _ _ _ _ hl]) q i3⟩
theorem scAnsCheck : FnScope ["holder", "reader", "kind", "message"] ["holder", "reader"] (defScope sAnsCheck) := ⟨rfl, rfl, rfl, by decide +kernel, rfl, by decide +kernel, by decide +kernel⟩
theorem ok_ansCheck {f : Addr} {fd : FuncData} {D : Ads} (T : Cls3 K D) (hN : HasM P w K mg base 1 D.Cr "take_number" ["self"] (spTakeN K D.Cr)) (hR : HasM P w K mg base 2 D.Cr "take_row" ["self"] (spTakeR K D.Cr))
    (hK : HasM P w K mg base 10 D.Ch "rs_check" ["self", "kind", "message", "signature_row"] (spRsCheck D.Ch D.Ck)) (F : Fun K "answer_check" "answer_check" sAnsCheck f fd) : FnOk P w K mg base CX0 11 f fd ["holder", "reader"] (spAns K D 6) := by
  refine F.ok scAnsCheck (fun vs H Q E h => ?_) (fun cdv A outer s H vs Q E hr h => ?_)
  · obtain ⟨a, r, l, ns, st, n, nums, rows, rest, rfl, _⟩ := h
    rfl
  · obtain ⟨a, r, l, ns, st, n, nums, rows, rest, rfl, d, kd, hd, q⟩ := h
    refine ⟨_, pss_cons (ps_set (i := 2) scAnsCheck.nd rfl (Or.inl rfl) (pe_methH0 (pv 1) T.r.cl hN hr (by decide)))
      (pss_cons (ps_set (i := 3) scAnsCheck.nd rfl (Or.inl rfl) (pe_methH0 (pv 1) T.r.cl hR hr (by decide)))
      (pss_one (ps_ret (pe_methH (pv 0) T.h.cl hK hr (by decide) (pa_cons (pv 2) (pa_cons (pv 3) (pa_cons (pe_methH0 (pv 1) T.r.cl hR hr (by decide)) pa_nil))))))), ?_⟩
    cases kd with
    | check z x y hz hx hy hl hl2 =>
      obtain ⟨dr, m0⟩ := d.moved
      have hd1 := drop_cons (show ns.drop n = z :: ((PyFlat.putRow x ++ (PyFlat.putRow y ++ ([] : List Int))) ++ rest) from hd)
      have hd2 : ns.drop (n + 1) = PyFlat.putRow x ++ (PyFlat.putRow y ++ ([] ++ rest)) := by rw [hd1.2, List.append_assoc, List.append_assoc]
      obtain ⟨g1, g2, g3, g4⟩ := drop_row hd2
      obtain ⟨i1, i2, i3, i4⟩ := drop_row g3
      refine ⟨_, rfl, r, dr, _, rfl, m0.read, readF_no l n (by decide +kernel) (by decide +kernel), r, dr, l, n, ns, z, rfl, m0.read, m0.list, hd1.1, ?_⟩
      have m1 := m0.next (n + 1)
      refine ⟨_, rfl, r, dr, _, rfl, m1.read, readF_no l _ (by decide +kernel) (by decide +kernel), r, dr, l, n + 1, ns, x, rfl, m1.read, m1.list, g1, g4, g2, fun p hp => ?_⟩
      have m2 := m1.row (o := .lst (x.map V.int)) hp (n + 1 + 1 + x.length)
      obtain ⟨dx, v, ha, _⟩ := id m2.hold
      refine ⟨_, rfl, a, dx, _, rfl, ha, heldF_no _ (by decide +kernel), _, rfl, _, rfl, _, rfl, r, dr, _, rfl, m2.read, readF_no l _ (by decide +kernel) (by decide +kernel), r, dr, l, _, ns, y, rfl, m2.read, m2.list, i1, i4, i2, fun p2 hp2 => ?_⟩
      have hpr : p ≠ r := (ne_of_none m1.read hp).symm
      have m3 := m2.row (o := .lst (y.map V.int)) hp2 (n + 1 + 1 + x.length + 1 + y.length)
      obtain ⟨dx, v, ha, hv⟩ := id m3.hold
      have hpp : p ≠ p2 := ne_of_none (o := .lst (x.map V.int)) upd_same hp2
      have hlen := d.len
      exact ⟨a, dx, p, p2, v, z, x, y, st, rfl, ha, hv, d.ok, by rw [upd_ne hpp, upd_ne hpr]; exact upd_same, upd_same, hx, hy, by omega, hl2, m3.doneR d.ok (by rw [stp_check _ _ _ _ hl]) q i3⟩
theorem scAnsSeal : FnScope ["holder", "reader", "label", "message"] ["holder", "reader"] (defScope sAnsSeal) := ⟨rfl, rfl, rfl, by decide +kernel, rfl, by decide +kernel, by decide +kernel⟩
theorem ok_ansSeal {f : Addr} {fd : FuncData} {D : Ads} (T : Cls3 K D) (hR : HasM P w K mg base 2 D.Cr "take_row" ["self"] (spTakeR K D.Cr))
    (hK : HasM P w K mg base 8 D.Ch "rs_seal" ["self", "label", "message", "seed"] (spRsSeal D.Ch D.Ck)) (F : Fun K "answer_seal" "answer_seal" sAnsSeal f fd) : FnOk P w K mg base CX0 9 f fd ["holder", "reader"] (spAns K D 7) := by
  refine F.ok scAnsSeal (fun vs H Q E h => ?_) (fun cdv A outer s H vs Q E hr h => ?_)
  · obtain ⟨a, r, l, ns, st, n, nums, rows, rest, rfl, _⟩ := h
    rfl
  · obtain ⟨a, r, l, ns, st, n, nums, rows, rest, rfl, d, kd, hd, q⟩ := h
    refine ⟨_, pss_cons (ps_set (i := 2) scAnsSeal.nd rfl (Or.inl rfl) (pe_methH0 (pv 1) T.r.cl hR hr (by decide)))
      (pss_cons (ps_set (i := 3) scAnsSeal.nd rfl (Or.inl rfl) (pe_methH0 (pv 1) T.r.cl hR hr (by decide)))
      (pss_one (ps_ret (pe_methH (pv 0) T.h.cl hK hr (by decide) (pa_cons (pv 2) (pa_cons (pv 3) (pa_cons (pe_methH0 (pv 1) T.r.cl hR hr (by decide)) pa_nil))))))), ?_⟩
    cases kd with
    | seals b x y hb hx hy hbl hl hl2 =>
      obtain ⟨dr, m0⟩ := d.moved
      have hd2 : ns.drop n = PyFlat.putRow b ++ (PyFlat.putRow x ++ (PyFlat.putRow y ++ ([] ++ rest))) := by rw [show ns.drop n = (PyFlat.putRow b ++ (PyFlat.putRow x ++ (PyFlat.putRow y ++ ([] : List Int)))) ++ rest from hd, List.append_assoc, List.append_assoc, List.append_assoc]
      obtain ⟨g1, g2, g3, g4⟩ := drop_row hd2
      obtain ⟨i1, i2, i3, i4⟩ := drop_row g3
      obtain ⟨j1, j2, j3, j4⟩ := drop_row i3
      refine ⟨_, rfl, r, dr, _, rfl, m0.read, readF_no l n (by decide +kernel) (by decide +kernel), r, dr, l, n, ns, b, rfl, m0.read, m0.list, g1, g4, g2, fun p0 hp0 => ?_⟩
      have m1 := m0.row (o := .lst (b.map V.int)) hp0 (n + 1 + b.length)
      refine ⟨_, rfl, r, dr, _, rfl, m1.read, readF_no l _ (by decide +kernel) (by decide +kernel), r, dr, l, _, ns, x, rfl, m1.read, m1.list, i1, i4, i2, fun p hp => ?_⟩
      have m2 := m1.row (o := .lst (x.map V.int)) hp (n + 1 + b.length + 1 + x.length)
      obtain ⟨dx, v, ha, _⟩ := id m2.hold
      refine ⟨_, rfl, a, dx, _, rfl, ha, heldF_no _ (by decide +kernel), _, rfl, _, rfl, _, rfl, r, dr, _, rfl, m2.read, readF_no l _ (by decide +kernel) (by decide +kernel), r, dr, l, _, ns, y, rfl, m2.read, m2.list, j1, j4, j2, fun p2 hp2 => ?_⟩
      have hpr0 : p0 ≠ r := (ne_of_none m0.read hp0).symm
      have hpr : p ≠ r := (ne_of_none m1.read hp).symm
      have hp0p : p0 ≠ p := ne_of_none (o := .lst (b.map V.int)) upd_same hp
      have m3 := m2.row (o := .lst (y.map V.int)) hp2 (n + 1 + b.length + 1 + x.length + 1 + y.length)
      obtain ⟨dx, v, ha, hv⟩ := id m3.hold
      have hpp : p ≠ p2 := ne_of_none (o := .lst (x.map V.int)) upd_same hp2
      have hp0p2 : p0 ≠ p2 := ne_of_none (o := .lst (b.map V.int)) (by rw [upd_ne hp0p, upd_ne hpr0]; exact upd_same) hp2
      have hlen := d.len
      exact ⟨a, dx, p0, p, p2, v, b, x, y, st, rfl, ha, hv, d.ok, by rw [upd_ne hp0p2, upd_ne hpr0, upd_ne hp0p, upd_ne hpr0]; exact upd_same, by rw [upd_ne hpp, upd_ne hpr]; exact upd_same, upd_same, hb, hx, hy, by omega, by omega, hl2, m3.doneR d.ok (by rw [stp_seal _ _ _ _ hbl]) q j3⟩
theorem scAnsUnseal : FnScope ["holder", "reader", "label"] ["holder", "reader"] (defScope sAnsUnseal) := ⟨rfl, rfl, rfl, by decide +kernel, rfl, by decide +kernel, by decide +kernel⟩
theorem ok_ansUnseal {f : Addr} {fd : FuncData} {D : Ads} (T : Cls3 K D) (hR : HasM P w K mg base 2 D.Cr "take_row" ["self"] (spTakeR K D.Cr))
    (hK : HasM P w K mg base 9 D.Ch "rs_unseal" ["self", "label", "sealed_row"] (spRsUnseal D.Ch D.Ck)) (F : Fun K "answer_unseal" "answer_unseal" sAnsUnseal f fd) : FnOk P w K mg base CX0 10 f fd ["holder", "reader"] (spAns K D 8) := by
  refine F.ok scAnsUnseal (fun vs H Q E h => ?_) (fun cdv A outer s H vs Q E hr h => ?_)
  · obtain ⟨a, r, l, ns, st, n, nums, rows, rest, rfl, _⟩ := h
    rfl
  · obtain ⟨a, r, l, ns, st, n, nums, rows, rest, rfl, d, kd, hd, q⟩ := h
    refine ⟨_, pss_cons (ps_set (i := 2) scAnsUnseal.nd rfl (Or.inl rfl) (pe_methH0 (pv 1) T.r.cl hR hr (by decide)))
      (pss_one (ps_ret (pe_methH (pv 0) T.h.cl hK hr (by decide) (pa_cons (pv 2) (pa_cons (pe_methH0 (pv 1) T.r.cl hR hr (by decide)) pa_nil))))), ?_⟩
    cases kd with
    | unseals b y hb hy hbl hl2 =>
      obtain ⟨dr, m0⟩ := d.moved
      have hd2 : ns.drop n = PyFlat.putRow b ++ (PyFlat.putRow y ++ ([] ++ rest)) := by rw [show ns.drop n = (PyFlat.putRow b ++ (PyFlat.putRow y ++ ([] : List Int))) ++ rest from hd, List.append_assoc, List.append_assoc]
      obtain ⟨g1, g2, g3, g4⟩ := drop_row hd2
      obtain ⟨i1, i2, i3, i4⟩ := drop_row g3
      refine ⟨_, rfl, r, dr, _, rfl, m0.read, readF_no l n (by decide +kernel) (by decide +kernel), r, dr, l, n, ns, b, rfl, m0.read, m0.list, g1, g4, g2, fun p hp => ?_⟩
      have m2 := m0.row (o := .lst (b.map V.int)) hp (n + 1 + b.length)
      obtain ⟨dx, v, ha, _⟩ := id m2.hold
      refine ⟨_, rfl, a, dx, _, rfl, ha, heldF_no _ (by decide +kernel), _, rfl, _, rfl, r, dr, _, rfl, m2.read, readF_no l _ (by decide +kernel) (by decide +kernel), r, dr, l, _, ns, y, rfl, m2.read, m2.list, i1, i4, i2, fun p2 hp2 => ?_⟩
      have hpr : p ≠ r := (ne_of_none m0.read hp).symm
      have m3 := m2.row (o := .lst (y.map V.int)) hp2 (n + 1 + b.length + 1 + y.length)
      obtain ⟨dx, v, ha, hv⟩ := id m3.hold
      have hpp : p ≠ p2 := ne_of_none (o := .lst (b.map V.int)) upd_same hp2
      have hlen := d.len
      exact ⟨a, dx, p, p2, v, b, y, st, rfl, ha, hv, d.ok, by rw [upd_ne hpp, upd_ne hpr]; exact upd_same, upd_same, hb, hy, by omega, hl2, m3.doneR d.ok (by rw [stp_unseal _ _ _ hbl]) q i3⟩
/-! ### answer_call -/
theorem scAnsCall : FnScope ["holder", "reader", "call"] ["holder", "reader"] (defScope sAnsCall) := ⟨rfl, rfl, rfl, by decide +kernel, rfl, by decide +kernel, by decide +kernel⟩
theorem ok_ansCall {f : Addr} {fd : FuncData} {D : Ads} (T : Cls3 K D) (k1 : GInt mg "RS_KEY" 1) (k2 : GInt mg "RS_MAKE" 2) (k3 : GInt mg "RS_NUMBERS" 3) (k4 : GInt mg "RS_PRIME" 4) (k5 : GInt mg "RS_SIGN" 5) (k6 : GInt mg "RS_CHECK" 6) (k7 : GInt mg "RS_SEAL" 7) (k8 : GInt mg "RS_UNSEAL" 8) (hN : HasM P w K mg base 1 D.Cr "take_number" ["self"] (spTakeN K D.Cr)) (hNum : HasM P w K mg base 2 D.Ch "rs_numbers" ["self"] (spRsNumbers D.Ch D.Ck))
    (hA1 : Has P w K mg base 5 "answer_key" ["holder", "reader"] (spAns K D 1)) (hA2 : Has P w K mg base 7 "answer_make" ["holder", "reader"] (spAns K D 2)) (hA4 : Has P w K mg base 6 "answer_prime" ["holder", "reader"] (spAns K D 4)) (hA5 : Has P w K mg base 9 "answer_sign" ["holder", "reader"] (spAns K D 5)) (hA6 : Has P w K mg base 11 "answer_check" ["holder", "reader"] (spAns K D 6)) (hA7 : Has P w K mg base 9 "answer_seal" ["holder", "reader"] (spAns K D 7)) (hA8 : Has P w K mg base 10 "answer_unseal" ["holder", "reader"] (spAns K D 8))
    (F : Fun K "answer_call" "answer_call" sAnsCall f fd) : FnOk P w K mg base CX0 18 f fd ["holder", "reader"] (spCall K D) := by
  refine F.ok scAnsCall (fun vs H Q E h => ?_) (fun cdv A outer s H vs Q E hr h => ?_)
  · obtain ⟨a, r, l, ns, st, n, c, rest, rfl, _⟩ := h
    rfl
  · obtain ⟨a, r, l, ns, st, n, c, rest, rfl, d, kd, hd, q⟩ := h
    refine ⟨_, pss_cons (ps_set (i := 2) scAnsCall.nd rfl (Or.inl rfl) (pe_methH0 (pv 1) T.r.cl hN hr (by decide)))
      (pss_cons (ps_if (pt_cmp (pc_eqI (pv 2) (pe_gint k1 rfl))) (pss_one (ps_ret (pe_callH hA1 hr (by decide) rfl (pa_cons (pv 0) (pa_cons (pv 1) pa_nil))))) pss_nil)
      (pss_cons (ps_if (pt_cmp (pc_eqI (pv 2) (pe_gint k2 rfl))) (pss_one (ps_ret (pe_callH hA2 hr (by decide) rfl (pa_cons (pv 0) (pa_cons (pv 1) pa_nil))))) pss_nil)
      (pss_cons (ps_if (pt_cmp (pc_eqI (pv 2) (pe_gint k3 rfl))) (pss_one (ps_ret (pe_methH0 (pv 0) T.h.cl hNum hr (by decide)))) pss_nil)
      (pss_cons (ps_if (pt_cmp (pc_eqI (pv 2) (pe_gint k4 rfl))) (pss_one (ps_ret (pe_callH hA4 hr (by decide) rfl (pa_cons (pv 0) (pa_cons (pv 1) pa_nil))))) pss_nil)
      (pss_cons (ps_if (pt_cmp (pc_eqI (pv 2) (pe_gint k5 rfl))) (pss_one (ps_ret (pe_callH hA5 hr (by decide) rfl (pa_cons (pv 0) (pa_cons (pv 1) pa_nil))))) pss_nil)
      (pss_cons (ps_if (pt_cmp (pc_eqI (pv 2) (pe_gint k6 rfl))) (pss_one (ps_ret (pe_callH hA6 hr (by decide) rfl (pa_cons (pv 0) (pa_cons (pv 1) pa_nil))))) pss_nil)
      (pss_cons (ps_if (pt_cmp (pc_eqI (pv 2) (pe_gint k7 rfl))) (pss_one (ps_ret (pe_callH hA7 hr (by decide) rfl (pa_cons (pv 0) (pa_cons (pv 1) pa_nil))))) pss_nil)
      (pss_cons (ps_if (pt_cmp (pc_eqI (pv 2) (pe_gint k8 rfl))) (pss_one (ps_ret (pe_callH hA8 hr (by decide) rfl (pa_cons (pv 0) (pa_cons (pv 1) pa_nil))))) pss_nil)
      (pss_one ps_never))))))))), ?_⟩
    obtain ⟨dr, m0⟩ := d.moved
    have m1 := m0.next (n + 1)
    have d1 : Desk K D (upd H r (.ins D.Cr dr (readF l (n + 1)))) a r l ns st (n + 1) := ⟨m1.hold, ⟨dr, m1.read⟩, m1.list, d.ok, m1.len⟩
    have q1 := q.next (n' := n + 1) m0.read
    have go : ∀ (p : Int) (tl : List Int), ns.drop n = p :: tl → ns[n]? = some p ∧ ns.drop (n + 1) = tl := fun p tl h => drop_cons h
    have kd0 := kd
    cases kd with
    | key z e x hz he hx hl =>
      obtain ⟨g1, g2⟩ := go 1 _ (show ns.drop n = 1 :: ([z, e] ++ (PyFlat.putRows [x] ++ rest)) by rw [hd]; simp [PyFlat.put1, PyFlat.putRows])
      refine ⟨_, rfl, r, dr, _, rfl, m0.read, readF_no l n (by decide +kernel) (by decide +kernel), r, dr, l, n, ns, 1, rfl, m0.read, m0.list, g1, ?_⟩
      refine ⟨_, rfl, _, _, rfl, rfl, _, rfl, iteD (fun _ => ?_) (fun h => absurd rfl h)⟩
      exact ⟨_, rfl, _, rfl, a, r, l, ns, st, n + 1, [z, e], [x], rest, rfl, d1, kd0, g2, q1⟩
    | make z e x y hz he hx hy hl hl2 =>
      obtain ⟨g1, g2⟩ := go 2 _ (show ns.drop n = 2 :: ([z, e] ++ (PyFlat.putRows [x, y] ++ rest)) by rw [hd]; simp [PyFlat.put1, PyFlat.putRows])
      refine ⟨_, rfl, r, dr, _, rfl, m0.read, readF_no l n (by decide +kernel) (by decide +kernel), r, dr, l, n, ns, 2, rfl, m0.read, m0.list, g1, ?_⟩
      refine ⟨_, rfl, _, _, rfl, rfl, _, rfl, iteD (fun h => absurd h (by decide)) (fun _ => ?_)⟩
      refine ⟨_, rfl, _, _, rfl, rfl, _, rfl, iteD (fun _ => ?_) (fun h => absurd rfl h)⟩
      exact ⟨_, rfl, _, rfl, a, r, l, ns, st, n + 1, [z, e], [x, y], rest, rfl, d1, kd0, g2, q1⟩
    | numbers =>
      obtain ⟨g1, g2⟩ := go 3 rest hd
      refine ⟨_, rfl, r, dr, _, rfl, m0.read, readF_no l n (by decide +kernel) (by decide +kernel), r, dr, l, n, ns, 3, rfl, m0.read, m0.list, g1, ?_⟩
      refine ⟨_, rfl, _, _, rfl, rfl, _, rfl, iteD (fun h => absurd h (by decide)) (fun _ => ?_)⟩
      refine ⟨_, rfl, _, _, rfl, rfl, _, rfl, iteD (fun h => absurd h (by decide)) (fun _ => ?_)⟩
      refine ⟨_, rfl, _, _, rfl, rfl, _, rfl, iteD (fun _ => ?_) (fun h => absurd rfl h)⟩
      obtain ⟨dx, v, ha, hv⟩ := id m1.hold
      exact ⟨_, rfl, a, dx, _, rfl, ha, heldF_no _ (by decide +kernel), a, dx, v, st, rfl, ha, hv, d.ok, m1.doneR d.ok (by rw [stp_numbers]) q g2⟩
    | prime z e x hz he hx hl =>
      obtain ⟨g1, g2⟩ := go 4 _ (show ns.drop n = 4 :: ([z, e] ++ (PyFlat.putRows [x] ++ rest)) by rw [hd]; simp [PyFlat.put1, PyFlat.putRows])
      refine ⟨_, rfl, r, dr, _, rfl, m0.read, readF_no l n (by decide +kernel) (by decide +kernel), r, dr, l, n, ns, 4, rfl, m0.read, m0.list, g1, ?_⟩
      refine ⟨_, rfl, _, _, rfl, rfl, _, rfl, iteD (fun h => absurd h (by decide)) (fun _ => ?_)⟩
      refine ⟨_, rfl, _, _, rfl, rfl, _, rfl, iteD (fun h => absurd h (by decide)) (fun _ => ?_)⟩
      refine ⟨_, rfl, _, _, rfl, rfl, _, rfl, iteD (fun h => absurd h (by decide)) (fun _ => ?_)⟩
      refine ⟨_, rfl, _, _, rfl, rfl, _, rfl, iteD (fun _ => ?_) (fun h => absurd rfl h)⟩
      exact ⟨_, rfl, _, rfl, a, r, l, ns, st, n + 1, [z, e], [x], rest, rfl, d1, kd0, g2, q1⟩
    | sign z x y hz hx hy hl hl2 =>
      obtain ⟨g1, g2⟩ := go 5 _ (show ns.drop n = 5 :: ([z] ++ (PyFlat.putRows [x, y] ++ rest)) by rw [hd]; simp [PyFlat.put1, PyFlat.putRows])
      refine ⟨_, rfl, r, dr, _, rfl, m0.read, readF_no l n (by decide +kernel) (by decide +kernel), r, dr, l, n, ns, 5, rfl, m0.read, m0.list, g1, ?_⟩
      refine ⟨_, rfl, _, _, rfl, rfl, _, rfl, iteD (fun h => absurd h (by decide)) (fun _ => ?_)⟩
      refine ⟨_, rfl, _, _, rfl, rfl, _, rfl, iteD (fun h => absurd h (by decide)) (fun _ => ?_)⟩
      refine ⟨_, rfl, _, _, rfl, rfl, _, rfl, iteD (fun h => absurd h (by decide)) (fun _ => ?_)⟩
      refine ⟨_, rfl, _, _, rfl, rfl, _, rfl, iteD (fun h => absurd h (by decide)) (fun _ => ?_)⟩
      refine ⟨_, rfl, _, _, rfl, rfl, _, rfl, iteD (fun _ => ?_) (fun h => absurd rfl h)⟩
      exact ⟨_, rfl, _, rfl, a, r, l, ns, st, n + 1, [z], [x, y], rest, rfl, d1, kd0, g2, q1⟩
    | check z x y hz hx hy hl hl2 =>
      obtain ⟨g1, g2⟩ := go 6 _ (show ns.drop n = 6 :: ([z] ++ (PyFlat.putRows [x, y] ++ rest)) by rw [hd]; simp [PyFlat.put1, PyFlat.putRows])
      refine ⟨_, rfl, r, dr, _, rfl, m0.read, readF_no l n (by decide +kernel) (by decide +kernel), r, dr, l, n, ns, 6, rfl, m0.read, m0.list, g1, ?_⟩
      refine ⟨_, rfl, _, _, rfl, rfl, _, rfl, iteD (fun h => absurd h (by decide)) (fun _ => ?_)⟩
      refine ⟨_, rfl, _, _, rfl, rfl, _, rfl, iteD (fun h => absurd h (by decide)) (fun _ => ?_)⟩
      refine ⟨_, rfl, _, _, rfl, rfl, _, rfl, iteD (fun h => absurd h (by decide)) (fun _ => ?_)⟩
      refine ⟨_, rfl, _, _, rfl, rfl, _, rfl, iteD (fun h => absurd h (by decide)) (fun _ => ?_)⟩
      refine ⟨_, rfl, _, _, rfl, rfl, _, rfl, iteD (fun h => absurd h (by decide)) (fun _ => ?_)⟩
      refine ⟨_, rfl, _, _, rfl, rfl, _, rfl, iteD (fun _ => ?_) (fun h => absurd rfl h)⟩
      exact ⟨_, rfl, _, rfl, a, r, l, ns, st, n + 1, [z], [x, y], rest, rfl, d1, kd0, g2, q1⟩
    | seals b x y hb hx hy hbl hl hl2 =>
      obtain ⟨g1, g2⟩ := go 7 _ (show ns.drop n = 7 :: ([] ++ (PyFlat.putRows [b, x, y] ++ rest)) by rw [hd]; simp [PyFlat.put1, PyFlat.putRows])
      refine ⟨_, rfl, r, dr, _, rfl, m0.read, readF_no l n (by decide +kernel) (by decide +kernel), r, dr, l, n, ns, 7, rfl, m0.read, m0.list, g1, ?_⟩
      refine ⟨_, rfl, _, _, rfl, rfl, _, rfl, iteD (fun h => absurd h (by decide)) (fun _ => ?_)⟩
      refine ⟨_, rfl, _, _, rfl, rfl, _, rfl, iteD (fun h => absurd h (by decide)) (fun _ => ?_)⟩
      refine ⟨_, rfl, _, _, rfl, rfl, _, rfl, iteD (fun h => absurd h (by decide)) (fun _ => ?_)⟩
      refine ⟨_, rfl, _, _, rfl, rfl, _, rfl, iteD (fun h => absurd h (by decide)) (fun _ => ?_)⟩
      refine ⟨_, rfl, _, _, rfl, rfl, _, rfl, iteD (fun h => absurd h (by decide)) (fun _ => ?_)⟩
      refine ⟨_, rfl, _, _, rfl, rfl, _, rfl, iteD (fun h => absurd h (by decide)) (fun _ => ?_)⟩
      refine ⟨_, rfl, _, _, rfl, rfl, _, rfl, iteD (fun _ => ?_) (fun h => absurd rfl h)⟩
      exact ⟨_, rfl, _, rfl, a, r, l, ns, st, n + 1, [], [b, x, y], rest, rfl, d1, kd0, g2, q1⟩
    | unseals b y hb hy hbl hl2 =>
      obtain ⟨g1, g2⟩ := go 8 _ (show ns.drop n = 8 :: ([] ++ (PyFlat.putRows [b, y] ++ rest)) by rw [hd]; simp [PyFlat.put1, PyFlat.putRows])
      refine ⟨_, rfl, r, dr, _, rfl, m0.read, readF_no l n (by decide +kernel) (by decide +kernel), r, dr, l, n, ns, 8, rfl, m0.read, m0.list, g1, ?_⟩
      refine ⟨_, rfl, _, _, rfl, rfl, _, rfl, iteD (fun h => absurd h (by decide)) (fun _ => ?_)⟩
      refine ⟨_, rfl, _, _, rfl, rfl, _, rfl, iteD (fun h => absurd h (by decide)) (fun _ => ?_)⟩
      refine ⟨_, rfl, _, _, rfl, rfl, _, rfl, iteD (fun h => absurd h (by decide)) (fun _ => ?_)⟩
      refine ⟨_, rfl, _, _, rfl, rfl, _, rfl, iteD (fun h => absurd h (by decide)) (fun _ => ?_)⟩
      refine ⟨_, rfl, _, _, rfl, rfl, _, rfl, iteD (fun h => absurd h (by decide)) (fun _ => ?_)⟩
      refine ⟨_, rfl, _, _, rfl, rfl, _, rfl, iteD (fun h => absurd h (by decide)) (fun _ => ?_)⟩
      refine ⟨_, rfl, _, _, rfl, rfl, _, rfl, iteD (fun h => absurd h (by decide)) (fun _ => ?_)⟩
      refine ⟨_, rfl, _, _, rfl, rfl, _, rfl, iteD (fun _ => ?_) (fun h => absurd rfl h)⟩
      exact ⟨_, rfl, _, rfl, a, r, l, ns, st, n + 1, [], [b, y], rest, rfl, d1, kd0, g2, q1⟩
end
end Gk

set_option Elab.async false
set_option linter.all false
set_option maxRecDepth 100000
set_option maxHeartbeats 4000000
/-! All promises put together. -/
namespace Gk
open PySem PySem.Spec PyProof.Rows L2
theorem all_of {P : Program} {w : World} {K : PySem.W.Frag} {mg : Str → Option Value} {fa : Addr} (hfa : mg "answers" = some (.ref fa))
    (d_number_of : DefAt K mg "number_of" "number_of" (top 1))
    (d_row_of : DefAt K mg "row_of" "row_of" (top 2))
    (d_exclusive_or : DefAt K mg "exclusive_or" "exclusive_or" (top 3))
    (g_WORD_BITS : GInt mg "WORD_BITS" 32)
    (g_WORD_MASK : GInt mg "WORD_MASK" 4294967295)
    (g_BLOCK_BYTES : GInt mg "BLOCK_BYTES" 64)
    (g_BLOCK_WORDS : GInt mg "BLOCK_WORDS" 16)
    (g_SUM_BYTES : GInt mg "SUM_BYTES" 32)
    (g_FIRST_WORDS : GTup K mg "FIRST_WORDS" [1779033703, 3144134277, 1013904242, 2773480762, 1359893119, 2600822924, 528734635, 1541459225])
    (g_ROUND_NUMBERS : GTup K mg "ROUND_NUMBERS" [1116352408, 1899447441, 3049323471, 3921009573, 961987163, 1508970993, 2453635748, 2870763221, 3624381080, 310598401, 607225278, 1426881987, 1925078388, 2162078206, 2614888103, 3248222580, 3835390401, 4022224774, 264347078, 604807628, 770255983, 1249150122, 1555081692, 1996064986, 2554220882, 2821834349, 2952996808, 3210313671, 3336571891, 3584528711, 113926993, 338241895, 666307205, 773529912, 1294757372, 1396182291, 1695183700, 1986661051, 2177026350, 2456956037, 2730485921, 2820302411, 3259730800, 3345764771, 3516065817, 3600352804, 4094571909, 275423344, 430227734, 506948616, 659060556, 883997877, 958139571, 1322822218, 1537002063, 1747873779, 1955562222, 2024104815, 2227730452, 2361852424, 2428436474, 2756734187, 3204031479, 3329325298])
    (d_filled_up : DefAt K mg "filled_up" "filled_up" (top 12))
    (d_turned : DefAt K mg "turned" "turned" (top 13))
    (d_words_of : DefAt K mg "words_of" "words_of" (top 14))
    (d_stirred : DefAt K mg "stirred" "stirred" (top 15))
    (d_sum_of : DefAt K mg "sum_of" "sum_of" (top 16))
    (d_mask_of : DefAt K mg "mask_of" "mask_of" (top 17))
    (g_SALT_BYTES : GInt mg "SALT_BYTES" 32)
    (g_SEED_BYTES : GInt mg "SEED_BYTES" 32)
    (g_PLAIN_REST : GInt mg "PLAIN_REST" 54)
    (g_SALTED_REST : GInt mg "SALTED_REST" 66)
    (g_SEALED_REST : GInt mg "SEALED_REST" 66)
    (g_SUM_SIGN : GTup K mg "SUM_SIGN" [48, 49, 48, 13, 6, 9, 96, 134, 72, 1, 101, 3, 4, 2, 1, 5, 0, 4, 32])
    (g_SALTED_END : GInt mg "SALTED_END" 188)
    (g_ALL_BUT_HIGHEST_BIT : GInt mg "ALL_BUT_HIGHEST_BIT" 127)
    (d_masked : DefAt K mg "masked" "masked" (top 27))
    (d_plain_form : DefAt K mg "plain_form" "plain_form" (top 28))
    (d_salted_form : DefAt K mg "salted_form" "salted_form" (top 29))
    (d_is_salted_form : DefAt K mg "is_salted_form" "is_salted_form" (top 30))
    (d_fits_sealed_form : DefAt K mg "fits_sealed_form" "fits_sealed_form" (top 31))
    (d_sealed_form : DefAt K mg "sealed_form" "sealed_form" (top 32))
    (d_unmasked_block : DefAt K mg "unmasked_block" "unmasked_block" (top 33))
    (d_sealed_message : DefAt K mg "sealed_message" "sealed_message" (top 34))
    (g_WINDOW : GInt mg "WINDOW" 5)
    (g_WINDOW_MASK : GInt mg "WINDOW_MASK" 31)
    (d_low_powers : DefAt K mg "low_powers" "low_powers" (top 38))
    (d_power : DefAt K mg "power" "power" (top 39))
    (d_common_divisor : DefAt K mg "common_divisor" "common_divisor" (top 40))
    (d_common_multiple : DefAt K mg "common_multiple" "common_multiple" (top 41))
    (d_inverse : DefAt K mg "inverse" "inverse" (top 42))
    (g_SMALL_LIMIT : GInt mg "SMALL_LIMIT" 2000)
    (d_primes_below : DefAt K mg "primes_below" "primes_below" (top 45))
    (d_tells_against : DefAt K mg "tells_against" "tells_against" (top 46))
    (d_taken_for_prime : DefAt K mg "taken_for_prime" "taken_for_prime" (top 47))
    (g_SIZES : GTup K mg "SIZES" [128, 256, 384, 512])
    (g_LEAST_EXPONENT : GInt mg "LEAST_EXPONENT" 3)
    (g_ROUNDS_FOR_A_KEY : GInt mg "ROUNDS_FOR_A_KEY" 20)
    (c_Key : ∃ C, ClassAt K mg "Key" C ∧ NoAttr K C "exponent" ∧ NoAttr K C "modulus" ∧ NoAttr K C "secret" ∧ NoAttr K C "size" ∧ MethAt K C "__init__" "Key.__init__" (inClass (top 52) 0) ∧ MethAt K C "is_open" "Key.is_open" (inClass (top 52) 1) ∧ MethAt K C "open_of" "Key.open_of" (inClass (top 52) 2) ∧ MethAt K C "secret_of" "Key.secret_of" (inClass (top 52) 3))
    (d_is_size : DefAt K mg "is_size" "is_size" (top 53))
    (d_is_exponent : DefAt K mg "is_exponent" "is_exponent" (top 54))
    (d_fills : DefAt K mg "fills" "fills" (top 55))
    (d_open_key : DefAt K mg "open_key" "open_key" (top 56))
    (d_key_of_primes : DefAt K mg "key_of_primes" "key_of_primes" (top 57))
    (g_DONE : GInt mg "DONE" 0)
    (g_WRONG_INPUT : GInt mg "WRONG_INPUT" (-1))
    (g_NO_KEY : GInt mg "NO_KEY" (-2))
    (g_NOT_PUT_TOGETHER : GInt mg "NOT_PUT_TOGETHER" (-3))
    (g_OPEN_KEY : GInt mg "OPEN_KEY" (-4))
    (g_NOT_SEALED : GInt mg "NOT_SEALED" (-5))
    (g_MOST_ROUNDS : GInt mg "MOST_ROUNDS" 40)
    (g_MOST_BYTES : GInt mg "MOST_BYTES" 16777216)
    (g_PLAIN : GInt mg "PLAIN" 0)
    (g_SALTED : GInt mg "SALTED" 1)
    (d_is_kind : DefAt K mg "is_kind" "is_kind" (top 69))
    (d_is_length : DefAt K mg "is_length" "is_length" (top 70))
    (c_Holder : ∃ C, ClassAt K mg "Holder" C ∧ NoAttr K C "held" ∧ MethAt K C "__init__" "Holder.__init__" (inClass (top 71) 0) ∧ MethAt K C "rs_key" "Holder.rs_key" (inClass (top 71) 1) ∧ MethAt K C "rs_make" "Holder.rs_make" (inClass (top 71) 2) ∧ MethAt K C "rs_numbers" "Holder.rs_numbers" (inClass (top 71) 3) ∧ MethAt K C "rs_prime" "Holder.rs_prime" (inClass (top 71) 4) ∧ MethAt K C "rs_sign" "Holder.rs_sign" (inClass (top 71) 5) ∧ MethAt K C "rs_check" "Holder.rs_check" (inClass (top 71) 6) ∧ MethAt K C "is_right" "Holder.is_right" (inClass (top 71) 7) ∧ MethAt K C "rs_seal" "Holder.rs_seal" (inClass (top 71) 8) ∧ MethAt K C "rs_unseal" "Holder.rs_unseal" (inClass (top 71) 9))
    (c_Reader : ∃ C, ClassAt K mg "Reader" C ∧ NoAttr K C "numbers" ∧ NoAttr K C "place" ∧ MethAt K C "__init__" "Reader.__init__" (inClass (top 73) 0) ∧ MethAt K C "at_end" "Reader.at_end" (inClass (top 73) 1) ∧ MethAt K C "take_number" "Reader.take_number" (inClass (top 73) 2) ∧ MethAt K C "take_row" "Reader.take_row" (inClass (top 73) 3))
    (g_RS_KEY : GInt mg "RS_KEY" 1)
    (g_RS_MAKE : GInt mg "RS_MAKE" 2)
    (g_RS_NUMBERS : GInt mg "RS_NUMBERS" 3)
    (g_RS_PRIME : GInt mg "RS_PRIME" 4)
    (g_RS_SIGN : GInt mg "RS_SIGN" 5)
    (g_RS_CHECK : GInt mg "RS_CHECK" 6)
    (g_RS_SEAL : GInt mg "RS_SEAL" 7)
    (g_RS_UNSEAL : GInt mg "RS_UNSEAL" 8)
    (d_answer_key : DefAt K mg "answer_key" "answer_key" (top 84))
    (d_answer_make : DefAt K mg "answer_make" "answer_make" (top 85))
    (d_answer_prime : DefAt K mg "answer_prime" "answer_prime" (top 86))
    (d_answer_sign : DefAt K mg "answer_sign" "answer_sign" (top 87))
    (d_answer_check : DefAt K mg "answer_check" "answer_check" (top 88))
    (d_answer_seal : DefAt K mg "answer_seal" "answer_seal" (top 89))
    (d_answer_unseal : DefAt K mg "answer_unseal" "answer_unseal" (top 90))
    (d_answer_call : DefAt K mg "answer_call" "answer_call" (top 91))
    (d_answers : DefAt K mg "answers" "answers" (top 92))
    (b_range : mg "range" = none)
    (b_len : mg "len" = none)
    (b_any : mg "any" = none)
    (b_zip : mg "zip" = none)
    (b_list : mg "list" = none)
    : ∃ fd : FuncData, (∀ (s : Shared) (us : List Value), us.length = (["calls"] : List Str).length → BindsTo s fd ⟨us, []⟩ ((["calls"] : List Str).zip us)) ∧ ∀ base : Heap, FnOk P w K mg base CX0 20 fa fd ["calls"] (spAnswers K) := by
  obtain ⟨Ck, tk, nk_exponent, nk_modulus, nk_secret, nk_size, m_Key___init__, m_Key_is_open, m_Key_open_of, m_Key_secret_of⟩ := c_Key
  obtain ⟨Ch, th, nh_held, m_Holder___init__, m_Holder_rs_key, m_Holder_rs_make, m_Holder_rs_numbers, m_Holder_rs_prime, m_Holder_rs_sign, m_Holder_rs_check, m_Holder_is_right, m_Holder_rs_seal, m_Holder_rs_unseal⟩ := c_Holder
  obtain ⟨Cr, tr, nr_numbers, nr_place, m_Reader___init__, m_Reader_at_end, m_Reader_take_number, m_Reader_take_row⟩ := c_Reader
  have TK : TKey K Ck := ⟨tk.2.1, nk_size, nk_modulus, nk_exponent, nk_secret⟩
  have TH : THold K Ch := ⟨th.2.1, nh_held⟩
  have TR : TRead K Cr := ⟨tr.2.1, nr_numbers, nr_place⟩
  have T3 : Cls3 K ⟨Ch, Ck, Cr⟩ := ⟨TH, TK, TR⟩
  obtain ⟨f, fd, hm, F⟩ := d_answers
  have e := hfa.symm.trans hm
  cases e
  have F0 := F
  obtain ⟨⟨oc, od, kV, doc, pm, an, cdv, ct, osl, rfl, hl, hcd⟩, kp⟩ := F0
  refine ⟨PySem.W.fnOf "answers" "answers" (defArgs sAnswers) (defBody sAnswers) (defScope sAnswers) .none kV doc pm an cdv ct, fun s us hu => match us, hu with | [_], _ => .of_eq rfl, fun base => ?_⟩
  have h_number_of : Has P w K mg base 1 "number_of" ["row"] (spNumber K) := has_of d_number_of (fun _ _ _ _ _ _ us hl => match us, hl with | [_], _ => rfl) fun f fd F => ok_number  F
  have h_row_of : Has P w K mg base 1 "row_of" ["number", "size"] spRow := has_of d_row_of (fun _ _ _ _ _ _ us hl => match us, hl with | [_, _], _ => rfl) fun f fd F => ok_row b_range F
  have h_exclusive_or : Has P w K mg base 1 "exclusive_or" ["first", "second"] (spXor K) := has_of d_exclusive_or (fun _ _ _ _ _ _ us hl => match us, hl with | [_, _], _ => rfl) fun f fd F => ok_xor b_zip F
  have h_turned : Has P w K mg base 1 "turned" ["word", "bits"] spTurned := has_of d_turned (fun _ _ _ _ _ _ us hl => match us, hl with | [_, _], _ => rfl) fun f fd F => ok_turned g_WORD_BITS g_WORD_MASK F
  have h_filled_up : Has P w K mg base 2 "filled_up" ["message"] spFilled := has_of d_filled_up (fun _ _ _ _ _ _ us hl => match us, hl with | [_], _ => rfl) fun f fd F => ok_filled b_len g_BLOCK_BYTES h_row_of F
  have h_words_of : Has P w K mg base 2 "words_of" ["block"] spWords := has_of d_words_of (fun _ _ _ _ _ _ us hl => match us, hl with | [_], _ => rfl) fun f fd F => ok_words b_range b_len g_BLOCK_BYTES g_BLOCK_WORDS g_WORD_MASK _ rfl g_ROUND_NUMBERS h_number_of h_turned F
  have h_stirred : Has P w K mg base 3 "stirred" ["eight", "block"] spStirred := has_of d_stirred (fun _ _ _ _ _ _ us hl => match us, hl with | [_, _], _ => rfl) fun f fd F => ok_stirred b_zip g_WORD_MASK _ (by rw [keys_eq]; rfl) g_ROUND_NUMBERS h_words_of h_turned F
  have h_sum_of : Has P w K mg base 4 "sum_of" ["message"] spSum := has_of d_sum_of (fun _ _ _ _ _ _ us hl => match us, hl with | [_], _ => rfl) fun f fd F => ok_sum b_range b_len b_list g_BLOCK_BYTES _ (by rw [starts_eq]; rfl) g_FIRST_WORDS h_filled_up h_stirred h_row_of F
  have h_mask_of : Has P w K mg base 5 "mask_of" ["seed", "size"] spMask := has_of d_mask_of (fun _ _ _ _ _ _ us hl => match us, hl with | [_, _], _ => rfl) fun f fd F => ok_mask b_len h_sum_of h_row_of F
  have h_masked : Has P w K mg base 6 "masked" ["row", "seed"] spMasked := has_of d_masked (fun _ _ _ _ _ _ us hl => match us, hl with | [_, _], _ => rfl) fun f fd F => ok_masked b_len h_exclusive_or h_mask_of F
  have h_plain_form : Has P w K mg base 5 "plain_form" ["size", "message"] spPlain := has_of d_plain_form (fun _ _ _ _ _ _ us hl => match us, hl with | [_, _], _ => rfl) fun f fd F => ok_plain b_list g_PLAIN_REST _ rfl g_SUM_SIGN h_sum_of F
  have h_salted_form : Has P w K mg base 7 "salted_form" ["size", "message", "salt"] spSalted := has_of d_salted_form (fun _ _ _ _ _ _ us hl => match us, hl with | [_, _, _], _ => rfl) fun f fd F => ok_salted g_SALTED_REST g_ALL_BUT_HIGHEST_BIT g_SALTED_END h_sum_of h_masked F
  have h_is_salted_form : Has P w K mg base 8 "is_salted_form" ["form", "message"] spIsSalted := has_of d_is_salted_form (fun _ _ _ _ _ _ us hl => match us, hl with | [_, _], _ => rfl) fun f fd F => ok_isSalted b_len g_SUM_BYTES g_SALT_BYTES h_masked h_salted_form F
  have h_fits_sealed_form : Has P w K mg base 1 "fits_sealed_form" ["size", "message"] spFits := has_of d_fits_sealed_form (fun _ _ _ _ _ _ us hl => match us, hl with | [_, _], _ => rfl) fun f fd F => ok_fits b_len g_SEALED_REST F
  have h_sealed_form : Has P w K mg base 7 "sealed_form" ["size", "label", "message", "seed"] spSealed := has_of d_sealed_form (fun _ _ _ _ _ _ us hl => match us, hl with | [_, _, _, _], _ => rfl) fun f fd F => ok_sealed b_len g_SEALED_REST h_sum_of h_masked F
  have h_unmasked_block : Has P w K mg base 7 "unmasked_block" ["form"] spUnmask := has_of d_unmasked_block (fun _ _ _ _ _ _ us hl => match us, hl with | [_], _ => rfl) fun f fd F => ok_unmask g_SEED_BYTES h_masked F
  have h_sealed_message : Has P w K mg base 8 "sealed_message" ["form", "label"] spSealMsg := has_of d_sealed_message (fun _ _ _ _ _ _ us hl => match us, hl with | [_, _], _ => rfl) fun f fd F => ok_sealMsg b_len g_SUM_BYTES h_unmasked_block h_sum_of F
  have h_low_powers : Has P w K mg base 1 "low_powers" ["base", "modulus"] spLow := has_of d_low_powers (fun _ _ _ _ _ _ us hl => match us, hl with | [_, _], _ => rfl) fun f fd F => ok_low b_len g_WINDOW_MASK F
  have h_power : Has P w K mg base 2 "power" ["base", "exponent", "modulus"] spPower := has_of d_power (fun _ _ _ _ _ _ us hl => match us, hl with | [_, _, _], _ => rfl) fun f fd F => ok_power b_range g_WINDOW g_WINDOW_MASK h_low_powers F
  have h_common_divisor : Has P w K mg base 1 "common_divisor" ["first", "second"] spGcd := has_of d_common_divisor (fun _ _ _ _ _ _ us hl => match us, hl with | [_, _], _ => rfl) fun f fd F => ok_gcd  F
  have h_common_multiple : Has P w K mg base 2 "common_multiple" ["first", "second"] spLcm := has_of d_common_multiple (fun _ _ _ _ _ _ us hl => match us, hl with | [_, _], _ => rfl) fun f fd F => ok_lcm h_common_divisor F
  have h_inverse : Has P w K mg base 1 "inverse" ["number", "modulus"] spInv := has_of d_inverse (fun _ _ _ _ _ _ us hl => match us, hl with | [_, _], _ => rfl) fun f fd F => ok_inv  F
  have h_primes_below : Has P w K mg base 1 "primes_below" ["limit"] spBelow := has_of d_primes_below (fun _ _ _ _ _ _ us hl => match us, hl with | [_], _ => rfl) fun f fd F => ok_below b_range F
  have h_tells_against : Has P w K mg base 3 "tells_against" ["base", "number"] spTells := has_of d_tells_against (fun _ _ _ _ _ _ us hl => match us, hl with | [_, _], _ => rfl) fun f fd F => ok_tells b_range h_power F
  have h_taken_for_prime : Has P w K mg base 4 "taken_for_prime" ["number", "rounds"] spTaken := has_of d_taken_for_prime (fun _ _ _ _ _ _ us hl => match us, hl with | [_, _], _ => rfl) fun f fd F => ok_taken b_any g_SMALL_LIMIT h_primes_below h_tells_against F
  have h_Key___init__ : HasC P w K mg base 1 "Key" Ck ["self", "size", "modulus", "exponent", "secret"] (spKeyInit Ck) := hasC_of tk m_Key___init__ (fun _ _ _ _ _ _ us hl => match us, hl with | [_, _, _, _, _], _ => rfl) fun f fd F => ok_keyInit TK F
  have h_is_size : Has P w K mg base 1 "is_size" ["size"] spIsSize := has_of d_is_size (fun _ _ _ _ _ _ us hl => match us, hl with | [_], _ => rfl) fun f fd F => ok_isSize g_SIZES F
  have h_is_exponent : Has P w K mg base 1 "is_exponent" ["exponent"] spIsExp := has_of d_is_exponent (fun _ _ _ _ _ _ us hl => match us, hl with | [_], _ => rfl) fun f fd F => ok_isExp g_LEAST_EXPONENT F
  have h_fills : Has P w K mg base 1 "fills" ["number", "size"] spFills := has_of d_fills (fun _ _ _ _ _ _ us hl => match us, hl with | [_, _], _ => rfl) fun f fd F => ok_fills  F
  have h_open_key : Has P w K mg base 3 "open_key" ["size", "exponent", "modulus"] (spOpenKey Ck) := has_of d_open_key (fun _ _ _ _ _ _ us hl => match us, hl with | [_, _, _], _ => rfl) fun f fd F => ok_openKey h_fills h_Key___init__ F
  have h_key_of_primes : Has P w K mg base 5 "key_of_primes" ["size", "exponent", "first", "second"] (spOfPrimes Ck) := has_of d_key_of_primes (fun _ _ _ _ _ _ us hl => match us, hl with | [_, _, _, _], _ => rfl) fun f fd F => ok_ofPrimes g_ROUNDS_FOR_A_KEY h_fills h_inverse h_common_multiple h_taken_for_prime h_Key___init__ F
  have h_Key_is_open : HasM P w K mg base 1 Ck "is_open" ["self"] (spIsOpen Ck) := hasM_of m_Key_is_open (fun _ _ _ _ _ _ us hl => match us, hl with | [_], _ => rfl) fun f fd F => ok_isOpen TK F
  have h_Key_open_of : HasM P w K mg base 3 Ck "open_of" ["self", "number"] (spPut Ck Sz28.Key.open_) := hasM_of m_Key_open_of (fun _ _ _ _ _ _ us hl => match us, hl with | [_, _], _ => rfl) fun f fd F => ok_openOf TK h_power F
  have h_Key_secret_of : HasM P w K mg base 3 Ck "secret_of" ["self", "number"] (spPut Ck Sz28.Key.secret) := hasM_of m_Key_secret_of (fun _ _ _ _ _ _ us hl => match us, hl with | [_, _], _ => rfl) fun f fd F => ok_secretOf TK h_power F
  have h_Reader___init__ : HasC P w K mg base 1 "Reader" Cr ["self", "numbers"] (spRdInit Cr) := hasC_of tr m_Reader___init__ (fun _ _ _ _ _ _ us hl => match us, hl with | [_, _], _ => rfl) fun f fd F => ok_rdInit TR F
  have h_Reader_at_end : HasM P w K mg base 1 Cr "at_end" ["self"] (spAtEnd K Cr) := hasM_of m_Reader_at_end (fun _ _ _ _ _ _ us hl => match us, hl with | [_], _ => rfl) fun f fd F => ok_atEnd b_len TR F
  have h_Reader_take_number : HasM P w K mg base 1 Cr "take_number" ["self"] (spTakeN K Cr) := hasM_of m_Reader_take_number (fun _ _ _ _ _ _ us hl => match us, hl with | [_], _ => rfl) fun f fd F => ok_takeN TR F
  have h_Reader_take_row : HasM P w K mg base 2 Cr "take_row" ["self"] (spTakeR K Cr) := hasM_of m_Reader_take_row (fun _ _ _ _ _ _ us hl => match us, hl with | [_], _ => rfl) fun f fd F => ok_takeR TR h_Reader_take_number F
  have h_is_kind : Has P w K mg base 1 "is_kind" ["kind"] spIsKind := has_of d_is_kind (fun _ _ _ _ _ _ us hl => match us, hl with | [_], _ => rfl) fun f fd F => ok_isKind g_PLAIN g_SALTED F
  have h_is_length : Has P w K mg base 1 "is_length" ["row"] spIsLen := has_of d_is_length (fun _ _ _ _ _ _ us hl => match us, hl with | [_], _ => rfl) fun f fd F => ok_isLen b_len g_MOST_BYTES F
  have h_Holder___init__ : HasC P w K mg base 1 "Holder" Ch ["self"] (spHoldInit Ch) := hasC_of th m_Holder___init__ (fun _ _ _ _ _ _ us hl => match us, hl with | [_], _ => rfl) fun f fd F => ok_holdInit TH F
  have h_Holder_rs_key : HasM P w K mg base 4 Ch "rs_key" ["self", "size", "exponent", "modulus_row"] (spRsKey K Ch Ck) := hasM_of m_Holder_rs_key (fun _ _ _ _ _ _ us hl => match us, hl with | [_, _, _, _], _ => rfl) fun f fd F => ok_rsKey TH g_DONE g_WRONG_INPUT h_is_size h_is_exponent h_number_of h_open_key F
  have h_Holder_rs_make : HasM P w K mg base 6 Ch "rs_make" ["self", "size", "exponent", "first_row", "second_row"] (spRsMake K Ch Ck) := hasM_of m_Holder_rs_make (fun _ _ _ _ _ _ us hl => match us, hl with | [_, _, _, _, _], _ => rfl) fun f fd F => ok_rsMake TH g_DONE g_WRONG_INPUT g_NOT_PUT_TOGETHER h_is_size h_is_exponent h_number_of h_key_of_primes F
  have h_Holder_rs_numbers : HasM P w K mg base 2 Ch "rs_numbers" ["self"] (spRsNumbers Ch Ck) := hasM_of m_Holder_rs_numbers (fun _ _ _ _ _ _ us hl => match us, hl with | [_], _ => rfl) fun f fd F => ok_rsNumbers TH TK g_NO_KEY h_row_of F
  have h_Holder_rs_prime : HasM P w K mg base 5 Ch "rs_prime" ["self", "size", "rounds", "row"] (spRsPrime K) := hasM_of m_Holder_rs_prime (fun _ _ _ _ _ _ us hl => match us, hl with | [_, _, _, _], _ => rfl) fun f fd F => ok_rsPrime g_WRONG_INPUT g_MOST_ROUNDS h_is_size h_number_of h_taken_for_prime F
  have h_Holder_rs_sign : HasM P w K mg base 8 Ch "rs_sign" ["self", "kind", "message", "salt"] (spRsSign Ch Ck) := hasM_of m_Holder_rs_sign (fun _ _ _ _ _ _ us hl => match us, hl with | [_, _, _, _], _ => rfl) fun f fd F => ok_rsSign TH TK g_NO_KEY g_WRONG_INPUT g_OPEN_KEY g_PLAIN h_is_kind h_is_length h_Key_is_open h_Key_secret_of h_plain_form h_salted_form h_row_of h_number_of F
  have h_Holder_is_right : HasM P w K mg base 9 Ch "is_right" ["self", "kind", "message", "signature_row"] (spIsRight Ch Ck) := hasM_of m_Holder_is_right (fun _ _ _ _ _ _ us hl => match us, hl with | [_, _, _, _], _ => rfl) fun f fd F => ok_isRight TH TK g_PLAIN h_Key_open_of h_plain_form h_is_salted_form h_row_of h_number_of F
  have h_Holder_rs_check : HasM P w K mg base 10 Ch "rs_check" ["self", "kind", "message", "signature_row"] (spRsCheck Ch Ck) := hasM_of m_Holder_rs_check (fun _ _ _ _ _ _ us hl => match us, hl with | [_, _, _, _], _ => rfl) fun f fd F => ok_rsCheck TH g_NO_KEY g_WRONG_INPUT h_is_kind h_is_length h_Holder_is_right F
  have h_Holder_rs_seal : HasM P w K mg base 8 Ch "rs_seal" ["self", "label", "message", "seed"] (spRsSeal Ch Ck) := hasM_of m_Holder_rs_seal (fun _ _ _ _ _ _ us hl => match us, hl with | [_, _, _, _], _ => rfl) fun f fd F => ok_rsSeal TH TK g_NO_KEY g_WRONG_INPUT h_is_length h_fits_sealed_form h_Key_open_of h_sealed_form h_row_of h_number_of F
  have h_Holder_rs_unseal : HasM P w K mg base 9 Ch "rs_unseal" ["self", "label", "sealed_row"] (spRsUnseal Ch Ck) := hasM_of m_Holder_rs_unseal (fun _ _ _ _ _ _ us hl => match us, hl with | [_, _, _], _ => rfl) fun f fd F => ok_rsUnseal TH TK b_len g_NO_KEY g_WRONG_INPUT g_OPEN_KEY g_NOT_SEALED h_is_length h_Key_is_open h_Key_secret_of h_sealed_message h_row_of h_number_of F
  have h_answer_key : Has P w K mg base 5 "answer_key" ["holder", "reader"] (spAns K ⟨Ch, Ck, Cr⟩ 1) := has_of d_answer_key (fun _ _ _ _ _ _ us hl => match us, hl with | [_, _], _ => rfl) fun f fd F => ok_ansKey T3 h_Reader_take_number h_Reader_take_row h_Holder_rs_key F
  have h_answer_make : Has P w K mg base 7 "answer_make" ["holder", "reader"] (spAns K ⟨Ch, Ck, Cr⟩ 2) := has_of d_answer_make (fun _ _ _ _ _ _ us hl => match us, hl with | [_, _], _ => rfl) fun f fd F => ok_ansMake T3 h_Reader_take_number h_Reader_take_row h_Holder_rs_make F
  have h_answer_prime : Has P w K mg base 6 "answer_prime" ["holder", "reader"] (spAns K ⟨Ch, Ck, Cr⟩ 4) := has_of d_answer_prime (fun _ _ _ _ _ _ us hl => match us, hl with | [_, _], _ => rfl) fun f fd F => ok_ansPrime T3 h_Reader_take_number h_Reader_take_row h_Holder_rs_prime F
  have h_answer_sign : Has P w K mg base 9 "answer_sign" ["holder", "reader"] (spAns K ⟨Ch, Ck, Cr⟩ 5) := has_of d_answer_sign (fun _ _ _ _ _ _ us hl => match us, hl with | [_, _], _ => rfl) fun f fd F => ok_ansSign T3 h_Reader_take_number h_Reader_take_row h_Holder_rs_sign F
  have h_answer_check : Has P w K mg base 11 "answer_check" ["holder", "reader"] (spAns K ⟨Ch, Ck, Cr⟩ 6) := has_of d_answer_check (fun _ _ _ _ _ _ us hl => match us, hl with | [_, _], _ => rfl) fun f fd F => ok_ansCheck T3 h_Reader_take_number h_Reader_take_row h_Holder_rs_check F
  have h_answer_seal : Has P w K mg base 9 "answer_seal" ["holder", "reader"] (spAns K ⟨Ch, Ck, Cr⟩ 7) := has_of d_answer_seal (fun _ _ _ _ _ _ us hl => match us, hl with | [_, _], _ => rfl) fun f fd F => ok_ansSeal T3 h_Reader_take_row h_Holder_rs_seal F
  have h_answer_unseal : Has P w K mg base 10 "answer_unseal" ["holder", "reader"] (spAns K ⟨Ch, Ck, Cr⟩ 8) := has_of d_answer_unseal (fun _ _ _ _ _ _ us hl => match us, hl with | [_, _], _ => rfl) fun f fd F => ok_ansUnseal T3 h_Reader_take_row h_Holder_rs_unseal F
  have h_answer_call : Has P w K mg base 18 "answer_call" ["holder", "reader"] (spCall K ⟨Ch, Ck, Cr⟩) := has_of d_answer_call (fun _ _ _ _ _ _ us hl => match us, hl with | [_, _], _ => rfl) fun f fd F => ok_ansCall T3 g_RS_KEY g_RS_MAKE g_RS_NUMBERS g_RS_PRIME g_RS_SIGN g_RS_CHECK g_RS_SEAL g_RS_UNSEAL h_Reader_take_number h_Holder_rs_numbers h_answer_key h_answer_make h_answer_prime h_answer_sign h_answer_check h_answer_seal h_answer_unseal F
  exact ok_answers (D := ⟨Ch, Ck, Cr⟩) b_len T3 h_Holder___init__ h_Reader___init__ h_Reader_at_end h_answer_call F
end Gk

set_option Elab.async false
set_option linter.all false
/-! Names that are taken before the head runs: so it makes no twin of the objects, of the written part and of the text (their equations grow with the square of the objects, and the compiled proof would pass what a hand-in may have). -/
def PySem.W.Fast.tw4049720164025677597 : Unit := ()
def PySem.W.Fast.tw1950608145804334109 : Unit := ()
def PySem.W.Fast.tw8948486768948637183 : Unit := ()
def PySem.W.Fast.tw2982482861287692931 : Unit := ()
def PySem.W.Fast.tw14241805608391013850 : Unit := ()
def PySem.W.Fast.tw6113470442594215433 : Unit := ()
def PySem.W.Fast.tw11353233485622642612 : Unit := ()
def PySem.W.Fast.tw1230900122070729744 : Unit := ()
def PySem.W.Fast.tw15489882554919079406 : Unit := ()
def PySem.W.Fast.tw11510254028044113050 : Unit := ()
def PySem.W.Fast.tw2662198159636593566 : Unit := ()
def PySem.W.Fast.tw15842867970072041078 : Unit := ()
def PySem.W.Fast.tw6149007160241038572 : Unit := ()
def PySem.W.Fast.tw17256190371203566740 : Unit := ()
def PySem.W.Fast.tw5579905651709211568 : Unit := ()
def PySem.W.Fast.tw8614807212996911223 : Unit := ()
def PySem.W.Fast.tw15089864770803799666 : Unit := ()
def PySem.W.Fast.tw11380228622616585605 : Unit := ()
def PySem.W.Fast.tw1219065794524814666 : Unit := ()
def PySem.W.Fast.tw589261682756806706 : Unit := ()
def PySem.W.Fast.tw11382425095219903128 : Unit := ()
def PySem.W.Fast.tw6158027544434696262 : Unit := ()
def PySem.W.Fast.tw16863665456208892376 : Unit := ()
def PySem.W.Fast.tw1009811574580194274 : Unit := ()
def PySem.W.Fast.tw6195365210203685621 : Unit := ()
def PySem.W.Fast.tw2102615290205803126 : Unit := ()
def PySem.W.Fast.tw9614190409676635673 : Unit := ()
def PySem.W.Fast.tw9362945671371458400 : Unit := ()
def PySem.W.Fast.tw3502699487134900682 : Unit := ()
def PySem.W.Fast.tw16415050057382516159 : Unit := ()
def PySem.W.Fast.tw400254379113803963 : Unit := ()
def PySem.W.Fast.tw14961213381344815279 : Unit := ()
def PySem.W.Fast.tw15147057401187666053 : Unit := ()
def PySem.W.Fast.tw11337062399519290497 : Unit := ()
def PySem.W.Fast.tw10727354649348305346 : Unit := ()
def PySem.W.Fast.tw10316994981759288939 : Unit := ()
def PySem.W.Fast.tw2506294360563715652 : Unit := ()
def PySem.W.Fast.tw15592698511900141125 : Unit := ()
def PySem.W.Fast.tw14613737577415661612 : Unit := ()
def PySem.W.Fast.tw8852945483593519680 : Unit := ()
def PySem.W.Fast.tw6578671147031463967 : Unit := ()
def PySem.W.Fast.tw6518161335263676947 : Unit := ()
def PySem.W.Fast.tw4289023323558248734 : Unit := ()
def PySem.W.Fast.tw2212691982260849232 : Unit := ()
def PySem.W.Fast.tw12550546116881890661 : Unit := ()
def PySem.W.Fast.tw10244889187967483592 : Unit := ()
def PySem.W.Fast.tw9460912975381980368 : Unit := ()
def PySem.W.Fast.tw3271373762541759151 : Unit := ()
def PySem.W.Fast.tw16012489015997478027 : Unit := ()
def PySem.W.Fast.tw14342870494534151622 : Unit := ()
def PySem.W.Fast.tw14181607657245707198 : Unit := ()
def PySem.W.Fast.tw9240142358892644726 : Unit := ()
def PySem.W.Fast.tw7242057463768287568 : Unit := ()
def PySem.W.Fast.tw5081654869057835103 : Unit := ()
def PySem.W.Fast.tw4471243296106176323 : Unit := ()
def PySem.W.Fast.tw3602522832805408708 : Unit := ()
def PySem.W.Fast.tw17287778118195372840 : Unit := ()
def PySem.W.Fast.tw16857109367738162135 : Unit := ()
def PySem.W.Fast.tw16620180413172714265 : Unit := ()
def PySem.W.Fast.tw16375502851445364377 : Unit := ()
def PySem.W.Fast.tw13000294858172388376 : Unit := ()
def PySem.W.Fast.tw11322569413156735525 : Unit := ()
def PySem.W.Fast.tw9498883694103636542 : Unit := ()
def PySem.W.Fast.tw5878347147553115131 : Unit := ()
def PySem.W.Fast.tw5557851808842236493 : Unit := ()
def PySem.W.Fast.tw333075629353671980 : Unit := ()
def PySem.W.Fast.tw2824342665151551478 : Unit := ()
def PySem.W.Fast.tw1753136112542786306 : Unit := ()
def PySem.W.Fast.tw17217910608797903946 : Unit := ()
def PySem.W.Fast.tw14403546529950414104 : Unit := ()
def PySem.W.Fast.tw12838867358274646912 : Unit := ()
def PySem.W.Fast.tw933635126244129446 : Unit := ()
def PySem.W.Fast.tw9135479734423963231 : Unit := ()
def PySem.W.Fast.tw7829382209302695026 : Unit := ()
def PySem.W.Fast.tw6194753762798777629 : Unit := ()
def PySem.W.Fast.tw5724028366502998369 : Unit := ()
def PySem.W.Fast.tw3896688894343875441 : Unit := ()
def PySem.W.Fast.tw3537969498431943536 : Unit := ()
def PySem.W.Fast.tw2982650401740616801 : Unit := ()
def PySem.W.Fast.tw2788796634278315125 : Unit := ()
def PySem.W.Fast.tw16889839489890899482 : Unit := ()
def PySem.W.Fast.tw16831989415953752951 : Unit := ()
def PySem.W.Fast.tw16694216292730029190 : Unit := ()
def PySem.W.Fast.tw11476302685956851476 : Unit := ()
def PySem.W.Fast.tw9983228850728059206 : Unit := ()
def PySem.W.Fast.tw8439321440742221926 : Unit := ()
def PySem.W.Fast.tw7941822013593198687 : Unit := ()
def PySem.W.Fast.tw7024669048674931176 : Unit := ()
def PySem.W.Fast.tw6180919494391096310 : Unit := ()
def PySem.W.Fast.tw5354779144911611049 : Unit := ()
def PySem.W.Fast.tw479842873173057754 : Unit := ()
def PySem.W.Fast.tw263297869781825142 : Unit := ()
def PySem.W.Fast.tw2201502524285096713 : Unit := ()
def PySem.W.Fast.tw16324630302565729796 : Unit := ()
def PySem.W.Fast.tw13310964957146695235 : Unit := ()
def PySem.W.Fast.tw13130204886743594615 : Unit := ()
def PySem.W.Fast.tw13024229118157605266 : Unit := ()
def PySem.W.Fast.tw11131097189423631282 : Unit := ()
def PySem.W.Fast.tw10610388974533187449 : Unit := ()
def PySem.W.Fast.tw814267703097282376 : Unit := ()
def PySem.W.Fast.tw7902297253859177409 : Unit := ()
def PySem.W.Fast.tw7608096770121565553 : Unit := ()
def PySem.W.Fast.tw7458570898187447183 : Unit := ()
def PySem.W.Fast.tw6034509177640416091 : Unit := ()
def PySem.W.Fast.tw5478077256977079047 : Unit := ()
def PySem.W.Fast.tw4353284142158566760 : Unit := ()
def PySem.W.Fast.tw18064696380816327487 : Unit := ()
def PySem.W.Fast.tw17893830601676888468 : Unit := ()
def PySem.W.Fast.tw1735721860786599890 : Unit := ()
def PySem.W.Fast.tw17238703919163518828 : Unit := ()
def PySem.W.Fast.tw1625799203052226123 : Unit := ()
def PySem.W.Fast.tw14346645689431750247 : Unit := ()
def PySem.W.Fast.tw13981209702128989260 : Unit := ()
def PySem.W.Fast.tw13711414751660305499 : Unit := ()
def PySem.W.Fast.tw13229080268246095718 : Unit := ()
def PySem.W.Fast.tw12685382186209627999 : Unit := ()
def PySem.W.Fast.tw12632911286621523097 : Unit := ()
def PySem.W.Fast.tw12629705347862797316 : Unit := ()
def PySem.W.Fast.tw10441723774824965755 : Unit := ()
def PySem.W.Fast.tw9778098853203198840 : Unit := ()
def PySem.W.Fast.tw9472959837862274029 : Unit := ()
def PySem.W.Fast.tw9442697848792239141 : Unit := ()
def PySem.W.Fast.tw9238136523966157353 : Unit := ()
def PySem.W.Fast.tw9017486301302186844 : Unit := ()
def PySem.W.Fast.tw7450853495964973148 : Unit := ()
def PySem.W.Fast.tw6522549364393686698 : Unit := ()
def PySem.W.Fast.tw6351050426452367657 : Unit := ()
def PySem.W.Fast.tw3910711119458277072 : Unit := ()
def PySem.W.Fast.tw3873806326789768477 : Unit := ()
def PySem.W.Fast.tw3465992734173031713 : Unit := ()
def PySem.W.Fast.tw2582526285955967064 : Unit := ()
def PySem.W.Fast.tw1864986016665469618 : Unit := ()
def PySem.W.Fast.tw17695223204641878583 : Unit := ()
def PySem.W.Fast.tw17082598534704896237 : Unit := ()
def PySem.W.Fast.tw16913346814052387325 : Unit := ()
def PySem.W.Fast.tw16781820395116257591 : Unit := ()
def PySem.W.Fast.tw15114676272027587487 : Unit := ()
def PySem.W.Fast.tw13479734504349575562 : Unit := ()
def PySem.W.Fast.tw13320889468988356391 : Unit := ()
def PySem.W.Fast.tw13306880195399578502 : Unit := ()
def PySem.W.Fast.tw11270636555638378015 : Unit := ()
def PySem.W.Fast.tw944785276850719911 : Unit := ()
def PySem.W.Fast.tw8020151494060302383 : Unit := ()
def PySem.W.Fast.tw7881075736744944652 : Unit := ()
def PySem.W.Fast.tw6565969712793520676 : Unit := ()
def PySem.W.Fast.tw621553208141736969 : Unit := ()
def PySem.W.Fast.tw612180059669567680 : Unit := ()
def PySem.W.Fast.tw5690993063919752538 : Unit := ()
def PySem.W.Fast.tw3311299254714971935 : Unit := ()
def PySem.W.Fast.tw320397806334997988 : Unit := ()
def PySem.W.Fast.tw3046341288222688253 : Unit := ()
def PySem.W.Fast.tw2938049465847394768 : Unit := ()
def PySem.W.Fast.tw18330829224260433502 : Unit := ()
def PySem.W.Fast.tw18135323505619592026 : Unit := ()
def PySem.W.Fast.tw17319735639098362128 : Unit := ()
def PySem.W.Fast.tw17224657523136547953 : Unit := ()
def PySem.W.Fast.tw15454372644058261867 : Unit := ()
def PySem.W.Fast.tw9353015650274172444 : Unit := ()
def PySem.W.Fast.tw9275081504972269826 : Unit := ()
def PySem.W.Fast.tw9049505403980596207 : Unit := ()
def PySem.W.Fast.tw9023977573037140580 : Unit := ()
def PySem.W.Fast.tw829151915009547653 : Unit := ()
def PySem.W.Fast.tw8228904804605080630 : Unit := ()
def PySem.W.Fast.tw7961702985899885008 : Unit := ()
def PySem.W.Fast.tw7693975850384656782 : Unit := ()
def PySem.W.Fast.tw7409181096290334585 : Unit := ()
def PySem.W.Fast.tw7343292506024176402 : Unit := ()
def PySem.W.Fast.tw7126845292904206821 : Unit := ()
def PySem.W.Fast.tw6965795122778080825 : Unit := ()
def PySem.W.Fast.tw6880464443221570565 : Unit := ()
def PySem.W.Fast.tw5769921771356796087 : Unit := ()
def PySem.W.Fast.tw5747405642825505439 : Unit := ()
def PySem.W.Fast.tw5470592142007944967 : Unit := ()
def PySem.W.Fast.tw5048765079694198265 : Unit := ()
def PySem.W.Fast.tw4647857467302515392 : Unit := ()
def PySem.W.Fast.tw4323888132210421412 : Unit := ()
def PySem.W.Fast.tw3838240525446467295 : Unit := ()
def PySem.W.Fast.tw2605502380827687482 : Unit := ()
def PySem.W.Fast.tw1871862818002668244 : Unit := ()
def PySem.W.Fast.tw17582917515555789756 : Unit := ()
def PySem.W.Fast.tw16853359053073022286 : Unit := ()
def PySem.W.Fast.tw16698160355779332477 : Unit := ()
def PySem.W.Fast.tw16433448055130196286 : Unit := ()
def PySem.W.Fast.tw1598133320395380468 : Unit := ()
def PySem.W.Fast.tw15793832327171133941 : Unit := ()
def PySem.W.Fast.tw1513826176383581393 : Unit := ()
def PySem.W.Fast.tw15071271928111301477 : Unit := ()
def PySem.W.Fast.tw13995432490835113538 : Unit := ()
def PySem.W.Fast.tw13751843949442454723 : Unit := ()
def PySem.W.Fast.tw13595577771174329578 : Unit := ()
def PySem.W.Fast.tw13400322945110424448 : Unit := ()
def PySem.W.Fast.tw13049448220048810268 : Unit := ()
def PySem.W.Fast.tw12290327629602939161 : Unit := ()
def PySem.W.Fast.tw1204217092079176098 : Unit := ()
def PySem.W.Fast.tw11533405442639182435 : Unit := ()
def PySem.W.Fast.tw11218040399916014351 : Unit := ()
def PySem.W.Fast.tw10261849877351314947 : Unit := ()
def PySem.W.Fast.tw9876116842263264463 : Unit := ()
def PySem.W.Fast.tw9840124673850408013 : Unit := ()
def PySem.W.Fast.tw9419298997675415952 : Unit := ()
def PySem.W.Fast.tw9208133666179863865 : Unit := ()
def PySem.W.Fast.tw8630762508653796556 : Unit := ()
def PySem.W.Fast.tw8566361553126652487 : Unit := ()
def PySem.W.Fast.tw8362080569766221465 : Unit := ()
def PySem.W.Fast.tw7519304772456193653 : Unit := ()
def PySem.W.Fast.tw7418749489939505010 : Unit := ()
def PySem.W.Fast.tw7302516597457431816 : Unit := ()
def PySem.W.Fast.tw7106645256993196383 : Unit := ()
def PySem.W.Fast.tw699654873027750035 : Unit := ()
def PySem.W.Fast.tw6953534573138622168 : Unit := ()
def PySem.W.Fast.tw6863548075843529779 : Unit := ()
def PySem.W.Fast.tw6815056392155265342 : Unit := ()
def PySem.W.Fast.tw6431494419011046138 : Unit := ()
def PySem.W.Fast.tw6273233097395962259 : Unit := ()
def PySem.W.Fast.tw6058563762065679786 : Unit := ()
def PySem.W.Fast.tw5613523480322498608 : Unit := ()
def PySem.W.Fast.tw4989687925587501889 : Unit := ()
def PySem.W.Fast.tw4636355138116737700 : Unit := ()
def PySem.W.Fast.tw4552703878085636641 : Unit := ()
def PySem.W.Fast.tw3885960202353320138 : Unit := ()
def PySem.W.Fast.tw3725067132027534432 : Unit := ()
def PySem.W.Fast.tw3354708771700892182 : Unit := ()
def PySem.W.Fast.tw3256598882920114775 : Unit := ()
def PySem.W.Fast.tw3215030103781078176 : Unit := ()
def PySem.W.Fast.tw3034588329154331839 : Unit := ()
def PySem.W.Fast.tw2833124774114375266 : Unit := ()
def PySem.W.Fast.tw2719756640101906193 : Unit := ()
def PySem.W.Fast.tw2512555049644263707 : Unit := ()
def PySem.W.Fast.tw2452914421238689841 : Unit := ()
def PySem.W.Fast.tw2298868778894797761 : Unit := ()
def PySem.W.Fast.tw1941220868206066887 : Unit := ()
def PySem.W.Fast.tw18321828084874418664 : Unit := ()
def PySem.W.Fast.tw17745566537090736921 : Unit := ()
def PySem.W.Fast.tw17688839027051350445 : Unit := ()
def PySem.W.Fast.tw17487450017062751189 : Unit := ()
def PySem.W.Fast.tw16865426711933449016 : Unit := ()
def PySem.W.Fast.tw16773682232890670113 : Unit := ()
def PySem.W.Fast.tw16213971691750908440 : Unit := ()
def PySem.W.Fast.tw15430053833662658087 : Unit := ()
def PySem.W.Fast.tw15390782004832231921 : Unit := ()
def PySem.W.Fast.tw14906974755188797977 : Unit := ()
def PySem.W.Fast.tw14459812599429864411 : Unit := ()
def PySem.W.Fast.tw14360519731922541023 : Unit := ()
def PySem.W.Fast.tw14165378988852934342 : Unit := ()
def PySem.W.Fast.tw14154649902627025588 : Unit := ()
def PySem.W.Fast.tw13904797998032213700 : Unit := ()
def PySem.W.Fast.tw13892773550210087202 : Unit := ()
def PySem.W.Fast.tw13687671472221361000 : Unit := ()
def PySem.W.Fast.tw13660147986853023289 : Unit := ()
def PySem.W.Fast.tw13465176029049291889 : Unit := ()
def PySem.W.Fast.tw13234671830391359311 : Unit := ()
def PySem.W.Fast.tw12991876122507431472 : Unit := ()
def PySem.W.Fast.tw12708699199450626820 : Unit := ()
def PySem.W.Fast.tw12704904667941785372 : Unit := ()
def PySem.W.Fast.tw12608936337264081774 : Unit := ()
def PySem.W.Fast.tw12554676054529870512 : Unit := ()
def PySem.W.Fast.tw11940917921185813476 : Unit := ()
def PySem.W.Fast.tw1192644527835732007 : Unit := ()
def PySem.W.Fast.tw11809720562163956841 : Unit := ()
def PySem.W.Fast.tw11606768017342379565 : Unit := ()
def PySem.W.Fast.tw11367883022526627695 : Unit := ()
def PySem.W.Fast.tw111835407603436161 : Unit := ()
def PySem.W.Fast.tw10738333766927449453 : Unit := ()
def PySem.W.Fast.tw10624481765051509342 : Unit := ()
def PySem.W.Fast.tw10569572092551646292 : Unit := ()
def PySem.W.Fast.tw10154894345960617832 : Unit := ()
def PySem.W.Fast.tw9752411668336733163 : Unit := ()
def PySem.W.Fast.tw9187506700400590580 : Unit := ()
def PySem.W.Fast.tw8016729093338907766 : Unit := ()
def PySem.W.Fast.tw7433246964763472953 : Unit := ()
def PySem.W.Fast.tw7342699883554170854 : Unit := ()
def PySem.W.Fast.tw6168509974295285447 : Unit := ()
def PySem.W.Fast.tw5370757457941495262 : Unit := ()
def PySem.W.Fast.tw5351750001295171168 : Unit := ()
def PySem.W.Fast.tw5155918668269062112 : Unit := ()
def PySem.W.Fast.tw2783547881854747177 : Unit := ()
def PySem.W.Fast.tw2109630756592468408 : Unit := ()
def PySem.W.Fast.tw18346544893694776075 : Unit := ()
def PySem.W.Fast.tw17100738454930653412 : Unit := ()
def PySem.W.Fast.tw14061337967802197960 : Unit := ()
def PySem.W.Fast.tw12612862584513896740 : Unit := ()
def PySem.W.Fast.tw11648856617478596702 : Unit := ()
def PySem.W.Fast.tw11584046984881018356 : Unit := ()
def PySem.W.Fast.tw10874609893492710639 : Unit := ()
def PySem.W.Fast.tw9620481515206602494 : Unit := ()
def PySem.W.Fast.tw9171495799331358944 : Unit := ()
def PySem.W.Fast.tw9160218903083042848 : Unit := ()
def PySem.W.Fast.tw9042670125533940582 : Unit := ()
def PySem.W.Fast.tw8867917231146131732 : Unit := ()
def PySem.W.Fast.tw8856506085154036562 : Unit := ()
def PySem.W.Fast.tw880269883032249705 : Unit := ()
def PySem.W.Fast.tw8622954904820613440 : Unit := ()
def PySem.W.Fast.tw8594618820200517274 : Unit := ()
def PySem.W.Fast.tw8448148975048493137 : Unit := ()
def PySem.W.Fast.tw8382965793661813978 : Unit := ()
def PySem.W.Fast.tw8228344807756837506 : Unit := ()
def PySem.W.Fast.tw8059917336086886185 : Unit := ()
def PySem.W.Fast.tw8048354399921788696 : Unit := ()
def PySem.W.Fast.tw7991868149906589593 : Unit := ()
def PySem.W.Fast.tw7881570436369143500 : Unit := ()
def PySem.W.Fast.tw7677779640883426806 : Unit := ()
def PySem.W.Fast.tw7668053266676536409 : Unit := ()
def PySem.W.Fast.tw766690904015745941 : Unit := ()
def PySem.W.Fast.tw7604668058318982315 : Unit := ()
def PySem.W.Fast.tw7256329746355709599 : Unit := ()
def PySem.W.Fast.tw7168357222376991982 : Unit := ()
def PySem.W.Fast.tw7069077231409782669 : Unit := ()
def PySem.W.Fast.tw6693473972722250863 : Unit := ()
def PySem.W.Fast.tw6379051917299786291 : Unit := ()
def PySem.W.Fast.tw629466101910668165 : Unit := ()
def PySem.W.Fast.tw6262813020343770456 : Unit := ()
def PySem.W.Fast.tw6207596305909210121 : Unit := ()
def PySem.W.Fast.tw6147717536902792769 : Unit := ()
def PySem.W.Fast.tw6130620897208791756 : Unit := ()
def PySem.W.Fast.tw6124798555320075087 : Unit := ()
def PySem.W.Fast.tw5990649649494147816 : Unit := ()
def PySem.W.Fast.tw5861767529008841403 : Unit := ()
def PySem.W.Fast.tw5779228226214270056 : Unit := ()
def PySem.W.Fast.tw5701897891301137768 : Unit := ()
def PySem.W.Fast.tw5556453304921164428 : Unit := ()
def PySem.W.Fast.tw5500871479695758603 : Unit := ()
def PySem.W.Fast.tw5433587179579884025 : Unit := ()
def PySem.W.Fast.tw5413052007388390619 : Unit := ()
def PySem.W.Fast.tw5271619371564288605 : Unit := ()
def PySem.W.Fast.tw5211190285897103583 : Unit := ()
def PySem.W.Fast.tw5015251346187780454 : Unit := ()
def PySem.W.Fast.tw4884069481324834227 : Unit := ()
def PySem.W.Fast.tw4818956765761840510 : Unit := ()
def PySem.W.Fast.tw4706918067588320766 : Unit := ()
def PySem.W.Fast.tw4466487805851288299 : Unit := ()
def PySem.W.Fast.tw443149766590700089 : Unit := ()
def PySem.W.Fast.tw4339436371710005459 : Unit := ()
def PySem.W.Fast.tw411595636460848845 : Unit := ()
def PySem.W.Fast.tw3502201385629075153 : Unit := ()
def PySem.W.Fast.tw3134077590460854986 : Unit := ()
def PySem.W.Fast.tw2947191266638211818 : Unit := ()
def PySem.W.Fast.tw2940523851522994796 : Unit := ()
def PySem.W.Fast.tw2801136641092086393 : Unit := ()
def PySem.W.Fast.tw2784701883943485970 : Unit := ()
def PySem.W.Fast.tw262492582482778640 : Unit := ()
def PySem.W.Fast.tw2579462420507072583 : Unit := ()
def PySem.W.Fast.tw230937291774694676 : Unit := ()
def PySem.W.Fast.tw224038874162881812 : Unit := ()
def PySem.W.Fast.tw2123871451470722573 : Unit := ()
def PySem.W.Fast.tw2074681889703191560 : Unit := ()
def PySem.W.Fast.tw2038622275239293560 : Unit := ()
def PySem.W.Fast.tw1882670244897144230 : Unit := ()
def PySem.W.Fast.tw1868007773567264491 : Unit := ()
def PySem.W.Fast.tw18416568072914552002 : Unit := ()
def PySem.W.Fast.tw1826399081571045346 : Unit := ()
def PySem.W.Fast.tw18173099499974210412 : Unit := ()
def PySem.W.Fast.tw1814863356544580730 : Unit := ()
def PySem.W.Fast.tw18109652058662963256 : Unit := ()
def PySem.W.Fast.tw17955015393647011611 : Unit := ()
def PySem.W.Fast.tw17941693323643615960 : Unit := ()
def PySem.W.Fast.tw17853529656359959348 : Unit := ()
def PySem.W.Fast.tw17808253019069317380 : Unit := ()
def PySem.W.Fast.tw17779137399689599745 : Unit := ()
def PySem.W.Fast.tw17468104063129962238 : Unit := ()
def PySem.W.Fast.tw173960240185690706 : Unit := ()
def PySem.W.Fast.tw1730680460099643463 : Unit := ()
def PySem.W.Fast.tw1716829464707635226 : Unit := ()
def PySem.W.Fast.tw17031347843696773393 : Unit := ()
def PySem.W.Fast.tw16987122655937139061 : Unit := ()
def PySem.W.Fast.tw16910847703851092017 : Unit := ()
def PySem.W.Fast.tw16834633085215662506 : Unit := ()
def PySem.W.Fast.tw16804700168299271300 : Unit := ()
def PySem.W.Fast.tw16595343988418305949 : Unit := ()
def PySem.W.Fast.tw16539094053725314139 : Unit := ()
def PySem.W.Fast.tw1638613766215701756 : Unit := ()
def PySem.W.Fast.tw16034570635150002449 : Unit := ()
def PySem.W.Fast.tw15962560790663840827 : Unit := ()
def PySem.W.Fast.tw15623058966037240224 : Unit := ()
def PySem.W.Fast.tw15571222103590679175 : Unit := ()
def PySem.W.Fast.tw15396004908492850389 : Unit := ()
def PySem.W.Fast.tw15374850048886274207 : Unit := ()
def PySem.W.Fast.tw15280897395824503830 : Unit := ()
def PySem.W.Fast.tw15025368151001605808 : Unit := ()
def PySem.W.Fast.tw1496599825964374859 : Unit := ()
def PySem.W.Fast.tw14928229386636001041 : Unit := ()
def PySem.W.Fast.tw14448052454538519615 : Unit := ()
def PySem.W.Fast.tw14431699258179330313 : Unit := ()
def PySem.W.Fast.tw14015524477577642021 : Unit := ()
def PySem.W.Fast.tw13930281465900077691 : Unit := ()
def PySem.W.Fast.tw13906612636110191456 : Unit := ()
def PySem.W.Fast.tw13709631312163205733 : Unit := ()
def PySem.W.Fast.tw1369838644933927660 : Unit := ()
def PySem.W.Fast.tw13330723051270921722 : Unit := ()
def PySem.W.Fast.tw13311940509019059988 : Unit := ()
def PySem.W.Fast.tw13243722341231903002 : Unit := ()
def PySem.W.Fast.tw13233724893790086773 : Unit := ()
def PySem.W.Fast.tw13140924253455021593 : Unit := ()
def PySem.W.Fast.tw13001838005561431075 : Unit := ()
def PySem.W.Fast.tw12619958500856894970 : Unit := ()
def PySem.W.Fast.tw12614546576895049916 : Unit := ()
def PySem.W.Fast.tw12130149559790701121 : Unit := ()
def PySem.W.Fast.tw12108208807779016793 : Unit := ()
def PySem.W.Fast.tw12075229947764461011 : Unit := ()
def PySem.W.Fast.tw12072031645222549526 : Unit := ()
def PySem.W.Fast.tw12031927975770841877 : Unit := ()
def PySem.W.Fast.tw11672221092479115686 : Unit := ()
def PySem.W.Fast.tw11641874538609741417 : Unit := ()
def PySem.W.Fast.tw11588985400013914065 : Unit := ()
def PySem.W.Fast.tw11584935981078300814 : Unit := ()
def PySem.W.Fast.tw11487674743741845532 : Unit := ()
def PySem.W.Fast.tw11465073958674124168 : Unit := ()
def PySem.W.Fast.tw11356500659810992614 : Unit := ()
def PySem.W.Fast.tw11327397290287208501 : Unit := ()
def PySem.W.Fast.tw11095037384712784708 : Unit := ()
def PySem.W.Fast.tw11049393607159922117 : Unit := ()
def PySem.W.Fast.tw10919281060526995595 : Unit := ()
def PySem.W.Fast.tw10439723813115161331 : Unit := ()
def PySem.W.Fast.tw10268555164651566522 : Unit := ()
def PySem.W.Fast.tw10029279385161350458 : Unit := ()

set_option Elab.async false
open PySem PySem.W PyProof.Rows
set_option maxRecDepth 100000 in
set_option maxHeartbeats 0 in
theorem PySem.Challenge.cw_greatkeys_s01_answers_holds : PySem.Challenge.rw_greatkeys_s01_answers.Holds := by
  w_on; k_headS; (case hw => exact ⟨[.list []], by decide +kernel, by decide +kernel⟩)
  k_fillS
  refine L2.walk_specK (r := PySem.Challenge.rw_greatkeys_s01_answers) (k := 20) (CX := L2.CX0) (ps := ["calls"]) (sp := Gk.spAnswers) (by decide +kernel) rfl rfl ⟨rfl, by decide, by decide⟩ (fun w h Y => PySem.W.kIn_of Y) ?F ?S (fun _ _ _ _ z => z)
  case F =>
    intro w mg fa h Y KX G hmg
    have d_number_of : L2.DefAt (L2.KK KX) mg "number_of" "number_of" (Gk.top 1) := by
      dsimp only [L2.KK]
      refine' L2.def_mk KX G ?a ?l ?c ?k
      (case a => k_is)
      (case l => k_is)
      (case c => k_is)
      (case k => k_is)
    have d_row_of : L2.DefAt (L2.KK KX) mg "row_of" "row_of" (Gk.top 2) := by
      dsimp only [L2.KK]
      refine' L2.def_mk KX G ?a ?l ?c ?k
      (case a => k_is)
      (case l => k_is)
      (case c => k_is)
      (case k => k_is)
    have d_exclusive_or : L2.DefAt (L2.KK KX) mg "exclusive_or" "exclusive_or" (Gk.top 3) := by
      dsimp only [L2.KK]
      refine' L2.def_mk KX G ?a ?l ?c ?k
      (case a => k_is)
      (case l => k_is)
      (case c => k_is)
      (case k => k_is)
    have g_WORD_BITS : L2.GInt mg "WORD_BITS" 32 := by
      refine' L2.gint_mk KX G ?a
      (case a => k_is)
    have g_WORD_MASK : L2.GInt mg "WORD_MASK" 4294967295 := by
      refine' L2.gint_mk KX G ?a
      (case a => k_is)
    have g_BLOCK_BYTES : L2.GInt mg "BLOCK_BYTES" 64 := by
      refine' L2.gint_mk KX G ?a
      (case a => k_is)
    have g_BLOCK_WORDS : L2.GInt mg "BLOCK_WORDS" 16 := by
      refine' L2.gint_mk KX G ?a
      (case a => k_is)
    have g_SUM_BYTES : L2.GInt mg "SUM_BYTES" 32 := by
      refine' L2.gint_mk KX G ?a
      (case a => k_is)
    have g_FIRST_WORDS : L2.GTup (L2.KK KX) mg "FIRST_WORDS" [1779033703, 3144134277, 1013904242, 2773480762, 1359893119, 2600822924, 528734635, 1541459225] := by
      dsimp only [L2.KK]
      refine' L2.gtup_mk KX G ?a ?l ?v ?z
      (case a => k_is)
      (case l => k_is)
      (case v => rfl)
      (case z => decide)
    have g_ROUND_NUMBERS : L2.GTup (L2.KK KX) mg "ROUND_NUMBERS" [1116352408, 1899447441, 3049323471, 3921009573, 961987163, 1508970993, 2453635748, 2870763221, 3624381080, 310598401, 607225278, 1426881987, 1925078388, 2162078206, 2614888103, 3248222580, 3835390401, 4022224774, 264347078, 604807628, 770255983, 1249150122, 1555081692, 1996064986, 2554220882, 2821834349, 2952996808, 3210313671, 3336571891, 3584528711, 113926993, 338241895, 666307205, 773529912, 1294757372, 1396182291, 1695183700, 1986661051, 2177026350, 2456956037, 2730485921, 2820302411, 3259730800, 3345764771, 3516065817, 3600352804, 4094571909, 275423344, 430227734, 506948616, 659060556, 883997877, 958139571, 1322822218, 1537002063, 1747873779, 1955562222, 2024104815, 2227730452, 2361852424, 2428436474, 2756734187, 3204031479, 3329325298] := by
      dsimp only [L2.KK]
      refine' L2.gtup_mk KX G ?a ?l ?v ?z
      (case a => k_is)
      (case l => k_is)
      (case v => rfl)
      (case z => decide)
    have d_filled_up : L2.DefAt (L2.KK KX) mg "filled_up" "filled_up" (Gk.top 12) := by
      dsimp only [L2.KK]
      refine' L2.def_mk KX G ?a ?l ?c ?k
      (case a => k_is)
      (case l => k_is)
      (case c => k_is)
      (case k => k_is)
    have d_turned : L2.DefAt (L2.KK KX) mg "turned" "turned" (Gk.top 13) := by
      dsimp only [L2.KK]
      refine' L2.def_mk KX G ?a ?l ?c ?k
      (case a => k_is)
      (case l => k_is)
      (case c => k_is)
      (case k => k_is)
    have d_words_of : L2.DefAt (L2.KK KX) mg "words_of" "words_of" (Gk.top 14) := by
      dsimp only [L2.KK]
      refine' L2.def_mk KX G ?a ?l ?c ?k
      (case a => k_is)
      (case l => k_is)
      (case c => k_is)
      (case k => k_is)
    have d_stirred : L2.DefAt (L2.KK KX) mg "stirred" "stirred" (Gk.top 15) := by
      dsimp only [L2.KK]
      refine' L2.def_mk KX G ?a ?l ?c ?k
      (case a => k_is)
      (case l => k_is)
      (case c => k_is)
      (case k => k_is)
    have d_sum_of : L2.DefAt (L2.KK KX) mg "sum_of" "sum_of" (Gk.top 16) := by
      dsimp only [L2.KK]
      refine' L2.def_mk KX G ?a ?l ?c ?k
      (case a => k_is)
      (case l => k_is)
      (case c => k_is)
      (case k => k_is)
    have d_mask_of : L2.DefAt (L2.KK KX) mg "mask_of" "mask_of" (Gk.top 17) := by
      dsimp only [L2.KK]
      refine' L2.def_mk KX G ?a ?l ?c ?k
      (case a => k_is)
      (case l => k_is)
      (case c => k_is)
      (case k => k_is)
    have g_SALT_BYTES : L2.GInt mg "SALT_BYTES" 32 := by
      refine' L2.gint_mk KX G ?a
      (case a => k_is)
    have g_SEED_BYTES : L2.GInt mg "SEED_BYTES" 32 := by
      refine' L2.gint_mk KX G ?a
      (case a => k_is)
    have g_PLAIN_REST : L2.GInt mg "PLAIN_REST" 54 := by
      refine' L2.gint_mk KX G ?a
      (case a => k_is)
    have g_SALTED_REST : L2.GInt mg "SALTED_REST" 66 := by
      refine' L2.gint_mk KX G ?a
      (case a => k_is)
    have g_SEALED_REST : L2.GInt mg "SEALED_REST" 66 := by
      refine' L2.gint_mk KX G ?a
      (case a => k_is)
    have g_SUM_SIGN : L2.GTup (L2.KK KX) mg "SUM_SIGN" [48, 49, 48, 13, 6, 9, 96, 134, 72, 1, 101, 3, 4, 2, 1, 5, 0, 4, 32] := by
      dsimp only [L2.KK]
      refine' L2.gtup_mk KX G ?a ?l ?v ?z
      (case a => k_is)
      (case l => k_is)
      (case v => rfl)
      (case z => decide)
    have g_SALTED_END : L2.GInt mg "SALTED_END" 188 := by
      refine' L2.gint_mk KX G ?a
      (case a => k_is)
    have g_ALL_BUT_HIGHEST_BIT : L2.GInt mg "ALL_BUT_HIGHEST_BIT" 127 := by
      refine' L2.gint_mk KX G ?a
      (case a => k_is)
    have d_masked : L2.DefAt (L2.KK KX) mg "masked" "masked" (Gk.top 27) := by
      dsimp only [L2.KK]
      refine' L2.def_mk KX G ?a ?l ?c ?k
      (case a => k_is)
      (case l => k_is)
      (case c => k_is)
      (case k => k_is)
    have d_plain_form : L2.DefAt (L2.KK KX) mg "plain_form" "plain_form" (Gk.top 28) := by
      dsimp only [L2.KK]
      refine' L2.def_mk KX G ?a ?l ?c ?k
      (case a => k_is)
      (case l => k_is)
      (case c => k_is)
      (case k => k_is)
    have d_salted_form : L2.DefAt (L2.KK KX) mg "salted_form" "salted_form" (Gk.top 29) := by
      dsimp only [L2.KK]
      refine' L2.def_mk KX G ?a ?l ?c ?k
      (case a => k_is)
      (case l => k_is)
      (case c => k_is)
      (case k => k_is)
    have d_is_salted_form : L2.DefAt (L2.KK KX) mg "is_salted_form" "is_salted_form" (Gk.top 30) := by
      dsimp only [L2.KK]
      refine' L2.def_mk KX G ?a ?l ?c ?k
      (case a => k_is)
      (case l => k_is)
      (case c => k_is)
      (case k => k_is)
    have d_fits_sealed_form : L2.DefAt (L2.KK KX) mg "fits_sealed_form" "fits_sealed_form" (Gk.top 31) := by
      dsimp only [L2.KK]
      refine' L2.def_mk KX G ?a ?l ?c ?k
      (case a => k_is)
      (case l => k_is)
      (case c => k_is)
      (case k => k_is)
    have d_sealed_form : L2.DefAt (L2.KK KX) mg "sealed_form" "sealed_form" (Gk.top 32) := by
      dsimp only [L2.KK]
      refine' L2.def_mk KX G ?a ?l ?c ?k
      (case a => k_is)
      (case l => k_is)
      (case c => k_is)
      (case k => k_is)
    have d_unmasked_block : L2.DefAt (L2.KK KX) mg "unmasked_block" "unmasked_block" (Gk.top 33) := by
      dsimp only [L2.KK]
      refine' L2.def_mk KX G ?a ?l ?c ?k
      (case a => k_is)
      (case l => k_is)
      (case c => k_is)
      (case k => k_is)
    have d_sealed_message : L2.DefAt (L2.KK KX) mg "sealed_message" "sealed_message" (Gk.top 34) := by
      dsimp only [L2.KK]
      refine' L2.def_mk KX G ?a ?l ?c ?k
      (case a => k_is)
      (case l => k_is)
      (case c => k_is)
      (case k => k_is)
    have g_WINDOW : L2.GInt mg "WINDOW" 5 := by
      refine' L2.gint_mk KX G ?a
      (case a => k_is)
    have g_WINDOW_MASK : L2.GInt mg "WINDOW_MASK" 31 := by
      refine' L2.gint_mk KX G ?a
      (case a => k_is)
    have d_low_powers : L2.DefAt (L2.KK KX) mg "low_powers" "low_powers" (Gk.top 38) := by
      dsimp only [L2.KK]
      refine' L2.def_mk KX G ?a ?l ?c ?k
      (case a => k_is)
      (case l => k_is)
      (case c => k_is)
      (case k => k_is)
    have d_power : L2.DefAt (L2.KK KX) mg "power" "power" (Gk.top 39) := by
      dsimp only [L2.KK]
      refine' L2.def_mk KX G ?a ?l ?c ?k
      (case a => k_is)
      (case l => k_is)
      (case c => k_is)
      (case k => k_is)
    have d_common_divisor : L2.DefAt (L2.KK KX) mg "common_divisor" "common_divisor" (Gk.top 40) := by
      dsimp only [L2.KK]
      refine' L2.def_mk KX G ?a ?l ?c ?k
      (case a => k_is)
      (case l => k_is)
      (case c => k_is)
      (case k => k_is)
    have d_common_multiple : L2.DefAt (L2.KK KX) mg "common_multiple" "common_multiple" (Gk.top 41) := by
      dsimp only [L2.KK]
      refine' L2.def_mk KX G ?a ?l ?c ?k
      (case a => k_is)
      (case l => k_is)
      (case c => k_is)
      (case k => k_is)
    have d_inverse : L2.DefAt (L2.KK KX) mg "inverse" "inverse" (Gk.top 42) := by
      dsimp only [L2.KK]
      refine' L2.def_mk KX G ?a ?l ?c ?k
      (case a => k_is)
      (case l => k_is)
      (case c => k_is)
      (case k => k_is)
    have g_SMALL_LIMIT : L2.GInt mg "SMALL_LIMIT" 2000 := by
      refine' L2.gint_mk KX G ?a
      (case a => k_is)
    have d_primes_below : L2.DefAt (L2.KK KX) mg "primes_below" "primes_below" (Gk.top 45) := by
      dsimp only [L2.KK]
      refine' L2.def_mk KX G ?a ?l ?c ?k
      (case a => k_is)
      (case l => k_is)
      (case c => k_is)
      (case k => k_is)
    have d_tells_against : L2.DefAt (L2.KK KX) mg "tells_against" "tells_against" (Gk.top 46) := by
      dsimp only [L2.KK]
      refine' L2.def_mk KX G ?a ?l ?c ?k
      (case a => k_is)
      (case l => k_is)
      (case c => k_is)
      (case k => k_is)
    have d_taken_for_prime : L2.DefAt (L2.KK KX) mg "taken_for_prime" "taken_for_prime" (Gk.top 47) := by
      dsimp only [L2.KK]
      refine' L2.def_mk KX G ?a ?l ?c ?k
      (case a => k_is)
      (case l => k_is)
      (case c => k_is)
      (case k => k_is)
    have g_SIZES : L2.GTup (L2.KK KX) mg "SIZES" [128, 256, 384, 512] := by
      dsimp only [L2.KK]
      refine' L2.gtup_mk KX G ?a ?l ?v ?z
      (case a => k_is)
      (case l => k_is)
      (case v => rfl)
      (case z => decide)
    have g_LEAST_EXPONENT : L2.GInt mg "LEAST_EXPONENT" 3 := by
      refine' L2.gint_mk KX G ?a
      (case a => k_is)
    have g_ROUNDS_FOR_A_KEY : L2.GInt mg "ROUNDS_FOR_A_KEY" 20 := by
      refine' L2.gint_mk KX G ?a
      (case a => k_is)
    have c_Key : ∃ C, L2.ClassAt (L2.KK KX) mg "Key" C ∧ L2.NoAttr (L2.KK KX) C "exponent" ∧ L2.NoAttr (L2.KK KX) C "modulus" ∧ L2.NoAttr (L2.KK KX) C "secret" ∧ L2.NoAttr (L2.KK KX) C "size" ∧ L2.MethAt (L2.KK KX) C "__init__" "Key.__init__" (L2.inClass (Gk.top 52) 0) ∧ L2.MethAt (L2.KK KX) C "is_open" "Key.is_open" (L2.inClass (Gk.top 52) 1) ∧ L2.MethAt (L2.KK KX) C "open_of" "Key.open_of" (L2.inClass (Gk.top 52) 2) ∧ L2.MethAt (L2.KK KX) C "secret_of" "Key.secret_of" (L2.inClass (Gk.top 52) 3) := by
      dsimp only [L2.KK]
      refine' ⟨_, L2.class_mk KX G ?a ?pg ?hd ?po ?sa ?mk ?kc, L2.noattr_mk ?n0, L2.noattr_mk ?n1, L2.noattr_mk ?n2, L2.noattr_mk ?n3, L2.meth_mk ?a0 ?i0 ?l0 ?c0 ?k0, L2.meth_mk ?a1 ?i1 ?l1 ?c1 ?k1, L2.meth_mk ?a2 ?i2 ?l2 ?c2 ?k2, L2.meth_mk ?a3 ?i3 ?l3 ?c3 ?k3⟩
      (case a => k_is)
      (case pg => k_is)
      (case hd => k_is)
      (case po => k_is)
      (case sa => k_is)
      (case mk => k_is)
      (case kc => k_is)
      (case n0 => k_is)
      (case n1 => k_is)
      (case n2 => k_is)
      (case n3 => k_is)
      (case a0 => k_is)
      (case i0 => k_is)
      (case l0 => k_is)
      (case c0 => k_is)
      (case k0 => k_is)
      (case a1 => k_is)
      (case i1 => k_is)
      (case l1 => k_is)
      (case c1 => k_is)
      (case k1 => k_is)
      (case a2 => k_is)
      (case i2 => k_is)
      (case l2 => k_is)
      (case c2 => k_is)
      (case k2 => k_is)
      (case a3 => k_is)
      (case i3 => k_is)
      (case l3 => k_is)
      (case c3 => k_is)
      (case k3 => k_is)
    have d_is_size : L2.DefAt (L2.KK KX) mg "is_size" "is_size" (Gk.top 53) := by
      dsimp only [L2.KK]
      refine' L2.def_mk KX G ?a ?l ?c ?k
      (case a => k_is)
      (case l => k_is)
      (case c => k_is)
      (case k => k_is)
    have d_is_exponent : L2.DefAt (L2.KK KX) mg "is_exponent" "is_exponent" (Gk.top 54) := by
      dsimp only [L2.KK]
      refine' L2.def_mk KX G ?a ?l ?c ?k
      (case a => k_is)
      (case l => k_is)
      (case c => k_is)
      (case k => k_is)
    have d_fills : L2.DefAt (L2.KK KX) mg "fills" "fills" (Gk.top 55) := by
      dsimp only [L2.KK]
      refine' L2.def_mk KX G ?a ?l ?c ?k
      (case a => k_is)
      (case l => k_is)
      (case c => k_is)
      (case k => k_is)
    have d_open_key : L2.DefAt (L2.KK KX) mg "open_key" "open_key" (Gk.top 56) := by
      dsimp only [L2.KK]
      refine' L2.def_mk KX G ?a ?l ?c ?k
      (case a => k_is)
      (case l => k_is)
      (case c => k_is)
      (case k => k_is)
    have d_key_of_primes : L2.DefAt (L2.KK KX) mg "key_of_primes" "key_of_primes" (Gk.top 57) := by
      dsimp only [L2.KK]
      refine' L2.def_mk KX G ?a ?l ?c ?k
      (case a => k_is)
      (case l => k_is)
      (case c => k_is)
      (case k => k_is)
    have g_DONE : L2.GInt mg "DONE" 0 := by
      refine' L2.gint_mk KX G ?a
      (case a => k_is)
    have g_WRONG_INPUT : L2.GInt mg "WRONG_INPUT" (-1) := by
      refine' L2.gint_mk KX G ?a
      (case a => k_is)
    have g_NO_KEY : L2.GInt mg "NO_KEY" (-2) := by
      refine' L2.gint_mk KX G ?a
      (case a => k_is)
    have g_NOT_PUT_TOGETHER : L2.GInt mg "NOT_PUT_TOGETHER" (-3) := by
      refine' L2.gint_mk KX G ?a
      (case a => k_is)
    have g_OPEN_KEY : L2.GInt mg "OPEN_KEY" (-4) := by
      refine' L2.gint_mk KX G ?a
      (case a => k_is)
    have g_NOT_SEALED : L2.GInt mg "NOT_SEALED" (-5) := by
      refine' L2.gint_mk KX G ?a
      (case a => k_is)
    have g_MOST_ROUNDS : L2.GInt mg "MOST_ROUNDS" 40 := by
      refine' L2.gint_mk KX G ?a
      (case a => k_is)
    have g_MOST_BYTES : L2.GInt mg "MOST_BYTES" 16777216 := by
      refine' L2.gint_mk KX G ?a
      (case a => k_is)
    have g_PLAIN : L2.GInt mg "PLAIN" 0 := by
      refine' L2.gint_mk KX G ?a
      (case a => k_is)
    have g_SALTED : L2.GInt mg "SALTED" 1 := by
      refine' L2.gint_mk KX G ?a
      (case a => k_is)
    have d_is_kind : L2.DefAt (L2.KK KX) mg "is_kind" "is_kind" (Gk.top 69) := by
      dsimp only [L2.KK]
      refine' L2.def_mk KX G ?a ?l ?c ?k
      (case a => k_is)
      (case l => k_is)
      (case c => k_is)
      (case k => k_is)
    have d_is_length : L2.DefAt (L2.KK KX) mg "is_length" "is_length" (Gk.top 70) := by
      dsimp only [L2.KK]
      refine' L2.def_mk KX G ?a ?l ?c ?k
      (case a => k_is)
      (case l => k_is)
      (case c => k_is)
      (case k => k_is)
    have c_Holder : ∃ C, L2.ClassAt (L2.KK KX) mg "Holder" C ∧ L2.NoAttr (L2.KK KX) C "held" ∧ L2.MethAt (L2.KK KX) C "__init__" "Holder.__init__" (L2.inClass (Gk.top 71) 0) ∧ L2.MethAt (L2.KK KX) C "rs_key" "Holder.rs_key" (L2.inClass (Gk.top 71) 1) ∧ L2.MethAt (L2.KK KX) C "rs_make" "Holder.rs_make" (L2.inClass (Gk.top 71) 2) ∧ L2.MethAt (L2.KK KX) C "rs_numbers" "Holder.rs_numbers" (L2.inClass (Gk.top 71) 3) ∧ L2.MethAt (L2.KK KX) C "rs_prime" "Holder.rs_prime" (L2.inClass (Gk.top 71) 4) ∧ L2.MethAt (L2.KK KX) C "rs_sign" "Holder.rs_sign" (L2.inClass (Gk.top 71) 5) ∧ L2.MethAt (L2.KK KX) C "rs_check" "Holder.rs_check" (L2.inClass (Gk.top 71) 6) ∧ L2.MethAt (L2.KK KX) C "is_right" "Holder.is_right" (L2.inClass (Gk.top 71) 7) ∧ L2.MethAt (L2.KK KX) C "rs_seal" "Holder.rs_seal" (L2.inClass (Gk.top 71) 8) ∧ L2.MethAt (L2.KK KX) C "rs_unseal" "Holder.rs_unseal" (L2.inClass (Gk.top 71) 9) := by
      dsimp only [L2.KK]
      refine' ⟨_, L2.class_mk KX G ?a ?pg ?hd ?po ?sa ?mk ?kc, L2.noattr_mk ?n0, L2.meth_mk ?a0 ?i0 ?l0 ?c0 ?k0, L2.meth_mk ?a1 ?i1 ?l1 ?c1 ?k1, L2.meth_mk ?a2 ?i2 ?l2 ?c2 ?k2, L2.meth_mk ?a3 ?i3 ?l3 ?c3 ?k3, L2.meth_mk ?a4 ?i4 ?l4 ?c4 ?k4, L2.meth_mk ?a5 ?i5 ?l5 ?c5 ?k5, L2.meth_mk ?a6 ?i6 ?l6 ?c6 ?k6, L2.meth_mk ?a7 ?i7 ?l7 ?c7 ?k7, L2.meth_mk ?a8 ?i8 ?l8 ?c8 ?k8, L2.meth_mk ?a9 ?i9 ?l9 ?c9 ?k9⟩
      (case a => k_is)
      (case pg => k_is)
      (case hd => k_is)
      (case po => k_is)
      (case sa => k_is)
      (case mk => k_is)
      (case kc => k_is)
      (case n0 => k_is)
      (case a0 => k_is)
      (case i0 => k_is)
      (case l0 => k_is)
      (case c0 => k_is)
      (case k0 => k_is)
      (case a1 => k_is)
      (case i1 => k_is)
      (case l1 => k_is)
      (case c1 => k_is)
      (case k1 => k_is)
      (case a2 => k_is)
      (case i2 => k_is)
      (case l2 => k_is)
      (case c2 => k_is)
      (case k2 => k_is)
      (case a3 => k_is)
      (case i3 => k_is)
      (case l3 => k_is)
      (case c3 => k_is)
      (case k3 => k_is)
      (case a4 => k_is)
      (case i4 => k_is)
      (case l4 => k_is)
      (case c4 => k_is)
      (case k4 => k_is)
      (case a5 => k_is)
      (case i5 => k_is)
      (case l5 => k_is)
      (case c5 => k_is)
      (case k5 => k_is)
      (case a6 => k_is)
      (case i6 => k_is)
      (case l6 => k_is)
      (case c6 => k_is)
      (case k6 => k_is)
      (case a7 => k_is)
      (case i7 => k_is)
      (case l7 => k_is)
      (case c7 => k_is)
      (case k7 => k_is)
      (case a8 => k_is)
      (case i8 => k_is)
      (case l8 => k_is)
      (case c8 => k_is)
      (case k8 => k_is)
      (case a9 => k_is)
      (case i9 => k_is)
      (case l9 => k_is)
      (case c9 => k_is)
      (case k9 => k_is)
    have c_Reader : ∃ C, L2.ClassAt (L2.KK KX) mg "Reader" C ∧ L2.NoAttr (L2.KK KX) C "numbers" ∧ L2.NoAttr (L2.KK KX) C "place" ∧ L2.MethAt (L2.KK KX) C "__init__" "Reader.__init__" (L2.inClass (Gk.top 73) 0) ∧ L2.MethAt (L2.KK KX) C "at_end" "Reader.at_end" (L2.inClass (Gk.top 73) 1) ∧ L2.MethAt (L2.KK KX) C "take_number" "Reader.take_number" (L2.inClass (Gk.top 73) 2) ∧ L2.MethAt (L2.KK KX) C "take_row" "Reader.take_row" (L2.inClass (Gk.top 73) 3) := by
      dsimp only [L2.KK]
      refine' ⟨_, L2.class_mk KX G ?a ?pg ?hd ?po ?sa ?mk ?kc, L2.noattr_mk ?n0, L2.noattr_mk ?n1, L2.meth_mk ?a0 ?i0 ?l0 ?c0 ?k0, L2.meth_mk ?a1 ?i1 ?l1 ?c1 ?k1, L2.meth_mk ?a2 ?i2 ?l2 ?c2 ?k2, L2.meth_mk ?a3 ?i3 ?l3 ?c3 ?k3⟩
      (case a => k_is)
      (case pg => k_is)
      (case hd => k_is)
      (case po => k_is)
      (case sa => k_is)
      (case mk => k_is)
      (case kc => k_is)
      (case n0 => k_is)
      (case n1 => k_is)
      (case a0 => k_is)
      (case i0 => k_is)
      (case l0 => k_is)
      (case c0 => k_is)
      (case k0 => k_is)
      (case a1 => k_is)
      (case i1 => k_is)
      (case l1 => k_is)
      (case c1 => k_is)
      (case k1 => k_is)
      (case a2 => k_is)
      (case i2 => k_is)
      (case l2 => k_is)
      (case c2 => k_is)
      (case k2 => k_is)
      (case a3 => k_is)
      (case i3 => k_is)
      (case l3 => k_is)
      (case c3 => k_is)
      (case k3 => k_is)
    have g_RS_KEY : L2.GInt mg "RS_KEY" 1 := by
      refine' L2.gint_mk KX G ?a
      (case a => k_is)
    have g_RS_MAKE : L2.GInt mg "RS_MAKE" 2 := by
      refine' L2.gint_mk KX G ?a
      (case a => k_is)
    have g_RS_NUMBERS : L2.GInt mg "RS_NUMBERS" 3 := by
      refine' L2.gint_mk KX G ?a
      (case a => k_is)
    have g_RS_PRIME : L2.GInt mg "RS_PRIME" 4 := by
      refine' L2.gint_mk KX G ?a
      (case a => k_is)
    have g_RS_SIGN : L2.GInt mg "RS_SIGN" 5 := by
      refine' L2.gint_mk KX G ?a
      (case a => k_is)
    have g_RS_CHECK : L2.GInt mg "RS_CHECK" 6 := by
      refine' L2.gint_mk KX G ?a
      (case a => k_is)
    have g_RS_SEAL : L2.GInt mg "RS_SEAL" 7 := by
      refine' L2.gint_mk KX G ?a
      (case a => k_is)
    have g_RS_UNSEAL : L2.GInt mg "RS_UNSEAL" 8 := by
      refine' L2.gint_mk KX G ?a
      (case a => k_is)
    have d_answer_key : L2.DefAt (L2.KK KX) mg "answer_key" "answer_key" (Gk.top 84) := by
      dsimp only [L2.KK]
      refine' L2.def_mk KX G ?a ?l ?c ?k
      (case a => k_is)
      (case l => k_is)
      (case c => k_is)
      (case k => k_is)
    have d_answer_make : L2.DefAt (L2.KK KX) mg "answer_make" "answer_make" (Gk.top 85) := by
      dsimp only [L2.KK]
      refine' L2.def_mk KX G ?a ?l ?c ?k
      (case a => k_is)
      (case l => k_is)
      (case c => k_is)
      (case k => k_is)
    have d_answer_prime : L2.DefAt (L2.KK KX) mg "answer_prime" "answer_prime" (Gk.top 86) := by
      dsimp only [L2.KK]
      refine' L2.def_mk KX G ?a ?l ?c ?k
      (case a => k_is)
      (case l => k_is)
      (case c => k_is)
      (case k => k_is)
    have d_answer_sign : L2.DefAt (L2.KK KX) mg "answer_sign" "answer_sign" (Gk.top 87) := by
      dsimp only [L2.KK]
      refine' L2.def_mk KX G ?a ?l ?c ?k
      (case a => k_is)
      (case l => k_is)
      (case c => k_is)
      (case k => k_is)
    have d_answer_check : L2.DefAt (L2.KK KX) mg "answer_check" "answer_check" (Gk.top 88) := by
      dsimp only [L2.KK]
      refine' L2.def_mk KX G ?a ?l ?c ?k
      (case a => k_is)
      (case l => k_is)
      (case c => k_is)
      (case k => k_is)
    have d_answer_seal : L2.DefAt (L2.KK KX) mg "answer_seal" "answer_seal" (Gk.top 89) := by
      dsimp only [L2.KK]
      refine' L2.def_mk KX G ?a ?l ?c ?k
      (case a => k_is)
      (case l => k_is)
      (case c => k_is)
      (case k => k_is)
    have d_answer_unseal : L2.DefAt (L2.KK KX) mg "answer_unseal" "answer_unseal" (Gk.top 90) := by
      dsimp only [L2.KK]
      refine' L2.def_mk KX G ?a ?l ?c ?k
      (case a => k_is)
      (case l => k_is)
      (case c => k_is)
      (case k => k_is)
    have d_answer_call : L2.DefAt (L2.KK KX) mg "answer_call" "answer_call" (Gk.top 91) := by
      dsimp only [L2.KK]
      refine' L2.def_mk KX G ?a ?l ?c ?k
      (case a => k_is)
      (case l => k_is)
      (case c => k_is)
      (case k => k_is)
    have d_answers : L2.DefAt (L2.KK KX) mg "answers" "answers" (Gk.top 92) := by
      dsimp only [L2.KK]
      refine' L2.def_mk KX G ?a ?l ?c ?k
      (case a => k_is)
      (case l => k_is)
      (case c => k_is)
      (case k => k_is)
    have b_range : mg "range" = none := by
      refine' L2.gnone_mk KX G ?a
      (case a => k_is)
    have b_len : mg "len" = none := by
      refine' L2.gnone_mk KX G ?a
      (case a => k_is)
    have b_any : mg "any" = none := by
      refine' L2.gnone_mk KX G ?a
      (case a => k_is)
    have b_zip : mg "zip" = none := by
      refine' L2.gnone_mk KX G ?a
      (case a => k_is)
    have b_list : mg "list" = none := by
      refine' L2.gnone_mk KX G ?a
      (case a => k_is)
    obtain ⟨fd, hb, hall⟩ := Gk.all_of (P := PySem.Challenge.rw_greatkeys_s01_answers.prog) (w := w) (K := L2.KK KX) (mg := mg) (fa := fa) hmg d_number_of d_row_of d_exclusive_or g_WORD_BITS g_WORD_MASK g_BLOCK_BYTES g_BLOCK_WORDS g_SUM_BYTES g_FIRST_WORDS g_ROUND_NUMBERS d_filled_up d_turned d_words_of d_stirred d_sum_of d_mask_of g_SALT_BYTES g_SEED_BYTES g_PLAIN_REST g_SALTED_REST g_SEALED_REST g_SUM_SIGN g_SALTED_END g_ALL_BUT_HIGHEST_BIT d_masked d_plain_form d_salted_form d_is_salted_form d_fits_sealed_form d_sealed_form d_unmasked_block d_sealed_message g_WINDOW g_WINDOW_MASK d_low_powers d_power d_common_divisor d_common_multiple d_inverse g_SMALL_LIMIT d_primes_below d_tells_against d_taken_for_prime g_SIZES g_LEAST_EXPONENT g_ROUNDS_FOR_A_KEY c_Key d_is_size d_is_exponent d_fills d_open_key d_key_of_primes g_DONE g_WRONG_INPUT g_NO_KEY g_NOT_PUT_TOGETHER g_OPEN_KEY g_NOT_SEALED g_MOST_ROUNDS g_MOST_BYTES g_PLAIN g_SALTED d_is_kind d_is_length c_Holder c_Reader g_RS_KEY g_RS_MAKE g_RS_NUMBERS g_RS_PRIME g_RS_SIGN g_RS_CHECK g_RS_SEAL g_RS_UNSEAL d_answer_key d_answer_make d_answer_prime d_answer_sign d_answer_check d_answer_seal d_answer_unseal d_answer_call d_answers b_range b_len b_any b_zip b_list
    exact ⟨fd, hb, fun base _ _ => hall base⟩
  case S =>
    intro K H xs a hO hwi hask hx
    cases hx with
    | cons h1 h2 =>
      cases h2
      cases h1 with
      | lst hs ha =>
        have e := L2.ints_dw a.1 _ ha
        subst e
        have q : ((Codec.inLen 0 30000 a.1 && a.1.all (Codec.inInt (-2147483648) 4294967295)) && true) = true := hwi
        rw [Bool.and_eq_true, Bool.and_eq_true] at q
        exact ⟨_, a.1, rfl, hs, (Codec.inNat_iff.mp q.1.1).2, hask, fun H' p hp => .lst (L2.SqL.of hp) (L2.dw_ints _)⟩

