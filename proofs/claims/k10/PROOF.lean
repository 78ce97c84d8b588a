import PyProof.Rows.All
import Wide.All
import OpenK.AllK
import Wide.FinOn
import Lean
import PyProof.EqAt
import PyProof.EqKinds
import PyProof.TupleCall
import PySem.Str
import PyProof.ExcBaseAll.ValueError
import PySem.Challenge.RW_shinglelap_k10_course_and_its_number
set_option Elab.async false
set_option linter.all false
set_option maxRecDepth 100000
theorem L2.aR (h : True = True := by rfl) : True := trivial
theorem L2.aD (h : True := by decide) : True := trivial
theorem L2.aK (h : True := by decide +kernel) : True := trivial
theorem L2.el3 {α : Type} {p q : α → Prop} {P : Prop} (h : ∃ a, p a ∧ q a) (k : ∀ a, p a → q a → P) : P := h.elim fun a h => k a h.1 h.2
theorem L2.el4 {α β : Type} {p q : α → β → Prop} {P : Prop} (h : ∃ a b, p a b ∧ q a b) (k : ∀ a b, p a b → q a b → P) : P := h.elim fun a h => h.elim fun b h => k a b h.1 h.2
theorem L2.el5 {α β : Type} {p q r : α → β → Prop} {P : Prop} (h : ∃ a b, p a b ∧ q a b ∧ r a b) (k : ∀ a b, p a b → q a b → r a b → P) : P := h.elim fun a h => h.elim fun b h => k a b h.1 h.2.1 h.2.2
theorem L2.el6 {α β γ : Type} {p q r : α → β → γ → Prop} {P : Prop} (h : ∃ a b c, p a b c ∧ q a b c ∧ r a b c) (k : ∀ a b c, p a b c → q a b c → r a b c → P) : P := h.elim fun a h => h.elim fun b h => h.elim fun c h => k a b c h.1 h.2.1 h.2.2
namespace L2
open PySem PySem.Spec PyProof.Rows
noncomputable abbrev Key := Sum Int Str
noncomputable def keyIs : Key → Value → Bool
  | .inl k, v => Value.isInt k v
  | .inr x, v => Value.isStrOf x v
noncomputable def keyH (w : World) : Key → Int
  | .inl k => hashInt k
  | .inr x => hashStr w x
theorem keyIs_shape : ∀ {k : Key} {v : Value}, keyIs k v = true → (∃ i t, k = Sum.inl i ∧ v = Value.int i t) ∨ (∃ x t, k = Sum.inr x ∧ v = Value.str x t)
  | .inl i, v, h => by
    obtain ⟨t, e⟩ := Value.isInt_shape (k := i) (v := v) h
    exact .inl ⟨i, t, rfl, e⟩
  | .inr x, v, h => by
    obtain ⟨t, e⟩ := Value.isStrOf_shape (x := x) (v := v) h
    exact .inr ⟨x, t, rfl, e⟩
theorem key_ll (a b : Int) : decide ((Sum.inl a : Key) = Sum.inl b) = (a == b) := by
  by_cases e : a = b
  · subst e; simp
  · have h : ¬ (Sum.inl a : Key) = Sum.inl b := fun q => e (Sum.inl.inj q)
    rw [decide_eq_false h]
    exact (beq_eq_false_iff_ne.mpr e).symm
theorem key_rr (a b : Str) : decide ((Sum.inr a : Key) = Sum.inr b) = decide (a = b) := by
  by_cases e : a = b
  · subst e; simp
  · have h : ¬ (Sum.inr a : Key) = Sum.inr b := fun q => e (Sum.inr.inj q)
    rw [decide_eq_false h, decide_eq_false e]
theorem key_lr (a : Int) (b : Str) : decide ((Sum.inl a : Key) = Sum.inr b) = false := decide_eq_false (fun q => nomatch q)
theorem key_rl (a : Str) (b : Int) : decide ((Sum.inr a : Key) = Sum.inl b) = false := decide_eq_false (fun q => nomatch q)
noncomputable def mixKind (prog : Program) (w : World) : PySem.KeyKind prog w Key where
  is := keyIs
  hash := keyH w
  inj := fun v a b ha hb => by
    rcases keyIs_shape ha with ⟨i, t, rfl, rfl⟩ | ⟨x, t, rfl, rfl⟩
    · rcases keyIs_shape hb with ⟨j, u, rfl, e⟩ | ⟨y, u, rfl, e⟩
      · injection e with e1 _; rw [e1]
      · exact nomatch e
    · rcases keyIs_shape hb with ⟨j, u, rfl, e⟩ | ⟨y, u, rfl, e⟩
      · exact nomatch e
      · injection e with e1 _; rw [e1]
  byValue := fun k v h => by
    rcases keyIs_shape h with ⟨i, t, rfl, rfl⟩ | ⟨x, t, rfl, rfl⟩ <;> rfl
  pyHash := fun hv h => by
    rcases keyIs_shape hv with ⟨i, t, rfl, rfl⟩ | ⟨x, t, rfl, rfl⟩
    · exact wpAny_pyHash_int h
    · exact wpAny_pyHash_str h
  eqBool := fun hu hv h => by
    rcases keyIs_shape hu with ⟨i, t, rfl, rfl⟩ | ⟨x, t, rfl, rfl⟩
    · rcases keyIs_shape hv with ⟨j, u, rfl, rfl⟩ | ⟨y, u, rfl, rfl⟩
      · rw [key_ll] at h; exact wpAny_eqBool_int h
      · rw [key_lr] at h; exact SeqAt.EqAt.int_str i t y u _ _ _ _ h
    · rcases keyIs_shape hv with ⟨j, u, rfl, rfl⟩ | ⟨y, u, rfl, rfl⟩
      · rw [key_rl] at h; exact SeqAt.EqAt.str_int x t j u _ _ _ _ h
      · rw [key_rr] at h; exact wpAny_eqBool_str h
  «strs» := fun k x t v h => by
    rcases keyIs_shape h with ⟨i, u, rfl, e⟩ | ⟨y, u, rfl, e⟩
    · exact nomatch e
    · injection e with e1 _
      subst e1
      cases v <;> rfl
end L2
namespace L2
open PySem PySem.Spec PyProof.Rows
inductive V where
  | non | bl (b : Bool) | int (i : Int) | str (x : Str) | byt (b : Array UInt8) | flt (b : UInt64) | ref (a : Addr) | ty (n : String)
  deriving DecidableEq
noncomputable def RelV : V → Value → Prop
  | .non, u => u = Value.none
  | .bl b, u => u = Value.bool b
  | .int i, u => ∃ t, u = Value.int i t
  | .str x, u => ∃ t, u = Value.str x t
  | .byt b, u => ∃ t, u = Value.bytes b t
  | .flt b, u => ∃ t, u = Value.float b t
  | .ref a, u => u = Value.ref a
  | .ty n, u => u = Value.type n
noncomputable abbrev Vals : List V → List Value → Prop := Paired RelV
theorem Vals.length {xs : List V} {us : List Value} (r : Vals xs us) : xs.length = us.length := Paired.length r
theorem Vals.get : ∀ {xs : List V} {us : List Value} {i : Nat} {x : V}, Vals xs us → xs[i]? = some x → ∃ u, us[i]? = some u ∧ RelV x u
  | _, _, _, _, .nil, e => by simp at e
  | _, _, 0, _, .cons r _, e => by simp at e; subst e; exact ⟨_, rfl, r⟩
  | _, _, i + 1, x, .cons _ t, e => by
    obtain ⟨u, h1, h2⟩ := Vals.get (i := i) (x := x) t (by simpa using e)
    exact ⟨u, by simpa using h1, h2⟩
theorem Vals.append : ∀ {xs ys : List V} {us ws : List Value}, Vals xs us → Vals ys ws → Vals (xs ++ ys) (us ++ ws)
  | _, _, _, _, .nil, s => s
  | _, _, _, _, .cons r t, s => .cons r (Vals.append t s)
theorem Vals.take : ∀ {xs : List V} {us : List Value} (n : Nat), Vals xs us → Vals (xs.take n) (us.take n)
  | _, _, 0, _ => .nil
  | _, _, _ + 1, .nil => .nil
  | _, _, n + 1, .cons r t => .cons r (Vals.take n t)
theorem Vals.drop : ∀ {xs : List V} {us : List Value} (n : Nat), Vals xs us → Vals (xs.drop n) (us.drop n)
  | _, _, 0, r => r
  | _, _, _ + 1, .nil => .nil
  | _, _, n + 1, .cons _ t => Vals.drop n t
noncomputable def RelO : Option V → Option Value → Prop
  | some v, some u => RelV v u
  | none, none => True
  | _, _ => False
noncomputable def KV {κ : Type} : List (κ × V) → List (κ × Value) → Prop := Paired fun (p : κ × V) (q : κ × Value) => p.1 = q.1 ∧ RelV p.2 q.2
noncomputable def kV : Key → V
  | .inl i => .int i
  | .inr x => .str x
inductive HO where
  /-- a list -/
  | lst (xs : List V)
  /-- a tuple (never changes) -/
  | tup (xs : List V)
  /-- a dict whose keys are ints and texts; one whose keys are tuples of ints and texts (the empty one is both) -/
  | dK (kvs : List (Key × V)) | dT (kvs : List (List Key × V))
  /-- a set of ints: its members, its size -/
  | set (S : Int → Bool) (n : Nat)
  /-- an instance of the class at C, its dict at dx, its attributes -/
  | ins (C dx : Addr) (fs : List (Str × V))
  /-- the dict of the instance at x -/
  | own (x : Addr)
  /-- the dict of an exception -/
  | xd (fs : List (Str × V))
  /-- a bound method, f of x -/
  | met (f x : Addr)
  /-- a range object lo, lo + 1, .. below hi -/
  | rng (lo hi : Int)
  /-- a thing that is known to the object (the script; a dict while a loop walks it): read, never written while it is so -/
  | frz (o : Obj) (u : HO)
  /-- a code object's table -/
  | tbl (ps : Array Value)
  /-- any other thing, by what is true of its one object (a def of one's own: SetO a S n := HO.ext fun h => ..) -/
  | ext (φ : Heap → Prop)
noncomputable abbrev Hp := Addr → Option HO
noncomputable def upd (H : Hp) (a : Addr) (o : HO) : Hp := fun b => if b = a then some o else H b
theorem upd_same {H : Hp} {a : Addr} {o : HO} : upd H a o a = some o := by unfold upd; rw [if_pos rfl]
theorem upd_ne {H : Hp} {a b : Addr} {o : HO} (h : b ≠ a) : upd H a o b = H b := by unfold upd; rw [if_neg h]
theorem ne_of_none {H : Hp} {a b : Addr} {o : HO} (h : H a = some o) (h' : H b = none) : a ≠ b := by
  intro e; subst e; rw [h] at h'; cases h'
section
variable (P : Program) (w : World)
noncomputable def ObjOk (H : Hp) (h : Heap) (a : Addr) : HO → Prop
  | .lst xs => xs.length ≤ sizeLine ∧ ∃ (its : List Value) (n : Nat), Vals xs its ∧ h.get? a = some { cls := .type "list", data := .seq its.toArray n }
  | .tup xs => xs.length ≤ sizeLine ∧ ∃ its : List Value, Vals xs its ∧ IsTup h a its.toArray
  | .dK kvs => kvs.length ≤ sizeLine ∧ (a == sysModules) = false ∧ ∃ vs, KV kvs vs ∧ h.DictOf (mixKind P w) a vs
  | .dT kvs => kvs.length ≤ sizeLine ∧ (a == sysModules) = false ∧ ∃ xs : List (List Key × Addr × Value),
      Paired (fun (p : List Key × V) (q : List Key × Addr × Value) => p.1 = q.1 ∧ H q.2.1 = some (.tup (p.1.map kV)) ∧ RelV p.2 q.2.2) kvs xs ∧
      ∃ o es ep, h.get? a = some o ∧ o.ExactDict ∧ o.data = .dict es ep ∧ es.toList = xs.map (entryOfKey (tupleKind (mixKind P w))) ∧ (xs.map (·.1)).Nodup
  | .set S n => h.SetOf (intKind P w) a S n
  | .ins C dx fs => H dx = some (.own a) ∧ fs.length ≤ 1000 ∧ dx ≠ a ∧ h.get? a = some (PySem.W.instObj C dx) ∧
      ∃ mA, h.Ns1 dx mA ∧ (∀ f, RelO (fs.lookup f) (mA f)) ∧ PySem.Within mA (fs.map (·.1))
  | .own _ => ∃ o, h.get? a = some o
  | .xd fs => ∃ mA, h.Ns1 a mA ∧ ∀ f, RelO (fs.lookup f) (mA f)
  | .rng lo hi => ∃ t u v, h.get? a = some { cls := .type "range", data := .fields #[.int lo t, .int hi u, .int 1 v] }
  | .frz o u => h.get? a = some o ∧ ObjOk H h a u
  | .tbl ps => h.get? a = some { cls := .none, data := .fields ps }
  | .met f x => h.get? a = some (PySem.W.methodObj (.ref f) (.ref x))
  | .ext φ => φ h ∧ (∃ o, h.get? a = some o) ∧ ∀ h1 h2 : Heap, φ h1 → (∀ o, h1.get? a = some o → h2.get? a = some o) → φ h2
noncomputable def HOk (H : Hp) (h : Heap) : Prop := ∀ a o, H a = some o → ObjOk P w H h a o
end
section
variable {P : Program} {w : World} {H H' : Hp} {h h' : Heap} {a : Addr} {o : HO}
theorem ObjOk.lt (x : ObjOk P w H h a o) : a < h.objs.size := by
  cases o with
  | lst xs => obtain ⟨_, _, _, _, e⟩ := x; exact Heap.lt_size e
  | tup xs => obtain ⟨_, _, _, p⟩ := x; exact p.lt
  | dK kvs => obtain ⟨_, _, _, _, o, _, _, e, _⟩ := x; exact Heap.lt_size e
  | dT kvs => obtain ⟨_, _, _, _, o, _, _, e, _⟩ := x; exact Heap.lt_size e
  | set S n => obtain ⟨o, _, _, _, e, _⟩ := x; exact Heap.lt_size e
  | ins C dx fs => obtain ⟨_, _, _, e, _⟩ := x; exact Heap.lt_size e
  | own y => obtain ⟨_, e⟩ := x; exact Heap.lt_size e
  | xd fs => obtain ⟨_, ⟨_, _, _, e, _⟩, _⟩ := x; exact Heap.lt_size e
  | rng lo hi => obtain ⟨_, _, _, e⟩ := x; exact Heap.lt_size e
  | frz ob u => obtain ⟨e, _⟩ := x; exact Heap.lt_size e
  | tbl ps => exact Heap.lt_size (show h.get? a = some _ from x)
  | met f y => exact Heap.lt_size (show h.get? a = some _ from x)
  | ext φ => obtain ⟨_, ⟨_, e⟩, _⟩ := x; exact Heap.lt_size e
theorem Paired.mapP {α β : Type} {F G : α → β → Prop} : ∀ {l₁ : List α} {l₂ : List β}, Paired F l₁ l₂ → (∀ a b, F a b → G a b) → Paired G l₁ l₂
  | _, _, .nil, _ => .nil
  | _, _, .cons r t, f => .cons (f _ _ r) (Paired.mapP t f)
theorem Paired.imp' {α β : Type} {F G : α → β → Prop} (f : ∀ a b, F a b → G a b) {l₁ : List α} {l₂ : List β} (r : Paired F l₁ l₂) : Paired G l₁ l₂ := Paired.mapP r f
theorem ObjOk.stay (x : ObjOk P w H h a o) (k : ∀ b u, (b = a ∨ H b = some (.own a)) → h.get? b = some u → h'.get? b = some u)
    (ho : ∀ b, H b = some (.own a) → H' b = some (.own a)) (ht : ∀ b xs, H b = some (.tup xs) → H' b = some (.tup xs)) : ObjOk P w H' h' a o := by
  induction o with
  | lst xs => obtain ⟨z, its, n, r, e⟩ := x; exact ⟨z, its, n, r, k _ _ (.inl rfl) e⟩
  | tup xs => obtain ⟨z, its, r, ob, e, c⟩ := x; exact ⟨z, its, r, ob, k _ _ (.inl rfl) e, c⟩
  | dK kvs => obtain ⟨z, y, vs, r, ob, es, ep, e, c⟩ := x; exact ⟨z, y, vs, r, ob, es, ep, k _ _ (.inl rfl) e, c⟩
  | dT kvs =>
    obtain ⟨z, y, xs, r, ob, es, ep, e, c⟩ := x
    exact ⟨z, y, xs, Paired.mapP r fun p q z => ⟨z.1, ht _ _ z.2.1, z.2.2⟩, ob, es, ep, k _ _ (.inl rfl) e, c⟩
  | set S n => obtain ⟨ob, es, ep, t, e, c⟩ := x; exact ⟨ob, es, ep, t, k _ _ (.inl rfl) e, c⟩
  | ins C dx fs =>
    obtain ⟨d, z, ne, e, mA, ⟨od, es, ep, e2, c⟩, r⟩ := x
    exact ⟨ho _ d, z, ne, k _ _ (.inl rfl) e, mA, ⟨od, es, ep, k _ _ (.inr d) e2, c⟩, r⟩
  | own y => obtain ⟨ob, e⟩ := x; exact ⟨ob, k _ _ (.inl rfl) e⟩
  | xd fs => obtain ⟨mA, ⟨od, es, ep, e, c⟩, r⟩ := x; exact ⟨mA, ⟨od, es, ep, k _ _ (.inl rfl) e, c⟩, r⟩
  | rng lo hi => obtain ⟨t, u, v, e⟩ := x; exact ⟨t, u, v, k _ _ (.inl rfl) e⟩
  | frz ob u ih => obtain ⟨e, q⟩ := x; exact ⟨k _ _ (.inl rfl) e, ih q⟩
  | tbl ps =>
    have e : h.get? a = some { cls := .none, data := .fields ps } := x
    show h'.get? a = some { cls := .none, data := .fields ps }
    exact k a _ (.inl rfl) e
  | met f y =>
    have e : h.get? a = some (PySem.W.methodObj (.ref f) (.ref y)) := x
    show h'.get? a = some (PySem.W.methodObj (.ref f) (.ref y))
    exact k a _ (.inl rfl) e
  | ext φ => obtain ⟨p, ⟨o, e⟩, st⟩ := x; exact ⟨st _ _ p fun o q => k _ _ (.inl rfl) q, ⟨o, k _ _ (.inl rfl) e⟩, st⟩
theorem HOk.lt (x : HOk P w H h) (e : H a = some o) : a < h.objs.size := (x a o e).lt
theorem HOk.fresh (x : HOk P w H h) (e : h.objs.size ≤ a) : H a = none := by
  cases q : H a with
  | none => rfl
  | some u => exact absurd (Nat.lt_of_lt_of_le (x.lt q) e) (Nat.lt_irrefl _)
theorem HOk.kept (x : HOk P w H h) (k : ∀ b u, h.get? b = some u → h'.get? b = some u) : HOk P w H h' := fun a o e =>
  (x a o e).stay (fun b u _ q => k b u q) (fun _ q => q) fun _ _ q => q
theorem HOk.laid (x : HOk P w H h) (k : ∀ b u, h.get? b = some u → h'.get? b = some u) (hp : h.objs.size ≤ a) (new : ObjOk P w (upd H a o) h' a o) : HOk P w (upd H a o) h' := fun b u e => by
  have hn := x.fresh hp
  by_cases hb : b = a
  · subst hb; rw [upd_same] at e; cases e; exact new
  · rw [upd_ne hb] at e
    exact (x b u e).stay (fun c v _ q => k c v q) (fun c q => by rw [upd_ne (ne_of_none q hn)]; exact q) fun c xs q => by rw [upd_ne (ne_of_none q hn)]; exact q
end
noncomputable def Rd (H : Hp) (a : Addr) (u : HO) : Prop := H a = some u ∨ ∃ o, H a = some (.frz o u)
theorem Rd.ok {P : Program} {w : World} {H : Hp} {h : Heap} {a : Addr} {u : HO} (r : Rd H a u) (x : HOk P w H h) : ObjOk P w H h a u := by
  rcases r with r | ⟨o, r⟩
  · exact x a u r
  · obtain ⟨_, q⟩ := x a _ r
    exact q
noncomputable def Mut : Option HO → Prop
  | some (.lst _) => True
  | some (.dK _) => True
  | some (.dT _) => True
  | some (.set _ _) => True
  | some (.ins _ _ _) => True
  | some (.ext _) => True
  | _ => False
section
variable {P : Program} {w : World} {H : Hp} {h h' : Heap} {x e : Addr} {o' : HO}
theorem HOk.write (ok : HOk P w H h) (mu : Mut (H x)) (he : e = x ∨ H e = some (.own x)) (k : ∀ b u, b ≠ e → h.get? b = some u → h'.get? b = some u) (heo : ∃ u, h'.get? e = some u)
    (new : ObjOk P w (upd H x o') h' x o') : HOk P w (upd H x o') h' := fun b u q => by
  have nown : ∀ c y, H c = some (.own y) → c ≠ x := fun c y r z => by subst z; rw [r] at mu; exact mu
  have ntup : ∀ c xs, H c = some (.tup xs) → c ≠ x := fun c xs r z => by subst z; rw [r] at mu; exact mu
  by_cases hb : b = x
  · subst hb; rw [upd_same] at q; cases q; exact new
  · rw [upd_ne hb] at q
    by_cases hbe : b = e
    · have q' : H b = some (.own x) := by
        rcases he with z | z
        · exact absurd (hbe.trans z) hb
        · rw [hbe]; exact z
      rw [q] at q'; cases q'
      obtain ⟨v, hv⟩ := heo
      exact ⟨v, by rw [hbe]; exact hv⟩
    · refine (ok b u q).stay (fun c v hc r => k c v ?_ r) (fun c r => by rw [upd_ne (nown c b r)]; exact r) fun c xs r => by rw [upd_ne (ntup c xs r)]; exact r
      rcases hc with rfl | hc
      · exact hbe
      · rintro rfl
        rcases he with z | z
        · exact nown c b hc z
        · rw [hc] at z; cases z; exact hb rfl
end
structure Un (fs ex : List Addr) (H H' : Hp) (h h' : Heap) : Prop where
  keep : ∀ b o, h.get? b = some o → H b = none → b ∉ fs → b ∉ ex → h'.get? b = some o
  slot : ∀ b o, h.get? b = some o → H b = none → b ∈ fs → b ∉ ex → ∃ sl, h'.get? b = some { o with slots := sl }
  free : ∀ b o, h.get? b = some o → H b = none → b ∉ ex → H' b = none
  there : ∀ b o, h.get? b = some o → b ∉ ex → ∃ o', h'.get? b = some o'
  tups : ∀ b xs, H b = some (.tup xs) → H' b = some (.tup xs)
  frzs : ∀ b o u, H b = some (.frz o u) → H' b = some (.frz o u)
  tbls : ∀ b ps, H b = some (.tbl ps) → ∃ more, H' b = some (.tbl (ps ++ more))
section
variable {fs fs' ex ex' : List Addr} {H H1 H2 : Hp} {h h1 h2 h' : Heap} {a x e : Addr} {o : HO}
theorem Un.any (u : Un fs ex H H1 h h1) {b : Addr} {ob : Obj} (q : h.get? b = some ob) (n : H b = none) (hx : b ∉ ex) : ∃ sl, h1.get? b = some { ob with slots := sl } := by
  by_cases hb : b ∈ fs
  · exact u.slot b ob q n hb hx
  · exact ⟨ob.slots, u.keep b ob q n hb hx⟩
theorem Un.kept (k : ∀ b u, h.get? b = some u → h'.get? b = some u) : Un fs ex H H h h' :=
  ⟨fun b ob q _ _ _ => k b ob q, fun b ob q _ _ _ => ⟨ob.slots, k b ob q⟩, fun _ _ _ n _ => n, fun b ob q _ => ⟨ob, k b ob q⟩, fun _ _ q => q, fun _ _ _ q => q, fun _ ps q => ⟨#[], by rw [q]; simp⟩⟩
theorem Un.refl : Un fs ex H H h h := Un.kept fun _ _ q => q
theorem Un.laid (k : ∀ b u, h.get? b = some u → h'.get? b = some u) (hp : h.objs.size ≤ a) (hn : H a = none) : Un fs ex H (upd H a o) h h' where
  keep := fun b u q _ _ _ => k b u q
  slot := fun b u q _ _ _ => ⟨u.slots, k b u q⟩
  free := fun b u q n _ => by rw [upd_ne (Nat.ne_of_lt (Nat.lt_of_lt_of_le (Heap.lt_size q) hp))]; exact n
  there := fun b u q _ => ⟨u, k b u q⟩
  tups := fun b xs q => by rw [upd_ne (ne_of_none q hn)]; exact q
  frzs := fun b u xs q => by rw [upd_ne (ne_of_none q hn)]; exact q
  tbls := fun b ps q => ⟨#[], by rw [upd_ne (ne_of_none q hn), q]; simp⟩
theorem Un.write (mu : Mut (H x)) (he : e = x ∨ H e = some (.own x)) (k : ∀ b u, b ≠ e → h.get? b = some u → h'.get? b = some u) (heo : ∃ u, h'.get? e = some u) : Un fs ex H (upd H x o) h h' := by
  have hx : ∀ b, H b = none → b ≠ x := fun b n z => by subst z; rw [n] at mu; exact mu
  have hb : ∀ b, H b = none → b ≠ e := fun b n z => by
    subst z
    rcases he with r | r
    · exact hx b n r
    · rw [n] at r; cases r
  have hm : ∀ b u, H b = some u → ¬ Mut (some u) → b ≠ x := fun b u q nm z => by subst z; rw [q] at mu; exact nm mu
  refine ⟨fun b u q n _ _ => k b u (hb b n) q, fun b u q n _ _ => ⟨u.slots, k b u (hb b n) q⟩, fun b u q n _ => by rw [upd_ne (hx b n)]; exact n, fun b u q _ => ?_,
    fun b xs q => by rw [upd_ne (hm b _ q fun z => z)]; exact q, fun b u xs q => by rw [upd_ne (hm b _ q fun z => z)]; exact q, fun b ps q => ⟨#[], by rw [upd_ne (hm b _ q fun z => z), q]; simp⟩⟩
  by_cases hbe : b = e
  · subst hbe; exact heo
  · exact ⟨u, k b u hbe q⟩
end
noncomputable def trk (h : Heap) (H : Hp) : List Addr := (List.range h.objs.size).filter fun a => (H a).isSome
noncomputable def hidT (h : Heap) (H : Hp) : Heap := PySem.W.hideAll h (trk h H)
theorem hidT_size (h : Heap) (H : Hp) : (hidT h H).objs.size = h.objs.size := PySem.W.hideAll_size _ _
theorem hidT_get {h : Heap} {H : Hp} {b : Addr} {o : Obj} (e : h.get? b = some o) (n : H b = none) : (hidT h H).get? b = some o :=
  PySem.W.hideAll_get _ e fun hm => by
    have q : (H b).isSome = true := (List.mem_filter.mp hm).2
    rw [n] at q; simp at q
theorem of_hidT {h : Heap} {H : Hp} {b : Addr} {o : Obj} (e : (hidT h H).get? b = some o) : h.get? b = some o ∧ H b = none := by
  have e' : h.get? b = some o := PySem.W.of_hideAll (trk h H) e
  refine ⟨e', ?_⟩
  cases q : H b with
  | none => rfl
  | some x =>
    have hm : b ∈ trk h H := List.mem_filter.mpr ⟨List.mem_range.mpr (Heap.lt_size e'), by simp [q]⟩
    have z : (hidT h H).get? b = none := PySem.W.hideAll_none (trk h H) hm
    rw [z] at e; cases e
noncomputable def allNews (g h : Heap) (L : Addr) : List (Addr × Obj) := (List.range h.objs.size).filterMap fun a => if a = L ∨ (g.get? a).isSome = true then none else (h.get? a).map fun o => (a, o)
theorem mem_allNews {g h : Heap} {L a : Addr} {o : Obj} (h1 : a ≠ L) (h2 : g.get? a = none) (h3 : h.get? a = some o) : (a, o) ∈ allNews g h L :=
  List.mem_filterMap.mpr ⟨a, List.mem_range.mpr (Heap.lt_size h3), by simp [h1, h2, h3]⟩
theorem of_mem_allNews {g h : Heap} {L : Addr} {p : Addr × Obj} (hp : p ∈ allNews g h L) : p.1 ≠ L ∧ g.get? p.1 = none ∧ h.get? p.1 = some p.2 := by
  obtain ⟨b, _, e⟩ := List.mem_filterMap.mp hp
  split at e
  · cases e
  · rename_i hn
    cases q : h.get? b with
    | none => rw [q] at e; simp at e
    | some u =>
      rw [q] at e
      simp only [Option.map_some, Option.some.injEq] at e
      subst e
      refine ⟨fun z => hn (.inl z), ?_, q⟩
      show g.get? b = none
      cases r : g.get? b with
      | none => rfl
      | some v => exact (hn (.inr (by simp [r]))).elim
noncomputable def rest (g h : Heap) (L d : Addr) : List (Addr × Obj) := (allNews g h L).filter fun p => decide (p.1 ≠ d)
theorem news_all {g h : Heap} {L : Addr} : News g L h (allNews g h L) := fun p hp => let ⟨a, b, c⟩ := of_mem_allNews hp; ⟨c, a, b⟩
end L2
namespace L2
open PySem PySem.Spec PyProof.Rows
structure Mod (K : PySem.W.Frag) (mg : Str → Option Value) (base : Heap) : Prop where
  kin : K.In base
  glob : base.Ns mainGlobals mg
  blt : ∃ mb, base.Ns builtinsNs mb ∧ ∀ x : Str, x ≠ "__name__" → mb x = bootBuiltins x
  nolimit : base.NoLimit
structure Cx where
  prog : Program
  w : World
  K : PySem.W.Frag
  mg : Str → Option Value
  base : Heap
  A : Around
  N : List Str
  s₀ : Shared
  H₀ : Hp
  env : Env
  outer : List Env
  stack : List Env
  ex : List Addr
  fn : Str → Bool
  calm : Bool
  pn : List (Addr × Obj)
  xe : Value → Shared → Prop
noncomputable def frs (l : List Env) : List Addr := l.filterMap (·.frame)
noncomputable abbrev Cx.fs (X : Cx) : List Addr := frs X.outer
noncomputable def Vis (sc : Scope) (x : Str) : Prop := sc.names.lookup x = some .local ∨ sc.names.lookup x = some .cell ∨ sc.names.lookup x = some .free
noncomputable def Loc (sc : Scope) (x : Str) : Prop := sc.names.lookup x = some .local ∨ sc.names.lookup x = some .cell
noncomputable def Look (env : Env) (h : Heap) (m : Str → Option Value) (x : Str) (u : Value) : Prop :=
  (env.kindOf x = some .local ∧ m x = some u) ∨ ((env.kindOf x = some .cell ∨ env.kindOf x = some .free) ∧ ∃ c, env.cells.lookup x = some c ∧ h.IsCell c (some u))
structure Cx.Ok (X : Cx) : Prop where
  mod : Mod X.K X.mg X.base
  kind : X.env.scope.kind = .function
  glob : X.env.globals = mainGlobals
  blt : X.env.builtins = builtinsNs
  above : X.s₀.heap.objs.size ≤ X.env.locals
  inj : ∀ x y c, X.env.cells.lookup x = some c → X.env.cells.lookup y = some c → x = y
  has : ∀ x, (X.env.kindOf x = some .cell ∨ X.env.kindOf x = some .free) → ∃ c, X.env.cells.lookup x = some c
  cab : ∀ x c, X.fn x = true → X.env.cells.lookup x = some c → X.s₀.heap.objs.size ≤ c
  hd : X.calm = true → X.A.handled = none
  frames : X.A.frames = some X.stack
  stk : X.stack = X.outer ∨ (X.stack = X.env :: X.outer ∧ X.env.frame = some X.env.locals)
  exf : ∀ b ∈ X.ex, b ≠ X.env.locals ∧ ∀ x c, X.env.cells.lookup x = some c → c ≠ b
  bs : ∀ b o, X.base.get? b = some o → X.s₀.heap.get? b = some o ∧ X.H₀ b = none
  bsz : X.base.objs.size ≤ X.s₀.heap.objs.size
  noex : ∀ b o, X.base.get? b = some o → b ∉ X.ex
  exfs : ∀ b ∈ X.ex, b ∉ X.fs
  funs : X.s₀.heap.FunFrames X.base X.outer
  frf : ∀ b ∈ X.fs, X.H₀ b = none
structure Inv (X : Cx) (pins : List (Addr × Obj)) (σ : List (Option V)) (H : Hp) (s : Shared) : Prop where
  ok : X.Ok
  os : s.os = X.s₀.os
  bare : AllBare s.gens
  base : Un X.fs X.ex X.H₀ H X.s₀.heap s.heap
  loc : ∃ m, s.heap.Ns X.env.locals m ∧ ∀ (i : Nat) (x : Str) (v : V), X.N[i]? = some x → σ[i]? = some (some v) → Vis X.env.scope x → ∃ u, RelV v u ∧ Look X.env s.heap m x u
  cell : ∀ x c, X.env.cells.lookup x = some c → ∃ v, s.heap.IsCell c v
  free : H X.env.locals = none
  freeC : ∀ x c, X.env.cells.lookup x = some c → H c = none
  pin : ∀ p ∈ X.pn ++ pins, s.heap.get? p.1 = some p.2 ∧ H p.1 = none ∧ p.1 ≠ X.env.locals ∧ p.1 ∉ X.fs ∧ ∀ v, p.2.data ≠ .cell v
  hok : HOk X.prog X.w H s.heap
  len : σ.length = X.N.length
section
variable {X : Cx} {pins : List (Addr × Obj)} {σ : List (Option V)} {H H' : Hp} {s : Shared} {h' : Heap}
theorem Cx.Ok.nofr (ok : X.Ok) {b : Addr} {o : Obj} (e : X.base.get? b = some o) : b ∉ X.fs := fun hb => by
  have := (ok.funs.mem hb).1
  rw [e] at this; cases this
theorem Inv.bs (I : Inv X pins σ H s) : ∀ b o, X.base.get? b = some o → s.heap.get? b = some o ∧ H b = none := fun b o e =>
  ⟨I.base.keep b o (I.ok.bs b o e).1 (I.ok.bs b o e).2 (I.ok.nofr e) (I.ok.noex b o e), I.base.free b o (I.ok.bs b o e).1 (I.ok.bs b o e).2 (I.ok.noex b o e)⟩
theorem Inv.bk (I : Inv X pins σ H s) : ∀ b o, X.base.get? b = some o → s.heap.get? b = some o := fun b o e => (I.bs b o e).1
theorem Inv.mod (I : Inv X pins σ H s) : Mod X.K X.mg X.base := I.ok.mod
theorem Inv.kIn (I : Inv X pins σ H s) : X.K.In s.heap := I.ok.mod.kin.keeps I.bk
theorem Inv.fr (I : Inv X pins σ H s) : ∃ m, Fr X.base X.env.locals s.heap m :=
  let ⟨m, hn, _⟩ := I.loc
  ⟨m, hn, I.bk, Nat.le_trans I.ok.bsz I.ok.above⟩
theorem Inv.lt (I : Inv X pins σ H s) : X.env.locals < s.heap.objs.size := let ⟨_, hn, _⟩ := I.loc; hn.lt
theorem Inv.sz (I : Inv X pins σ H s) : X.s₀.heap.objs.size ≤ s.heap.objs.size := Nat.le_trans I.ok.above (Nat.le_of_lt I.lt)
theorem Inv.nofs (I : Inv X pins σ H s) {a : Addr} (h : s.heap.objs.size ≤ a) : a ∉ X.fs := fun hb => by
  obtain ⟨_, o, ho, _⟩ := I.ok.funs.mem hb
  exact absurd (Nat.lt_of_lt_of_le (Heap.lt_size ho) (Nat.le_trans I.sz h)) (Nat.lt_irrefl _)
theorem Inv.cne (I : Inv X pins σ H s) : ∀ x c, X.env.cells.lookup x = some c → c ≠ X.env.locals := fun x c e z => by
  obtain ⟨v, o, ho, hd⟩ := I.cell x c e
  obtain ⟨m, ⟨o', es, ep, ho', hd', _⟩, _⟩ := I.loc
  rw [z, ho'] at ho; cases ho; rw [hd'] at hd; cases hd
theorem Inv.funs (I : Inv X pins σ H s) : s.heap.FunFrames X.base X.outer := by
  have all : ∀ (l : List Env), (∀ b ∈ frs l, b ∈ X.fs) → X.s₀.heap.FunFrames X.base l → s.heap.FunFrames X.base l := by
    intro l
    induction l with
    | nil => intro _ _; trivial
    | cons env r ih =>
      intro hs hl
      obtain ⟨hk, ⟨L, o, hf, hn, ho, hd⟩, hr⟩ := hl
      have hL : L ∈ X.fs := hs L (by unfold frs; rw [List.filterMap_cons, hf]; exact List.mem_cons_self)
      obtain ⟨sl, e⟩ := I.base.slot L o ho (I.ok.frf L hL) hL fun z => I.ok.exfs L z hL
      exact ⟨hk, ⟨L, _, hf, hn, e, hd⟩, ih (fun b hb => hs b (by unfold frs; rw [List.filterMap_cons, hf]; exact List.mem_cons_of_mem _ hb)) hr⟩
  exact all X.outer (fun _ hb => hb) I.ok.funs
theorem Inv.stack (I : Inv X pins σ H s) : s.heap.FunFrames X.base X.stack := by
  rcases I.ok.stk with e | ⟨e, hf⟩
  · rw [e]; exact I.funs
  · rw [e]
    obtain ⟨m, hn, _⟩ := I.loc
    refine .cons (by rw [I.ok.kind]; decide) hf hn ?_ I.funs
    exact Heap.get?_none_of_le (Nat.le_trans I.ok.bsz I.ok.above)
theorem Inv.stkSub (I : Inv X pins σ H s) : ∀ b ∈ frs X.stack, b ∈ X.env.locals :: X.fs := fun b hb => by
  rcases I.ok.stk with e | ⟨e, hf⟩
  · rw [e] at hb; exact List.mem_cons_of_mem _ hb
  · rw [e] at hb
    unfold frs at hb
    rw [List.filterMap_cons, hf] at hb
    exact hb
theorem Inv.stkFree (I : Inv X pins σ H s) : ∀ b ∈ frs X.stack, H b = none := fun b hb => by
  rcases List.mem_cons.mp (I.stkSub b hb) with e | hb
  · rw [e]; exact I.free
  · obtain ⟨_, o, ho, _⟩ := I.ok.funs.mem hb
    exact I.base.free b o ho (I.ok.frf b hb) fun z => I.ok.exfs b z hb
theorem Inv.step {g' : Array GenState} {t' : Nat} {d' : Drawn} {ch : List Addr} (I : Inv X pins σ H s)
    (hch : ∀ b ∈ ch, (b ∈ X.ex ∨ X.s₀.heap.objs.size ≤ b) ∧ b ≠ X.env.locals ∧ (∀ x c, X.env.cells.lookup x = some c → c ≠ b) ∧ ∀ p ∈ X.pn ++ pins, p.1 ≠ b)
    (keep : ∀ b o, b ≠ X.env.locals → b ∉ X.fs → b ∉ ch → s.heap.get? b = some o → H b = none → h'.get? b = some o)
    (slot : ∀ b o, b ≠ X.env.locals → b ∈ X.fs → b ∉ ch → s.heap.get? b = some o → H b = none → ∃ sl, h'.get? b = some { o with slots := sl }) (free : ∀ b o, b ∉ ch → s.heap.get? b = some o → H b = none → H' b = none)
    (there : ∀ b o, b ∉ ch → s.heap.get? b = some o → ∃ o', h'.get? b = some o')
    (tups : ∀ b xs, H b = some (.tup xs) → H' b = some (.tup xs)) (frzs : ∀ b o u, H b = some (.frz o u) → H' b = some (.frz o u)) (tbls : ∀ b ps, H b = some (.tbl ps) → ∃ more, H' b = some (.tbl (ps ++ more)))
    (ns : ∀ m, s.heap.Ns X.env.locals m → h'.Ns X.env.locals m) (hok : HOk X.prog X.w H' h') (hg : AllBare g') :
    Inv X pins σ H' { s with heap := h', gens := g', drawn := d', toks := t' } := by
  have neL : ∀ b o, X.s₀.heap.get? b = some o → b ≠ X.env.locals := fun b o e => Nat.ne_of_lt (Nat.lt_of_lt_of_le (Heap.lt_size e) I.ok.above)
  have neC : ∀ b o, X.s₀.heap.get? b = some o → b ∉ X.ex → b ∉ ch := fun b o e hx hb => by
    rcases (hch b hb).1 with z | z
    · exact hx z
    · exact absurd (Nat.lt_of_lt_of_le (Heap.lt_size e) z) (Nat.lt_irrefl _)
  have cellK : ∀ x c, X.env.cells.lookup x = some c → ∀ v, s.heap.IsCell c v → h'.IsCell c v := fun x c e v ⟨o, ho, hd⟩ => by
    have nch : c ∉ ch := fun z => (hch c z).2.2.1 x c e rfl
    by_cases hc : c ∈ X.fs
    · obtain ⟨sl, q⟩ := slot c o (I.cne x c e) hc nch ho (I.freeC x c e)
      exact ⟨_, q, hd⟩
    · exact ⟨o, keep c o (I.cne x c e) hc nch ho (I.freeC x c e), hd⟩
  refine ⟨I.ok, I.os, hg, ⟨fun b o e n hb hx => ?_, fun b o e n hb hx => ?_, fun b o e n hx => ?_, fun b o e hx => ?_, fun b xs e => tups b xs (I.base.tups b xs e), fun b o xs e => frzs b o xs (I.base.frzs b o xs e), fun b ps e => ?_⟩, ?_, fun x c e => ?_, ?_, fun x c e => ?_, fun p hp => ?_, hok, I.len⟩
  · exact keep b o (neL b o e) hb (neC b o e hx) (I.base.keep b o e n hb hx) (I.base.free b o e n hx)
  · obtain ⟨sl, e1⟩ := I.base.slot b o e n hb hx
    obtain ⟨sl', e2⟩ := slot b _ (neL b o e) hb (neC b o e hx) e1 (I.base.free b o e n hx)
    exact ⟨sl', e2⟩
  · obtain ⟨o', e1⟩ := I.base.there b o e hx
    exact free b o' (neC b o e hx) e1 (I.base.free b o e n hx)
  · obtain ⟨o', e1⟩ := I.base.there b o e hx
    exact there b o' (neC b o e hx) e1
  · obtain ⟨m1, e1⟩ := I.base.tbls b ps e
    obtain ⟨m2, e2⟩ := tbls b _ e1
    exact ⟨m1 ++ m2, by rw [e2, Array.append_assoc]⟩
  · obtain ⟨m, hn, hl⟩ := I.loc
    refine ⟨m, ns m hn, fun i x v e1 e2 e3 => ?_⟩
    obtain ⟨u, r, l⟩ := hl i x v e1 e2 e3
    refine ⟨u, r, ?_⟩
    rcases l with l | ⟨k, c, e, z⟩
    · exact .inl l
    · exact .inr ⟨k, c, e, cellK x c e _ z⟩
  · obtain ⟨v, z⟩ := I.cell x c e
    exact ⟨v, cellK x c e v z⟩
  · obtain ⟨m, ⟨o, _, _, ho, _⟩, _⟩ := I.loc
    exact free _ o (fun z => (hch _ z).2.1 rfl) ho I.free
  · obtain ⟨v, o, ho, hd⟩ := I.cell x c e
    exact free c o (fun z => (hch c z).2.2.1 x c e rfl) ho (I.freeC x c e)
  · obtain ⟨e, n, ne, nf, d⟩ := I.pin p hp
    have nch : p.1 ∉ ch := fun z => (hch p.1 z).2.2.2 p hp rfl
    exact ⟨keep p.1 p.2 ne nf nch e n, free p.1 p.2 nch e n, ne, nf, d⟩
theorem Inv.un {t' : Nat} (I : Inv X pins σ H s) (u : Un X.fs [] H H' s.heap h') (hok : HOk X.prog X.w H' h') : Inv X pins σ H' { s with heap := h', toks := t' } := by
  obtain ⟨m, ⟨o, es, ep, ho, r⟩, _⟩ := id I.loc
  obtain ⟨sl, hL⟩ := u.any ho I.free (by simp)
  exact I.step (g' := s.gens) (d' := s.drawn) (ch := []) (fun _ z => nomatch z) (fun b o _ hb _ e n => u.keep b o e n hb (by simp)) (fun b o _ hb _ e n => u.slot b o e n hb (by simp)) (fun b o _ e n => u.free b o e n (by simp)) (fun b o _ e => u.there b o e (by simp)) u.tups u.frzs u.tbls (fun m' hm => by
    obtain ⟨o', es', ep', ho', r'⟩ := hm
    rw [ho] at ho'; cases ho'
    exact ⟨_, es', ep', hL, r'⟩) hok I.bare
theorem Inv.call {g' : Array GenState} {t' : Nat} {d' : Drawn} {ch : List Addr} (I : Inv X pins σ H s) (u : Un (frs X.stack) ch H H' s.heap h') (hok : HOk X.prog X.w H' h') (hg : AllBare g')
    (hch : ∀ b ∈ ch, (b ∈ X.ex ∨ X.s₀.heap.objs.size ≤ b) ∧ b ≠ X.env.locals ∧ (∀ x c, X.env.cells.lookup x = some c → c ≠ b) ∧ ∀ p ∈ X.pn ++ pins, p.1 ≠ b) :
    Inv X pins σ H' { s with heap := h', gens := g', drawn := d', toks := t' } := by
  obtain ⟨m, ⟨o, es, ep, ho, r⟩, _⟩ := id I.loc
  obtain ⟨sl, hL⟩ := u.any ho I.free fun z => (hch _ z).2.1 rfl
  exact I.step (ch := ch) hch (fun b o hL hb hc e n => u.keep b o e n (fun z => (List.mem_cons.mp (I.stkSub b z)).elim hL hb) hc) (fun b o _ _ hc e n => u.any e n hc) (fun b o hc e n => u.free b o e n hc) (fun b o hc e => u.there b o e hc) u.tups u.frzs u.tbls (fun m' hm => by
    obtain ⟨o', es', ep', ho', r'⟩ := hm
    rw [ho] at ho'; cases ho'
    exact ⟨_, es', ep', hL, r'⟩) hok hg
theorem Inv.turned {t' : Nat} {it : Addr} (I : Inv X pins σ H s) (k : ∀ b o, b ≠ it → s.heap.get? b = some o → h'.get? b = some o) (hn : H it = none) (hL : it ≠ X.env.locals)
    (h1 : it ∈ X.ex ∨ X.s₀.heap.objs.size ≤ it) (h2 : ∀ x c, X.env.cells.lookup x = some c → c ≠ it) (h3 : ∀ p ∈ X.pn ++ pins, p.1 ≠ it) : Inv X pins σ H { s with heap := h', toks := t' } := by
  have nit : ∀ b u, H b = some u → b ≠ it := fun b u e z => by rw [z, hn] at e; cases e
  refine I.step (g' := s.gens) (d' := s.drawn) (ch := [it]) (fun b hb => ?_) (fun b o _ _ hc e _ => k b o (fun z => hc (by simp [z])) e) (fun b o _ _ hc e _ => ⟨o.slots, k b o (fun z => hc (by simp [z])) e⟩) (fun _ _ _ _ n => n)
    (fun b o hc e => ⟨o, k b o (fun z => hc (by simp [z])) e⟩) (fun _ _ e => e) (fun _ _ _ e => e) (fun b ps e => ⟨#[], by rw [e]; simp⟩) (fun m hm => ?_) (fun b u e => ?_) I.bare
  · have e : b = it := by simpa using hb
    subst e
    exact ⟨h1, hL, h2, h3⟩
  · obtain ⟨o, es, ep, ho, r⟩ := hm
    exact ⟨o, es, ep, k _ o (Ne.symm hL) ho, r⟩
  · refine (I.hok b u e).stay (fun c v hc q => k c v ?_ q) (fun _ q => q) fun _ _ q => q
    rcases hc with z | z
    · rw [z]; exact nit b u e
    · exact nit c _ z
theorem Inv.tok (I : Inv X pins σ H s) (t : Nat) : Inv X pins σ H { s with toks := t } := I.un (h' := s.heap) (t' := t) Un.refl I.hok
theorem Inv.kept {t' : Nat} (I : Inv X pins σ H s) (k : ∀ b u, s.heap.get? b = some u → h'.get? b = some u) : Inv X pins σ H { s with heap := h', toks := t' } := I.un (Un.kept k) (I.hok.kept k)
theorem Inv.laid {a : Addr} {o : HO} {t' : Nat} (I : Inv X pins σ H s) (k : ∀ b u, s.heap.get? b = some u → h'.get? b = some u) (hp : s.heap.objs.size ≤ a) (new : ObjOk X.prog X.w (upd H a o) h' a o) :
    Inv X pins σ (upd H a o) { s with heap := h', toks := t' } := I.un (Un.laid k hp (I.hok.fresh hp)) (I.hok.laid k hp new)
theorem Inv.write {x e : Addr} {o : HO} {t' : Nat} (I : Inv X pins σ H s) (mu : Mut (H x)) (he : e = x ∨ H e = some (.own x)) (k : ∀ b u, b ≠ e → s.heap.get? b = some u → h'.get? b = some u) (heo : ∃ u, h'.get? e = some u)
    (new : ObjOk X.prog X.w (upd H x o) h' x o) : Inv X pins σ (upd H x o) { s with heap := h', toks := t' } := I.un (Un.write mu he k heo) (I.hok.write mu he k heo new)
theorem Inv.pins_of {pins' : List (Addr × Obj)} (I : Inv X pins σ H s) (h : ∀ p ∈ pins', s.heap.get? p.1 = some p.2 ∧ H p.1 = none ∧ p.1 ≠ X.env.locals ∧ p.1 ∉ X.fs ∧ ∀ v, p.2.data ≠ .cell v) : Inv X pins' σ H s :=
  ⟨I.ok, I.os, I.bare, I.base, I.loc, I.cell, I.free, I.freeC, fun p hp => (List.mem_append.mp hp).elim (fun z => I.pin p (List.mem_append_left _ z)) (h p), I.hok, I.len⟩
theorem nodup_ix {N : List Str} (hN : N.Nodup) {i j : Nat} {x : Str} (a : N[i]? = some x) (b : N[j]? = some x) : i = j := by
  obtain ⟨h1, e1⟩ := List.getElem?_eq_some_iff.mp a
  obtain ⟨h2, e2⟩ := List.getElem?_eq_some_iff.mp b
  exact (List.getElem_inj hN).mp (e1.trans e2.symm)
theorem store_ok2 {M : Model} {A : Around} {E : Value → Shared → Prop} {i : Nat} {x : Str} {v : V} {u : Value} {Q : Unit → Shared → Prop} (I : Inv X pins σ H s) (hN : X.N.Nodup) (hi : X.N[i]? = some x) (hx : Loc X.env.scope x) (r : RelV v u)
    (h : ∀ s', Inv X pins (σ.set i (some v)) H s' → (∃ a, Heap.SameBut a s.heap s'.heap ∧ (a = X.env.locals ∨ X.env.cells.lookup x = some a)) → Q () s') (hf : X.fn x = true ∨ X.env.scope.names.lookup x = some .local := by first | exact .inl rfl | exact .inr rfl | assumption) : wpAny M A (storeName X.env x u) Q E s := by
  obtain ⟨m, hn, hl⟩ := id I.loc
  have hcls : (X.env.scope.kind == .class || (X.env.scope.kind == .module && X.env.locals != X.env.globals)) = false := by rw [I.ok.kind]; rfl
  have hiσ : i < σ.length := by rw [I.len]; exact (List.getElem?_eq_some_iff.mp hi).1
  have cne := I.cne
  have tracked : ∀ {a : Addr} {h' : Heap}, (∃ o, s.heap.get? a = some o ∧ H a = none) → Heap.SameBut a s.heap h' → HOk X.prog X.w H h' := fun {a h'} ha hs b ob e => by
    obtain ⟨_, _, hfree⟩ := ha
    refine (I.hok b ob e).stay (fun c w' hc q => (hs.2 c ?_).trans q) (fun _ q => q) fun _ _ q => q
    rintro rfl
    rcases hc with rfl | hc
    · rw [hfree] at e; cases e
    · rw [hfree] at hc; cases hc
  rcases hx with hk | hk
  · refine wpAny_storeName_local hk hn (fun h' hn' hs => ?_) hcls
    obtain ⟨oL, _, _, hoL, _⟩ := id hn
    refine h _ ⟨I.ok, I.os, I.bare, ⟨fun b o e n hb hx => ?_, fun b o e n hb hx => ?_, I.base.free, fun b o e hx => ?_, I.base.tups, I.base.frzs, I.base.tbls⟩, ⟨_, hn', fun j y v' e1 e2 e3 => ?_⟩, fun y c e => ?_, I.free, I.freeC, fun p hp => ?_, tracked ⟨oL, hoL, I.free⟩ hs, by simpa using I.len⟩ ⟨_, hs, .inl rfl⟩
    · exact (hs.2 b (Nat.ne_of_lt (Nat.lt_of_lt_of_le (Heap.lt_size e) I.ok.above))).trans (I.base.keep b o e n hb hx)
    · obtain ⟨sl, e1⟩ := I.base.slot b o e n hb hx
      exact ⟨sl, (hs.2 b (Nat.ne_of_lt (Nat.lt_of_lt_of_le (Heap.lt_size e) I.ok.above))).trans e1⟩
    · obtain ⟨o', e1⟩ := I.base.there b o e hx
      exact ⟨o', (hs.2 b (Nat.ne_of_lt (Nat.lt_of_lt_of_le (Heap.lt_size e) I.ok.above))).trans e1⟩
    · by_cases hj : j = i
      · subst hj
        rw [hi] at e1; cases e1
        rw [List.getElem?_set_self hiσ] at e2
        cases e2
        exact ⟨u, r, .inl ⟨hk, by simp⟩⟩
      · rw [List.getElem?_set_ne (Ne.symm hj)] at e2
        obtain ⟨u', r', q⟩ := hl j y v' e1 e2 e3
        refine ⟨u', r', ?_⟩
        rcases q with ⟨k, e⟩ | ⟨k, c, e, z⟩
        · refine .inl ⟨k, ?_⟩
          have : y ≠ x := fun e => hj (nodup_ix hN e1 (e ▸ hi))
          simp [this, e]
        · exact .inr ⟨k, c, e, z.sameBut hs (cne y c e)⟩
    · obtain ⟨w', z⟩ := I.cell y c e
      exact ⟨w', z.sameBut hs (cne y c e)⟩
    · obtain ⟨e, n, ne, nf, d⟩ := I.pin p hp
      exact ⟨(hs.2 p.1 ne).trans e, n, ne, nf, d⟩
  · have hfn : X.fn x = true := by
      rcases hf with z | z
      · exact z
      · rw [z] at hk; cases hk
    obtain ⟨c, hc⟩ := I.ok.has x (.inl hk)
    obtain ⟨w', z⟩ := I.cell x c hc
    refine wpAny_storeName_cell I.ok.kind hk hc z (fun h' hc' hs => ?_)
    obtain ⟨oc, hoc, hocd⟩ := id z
    refine h { s with heap := h' } ⟨I.ok, I.os, I.bare, ⟨fun b o e n hb hx => ?_, fun b o e n hb hx => ?_, I.base.free, fun b o e hx => ?_, I.base.tups, I.base.frzs, I.base.tbls⟩, ⟨m, hn.sameBut hs (Ne.symm (cne x c hc)), fun j y v' e1 e2 e3 => ?_⟩, fun y c' e => ?_, I.free, I.freeC, fun p hp => ?_, tracked ⟨oc, hoc, I.freeC x c hc⟩ hs, by simpa using I.len⟩ ⟨c, hs, .inr hc⟩
    · exact (hs.2 b (Nat.ne_of_lt (Nat.lt_of_lt_of_le (Heap.lt_size e) (I.ok.cab x c hfn hc)))).trans (I.base.keep b o e n hb hx)
    · obtain ⟨sl, e1⟩ := I.base.slot b o e n hb hx
      exact ⟨sl, (hs.2 b (Nat.ne_of_lt (Nat.lt_of_lt_of_le (Heap.lt_size e) (I.ok.cab x c hfn hc)))).trans e1⟩
    · obtain ⟨o', e1⟩ := I.base.there b o e hx
      exact ⟨o', (hs.2 b (Nat.ne_of_lt (Nat.lt_of_lt_of_le (Heap.lt_size e) (I.ok.cab x c hfn hc)))).trans e1⟩
    · by_cases hj : j = i
      · subst hj
        rw [hi] at e1; cases e1
        rw [List.getElem?_set_self hiσ] at e2
        cases e2
        exact ⟨u, r, .inr ⟨.inl hk, c, hc, hc'⟩⟩
      · rw [List.getElem?_set_ne (Ne.symm hj)] at e2
        obtain ⟨u', r', q⟩ := hl j y v' e1 e2 e3
        refine ⟨u', r', ?_⟩
        rcases q with q | ⟨k, c', e, z'⟩
        · exact .inl q
        · refine .inr ⟨k, c', e, z'.sameBut hs ?_⟩
          rintro rfl
          exact hj (nodup_ix hN e1 (I.ok.inj _ _ _ e hc ▸ hi))
    · by_cases hcc : c' = c
      · subst hcc; exact ⟨_, hc'⟩
      · obtain ⟨w2, z2⟩ := I.cell y c' e
        exact ⟨w2, z2.sameBut hs hcc⟩
    · obtain ⟨e, n, ne, nf, d⟩ := I.pin p hp
      refine ⟨(hs.2 p.1 ?_).trans e, n, ne, nf, d⟩
      intro q
      rw [q, hoc] at e
      have q' : oc = p.2 := Option.some.inj e
      exact d w' (by rw [← q']; exact hocd)
theorem store_ok {M : Model} {A : Around} {E : Value → Shared → Prop} {i : Nat} {x : Str} {v : V} {u : Value} {Q : Unit → Shared → Prop} (I : Inv X pins σ H s) (hN : X.N.Nodup) (hi : X.N[i]? = some x) (hx : Loc X.env.scope x) (r : RelV v u)
    (h : ∀ s', Inv X pins (σ.set i (some v)) H s' → Q () s') (hf : X.fn x = true ∨ X.env.scope.names.lookup x = some .local := by first | exact .inl rfl | exact .inr rfl | assumption) : wpAny M A (storeName X.env x u) Q E s :=
  store_ok2 I hN hi hx r (fun s' I' _ => h s' I') hf
theorem Inv.call' {s' : Shared} {ch : List Addr} (I : Inv X pins σ H s) (ho : s'.os = s.os) (u : Un (frs X.stack) ch H H' s.heap s'.heap) (hok : HOk X.prog X.w H' s'.heap) (hg : AllBare s'.gens)
    (hch : ∀ b ∈ ch, (b ∈ X.ex ∨ X.s₀.heap.objs.size ≤ b) ∧ b ≠ X.env.locals ∧ (∀ x c, X.env.cells.lookup x = some c → c ≠ b) ∧ ∀ p ∈ X.pn ++ pins, p.1 ≠ b) : Inv X pins σ H' s' := by
  obtain ⟨h', g', d', t', o'⟩ := s'
  have e : o' = s.os := ho
  subst e
  exact I.call (g' := g') (t' := t') (d' := d') u hok hg hch
end
noncomputable abbrev XK := Value → Option Addr → Hp → Prop
noncomputable abbrev St := List (Option V)
noncomputable abbrev VK := V → Hp → Prop
noncomputable abbrev TE := St → Hp → VK → Prop
noncomputable abbrev TT := St → Hp → (Bool → Hp → Prop) → Prop
noncomputable abbrev TA := St → Hp → (List V → Hp → Prop) → Prop
structure Ends where
  nx : St → Hp → Prop
  rt : VK
  bk : St → Hp → Prop := fun _ _ => False
  ct : St → Hp → Prop := fun _ _ => False
noncomputable abbrev TS := Ends → St → Hp → Prop
noncomputable def EP (X : Cx) (pins : List (Addr × Obj)) (σ : St) (Q : VK) (u : Value) (s' : Shared) : Prop := ∃ v H', Inv X pins σ H' s' ∧ RelV v u ∧ Q v H'
noncomputable def TP (X : Cx) (pins : List (Addr × Obj)) (σ : St) (Q : Bool → Hp → Prop) (b : Bool) (s' : Shared) : Prop := ∃ H', Inv X pins σ H' s' ∧ Q b H'
noncomputable def AP (X : Cx) (pins : List (Addr × Obj)) (σ : St) (Q : List V → Hp → Prop) (us : List Value) (s' : Shared) : Prop := ∃ vs H', Inv X pins σ H' s' ∧ Vals vs us ∧ Q vs H'
noncomputable def SP (X : Cx) (pins : List (Addr × Obj)) (D : Ends) (f : Flow) (s' : Shared) : Prop :=
  match f with
  | .next => ∃ σ' H', Inv X pins σ' H' s' ∧ D.nx σ' H'
  | .brk => ∃ σ' H', Inv X pins σ' H' s' ∧ D.bk σ' H'
  | .cont => ∃ σ' H', Inv X pins σ' H' s' ∧ D.ct σ' H'
  | .ret u => ∃ v σ' H', Inv X pins σ' H' s' ∧ RelV v u ∧ D.rt v H'
noncomputable def PE (X : Cx) (e : Expr) (t : TE) : Prop :=
  ∀ (pins : List (Addr × Obj)) (s : Shared) (σ : St) (H : Hp) (Q : VK), Inv X pins σ H s → t σ H Q → wpAny (model X.prog X.w) X.A (eval e X.env) (EP X pins σ Q) X.xe s
noncomputable def PT (X : Cx) (e : Expr) (t : TT) : Prop :=
  ∀ (pins : List (Addr × Obj)) (s : Shared) (σ : St) (H : Hp) (Q : Bool → Hp → Prop), Inv X pins σ H s → t σ H Q → wpAny (model X.prog X.w) X.A (isTrue e X.env (eval e X.env)) (TP X pins σ Q) X.xe s
noncomputable def PW (X : Cx) (e : Expr) (t : TT) : Prop :=
  ∀ (whole : Sem Value) (pins : List (Addr × Obj)) (s : Shared) (σ : St) (H : Hp) (Q : Bool → Hp → Prop), Inv X pins σ H s → t σ H Q → wpAny (model X.prog X.w) X.A (isTrue e X.env whole) (TP X pins σ Q) X.xe s
theorem PW.pt {X : Cx} {e : Expr} {t : TT} (h : PW X e t) : PT X e t := h _
noncomputable def PA (X : Cx) (es : List Expr) (t : TA) : Prop :=
  ∀ (pos : Pos) (pins : List (Addr × Obj)) (s : Shared) (σ : St) (H : Hp) (Q : List V → Hp → Prop), Inv X pins σ H s → t σ H Q → wpAny (model X.prog X.w) X.A (spliced (backTo pos (starEach es X.env))) (AP X pins σ Q) X.xe s
noncomputable def PS (X : Cx) (st : Stmt) (t : TS) : Prop :=
  ∀ (pins : List (Addr × Obj)) (s : Shared) (σ : St) (H : Hp) (D : Ends), Inv X pins σ H s → t D σ H → wpAny (model X.prog X.w) X.A (exec st X.env) (SP X pins D) X.xe s
noncomputable def PSs (X : Cx) (st : List Stmt) (t : TS) : Prop :=
  ∀ (pins : List (Addr × Obj)) (s : Shared) (σ : St) (H : Hp) (D : Ends), Inv X pins σ H s → t D σ H → wpAny (model X.prog X.w) X.A (execs st X.env) (SP X pins D) X.xe s
theorem thn {α : Type} {t : Sem α} {Q Q' : α → Shared → Prop} {M : Model} {A : Around} {E : Value → Shared → Prop} {s : Shared} (h : wpAny M A t Q E s) (hQ : ∀ a s, Q a s → Q' a s) : wpAny M A t Q' E s := wpAny_mono h hQ fun _ _ x => x
end L2
namespace L2
open PySem PySem.Spec PyProof.Rows
section
variable {X : Cx}
noncomputable def tVar (i : Nat) : TE := fun σ H Q => ∃ v, σ[i]? = some (some v) ∧ Q v H
noncomputable def tC (v : V) : TE := fun _ H Q => Q v H
theorem pe_var {i : Nat} {x : Str} {pos : Pos} (hN : X.N[i]? = some x) (hv : Vis X.env.scope x) (hd : autoParam ((x == ("__debug__" : Str)) = false) L2.aD._auto_1) (hcd : autoParam ((x == ("__classdict__" : Str)) = false) L2.aD._auto_1) : PE X (.Name x pos) (tVar i) := by
  intro pins s σ H Q I h
  obtain ⟨v, e, h⟩ := h
  obtain ⟨m, hn, hl⟩ := I.loc
  obtain ⟨u, r, l⟩ := hl i x v hN e hv
  have fin : EP X pins σ Q u s := ⟨v, H, I, r, h⟩
  rcases l with ⟨hk, hm⟩ | ⟨hk, c, hc, hcell⟩
  · exact wpAny_Name (wpAny_loadName_local I.ok.kind hk hn hm fin) hd
  · rcases hk with hk | hk
    · exact wpAny_Name (wpAny_loadName_cell I.ok.kind hk hc hcell fin) hd
    · exact wpAny_Name (wpAny_loadName_free I.ok.kind hk hc hcell fin hcd) hd
theorem pe_int {i j pos} : PE X (.Constant (.int i) j pos) (tC (.int i)) := fun _ _ _ H _ I h => wpAny_Constant_int ⟨.int i, H, I.tok _, ⟨_, rfl⟩, h⟩
theorem pe_bl {b j pos} : PE X (.Constant (.bool b) j pos) (tC (.bl b)) := fun _ _ _ H _ I h => Constant_bool ⟨.bl b, H, I, rfl, h⟩
theorem pe_non {j pos} : PE X (.Constant .none j pos) (tC .non) := fun _ _ _ H _ I h => Constant_none ⟨.non, H, I, rfl, h⟩
theorem pe_str {x j pos} : PE X (.Constant (.str x) j pos) (tC (.str x)) := fun _ _ _ H _ I h => Calls.Constant_str ⟨.str x, H, I.tok _, ⟨_, rfl⟩, h⟩
noncomputable def Gl (X : Cx) (x : Str) : Prop := X.env.kindOf x = some .globalImplicit
theorem ld_glob {E : Value → Shared → Prop} {pins : List (Addr × Obj)} {s : Shared} {σ : St} {H : Hp} {x : Str} {u : Value} {pos : Pos} {Q : Value → Shared → Prop} (I : Inv X pins σ H s) (hg : Gl X x) (hm : X.mg x = some u) (h : Q u s)
    (hd : autoParam ((x == ("__debug__" : Str)) = false) L2.aD._auto_1) : wpAny (model X.prog X.w) X.A (eval (.Name x pos) X.env) Q E s :=
  Calls.Name_function_global I.ok.kind hg (Calls.loadGlobal_global (by rw [I.ok.glob]; exact I.mod.glob.keeps I.bk) hm h) hd
theorem ld_blt {E : Value → Shared → Prop} {pins : List (Addr × Obj)} {s : Shared} {σ : St} {H : Hp} {x : Str} {u : Value} {pos : Pos} {Q : Value → Shared → Prop} (I : Inv X pins σ H s) (hg : Gl X x) (hm : X.mg x = none) (hv : bootBuiltins x = some u) (h : Q u s)
    (hn : autoParam (x ≠ "__name__") L2.aD._auto_1) (hd : autoParam ((x == ("__debug__" : Str)) = false) L2.aD._auto_1) : wpAny (model X.prog X.w) X.A (eval (.Name x pos) X.env) Q E s := by
  obtain ⟨mb, h1, h2⟩ := I.mod.blt
  exact Calls.Name_function_global I.ok.kind hg (Calls.loadGlobal_builtin (by rw [I.ok.glob]; exact I.mod.glob.keeps I.bk) hm (by rw [I.ok.blt]; exact h1.keeps I.bk) ((h2 x hn).trans hv) h) hd
theorem pe_glob {x : Str} {v : V} {u : Value} {pos : Pos} (hg : Gl X x) (hm : X.mg x = some u) (r : RelV v u) (hd : autoParam ((x == ("__debug__" : Str)) = false) L2.aD._auto_1) : PE X (.Name x pos) (tC v) :=
  fun _ _ _ H _ I h => ld_glob I hg hm ⟨v, H, I, r, h⟩ hd
theorem pe_bltn {x : Str} {v : V} {u : Value} {pos : Pos} (hg : Gl X x) (hm : X.mg x = none) (hv : bootBuiltins x = some u) (r : RelV v u) (hn : autoParam (x ≠ "__name__") L2.aD._auto_1) (hd : autoParam ((x == ("__debug__" : Str)) = false) L2.aD._auto_1) : PE X (.Name x pos) (tC v) :=
  fun _ _ _ H _ I h => ld_blt I hg hm hv ⟨v, H, I, r, h⟩ hn hd
variable {a b : Expr} {ta tb : TE} {pos : Pos}
noncomputable def tB (t : TE) : TT := fun σ H Q => t σ H fun x H1 => ∃ c, x = .bl c ∧ Q c H1
theorem pt_val {e : Expr} {t : TE} (h : PE X e t) (he : ∀ whole, isTrue e X.env whole = (do let v ← whole; standAt e.pos; holding [v] (truthy v)) := by intro _; rfl) : PT X e (tB t) := by
  intro pins s σ H Q I hw
  refine isTrue_plain (thn (h pins s σ H _ I hw) fun v s1 zq => L2.el5 zq fun x H1 I1 r1 q1 => ?_) (he _)
  obtain ⟨d, rfl, q⟩ := q1
  cases r1
  exact wpAny_truthy_bool ⟨H1, I1, q⟩
variable {tA tB' : TT} {rest : List Expr}
noncomputable def tAnd (t u : TT) : TT := fun σ H Q => t σ H fun c H1 => if c = true then u σ H1 Q else Q false H1
noncomputable def tOr (t u : TT) : TT := fun σ H Q => t σ H fun c H1 => if c = true then Q true H1 else u σ H1 Q
noncomputable def tNot (t : TT) : TT := fun σ H Q => t σ H fun c H1 => Q (!c) H1
theorem pw_and1 (ha : PT X a tA) : PW X (.BoolOp .And [a] pos) tA := by
  intro wh pins s σ H Q I h
  refine isTrue_and (thn (ha pins s σ H Q I h) fun c s1 e => ?_)
  cases c with
  | true => exact isTrue_and_nil e
  | false => exact e
theorem pw_or1 (ha : PT X a tA) : PW X (.BoolOp .Or [a] pos) tA := by
  intro wh pins s σ H Q I h
  refine isTrue_or (thn (ha pins s σ H Q I h) fun c s1 e => ?_)
  cases c with
  | false => exact isTrue_or_nil e
  | true => exact e
theorem pw_and (ha : PT X a tA) (hb : PW X (.BoolOp .And (b :: rest) pos) tB') : PW X (.BoolOp .And (a :: b :: rest) pos) (tAnd tA tB') := by
  intro wh pins s σ H Q I h
  refine isTrue_and (thn (ha pins s σ H _ I h) fun c s1 zq => L2.el3 zq fun H1 I1 q1 => ?_)
  cases c with
  | true => exact hb wh pins s1 σ H1 Q I1 q1
  | false => exact ⟨H1, I1, q1⟩
theorem pw_or (ha : PT X a tA) (hb : PW X (.BoolOp .Or (b :: rest) pos) tB') : PW X (.BoolOp .Or (a :: b :: rest) pos) (tOr tA tB') := by
  intro wh pins s σ H Q I h
  refine isTrue_or (thn (ha pins s σ H _ I h) fun c s1 zq => L2.el3 zq fun H1 I1 q1 => ?_)
  cases c with
  | true => exact ⟨H1, I1, q1⟩
  | false => exact hb wh pins s1 σ H1 Q I1 q1
theorem pt_not (ha : PT X a tA) : PT X (.UnaryOp .Not a pos) (tNot tA) := by
  intro pins s σ H Q I h
  exact isTrue_not (ha pins s σ H (fun c H1 => Q (!c) H1) I h)
noncomputable def tAndV (ta tb : TE) : TE := fun σ H Q => ta σ H fun x H1 => ∃ c, x = .bl c ∧ if c = true then tb σ H1 Q else Q (.bl false) H1
noncomputable def tNotV (ta : TE) : TE := fun σ H Q => ta σ H fun x H1 => ∃ c, x = .bl c ∧ Q (.bl (!c)) H1
theorem pe_one {op} {t : TE} (h : PE X a t) : PE X (.BoolOp op [a] pos) t := fun pins s σ H Q I hw => BoolOp_one (h pins s σ H Q I hw)
theorem pe_and (ha : PE X a ta) (hb : PE X (.BoolOp .And (b :: rest) pos) tb) : PE X (.BoolOp .And (a :: b :: rest) pos) (tAndV ta tb) := by
  intro pins s σ H Q I h
  refine BoolOp_and (thn (ha pins s σ H _ I h) fun v s1 zq => L2.el5 zq fun x H1 I1 r1 q1 => ?_)
  obtain ⟨c, rfl, q1⟩ := q1
  cases r1
  refine wpAny_truthy_bool ?_
  cases c with
  | true => exact hb pins s1 σ H1 Q I1 q1
  | false => exact ⟨.bl false, H1, I1, rfl, q1⟩
theorem pe_not (ha : PE X a ta) : PE X (.UnaryOp .Not a pos) (tNotV ta) := by
  intro pins s σ H Q I h
  refine UnaryOp_ (thn (ha pins s σ H _ I h) fun v s1 zq => L2.el5 zq fun x H1 I1 r1 q1 => ?_)
  obtain ⟨c, rfl, q1⟩ := q1
  cases r1
  exact not_of (wpAny_truthy_bool ⟨.bl (!c), H1, I1, rfl, q1⟩)
end
end L2
namespace L2
open PySem PySem.Spec PyProof.Rows
noncomputable def SqL (K : PySem.W.Frag) (H : Hp) (a : Addr) (xs : List V) : Prop :=
  Rd H a (.lst xs) ∨
    ∃ (o : Obj) (its : Array Value) (n : Nat), K.lookup a = some o ∧ o.cls = .type "list" ∧ o.dict = none ∧ o.data = .seq its n ∧ its.size ≤ sizeLine ∧ Vals xs its.toList
noncomputable def SqT (K : PySem.W.Frag) (H : Hp) (a : Addr) (xs : List V) : Prop :=
  Rd H a (.tup xs) ∨
    ∃ (o : Obj) (its : Array Value) (n : Nat), K.lookup a = some o ∧ o.cls = .type "tuple" ∧ o.data = .seq its n ∧ its.size ≤ sizeLine ∧ Vals xs its.toList
noncomputable def absV : Value → Option V
  | .none => some .non
  | .bool b => some (.bl b)
  | .int i _ => some (.int i)
  | .str x _ => some (.str x)
  | .bytes b _ => some (.byt b)
  | .float b _ => some (.flt b)
  | .ref a => some (.ref a)
  | .type n => some (.ty n)
  | _ => none
theorem RelV.abs {x : V} {u : Value} (r : RelV x u) : absV u = some x := by
  cases x with
  | non => cases r; rfl
  | bl _ => cases r; rfl
  | int _ => obtain ⟨t, rfl⟩ := r; rfl
  | str _ => obtain ⟨t, rfl⟩ := r; rfl
  | byt _ => obtain ⟨t, rfl⟩ := r; rfl
  | flt _ => obtain ⟨t, rfl⟩ := r; rfl
  | ref _ => cases r; rfl
  | ty _ => cases r; rfl
theorem RelV.inj {x y : V} {u : Value} (r : RelV x u) (q : RelV y u) : x = y := Option.some.inj (r.abs.symm.trans q.abs)
theorem Vals.inj : ∀ {xs ys : List V} {us : List Value}, Vals xs us → Vals ys us → xs = ys
  | _, _, _, .nil, .nil => rfl
  | _, _, _, .cons r t, .cons r' t' => by rw [r.inj r', Vals.inj t t']
section
variable {X : Cx} {pins : List (Addr × Obj)} {σ : St} {H : Hp} {s : Shared} {a : Addr} {xs ys : List V}
theorem SqL.of {K : PySem.W.Frag} (h : H a = some (.lst xs)) : SqL K H a xs := .inl (.inl h)
theorem SqT.of {K : PySem.W.Frag} (h : H a = some (.tup xs)) : SqT K H a xs := .inl (.inl h)
theorem Inv.list (I : Inv X pins σ H s) (h : SqL X.K H a xs) : ∃ its : List Value, Vals xs its ∧ PlainL s.heap a its.toArray ∧ xs.length ≤ sizeLine := by
  rcases h with h | ⟨o, its, n, hk, hc, hd, hs, hz, r⟩
  · obtain ⟨z, its, n, r, e⟩ := h.ok I.hok
    exact ⟨its, r, ⟨_, n, e, rfl, rfl, rfl⟩, z⟩
  · refine ⟨its.toList, r, ⟨o, n, I.kIn a o hk, hc, hd, by simpa using hs⟩, ?_⟩
    have e := r.length
    simp only [Array.length_toList] at e
    (first|lia|omega)
theorem Inv.tuple (I : Inv X pins σ H s) (h : SqT X.K H a xs) : ∃ its : List Value, Vals xs its ∧ IsTup s.heap a its.toArray ∧ xs.length ≤ sizeLine := by
  rcases h with h | ⟨o, its, n, hk, hc, hs, hz, r⟩
  · obtain ⟨z, its, r, p⟩ := h.ok I.hok
    exact ⟨its, r, p, z⟩
  · refine ⟨its.toList, r, ⟨o, I.kIn a o hk, hc, n, by simpa using hs⟩, ?_⟩
    have e := r.length
    simp only [Array.length_toList] at e
    (first|lia|omega)
theorem Inv.list_inj (I : Inv X pins σ H s) (h : SqL X.K H a xs) (h' : SqL X.K H a ys) : xs = ys := by
  obtain ⟨its, r, ⟨o, n, e, _, _, d⟩, _⟩ := I.list h
  obtain ⟨its', r', ⟨o', n', e', _, _, d'⟩, _⟩ := I.list h'
  rw [e] at e'; cases e'
  rw [d] at d'
  injection d' with d1 _
  have : its = its' := by simpa using congrArg Array.toList d1
  subst this
  exact r.inj r'
theorem Inv.tuple_inj (I : Inv X pins σ H s) (h : SqT X.K H a xs) (h' : SqT X.K H a ys) : xs = ys := by
  obtain ⟨its, r, ⟨o, e, _, n, d⟩, _⟩ := I.tuple h
  obtain ⟨its', r', ⟨o', e', _, n', d'⟩, _⟩ := I.tuple h'
  rw [e] at e'; cases e'
  rw [d] at d'
  injection d' with d1 _
  have : its = its' := by simpa using congrArg Array.toList d1
  subst this
  exact r.inj r'
end
section
variable {X : Cx} {pins : List (Addr × Obj)} {σ : St} {H : Hp} {s : Shared} {E : Value → Shared → Prop}
end
section
variable {X : Cx} {st : Stmt} {rest : List Stmt} {t u : TS} {e : Expr} {te : TE} {pos : Pos}
noncomputable def tNext : TS := fun D σ H => D.nx σ H
noncomputable def tSeq (t u : TS) : TS := fun D σ H => t { D with nx := u D } σ H
theorem pss_nil : PSs X [] tNext := fun _ _ σ H _ I h => wpAny_execs_nil ⟨σ, H, I, h⟩
theorem pss_cons (h1 : PS X st t) (h2 : PSs X rest u) : PSs X (st :: rest) (tSeq t u) := by
  intro pins s σ H D I h
  refine wpAny_execs_cons (thn (h1 pins s σ H { D with nx := u D } I h) fun f s1 q => ?_)
  cases f with
  | next =>
    obtain ⟨σ', H', I', q⟩ := q
    exact h2 pins s1 σ' H' D I' q
  | ret v => exact q
  | brk => exact q
  | cont => exact q
theorem pss_one (h1 : PS X st t) : PSs X [st] t := by
  intro pins s σ H D I h
  refine wpAny_execs_cons (thn (h1 pins s σ H D I h) fun f s1 q => ?_)
  cases f with
  | next => exact wpAny_execs_nil q
  | ret v => exact q
  | brk => exact q
  | cont => exact q
theorem Inv.quiet {pins : List (Addr × Obj)} {σ : St} {H : Hp} {s : Shared} (I : Inv X pins σ H s) : interactive X.env = false := by simp [interactive, I.ok.kind]
noncomputable def tDrop (te : TE) : TS := fun D σ H => te σ H fun _ H1 => D.nx σ H1
theorem ps_expr (he : PE X e te) (hs : autoParam (swapsWith e none pos.line X.env = pure false) L2.aR._auto_1) : PS X (.Expr e pos) (tDrop te) := by
  intro pins s σ H D I h
  exact wpAny_Expr_any (thn (he pins s σ H _ I h) fun v s1 zq => L2.el5 zq fun x H1 I1 r1 q1 => ⟨σ, H1, I1, q1⟩) I.quiet hs
noncomputable def tRet (te : TE) : TS := fun D σ H => te σ H D.rt
theorem ps_ret (he : PE X e te) : PS X (.Return (some e) pos) (tRet te) := by
  intro pins s σ H D I h
  exact wpAny_Return_some (thn (he pins s σ H _ I h) fun v s1 zq => L2.el5 zq fun x H1 I1 r1 q1 => ⟨x, σ, H1, I1, r1, q1⟩)
noncomputable def tIfS (c : TT) (t u : TS) : TS := fun D σ H => c σ H fun b H1 => if b = true then t D σ H1 else u D σ H1
theorem ps_if {c : Expr} {a b : List Stmt} {tc : TT} (hc : PT X c tc) (ha : PSs X a t) (hb : PSs X b u) : PS X (.If c a b pos) (tIfS tc t u) := by
  intro pins s σ H D I h
  refine wpAny_If (thn (hc pins s σ H _ I h) fun d s1 zq => L2.el3 zq fun H1 I1 q1 => ?_)
  cases d with
  | true => exact ha pins s1 σ H1 D I1 q1
  | false => exact hb pins s1 σ H1 D I1 q1
end
noncomputable abbrev TG := V → St → Hp → (St → Hp → Prop) → Prop
noncomputable abbrev TGs := List V → St → Hp → (St → Hp → Prop) → Prop
noncomputable def PG (X : Cx) (target : Expr) (t : TG) : Prop :=
  ∀ (pins : List (Addr × Obj)) (s : Shared) (σ : St) (H : Hp) (v : V) (u : Value) (Q : St → Hp → Prop), Inv X pins σ H s → RelV v u → t v σ H Q →
    wpAny (model X.prog X.w) X.A (assign target X.env u) (fun _ s' => ∃ σ' H', Inv X pins σ' H' s' ∧ Q σ' H') X.xe s
noncomputable def PGs (X : Cx) (ts : List Expr) (t : TGs) : Prop :=
  ∀ (pins : List (Addr × Obj)) (s : Shared) (σ : St) (H : Hp) (vs : List V) (us : List Value) (Q : St → Hp → Prop), Inv X pins σ H s → Vals vs us → t vs σ H Q →
    wpAny (model X.prog X.w) X.A (assignInOrder ((assignEach ts X.env).map (·.2)) us) (fun _ s' => ∃ σ' H', Inv X pins σ' H' s' ∧ Q σ' H') X.xe s
section
variable {X : Cx} {pos : Pos}
noncomputable def gName (i : Nat) : TG := fun v σ H Q => Q (σ.set i (some v)) H
theorem pg_name {i : Nat} {x : Str} (hN : X.N.Nodup) (hi : X.N[i]? = some x) (hx : Loc X.env.scope x) (hf : X.fn x = true ∨ X.env.scope.names.lookup x = some .local := by first | exact .inl rfl | exact .inr rfl | assumption) : PG X (.Name x pos) (gName i) := by
  intro pins s σ H v u Q I r h
  exact wpAny_assign_Name (store_ok I hN hi hx r (fun s' I' => ⟨_, H, I', h⟩) hf)
noncomputable def gNil : TGs := fun vs σ H Q => vs = [] ∧ Q σ H
noncomputable def gCons (t : TG) (u : TGs) : TGs := fun vs σ H Q => ∃ v r, vs = v :: r ∧ t v σ H fun σ' H' => u r σ' H' Q
theorem pgs_nil : PGs X [] gNil := by
  intro pins s σ H vs us Q I r h
  obtain ⟨e, h⟩ := h
  subst e
  cases r
  exact assignInOrder_nil ⟨σ, H, I, h⟩
theorem pgs_cons {e : Expr} {es : List Expr} {t : TG} {u : TGs} (h1 : PG X e t) (h2 : PGs X es u)
    (hs : autoParam ((assignEach (e :: es) X.env).map (·.2) = assign e X.env :: (assignEach es X.env).map (·.2)) L2.aR._auto_1) : PGs X (e :: es) (gCons t u) := by
  intro pins s σ H vs us Q I r h
  obtain ⟨v, vr, e1, h⟩ := h
  subst e1
  cases r with
  | cons r rr =>
    rw [hs]
    refine assignInOrder_cons (thn (h1 pins s σ H _ _ _ I r h) fun _ s1 zq => L2.el4 zq fun σ1 H1 I1 q1 => ?_)
    exact h2 pins s1 σ1 H1 _ _ Q I1 rr q1
noncomputable def gTup (K : PySem.W.Frag) (n : Nat) (t : TGs) : TG := fun v σ H Q => ∃ a xs, v = .ref a ∧ SqT K H a xs ∧ xs.length = n ∧ t xs σ H Q
theorem pg_tup {es : List Expr} {k : Nat} {t : TGs} {n : Nat} (hc : X.calm = true) (h : PGs X es t)
    (hn : autoParam ((assignEach es X.env).length = n) L2.aR._auto_1) (hst : autoParam ((assignEach es X.env).findIdx? (·.1) = none) L2.aR._auto_1) : PG X (.Tuple es k pos) (gTup X.K n t) := by
  intro pins s σ H v u Q I r hw
  obtain ⟨a, xs, e1, hq, hl, hw⟩ := hw
  subst e1
  cases r
  obtain ⟨its, rv, ht, hz⟩ := I.tuple hq
  refine assign_Tuple_tuple (I.ok.hd hc) ht (by simp [hn, ← hl, rv.length]) hst fun h' hx => ?_
  have I1 : Inv X pins σ H { s with heap := h' } := I.kept (t' := s.toks) fun b o e => hx b o (Nat.ne_of_lt (Heap.lt_size e)) e
  exact h pins _ σ H xs _ Q I1 (by simpa using rv) hw
noncomputable def tAsg (te : TE) (g : TG) : TS := fun D σ H => te σ H fun x H1 => g x σ H1 D.nx
theorem ps_asg {tg e : Expr} {te : TE} {g : TG} (he : PE X e te) (hg : PG X tg g) (hs : autoParam (swapsWithSole [tg] e pos.line X.env = pure false) L2.aR._auto_1) (hw : autoParam (swappedStores [tg] e X.env = pure none) L2.aR._auto_1)
    (h1 : autoParam ((assignEach [tg] X.env).map (·.2) = [assign tg X.env]) L2.aR._auto_1) : PS X (.Assign [tg] e pos) (tAsg te g) := by
  intro pins s σ H D I h
  refine wpAny_Assign_stores (thn (he pins s σ H _ I h) fun v s1 zq => L2.el5 zq fun x H1 I1 r1 q1 => ?_) hs hw
  rw [h1]
  exact thn (hg pins s1 σ H1 x v _ I1 r1 q1) fun _ s2 q => q
theorem ps_set {i : Nat} {x : Str} {e : Expr} {te : TE} {pos' : Pos} (hN : X.N.Nodup) (hi : X.N[i]? = some x) (hx : Loc X.env.scope x) (he : PE X e te) (hs : autoParam (swapsWith e (some (.Name x pos')) pos.line X.env = pure false) L2.aR._auto_1) (hf : X.fn x = true ∨ X.env.scope.names.lookup x = some .local := by first | exact .inl rfl | exact .inr rfl | assumption) :
    PS X (.Assign [.Name x pos'] e pos) (tAsg te (gName i)) := by
  intro pins s σ H D I h
  refine wpAny_Assign_Name (thn (he pins s σ H _ I h) fun v s1 zq => L2.el5 zq fun y H1 I1 r1 q1 => ?_) hs
  exact store_ok I1 hN hi hx r1 (fun s2 I2 => ⟨_, H1, I2, q1⟩) hf
end
section
variable {X : Cx} {pos : Pos}
end
structure It where
  go : Nat → Hp → Prop
  yld : Nat → Hp → V → Hp → Prop
  stop : Nat → Hp → Prop
noncomputable def FpOk (X : Cx) (pins : List (Addr × Obj)) (H : Hp) (b : Addr) : Prop :=
  H b = none ∧ b ≠ X.env.locals ∧ b ∉ X.fs ∧ (b ∈ X.ex ∨ X.s₀.heap.objs.size ≤ b) ∧ (∀ x c, X.env.cells.lookup x = some c → c ≠ b) ∧ ∀ p ∈ X.pn ++ pins, p.1 ≠ b
theorem Inv.fpOk {X : Cx} {pins : List (Addr × Obj)} {σ : St} {H H' : Hp} {s : Shared} {b : Addr} (I : Inv X pins σ H s) (hb : s.heap.objs.size ≤ b) (hn : H' b = none) : FpOk X pins H' b := by
  refine ⟨hn, Nat.ne_of_gt (Nat.lt_of_lt_of_le I.lt hb), I.nofs hb, .inr (Nat.le_trans I.sz hb), fun x c e z => ?_, fun p hp z => ?_⟩
  · obtain ⟨v, q⟩ := I.cell x c e
    exact absurd (Nat.lt_of_lt_of_le q.lt (by rw [z]; exact hb)) (Nat.lt_irrefl _)
  · exact absurd (Nat.lt_of_lt_of_le (Heap.lt_size (I.pin p hp).1) (by rw [z]; exact hb)) (Nat.lt_irrefl _)
structure Turn (P : Program) (w : World) (K : PySem.W.Frag) (tg : Expr) (J : It) (fp : List Addr) (it : Addr) (tn : Nat → Heap → Prop) : Prop where
  mem : it ∈ fp
  obj : ∀ i h, tn i h → ∀ b ∈ fp, ∃ o, h.get? b = some o ∧ ∀ v, o.data ≠ .cell v
  keep : ∀ i h h', tn i h → (∀ b ∈ fp, ∀ o, h.get? b = some o → h'.get? b = some o) → tn i h'
  item : ∀ (X : Cx), X.prog = P → X.w = w → X.K = K → X.calm = true → ∀ (i : Nat) (pins : List (Addr × Obj)) (s : Shared) (σ : St) (H : Hp) (E : Value → Shared → Prop), Inv X pins σ H s → (∀ b ∈ fp, FpOk X pins H b) → tn i s.heap → J.go i H →
    wpAny (model P w) X.A (pyNext (.ref it)) (fun r s1 => ∃ u, r = some u ∧
      wpAny (model P w) X.A (letOwnedTupleGo tg (.ref it) u) (fun _ s2 => ∃ x H', Inv X pins σ H' s2 ∧ RelV x u ∧ J.yld i H x H' ∧ tn (i + 1) s2.heap ∧ ∀ b ∈ fp, H' b = none) E s1) E s
  done : ∀ (X : Cx), X.prog = P → X.w = w → X.K = K → X.calm = true → ∀ (i : Nat) (pins : List (Addr × Obj)) (s : Shared) (σ : St) (H : Hp) (E : Value → Shared → Prop), Inv X pins σ H s → (∀ b ∈ fp, FpOk X pins H b) → tn i s.heap → J.stop i H →
    wpAny (model P w) X.A (pyNext (.ref it)) (fun r s1 => r = none ∧ Inv X pins σ H s1) E s
  self : ∀ (A : Around) (i : Nat) (s : Shared) (Q : Value → Shared → Prop) (E : Value → Shared → Prop), tn i s.heap → Q (.ref it) s → wpAny (model P w) A (pyIter (.ref it)) Q E s
noncomputable abbrev TI := St → Hp → (It → Hp → Prop) → Prop
noncomputable def PIE (X : Cx) (pins : List (Addr × Obj)) (σ : St) (tg : Expr) (R : It → Hp → Prop) (itv : Value) (s2 : Shared) : Prop :=
  ∃ (it : Addr) (fp : List Addr) (tn : Nat → Heap → Prop) (J : It) (H' : Hp), itv = .ref it ∧ Inv X pins σ H' s2 ∧ Turn X.prog X.w X.K tg J fp it tn ∧ tn 0 s2.heap ∧ (∀ b ∈ fp, FpOk X pins H' b) ∧ R J H'
noncomputable def PI (X : Cx) (tg iter : Expr) (wi : TI) : Prop :=
  ∀ (pins : List (Addr × Obj)) (s : Shared) (σ : St) (H : Hp) (R : It → Hp → Prop), Inv X pins σ H s → wi σ H R →
    wpAny (model X.prog X.w) X.A (eval iter X.env) (fun v s1 => wpAny (model X.prog X.w) X.A (pyIter v) (PIE X pins σ tg R) X.xe s1) X.xe s
theorem go_of {M : Model} {A : Around} {E : Value → Shared → Prop} {s : Shared} {tg : Expr} {it : Addr} {u : Value} {o : Obj} {n : String} {vs : Array Value} {Q : Unit → Shared → Prop} (ho : s.heap.get? it = some o) (hc : o.cls = .type n) (hd : o.data = .fields vs)
    (hn : ["enumerate", "zip", "dict_itemiterator", "dict_reverseitemiterator", "odict_iterator", "itertools.zip_longest", "itertools.pairwise"].contains n = false) (hQ : Q () s) : wpAny M A (letOwnedTupleGo tg (.ref it) u) Q E s := by
  unfold letOwnedTupleGo
  cases tg <;> first
    | exact wpAny_pure hQ
    | (cases u <;> first
        | exact wpAny_pure hQ
        | (refine wpAny_bind (wpAny_load ho ?_)
           rw [hc, hd]
           show wpAny M A (if (["enumerate", "zip", "dict_itemiterator", "dict_reverseitemiterator", "odict_iterator", "itertools.zip_longest", "itertools.pairwise"].contains n && vs[0]? == some (rawInt _)) = true then _ else _) Q E s
           rw [if_neg (by intro h; rw [hn, Bool.false_and] at h; cases h)]
           exact wpAny_pure hQ))
noncomputable def Itl (K : PySem.W.Frag) (a : Addr) : It :=
  ⟨fun i H => ∃ xs x, SqL K H a xs ∧ xs[i]? = some x, fun i H x H' => H' = H ∧ ∀ xs, SqL K H a xs → xs[i]? = some x, fun i H => ∃ xs, SqL K H a xs ∧ xs.length ≤ i⟩
noncomputable def Itt (K : PySem.W.Frag) (a : Addr) : It :=
  ⟨fun i H => ∃ xs x, SqT K H a xs ∧ xs[i]? = some x, fun i H x H' => H' = H ∧ ∀ xs, SqT K H a xs → xs[i]? = some x, fun i H => ∃ xs, SqT K H a xs ∧ xs.length ≤ i⟩
noncomputable def Itr (lo : Int) (n : Nat) : It := ⟨fun i _ => i < n, fun i H x H' => H' = H ∧ x = .int (lo + i), fun i _ => n ≤ i⟩
theorem turn_list {P : Program} {w : World} {K : PySem.W.Frag} {tg : Expr} (a it : Addr) : Turn P w K tg (Itl K a) [it] it (fun i h => h.IsListIter it a i) where
  mem := by simp
  obj := fun i h st b hb => by
    have e : b = it := by simpa using hb
    subst e
    obtain ⟨o, e, c, d⟩ := st
    exact ⟨o, e, fun v z => by rw [d] at z; cases z⟩
  keep := fun i h h' st k => st.at fun o e => k it (by simp) o e
  item := by
    intro X hP hw hK hc i pins s σ H E I hf st hg
    subst hP hw hK
    obtain ⟨xs, x, hq, hx⟩ := hg
    obtain ⟨its, rv, p, hz⟩ := I.list hq
    obtain ⟨u, hu, ru⟩ := rv.get hx
    obtain ⟨f0, f1, f2, f3, f4, f5⟩ := hf it (by simp)
    refine wpAny_pyNext_list_item st p.isList (x := u) (by simpa using hu) fun h' st' sb => ?_
    have I1 : Inv X pins σ H { s with heap := h' } := I.turned (t' := s.toks) (fun b o hb e => (sb.2 b hb).trans e) f0 f1 f3 f4 f5
    obtain ⟨o, e, c, d⟩ := id st'
    exact ⟨u, rfl, go_of (s := { s with heap := h' }) e c d (by decide) ⟨x, H, I1, ru, ⟨rfl, fun ys hy => by rw [I.list_inj hy hq]; exact hx⟩, st', fun b hb => (hf b hb).1⟩⟩
  done := by
    intro X hP hw hK hc i pins s σ H E I hf st hg
    subst hP hw hK
    obtain ⟨xs, hq, hx⟩ := hg
    obtain ⟨its, rv, p, hz⟩ := I.list hq
    obtain ⟨f0, f1, f2, f3, f4, f5⟩ := hf it (by simp)
    have hl := rv.length
    exact wpAny_pyNext_list_end (I.ok.hd hc) st p.isList (by simp; (first|lia|omega)) fun h' eb => ⟨rfl, I.turned (t' := s.toks) (fun b o hb e => eb b o hb e) f0 f1 f3 f4 f5⟩
  self := fun _ _ _ _ _ st h => wpAny_pyIter_listiter st h
theorem turn_tuple {P : Program} {w : World} {K : PySem.W.Frag} {tg : Expr} (a it : Addr) : Turn P w K tg (Itt K a) [it] it (fun i h => h.IsTupleIter it a i) where
  mem := by simp
  obj := fun i h st b hb => by
    have e : b = it := by simpa using hb
    subst e
    obtain ⟨o, e, c, d⟩ := st
    exact ⟨o, e, fun v z => by rw [d] at z; cases z⟩
  keep := fun i h h' st k => st.at fun o e => k it (by simp) o e
  item := by
    intro X hP hw hK hc i pins s σ H E I hf st hg
    subst hP hw hK
    obtain ⟨xs, x, hq, hx⟩ := hg
    obtain ⟨its, rv, p, hz⟩ := I.tuple hq
    obtain ⟨u, hu, ru⟩ := rv.get hx
    obtain ⟨f0, f1, f2, f3, f4, f5⟩ := hf it (by simp)
    refine wpAny_pyNext_tuple_item st (show s.heap.IsTuple a its.toArray from p) (x := u) (by simpa using hu) fun h' st' sb => ?_
    have I1 : Inv X pins σ H { s with heap := h' } := I.turned (t' := s.toks) (fun b o hb e => (sb.2 b hb).trans e) f0 f1 f3 f4 f5
    obtain ⟨o, e, c, d⟩ := id st'
    exact ⟨u, rfl, go_of (s := { s with heap := h' }) e c d (by decide) ⟨x, H, I1, ru, ⟨rfl, fun ys hy => by rw [I.tuple_inj hy hq]; exact hx⟩, st', fun b hb => (hf b hb).1⟩⟩
  done := by
    intro X hP hw hK hc i pins s σ H E I hf st hg
    subst hP hw hK
    obtain ⟨xs, hq, hx⟩ := hg
    obtain ⟨its, rv, p, hz⟩ := I.tuple hq
    obtain ⟨f0, f1, f2, f3, f4, f5⟩ := hf it (by simp)
    have hl := rv.length
    exact wpAny_pyNext_tuple_end (I.ok.hd hc) st (show s.heap.IsTuple a its.toArray from p) (by simp; (first|lia|omega)) fun h' eb => ⟨rfl, I.turned (t' := s.toks) (fun b o hb e => eb b o hb e) f0 f1 f3 f4 f5⟩
  self := fun _ _ _ _ _ st h => wpAny_pyIter_tupleiter st h
theorem turn_range {P : Program} {w : World} {K : PySem.W.Frag} {tg : Expr} (it : Addr) (lo : Int) (n : Nat) : Turn P w K tg (Itr lo n) [it] it (fun i h => IsRangeIter h it (lo + (i : Nat) * 1) ((n : Int) - (i : Nat)) 1) where
  mem := by simp
  obj := fun i h st b hb => by
    have e : b = it := by simpa using hb
    subst e
    exact ⟨_, st, fun v z => by
      have z' : Data.fields _ = Data.cell v := z
      cases z'⟩
  keep := fun i h h' st k => k it (by simp) _ st
  item := by
    intro X hP hw hK hc i pins s σ H E I hf st hg
    subst hP hw hK
    obtain ⟨f0, f1, f2, f3, f4, f5⟩ := hf it (by simp)
    have W := Walks.range (prog := X.prog) (w := X.w) (I.ok.hd hc) it lo 1 n
    refine W.item i s _ _ hg st fun v h' tk hv st' kk => ?_
    obtain ⟨t, rfl⟩ := hv
    have I1 : Inv X pins σ H { s with heap := h', toks := tk } := I.turned (fun b o hb e => kk b o (by simpa using hb) e) f0 f1 f3 f4 f5
    refine ⟨_, rfl, go_of (s := { s with heap := h', toks := tk }) (n := "range_iterator") st' rfl rfl (by decide) ⟨.int (lo + i), H, I1, ⟨t, ?_⟩, ⟨rfl, rfl⟩, st', fun b hb => (hf b hb).1⟩⟩
    rw [Int.mul_one]
  done := by
    intro X hP hw hK hc i pins s σ H E I hf st hg
    subst hP hw hK
    obtain ⟨f0, f1, f2, f3, f4, f5⟩ := hf it (by simp)
    exact wpAny_pyNext_range_end (I.ok.hd hc) st (by have : n ≤ i := hg; (first|lia|omega)) fun h' eb => ⟨rfl, I.turned (t' := s.toks) (fun b o hb e => eb b o hb e) f0 f1 f3 f4 f5⟩
  self := fun _ _ _ _ _ st h => wpAny_pyIter_rangeiter st h
end L2
namespace L2
open PySem PySem.Spec PyProof.Rows
section
variable {X : Cx} {tg : Expr}
theorem range_it {pins : List (Addr × Obj)} {σ : St} {H : Hp} {s : Shared} {R : It → Hp → Prop} {E : Value → Shared → Prop} {lo hi : Int} {t u v : Tok} {tk : Nat} (I : Inv X pins σ H s) (h1 : -(2 ^ 62) ≤ lo) (h2 : lo < 2 ^ 62) (h3 : -(2 ^ 62) ≤ hi) (h4 : hi < 2 ^ 62)
    (q : R (Itr lo (hi - lo).toNat) H) : wpAny (model X.prog X.w) X.A (pyIter (.ref s.heap.objs.size)) (PIE X pins σ tg R) E { s with heap := s.heap.push { cls := .type "range", data := .fields #[.int lo t, .int hi u, .int 1 v] }, toks := tk } := by
  refine wpAny_pyIter_range (IsRange.new ..) (small_one h1 h2 h3 h4) ?_
  have I1 : Inv X pins σ H { s with heap := s.heap.push { cls := .type "range", data := .fields #[.int lo t, .int hi u, .int 1 v] }, toks := tk } := I.kept fun b o e => Heap.get?_push_of_some _ e
  refine ⟨(s.heap.push { cls := .type "range", data := .fields #[.int lo t, .int hi u, .int 1 v] }).objs.size, [(s.heap.push { cls := .type "range", data := .fields #[.int lo t, .int hi u, .int 1 v] }).objs.size], _, _, H, rfl,
    I1.kept (t' := tk) fun b o e => Heap.get?_push_of_some _ e, turn_range _ lo (hi - lo).toNat, ?_, fun b hb => ?_, q⟩
  · have e1 : lo + ((0 : Nat) : Int) * 1 = lo := by simp
    have e2 : (((hi - lo).toNat : Nat) : Int) - ((0 : Nat) : Int) = Builtin.Range.rangeSize lo hi 1 := by rw [rangeSize_one]; split <;> (first|lia|omega)
    show IsRangeIter _ _ (lo + ((0 : Nat) : Int) * 1) ((((hi - lo).toNat : Nat) : Int) - ((0 : Nat) : Int)) 1
    rw [e1, e2]
    exact Heap.get?_push_size _ rfl
  · have e : b = (s.heap.push { cls := .type "range", data := .fields #[.int lo t, .int hi u, .int 1 v] }).objs.size := by simpa using hb
    subst e
    exact I1.fpOk (Nat.le_refl _) (I1.hok.fresh (Nat.le_refl _))
noncomputable def iRng1 (ta : TA) : TI := fun σ H R => ta σ H fun vs H1 => ∃ j : Int, vs = [.int j] ∧ -(2 ^ 62) ≤ j ∧ j < 2 ^ 62 ∧ R (Itr 0 j.toNat) H1
noncomputable def iRng2 (ta : TA) : TI := fun σ H R => ta σ H fun vs H1 => ∃ i j : Int, vs = [.int i, .int j] ∧ (-(2 ^ 62) ≤ i ∧ i < 2 ^ 62 ∧ -(2 ^ 62) ≤ j ∧ j < 2 ^ 62) ∧ R (Itr i (j - i).toNat) H1
theorem pi_range1 {a : Expr} {ta : TA} {p pos : Pos} (hg : Gl X "range") (hm : X.mg "range" = none) (ha : PA X [a] ta) (hs : autoParam (starEach [a] X.env = [(false, eval a X.env)]) L2.aR._auto_1) : PI X tg (.Call (.Name "range" p) [a] [] pos) (iRng1 ta) := by
  intro pins s σ H R I h
  refine Call_ (ld_blt I hg hm boot_range (PyProof.Rows.callWith_type1 (thn (ha pos pins s σ H _ I h) fun us s1 zq => L2.el5 zq fun vs H1 I1 r1 q1 => ?_) hs rfl))
  obtain ⟨j, e, q1, q2, q⟩ := q1
  subst e
  cases r1 with
  | cons r rr =>
    cases rr
    obtain ⟨t, rfl⟩ := r
    exact call_range_1 (range_it I1 (by (first|lia|omega)) (by (first|lia|omega)) q1 q2 (by simpa using q))
theorem pi_range2 {a b : Expr} {ta : TA} {p pos : Pos} (hg : Gl X "range") (hm : X.mg "range" = none) (ha : PA X [a, b] ta) (hs : autoParam (starEach [a, b] X.env = [(false, eval a X.env), (false, eval b X.env)]) L2.aR._auto_1) (hs2 : autoParam (starEach [b] X.env = [(false, eval b X.env)]) L2.aR._auto_1) :
    PI X tg (.Call (.Name "range" p) [a, b] [] pos) (iRng2 ta) := by
  intro pins s σ H R I h
  refine Call_ (ld_blt I hg hm boot_range (PyProof.Rows.callWith_type1 (thn (ha pos pins s σ H _ I h) fun us s1 zq => L2.el5 zq fun vs H1 I1 r1 q1 => ?_) (by rw [hs, hs2]) (by rw [hs2]; rfl)))
  obtain ⟨i, j, e, ⟨q1, q2, q3, q4⟩, q⟩ := q1
  subst e
  cases r1 with
  | cons r rr =>
    cases rr with
    | cons r' rr =>
      cases rr
      obtain ⟨t, rfl⟩ := r
      obtain ⟨t', rfl⟩ := r'
      exact call_range_2 (range_it I1 q1 q2 q3 q4 q)
noncomputable def tFor (wi : TI) (g : TG) (tb : TS) : TS := fun D σ H => wi σ H fun J H1 => ∃ W : Nat → Nat → St → Hp → Prop, (∃ m, W 0 m σ H1) ∧ ∀ i m σ H, W i m σ H →
  (J.stop i H ∧ D.nx σ H) ∨ (J.go i H ∧ ∃ N : St → Hp → Prop, (∀ σ' H', N σ' H' → ∃ m', m' < m ∧ W (i + 1) m' σ' H') ∧ ∀ x H', J.yld i H x H' → g x σ H' fun σ2 H2 => tb { D with nx := N, ct := N, bk := D.nx } σ2 H2)
noncomputable def pinsAt (fp : List Addr) (h : Heap) : List (Addr × Obj) := fp.filterMap fun b => (h.get? b).map fun o => (b, o)
theorem mem_pinsAt {fp : List Addr} {h : Heap} {b : Addr} {o : Obj} (hb : b ∈ fp) (e : h.get? b = some o) : (b, o) ∈ pinsAt fp h := List.mem_filterMap.mpr ⟨b, hb, by rw [e]; rfl⟩
theorem of_pinsAt {fp : List Addr} {h : Heap} {p : Addr × Obj} (hp : p ∈ pinsAt fp h) : p.1 ∈ fp ∧ h.get? p.1 = some p.2 := by
  obtain ⟨b, hb, e⟩ := List.mem_filterMap.mp hp
  cases q : h.get? b with
  | none => rw [q] at e; cases e
  | some o =>
    rw [q] at e
    have e' : (b, o) = p := Option.some.inj e
    subst e'
    exact ⟨hb, q⟩
theorem Inv.pinned {pins : List (Addr × Obj)} {σ : St} {H : Hp} {s : Shared} {fp : List Addr} (I : Inv X pins σ H s) (hf : ∀ b ∈ fp, FpOk X pins H b) (ho : ∀ b ∈ fp, ∃ o, s.heap.get? b = some o ∧ ∀ v, o.data ≠ .cell v) : Inv X (pins ++ pinsAt fp s.heap) σ H s :=
  I.pins_of fun p hp => (List.mem_append.mp hp).elim (fun z => I.pin p (List.mem_append_right _ z)) fun z => by
    obtain ⟨hb, e⟩ := of_pinsAt z
    obtain ⟨f0, f1, f2, _⟩ := hf p.1 hb
    obtain ⟨o, e', d⟩ := ho p.1 hb
    rw [e] at e'; cases e'
    exact ⟨e, f0, f1, f2, d⟩
theorem Inv.unpinned {pins pl : List (Addr × Obj)} {σ : St} {H : Hp} {s : Shared} (I : Inv X (pins ++ pl) σ H s) : Inv X pins σ H s := I.pins_of fun p hp => I.pin p (List.mem_append_right _ (List.mem_append_left _ hp))
theorem ps_for {iter : Expr} {body : List Stmt} {wi : TI} {g : TG} {tb : TS} {pos : Pos} (hp : PassesOwn (model X.prog X.w) X.A X.env X.xe) (hc : X.calm = true) (hi : PI X tg iter wi) (hg : PG X tg g) (hb : PSs X body tb)
    (hs : ∀ x, foldedSetIterable iter X.env x = pure x := by intro _; rfl) : PS X (.For tg iter body [] pos) (tFor wi g tb) := by
  intro pins s σ H D I h
  refine wpAny_For (thn (hi pins s σ H _ I h) fun v s1 h1 => thn h1 fun itv s2 h2 => ?_) hs
  obtain ⟨it, fp, tn, J, H2, e, I2, T, st2, f2, W, ⟨m0, w0⟩, turn⟩ := h2
  subst e
  have stat : ∀ {H' : Hp}, (∀ b ∈ fp, H' b = none) → ∀ b ∈ fp, FpOk X pins H' b := fun hn b hb => ⟨hn b hb, (f2 b hb).2⟩
  refine codeAny_forLoop_any (fun n s' => ∃ i σ' H', Inv X pins σ' H' s' ∧ tn i s'.heap ∧ (∀ b ∈ fp, H' b = none) ∧ W i n σ' H') ?_ m0 ⟨0, σ, H2, I2, st2, fun b hb => (f2 b hb).1, w0⟩
  rintro n s3 ⟨i, σ3, H3, I3, st3, fr3, w3⟩
  rcases turn i n σ3 H3 w3 with ⟨stop, qn⟩ | ⟨go, N, hN, step⟩
  · refine wpAny_passesOwn hp (thn (T.done X rfl rfl rfl hc i pins s3 σ3 H3 X.xe I3 (stat fr3) st3 stop) fun r s4 ⟨hr, I4⟩ => ?_)
    subst hr
    exact wpAny_execs_nil ⟨σ3, H3, I4, qn⟩
  · refine wpAny_passesOwn hp (thn (T.item X rfl rfl rfl hc i pins s3 σ3 H3 X.xe I3 (stat fr3) st3 go) fun r s4 ⟨u, hr, h4⟩ => ?_)
    subst hr
    refine wpAny_passesOwn hp (thn h4 fun _ s5 ⟨x, H5, I5, r5, y5, st5, fr5⟩ => ?_)
    have I5' := I5.pinned (stat fr5) (T.obj _ _ st5)
    refine wpAny_passesOwn hp (thn (hg _ s5 σ3 H5 x u _ I5' r5 (step x H5 y5)) fun _ s6 zq => L2.el4 zq fun σ6 H6 I6 q6 => ?_)
    refine wpAny_passesOwn hp (thn (hb _ s6 σ6 H6 _ I6 q6) fun f s7 q7 => ?_)
    have again : ∀ {σ7 : St} {H7 : Hp}, Inv X (pins ++ pinsAt fp s5.heap) σ7 H7 s7 → N σ7 H7 → ∃ m, m < n ∧ ∃ i σ' H', Inv X pins σ' H' s7 ∧ tn i s7.heap ∧ (∀ b ∈ fp, H' b = none) ∧ W i m σ' H' := fun {σ7 H7} I7 n7 => by
      obtain ⟨m', hm, w7⟩ := hN σ7 H7 n7
      refine ⟨m', hm, i + 1, σ7, H7, I7.unpinned, T.keep _ _ _ st5 fun b hb o e => (I7.pin (b, o) (List.mem_append_right _ (List.mem_append_right _ (mem_pinsAt hb e)))).1, fun b hb => ?_, w7⟩
      obtain ⟨o, e, d⟩ := T.obj _ _ st5 b hb
      exact (I7.pin (b, o) (List.mem_append_right _ (List.mem_append_right _ (mem_pinsAt hb e)))).2.1
    cases f with
    | next => obtain ⟨σ7, H7, I7, n7⟩ := q7; exact again I7 n7
    | cont => obtain ⟨σ7, H7, I7, n7⟩ := q7; exact again I7 n7
    | brk => obtain ⟨σ7, H7, I7, q7⟩ := q7; exact ⟨σ7, H7, I7.unpinned, q7⟩
    | ret v => obtain ⟨x7, σ7, H7, I7, r7, q7⟩ := q7; exact ⟨x7, σ7, H7, I7.unpinned, r7, q7⟩
end
end L2
namespace L2
open PySem PySem.Spec PyProof.Rows
noncomputable abbrev R2 := V → V → Hp → VK → Prop
noncomputable def OpR (X : Cx) (f : Value → Value → Sem Value) (r : R2) : Prop :=
  ∀ (pins : List (Addr × Obj)) (s : Shared) (σ : St) (H : Hp) (x y : V) (v u : Value) (Q : VK), Inv X pins σ H s → RelV x v → RelV y u → r x y H Q →
    wpAny (model X.prog X.w) X.A (f v u) (EP X pins σ Q) X.xe s
noncomputable def UnR (X : Cx) (f : Value → Sem Value) (r : V → Hp → VK → Prop) : Prop :=
  ∀ (pins : List (Addr × Obj)) (s : Shared) (σ : St) (H : Hp) (x : V) (v : Value) (Q : VK), Inv X pins σ H s → RelV x v → r x H Q →
    wpAny (model X.prog X.w) X.A (f v) (EP X pins σ Q) X.xe s
noncomputable def CallR (X : Cx) (f : Value) (r : List V → Hp → VK → Prop) : Prop :=
  ∀ (pins : List (Addr × Obj)) (s : Shared) (σ : St) (H : Hp) (xs : List V) (us : List Value) (Q : VK), Inv X pins σ H s → Vals xs us → r xs H Q →
    wpAny (model X.prog X.w) X.A (call f us) (EP X pins σ Q) X.xe s
noncomputable def tOp (r : R2) (ta tb : TE) : TE := fun σ H Q => ta σ H fun x H1 => tb σ H1 fun y H2 => r x y H2 Q
noncomputable def tUn (r : V → Hp → VK → Prop) (ta : TE) : TE := fun σ H Q => ta σ H fun x H1 => r x H1 Q
noncomputable def rI (C : Int → Int → Prop) (g : Int → Int → V) : R2 := fun x y H Q => ∃ i j, x = .int i ∧ y = .int j ∧ C i j ∧ Q (g i j) H
noncomputable def rI0 (g : Int → Int → V) : R2 := fun x y H Q => ∃ i j, x = .int i ∧ y = .int j ∧ Q (g i j) H
noncomputable def rU (g : Int → V) : V → Hp → VK → Prop := fun x H Q => ∃ i, x = .int i ∧ Q (g i) H
section
variable {X : Cx} {a b c : Expr} {ta tb tc : TE} {pos : Pos}
theorem binT (ha : PE X a ta) (hb : PE X b tb) {pins : List (Addr × Obj)} {s : Shared} {σ : St} {H : Hp} {R : V → V → Hp → Prop} (I : Inv X pins σ H s)
    (h : ta σ H fun x H1 => tb σ H1 fun y H2 => R x y H2) {Q : Value → Shared → Prop} {f : Value → Value → Sem Value}
    (hf : ∀ v u s2 x y H2, Inv X pins σ H2 s2 → RelV x v → RelV y u → R x y H2 → wpAny (model X.prog X.w) X.A (f v u) Q X.xe s2) :
    wpAny (model X.prog X.w) X.A (eval a X.env) (fun v s₁ => wpAny (model X.prog X.w) X.A (eval b X.env) (fun u s₂ => wpAny (model X.prog X.w) X.A (f v u) Q X.xe s₂) X.xe s₁) X.xe s := by
  refine thn (ha pins s σ H _ I h) fun v s1 zq => L2.el5 zq fun x H1 I1 r1 q1 => ?_
  refine thn (hb pins s1 σ H1 _ I1 q1) fun u s2 zq => L2.el5 zq fun y H2 I2 r2 q2 => ?_
  exact hf v u s2 x y H2 I2 r1 r2 q2
theorem pe_op {op : Operator} {r : R2} (ho : OpR X (binaryOp op) r) (ha : PE X a ta) (hb : PE X b tb) : PE X (.BinOp a op b pos) (tOp r ta tb) := by
  intro pins s σ H Q I h
  exact wpAny_BinOp (binT ha hb I h fun v u s2 x y H2 I2 rx ry q => ho pins s2 σ H2 x y v u Q I2 rx ry q)
theorem pe_un {op : UnaryOp} {r : V → Hp → VK → Prop} (ho : UnR X (unaryOp op) r) (ha : PE X a ta) : PE X (.UnaryOp op a pos) (tUn r ta) := by
  intro pins s σ H Q I h
  exact UnaryOp_ (thn (ha pins s σ H _ I h) fun v s1 zq => L2.el5 zq fun x H1 I1 r1 q1 => ho pins s1 σ H1 x v Q I1 r1 q1)
theorem opI {f : Value → Value → Sem Value} {C : Int → Int → Prop} {g : Int → Int → Int}
    (rule : ∀ (i j : Int) (t u : Tok) (s : Shared) (Q : Value → Shared → Prop) (E : Value → Shared → Prop), C i j → Q (.int (g i j) s.toks) { s with toks := s.toks + 1 } → wpAny (model X.prog X.w) X.A (f (.int i t) (.int j u)) Q E s) :
    OpR X f (rI C fun i j => .int (g i j)) := by
  intro pins s σ H x y v u Q I rx ry h
  obtain ⟨i, j, rfl, rfl, hc, q⟩ := h
  obtain ⟨t, rfl⟩ := rx
  obtain ⟨t', rfl⟩ := ry
  exact rule i j t t' s _ _ hc ⟨.int (g i j), H, I.tok _, ⟨_, rfl⟩, q⟩
theorem opI0 {f : Value → Value → Sem Value} {g : Int → Int → Int}
    (rule : ∀ (i j : Int) (t u : Tok) (s : Shared) (Q : Value → Shared → Prop) (E : Value → Shared → Prop), Q (.int (g i j) s.toks) { s with toks := s.toks + 1 } → wpAny (model X.prog X.w) X.A (f (.int i t) (.int j u)) Q E s) :
    OpR X f (rI0 fun i j => .int (g i j)) := by
  intro pins s σ H x y v u Q I rx ry h
  obtain ⟨i, j, rfl, rfl, q⟩ := h
  obtain ⟨t, rfl⟩ := rx
  obtain ⟨t', rfl⟩ := ry
  exact rule i j t t' s _ _ ⟨.int (g i j), H, I.tok _, ⟨_, rfl⟩, q⟩
theorem opB0 {f : Value → Value → Sem Value} {g : Int → Int → Bool}
    (rule : ∀ (i j : Int) (t u : Tok) (s : Shared) (Q : Value → Shared → Prop) (E : Value → Shared → Prop), Q (.bool (g i j)) s → wpAny (model X.prog X.w) X.A (f (.int i t) (.int j u)) Q E s) :
    OpR X f (rI0 fun i j => .bl (g i j)) := by
  intro pins s σ H x y v u Q I rx ry h
  obtain ⟨i, j, rfl, rfl, q⟩ := h
  obtain ⟨t, rfl⟩ := rx
  obtain ⟨t', rfl⟩ := ry
  exact rule i j t t' s _ _ ⟨.bl (g i j), H, I, rfl, q⟩
noncomputable def CDiv (i j : Int) : Prop := 0 < j ∧ j < 1073741824
noncomputable def CPow (i j : Int) : Prop := 0 ≤ j ∧ j ≤ 1000000 ∧ i.natAbs < 2 ^ 64
noncomputable def CMul (i j : Int) : Prop := (-(2 ^ 64) < i ∧ i < 2 ^ 64) ∨ (-(2 ^ 64) < j ∧ j < 2 ^ 64)
theorem CMul.ok {i j : Int} (h : CMul i j) : IntMulOk i j := by
  rcases h with ⟨h1, h2⟩ | ⟨h1, h2⟩
  · exact .of_left (intBits_le_64 h1 h2)
  · exact .of_right (intBits_le_64 h1 h2)
theorem op_add : OpR X (binaryOp .Add) (rI0 fun i j => .int (i + j)) := opI0 fun _ _ _ _ _ _ _ q => add_int q
theorem op_sub : OpR X (binaryOp .Sub) (rI0 fun i j => .int (i - j)) := opI0 fun _ _ _ _ _ _ _ q => sub_int q
theorem op_mul : OpR X (binaryOp .Mult) (rI CMul fun i j => .int (i * j)) := opI fun _ _ _ _ _ _ _ hc q => mul_int q hc.ok
theorem op_fdiv : OpR X (binaryOp .FloorDiv) (rI CDiv fun i j => .int (i / j)) := opI fun i j _ _ _ _ _ hc q => by
  have h1 : (0 : Int) < j := hc.1
  have h2 : j < 1073741824 := hc.2
  exact floordiv_int (by (first|lia|omega)) (by rw [Int.fdiv_eq_ediv_of_nonneg i (by (first|lia|omega))]; exact q) (.inl (PyProof.noPylong_small (by (first|lia|omega))))
theorem op_mod : OpR X (binaryOp .Mod) (rI (fun _ j => 0 < j) fun i j => .int (i % j)) := opI fun i j _ _ _ _ _ hc q => by
  have h1 : (0 : Int) < j := hc
  exact mod_int' (by (first|lia|omega)) (by rw [Int.fmod_eq_emod_of_nonneg i (by (first|lia|omega))]; exact q)
theorem op_pow : OpR X (binaryOp .Pow) (rI CPow fun i j => .int (i ^ j.toNat)) := opI fun _ _ _ _ _ _ _ hc q => pow_int_small hc.1 hc.2.1 hc.2.2 q
theorem unI {f : Value → Sem Value} {g : Int → Int}
    (rule : ∀ (i : Int) (t : Tok) (s : Shared) (Q : Value → Shared → Prop) (E : Value → Shared → Prop), Q (.int (g i) s.toks) { s with toks := s.toks + 1 } → wpAny (model X.prog X.w) X.A (f (.int i t)) Q E s) :
    UnR X f (rU fun i => .int (g i)) := by
  intro pins s σ H x v Q I rx h
  obtain ⟨i, rfl, q⟩ := h
  obtain ⟨t, rfl⟩ := rx
  exact rule i t s _ _ ⟨.int (g i), H, I.tok _, ⟨_, rfl⟩, q⟩
theorem un_neg : UnR X (unaryOp .USub) (rU fun i => .int (-i)) := unI fun _ _ _ _ _ q => neg_int q
end
section
variable {X : Cx} {a b c : Expr} {ta tb tc : TE} {pos : Pos}
theorem op_lt : OpR X (compareOp .Lt) (rI0 fun i j => .bl (decide (i < j))) := opB0 fun _ _ _ _ _ _ _ q => lt_int q
theorem op_le : OpR X (compareOp .LtE) (rI0 fun i j => .bl (decide (i ≤ j))) := opB0 fun _ _ _ _ _ _ _ q => le_int q
theorem op_gt : OpR X (compareOp .Gt) (rI0 fun i j => .bl (decide (j < i))) := opB0 fun _ _ _ _ _ _ _ q => gt_int q
theorem OpR.or {f : Value → Value → Sem Value} {r r' : R2} (h : OpR X f r) (h' : OpR X f r') : OpR X f (fun x y H Q => r x y H Q ∨ r' x y H Q) := by
  intro pins s σ H x y v u Q I rx ry q
  rcases q with q | q
  · exact h pins s σ H x y v u Q I rx ry q
  · exact h' pins s σ H x y v u Q I rx ry q
theorem nomark (b : Expr) {op : CmpOp} (h : autoParam (op ≠ .In) L2.aD._auto_1) (h2 : autoParam (op ≠ .NotIn) L2.aD._auto_1) : behindInMarks op b = false := by
  have e1 : (op == CmpOp.In) = false := by cases op <;> first | rfl | exact absurd rfl h
  have e2 : (op == CmpOp.NotIn) = false := by cases op <;> first | rfl | exact absurd rfl h2
  cases b <;> simp [behindInMarks, e1, e2]
theorem pe_cmpR {op : CmpOp} {r : R2} (ho : OpR X (compareOp op) r) (ha : PE X a ta) (hb : PE X b tb) (hm : behindInMarks op b = false) : PE X (.Compare a [op] [b] pos) (tOp r ta tb) := by
  intro pins s σ H Q I h
  exact wpAny_Compare1 (binT ha hb I h fun v u s2 x y H2 I2 rx ry q => ho pins s2 σ H2 x y v u Q I2 rx ry q) hm
noncomputable def tTest (t : TE) : TT := fun σ H Q => t σ H fun x H' => ∃ k, x = .bl k ∧ Q k H'
theorem pt_cmpR {op : CmpOp} {r : R2} (ho : OpR X (compareOp op) r) (ha : PE X a ta) (hb : PE X b tb) (hm : behindInMarks op b = false) : PT X (.Compare a [op] [b] pos) (tTest (tOp r ta tb)) := by
  intro pins s σ H Q I h
  refine wpAny_isTrue_Compare1 (thn (ha pins s σ H _ I h) fun v s1 zq => L2.el5 zq fun x H1 I1 r1 q1 => thn (hb pins s1 σ H1 _ I1 q1) fun u s2 zq => L2.el5 zq fun y H2 I2 r2 q2 =>
    thn (ho pins s2 σ H2 x y v u _ I2 r1 r2 q2) fun c s3 ⟨z, H3, I3, r3, k, e, q3⟩ => ?_) hm
  subst e
  cases r3
  exact wpAny_truthy_bool ⟨H3, I3, q3⟩
noncomputable def tChain (r r' : R2) (ta tb tc : TE) : TE := fun σ H Q => ta σ H fun x H1 => tb σ H1 fun y H2 => r x y H2 fun z H3 => ∃ k, z = .bl k ∧
  (if k = true then tc σ H3 fun w' H4 => r' y w' H4 Q else Q (.bl false) H3)
theorem pe_chain {op op' : CmpOp} {r r' : R2} (ho : OpR X (compareOp op) r) (ho' : OpR X (compareOp op') r') (ha : PE X a ta) (hb : PE X b tb) (hc : PE X c tc)
    (hm : lastMarks [op, op'] [b, c] = false := by with_unfolding_all rfl) : PE X (.Compare a [op, op'] [b, c] pos) (tChain r r' ta tb tc) := by
  intro pins s σ H Q I h
  refine Compare_chain (thn (ha pins s σ H _ I h) fun v s1 zq => L2.el5 zq fun x H1 I1 r1 q1 => chain_link (thn (hb pins s1 σ H1 _ I1 q1) fun u s2 zq => L2.el5 zq fun y H2 I2 r2 q2 =>
    thn (ho pins s2 σ H2 x y v u _ I2 r1 r2 q2) fun d s3 ⟨z, H3, I3, r3, k, e, q3⟩ => ?_)) hm
  subst e
  cases r3
  refine wpAny_truthy_bool ?_
  cases k with
  | false => exact ite_ff ⟨.bl false, H3, I3, rfl, q3⟩
  | true => exact ite_tt (chain_last (thn (hc pins s3 σ H3 _ I3 q3) fun w' s4 zq => L2.el5 zq fun z' H4 I4 r4 q4 => ho' pins s4 σ H4 y z' u w' Q I4 r2 r4 q4))
theorem pt_chain {op op' : CmpOp} {r r' : R2} (ho : OpR X (compareOp op) r) (ho' : OpR X (compareOp op') r') (ha : PE X a ta) (hb : PE X b tb) (hc : PE X c tc)
    (hm : lastMarks [op, op'] [b, c] = false := by with_unfolding_all rfl) : PT X (.Compare a [op, op'] [b, c] pos) (tTest (tChain r r' ta tb tc)) := by
  intro pins s σ H Q I h
  refine isTrue_chain (thn (ha pins s σ H _ I h) fun v s1 zq => L2.el5 zq fun x H1 I1 r1 q1 => test_link (thn (hb pins s1 σ H1 _ I1 q1) fun u s2 zq => L2.el5 zq fun y H2 I2 r2 q2 =>
    thn (ho pins s2 σ H2 x y v u _ I2 r1 r2 q2) fun d s3 ⟨z, H3, I3, r3, k, e, q3⟩ => ?_)) hm
  subst e
  cases r3
  refine wpAny_truthy_bool ?_
  cases k with
  | false =>
    obtain ⟨k', e', q'⟩ := q3
    cases e'
    exact ite_ff ⟨H3, I3, q'⟩
  | true =>
    refine ite_tt (test_last (thn (hc pins s3 σ H3 _ I3 q3) fun w' s4 zq => L2.el5 zq fun z' H4 I4 r4 q4 => thn (ho' pins s4 σ H4 y z' u w' _ I4 r2 r4 q4) fun d' s5 ⟨z2, H5, I5, r5, k2, e2, q5⟩ => ?_))
    subst e2
    cases r5
    exact wpAny_truthy_bool ⟨H5, I5, q5⟩
theorem line63 : (sizeLine : Nat) < 2 ^ 63 := by rw [sizeLine_eq]; decide
theorem vals1 {x : V} {us : List Value} (r : Vals [x] us) : ∃ u, us = [u] ∧ RelV x u := by
  cases r with
  | cons r1 r2 => cases r2; exact ⟨_, rfl, r1⟩
theorem vals2 {x y : V} {us : List Value} (r : Vals [x, y] us) : ∃ u w', us = [u, w'] ∧ RelV x u ∧ RelV y w' := by
  cases r with
  | cons r1 r2 =>
    cases r2 with
    | cons r3 r4 => cases r4; exact ⟨_, _, rfl, r1, r3⟩
end
end L2
namespace L2
open PySem PySem.Spec PyProof.Rows
structure ObjM (h : Heap) (x dx C : Addr) (mA : Str → Option Value) : Prop where
  obj : h.get? x = some (PySem.W.instObj C dx)
  ns : h.Ns1 dx mA
  ne : dx ≠ x
theorem lookIn_ns {h : Heap} {dx : Addr} {mA : Str → Option Value} (n : h.Ns1 dx mA) : ∃ od, h.get? dx = some od ∧ ∀ name, PySem.W.lookIn name od = some (mA name) := by
  obtain ⟨o, es, ep, ho, hd, hk, _, hm⟩ := n
  refine ⟨o, ho, fun name => ?_⟩
  have e := hm name
  unfold nsFind findBy at e
  rw [← Array.find?_toList] at e
  unfold PySem.W.lookIn
  rw [hd]
  dsimp only
  split
  · rename_i y q
    rw [q] at e
    exact congrArg some e
  · rename_i q
    rw [q] at e
    have a : es.toList.any (·.refKey) = false := by
      rw [List.any_eq_false]
      intro y hy
      obtain ⟨z, t, hkey⟩ := hk y (Array.mem_toList_iff.mp hy)
      simp [DictEntry.refKey, hkey]
    have a' : ¬ es.toList.any (·.refKey) = true := by rw [a]; exact Bool.false_ne_true
    rw [if_neg a']
    exact congrArg some e
theorem ObjM.look {h : Heap} {x dx C : Addr} {mA : Str → Option Value} (I : ObjM h x dx C mA) : ∃ od, PySem.W.InstAt h x (PySem.W.instObj C dx) C (some od) ∧ ∀ name, PySem.W.lookIn name od = some (mA name) :=
  let ⟨od, ho, hl⟩ := lookIn_ns I.ns
  ⟨od, ⟨I.obj, rfl, rfl, ho⟩, hl⟩
section
variable {prog : Program} {w : World} {A : Around} {E : Value → Shared → Prop} {s : Shared} {K : PySem.W.Frag} {x dx C f : Addr} {mA : Str → Option Value} {name : Str} {v : Value}
theorem get_map {expr : Bool} {Q : Value → Shared → Prop} (X : K.In s.heap) (I : ObjM s.heap x dx C mA) (hg : PySem.W.plainGet K C name = true) (hh : PySem.W.hasDictIn K C = true)
    (ha : PySem.W.findIn K (.ref C) name = some none) (hv : mA name = some v) (hv' : PySem.W.handedIn v = true) (h : Q v { s with toks := s.toks + 1 }) :
    wpAny (model prog w) A (getAttr (.ref x) name expr) Q E s := by
  obtain ⟨od, J, hl⟩ := I.look
  exact PySem.W.get_value X J (PySem.W.plainGet_of hg).1 (PySem.W.findObj_own hh ha rfl (by rw [hl, hv])) hv' h
theorem get_meth {pl : Sem Bool} {Q : Value × List Value → Shared → Prop} (X : K.In s.heap) (I : ObjM s.heap x dx C mA) (hg : PySem.W.plainGet K C name = true)
    (hf : PySem.W.findIn K (.ref C) name = some (some (.ref f))) (ht : PySem.W.isFn K (.ref f) = true) (hv : mA name = none) (h : Q (.ref f, [.ref x]) s) :
    wpAny (model prog w) A (getMethod (.ref x) name pl) Q E s := by
  obtain ⟨od, J, hl⟩ := I.look
  exact PySem.W.method_fn X J (PySem.W.plainGet_of hg).1 (PySem.W.plainGet_of hg).2 hf (beq_iff_eq.mp ht) (by show (PySem.W.lookIn name od).map (·.isSome) = some false; rw [hl, hv]; rfl) h
theorem set_map {ns : List Str} {Q : Unit → Shared → Prop} (X : K.In s.heap) (I : ObjM s.heap x dx C mA)
    (hs : PySem.W.findIn K (.ref C) "__setattr__" = some (some (.builtin "object.__setattr__"))) (hp : PySem.W.plainOver K C = true) (ht : PySem.W.takerIn K C name = some none) (hh : PySem.W.hasDictIn K C = true)
    (hw : PySem.Within mA ns) (hsz : ns.length ≤ sizeLine)
    (h : ∀ h', ObjM h' x dx C (fun y => if y = name then some v else mA y) → Heap.SameBut dx s.heap h' → Q () { s with heap := h', toks := s.toks + 2 }) :
    wpAny (model prog w) A (setAttr (.ref x) name v) Q E s := by
  obtain ⟨od, J, hl⟩ := I.look
  refine PySem.W.set_plain X J hs (PySem.W.osa_open (s := { s with toks := s.toks + 1 }) (r := none) X J hp ht fun b => ?_)
  obtain ⟨cd, hc, hd'⟩ := PySem.W.any_some hh
  have hx : s.heap.get? x = some ⟨.ref C, some dx, .plain, #[]⟩ := I.obj
  refine wpAny_bind (wpAny_pure (wpAny_bind (wpAny_bind (wpAny_loadPart hx (wpAny_bind (PySem.W.Looks.here (s := { s with toks := s.toks + 1 }) (PySem.W.looks_clsIn X hc) ?_))))))
  rw [hd']
  refine wpAny_pure (a := some dx) (wpAny_bind (wpAny_pure (wpAny_bind ?_)))
  refine wpAny_nsSet1 (s := { s with toks := s.toks + 1 }) I.ns fun h' hn2 hs2 => ?_
  obtain ⟨oD, esD, epD, hoD, hdD, hcD⟩ := hn2.count (PySem.Within.cons name v hw)
  refine wpAny_bind (wpAny_lookBehind hoD (by rw [hdD]; exact pastItsLine_dict (Nat.le_trans hcD (by rw [List.length_cons]; (first|lia|omega)))) ?_)
  exact wpAny_pure (h _ ⟨(hs2.2 _ (Ne.symm I.ne)).trans I.obj, hn2, I.ne⟩ hs2)
theorem make_map {R : Result → Shared → Prop} {vs : List Value} {kw : List (Str × Value)} (X : K.In s.heap) (hm : PySem.W.makesIn K C = true)
    (hi : PySem.W.findIn K (.ref C) "__init__" = some (some (.ref f))) (hf : PySem.W.typeIn K (.ref f) = some (.type "function"))
    (h : codeAny (model prog w) (A.under (.builtin "type.__call__" ⟨.ref C :: vs, kw⟩)) (.call (.ref f) ⟨.ref (s.heap.objs.size + 1) :: vs, kw⟩) (PySem.W.InitBack (s.heap.objs.size + 1) R)
      { s with heap := (s.heap.push PySem.W.emptyDict).push (PySem.W.instObj C s.heap.objs.size) }) :
    codeAny (model prog w) A (.call (.ref C) ⟨vs, kw⟩) R s := by
  obtain ⟨hh, g, d, t, os⟩ := s
  exact PySem.W.make_core (PySem.W.makes_of X hm) (PySem.W.looks_findIn X hi) (fun self => PySem.W.bind_fn X self hf) (.inl rfl) h
end
noncomputable def putF (f : Str) (v : V) : List (Str × V) → List (Str × V)
  | [] => [(f, v)]
  | (g, x) :: r => if g = f then (g, v) :: r else (g, x) :: putF f v r
theorem lookup_putF (f g : Str) (v : V) : ∀ fs : List (Str × V), (putF f v fs).lookup g = if g = f then some v else fs.lookup g
  | [] => by
    show List.lookup g [(f, v)] = _
    by_cases h : g = f
    · have hb : (g == f) = true := beq_iff_eq.mpr h
      simp only [List.lookup, hb, if_pos h]
    · have hb : (g == f) = false := beq_eq_false_iff_ne.mpr h
      simp only [List.lookup, hb, if_neg h]
  | (k, x) :: r => by
    have ih := lookup_putF f g v r
    rw [show putF f v ((k, x) :: r) = (if k = f then (k, v) :: r else (k, x) :: putF f v r) from rfl]
    by_cases hk : k = f
    · rw [if_pos hk]
      by_cases h : g = k
      · have hb : (g == k) = true := beq_iff_eq.mpr h
        simp only [List.lookup, hb, if_pos (h.trans hk)]
      · have hb : (g == k) = false := beq_eq_false_iff_ne.mpr h
        simp only [List.lookup, hb, if_neg (fun e : g = f => h (e.trans hk.symm))]
    · rw [if_neg hk]
      by_cases h : g = k
      · have hb : (g == k) = true := beq_iff_eq.mpr h
        simp only [List.lookup, hb, if_neg (fun e : g = f => hk (h.symm.trans e))]
      · have hb : (g == k) = false := beq_eq_false_iff_ne.mpr h
        simp only [List.lookup, hb]
        exact ih
theorem keys_putF (f : Str) (v : V) : ∀ fs : List (Str × V), f ∈ (putF f v fs).map (·.1) ∧ ∀ g, g ∈ fs.map (·.1) → g ∈ (putF f v fs).map (·.1)
  | [] => ⟨by simp [putF], fun g h => by simp at h⟩
  | (k, x) :: r => by
    obtain ⟨i1, i2⟩ := keys_putF f v r
    rw [show putF f v ((k, x) :: r) = (if k = f then (k, v) :: r else (k, x) :: putF f v r) from rfl]
    by_cases hk : k = f
    · rw [if_pos hk]
      subst hk
      exact ⟨by simp, fun g h => by simpa using h⟩
    · rw [if_neg hk]
      refine ⟨?_, fun g h => ?_⟩
      · rw [List.map_cons]
        exact List.mem_cons_of_mem _ i1
      · rw [List.map_cons] at h ⊢
        rcases List.mem_cons.mp h with e | e
        · exact List.mem_cons.mpr (.inl e)
        · exact List.mem_cons_of_mem _ (i2 g e)
theorem length_putF (f : Str) (v : V) : ∀ fs : List (Str × V), (putF f v fs).length ≤ fs.length + 1
  | [] => by simp [putF]
  | (k, x) :: r => by
    have ih := length_putF f v r
    rw [show putF f v ((k, x) :: r) = (if k = f then (k, v) :: r else (k, x) :: putF f v r) from rfl]
    by_cases hk : k = f
    · rw [if_pos hk, List.length_cons, List.length_cons]; (first|lia|omega)
    · rw [if_neg hk, List.length_cons, List.length_cons]; (first|lia|omega)
theorem RelO.some_of {v : V} {o : Option Value} (r : RelO (some v) o) : ∃ u, o = some u ∧ RelV v u := by
  cases o with
  | none => exact (show False from r).elim
  | some u => exact ⟨u, rfl, r⟩
theorem RelO.none_of {o : Option Value} (r : RelO none o) : o = none := by
  cases o with
  | none => rfl
  | some u => exact (show False from r).elim
theorem handed_of {v : V} {u : Value} (r : RelV v u) : PySem.W.handedIn u = true := by
  cases v with
  | non => cases (show u = Value.none from r); rfl
  | bl b => cases (show u = Value.bool b from r); rfl
  | int i => obtain ⟨t, e⟩ := (show ∃ t, u = Value.int i t from r); cases e; rfl
  | str x => obtain ⟨t, e⟩ := (show ∃ t, u = Value.str x t from r); cases e; rfl
  | byt b => obtain ⟨t, e⟩ := (show ∃ t, u = Value.bytes b t from r); cases e; rfl
  | flt b => obtain ⟨t, e⟩ := (show ∃ t, u = Value.float b t from r); cases e; rfl
  | ref a => cases (show u = Value.ref a from r); rfl
  | ty n => cases (show u = Value.type n from r); rfl
section
variable {P : Program} {w : World} {H H' : Hp} {h h' : Heap} {a C dx : Addr} {fs fs' : List (Str × V)}
theorem ins_get (hok : HOk P w H h) (e : H a = some (.ins C dx fs)) : ∃ mA, ObjM h a dx C mA ∧ (∀ f, RelO (fs.lookup f) (mA f)) ∧ PySem.Within mA (fs.map (·.1)) ∧ fs.length ≤ 1000 ∧ H dx = some (.own a) := by
  obtain ⟨d, z, ne, ob, mA, n, r, q⟩ := (show ObjOk P w H h a (.ins C dx fs) from hok a _ e)
  exact ⟨mA, ⟨ob, n, ne⟩, r, q, z, d⟩
end
structure Cls (K : PySem.W.Frag) (C : Addr) : Prop where
  pg : PySem.W.plainGet K C Str.empty = true
  hd : PySem.W.hasDictIn K C = true
  po : PySem.W.plainOver K C = true
  sa : PySem.W.findIn K (.ref C) "__setattr__" = some (some (.builtin "object.__setattr__"))
theorem Cls.get {K : PySem.W.Frag} {C : Addr} (c : Cls K C) (f : Str) : PySem.W.plainGet K C f = true := c.pg
noncomputable def NoAttr (K : PySem.W.Frag) (C : Addr) (f : Str) : Prop := PySem.W.findIn K (.ref C) f = some none
theorem NoAttr.taker {K : PySem.W.Frag} {C : Addr} {f : Str} (n : NoAttr K C f) : PySem.W.takerIn K C f = some none := by
  unfold PySem.W.takerIn
  rw [show PySem.W.findIn K (.ref C) f = some none from n]
  rfl
structure Meth (K : PySem.W.Frag) (C : Addr) (m : Str) (f : Addr) : Prop where
  at_ : PySem.W.findIn K (.ref C) m = some (some (.ref f))
  fn : PySem.W.isFn K (.ref f) = true
  kp : PySem.W.keepIn K (.ref f) = true
section
variable {X : Cx} {pins : List (Addr × Obj)} {σ : St} {H : Hp} {s : Shared} {a C dx : Addr} {fs : List (Str × V)} {f : Str} {v : V} {A : Around} {E : Value → Shared → Prop}
theorem getattr_ok {b : Bool} {Q : Value → Shared → Prop} (I : Inv X pins σ H s) (e : H a = some (.ins C dx fs)) (c : Cls X.K C) (n : NoAttr X.K C f) (l : fs.lookup f = some v)
    (h : ∀ u s', Inv X pins σ H s' → RelV v u → Q u s') : wpAny (model X.prog X.w) A (getAttr (.ref a) f b) Q E s := by
  obtain ⟨mA, O, r, _, _, _⟩ := ins_get I.hok e
  obtain ⟨u, hu, ru⟩ := RelO.some_of (v := v) (o := mA f) (by rw [← l]; exact r f)
  exact get_map I.kIn O (c.get f) c.hd n hu (handed_of ru) (h u _ (I.tok _) ru)
theorem getmeth_ok {m : Str} {g : Addr} {pl : Sem Bool} {Q : Value × List Value → Shared → Prop} (I : Inv X pins σ H s) (e : H a = some (.ins C dx fs)) (c : Cls X.K C) (k : Meth X.K C m g) (l : fs.lookup m = none)
    (h : Q (.ref g, [.ref a]) s) : wpAny (model X.prog X.w) A (getMethod (.ref a) m pl) Q E s := by
  obtain ⟨mA, O, r, _, _, _⟩ := ins_get I.hok e
  have hn : mA m = none := RelO.none_of (by rw [← l]; exact r m)
  exact get_meth I.kIn O (c.get m) k.at_ k.fn hn h
theorem setattr_ok {y : V} {u : Value} {Q : Unit → Shared → Prop} (I : Inv X pins σ H s) (e : H a = some (.ins C dx fs)) (c : Cls X.K C) (n : NoAttr X.K C f) (hl : fs.length < 1000) (ry : RelV y u)
    (h : ∀ s', Inv X pins σ (upd H a (.ins C dx (putF f y fs))) s' → Q () s') : wpAny (model X.prog X.w) A (setAttr (.ref a) f u) Q E s := by
  obtain ⟨mA, O, r, wi, _, ho⟩ := ins_get I.hok e
  have hz : (fs.map (·.1)).length ≤ sizeLine := by rw [List.length_map, sizeLine_eq]; (first|lia|omega)
  refine set_map I.kIn O c.sa c.po n.taker c.hd wi hz fun h' O' sb => h _ ?_
  have hd : ∃ o, h'.get? dx = some o := let ⟨o, _, _, e', _⟩ := O'.ns; ⟨o, e'⟩
  refine I.write (x := a) (e := dx) (by rw [e]; exact True.intro) (.inr ho) (fun b q hb z => (sb.2 b hb).trans z) hd ?_
  refine ⟨by rw [upd_ne O.ne]; exact ho, ?_, O.ne, O'.obj, _, O'.ns, fun g => ?_, fun g hg => ?_⟩
  · have := length_putF f y fs; (first|lia|omega)
  · show RelO ((putF f y fs).lookup g) (if g = f then some u else mA g)
    rw [lookup_putF]
    by_cases q : g = f
    · rw [if_pos q, if_pos q]; exact ry
    · rw [if_neg q, if_neg q]; exact r g
  · by_cases q : g = f
    · rw [q]; exact (keys_putF f y fs).1
    · refine (keys_putF f y fs).2 g (wi g fun z => hg ?_)
      show (if g = f then some u else mA g) = none
      rw [if_neg q]; exact z
theorem Inv.made (I : Inv X pins σ H s) : Inv X pins σ (upd (upd H s.heap.objs.size (.own (s.heap.objs.size + 1))) (s.heap.objs.size + 1) (.ins C s.heap.objs.size []))
    { s with heap := (s.heap.push PySem.W.emptyDict).push (PySem.W.instObj C s.heap.objs.size) } := by
  have e1 : (s.heap.push PySem.W.emptyDict).get? s.heap.objs.size = some PySem.W.emptyDict := Heap.get?_push_size s.heap rfl
  have e2 : ((s.heap.push PySem.W.emptyDict).push (PySem.W.instObj C s.heap.objs.size)).get? (s.heap.objs.size + 1) = some (PySem.W.instObj C s.heap.objs.size) := by
    have := Heap.get?_push_size (s.heap.push PySem.W.emptyDict) (o := PySem.W.instObj C s.heap.objs.size) rfl
    rwa [Heap.size_push] at this
  have e3 : (s.heap.push PySem.W.emptyDict).Ns s.heap.objs.size (fun _ => none) := ⟨PySem.W.emptyDict, #[], _, e1, rfl, (fun e he => absurd he (by simp)), fun _ => rfl⟩
  have I1 := I.laid (a := s.heap.objs.size) (o := .own (s.heap.objs.size + 1)) (h' := s.heap.push PySem.W.emptyDict) (t' := s.toks) (fun b u q => Heap.get?_push_of_some _ q) (Nat.le_refl _) ⟨_, e1⟩
  refine I1.laid (a := s.heap.objs.size + 1) (o := .ins C s.heap.objs.size []) (t' := s.toks) (fun b u q => Heap.get?_push_of_some _ q) (Nat.le_of_eq (Heap.size_push _ _)) ?_
  have ne : s.heap.objs.size ≠ s.heap.objs.size + 1 := Nat.ne_of_lt (Nat.lt_succ_self _)
  refine ⟨by rw [upd_ne ne, upd_same], Nat.zero_le _, ne, e2, fun _ => none, (Heap.Ns1.of_empty e3).at fun o q => Heap.get?_push_of_some _ q, fun _ => True.intro, fun y hy => absurd rfl hy⟩
theorem attr_of {prog : Program} {w : World} {env : Env} {e : Expr} {f : Str} {pos : Pos} {s : Shared} {Q : Value → Shared → Prop} (hb : attributeBase e f env (eval e env) = eval e env)
    (h : wpAny (model prog w) A (eval e env) (fun o s₁ => wpAny (model prog w) A (getAttr o f true) Q E s₁) E s) : wpAny (model prog w) A (eval (.Attribute e f pos) env) Q E s :=
  Attribute_any_ h (by rw [arm_eval_Attribute, hb])
end
noncomputable def tFld (K : PySem.W.Frag) (ta : TE) (f : Str) : TE := fun σ H Q => ta σ H fun x H1 => ∃ a C dx fs v, x = .ref a ∧ H1 a = some (.ins C dx fs) ∧ Cls K C ∧ NoAttr K C f ∧ fs.lookup f = some v ∧ Q v H1
noncomputable def sFld (K : PySem.W.Frag) (ta tv : TE) (f : Str) : TS := fun D σ H => tv σ H fun y H1 => ta σ H1 fun x H2 => ∃ a C dx fs, x = .ref a ∧ H2 a = some (.ins C dx fs) ∧ Cls K C ∧ NoAttr K C f ∧ fs.length < 1000 ∧
  D.nx σ (upd H2 a (.ins C dx (putF f y fs)))
section
variable {X : Cx} {o e value : Expr} {f : Str} {pos pos' tpos : Pos} {ta tv : TE}
theorem pe_fld (he : PE X e ta) (hb : attributeBase e f X.env (eval e X.env) = eval e X.env) : PE X (.Attribute e f pos) (tFld X.K ta f) := by
  intro pins s σ H Q I h
  refine attr_of hb (thn (he pins s σ H _ I h) fun u s1 ⟨x, H1, I1, rx, a, C, dx, fs, v, ex, ea, c, n, l, q⟩ => ?_)
  subst ex
  obtain rfl : u = Value.ref a := rx
  exact getattr_ok I1 ea c n l fun u' s2 I2 ru => ⟨v, H1, I2, ru, q⟩
theorem ps_fld (ha : PE X o ta) (hv : PE X value tv) (hs : swapsWith value (some (.Attribute o f pos')) pos.line X.env = pure false) : PS X (.Assign [.Attribute o f pos'] value pos) (sFld X.K ta tv f) := by
  intro pins s σ H D I h
  refine plainObj_wpAny_Assign_Attribute (thn (hv pins s σ H _ I h) fun u s1 zq => L2.el5 zq fun y H1 I1 ry q => thn (ha pins s1 σ H1 _ I1 q) fun ov s2 ⟨x, H2, I2, rx, a, C, dx, fs, ex, ea, c, n, l, q2⟩ => ?_) hs
  subst ex
  obtain rfl : ov = Value.ref a := rx
  exact setattr_ok I2 ea c n l ry fun s3 I3 => ⟨σ, _, I3, q2⟩
end
section
variable {X : Cx} {pins : List (Addr × Obj)} {σ : St} {H : Hp} {s : Shared} {A : Around} {E : Value → Shared → Prop} {Q : Value → Shared → Prop} {c : Value} {b : Bool}
inductive TyOf (K : PySem.W.Frag) (H : Hp) : V → Value → Prop where
  | non : TyOf K H .non (.type "NoneType")
  | bl (x : Bool) : TyOf K H (.bl x) (.type "bool")
  | int (i : Int) : TyOf K H (.int i) (.type "int")
  | str (x : Str) : TyOf K H (.str x) (.type "str")
  | flt (x : UInt64) : TyOf K H (.flt x) (.type "float")
  | lst {a : Addr} {xs : List V} (e : H a = some (.lst xs)) : TyOf K H (.ref a) (.type "list")
  | frz {a : Addr} {o : Obj} {xs : List V} (e : H a = some (.frz o (.lst xs))) : TyOf K H (.ref a) (.type "list")
  | tup {a : Addr} {xs : List V} (e : H a = some (.tup xs)) : TyOf K H (.ref a) (.type "tuple")
  | dK {a : Addr} {kvs : List (Key × V)} (e : H a = some (.dK kvs)) : TyOf K H (.ref a) (.type "dict")
  | dT {a : Addr} {kvs : List (List Key × V)} (e : H a = some (.dT kvs)) : TyOf K H (.ref a) (.type "dict")
  | ins {a C dx : Addr} {fs : List (Str × V)} (e : H a = some (.ins C dx fs)) (cl : Cls K C) (ha : PySem.W.findIn K (.ref C) "__class__" = some (some (.builtin "object.__class__")))
      (hn : PySem.W.specialIn K (.builtin "object.__class__") "__get__" = some (some (.builtin "getset_descriptor.__get__"))) (htk : PySem.W.takesIn K (.builtin "object.__class__") = some true)
      (hm : PySem.W.mroIn K C (.type "object") = some true) : TyOf K H (.ref a) (.ref C)
theorem isinst_ok {x : V} {u t : Value} (I : Inv X pins σ H s) (rx : RelV x u) (ty : TyOf X.K H x t) (e : PySem.W.kitOne X.K t c = some b) (h : ∀ tk, Q (.bool b) { s with toks := tk }) :
    wpAny (model X.prog X.w) A (call (.builtin "isinstance") [u, c]) Q E s := by
  cases ty with
  | non => cases (show u = Value.none from rx); exact PySem.W.kia_one PySem.W.kitx_none I.kIn True.intro e (fun z => nomatch z) h
  | bl y => cases (show u = Value.bool y from rx); exact PySem.W.kia_one PySem.W.kitx_bool I.kIn True.intro e (fun z => nomatch z) h
  | int i => obtain ⟨t, q⟩ := (show ∃ t, u = Value.int i t from rx); cases q; exact PySem.W.kia_one PySem.W.kitx_int I.kIn True.intro e (fun z => nomatch z) h
  | str y => obtain ⟨t, q⟩ := (show ∃ t, u = Value.str y t from rx); cases q; exact PySem.W.kia_one PySem.W.kitx_str I.kIn True.intro e (fun z => nomatch z) h
  | flt y => obtain ⟨t, q⟩ := (show ∃ t, u = Value.float y t from rx); cases q; exact PySem.W.kia_one PySem.W.kitx_float I.kIn True.intro e (fun z => nomatch z) h
  | @lst a xs ea =>
    cases (show u = Value.ref a from rx)
    obtain ⟨_, _, n, _, h1⟩ := (show ObjOk X.prog X.w H s.heap a (.lst xs) from I.hok a _ ea)
    exact PySem.W.kia_one PySem.W.kitx_list I.kIn ⟨_, h1, rfl⟩ e (fun z => nomatch z) h
  | @frz a ob xs ea =>
    cases (show u = Value.ref a from rx)
    obtain ⟨_, _, _, n, _, h1⟩ := (show ObjOk X.prog X.w H s.heap a (.frz ob (.lst xs)) from I.hok a _ ea)
    exact PySem.W.kia_one PySem.W.kitx_list I.kIn ⟨_, h1, rfl⟩ e (fun z => nomatch z) h
  | @tup a xs ea =>
    cases (show u = Value.ref a from rx)
    obtain ⟨_, _, _, p⟩ := (show ObjOk X.prog X.w H s.heap a (.tup xs) from I.hok a _ ea)
    obtain ⟨o, h1, h2, _⟩ := p
    exact PySem.W.kia_one PySem.W.kitx_tuple I.kIn ⟨o, h1, h2⟩ e (fun z => nomatch z) h
  | @dK a kvs ea =>
    cases (show u = Value.ref a from rx)
    obtain ⟨_, _, vs, _, p⟩ := (show ObjOk X.prog X.w H s.heap a (.dK kvs) from I.hok a _ ea)
    obtain ⟨o, es, ep, h1, h2, _⟩ := p
    exact PySem.W.kia_one PySem.W.kitx_dict I.kIn ⟨o, h1, h2.1⟩ e (fun z => nomatch z) h
  | @dT a kvs ea =>
    cases (show u = Value.ref a from rx)
    obtain ⟨_, _, xs, _, o, es, ep, h1, h2, _⟩ := (show ObjOk X.prog X.w H s.heap a (.dT kvs) from I.hok a _ ea)
    exact PySem.W.kia_one PySem.W.kitx_dict I.kIn ⟨o, h1, h2.1⟩ e (fun z => nomatch z) h
  | @ins a C dx fs ea cl ha hn htk hm =>
    cases (show u = Value.ref a from rx)
    obtain ⟨mA, O, _⟩ := ins_get I.hok ea
    obtain ⟨od, J, _⟩ := O.look
    exact PySem.W.kia_one (PySem.W.kitx_own (cl.get _) cl.hd ha hn htk hm) I.kIn J e (fun z => nomatch z) h
end
end L2
namespace L2
open PySem PySem.Spec PyProof.Rows
structure Room (k : Nat) (A : Around) : Prop where
  hd : A.handled = none
  dp : A.depth + 3 * k + 5 < recursionLimit
  un : A.units + 16 * k + 200 < cLine
theorem Room.mono {j k : Nat} {A : Around} (r : Room k A) (h : j ≤ k) : Room j A := ⟨r.hd, by have := r.dp; (first|lia|omega), by have := r.un; (first|lia|omega)⟩
theorem Room.deeper {k : Nat} {A : Around} (r : Room (k + 1) A) (env : Env) : Room k (A.deeper env) :=
  ⟨r.hd, by have := r.dp; show A.depth + 1 + 3 * k + 5 < _; (first|lia|omega), by have := r.un; show A.units + 3 + 16 * k + 200 < _; (first|lia|omega)⟩
theorem Room.in1 {k : Nat} {A : Around} (r : Room (k + 1) A) : Room k A.in1 :=
  ⟨r.hd, by have := r.dp; show A.depth + 3 * k + 5 < _; (first|lia|omega), by have := r.un; show A.units + 1 + 16 * k + 200 < _; (first|lia|omega)⟩
theorem make_depth {A : Around} {C : Addr} {us : List Value} {kw : List (Str × Value)} : (A.under (.builtin "type.__call__" ⟨.ref C :: us, kw⟩)).depth = A.depth + 1 := by
  first | rfl | simp [Around.under, Code.weight, Code.isCreation, Code.isGuard, Code.isCaller, Code.frames, Code.isFrame, guardIds]
theorem make_units {A : Around} {C : Addr} {us : List Value} {kw : List (Str × Value)} : (A.under (.builtin "type.__call__" ⟨.ref C :: us, kw⟩)).units = A.units + 1 := by
  first | rfl | simp [Around.under, Code.cUnits, Code.frames, Code.isFrame]
theorem Room.make {k : Nat} {A : Around} (r : Room (k + 1) A) (C : Addr) (us : List Value) (kw : List (Str × Value)) : Room k (A.under (.builtin "type.__call__" ⟨.ref C :: us, kw⟩)) :=
  ⟨r.hd, by have := r.dp; rw [make_depth]; (first|lia|omega), by have := r.un; rw [make_units]; (first|lia|omega)⟩
theorem Room.depth {k : Nat} {A : Around} (r : Room k A) : A.depth < recursionLimit := by have := r.dp; (first|lia|omega)
theorem Room.units {k : Nat} {A : Around} (r : Room k A) : A.units + 64 < cLine := by have := r.un; (first|lia|omega)
noncomputable def tNil : TA := fun _ H Q => Q [] H
noncomputable def tCons (ta : TE) (tr : TA) : TA := fun σ H Q => ta σ H fun x H1 => tr σ H1 fun xs H2 => Q (x :: xs) H2
section
variable {X : Cx} {e : Expr} {es : List Expr} {te : TE} {t : TA} {pos : Pos}
theorem pa_nil : PA X [] tNil := fun _ _ _ _ H Q I h => Calls.spliced_nil ⟨[], H, I, .nil, h⟩
theorem pa_cons (ha : PE X e te) (hr : PA X es t) (hs : autoParam (starEach (e :: es) X.env = (false, eval e X.env) :: starEach es X.env) L2.aR._auto_1) : PA X (e :: es) (tCons te t) := by
  intro pos pins s σ H Q I h
  rw [hs]
  show wpAny _ _ (spliced ((false, eval e X.env) :: backTo pos (starEach es X.env))) _ _ s
  refine Calls.spliced_cons (thn (ha pins s σ H _ I h) fun u s1 zq => L2.el5 zq fun x H1 I1 r1 q1 => ?_)
  exact thn (hr pos pins s1 σ H1 _ I1 q1) fun us s2 zq => L2.el5 zq fun xs H2 I2 r2 q2 => ⟨x :: xs, H2, I2, .cons r1 r2, q2⟩
end
noncomputable abbrev Sp := List V → Hp → VK → XK → Prop
noncomputable abbrev CXT := List Env → Hp → Shared → XK → Value → Shared → Prop
structure Env0 (P : Program) (w : World) (K : PySem.W.Frag) (mg : Str → Option Value) (base : Heap) (A : Around) (outer : List Env) (s : Shared) (H : Hp) : Prop where
  frames : A.frames = some outer
  mod : Mod K mg base
  bs : ∀ b o, base.get? b = some o → s.heap.get? b = some o ∧ H b = none
  bsz : base.objs.size ≤ s.heap.objs.size
  funs : s.heap.FunFrames base outer
  frf : ∀ b ∈ frs outer, H b = none
  hok : HOk P w H s.heap
  bare : AllBare s.gens
noncomputable def CE (outer : List Env) (P : Program) (w : World) (H : Hp) (s : Shared) (Q : VK) (u : Value) (s' : Shared) : Prop :=
  ∃ v H', s'.os = s.os ∧ AllBare s'.gens ∧ Un (frs outer) [] H H' s.heap s'.heap ∧ HOk P w H' s'.heap ∧ RelV v u ∧ Q v H'
noncomputable def CR (CX : CXT) (outer : List Env) (P : Program) (w : World) (H : Hp) (s : Shared) (Q : VK) (E : XK) (r : Result) (s' : Shared) : Prop :=
  match r with
  | .ok (.ret u) => CE outer P w H s Q u s'
  | .ok _ => False
  | .error e => CX outer H s E e s'
structure FnOk (P : Program) (w : World) (K : PySem.W.Frag) (mg : Str → Option Value) (base : Heap) (CX : CXT) (k : Nat) (f : Addr) (fd : FuncData) (ps : List Str) (sp : Sp) : Prop where
  len : ∀ vs H Q E, sp vs H Q E → vs.length = ps.length
  run : ∀ (A : Around) (outer : List Env) (s : Shared) (H : Hp) (args : Args) (us : List Value) (vs : List V) (Q : VK) (E : XK), Room k A → Env0 P w K mg base A outer s H → BindsTo s fd args (ps.zip us) → Vals vs us → sp vs H Q E →
    codeAny (model P w) A (.call (.ref f) args) (CR CX outer P w H s Q E) s
theorem FnOk.imp {P : Program} {w : World} {K : PySem.W.Frag} {mg : Str → Option Value} {base : Heap} {CX : CXT} {k : Nat} {f : Addr} {fd : FuncData} {ps : List Str} {sp sp' : Sp} (F : FnOk P w K mg base CX k f fd ps sp)
    (h : ∀ vs H Q E, sp' vs H Q E → sp vs H Q E) : FnOk P w K mg base CX k f fd ps sp' :=
  ⟨fun vs H Q E q => F.len vs H Q E (h _ _ _ _ q), fun A outer s H args us vs Q E hr he hb hv hs => F.run A outer s H args us vs Q E hr he hb hv (h _ _ _ _ hs)⟩
theorem Env0.make {P : Program} {w : World} {K : PySem.W.Frag} {mg : Str → Option Value} {base : Heap} {A : Around} {outer : List Env} {s : Shared} {H : Hp} (e : Env0 P w K mg base A outer s H) (C : Addr) (us : List Value) (kw : List (Str × Value)) :
    Env0 P w K mg base (A.under (.builtin "type.__call__" ⟨.ref C :: us, kw⟩)) outer s H := ⟨by first | exact e.frames | (simpa [Around.under, Code.envs, Code.isFrame, pushEnvs] using e.frames), e.mod, e.bs, e.bsz, e.funs, e.frf, e.hok, e.bare⟩
theorem Env0.in1 {P : Program} {w : World} {K : PySem.W.Frag} {mg : Str → Option Value} {base : Heap} {A : Around} {outer : List Env} {s : Shared} {H : Hp} (e : Env0 P w K mg base A outer s H) :
    Env0 P w K mg base A.in1 outer s H := ⟨e.frames, e.mod, e.bs, e.bsz, e.funs, e.frf, e.hok, e.bare⟩
section
variable {X : Cx} {pins : List (Addr × Obj)} {σ : St} {H : Hp} {s s' : Shared}
theorem Inv.env0 (I : Inv X pins σ H s) : Env0 X.prog X.w X.K X.mg X.base X.A X.stack s H :=
  ⟨I.ok.frames, I.ok.mod, I.bs, Nat.le_trans I.ok.bsz I.sz, I.stack, I.stkFree, I.hok, I.bare⟩
theorem Inv.after {Q : VK} {u : Value} (I : Inv X pins σ H s) (h : CE X.stack X.prog X.w H s Q u s') : EP X pins σ Q u s' := by
  obtain ⟨v, H', os, bare, un, hok, r, q⟩ := h
  obtain ⟨hh, g, d, t, os'⟩ := s'
  obtain rfl : os' = s.os := os
  exact ⟨v, H', I.call (h' := hh) (g' := g) (d' := d) (t' := t) (ch := []) un hok bare (fun b z => absurd z (by simp)), r, q⟩
end
noncomputable def Binds (K : PySem.W.Frag) (fd : FuncData) (ps : List Str) (ds : List Value) : Prop :=
  ∀ (s : Shared) (us : List Value), K.In s.heap → (us ++ ds).length = ps.length → BindsTo s fd ⟨us, []⟩ (ps.zip (us ++ ds))
theorem Binds.all {K : PySem.W.Frag} {fd : FuncData} {ps : List Str} (h : ∀ us : List Value, us.length = ps.length → bindArgs fd ⟨us, []⟩ = pure (ps.zip us)) : Binds K fd ps [] := fun s us _ hl => by
  rw [List.append_nil] at hl ⊢
  exact .of_eq (h us hl)
section
variable {X : Cx} {CX : CXT} {k : Nat} {f C : Addr} {fd : FuncData} {ps : List Str} {sp : Sp} {dvs : List V} {ds : List Value} {E : XK} {x m : Str} {p pos apos : Pos} {e o : Expr} {es : List Expr} {ta : TE} {t : TA}
structure Mk (K : PySem.W.Frag) (C f : Addr) : Prop where
  makes : PySem.W.makesIn K C = true
  init : PySem.W.findIn K (.ref C) "__init__" = some (some (.ref f))
  fn : PySem.W.isFn K (.ref f) = true
  kp : PySem.W.keepIn K (.ref C) = true
end
section
variable {X : Cx} {CX : CXT} {k : Nat} {f C : Addr} {fd : FuncData} {ps ks : List Str} {sp : Sp} {E : XK} {x m : Str} {p pos apos kpos : Pos} {e o : Expr} {es : List Expr} {kws : List Keyword} {te ta : TE} {t tk : TA} {nm : Option Str}
variable {g : List Value → List Value → List Value} {gV : List V → List V → List V}
end
structure FnScope (N P : List Str) (sc : Scope) : Prop where
  kind : sc.kind = .function
  co : sc.isCoroutine = false
  gen : sc.isGenerator = false
  nd : N.Nodup
  pre : N.take P.length = P
  par : ∀ x ∈ P, sc.names.lookup x = some .local ∨ sc.names.lookup x = some .cell
  nofree : ∀ y ∈ sc.names, y.2 ≠ .free
theorem bindL_out {kindOf : Str → Option NameKind} {x : Str} : ∀ {binds : List (Str × Value)} {m : Str → Option Value}, (∀ v, (x, v) ∉ binds) → bindL kindOf binds m x = m x
  | [], _, _ => rfl
  | (n, v) :: r, m, h => by
    unfold bindL
    rw [bindL_out fun w hw => h w (List.mem_cons_of_mem _ hw)]
    split
    · have : x ≠ n := by rintro rfl; exact h v List.mem_cons_self
      simp [this]
    · rfl
theorem bindC_out {kindOf : Str → Option NameKind} {x : Str} : ∀ {binds : List (Str × Value)} {m : Str → Option Value}, (∀ v, (x, v) ∉ binds) → bindC kindOf binds m x = m x
  | [], _, _ => rfl
  | (n, v) :: r, m, h => by
    unfold bindC
    rw [bindC_out fun w hw => h w (List.mem_cons_of_mem _ hw)]
    split
    · rfl
    · have : x ≠ n := by rintro rfl; exact h v List.mem_cons_self
      simp [this]
theorem bindL_get {kindOf : Str → Option NameKind} {x : Str} {v : Value} : ∀ {P : List Str} {vs : List Value} {i : Nat} {m : Str → Option Value}, P.Nodup → P[i]? = some x → vs[i]? = some v → kindOf x = some .local →
    bindL kindOf (P.zip vs) m x = some v
  | [], _, _, _, _, h, _, _ => by simp at h
  | _ :: _, [], _, _, _, _, h, _ => by simp at h
  | p :: P, w :: vs, 0, m, nd, h1, h2, hk => by
    simp at h1 h2; subst h1; subst h2
    show bindL kindOf ((p, w) :: P.zip vs) m p = _
    unfold bindL
    rw [bindL_out fun v hv => (List.nodup_cons.mp nd).1 (List.of_mem_zip hv).1, if_pos hk]
    simp
  | p :: P, w :: vs, i + 1, m, nd, h1, h2, hk => by
    show bindL kindOf ((p, w) :: P.zip vs) m x = _
    unfold bindL
    exact bindL_get (i := i) (List.nodup_cons.mp nd).2 (by simpa using h1) (by simpa using h2) hk
theorem bindC_get {kindOf : Str → Option NameKind} {x : Str} {v : Value} : ∀ {P : List Str} {vs : List Value} {i : Nat} {m : Str → Option Value}, P.Nodup → P[i]? = some x → vs[i]? = some v → kindOf x ≠ some .local →
    bindC kindOf (P.zip vs) m x = some v
  | [], _, _, _, _, h, _, _ => by simp at h
  | _ :: _, [], _, _, _, _, h, _ => by simp at h
  | p :: P, w :: vs, 0, m, nd, h1, h2, hk => by
    simp at h1 h2; subst h1; subst h2
    show bindC kindOf ((p, w) :: P.zip vs) m p = _
    unfold bindC
    rw [bindC_out fun v hv => (List.nodup_cons.mp nd).1 (List.of_mem_zip hv).1, if_neg hk]
    simp
  | p :: P, w :: vs, i + 1, m, nd, h1, h2, hk => by
    show bindC kindOf ((p, w) :: P.zip vs) m x = _
    unfold bindC
    exact bindC_get (i := i) (List.nodup_cons.mp nd).2 (by simpa using h1) (by simpa using h2) hk
noncomputable def start (N : List Str) (vs : List V) : St := vs.map some ++ List.replicate (N.length - vs.length) none
noncomputable def cxOf (CX : CXT) (P : Program) (w : World) (K : PySem.W.Frag) (mg : Str → Option Value) (base : Heap) (N : List Str) (qual : Str) (scope : Scope) (f : Addr) (cd : Value) (A : Around) (outer : List Env) (s : Shared) (H : Hp) (E : XK) : Cx where
  prog := P
  w := w
  K := K
  mg := mg
  base := base
  A := A.deeper (envOfC qual scope s.heap.objs.size f cd)
  N := N
  s₀ := s
  H₀ := H
  env := envOfC qual scope s.heap.objs.size f cd
  outer := outer
  stack := envOfC qual scope s.heap.objs.size f cd :: outer
  ex := []
  calm := true
  fn := fun _ => true
  pn := []
  xe := fun e s' => wpAny (model P w) (A.deeper (envOfC qual scope s.heap.objs.size f cd)) (leaving (envOfC qual scope s.heap.objs.size f cd) e) (fun _ s'' => CX outer H s E e s'') (fun e' s'' => CX outer H s E e' s'') s'
theorem cell_has {sc : Scope} {n : Nat} {x : Str} (h : sc.names.lookup x = some .cell) : ∃ c, (cellsFrom n sc.names []).lookup x = some c := by
  have q := PySem.W.cellsFrom_some sc.names n [] (.inl h)
  exact Option.isSome_iff_exists.mp q
theorem inv_start {CX : CXT} {P : Program} {w : World} {K : PySem.W.Frag} {mg : Str → Option Value} {base : Heap} {N ps : List Str} {qual : Str} {scope : Scope} {f : Addr} {cd : Value} {A : Around} {outer : List Env} {s s1 : Shared} {H : Hp} {E : XK} {us : List Value} {vs : List V}
    (S : FnScope N ps scope) (hd : A.handled = none) (e0 : Env0 P w K mg base A outer s H) (hl : vs.length = ps.length) (r : Vals vs us)
    (x : InCallC s s.heap.objs.size (bindL (envOfC qual scope s.heap.objs.size f cd).kindOf (ps.zip us) fun _ => none) (cellsFrom (s.heap.objs.size + 1) scope.names []) (bindC (envOfC qual scope s.heap.objs.size f cd).kindOf (ps.zip us) fun _ => none) s1) :
    Inv (cxOf CX P w K mg base N qual scope f cd A outer s H E) [] (start N vs) H s1 := by
  have hpl : ps.length ≤ N.length := by have := congrArg List.length S.pre; rw [List.length_take] at this; (first|lia|omega)
  obtain ⟨h1, tk, rfl, hk⟩ := x.done
  have noA : ∀ b : Addr, b ∉ (cxOf CX P w K mg base N qual scope f cd A outer s H E).ex := fun b z => absurd (show b ∈ ([] : List Addr) from z) (by simp)
  refine ⟨⟨e0.mod, S.kind, rfl, rfl, Nat.le_refl _, fun y z c h1 h2 => ?_, fun y hy => ?_, fun y c _ h => ?_, fun _ => hd, Around.frames_deeper e0.frames, .inr ⟨rfl, rfl⟩, fun b z => absurd z (noA b), e0.bs, e0.bsz, fun b _ _ => noA b, fun b z => absurd z (noA b), e0.funs, e0.frf⟩,
    rfl, e0.bare, Un.kept hk, ⟨_, x.toInCall.ns, fun i y v h1 h2 h3 => ?_⟩, fun y c h => ⟨_, x.cell y c h⟩, e0.hok.fresh (Nat.le_refl _), fun y c h => ?_, fun p hp => absurd (show p ∈ ([] : List (Addr × Obj)) from hp) (by simp), e0.hok.kept hk, ?_⟩
  · exact name_of_addr x.apart (PySem.mem_of_lookup h1) (PySem.mem_of_lookup h2)
  · have hy : scope.names.lookup y = some .cell ∨ scope.names.lookup y = some .free := hy
    rcases hy with hy | hy
    · exact cell_has hy
    · exact absurd rfl (S.nofree _ (PySem.mem_of_lookup hy))
  · exact Nat.le_of_lt (x.above y c (PySem.mem_of_lookup h))
  · have hi : i < vs.length := by
      unfold start at h2
      by_cases hi : i < vs.length
      · exact hi
      · rw [List.getElem?_append_right (by simpa using hi)] at h2
        rw [List.getElem?_replicate] at h2
        split at h2 <;> cases h2
    have ha : vs[i]? = some v := by
      unfold start at h2
      rw [List.getElem?_append_left (by simpa using hi), List.getElem?_map] at h2
      cases e : vs[i]? with
      | none => rw [e] at h2; cases h2
      | some a => rw [e] at h2; cases h2; rfl
    obtain ⟨u, hu, rv⟩ := r.get ha
    have hp : ps[i]? = some y := by
      rw [← S.pre, List.getElem?_take_of_lt (by (first|lia|omega))]; exact h1
    have ndP : ps.Nodup := by rw [← S.pre]; exact S.nd.sublist (List.take_sublist _ _)
    refine ⟨u, rv, ?_⟩
    rcases S.par y (List.mem_of_getElem? hp) with k | k
    · exact .inl ⟨k, bindL_get ndP hp hu k⟩
    · obtain ⟨c, e⟩ := cell_has (n := s.heap.objs.size + 1) k
      refine .inr ⟨.inl k, c, e, ?_⟩
      have q := x.cell y c e
      rw [bindC_get ndP hp hu (by show scope.names.lookup y ≠ _; rw [k]; decide)] at q
      exact q
  · exact e0.hok.fresh (Nat.le_of_lt (x.above y c (PySem.mem_of_lookup h)))
  · unfold start
    show _ = N.length
    rw [List.length_append, List.length_map, List.length_replicate]
    (first|lia|omega)
theorem fn_of {CX : CXT} {P : Program} {w : World} {K : PySem.W.Frag} {mg : Str → Option Value} {base : Heap} {k : Nat} {f : Addr} {name qual : Str} {params : Arguments} {body : List Stmt} {scope : Scope} {dV kV doc pm cdv ct oc : Value} {an od : Option Addr}
    {osl : Array (Option Value)} {N ps : List Str} {sp : Sp} (lk : K.lookup f = some ⟨oc, od, .func (PySem.W.fnOf name qual params body scope dV kV doc pm an cdv ct), osl⟩) (hcd : PySem.W.codeIn K cdv qual = true) (S : FnScope N ps scope)
    (len : ∀ vs H Q E, sp vs H Q E → vs.length = ps.length)
    (hbody : ∀ (A : Around) (outer : List Env) (s : Shared) (H : Hp) (vs : List V) (Q : VK) (E : XK), Room k (A.deeper (envOfC qual scope s.heap.objs.size f cdv)) → sp vs H Q E →
      ∃ t, PSs (cxOf CX P w K mg base N qual scope f cdv A outer s H E) body t ∧ t { nx := fun _ H' => Q .non H', rt := Q } (start N vs) H) :
    FnOk P w K mg base CX (k + 1) f (PySem.W.fnOf name qual params body scope dV kV doc pm an cdv ct) ps sp := by
  refine ⟨len, fun A outer s H args us vs Q E hr e0 hb r hsp => ?_⟩
  have hl := len _ _ _ _ hsp
  have KX : K.In s.heap := e0.mod.kin.keeps fun b o e => (e0.bs b o e).1
  have lim : s.heap.NoLimit := e0.mod.nolimit.keeps fun b o e => (e0.bs b o e).1
  have hkind : ∀ y ∈ ps.zip us, scope.names.lookup y.1 = some .local ∨ (scope.names.lookup y.1 = some .cell ∧ ((cellsFrom (s.heap.objs.size + 1) scope.names []).lookup y.1).isSome = true) := fun ⟨n, v⟩ hy => by
    rcases S.par n (List.of_mem_zip hy).1 with q | q
    · exact .inl q
    · exact .inr ⟨q, PySem.W.cellsFrom_some _ _ _ (.inl q)⟩
  refine codeAny_call_function hr.depth (KX _ _ lk) rfl S.co S.gen rfl (PySem.W.codeRec_of KX hcd) (hb _ _ _ _ ?_)
  refine wpAny_newFunctionEnv_cells S.kind hkind fun env he s1 x => ?_
  subst he
  refine ⟨lim.keeps x.toInCall.keep, codeAny_func ?_⟩
  obtain ⟨t, ht, hq⟩ := hbody A outer s H vs Q E (hr.deeper _) hsp
  have I : Inv (cxOf CX P w K mg base N qual scope f cdv A outer s H E) [] (start N vs) H s1 := inv_start S hr.hd e0 hl r x
  refine wpAny_mono (ht [] s1 (start N vs) H _ I hq) (fun fl s' hs => ?_) fun e s' hs => hs
  have fin : ∀ {σ' : St} {H' : Hp} {v : V} {u : Value}, Inv (cxOf CX P w K mg base N qual scope f cdv A outer s H E) [] σ' H' s' → RelV v u → Q v H' → CE outer P w H s Q u s' :=
    fun {σ' H' v u} J rv q => ⟨v, H', J.os, J.bare, J.base, J.hok, rv, q⟩
  cases fl with
  | ret u =>
    obtain ⟨v, σ', H', J, rv, q⟩ := hs
    exact fin J rv q
  | next =>
    obtain ⟨σ', H', J, q⟩ := hs
    exact fin (v := V.non) (u := Value.none) J rfl q
  | brk =>
    obtain ⟨_, _, _, q⟩ := hs
    exact False.elim q
  | cont =>
    obtain ⟨_, _, _, q⟩ := hs
    exact False.elim q
end L2
namespace L2
open PySem PySem.Spec PyProof.Rows
section
variable {X : Cx} {x : Str} {p pos : Pos} {e : Expr} {es : List Expr} {t : TA} {id T : String} {r : List V → Hp → VK → Prop}
noncomputable def tCB (r : List V → Hp → VK → Prop) (t : TA) : TE := fun σ H Q => t σ H fun vs H1 => r vs H1 Q
theorem pe_callB (hc : CallR X (.builtin id) r) (hg : Gl X x) (hm : X.mg x = none) (hv : bootBuiltins x = some (.builtin id)) (ha : PA X (e :: es) t) (hn : autoParam (x ≠ "__name__") L2.aD._auto_1) (hdb : autoParam ((x == ("__debug__" : Str)) = false) L2.aD._auto_1)
    (he : autoParam (starEach (e :: es) X.env = (false, eval e X.env) :: starEach es X.env) L2.aR._auto_1) (hpl : autoParam ((backTo pos (starEach es X.env)).any (·.1) = false) L2.aR._auto_1) : PE X (.Call (.Name x p) (e :: es) [] pos) (tCB r t) := by
  intro pins s σ H Q I h
  refine wpAny_Call_Name_kw (ld_blt I hg hm hv ?_ hn hdb)
  exact PyProof.Rows.callWith_builtin1 (thn (ha pos pins s σ H _ I h) fun us s1 zq => L2.el5 zq fun vs H1 I1 r1 q1 => hc pins s1 σ H1 vs us Q I1 r1 q1) he hpl
theorem pe_callTy (hc : CallR X (.type T) r) (hg : Gl X x) (hm : X.mg x = none) (hv : bootBuiltins x = some (.type T)) (ha : PA X (e :: es) t) (hn : autoParam (x ≠ "__name__") L2.aD._auto_1) (hdb : autoParam ((x == ("__debug__" : Str)) = false) L2.aD._auto_1)
    (he : autoParam (starEach (e :: es) X.env = (false, eval e X.env) :: starEach es X.env) L2.aR._auto_1) (hpl : autoParam ((backTo pos (starEach es X.env)).any (·.1) = false) L2.aR._auto_1) : PE X (.Call (.Name x p) (e :: es) [] pos) (tCB r t) := by
  intro pins s σ H Q I h
  refine wpAny_Call_Name_kw (ld_blt I hg hm hv ?_ hn hdb)
  exact PyProof.Rows.callWith_type1 (thn (ha pos pins s σ H _ I h) fun us s1 zq => L2.el5 zq fun vs H1 I1 r1 q1 => hc pins s1 σ H1 vs us Q I1 r1 q1) he hpl
end
end L2
namespace HT
open PySem PyProof.Rows
noncomputable def lexLt : List Int → List Int → Bool
  | [], [] => false
  | [], _ :: _ => true
  | _ :: _, [] => false
  | x :: xs, y :: ys => if x = y then lexLt xs ys else decide (x < y)
theorem lexLt_cons (x y : Int) (xs ys : List Int) : lexLt (x :: xs) (y :: ys) = if x = y then lexLt xs ys else decide (x < y) := rfl
theorem lexLt_nil_nil : lexLt [] [] = false := rfl
theorem lexLt_nil_cons (y : Int) (ys : List Int) : lexLt [] (y :: ys) = true := rfl
theorem lexLt_cons_nil (x : Int) (xs : List Int) : lexLt (x :: xs) [] = false := rfl
theorem eqAt_int (A : Around) (s : Shared) (a : Int) (t : Tok) (c : Int) (u : Tok) : ∃ e, SeqAt.EqAt A s (.int a t) (.int c u) e ∧ (e = true ↔ a = c) :=
  ⟨(a == c), SeqAt.EqAt.int_int a t c u, by simp⟩
theorem rcLt_int (A : Around) (s : Shared) (a : Int) (t : Tok) (c : Int) (u : Tok) (prog : Program) (w : World) (E : Value → Shared → Prop) (Q : Value → Shared → Prop) (h : Q (.bool (decide (a < c))) s) :
    wpAny (model prog w) A (richCompare .Lt (.int a t) (.int c u)) Q E s :=
  (PyProof.Rows.lt_int h : wpAny (model prog w) A (compareOp .Lt (.int a t) (.int c u)) Q E s)
section
open PySem.SeqAt
open PySem.AutoSeq1 (wpAny_loadPart')
open PySem.MeetsSeq PySem.MeetsSeq2 PySem.MeetsSeq3
end
section
variable {prog : Program} {w : World} {A : Around} {E : Value → Shared → Prop} {s : Shared}
noncomputable def sIx (n d : Nat) : Option Int → Nat
  | none => d
  | some v => if v < 0 then (v + (n : Int)).toNat else min v.toNat n
theorem sIx_le (n d : Nat) (hd : d ≤ n) (o : Option Int) : sIx n d o ≤ n := by
  cases o with
  | none => exact hd
  | some v =>
    show (if v < 0 then (v + (n : Int)).toNat else min v.toNat n) ≤ n
    by_cases hv : v < 0
    · rw [if_pos hv]; (first|lia|omega)
    · rw [if_neg hv]; exact Nat.min_le_right _ _
theorem clip_eq (v : Int) (n d : Nat) : (if v < 0 then max (v + (n : Int)) 0 else min v (n : Int)) = ((sIx n d (some v) : Nat) : Int) := by
  show (if v < 0 then max (v + (n : Int)) 0 else min v (n : Int)) = (((if v < 0 then (v + (n : Int)).toNat else min v.toNat n) : Nat) : Int)
  by_cases hv : v < 0
  · simp only [if_pos hv]; (first|lia|omega)
  · simp only [if_neg hv]; (first|lia|omega)
theorem adjust_gen (lo hi : Option Int) (n : Nat) : Builtin.Slice.sliceAdjust lo hi 1 (n : Int) = (((sIx n 0 lo : Nat) : Int), ((sIx n n hi : Nat) : Int)) := by
  have h1 : ¬ ((1 : Int) < 0) := by (first|lia|omega)
  unfold Builtin.Slice.sliceAdjust
  simp only [h1, if_false]
  refine Prod.ext ?_ ?_
  · cases lo with
    | none => rfl
    | some v => exact clip_eq v n 0
  · cases hi with
    | none => rfl
    | some v => exact clip_eq v n n
theorem places_gen (i j : Nat) : Builtin.Slice.slicePlaces (i : Int) (j : Int) 1 = j - i := by
  unfold Builtin.Slice.slicePlaces
  have h1 : (1 : Int) > 0 := by (first|lia|omega)
  simp only [h1, if_true, Int.ediv_one]
  split <;> (first|lia|omega)
theorem slicePart_ {v : Value} {o : Option Int} {Q : Option Int → Shared → Prop} (p : IsPart v o) (h : Q o s) : wpAny (model prog w) A (Builtin.Slice.slicePartIndex v) Q E s := by
  cases p with
  | none => exact slicePart_none h
  | int i t => exact slicePart_int h
theorem sliceApplied_gen {sl : Addr} {vl vu : Value} {lo hi : Option Int} {n : Nat} {Q : Int × Int × Nat → Shared → Prop} (hs : s.heap.IsSliceOf sl vl vu .none) (pl : IsPart vl lo) (pu : IsPart vu hi)
    (h : Q (((sIx n 0 lo : Nat) : Int), 1, sIx n n hi - sIx n 0 lo) s) : wpAny (model prog w) A (Builtin.Slice.sliceApplied (.ref sl) (pure (n : Int))) Q E s := by
  obtain ⟨os, hos, hcs, hds⟩ := id hs
  unfold Builtin.Slice.sliceApplied Builtin.Slice.sliceFields
  refine wpAny_bind (wpAny_bind (wpAny_field hos hds (x := vl) rfl (wpAny_bind (wpAny_field hos hds (x := vu) rfl (wpAny_bind (wpAny_field hos hds (x := .none) rfl (wpAny_pure ?_)))))))
  refine wpAny_bind (slicePart_none ?_)
  show wpAny _ _ (if ((1 : Int) == 0) = true then _ else _) _ _ s
  rw [if_neg (by decide)]
  refine wpAny_bind (slicePart_ pl (wpAny_bind (slicePart_ pu (wpAny_bind (wpAny_pure ?_)))))
  show wpAny _ _ (match Builtin.Slice.sliceAdjust lo hi 1 (n : Int) with | (lo, hi) => pure (lo, (1 : Int), Builtin.Slice.slicePlaces lo hi 1)) _ _ s
  rw [adjust_gen lo hi n]
  show wpAny _ _ (pure (((sIx n 0 lo : Nat) : Int), (1 : Int), Builtin.Slice.slicePlaces ((sIx n 0 lo : Nat) : Int) ((sIx n n hi : Nat) : Int) 1)) _ _ s
  rw [places_gen]
  exact wpAny_pure h
theorem pick_gen (xs : Array Value) (i k : Nat) : ((List.range k).filterMap fun (m : Nat) => xs[((i : Int) + (m : Int) * 1).toNat]?).toArray = ((xs.toList.drop i).take k).toArray := by
  have e : (fun (m : Nat) => xs[((i : Int) + (m : Int) * 1).toNat]?) = fun m => xs[i + m]? := by
    funext m
    have : ((i : Int) + (m : Int) * 1).toNat = i + m := by (first|lia|omega)
    rw [this]
  rw [e]
  have := pick_run xs i k
  rw [List.filterMap_map] at this
  have e2 : ((fun x => xs[x]?) ∘ fun x => i + x) = fun m => xs[i + m]? := rfl
  rw [e2] at this
  rw [this]
theorem getItem_tuple_cut {t sl : Addr} {items : Array Value} {vl vu : Value} {lo hi : Option Int} {Q : Value → Shared → Prop} (ht : IsTup s.heap t items) (hs : s.heap.IsSliceOf sl vl vu .none) (pl : IsPart vl lo) (pu : IsPart vu hi)
    (hw : ¬ (sIx items.size 0 lo = 0 ∧ sIx items.size items.size hi = items.size))
    (h : Q (.ref s.heap.objs.size) { s with heap := s.heap.push { cls := .type "tuple", data := .seq ((items.toList.drop (sIx items.size 0 lo)).take (sIx items.size items.size hi - sIx items.size 0 lo)).toArray } })
    (hsz : items.size ≤ sizeLine) : wpAny (model prog w) A (getItem (.ref t) (.ref sl)) Q E s := by
  have htake : sizeOk (.seq ((items.toList.drop (sIx items.size 0 lo)).take (sIx items.size items.size hi - sIx items.size 0 lo)).toArray) := by
    show ((items.toList.drop (sIx items.size 0 lo)).take (sIx items.size items.size hi - sIx items.size 0 lo)).toArray.size ≤ sizeLine
    rw [List.size_toArray, List.length_take, List.length_drop, Array.length_toList]
    (first|lia|omega)
  have hj : sIx items.size items.size hi ≤ items.size := sIx_le _ _ (Nat.le_refl _) hi
  obtain ⟨os, hos, hcs, hds⟩ := id hs
  have hTs : s.TypeIs (.ref sl) "slice" := ⟨os, hos, hcs⟩
  unfold getItem
  try with_reducible refine wpAny_holding ?_
  first | refine wpAny_bind (wpAny_pure ?_) | skip
  refine wpAny_bind (wpAny_sequenceKey ht.typeIs (by decide) ?_)
  refine wpAny_bind (wpAny_callSpecial?_slot (name := Str.ofString "__getitem__") ht.typeIs PyProof.Rows.slot_tuple_getitem
    (wpAny_call_entry PyProof.Rows.slot_tuple_getitem ht.typeIs entry_tuple_getitem ?_ (args_tuple_getitem _ _)))
  show wpAny _ _ (Builtin.Tuple.tupleItemsOf (.ref t) >>= _) _ _ s
  refine wpAny_bind (tupleItemsOf_ ht ?_)
  refine wpAny_bind (wpAny_typeOf hTs ?_)
  rw [if_pos (by decide)]
  refine wpAny_bind (sliceApplied_gen hs pl pu ?_)
  have hno : ¬ ((((sIx items.size 0 lo : Nat) : Int) == 0 && (1 : Int) == 1 && (sIx items.size items.size hi - sIx items.size 0 lo) == items.size) = true) := by
    intro q
    rw [Bool.and_eq_true, Bool.and_eq_true] at q
    have q1 : ((sIx items.size 0 lo : Nat) : Int) = 0 := eq_of_beq q.1.1
    have q2 : sIx items.size items.size hi - sIx items.size 0 lo = items.size := eq_of_beq q.2
    exact hw ⟨by (first|lia|omega), by (first|lia|omega)⟩
  show wpAny _ _ (if (((sIx items.size 0 lo : Nat) : Int) == 0 && (1 : Int) == 1 && (sIx items.size items.size hi - sIx items.size 0 lo) == items.size) = true then _ else _) _ _ s
  rw [if_neg hno, pick_gen]
  first
    | exact wpAny_bind (m := Builtin.Tuple.tupleExact _) (wpAny_newObj_type (wpAny_pure ⟨_, rfl, wpAny_pure h⟩) htake)
    | exact wpAny_bind (m := Builtin.Tuple.tupleExact _) (wpAny_newObj_type (wpAny_bind (wpAny_pure (wpAny_pure ⟨_, rfl, wpAny_pure h⟩))) htake)
    | exact wpAny_bind (wpAny_bind (m := Builtin.Tuple.tupleExact _) (wpAny_newObj_type (wpAny_pure (wpAny_pure ⟨_, rfl, wpAny_pure h⟩)) htake))
    | exact wpAny_bind (wpAny_bind (m := Builtin.Tuple.tupleExact _) (wpAny_newObj_type (wpAny_pure ⟨_, rfl, wpAny_pure h⟩) htake))
end
end HT
namespace L2
open PySem PySem.Spec PyProof.Rows
noncomputable abbrev TO := St → Hp → (Option Int → Hp → Prop) → Prop
noncomputable def PO (X : Cx) (e : Option Expr) (t : TO) : Prop :=
  ∀ (pins : List (Addr × Obj)) (s : Shared) (σ : St) (H : Hp) (Q : Option Int → Hp → Prop), Inv X pins σ H s → t σ H Q →
    wpAny (model X.prog X.w) X.A (evalPart e X.env) (fun u s' => ∃ o H', Inv X pins σ H' s' ∧ IsPart u o ∧ Q o H') X.xe s
noncomputable def tNoPart : TO := fun _ H Q => Q none H
noncomputable def tPart (t : TE) : TO := fun σ H Q => t σ H fun x H1 => ∃ i, x = .int i ∧ Q (some i) H1
theorem intsAre_of {ns : List Int} : ∀ {us : List Value}, Vals (ns.map V.int) us → IntsAre us ns := by
  induction ns with
  | nil => intro us r; rw [List.map_nil] at r; cases r; exact .nil
  | cons n ns ih =>
    intro us r
    rw [List.map_cons] at r
    cases r with
    | cons r1 r2 =>
      obtain ⟨t, e⟩ := r1
      subst e
      exact .cons n t (ih r2)
section
variable {X : Cx} {e : Expr} {te : TE} {lo hi : Option Expr} {tl th : TO} {pos p2 : Pos}
theorem po_none : PO X none tNoPart := by
  intro pins s σ H Q I h
  rw [evalPart_none]
  exact wpAny_pure ⟨none, H, I, .none, h⟩
theorem po_some (h : PE X e te) : PO X (some e) (tPart te) := by
  intro pins s σ H Q I hw
  rw [evalPart_some]
  refine thn (h pins s σ H _ I hw) fun u s1 zq => L2.el5 zq fun x H1 I1 r1 q1 => ?_
  obtain ⟨i, rfl, q⟩ := q1
  obtain ⟨t, rfl⟩ := r1
  exact ⟨some i, H1, I1, .int i t, q⟩
noncomputable def SlR (X : Cx) (r : V → Option Int → Option Int → Hp → VK → Prop) : Prop :=
  ∀ (pins : List (Addr × Obj)) (s : Shared) (σ : St) (H : Hp) (x : V) (v vl vu : Value) (lo hi : Option Int) (sl : Addr) (Q : VK), Inv X pins σ H s → RelV x v → s.heap.IsSliceOf sl vl vu .none → IsPart vl lo → IsPart vu hi → r x lo hi H Q →
    ∃ T id, typeLookup (.type T) "__getitem__" = pure (some (.builtin id)) ∧ s.TypeIs v T ∧ wpAny (model X.prog X.w) X.A (getItem v (.ref sl)) (EP X pins σ Q) X.xe s
theorem SlR.or {r r' : V → Option Int → Option Int → Hp → VK → Prop} (h : SlR X r) (h' : SlR X r') : SlR X (fun x lo hi H Q => r x lo hi H Q ∨ r' x lo hi H Q) := by
  intro pins s σ H x v vl vu lo hi sl Q I rx hs pl pu q
  rcases q with q | q
  · exact h pins s σ H x v vl vu lo hi sl Q I rx hs pl pu q
  · exact h' pins s σ H x v vl vu lo hi sl Q I rx hs pl pu q
noncomputable def tSl (r : V → Option Int → Option Int → Hp → VK → Prop) (te : TE) (tl th : TO) : TE := fun σ H Q => te σ H fun x H1 => tl σ H1 fun l H2 => th σ H2 fun u H3 => r x l u H3 Q
theorem pe_slice {r : V → Option Int → Option Int → Hp → VK → Prop} (hr : SlR X r) (he : PE X e te) (hl : PO X lo tl) (hu : PO X hi th) : PE X (.Subscript e (.Slice lo hi none p2) pos) (tSl r te tl th) := by
  intro pins s σ H Q I h
  refine Subscript_ (thn (he pins s σ H _ I h) fun v s1 zq => L2.el5 zq fun x H1 I1 r1 q1 => ?_)
  refine wpAny_Slice (thn (hl pins s1 σ H1 _ I1 q1) fun vl s2 zq => L2.el5 zq fun l H2 I2 pl q2 => thn (hu pins s2 σ H2 _ I2 q2) fun vu s3 zq => L2.el5 zq fun u H3 I3 pu q3 => ?_)
  rw [evalPart_none]
  refine wpAny_pure ?_
  have I4 : Inv X pins σ H3 { s3 with heap := s3.heap.push { cls := .type "slice", data := .fields #[vl, vu, .none] } } := I3.kept (t' := s3.toks) fun b ob q => Heap.get?_push_of_some _ q
  obtain ⟨T, id, hT, ht, hg⟩ := hr pins { s3 with heap := s3.heap.push { cls := .type "slice", data := .fields #[vl, vu, .none] } } σ H3 x v vl vu l u s3.heap.objs.size Q I4 r1 (Heap.IsSliceOf.new ..) pl pu q3
  show wpAny (model X.prog X.w) X.A (subscriptTail e (.Slice lo hi none p2) v (.ref s3.heap.objs.size)) (EP X pins σ Q) X.xe { s3 with heap := s3.heap.push { cls := .type "slice", data := .fields #[vl, vu, .none] } }
  exact tail_any (ops := [.ref s3.heap.objs.size, v]) ht hT hg (by with_unfolding_all rfl)
noncomputable def cutV (xs : List V) (lo hi : Option Int) : List V := (xs.drop (HT.sIx xs.length 0 lo)).take (HT.sIx xs.length xs.length hi - HT.sIx xs.length 0 lo)
theorem cutV_length (xs : List V) (lo hi : Option Int) : (cutV xs lo hi).length ≤ xs.length := by
  unfold cutV
  rw [List.length_take, List.length_drop]
  (first|lia|omega)
noncomputable def rSlT (K : PySem.W.Frag) : V → Option Int → Option Int → Hp → VK → Prop := fun x lo hi H Q => ∃ a xs, x = .ref a ∧ SqT K H a xs ∧
  ¬ (HT.sIx xs.length 0 lo = 0 ∧ HT.sIx xs.length xs.length hi = xs.length) ∧ ∀ p, H p = none → Q (.ref p) (upd H p (.tup (cutV xs lo hi)))
theorem sl_tup : SlR X (rSlT X.K) := by
  intro pins s σ H x v vl vu lo hi sl Q I rx hs pl pu h
  obtain ⟨a, xs, rfl, hx, hw, q⟩ := h
  cases rx
  obtain ⟨its, r, ht, hz⟩ := I.tuple hx
  have hlen : its.toArray.size = xs.length := by rw [List.size_toArray]; exact r.length.symm
  refine ⟨"tuple", _, PyProof.Rows.slot_tuple_getitem.lookup, ht.typeIs, ?_⟩
  refine HT.getItem_tuple_cut ht hs pl pu (by rw [hlen]; exact hw) ?_ (by rw [hlen]; exact hz)
  rw [hlen]
  refine ⟨.ref s.heap.objs.size, _, I.laid (t' := s.toks) (o := .tup (cutV xs lo hi)) (fun b ob q => Heap.get?_push_of_some _ q) (Nat.le_refl _) ?_, rfl, q _ (I.hok.fresh (Nat.le_refl _))⟩
  exact ⟨Nat.le_trans (cutV_length xs lo hi) hz, _, (r.drop (HT.sIx xs.length 0 lo)).take (HT.sIx xs.length xs.length hi - HT.sIx xs.length 0 lo), IsTup.new _ _⟩
end
end L2
namespace L2
open PySem PySem.Spec PyProof.Rows
noncomputable def ixN (n : Nat) (i : Int) : Option Nat := if 0 ≤ i then (if i < n then some i.toNat else none) else if -(n : Int) ≤ i then some (i + n).toNat else none
noncomputable def atI {α : Type} (xs : List α) (i : Int) : Option α := (ixN xs.length i).bind fun j => xs[j]?
theorem ixN_seq {n : Nat} {i : Int} {j : Nat} (h : ixN n i = some j) : seqIndex? i n = some j ∧ j < n ∧ -(n : Int) ≤ i ∧ i < n := by
  unfold ixN at h
  by_cases h0 : 0 ≤ i
  · rw [if_pos h0] at h
    by_cases h1 : i < n
    · rw [if_pos h1] at h
      have e : i.toNat = j := Option.some.inj h
      exact ⟨by rw [seqIndex_of h0 h1, e], by (first|lia|omega), by (first|lia|omega), h1⟩
    · rw [if_neg h1] at h; cases h
  · rw [if_neg h0] at h
    by_cases h1 : -(n : Int) ≤ i
    · rw [if_pos h1] at h
      have e : (i + n).toNat = j := Option.some.inj h
      exact ⟨by rw [seqIndex_neg (by (first|lia|omega)) h1, e], by (first|lia|omega), h1, by (first|lia|omega)⟩
    · rw [if_neg h1] at h; cases h
theorem atI_get {α : Type} {xs : List α} {i : Int} {v : α} (h : atI xs i = some v) : ∃ j, seqIndex? i xs.length = some j ∧ xs[j]? = some v ∧ j < xs.length ∧ -(xs.length : Int) ≤ i ∧ i < xs.length := by
  unfold atI at h
  cases e : ixN xs.length i with
  | none => rw [e] at h; cases h
  | some j =>
    rw [e] at h
    obtain ⟨h1, h2, h3, h4⟩ := ixN_seq e
    exact ⟨j, h1, h, h2, h3, h4⟩
noncomputable def PlainIx (b : Expr) : Prop := ∀ o i, subscripted b false o i = operate [o, i] (getItem o i)
noncomputable def IxR (X : Cx) (r : R2) : Prop :=
  ∀ (value slice : Expr) (pins : List (Addr × Obj)) (s : Shared) (σ : St) (H : Hp) (x y : V) (v u : Value) (Q : VK), Inv X pins σ H s → RelV x v → RelV y u → r x y H Q →
    subscripted slice false v u = operate [v, u] (getItem v u) → wpAny (model X.prog X.w) X.A (subscriptTail value slice v u) (EP X pins σ Q) X.xe s
noncomputable def MtR (X : Cx) (id : String) (r : V → List V → Hp → VK → Prop) : Prop :=
  ∀ (pins : List (Addr × Obj)) (s : Shared) (σ : St) (H : Hp) (x : V) (xs : List V) (v : Value) (us : List Value) (Q : VK), Inv X pins σ H s → RelV x v → Vals xs us → r x xs H Q →
    wpAny (model X.prog X.w) X.A (call (.builtin id) (v :: us)) (EP X pins σ Q) X.xe s
section
variable {X : Cx} {a b : Expr} {ta tb : TE} {pos : Pos}
theorem pe_ix {r : R2} (hr : IxR X r) (ha : PE X a ta) (hb : PE X b tb) (hs : PlainIx b) : PE X (.Subscript a b pos) (tOp r ta tb) := by
  intro pins s σ H Q I h
  exact Subscript_ (binT ha hb I h fun v u s2 x y H2 I2 rx ry q => hr a b pins s2 σ H2 x y v u Q I2 rx ry q (hs _ _))
noncomputable def rIxL (K : PySem.W.Frag) : R2 := fun x y H Q => ∃ p xs i v, x = .ref p ∧ y = .int i ∧ SqL K H p xs ∧ atI xs i = some v ∧ Q v H
noncomputable def rIxT (K : PySem.W.Frag) : R2 := fun x y H Q => ∃ p xs i v, x = .ref p ∧ y = .int i ∧ SqT K H p xs ∧ atI xs i = some v ∧ Q v H
theorem ix_list : IxR X (rIxL X.K) := by
  intro value slice pins s σ H x y v u Q I rx ry h hs
  obtain ⟨p, xs, i, z, rfl, rfl, hq, he, q⟩ := h
  cases rx
  obtain ⟨t, rfl⟩ := ry
  obtain ⟨its, r, pl, hz⟩ := I.list hq
  obtain ⟨j, h1, h2, h3, h4, h5⟩ := atI_get he
  obtain ⟨w, ew, rw'⟩ := r.get h2
  have hl := r.length
  have hn := line63
  have fin : EP X pins σ Q w s := ⟨z, H, I, rw', q⟩
  by_cases h0 : 0 ≤ i
  · have hj : i.toNat = j := by
      rw [seqIndex_of h0 h5] at h1
      exact Option.some.inj h1
    exact item_listR pl.isList h0 (by (first|lia|omega)) (by rw [hj]; simpa using ew) fin hs
  · have hj : (i + (its.toArray.size : Int)).toNat = j := by
      rw [seqIndex_neg (by (first|lia|omega)) h4] at h1
      rw [List.size_toArray, ← hl]
      exact Option.some.inj h1
    exact subscriptTail_builtinR (x := w) pl.isList.typeIs slot_list_getitem.lookup
      (wpAny_getItem_list_neg (Q := fun r s' => r = w ∧ EP X pins σ Q r s') pl.isList (by (first|lia|omega)) (by rw [List.size_toArray] <;> (first|lia|omega)) (by (first|lia|omega)) (by rw [hj]; simpa using ew) ⟨rfl, fin⟩) hs
theorem ix_tup : IxR X (rIxT X.K) := by
  intro value slice pins s σ H x y v u Q I rx ry h hs
  obtain ⟨p, xs, i, z, rfl, rfl, hq, he, q⟩ := h
  cases rx
  obtain ⟨t, rfl⟩ := ry
  obtain ⟨its, r, pl, hz⟩ := I.tuple hq
  obtain ⟨j, h1, h2, h3, h4, h5⟩ := atI_get he
  obtain ⟨w, ew, rw'⟩ := r.get h2
  have hl := r.length
  have hn := line63
  have fin : EP X pins σ Q w s := ⟨z, H, I, rw', q⟩
  exact subscriptTail_builtinR (x := w) pl.typeIs slot_tuple_getitem.lookup
    (getItem_tuple (j := j) (Q := fun r s' => r = w ∧ EP X pins σ Q r s') pl (by (first|lia|omega)) (by (first|lia|omega)) (by rw [List.size_toArray, ← hl]; exact h1) (by simpa using ew) ⟨rfl, fin⟩) hs
theorem Inv.lst {pins : List (Addr × Obj)} {σ : St} {H : Hp} {s : Shared} {p : Addr} {xs : List V} (I : Inv X pins σ H s) (h : H p = some (.lst xs)) :
    ∃ (its : List Value) (n : Nat), Vals xs its ∧ s.heap.get? p = some { cls := .type "list", data := .seq its.toArray n } ∧ xs.length ≤ sizeLine := by
  obtain ⟨z, its, n, r, e⟩ := I.hok p _ h
  exact ⟨its, n, r, e, z⟩
theorem slice_bounds (lo hi : Option Int) (n : Nat) : (sliceBounds lo hi none n).1 = ((HT.sIx n 0 lo : Nat) : Int) ∧ (sliceBounds lo hi none n).2.1 = ((HT.sIx n n hi : Nat) : Int) ∧ (sliceBounds lo hi none n).2.2 = 1 := by
  refine ⟨?_, ?_, rfl⟩
  · cases lo with
    | none => simp [sliceBounds, HT.sIx]
    | some i =>
      simp only [sliceBounds, HT.sIx, Option.getD_none, show (1 : Int) > 0 by decide, if_true]
      by_cases h : i < 0
      · simp only [h, if_true] <;> (first|lia|omega)
      · simp only [h, if_false] <;> (first|lia|omega)
  · cases hi with
    | none => simp [sliceBounds, HT.sIx]
    | some i =>
      simp only [sliceBounds, HT.sIx, Option.getD_none, show (1 : Int) > 0 by decide, if_true]
      by_cases h : i < 0
      · simp only [h, if_true] <;> (first|lia|omega)
      · simp only [h, if_false] <;> (first|lia|omega)
theorem slicePick_cut (its : List Value) (lo hi : Option Int) : slicePick its.toArray lo hi none = ((its.drop (HT.sIx its.length 0 lo)).take (HT.sIx its.length its.length hi - HT.sIx its.length 0 lo)).toArray := by
  obtain ⟨h1, h2, h3⟩ := slice_bounds lo hi its.toArray.size
  unfold slicePick
  rw [h1, h2, h3]
  simp only [sliceRange_one, pick_run, List.size_toArray] <;> rfl
noncomputable def rSlL (K : PySem.W.Frag) : V → Option Int → Option Int → Hp → VK → Prop := fun x lo hi H Q => ∃ a xs, x = .ref a ∧ SqL K H a xs ∧ ∀ p, H p = none → Q (.ref p) (upd H p (.lst (cutV xs lo hi)))
theorem sl_list : SlR X (rSlL X.K) := by
  intro pins s σ H x v vl vu lo hi sl Q I rx hs pl pu h
  obtain ⟨a, xs, rfl, hx, q⟩ := h
  cases rx
  obtain ⟨its, r, ht, hz⟩ := I.list hx
  have hlen := r.length
  refine ⟨"list", _, slot_list_getitem.lookup, ht.isList.typeIs, ?_⟩
  refine wpAny_getItem_list_slice ht.isList hs pl pu .none (by simp) ?_ (by rw [List.size_toArray] <;> (first|lia|omega))
  rw [slicePick_cut, ← hlen]
  refine ⟨.ref s.heap.objs.size, _, I.laid (t' := s.toks) (o := .lst (cutV xs lo hi)) (fun b ob q => Heap.get?_push_of_some _ q) (Nat.le_refl _) ?_, rfl, q _ (I.hok.fresh (Nat.le_refl _))⟩
  exact ⟨Nat.le_trans (cutV_length xs lo hi) hz, _, 0, (r.drop (HT.sIx xs.length 0 lo)).take (HT.sIx xs.length xs.length hi - HT.sIx xs.length 0 lo), Heap.get?_push_size _ rfl⟩
theorem call_len_seq : CallR X (.builtin "len") (fun xs H Q => ∃ p ys, xs = [.ref p] ∧ (SqL X.K H p ys ∨ SqT X.K H p ys) ∧ Q (.int ys.length) H) := by
  intro pins s σ H xs us Q I r h
  obtain ⟨p, ys, rfl, hq, q⟩ := h
  obtain ⟨u, rfl, rx⟩ := vals1 r
  cases rx
  have hn := line63
  rcases hq with hq | hq
  · obtain ⟨its, r', pl, hz⟩ := I.list hq
    have hlen := r'.length
    exact Calls.call_len_list pl.isList (by simp only [List.size_toArray] <;> (first|lia|omega)) ⟨.int ys.length, H, I.tok _, ⟨s.toks + 1, by rw [List.size_toArray, hlen]⟩, q⟩
  · obtain ⟨its, r', pl, hz⟩ := I.tuple hq
    have hlen := r'.length
    exact len_tuple pl (by simp only [List.size_toArray] <;> (first|lia|omega)) ⟨.int ys.length, H, I.tok _, ⟨s.toks + 1, by rw [List.size_toArray, hlen]⟩, q⟩
theorem CallR.or {f : Value} {r r' : List V → Hp → VK → Prop} (h : CallR X f r) (h' : CallR X f r') : CallR X f (fun xs H Q => r xs H Q ∨ r' xs H Q) := by
  intro pins s σ H xs us Q I rs q
  rcases q with q | q
  · exact h pins s σ H xs us Q I rs q
  · exact h' pins s σ H xs us Q I rs q
theorem call_list_of : CallR X (.type "list") (fun xs H Q => ∃ p ys, xs = [.ref p] ∧ (SqL X.K H p ys ∨ SqT X.K H p ys) ∧ ∀ l, H l = none → Q (.ref l) (upd H l (.lst ys))) := by
  intro pins s σ H xs us Q I r h
  obtain ⟨p, ys, rfl, hq, q⟩ := h
  obtain ⟨u, rfl, rx⟩ := vals1 r
  cases rx
  have fin : ∀ (its : List Value), Vals ys its → ys.length ≤ sizeLine → ∀ (h' : Heap) (c' : Nat), (∀ b o', s.heap.get? b = some o' → h'.get? b = some o') →
      h'.get? s.heap.objs.size = some { cls := .type "list", dict := none, data := .seq its.toArray c', slots := #[] } → EP X pins σ Q (.ref s.heap.objs.size) { s with heap := h' } := fun its r' hz h' c' kp e =>
    ⟨.ref s.heap.objs.size, _, I.laid (t' := s.toks) kp (Nat.le_refl _) (show ObjOk X.prog X.w _ h' _ (.lst ys) from ⟨hz, its, c', r', e⟩), rfl, q _ (I.hok.fresh (Nat.le_refl _))⟩
  rcases hq with hq | hq
  · obtain ⟨its, r', pl, hz⟩ := I.list hq
    have hlen := r'.length
    obtain ⟨o, ho, hc, n, hd⟩ := pl.isList
    exact call_list_seq p (.inl rfl) ho hc hd (fun h' c' kp e => fin its r' hz h' c' kp e) (by simp only [List.size_toArray] <;> (first|lia|omega))
  · obtain ⟨its, r', pl, hz⟩ := I.tuple hq
    have hlen := r'.length
    obtain ⟨o, ho, hc, n, hd⟩ := pl
    exact call_list_seq p (.inr rfl) ho hc hd (fun h' c' kp e => fin its r' hz h' c' kp e) (by simp only [List.size_toArray] <;> (first|lia|omega))
theorem call_tuple_of : CallR X (.type "tuple") (fun xs H Q => ∃ p ys, xs = [.ref p] ∧ ((SqL X.K H p ys ∧ ∀ l, H l = none → Q (.ref l) (upd H l (.tup ys))) ∨ (SqT X.K H p ys ∧ Q (.ref p) H))) := by
  intro pins s σ H xs us Q I r h
  obtain ⟨p, ys, rfl, h⟩ := h
  obtain ⟨u, rfl, rx⟩ := vals1 r
  cases rx
  rcases h with ⟨hq, q⟩ | ⟨hq, q⟩
  · obtain ⟨its, r', pl, hz⟩ := I.list hq
    have hlen := r'.length
    refine call_tuple_list pl.isList (fun h' kp => ?_) (by simp only [List.size_toArray] <;> (first|lia|omega))
    have I1 : Inv X pins σ H { s with heap := h' } := I.kept (t' := s.toks) kp
    have I2 : Inv X pins σ (upd H h'.objs.size (.tup ys)) { s with heap := h'.push { cls := .type "tuple", data := .seq its.toArray } } :=
      I1.laid (t' := s.toks) (fun b o e => Heap.get?_push_of_some _ e) (Nat.le_refl _) (show ObjOk X.prog X.w _ _ _ (.tup ys) from ⟨hz, its, r', IsTup.new _ _⟩)
    exact ⟨.ref h'.objs.size, _, I2, rfl, q _ (I1.hok.fresh (Nat.le_refl _))⟩
  · obtain ⟨its, r', pl, hz⟩ := I.tuple hq
    exact call_tuple_same pl ⟨.ref p, H, I, rfl, q⟩
noncomputable def tyV (K : PySem.W.Frag) (T : String) (x : V) (H : Hp) : Prop := match x with
  | .str _ => T = "str"
  | .int _ => T = "int"
  | .ref p => (T = "list" ∧ ∃ xs, SqL K H p xs) ∨ (T = "tuple" ∧ ∃ o, K.lookup p = some o ∧ o.cls = .type "tuple" ∧ o.dict = none) ∨
      (T = "dict" ∧ ((∃ kvs, H p = some (.dK kvs)) ∨ ∃ kvs, H p = some (.dT kvs))) ∨ (T = "set" ∧ ∃ S n, H p = some (.set S n))
  | _ => False
theorem tyV_is {pins : List (Addr × Obj)} {σ : St} {H : Hp} {s : Shared} {T : String} {x : V} {v : Value} (I : Inv X pins σ H s) (r : RelV x v) (ty : tyV X.K T x H) :
    s.TypeIs v T ∧ ∀ a, v = .ref a → ∃ ob, s.heap.get? a = some ob ∧ ob.dict = none := by
  cases x with
  | str z =>
    obtain ⟨t, rfl⟩ := r
    cases (show T = "str" from ty)
    exact ⟨typeIs_str s z t, fun _ e => nomatch e⟩
  | int i =>
    obtain ⟨t, rfl⟩ := r
    cases (show T = "int" from ty)
    exact ⟨typeIs_int s i t, fun _ e => nomatch e⟩
  | ref p =>
    cases r
    rcases ty with ⟨rfl, xs, hq⟩ | ⟨rfl, o, hk, hc, hd⟩ | ⟨rfl, hk⟩ | ⟨rfl, S, n, hk⟩
    · obtain ⟨its, _, pl, _⟩ := I.list hq
      refine ⟨pl.isList.typeIs, fun a e => ?_⟩
      cases e
      obtain ⟨o, n, e, c, hd, _⟩ := pl
      exact ⟨o, e, hd⟩
    · refine ⟨⟨o, I.kIn p o hk, hc⟩, fun a e => ?_⟩
      cases e
      exact ⟨o, I.kIn _ o hk, hd⟩
    · have z : ∃ o, s.heap.get? p = some o ∧ o.ExactDict := by
        rcases hk with ⟨kvs, hk⟩ | ⟨kvs, hk⟩
        · obtain ⟨_, _, _, _, o, _, _, e, ex, _⟩ := I.hok p _ hk
          exact ⟨o, e, ex⟩
        · obtain ⟨_, _, _, _, o, _, _, e, ex, _⟩ := I.hok p _ hk
          exact ⟨o, e, ex⟩
      obtain ⟨o, e, ex⟩ := z
      refine ⟨⟨o, e, ex.1⟩, fun a e2 => ?_⟩
      cases e2
      exact ⟨o, e, ex.2.1⟩
    · obtain ⟨o, _, _, _, e, ex, _⟩ := I.hok p _ hk
      refine ⟨⟨o, e, ex.1⟩, fun a e2 => ?_⟩
      cases e2
      exact ⟨o, e, ex.2.1⟩
  | _ => exact False.elim ty
noncomputable def tBM (K : PySem.W.Frag) (T : String) (r : V → List V → Hp → VK → Prop) (to : TE) (t : TA) : TE := fun σ H Q => to σ H fun x H1 => tyV K T x H1 ∧ t σ H1 fun xs H2 => r x xs H2 Q
variable {o e : Expr} {es : List Expr} {to : TE} {t : TA} {name : Str} {apos cpos : Pos} {T id : String} {r : V → List V → Hp → VK → Prop}
theorem pe_bm (pa : PlainAttrs T) (slot : Slot T name id) (hty : typeOf (.builtin id) = pure (.type "method_descriptor")) (hm : MtR X id r) (ho : PE X o to) (ha : PA X (e :: es) t)
    (hbase : autoParam (attributeBase o name X.env (eval o X.env) = eval o X.env) L2.aR._auto_1)
    (hfew : autoParam (((backTo cpos (starEach (e :: es) X.env)).all (fun x => !x.1) && (backToKw cpos (keywordEach [] X.env)).all (fun x => x.1.isSome)
      && decide ((e :: es).length + ([] : List Keyword).length + (if ([] : List Keyword).isEmpty then 0 else 1) < 30)) = true) L2.aR._auto_1)
    (hline : autoParam ((apos.endLine == cpos.line) = true) L2.aR._auto_1) (hs : autoParam (starEach (e :: es) X.env = (false, eval e X.env) :: starEach es X.env) L2.aR._auto_1) (hplain : autoParam ((backTo cpos (starEach es X.env)).any (·.1) = false) L2.aR._auto_1) :
    PE X (.Call (.Attribute o name apos) (e :: es) [] cpos) (tBM X.K T r to t) := by
  intro pins s σ H Q I h
  refine wpAny_Call_method_late hbase hfew hline rfl (thn (ho pins s σ H _ I h) fun v s1 ⟨x, H1, I1, r1, ty, q1⟩ => ?_)
  obtain ⟨h1, h2⟩ := tyV_is I1 r1 ty
  refine ⟨T, id, pa, slot, hty, h1, h2, ?_⟩
  have hA := ha cpos pins s1 σ H1 _ I1 q1
  rw [hs] at hA ⊢
  refine Calls.callWith_builtin (by show (false || (backTo cpos (starEach es X.env)).any (·.1)) = false; rw [hplain] <;> rfl) (Calls.evalArgs_plain ?_)
  exact thn hA fun us s2 zq => L2.el5 zq fun vs H2 I2 r2 q2 => hm pins s2 σ H2 x vs v us Q I2 r1 r2 q2
end
end L2
namespace L2
open PySem PySem.Spec PyProof.Rows
noncomputable def MtM (X : Cx) (id : String) (r : V → List V → Hp → VK → Prop) : Prop :=
  ∀ (pins : List (Addr × Obj)) (s : Shared) (σ : St) (H : Hp) (x : V) (xs : List V) (v : Value) (us : List Value) (Q : VK), Inv X pins σ H s → RelV x v → Vals xs us → r x xs H Q →
    wpAny (model X.prog X.w) X.A (call (.builtin id) (v :: us)) (EP X pins σ Q) X.xe s
theorem Vals.one : ∀ {x : V} {us : List Value}, Vals [x] us → ∃ u, us = [u] ∧ RelV x u
  | _, _, .cons r .nil => ⟨_, rfl, r⟩
theorem Vals.two : ∀ {x y : V} {us : List Value}, Vals [x, y] us → ∃ u v, us = [u, v] ∧ RelV x u ∧ RelV y v
  | _, _, _, .cons r (.cons q .nil) => ⟨_, _, rfl, r, q⟩
theorem Vals.rep {xs : List V} {us : List Value} (h : Vals xs us) : ∀ k : Nat, Vals (List.replicate k xs).flatten (List.replicate k us).flatten
  | 0 => .nil
  | k + 1 => by
    rw [List.replicate_succ, List.replicate_succ, List.flatten_cons, List.flatten_cons]
    exact Vals.append h (Vals.rep h k)
theorem foldl_rep (its : List Value) : ∀ (k : Nat) (acc : List Value),
    List.foldl (fun x1 x2 => x1 ++ x2) acc.toArray (List.replicate k its.toArray) = (acc ++ (List.replicate k its).flatten).toArray
  | 0, acc => by simp
  | k + 1, acc => by
    have e : acc.toArray ++ its.toArray = (acc ++ its).toArray := by simp
    have e2 : (acc ++ its) ++ (List.replicate k its).flatten = acc ++ (List.replicate (k + 1) its).flatten := by
      rw [List.replicate_succ, List.flatten_cons, List.append_assoc]
    rw [← e2, ← foldl_rep its k (acc ++ its), ← e, List.replicate_succ, List.foldl_cons]
section
variable {X : Cx} {pins : List (Addr × Obj)} {σ : St} {H : Hp} {s : Shared} {l b : Addr} {xs ys zs : List V}
theorem Inv.lset {its its' : List Value} {n : Nat} {f : Array Value → Array Value} {t' : Nat} (I : Inv X pins σ H s) (hH : H l = some (.lst xs))
    (e : s.heap.get? l = some { cls := .type "list", data := .seq its.toArray n }) (hf : f its.toArray = its'.toArray) (hv : Vals ys its') (hz : ys.length ≤ sizeLine) :
    Inv X pins σ (upd H l (.lst ys)) { s with heap := s.heap.update l (Obj.mapSeq f), toks := t' } := by
  have q := PySem.IsL.update e f
  rw [hf] at q
  refine I.write (x := l) (e := l) (by rw [hH]; exact trivial) (.inl rfl) (fun b' u hb hu => (Heap.get?_update_other s.heap (Obj.mapSeq f) (Ne.symm hb)).trans hu) ⟨_, q⟩ ?_
  exact ⟨hz, its', _, hv, q⟩
theorem Inv.lnew {its : List Value} {t' : Nat} (I : Inv X pins σ H s) (hv : Vals ys its) (hz : ys.length ≤ sizeLine) :
    Inv X pins σ (upd H s.heap.objs.size (.lst ys)) { s with heap := s.heap.push { cls := .type "list", data := .seq its.toArray }, toks := t' } :=
  I.laid (fun _ _ q => Heap.get?_push_of_some _ q) (Nat.le_refl _) ⟨hz, its, 0, hv, Heap.get?_push_size _ rfl⟩
theorem Inv.fresh (I : Inv X pins σ H s) : H s.heap.objs.size = none := I.hok.fresh (Nat.le_refl _)
theorem Inv.lstM (I : Inv X pins σ H s) (hH : H l = some (.lst xs)) : xs.length ≤ sizeLine ∧ ∃ (its : List Value) (n : Nat), Vals xs its ∧ xs.length = its.length ∧ s.heap.get? l = some { cls := .type "list", data := .seq its.toArray n } := by
  obtain ⟨z, its, n, r, e⟩ := I.hok l _ hH
  exact ⟨z, its, n, r, r.length, e⟩
theorem notLongL {n : Nat} (h : n ≤ sizeLine) : Builtin.List.listTooLong n = false := by
  unfold Builtin.List.listTooLong
  exact decide_eq_false (by (first|lia|omega))
end
section
variable {X : Cx}
noncomputable def rAppend : V → List V → Hp → VK → Prop := fun x vs H Q => ∃ l xs y, x = .ref l ∧ vs = [y] ∧ H l = some (.lst xs) ∧ xs.length < sizeLine ∧ Q .non (upd H l (.lst (xs ++ [y])))
theorem mt_append : MtM X "list.append" rAppend := by
  intro pins s σ H x vs v us Q I rx rv h
  obtain ⟨l, xs, y, rfl, rfl, hH, hz, q⟩ := h
  cases rx
  obtain ⟨u, rfl, ru⟩ := rv.one
  obtain ⟨z, its, n, r, hl, e⟩ := I.lstM hH
  refine call_meets F.slot_list_append ⟨_, e, rfl⟩ F.entry_list_append (F.args_list_append_2 _ _) (PySem.list_append l its.toArray n u (by rw [List.size_toArray]; (first|lia|omega))) ⟨e, ?_⟩
  refine ⟨.non, _, I.lset (its' := its ++ [u]) hH e (by simp) (r.append (.cons ru .nil)) ?_, rfl, q⟩
  rw [List.length_append, List.length_singleton]
  (first|lia|omega)
noncomputable def rCat : R2 := fun x y H Q => ∃ l b xs zs, x = .ref l ∧ y = .ref b ∧ H l = some (.lst xs) ∧ H b = some (.lst zs) ∧ xs.length + zs.length ≤ sizeLine ∧ ∀ p, H p = none → Q (.ref p) (upd H p (.lst (xs ++ zs)))
theorem op_cat : OpR X (binaryOp .Add) rCat := by
  intro pins s σ H x y v u Q I rx ry h
  obtain ⟨l, b, xs, zs, rfl, rfl, hH, hB, hz, q⟩ := h
  cases rx
  cases ry
  obtain ⟨z, its, n, r, hl, e⟩ := I.lstM hH
  obtain ⟨z2, its2, n2, r2, hl2, e2⟩ := I.lstM hB
  refine PySem.P.add_list e e2 ?_ (by rw [List.size_toArray, List.size_toArray]; (first|lia|omega))
  have ea : its.toArray ++ its2.toArray = (its ++ its2).toArray := by simp
  rw [ea]
  exact ⟨.ref _, _, I.lnew (t' := s.toks) (r.append r2) (by rw [List.length_append]; (first|lia|omega)), rfl, q _ I.fresh⟩
noncomputable def rRep : R2 := fun x y H Q => ∃ l k xs, x = .ref l ∧ y = .int k ∧ H l = some (.lst xs) ∧ -(2 ^ 63) ≤ k ∧ k < 2 ^ 63 ∧ xs.length * k.toNat ≤ sizeLine ∧
  ∀ p, H p = none → Q (.ref p) (upd H p (.lst (List.replicate k.toNat xs).flatten))
theorem len_rep {α : Type} (xs : List α) (k : Nat) : (List.replicate k xs).flatten.length = k * xs.length := by
  induction k with
  | zero => simp
  | succ k ih => rw [List.replicate_succ, List.flatten_cons, List.length_append, ih, Nat.succ_mul, Nat.add_comm]
theorem op_rep : OpR X (binaryOp .Mult) rRep := by
  intro pins s σ H x y v u Q I rx ry h
  obtain ⟨l, k, xs, rfl, rfl, hH, h1, h2, hz, q⟩ := h
  cases rx
  obtain ⟨t, rfl⟩ := ry
  obtain ⟨z, its, n, r, hl, e⟩ := I.lstM hH
  have hlen : its.toArray.size * k.toNat ≤ sizeLine := by rw [List.size_toArray, ← hl]; exact hz
  have hcap : ¬ its.toArray.size * k.toNat > (2 ^ 63 - 1) / 8 := by
    have : (sizeLine : Nat) ≤ (2 ^ 63 - 1) / 8 := by decide
    (first|lia|omega)
  have hfit : ¬ (!Builtin.List.listFitsIndex k) = true := by
    rw [fitsIndex_both h1 h2]
    exact Bool.false_ne_true
  have hlong : ¬ Builtin.List.listTooLong (its.toArray.size * k.toNat) = true := by
    rw [notLongL hlen]
    exact Bool.false_ne_true
  have hnew : List.foldl (fun x1 x2 => x1 ++ x2) #[] (List.replicate (if its.toArray.isEmpty = true then 0 else k.toNat) its.toArray) = (List.replicate k.toNat its).flatten.toArray := by
    have f0 : ∀ m : Nat, List.foldl (fun x1 x2 => x1 ++ x2) #[] (List.replicate m its.toArray) = (List.replicate m its).flatten.toArray := fun m => by
      have := foldl_rep its m []
      rw [List.nil_append] at this
      exact this
    rw [f0]
    cases its with
    | nil => simp
    | cons a r' => rw [if_neg (by simp)]
  refine wpAny_binaryOp_repeat_ref (T := "list") (U := "int") (by decide) ⟨_, e, rfl⟩ (fun s' => typeIs_int s' k t) noFill_list_mul F.fills_int_mul F.slot_int_rmul repeat_list F.slot_int_index.lookup
    (call_meets F.slot_int_rmul (typeIs_int s k t) F.entry_int_rmul (F.args_int_rmul_2 _ _) (int___rmul___int_list k t l its.toArray n)
      ⟨e, rfl, ⟨_, e, rfl⟩, call_meets F.slot_list_mul ⟨_, e, rfl⟩ F.entry_list_mul (F.args_list_mul_2 _ _) (AutoListH.list___mul___list_int_3 l its.toArray n k t hfit hcap hlong) ⟨e, ?_⟩⟩)
  rw [hnew]
  exact ⟨.ref _, _, I.lnew (t' := s.toks) (r.rep k.toNat) (by rw [len_rep, Nat.mul_comm]; exact hz), rfl, q _ I.fresh⟩
end
section
variable {prog : Program} {w : World} {A : Around} {E : Value → Shared → Prop} {s : Shared}
end
section
variable {X : Cx}
end
end L2
namespace Att
open PySem PySem.W PySem.Calls PyProof.Rows
theorem ints_of_wellAll {P : Params} {h : Heap} : ∀ (ns : List Int) (vs : List Value), WellAll P h vs (ns.map WData.int) → IntsAre vs ns := by
  intro ns
  induction ns with
  | nil =>
    intro vs w
    rw [List.map_nil] at w
    cases w
    exact .nil
  | cons n ns ih =>
    intro vs w
    rw [List.map_cons] at w
    cases w with
    | cons a b =>
      cases a
      exact .cons _ _ (ih _ b)
theorem script_of {l : OpenLaw} {n : Nat} (hn : l.most = some n) {P : Params} {h : Heap} {args : List WData} {vals : List Value}
    (hpre : l.row.toRowW.claim.pre args = true) (hwl : WellAll P h vals args) :
    ∃ a vs ns, vals = [Value.ref a] ∧ args = [WData.list (ns.map WData.int)] ∧ h.get? a = some { cls := .type "list", data := .seq vs.toArray } ∧ IntsAre vs ns ∧ ns.length ≤ n := by
  have hsh : WShape.hasAll [] args [.list .int] = true := (pre_splitW hpre).1
  have hc : l.pre.holds [] { args := args } = true := (pre_splitW hpre).2
  obtain ⟨d, r, rfl, h1, h2⟩ := hasAllW_cons hsh
  obtain rfl := hasAllW_nil h2
  obtain ⟨xs, rfl, h3⟩ := hasW_list h1
  obtain ⟨ns, rfl⟩ := items_int h3
  have hlen : ns.length ≤ n := by
    unfold OpenLaw.pre at hc
    have h4 : (WTm.not (.lt (.lit (.int (n : Int))) (.len (.arg 0)))).holds [] { args := [.list (ns.map .int)] } = true := by
      have h4 := (holds_andW hc).1
      rw [hn] at h4
      exact h4
    have h5 := condW_of h4 (w_not (w_lt w_lit (w_len_list (w_arg rfl))))
    rw [List.length_map] at h5
    refine Nat.le_of_not_lt fun q => ?_
    have q' : (n : Int) < ((ns.length : Nat) : Int) := by (first|lia|omega)
    first
      | (rw [decide_eq_true q'] at h5; exact absurd h5 (by decide))
      | (simp at h5; (first|lia|omega))
  cases hwl with
  | cons w1 w2 =>
    cases w2
    cases w1 with
    | list ho hall => exact ⟨_, _, ns, rfl, rfl, ho, ints_of_wellAll ns _ hall, hlen⟩
theorem post_true (l : OpenLaw) (args : List WData) : l.row.toRowW.claim.post args (.bool true) args = true :=
  postW_of (r := l.row.toRowW) (X := (true == true))
    (show WShape.has [] (.bool true) .bool = true by first | rfl | decide | simp [WShape.has, WShape.arms, WShape.armsAll])
    (show (WTm.eq .res (.lit (.bool true))).value [] { args := args, res := some (.bool true), after := args } = some (.bool (true == true)) from w_eq_bool (w_res rfl) w_lit) rfl
theorem attach_call {l : OpenLaw} {n : Nat} {q : Program} {loose : List Str} {XP : (Str → Option Value) → Heap → Prop} {YP : World → Heap → Prop} {d : DefRec}
    (hn : l.most = some n) (hdf : d.params.defaults = [])
    (call : ∀ (w : World) (s₀ s₁ : Shared) (mg mb : Str → Option Value) (fa : Addr) (o : Obj) (pm cd doc : Value) (a : Addr) (vs : List Value) (ns : List Int),
      Ground q loose [] XP w s₀ mg mb s₁.heap → YP w s₁.heap →
      s₁.heap.get? fa = some o → o.data = .func (docDef d.name d.params d.body d.scope pm cd doc) → s₁.heap.CodeRec cd d.name → mg d.name = some (.ref fa) →
      s₁.heap.get? a = some { cls := .type "list", data := .seq vs.toArray } → IntsAre vs ns → ns.length ≤ n → s₁.gens = #[] →
      codeAny (model l.prog w) callerA (.call (.ref fa) ⟨[.ref a], []⟩) (fun r s' => r = .ok (.ret (.bool true)) ∧ OldK s₁.heap s'.heap ∧ s'.os = s₁.os ∧ AllBare s'.gens) s₁) :
    WalkO q loose XP YP l.row.toRowW d [] (fun f vs => PySem.call f vs) := by
  intro w s₀ s₁ mg mb G Y fa o pm cd doc dV kV ho hd hcd hD hmg hg args vals as hpre hlay hrd hwl hlo
  obtain rfl : dV = .none := Dflts.none hD hdf
  obtain rfl : kV = .none := Dflts.noKw hD
  obtain ⟨a, vs, ns, rfl, rfl, hobj, hints, hlen⟩ := script_of hn hpre hwl
  refine enter_call (codeAny_mono (call w s₀ s₁ mg mb fa o pm cd doc a vs ns G Y ho (fd_plain hd) hcd hmg hobj hints hlen hg) fun r s' hq => ?_)
  obtain ⟨rfl, h2, h3, h4⟩ := hq
  exact ⟨.inl ⟨.bool true, .bool true, [], rfl, fun _ => rfl, .bool true, post_true l _, fun _ => ⟨List.Pairwise.nil, fun _ hm => (nomatch hm)⟩⟩, h2, h3, h4⟩
section
variable {prog : Program} {w : World} {A : Around} {E : Value → Shared → Prop} {s : Shared} {K : Frag}
end
end Att
namespace L2
open PySem PySem.Spec PyProof.Rows
theorem vals_ints : ∀ {vs : List Value} {ns : List Int}, IntsAre vs ns → Vals (ns.map V.int) vs
  | _, _, .nil => .nil
  | _, _, .cons n t h => .cons ⟨t, rfl⟩ (vals_ints h)
noncomputable def Only (H : Hp) : Prop := ∀ b, H b = none ∨ ∃ o xs, H b = some (.frz o (.lst xs))
theorem law_call {P : Program} {w : World} {K : PySem.W.Frag} {mg mb : Str → Option Value} {CX : CXT} {k : Nat} {fa a : Addr} {fd : FuncData} {x : Str} {sp : Sp} {s₁ : Shared} {vs : List Value} {ns : List Int}
    (KX : K.In s₁.heap) (hns : s₁.heap.Ns mainGlobals mg) (hb : s₁.heap.Ns builtinsNs mb) (hbb : ∀ x : Str, x ≠ "__name__" → mb x = bootBuiltins x) (hlim : s₁.heap.NoLimit) (hg : s₁.gens = #[])
    (ha : s₁.heap.get? a = some { cls := .type "list", data := .seq vs.toArray }) (hi : IntsAre vs ns) (hl : ns.length ≤ sizeLine) (hr : Room k callerA)
    (F : ∀ base : Heap, K.In base → base.Ns mainGlobals mg → FnOk P w K mg base CX k fa fd [x] sp) (hbind : ∀ (s : Shared) (u : Value), BindsTo s fd ⟨[u], []⟩ [(x, u)])
    (hsp : ∀ H : Hp, Only H → SqL K H a (ns.map V.int) → sp [.ref a] H (fun v _ => v = .bl true) fun _ _ _ => False)
    (hCX : ∀ H e s', CX [] H s₁ (fun _ _ _ => False) e s' → False) :
    codeAny (model P w) callerA (.call (.ref fa) ⟨[.ref a], []⟩) (fun r s' => r = .ok (.ret (.bool true)) ∧ OldK s₁.heap s'.heap ∧ s'.os = s₁.os ∧ AllBare s'.gens) s₁ := by
  have rv := vals_ints hi
  have lenV := hi.length
  have core : ∀ H : Hp, Only H → SqL K H a (ns.map V.int) → HOk P w H s₁.heap → (∀ b, H b ≠ none → b = a) → (H a ≠ none → K.lookup a = none) →
      codeAny (model P w) callerA (.call (.ref fa) ⟨[.ref a], []⟩) (fun r s' => r = .ok (.ret (.bool true)) ∧ OldK s₁.heap s'.heap ∧ s'.os = s₁.os ∧ AllBare s'.gens) s₁ := by
    intro H hO hS hok hA hK
    have base_of : ∀ {b : Addr} {o : Obj}, s₁.heap.get? b = some o → H b = none → (hidT s₁.heap H).get? b = some o := fun e n => hidT_get e n
    have noA : ∀ {b : Addr} {o : Obj} {es : Array DictEntry} {ep : Nat}, s₁.heap.get? b = some o → o.data = .dict es ep → H b = none := fun {b o es ep} e d => by
      cases q : H b with
      | none => rfl
      | some u =>
        have e' : b = a := hA b (by rw [q]; simp)
        subst e'
        rw [ha] at e; cases e
        have d' : Data.seq vs.toArray _ = Data.dict es ep := d
        cases d'
    have nsK : ∀ {b : Addr} {m : Str → Option Value}, s₁.heap.Ns b m → (hidT s₁.heap H).Ns b m := fun {b m} ⟨o, es, ep, e, d, r⟩ => ⟨o, es, ep, base_of e (noA e d), d, r⟩
    have hKb : K.In (hidT s₁.heap H) := fun b o e => base_of (KX b o e) (by
      cases q : H b with
      | none => rfl
      | some u =>
        have e' : b = a := hA b (by rw [q]; simp)
        subst e'
        rw [hK (by rw [q]; simp)] at e; cases e)
    have hM : Mod K mg (hidT s₁.heap H) := ⟨hKb, nsK hns, ⟨mb, nsK hb, hbb⟩, let ⟨mc, h1, h2⟩ := hlim; ⟨mc, nsK h1, h2⟩⟩
    have e0 : Env0 P w K mg (hidT s₁.heap H) callerA [] s₁ H := ⟨rfl, hM, fun b o e => of_hidT e, Nat.le_of_eq (hidT_size _ _), trivial, fun b hb => absurd (show b ∈ ([] : List Addr) from hb) (by simp), hok, .of_eq hg⟩
    refine codeAny_mono ((F _ hKb (nsK hns)).run callerA [] s₁ H ⟨[.ref a], []⟩ [.ref a] [.ref a] _ _ hr e0 (hbind s₁ (.ref a)) (.cons rfl .nil) (hsp H hO hS)) fun r s' h => ?_
    cases r with
    | error e => exact (hCX H e s' h).elim
    | ok fl =>
      cases fl with
      | next => exact False.elim h
      | brk => exact False.elim h
      | cont => exact False.elim h
      | ret u =>
        obtain ⟨v, H', os, bare, un, hok', r', q⟩ := h
        have q' : v = .bl true := q
        subst q'
        obtain rfl : u = Value.bool true := r'
        refine ⟨rfl, OldK.of_keep fun b o e => ?_, os, bare⟩
        cases q : H b with
        | none => exact un.keep b o e q (by intro z; exact absurd (show b ∈ ([] : List Addr) from z) (by simp)) (by simp)
        | some u =>
          rcases hO b with z | ⟨ob, xs, z⟩
          · rw [q] at z; cases z
          · have z2 := un.frzs b ob _ z
            obtain ⟨e1, _⟩ := hok b _ z
            obtain ⟨e2, _⟩ := hok' b _ z2
            rw [e] at e1; cases e1
            exact e2
  cases hk : K.lookup a with
  | some o =>
    have e := KX a o hk
    rw [ha] at e
    cases e
    refine core (fun _ => none) (fun _ => .inl rfl) (.inr ⟨_, vs.toArray, _, hk, rfl, rfl, rfl, by rw [List.size_toArray, lenV]; exact hl, by simpa using rv⟩) (fun b u z => by have z' : (none : Option HO) = some u := z; cases z') (fun b z => absurd rfl z) fun z => absurd rfl z
  | none =>
    refine core (fun b => if b = a then some (.frz { cls := .type "list", data := .seq vs.toArray } (.lst (ns.map V.int))) else none) (fun b => ?_) (.inl (.inr ⟨{ cls := .type "list", data := .seq vs.toArray }, if_pos rfl⟩)) (fun b u z => ?_) (fun b z => ?_) fun _ => hk
    · by_cases hb : b = a
      · exact .inr ⟨_, _, if_pos hb⟩
      · exact .inl (if_neg hb)
    · by_cases hb : b = a
      · have z' := (if_pos hb).symm.trans z
        cases z'
        subst hb
        exact ⟨ha, by rw [List.length_map]; exact hl, vs, _, rv, ha⟩
      · have z' := (if_neg hb).symm.trans z
        cases z'
    · by_cases hb : b = a
      · exact hb
      · exact absurd (if_neg hb) z
end L2
namespace L2
open PySem PySem.Spec PyProof.Rows
theorem walk_of {l : PySem.W.OpenLaw} {n k : Nat} {q : Program} {loose : List Str} {XP : (Str → Option Value) → Heap → Prop} {YP : World → Heap → Prop} {d : DefRec} {K : Params → PySem.W.Frag} {CX : World → CXT} {sp : World → Sp} {x : Str}
    (hn : l.most = some n) (hn2 : n ≤ sizeLine) (hdf : d.params.defaults = []) (hr : Room k callerA)
    (hY : ∀ (w : World) (h : Heap), YP w h → (K w.params).In h)
    (F : ∀ (w : World) (mg : Str → Option Value) (fa : Addr) (h : Heap), (K w.params).In h → h.Ns mainGlobals mg → mg d.name = some (.ref fa) →
      ∃ fd : FuncData, (∀ (s : Shared) (u : Value), BindsTo s fd ⟨[u], []⟩ [(x, u)]) ∧
        ∀ base : Heap, (K w.params).In base → base.Ns mainGlobals mg → FnOk l.prog w (K w.params) mg base (CX w) k fa fd [x] (sp w))
    (hsp : ∀ (w : World) (H : Hp) (a : Addr) (ns : List Int), ns.length ≤ n → Only H → SqL (K w.params) H a (ns.map V.int) → sp w [.ref a] H (fun v _ => v = .bl true) fun _ _ _ => False)
    (hCX : ∀ (w : World) (H : Hp) (s : Shared) (e : Value) (s' : Shared), CX w [] H s (fun _ _ _ => False) e s' → False) :
    PySem.W.WalkO q loose XP YP l.row.toRowW d [] (fun f vs => PySem.call f vs) := by
  refine Att.attach_call hn hdf fun w s₀ s₁ mg mb fa o pm cd doc a vs ns G Y ho hd hcd hmg hobj hints hlen hg => ?_
  have KX := hY w _ Y
  obtain ⟨fd, hb, hF⟩ := F w mg fa _ KX G.T.g hmg
  exact law_call KX G.T.g G.T.b G.T.builtins G.T.nolimit hg hobj hints (Nat.le_trans hlen hn2) hr hF hb (fun H hO hS => hsp w H a ns hlen hO hS) fun H e s' => hCX w H s₁ e s'
end L2
namespace L2
open PySem PySem.Spec PyProof.Rows
noncomputable def inClass (s : Stmt) (j : Nat) : Stmt := match s with
  | .ClassDef _ _ _ body _ _ _ _ _ _ _ => body.getD j (.Pass ⟨0, 0, 0, 0⟩)
  | _ => .Pass ⟨0, 0, 0, 0⟩
noncomputable def defArgs (s : Stmt) : Arguments := match s with
  | .FunctionDef _ a _ _ _ _ _ _ _ _ => a
  | _ => { posonlyargs := [], args := [], vararg := none, kwonlyargs := [], kw_defaults := [], kwarg := none, defaults := [] }
noncomputable def defBody (s : Stmt) : List Stmt := match s with
  | .FunctionDef _ _ b _ _ _ _ _ _ _ => b
  | _ => []
noncomputable def defScope (s : Stmt) : Scope := match s with
  | .FunctionDef _ _ _ _ _ _ sc _ _ _ => sc
  | _ => { kind := .function, names := [], isGenerator := false, isCoroutine := false }
noncomputable abbrev CX0 : CXT := fun _ _ _ _ _ _ => False
noncomputable abbrev E0 : XK := fun _ _ _ => False
structure Fun (K : PySem.W.Frag) (x qual : Str) (st : Stmt) (f : Addr) (fd : FuncData) : Prop where
  ex : ∃ (oc : Value) (od : Option Addr) (kV doc pm : Value) (an : Option Addr) (cdv ct : Value) (osl : Array (Option Value)),
    fd = PySem.W.fnOf x qual (defArgs st) (defBody st) (defScope st) .none kV doc pm an cdv ct ∧ K.lookup f = some ⟨oc, od, .func fd, osl⟩ ∧ PySem.W.codeIn K cdv qual = true
  kp : PySem.W.keepIn K (.ref f) = true
section
variable {P : Program} {w : World} {K : PySem.W.Frag} {mg : Str → Option Value} {base : Heap}
theorem fun_mk {x qual : Str} {st : Stmt} {f : Addr} {oc : Value} {od an : Option Addr} {osl : Array (Option Value)} {kV doc pm cdv ct : Value} (l : K.lookup f = some ⟨oc, od, .func (PySem.W.fnOf x qual (defArgs st) (defBody st) (defScope st) .none kV doc pm an cdv ct), osl⟩)
    (c : PySem.W.codeIn K cdv qual = true) (k : PySem.W.keepIn K (.ref f) = true) : Fun K x qual st f (PySem.W.fnOf x qual (defArgs st) (defBody st) (defScope st) .none kV doc pm an cdv ct) := ⟨⟨oc, od, kV, doc, pm, an, cdv, ct, osl, rfl, l, c⟩, k⟩
end
section
variable {X : Cx}
theorem pv (i : Nat) {x : Str} {pos : Pos} (hN : autoParam (X.N[i]? = some x) L2.aR._auto_1) (hv : Vis X.env.scope x := by first | exact Or.inl rfl | exact Or.inr (Or.inl rfl) | exact Or.inr (Or.inr rfl)) (hd : autoParam ((x == ("__debug__" : Str)) = false) L2.aD._auto_1)
    (hcd : autoParam ((x == ("__classdict__" : Str)) = false) L2.aD._auto_1) : PE X (.Name x pos) (tVar i) := pe_var hN hv hd hcd
end
theorem iteF {A B : Prop} (h : B) : if false = true then A else B := by
  rw [if_neg Bool.false_ne_true]
  exact h
theorem iteT {A B : Prop} (h : A) : if true = true then A else B := by
  rw [if_pos rfl]
  exact h
noncomputable def Same (H H' : Hp) : Prop := ∀ b o, H b = some o → H' b = some o
theorem Same.refl (H : Hp) : Same H H := fun _ _ h => h
theorem Same.trans {H H1 H2 : Hp} (a : Same H H1) (b : Same H1 H2) : Same H H2 := fun c o h => b c o (a c o h)
end L2
namespace L2
open PySem PySem.Spec PyProof.Rows
theorem same_new {H : Hp} {p : Addr} (h : H p = none) (o : HO) : Same H (upd H p o) := fun b u q => by rw [upd_ne (ne_of_none q h)]; exact q
noncomputable def SameBut (l : Addr) (H H' : Hp) : Prop := ∀ b o, b ≠ l → H b = some o → H' b = some o
theorem SameBut.upd {H : Hp} {l : Addr} {o : HO} : SameBut l H (upd H l o) := fun b u n q => by rw [upd_ne n]; exact q
noncomputable def Sq (K : PySem.W.Frag) (H : Hp) (a : Addr) (xs : List V) : Prop := SqL K H a xs ∨ SqT K H a xs
theorem Sq.l {K : PySem.W.Frag} {H : Hp} {a : Addr} {xs : List V} (h : H a = some (.lst xs)) : Sq K H a xs := .inl (SqL.of h)
theorem Sq.t {K : PySem.W.Frag} {H : Hp} {a : Addr} {xs : List V} (h : H a = some (.tup xs)) : Sq K H a xs := .inr (SqT.of h)
section
variable {X : Cx}
noncomputable def rLen (K : PySem.W.Frag) : List V → Hp → VK → Prop := fun xs H Q => ∃ p ys, xs = [.ref p] ∧ Sq K H p ys ∧ Q (.int ys.length) H
theorem call_lenQ : CallR X (.builtin "len") (rLen X.K) := call_len_seq
noncomputable def rIxQ (K : PySem.W.Frag) : R2 := fun x y H Q => ∃ p xs i v, x = .ref p ∧ y = .int i ∧ Sq K H p xs ∧ atI xs i = some v ∧ Q v H
theorem ix_sq : IxR X (rIxQ X.K) := by
  intro value slice pins s σ H x y v u Q I rx ry h hs
  obtain ⟨p, xs, i, z, e1, e2, hq | hq, ha, q⟩ := h
  · exact ix_list value slice pins s σ H x y v u Q I rx ry ⟨p, xs, i, z, e1, e2, hq, ha, q⟩ hs
  · exact ix_tup value slice pins s σ H x y v u Q I rx ry ⟨p, xs, i, z, e1, e2, hq, ha, q⟩ hs
noncomputable def rListOf (K : PySem.W.Frag) : List V → Hp → VK → Prop := fun xs H Q => ∃ p ys, xs = [.ref p] ∧ Sq K H p ys ∧ ∀ l H', H l = none → Same H H' → H' l = some (.lst ys) → Q (.ref l) H'
theorem call_listQ : CallR X (.type "list") (rListOf X.K) := by
  intro pins s σ H xs us Q I r h
  obtain ⟨p, ys, e, hq, q⟩ := h
  exact call_list_of pins s σ H xs us Q I r ⟨p, ys, e, hq, fun l hl => q l _ hl (same_new hl _) upd_same⟩
noncomputable def rIsT (K : PySem.W.Frag) : List V → Hp → VK → Prop := fun xs H Q => ∃ x T t b, xs = [x, .ty T] ∧ TyOf K H x t ∧ PySem.W.kitOne K t (.type T) = some b ∧ Q (.bl b) H
theorem call_isT : CallR X (.builtin "isinstance") (rIsT X.K) := by
  intro pins s σ H xs us Q I r h
  obtain ⟨x, T, t, b, rfl, ty, e, q⟩ := h
  obtain ⟨u, z, rfl, rx, rz⟩ := vals2 r
  cases rz
  exact isinst_ok I rx ty e fun tk => ⟨.bl b, H, I.tok tk, rfl, q⟩
end
end L2
namespace L2
open PySem PySem.Spec PyProof.Rows
section
variable {X : Cx} {tg : Expr}
noncomputable def iSq (K : PySem.W.Frag) (tl : TE) : TI := fun σ H R => tl σ H fun x H1 => ∃ a, x = .ref a ∧ (((∃ xs, SqL K H1 a xs) ∧ R (Itl K a) H1) ∨ ((∃ xs, SqT K H1 a xs) ∧ R (Itt K a) H1))
theorem pi_sq {l : Expr} {tl : TE} (hl : PE X l tl) : PI X tg l (iSq X.K tl) := by
  intro pins s σ H R I h
  refine thn (hl pins s σ H _ I h) fun v s1 zq => L2.el5 zq fun x H1 I1 r1 q1 => ?_
  obtain ⟨a, e, q⟩ := q1
  subst e
  cases r1
  rcases q with ⟨⟨xs, hq⟩, q⟩ | ⟨⟨xs, hq⟩, q⟩
  · obtain ⟨its, rv, p, hz⟩ := I1.list hq
    refine wpAny_pyIter_list p.isList ?_
    refine ⟨s1.heap.objs.size, [s1.heap.objs.size], _, _, H1, rfl, I1.kept (t' := s1.toks) fun b o e => Heap.get?_push_of_some _ e, turn_list a _, ⟨_, Heap.get?_push_size _ rfl, rfl, rfl⟩, fun b hb => ?_, q⟩
    have e : b = s1.heap.objs.size := by simpa using hb
    subst e
    exact I1.fpOk (Nat.le_refl _) (I1.hok.fresh (Nat.le_refl _))
  · obtain ⟨its, rv, p, hz⟩ := I1.tuple hq
    refine wpAny_pyIter_tuple (show s1.heap.IsTuple a its.toArray from p) ?_
    refine ⟨s1.heap.objs.size, [s1.heap.objs.size], _, _, H1, rfl, I1.kept (t' := s1.toks) fun b o e => Heap.get?_push_of_some _ e, turn_tuple a _, ⟨_, Heap.get?_push_size _ rfl, rfl, rfl⟩, fun b hb => ?_, q⟩
    have e : b = s1.heap.objs.size := by simpa using hb
    subst e
    exact I1.fpOk (Nat.le_refl _) (I1.hok.fresh (Nat.le_refl _))
end
section
variable {X : Cx}
noncomputable def rSlLQ (K : PySem.W.Frag) : V → Option Int → Option Int → Hp → VK → Prop := fun x lo hi H Q => ∃ a xs, x = .ref a ∧ SqL K H a xs ∧ ∀ p H', H p = none → Same H H' → H' p = some (.lst (cutV xs lo hi)) → Q (.ref p) H'
theorem sl_listQ : SlR X (rSlLQ X.K) := by
  intro pins s σ H x v vl vu lo hi sl Q I rx hs pl pu h
  obtain ⟨a, xs, e, hx, q⟩ := h
  exact sl_list pins s σ H x v vl vu lo hi sl Q I rx hs pl pu ⟨a, xs, e, hx, fun p hp => q p _ hp (same_new hp _) upd_same⟩
theorem cutV_whole {xs : List V} {lo hi : Option Int} (h : HT.sIx xs.length 0 lo = 0 ∧ HT.sIx xs.length xs.length hi = xs.length) : cutV xs lo hi = xs := by
  unfold cutV
  rw [h.1, h.2]
  simp
end
end L2
namespace HT
open PySem PyProof.Rows
section
variable {prog : Program} {w : World} {A : Around} {E : Value → Shared → Prop} {s : Shared}
theorem getItem_tuple_all {t sl : Addr} {items : Array Value} {vl vu : Value} {lo hi : Option Int} {Q : Value → Shared → Prop} (ht : IsTup s.heap t items) (hs : s.heap.IsSliceOf sl vl vu .none) (pl : IsPart vl lo) (pu : IsPart vu hi)
    (hw : sIx items.size 0 lo = 0 ∧ sIx items.size items.size hi = items.size)
    (h : Q (.ref t) s) : wpAny (model prog w) A (getItem (.ref t) (.ref sl)) Q E s := by
  obtain ⟨os, hos, hcs, hds⟩ := id hs
  have hTs : s.TypeIs (.ref sl) "slice" := ⟨os, hos, hcs⟩
  unfold getItem
  try with_reducible refine wpAny_holding ?_
  first | refine wpAny_bind (wpAny_pure ?_) | skip
  refine wpAny_bind (wpAny_sequenceKey ht.typeIs (by decide) ?_)
  refine wpAny_bind (wpAny_callSpecial?_slot (name := Str.ofString "__getitem__") ht.typeIs PyProof.Rows.slot_tuple_getitem
    (wpAny_call_entry PyProof.Rows.slot_tuple_getitem ht.typeIs entry_tuple_getitem ?_ (args_tuple_getitem _ _)))
  show wpAny _ _ (Builtin.Tuple.tupleItemsOf (.ref t) >>= _) _ _ s
  refine wpAny_bind (tupleItemsOf_ ht ?_)
  refine wpAny_bind (wpAny_typeOf hTs ?_)
  rw [if_pos (by decide)]
  refine wpAny_bind (sliceApplied_gen hs pl pu ?_)
  have hyes : ((((sIx items.size 0 lo : Nat) : Int) == 0 && (1 : Int) == 1 && (sIx items.size items.size hi - sIx items.size 0 lo) == items.size) = true) := by
    rw [hw.1, hw.2]
    simp
  show wpAny _ _ (if (((sIx items.size 0 lo : Nat) : Int) == 0 && (1 : Int) == 1 && (sIx items.size items.size hi - sIx items.size 0 lo) == items.size) = true then _ else _) _ _ s
  rw [if_pos hyes]
  refine wpAny_bind (m := Builtin.Tuple.tupleIsExact _) (wpAny_bind (wpAny_typeOf ht.typeIs (wpAny_pure ?_)))
  rw [if_pos (by decide)]
  exact wpAny_bind (wpAny_rule (wpAny_pure ⟨_, rfl, wpAny_pure h⟩))
end
end HT
namespace L2
open PySem PySem.Spec PyProof.Rows
section
variable {X : Cx}
end
end L2
namespace L2
open PySem PySem.Spec PyProof.Rows
section
variable {K : PySem.W.Frag} {σ : St} {H : Hp} {D : Ends} {t u : TS} {te ta tb : TE} {c d : TT} {Q : VK} {P : Bool → Hp → Prop} {v x y : V} {i j : Int} {n : Nat} {b : Bool} {g : TG} {G : St → Hp → Prop} {L : List V → Hp → Prop} {tl : TA}
noncomputable def aLst (xs : List V) (H : Hp) (Q : VK) : Prop := xs.length ≤ sizeLine ∧ ∀ p H2, H p = none → Same H H2 → H2 p = some (.lst xs) → Q (.ref p) H2
noncomputable def aTup (xs : List V) (H : Hp) (Q : VK) : Prop := xs.length ≤ sizeLine ∧ ∀ p H2, H p = none → Same H H2 → H2 p = some (.tup xs) → Q (.ref p) H2
noncomputable def tLstQ (t : TA) : TE := fun σ H Q => t σ H fun xs H1 => aLst xs H1 Q
noncomputable def tTupQ (t : TA) : TE := fun σ H Q => t σ H fun xs H1 => aTup xs H1 Q
noncomputable def rAppendQ : V → List V → Hp → VK → Prop := fun x vs H Q => ∃ l xs y, x = .ref l ∧ vs = [y] ∧ H l = some (.lst xs) ∧ xs.length < sizeLine ∧ ∀ H', SameBut l H H' → H' l = some (.lst (xs ++ [y])) → Q .non H'
end
section
variable {X : Cx} {es : List Expr} {t : TA} {pos : Pos}
theorem pe_lstQ (h : PA X es t) : PE X (.List es pos) (tLstQ t) := by
  intro pins s σ H Q I hq
  refine wpAny_List_spliced (thn (h pos pins s σ H _ I hq) fun us s1 ⟨xs, H1, I1, r, z, q⟩ => ⟨by rw [← r.length]; exact z, ?_⟩)
  have hf : H1 s1.heap.objs.size = none := I1.hok.fresh (Nat.le_refl _)
  refine ⟨.ref s1.heap.objs.size, upd H1 s1.heap.objs.size (.lst xs), I1.laid (t' := s1.toks) (fun b u e => Heap.get?_push_of_some _ e) (Nat.le_refl _) ?_, rfl, q _ _ hf (same_new hf _) upd_same⟩
  exact ⟨z, us, 0, r, Heap.get?_push_size _ rfl⟩
theorem pe_tupQ {x1} (h : PA X es t) : PE X (.Tuple es x1 pos) (tTupQ t) := by
  intro pins s σ H Q I hq
  refine wpAny_Tuple_spliced (thn (h pos pins s σ H _ I hq) fun us s1 ⟨xs, H1, I1, r, z, q⟩ => ⟨by rw [← r.length]; exact z, ?_⟩)
  have hf : H1 s1.heap.objs.size = none := I1.hok.fresh (Nat.le_refl _)
  refine ⟨.ref s1.heap.objs.size, upd H1 s1.heap.objs.size (.tup xs), I1.laid (t' := s1.toks) (fun b u e => Heap.get?_push_of_some _ e) (Nat.le_refl _) ?_, rfl, q _ _ hf (same_new hf _) upd_same⟩
  exact ⟨z, us, r, ⟨_, Heap.get?_push_size _ rfl, rfl, _, rfl⟩⟩
theorem mt_appendQ : MtR X "list.append" rAppendQ := by
  intro pins s σ H x vs v us Q I rx rv h
  obtain ⟨l, xs, y, e1, e2, hH, hz, q⟩ := h
  exact mt_append pins s σ H x vs v us Q I rx rv ⟨l, xs, y, e1, e2, hH, hz, q _ SameBut.upd upd_same⟩
end
end L2
namespace My
open PySem
noncomputable def Bt (x : Str) (T : String) : Prop := bootBuiltins x = some (.builtin T)
noncomputable def Tt (x : Str) (T : String) : Prop := bootBuiltins x = some (.type T)
theorem boot_len : Bt "len" "len" := by unfold Bt; decide +kernel
theorem boot_sum : Bt "sum" "sum" := by unfold Bt; decide +kernel
theorem boot_sorted : Bt "sorted" "sorted" := by unfold Bt; decide +kernel
theorem boot_isinstance : Bt "isinstance" "isinstance" := by unfold Bt; decide +kernel
theorem boot_int : Tt "int" "int" := by unfold Tt; decide +kernel
theorem boot_bool : Tt "bool" "bool" := by unfold Tt; decide +kernel
theorem boot_list : Tt "list" "list" := by unfold Tt; decide +kernel
theorem boot_tuple : Tt "tuple" "tuple" := by unfold Tt; decide +kernel
theorem boot_set : Tt "set" "set" := by unfold Tt; decide +kernel
structure Blt (mg : Str → Option Value) : Prop where
  len_ : mg "len" = none
  abs_ : mg "abs" = none
  max_ : mg "max" = none
  min_ : mg "min" = none
  sum_ : mg "sum" = none
  sorted_ : mg "sorted" = none
  isinstance_ : mg "isinstance" = none
  int_ : mg "int" = none
  bool_ : mg "bool" = none
  list_ : mg "list" = none
  tuple_ : mg "tuple" = none
  set_ : mg "set" = none
  reversed_ : mg "reversed" = none
  range_ : mg "range" = none
theorem blt_mk {K : PySem.W.Frag} {h : Heap} {mg : Str → Option Value} (X : K.In h) (G : h.Ns mainGlobals mg)
    (z : ∀ x ∈ (["len", "abs", "max", "min", "sum", "sorted", "isinstance", "int", "bool", "list", "tuple", "set", "reversed", "range"] : List Str), PySem.W.nsIn K mainGlobals x = some none) : Blt mg := by
  have f : ∀ x, PySem.W.nsIn K mainGlobals x = some none → mg x = none := fun x e => PySem.W.mg_none_of X G e
  exact ⟨f _ (z _ (by decide +kernel)), f _ (z _ (by decide +kernel)), f _ (z _ (by decide +kernel)), f _ (z _ (by decide +kernel)), f _ (z _ (by decide +kernel)), f _ (z _ (by decide +kernel)), f _ (z _ (by decide +kernel)),
    f _ (z _ (by decide +kernel)), f _ (z _ (by decide +kernel)), f _ (z _ (by decide +kernel)), f _ (z _ (by decide +kernel)), f _ (z _ (by decide +kernel)), f _ (z _ (by decide +kernel)), f _ (z _ (by decide +kernel))⟩
end My
namespace L2
open PySem PySem.Spec PyProof.Rows
structure Fd (K : PySem.W.Frag) (mg : Str → Option Value) (x : Str) (st : Stmt) (ps : List Str) : Prop where
  ex : ∃ f fd, Fun K x x st f fd ∧ mg x = some (.ref f) ∧ ∀ us : List Value, us.length = ps.length → bindArgs fd ⟨us, []⟩ = pure (ps.zip us)
section
variable {P : Program} {w : World} {K : PySem.W.Frag} {mg : Str → Option Value} {base : Heap} {x : Str} {st : Stmt} {N ps : List Str} {k : Nat} {sp : Sp}
theorem fd_mk {h : Heap} {f : Addr} {oc : Value} {od an : Option Addr} {osl : Array (Option Value)} {kV doc pm cdv ct : Value} (X : K.In h) (G : h.Ns mainGlobals mg) (a : PySem.W.nsIn K mainGlobals x = some (some (.ref f)))
    (l : K.lookup f = some ⟨oc, od, .func (PySem.W.fnOf x x (defArgs st) (defBody st) (defScope st) .none kV doc pm an cdv ct), osl⟩) (c : PySem.W.codeIn K cdv x = true) (kp : PySem.W.keepIn K (.ref f) = true)
    (b : ∀ (kV doc pm : Value) (an : Option Addr) (cdv ct : Value) (us : List Value), us.length = ps.length → bindArgs (PySem.W.fnOf x x (defArgs st) (defBody st) (defScope st) .none kV doc pm an cdv ct) ⟨us, []⟩ = pure (ps.zip us)) : Fd K mg x st ps :=
  ⟨f, _, fun_mk l c kp, PySem.W.mg_of X G a, b kV doc pm an cdv ct⟩
end
section
variable {X : Cx} {k : Nat} {ps : List Str} {sp : Sp} {x : Str} {p pos : Pos} {e : Expr} {es : List Expr} {t : TA}
end
end L2
namespace L2
open PySem PySem.Spec PyProof.Rows
section
variable {K : PySem.W.Frag} {σ : St} {H : Hp} {D : Ends} {g : TG} {tb : TS} {R : It → Hp → Prop} {j lo : Int} {ta : TA} {tl : TE}
end
end L2
namespace L2
open PySem PySem.Spec PyProof.Rows
section
variable {K : PySem.W.Frag} {H : Hp} {Q : VK} {x y : V} {i : Int} {p : Addr}
end
end L2
namespace L2
open PySem PySem.Spec PyProof.Rows
section
variable {X : Cx}
noncomputable def rCatQ : R2 := fun x y H Q => ∃ l b xs zs, x = .ref l ∧ y = .ref b ∧ H l = some (.lst xs) ∧ H b = some (.lst zs) ∧ xs.length + zs.length ≤ sizeLine ∧ ∀ p H', H p = none → Same H H' → H' p = some (.lst (xs ++ zs)) → Q (.ref p) H'
theorem op_catQ : OpR X (binaryOp .Add) rCatQ := by
  intro pins s σ H x y v u Q I rx ry h
  obtain ⟨l, b, xs, zs, e1, e2, h1, h2, hz, q⟩ := h
  exact op_cat pins s σ H x y v u Q I rx ry ⟨l, b, xs, zs, e1, e2, h1, h2, hz, fun p hp => q p _ hp (same_new hp _) upd_same⟩
noncomputable def rRepQ : R2 := fun x y H Q => ∃ l k xs, x = .ref l ∧ y = .int k ∧ H l = some (.lst xs) ∧ -(2 ^ 63) ≤ k ∧ k < 2 ^ 63 ∧ xs.length * k.toNat ≤ sizeLine ∧
  ∀ p H', H p = none → Same H H' → H' p = some (.lst (List.replicate k.toNat xs).flatten) → Q (.ref p) H'
theorem op_repQ : OpR X (binaryOp .Mult) rRepQ := by
  intro pins s σ H x y v u Q I rx ry h
  obtain ⟨l, k, xs, e1, e2, h1, h2, h3, hz, q⟩ := h
  exact op_rep pins s σ H x y v u Q I rx ry ⟨l, k, xs, e1, e2, h1, h2, h3, hz, fun p hp => q p _ hp (same_new hp _) upd_same⟩
theorem iter_sq {pins : List (Addr × Obj)} {σ : St} {H : Hp} {s : Shared} {a : Addr} {xs : List V} {A : Around} {E : Value → Shared → Prop} {R : Value → Shared → Prop} (I : Inv X pins σ H s) (hh : A.handled = none) (hq : Sq X.K H a xs)
    (h : ∀ (it : Addr) (fp wr : List Addr) (St : Nat → Heap → Prop) (its : List Value) (h2 : Heap), Vals xs its → Walks X.prog X.w A it fp wr its.length (fun i v => its[i]? = some v) St → St 0 h2 → (∀ b ∈ fp, b < h2.objs.size) →
      (∀ b o, s.heap.get? b = some o → h2.get? b = some o) → (∀ b ∈ wr, s.heap.get? b = none) → R (.ref it) { s with heap := h2 }) : wpAny (model X.prog X.w) A (pyIter (.ref a)) R E s := by
  have hnew : s.heap.get? s.heap.objs.size = none := by
    cases e : s.heap.get? s.heap.objs.size with
    | none => rfl
    | some o => exact absurd (Heap.lt_size e) (Nat.lt_irrefl _)
  rcases hq with hq | hq
  · obtain ⟨its, r, pl, hz⟩ := I.list hq
    have hl := pl.isList
    have hlt : a < s.heap.objs.size := by obtain ⟨_, e, _⟩ := hl; exact Heap.lt_size e
    refine wpAny_pyIter_list hl ?_
    have W := Walks.list (prog := X.prog) (w := X.w) (A := A) hh s.heap.objs.size a (Nat.ne_of_lt hlt) its.toArray
    have W' : Walks X.prog X.w A s.heap.objs.size [s.heap.objs.size, a] [s.heap.objs.size] its.length (fun i v => its[i]? = some v) (fun i h => h.IsListIter s.heap.objs.size a i ∧ h.IsList a its.toArray) := by simpa using W
    refine h _ _ _ _ its _ r W' ⟨⟨_, Heap.get?_push_size _ rfl, rfl, rfl⟩, hl.push _⟩ (fun b hb => ?_) (fun b o e => Heap.get?_push_of_some _ e) (fun b hb => ?_)
    · show b < (s.heap.push _).objs.size
      rw [Heap.size_push]
      simp only [List.mem_cons, List.not_mem_nil, or_false] at hb
      rcases hb with rfl | rfl
      · exact Nat.lt_succ_self _
      · exact Nat.lt_succ_of_lt hlt
    · simp only [List.mem_cons, List.not_mem_nil, or_false] at hb
      rw [hb]; exact hnew
  · obtain ⟨its, r, pl, hz⟩ := I.tuple hq
    have hl : s.heap.IsTuple a its.toArray := pl
    have hlt : a < s.heap.objs.size := by obtain ⟨_, e, _⟩ := hl; exact Heap.lt_size e
    refine wpAny_pyIter_tuple hl ?_
    have W := Walks.tuple (prog := X.prog) (w := X.w) (A := A) hh s.heap.objs.size a (Nat.ne_of_lt hlt) its.toArray
    have W' : Walks X.prog X.w A s.heap.objs.size [s.heap.objs.size, a] [s.heap.objs.size] its.length (fun i v => its[i]? = some v) (fun i h => h.IsTupleIter s.heap.objs.size a i ∧ h.IsTuple a its.toArray) := by simpa using W
    refine h _ _ _ _ its _ r W' ⟨⟨_, Heap.get?_push_size _ rfl, rfl, rfl⟩, ?_⟩ (fun b hb => ?_) (fun b o e => Heap.get?_push_of_some _ e) (fun b hb => ?_)
    · obtain ⟨o, e, z⟩ := hl
      exact ⟨o, Heap.get?_push_of_some _ e, z⟩
    · show b < (s.heap.push _).objs.size
      rw [Heap.size_push]
      simp only [List.mem_cons, List.not_mem_nil, or_false] at hb
      rcases hb with rfl | rfl
      · exact Nat.lt_succ_self _
      · exact Nat.lt_succ_of_lt hlt
    · simp only [List.mem_cons, List.not_mem_nil, or_false] at hb
      rw [hb]; exact hnew
theorem preSum_take (ns : List Int) : ∀ j, preSum (fun i => ns.getD i 0) j = (ns.take j).sum
  | 0 => by simp [preSum]
  | j + 1 => by
    rw [preSum, preSum_take ns j]
    by_cases h : j < ns.length
    · rw [List.getD_eq_getElem?_getD, List.getElem?_eq_getElem h, List.take_succ (i := j), List.getElem?_eq_getElem h, List.sum_append]
      simp
    · rw [List.take_of_length_le (by (first|lia|omega)), List.take_of_length_le (by (first|lia|omega)), List.getD_eq_getElem?_getD, List.getElem?_eq_none (by (first|lia|omega))]
      simp
theorem vals_ints_at {ns : List Int} {its : List Value} (r : Vals (ns.map V.int) its) {i : Nat} {v : Value} (e : its[i]? = some v) : ∃ t, v = .int (ns.getD i 0) t := by
  have hl := r.length
  rw [List.length_map] at hl
  have hi : i < ns.length := by
    have := (List.getElem?_eq_some_iff.mp e).1
    (first|lia|omega)
  obtain ⟨u, e', t, ru⟩ := Vals.get r (i := i) (x := .int (ns.getD i 0)) (by
    rw [List.getElem?_map, List.getElem?_eq_getElem hi, List.getD_eq_getElem?_getD, List.getElem?_eq_getElem hi]; rfl)
  rw [e] at e'
  cases e'
  exact ⟨t, ru⟩
noncomputable def rSum (K : PySem.W.Frag) : List V → Hp → VK → Prop := fun xs H Q => ∃ (p : Addr) (ns : List Int), xs = [.ref p] ∧ Sq K H p (ns.map V.int) ∧ Q (.int ns.sum) H
theorem call_sumQ (hc : X.calm = true) : CallR X (.builtin "sum") (rSum X.K) := by
  intro pins s σ H xs us Q I r h
  obtain ⟨p, ns, rfl, hq, q⟩ := h
  obtain ⟨u, rfl, rx⟩ := vals1 r
  cases rx
  refine call_sum_walkG (iter_sq I (I.ok.hd hc) hq fun it fp wr St its h2 rv W st hfp hk hw => ?_)
  refine ⟨it, fp, wr, its.length, _, St, fun i => ns.getD i 0, rfl, W, st, hfp, fun i v e => vals_ints_at rv e, fun h' tk t' hk' => ?_⟩
  have el : preSum (fun i => ns.getD i 0) its.length = ns.sum := by
    have := rv.length
    rw [List.length_map] at this
    rw [preSum_take, ← this, List.take_length]
  refine ⟨.int ns.sum, H, I.kept (t' := tk) fun b o e => ?_, ⟨t', by rw [el]⟩, q⟩
  exact hk' b o (fun hb => by rw [hw b hb] at e; cases e) (hk b o e)
end
section
variable {K : PySem.W.Frag} {H : Hp} {Q : VK} {x y v : V} {i : Int} {p : Addr} {n : Nat}
end
end L2
namespace L2
open PySem PySem.Spec PyProof.Rows
theorem closure_ok (env : Env) : ∀ (names : List (Str × NameKind)) (acc : List (Str × Addr)), (∀ y ∈ names, y.2 = .free → ∃ c, env.cells.lookup y.1 = some c) →
    (∀ y c, acc.lookup y = some c → env.cells.lookup y = some c) →
    ∃ cl, (forIn (m := Sem) names acc fun x r => match x with | (name, kind) => if (kind == .free) = true then do let c ← cellOf env name; pure (ForInStep.yield ((name, c) :: r)) else pure (ForInStep.yield r)) = pure cl ∧
      (∀ y c, cl.lookup y = some c → env.cells.lookup y = some c) ∧ (∀ y, ((acc.lookup y).isSome = true ∨ (y, NameKind.free) ∈ names) → (cl.lookup y).isSome = true)
  | [], acc, _, ha => ⟨acc, rfl, ha, fun y h => by
      rcases h with h | h
      · exact h
      · cases h⟩
  | (n, k) :: r, acc, hf, ha => by
    by_cases hk : k = .free
    · subst hk
      obtain ⟨c, hc⟩ := hf (n, .free) List.mem_cons_self rfl
      obtain ⟨cl, e, h1, h2⟩ := closure_ok env r ((n, c) :: acc) (fun y hy => hf y (List.mem_cons_of_mem _ hy)) (fun y d hd => by
        rw [List.lookup_cons] at hd
        cases hb : y == n with
        | true => rw [hb] at hd; cases hd; rw [eq_of_beq hb]; exact hc
        | false => rw [hb] at hd; exact ha y d hd)
      refine ⟨cl, ?_, h1, fun y h => h2 y ?_⟩
      · rw [List.forIn_cons]
        have e1 : cellOf env n = pure c := by unfold cellOf; rw [hc]
        show ((if (NameKind.free == NameKind.free) = true then do let c ← cellOf env n; pure (ForInStep.yield ((n, c) :: acc)) else pure (ForInStep.yield acc)) >>= _) = _
        rw [if_pos (by decide), e1, pure_bind, pure_bind]
        exact e
      · rcases h with h | h
        · refine .inl ?_
          rw [List.lookup_cons]
          cases hb : y == n with
          | true => rfl
          | false => exact h
        · rcases List.mem_cons.mp h with h | h
          · cases h
            refine .inl ?_
            rw [List.lookup_cons]
            have : (n == n) = true := by simp
            rw [this]; rfl
          · exact .inr h
    · obtain ⟨cl, e, h1, h2⟩ := closure_ok env r acc (fun y hy => hf y (List.mem_cons_of_mem _ hy)) ha
      refine ⟨cl, ?_, h1, fun y h => h2 y ?_⟩
      · rw [List.forIn_cons]
        have e1 : (k == NameKind.free) = false := by simpa using hk
        show ((if (k == NameKind.free) = true then do let c ← cellOf env n; pure (ForInStep.yield ((n, c) :: acc)) else pure (ForInStep.yield acc)) >>= _) = _
        rw [if_neg (by rw [e1]; exact Bool.false_ne_true), pure_bind]
        exact e
      · rcases h with h | h
        · exact .inl h
        · rcases List.mem_cons.mp h with h | h
          · cases h; exact absurd rfl hk
          · exact .inr h
theorem closureFor_ok {scope : Scope} {env : Env} (hf : ∀ y ∈ scope.names, y.2 = .free → ∃ c, env.cells.lookup y.1 = some c) :
    ∃ cl, closureFor scope env = pure cl ∧ (∀ y c, cl.lookup y = some c → env.cells.lookup y = some c) ∧ (∀ y, (y, NameKind.free) ∈ scope.names → (cl.lookup y).isSome = true) := by
  obtain ⟨cl, e, h1, h2⟩ := closure_ok env scope.names [] hf (fun y c h => by simp at h)
  refine ⟨cl, ?_, h1, fun y h => h2 y (.inr h)⟩
  exact (congrArg (fun z : Sem (List (Str × Addr)) => z >>= fun t => pure t) e).trans (pure_bind _ _)
section
variable {prog : Program} {w : World} {A : Around} {R : Result → Shared → Prop} {s : Shared}
noncomputable abbrev Fa : Value → Shared → Prop := fun _ _ => False
theorem comp_loop {elt target iter : Expr} {ifs : List Expr} {scope : Scope} {pos : Pos} {it acc : Value} {env : Env} (I : Nat → Shared → Prop)
    (turn : ∀ m t, I m t → wpAny (model prog w) A (pyNext it) (fun got t1 => match got with
      | none => R (.ok .next) t1
      | some v => wpAny (model prog w) A (letOwnedTupleGo target it v) (fun _ t1' => wpAny (model prog w) A (assign target env v) (fun _ t2 =>
          wpAny (model prog w) A (forIn ifs true fun z go => if go = true then do let yes ← isTrue z env (eval z env); pure (ForInStep.yield yes) else pure (ForInStep.yield go)) (fun ok t3 =>
            if ok = true then wpAny (model prog w) A (eval elt env) (fun x t4 =>
              wpAny (model prog w) A (call (.builtin "list.append") [acc, x]) (fun _ t5 => ∃ m', m' < m ∧ I m' t5) Fa t4) Fa t3
            else ∃ m', m' < m ∧ I m' t3) Fa t2) Fa t1') Fa t1) Fa t)
    (n : Nat) (h : I n s) : codeAny (model prog w) A (.compLoop (.ListComp elt [⟨target, iter, ifs, 0⟩] scope pos) 0 it acc env) R s := by
  refine codeAny_loop rfl I (fun m t hI => ?_) n h; show wpAny _ A ((compTurn (.ListComp elt [⟨target, iter, ifs, 0⟩] scope pos) 0 it acc env).onRaise (fun x => do noteFrame x env; theTreesLotGoes x)) _ _ t
  refine wpAny_noted ?_
  rw [compTurn_list]
  refine wpAny_bind (wpAny_standAt (wpAny_bind (wpAny_mono (turn m t hI) (fun r t1 k1 => ?_) fun _ _ h' => h'.elim)))
  cases r with
  | none => exact wpAny_pure k1
  | some v =>
    refine wpAny_bind (wpAny_mono k1 (fun _ t1' k1' => ?_) fun _ _ h' => h'.elim)
    refine wpAny_bind (wpAny_mono k1' (fun _ t2 k2 => wpAny_bind (wpAny_mono k2 (fun ok t3 k3 => ?_) fun _ _ h' => h'.elim)) fun _ _ h' => h'.elim)
    cases ok with
    | false => exact wpAny_pure ⟨rfl, k3⟩
    | true =>
      exact wpAny_bind (wpAny_bind (wpAny_mono k3 (fun x t4 k4 => wpAny_bind (wpAny_mono k4 (fun _ t5 k5 => wpAny_pure (wpAny_pure ⟨rfl, k5⟩)) fun _ _ h' => h'.elim)) fun _ _ h' => h'.elim))
end
end L2
namespace L2
open PySem PySem.Spec PyProof.Rows
noncomputable def blk (X : Cx) (scope : Scope) (cl : List (Str × Addr)) (C : Addr) (s : Shared) (H : Hp) (fp : List Addr) (pins : List (Addr × Obj)) (N : List Str) : Cx :=
  { X with N := N, s₀ := s, H₀ := H, env := compEnvC scope cl C X.env, outer := X.stack, ex := fp, fn := fun _ => false, pn := X.pn ++ pins, xe := Fa }
theorem relabel_lookup (env : Env) (x : Str) : ∀ (names : List (Str × NameKind)), (∀ y ∈ names, y.2 ≠ .cell) →
    ((names.map fun (n, k) => if (k == NameKind.free && env.scope.kind == .function && env.kindOf n == some .cell) then (n, NameKind.cell) else (n, k)).lookup x = some .cell ∨
      (names.map fun (n, k) => if (k == NameKind.free && env.scope.kind == .function && env.kindOf n == some .cell) then (n, NameKind.cell) else (n, k)).lookup x = some .free) → (x, NameKind.free) ∈ names
  | [], _, h => by simp at h
  | (n, k) :: r, hc, h => by
    have ih := relabel_lookup env x r (fun y hy => hc y (List.mem_cons_of_mem _ hy))
    have hk : k ≠ .cell := hc (n, k) List.mem_cons_self
    rw [List.map_cons] at h
    by_cases hcond : (k == NameKind.free && env.scope.kind == .function && env.kindOf n == some .cell) = true
    · have hkf : k = .free := by
        rw [Bool.and_eq_true, Bool.and_eq_true] at hcond
        exact eq_of_beq hcond.1.1
      subst hkf
      simp only [hcond, if_true, List.lookup_cons] at h
      cases hb : x == n with
      | true => rw [eq_of_beq hb]; exact List.mem_cons_self
      | false => rw [hb] at h; exact List.mem_cons_of_mem _ (ih h)
    · simp only [hcond, Bool.false_eq_true, if_false, List.lookup_cons] at h
      cases hb : x == n with
      | true =>
        rw [hb] at h
        have : k = .free := by
          rcases h with h | h
          · exact absurd (Option.some.inj h) hk
          · exact Option.some.inj h
        rw [this, eq_of_beq hb]; exact List.mem_cons_self
      | false => rw [hb] at h; exact List.mem_cons_of_mem _ (ih h)
theorem relabel_free (env : Env) (x : Str) : ∀ (names : List (Str × NameKind)), names.lookup x = some .free →
    ((names.map fun (n, k) => if (k == NameKind.free && env.scope.kind == .function && env.kindOf n == some .cell) then (n, NameKind.cell) else (n, k)).lookup x = some .cell ∨
      (names.map fun (n, k) => if (k == NameKind.free && env.scope.kind == .function && env.kindOf n == some .cell) then (n, NameKind.cell) else (n, k)).lookup x = some .free)
  | [], h => by simp at h
  | (n, k) :: r, h => by
    rw [List.lookup_cons] at h
    rw [List.map_cons]
    cases hb : x == n with
    | true =>
      rw [hb] at h
      have hk : k = .free := Option.some.inj h
      subst hk
      by_cases hcond : (NameKind.free == NameKind.free && env.scope.kind == .function && env.kindOf n == some .cell) = true
      · left; simp only [hcond, if_true, List.lookup_cons, hb]
      · right; simp only [hcond, Bool.false_eq_true, if_false, List.lookup_cons, hb]
    | false =>
      rw [hb] at h
      have ih := relabel_free env x r h
      by_cases hcond : (k == NameKind.free && env.scope.kind == .function && env.kindOf n == some .cell) = true
      · simp only [hcond, if_true, List.lookup_cons, hb]; exact ih
      · simp only [hcond, Bool.false_eq_true, if_false, List.lookup_cons, hb]; exact ih
structure BlkSc (X : Cx) (scope : Scope) (x : Str) (js : List Nat) (ys : List Str) : Prop where
  kind : scope.kind = .function
  nocell : ∀ y ∈ scope.names, y.2 ≠ .cell
  names : ∀ y ∈ scope.names, y.2 = .local → scope.names.lookup y.1 = some .local
  own : scope.names.lookup x = some .local
  free : ∀ y ∈ scope.names, y.2 = .free → X.env.kindOf y.1 = some .cell ∨ X.env.kindOf y.1 = some .free
  cap : ys.map some = js.map fun j => X.N[j]?
  caps : ∀ y ∈ ys, scope.names.lookup y = some .free
  nd : (x :: ys).Nodup
noncomputable def stC (js : List Nat) (σ : St) (v : Option V) : St := v :: js.map fun j => (σ[j]?).getD none
section
variable {X : Cx} {pins : List (Addr × Obj)} {σ : St} {H : Hp} {s : Shared} {scope : Scope} {x : Str} {js : List Nat} {ys : List Str} {cl : List (Str × Addr)} {fp : List Addr}
theorem mem_of_lookup {names : List (Str × NameKind)} {x : Str} {k : NameKind} (h : names.lookup x = some k) : (x, k) ∈ names := by
  induction names with
  | nil => simp at h
  | cons p r ih =>
    obtain ⟨n, k'⟩ := p
    rw [List.lookup_cons] at h
    cases hb : x == n with
    | true => rw [hb] at h; cases h; rw [eq_of_beq hb]; exact List.mem_cons_self
    | false => rw [hb] at h; exact List.mem_cons_of_mem _ (ih h)
theorem Inv.block {C D : Addr} {h4 : Heap} {tk : Nat} {m4 : Str → Option Value} (I : Inv X pins σ H s) (hf : ∀ b ∈ fp, FpOk X pins H b) (hfb : ∀ b ∈ fp, b < s.heap.objs.size) (B : BlkSc X scope x js ys) (h1 : ∀ y c, cl.lookup y = some c → X.env.cells.lookup y = some c)
    (h2 : ∀ y, (y, NameKind.free) ∈ scope.names → (cl.lookup y).isSome = true) (hk : ∀ b o, s.heap.get? b = some o → h4.get? b = some o) (hC : s.heap.objs.size ≤ C) (hD : s.heap.objs.size ≤ D) (hDC : D ≠ C) (hn : h4.Ns C m4)
    (hl : h4.get? D = some { cls := .type "list", data := .seq ([] : List Value).toArray 0 }) : Inv (blk X scope cl C s H fp pins (x :: ys)) [] (stC js σ none) (upd H D (.lst [])) { s with heap := h4, toks := tk } := by
  have hlt : ∀ b o, s.heap.get? b = some o → b ≠ C ∧ b ≠ D := fun b o e => ⟨Nat.ne_of_lt (Nat.lt_of_lt_of_le (Heap.lt_size e) hC), Nat.ne_of_lt (Nat.lt_of_lt_of_le (Heap.lt_size e) hD)⟩
  have nC : H C = none := I.hok.fresh hC
  have nD : H D = none := I.hok.fresh hD
  have cellLt : ∀ y c, cl.lookup y = some c → c ≠ C ∧ c ≠ D := fun y c e => by
    obtain ⟨v, o, ho, _⟩ := I.cell y c (h1 y c e)
    exact hlt c o ho
  have ok : (blk X scope cl C s H fp pins (x :: ys)).Ok := {
    mod := I.ok.mod
    kind := B.kind
    glob := I.ok.glob
    blt := I.ok.blt
    above := hC
    inj := fun a b c ea eb => I.ok.inj a b c (h1 a c ea) (h1 b c eb)
    has := fun a ha => by
      have := h2 a (relabel_lookup X.env a scope.names B.nocell ha)
      exact Option.isSome_iff_exists.mp this
    cab := fun a c z => by cases z
    hd := I.ok.hd
    frames := I.ok.frames
    stk := .inl rfl
    exf := fun b hb => ⟨Nat.ne_of_lt (Nat.lt_of_lt_of_le (hfb b hb) hC), fun a c e => (hf b hb).2.2.2.2.1 a c (h1 a c e)⟩
    bs := fun b o e => I.bs b o e
    bsz := Nat.le_trans I.ok.bsz I.sz
    noex := fun b o e hb => by
      rcases (hf b hb).2.2.2.1 with z | z
      · exact I.ok.noex b o e z
      · exact absurd (Heap.lt_size e) (Nat.not_lt.mpr (Nat.le_trans I.ok.bsz z))
    exfs := fun b hb hm => by
      rcases List.mem_cons.mp (I.stkSub b hm) with e | e
      · exact (hf b hb).2.1 e
      · exact (hf b hb).2.2.1 e
    funs := I.stack
    frf := I.stkFree }
  refine { ok := ok, os := rfl, bare := I.bare, base := ?_, loc := ?_, cell := ?_, free := ?_, freeC := ?_, pin := ?_, hok := ?_, len := ?_ }
  · exact Un.laid hk hD nD
  · refine ⟨m4, hn, fun i y v hi hv vis => ?_⟩
    cases i with
    | zero => cases hv
    | succ i =>
      have hy : ys[i]? = some y := hi
      have hv' : (js.map fun j => (σ[j]?).getD none)[i]? = some (some v) := hv
      rw [List.getElem?_map] at hv'
      cases ej : js[i]? with
      | none => rw [ej] at hv'; cases hv'
      | some j =>
        rw [ej] at hv'
        have hv2 : (σ[j]?).getD none = some v := Option.some.inj hv'
        have hs : σ[j]? = some (some v) := by
          cases e : σ[j]? with
          | none => rw [e] at hv2; cases hv2
          | some z => rw [e] at hv2; exact congrArg some hv2
        have hN : X.N[j]? = some y := by
          have e1 : (ys.map some)[i]? = (js.map fun j => X.N[j]?)[i]? := by rw [B.cap]
          rw [List.getElem?_map, List.getElem?_map, hy, ej] at e1
          exact (Option.some.inj e1).symm
        have hym : y ∈ ys := List.mem_of_getElem? hy
        have hfree := B.caps y hym
        have hkX := B.free (y, .free) (mem_of_lookup hfree) rfl
        obtain ⟨m, hm, hloc⟩ := I.loc
        have visX : Vis X.env.scope y := by
          rcases hkX with e | e
          · exact .inr (.inl e)
          · exact .inr (.inr e)
        obtain ⟨u, ru, lk⟩ := hloc j y v hN hs visX
        refine ⟨u, ru, .inr ⟨relabel_free X.env y scope.names hfree, ?_⟩⟩
        rcases lk with ⟨e, _⟩ | ⟨_, c, ec, ic⟩
        · rcases hkX with z | z <;> (rw [e] at z; cases z)
        · obtain ⟨c', ec'⟩ := Option.isSome_iff_exists.mp (h2 y (mem_of_lookup hfree))
          have : c' = c := by
            have := h1 y c' ec'
            rw [ec] at this
            exact (Option.some.inj this).symm
          subst this
          exact ⟨c', ec', ic.keeps hk⟩
  · intro y c e
    obtain ⟨v, ic⟩ := I.cell y c (h1 y c e)
    exact ⟨v, ic.keeps hk⟩
  · show upd H D (.lst []) C = none
    rw [upd_ne (Ne.symm hDC)]; exact nC
  · intro y c e
    show upd H D (.lst []) c = none
    rw [upd_ne (cellLt y c e).2]
    exact I.freeC y c (h1 y c e)
  · intro p hp
    rw [List.append_nil] at hp
    obtain ⟨a, b, c, d, e⟩ := I.pin p hp
    refine ⟨hk _ _ a, ?_, (hlt _ _ a).1, fun hm => ?_, e⟩
    · rw [upd_ne (hlt _ _ a).2]; exact b
    · rcases List.mem_cons.mp (I.stkSub p.1 hm) with z | z
      · exact c z
      · exact d z
  · exact I.hok.laid hk hD ⟨Nat.zero_le _, [], 0, .nil, hl⟩
  · show (stC js σ none).length = (x :: ys).length
    have := congrArg List.length B.cap
    rw [List.length_map, List.length_map] at this
    simp [stC, this]
theorem Inv.unblock {C : Addr} {σ' : St} {H' : Hp} {s' : Shared} {h'' : Heap} {N : List Str} (I : Inv X pins σ H s) (hf : ∀ b ∈ fp, FpOk X pins H b) (I' : Inv (blk X scope cl C s H fp pins N) [] σ' H' s') (hC : s.heap.objs.size ≤ C) (hs : Heap.SameBut C s'.heap h'') :
    Inv X pins σ H' { s' with heap := h'' } := by
  have hne : ∀ b o, s.heap.get? b = some o → b ≠ C := fun b o e => Nat.ne_of_lt (Nat.lt_of_lt_of_le (Heap.lt_size e) hC)
  have up : ∀ b o, b ≠ C → s'.heap.get? b = some o → h''.get? b = some o := fun b o n e => hs.extBut b o n e
  have u := I'.base
  refine I.call' (s' := { s' with heap := h'' }) (ch := fp) I'.os ?_ ?_ I'.bare ?_
  · exact {
      keep := fun b o e n h1 h2 => up b o (hne b o e) (u.keep b o e n h1 h2)
      slot := fun b o e n h1 h2 => by
        obtain ⟨sl, z⟩ := u.slot b o e n h1 h2
        exact ⟨sl, up b _ (hne b o e) z⟩
      free := fun b o e n h2 => u.free b o e n h2
      there := fun b o e h2 => by
        obtain ⟨o', z⟩ := u.there b o e h2
        exact ⟨o', up b _ (hne b o e) z⟩
      tups := u.tups
      frzs := u.frzs
      tbls := u.tbls }
  · intro a o e
    have nC : H' C = none := I'.free
    refine (I'.hok a o e).stay (fun b ob hb eb => up b ob ?_ eb) (fun b hb => hb) (fun b xs hb => hb)
    rintro rfl
    rcases hb with rfl | hb
    · rw [nC] at e; cases e
    · rw [nC] at hb; cases hb
  · intro b hb
    obtain ⟨a1, a2, a3, a4, a5, a6⟩ := hf b hb
    exact ⟨a4, a2, a5, a6⟩
end
end L2
set_option maxHeartbeats 1000000
namespace L2
open PySem PySem.Spec PyProof.Rows
noncomputable def tTrue : TT := fun _ H Q => Q true H
noncomputable def PTs (X : Cx) (ifs : List Expr) (tc : TT) : Prop := (ifs = [] ∧ tc = tTrue) ∨ ∃ c, ifs = [c] ∧ PT X c tc
theorem pts_nil {X : Cx} : PTs X [] tTrue := .inl ⟨rfl, rfl⟩
noncomputable def eComp (J : It) (sc : V → St) (tc : TT) (te : TE) (D : Addr) (R : Hp → Prop) (H2 : Hp) : Prop :=
  ∃ W : Nat → Nat → List V → Hp → Prop, (∃ m, W 0 m [] H2) ∧ ∀ i m acc H, W i m acc H → (J.stop i H ∧ R H) ∨
    (J.go i H ∧ ∃ N : List V → Hp → Prop, (∀ acc' H', N acc' H' → ∃ m', m' < m ∧ W (i + 1) m' acc' H') ∧
      ∀ x H', J.yld i H x H' → tc (sc x) H' fun b H3 => if b = true then te (sc x) H3 fun v H4 => H4 D = some (.lst acc) ∧ acc.length < sizeLine ∧ ∀ H5, SameBut D H4 H5 → H5 D = some (.lst (acc ++ [v])) → N (acc ++ [v]) H5 else N acc H3)
noncomputable def tComp (js : List Nat) (wi : TI) (tc : TT) (te : TE) : TE := fun σ H Q => wi σ H fun J H1 => ∀ D H2, H1 D = none → Same H1 H2 → H2 D = some (.lst []) → eComp J (fun v => stC js σ (some v)) tc te D (fun H' => Q (.ref D) H') H2
section
variable {X : Cx} {elt iter : Expr} {x : Str} {px pos : Pos} {ifs : List Expr} {scope : Scope} {wi : TI} {tc : TT} {te : TE} {js : List Nat} {ys : List Str}
theorem comp_block1 {pins : List (Addr × Obj)} {σ : St} {H2 : Hp} {s2 : Shared} {cl : List (Str × Addr)} {it : Addr} {fp : List Addr} {tn : Nat → Heap → Prop} {J : It} {Q : Hp → V → Prop} {C D : Addr} {h3 : Heap} {tk : Nat}
    (B : BlkSc X scope x js ys) (hc : X.calm = true) (ht : ∀ cl C s H fp pins, PTs (blk X scope cl C s H fp pins (x :: ys)) ifs tc) (he : ∀ cl C s H fp pins, PE (blk X scope cl C s H fp pins (x :: ys)) elt te)
    (h1 : ∀ y c, cl.lookup y = some c → X.env.cells.lookup y = some c)
    (I2 : Inv X pins σ H2 s2) (T : Turn X.prog X.w X.K (.Name x px) J fp it tn) (st2 : tn 0 s2.heap) (f2 : ∀ b ∈ fp, FpOk X pins H2 b)
    (q : ∀ D H', H2 D = none → Same H2 H' → H' D = some (.lst []) → eComp J (fun v => stC js σ (some v)) tc te D (fun H' => Q H' (.ref D)) H')
    {RR : Value → Addr → Result → Shared → Prop}
    (hR : ∀ (D C : Addr) (H' : Hp) (s' : Shared) (m : Str → Option Value), H2 D = none → Q H' (.ref D) → s2.heap.objs.size ≤ C → s'.heap.Ns C m → s2.heap.get? C = none → H' C = none → (∀ h'', Heap.SameBut C s'.heap h'' → Inv X pins σ H' { s' with heap := h'' }) → RR (.ref D) C (.ok .next) s')
    (hfb : ∀ b ∈ fp, b < s2.heap.objs.size) (hCle : s2.heap.objs.size ≤ C) (hDle : s2.heap.objs.size ≤ D) (hk : ∀ b o, s2.heap.get? b = some o → h3.get? b = some o) (nC : s2.heap.get? C = none)
    (I3 : Inv (blk X scope cl C s2 H2 fp pins (x :: ys)) [] (stC js σ none) (upd H2 D (.lst [])) { s2 with heap := h3, toks := tk }) (hD0 : H2 D = none) :
    codeAny (model X.prog X.w) X.A (.compLoop (.ListComp elt [⟨.Name x px, iter, ifs, 0⟩] scope pos) 0 (.ref it) (.ref D) (compEnvC scope cl C X.env)) (RR (.ref D) C) { s2 with heap := h3, toks := tk } := by
  obtain ⟨W, ⟨m0, w0⟩, turn⟩ := q D (upd H2 D (.lst [])) hD0 (same_new hD0 _) upd_same
  have fpn : ∀ b ∈ fp, upd H2 D (.lst []) b = none := fun b hb => by
    rw [upd_ne (Nat.ne_of_lt (Nat.lt_of_lt_of_le (hfb b hb) hDle))]; exact (f2 b hb).1
  have stat : ∀ {H' : Hp} {pl : List (Addr × Obj)}, (∀ b ∈ fp, H' b = none) → (∀ p ∈ pl, ∀ b ∈ fp, p.1 ≠ b) → ∀ b ∈ fp, FpOk (blk X scope cl C s2 H2 fp pins (x :: ys)) pl H' b := fun hn hpl b hb => by
    obtain ⟨a1, a2, a3, a4, a5, a6⟩ := f2 b hb
    refine ⟨hn b hb, (I3.ok.exf b hb).1, I3.ok.exfs b hb, .inl hb, fun y c e => a5 y c (h1 y c e), fun p hp => ?_⟩
    rcases List.mem_append.mp hp with hp | hp
    · exact a6 p hp
    · exact hpl p hp b hb
  have nopl : ∀ p ∈ ([] : List (Addr × Obj)), ∀ b ∈ fp, p.1 ≠ b := fun p hp => by cases hp
  refine comp_loop (fun n s' => ∃ i acc u H', Inv (blk X scope cl C s2 H2 fp pins (x :: ys)) [] (stC js σ u) H' s' ∧ tn i s'.heap ∧ (∀ b ∈ fp, H' b = none) ∧ W i n acc H') ?_ m0
    ⟨0, [], none, _, I3, T.keep 0 _ _ st2 (fun b hb o e => hk b o e), fpn, w0⟩
  rintro n s4 ⟨i, acc, u, H4, I4, st4, fr4, w4⟩
  rcases turn i n acc H4 w4 with ⟨stop, qn⟩ | ⟨go, N, hN, step⟩
  · refine thn (T.done (blk X scope cl C s2 H2 fp pins (x :: ys)) rfl rfl rfl hc i [] s4 _ H4 Fa I4 (stat fr4 nopl) st4 stop) fun r s5 ⟨hr, I5⟩ => ?_
    subst hr
    obtain ⟨m5, hn5, _⟩ := I5.loc
    exact hR D C H4 s5 m5 hD0 qn hCle hn5 nC I5.free fun h'' hs'' => I2.unblock f2 I5 hCle hs''
  · refine thn (T.item (blk X scope cl C s2 H2 fp pins (x :: ys)) rfl rfl rfl hc i [] s4 _ H4 Fa I4 (stat fr4 nopl) st4 go) fun r s5 ⟨v, hr, h5⟩ => ?_
    subst hr
    refine thn h5 fun _ s6 ⟨z, H6, I6, r6, y6, st6, fr6⟩ => ?_
    have I6' := I6.pinned (stat fr6 nopl) (T.obj _ _ st6)
    have pg : PG (blk X scope cl C s2 H2 fp pins (x :: ys)) (.Name x px) (gName 0) := pg_name (i := 0) B.nd rfl (.inl (lookup_relabel_local B.own)) (.inr (lookup_relabel_local B.own))
    refine thn (pg _ s6 _ H6 z v (fun σ' H' => σ' = stC js σ (some z) ∧ H' = H6) I6' r6 ⟨rfl, rfl⟩) fun _ s7 zq => L2.el5 zq fun σ7 H7 I7 e7 e7' => ?_
    subst e7 e7'
    have again : ∀ {acc' : List V} {H8 : Hp} {s8 : Shared} {u' : Option V}, Inv (blk X scope cl C s2 H2 fp pins (x :: ys)) ([] ++ pinsAt fp s6.heap) (stC js σ u') H8 s8 → N acc' H8 →
        ∃ m, m < n ∧ ∃ i acc u H', Inv (blk X scope cl C s2 H2 fp pins (x :: ys)) [] (stC js σ u) H' s8 ∧ tn i s8.heap ∧ (∀ b ∈ fp, H' b = none) ∧ W i m acc H' := fun {acc' H8 s8 u'} I8 n8 => by
      obtain ⟨m', hm, w8⟩ := hN _ _ n8
      refine ⟨m', hm, i + 1, acc', u', H8, I8.unpinned, T.keep _ _ _ st6 fun b hb o e => (I8.pin (b, o) (List.mem_append_right _ (List.mem_append_right _ (mem_pinsAt hb e)))).1, fun b hb => ?_, w8⟩
      obtain ⟨o, e, d⟩ := T.obj _ _ st6 b hb
      exact (I8.pin (b, o) (List.mem_append_right _ (List.mem_append_right _ (mem_pinsAt hb e)))).2.1
    have body := step z H7 y6
    have tst : ∀ {P : Bool → Hp → Prop}, tc (stC js σ (some z)) H7 P →
        wpAny (model X.prog X.w) X.A (forIn ifs true fun c r => if r = true then do let ok ← isTrue c (compEnvC scope cl C X.env) (eval c (compEnvC scope cl C X.env)); pure (ForInStep.yield ok) else pure (ForInStep.yield r))
          (TP (blk X scope cl C s2 H2 fp pins (x :: ys)) ([] ++ pinsAt fp s6.heap) (stC js σ (some z)) P) Fa s7 := fun {P} hP => by
      rcases ht cl C s2 H2 fp pins with ⟨rfl, rfl⟩ | ⟨c, rfl, hpt⟩
      · exact wpAny_tests_nil ⟨H7, I7, hP⟩
      · exact wpAny_tests_one (hpt _ s7 _ H7 P I7 hP)
    refine thn (tst body) fun b s8 zq => L2.el3 zq fun H8 I8 q8 => ?_
    cases b with
    | false =>
      rw [if_neg Bool.false_ne_true] at q8 ⊢
      exact again I8 q8
    | true =>
      rw [if_pos rfl] at q8 ⊢
      refine thn (he cl C s2 H2 fp pins _ s8 _ H8 _ I8 q8) fun y s9 zq => L2.el5 zq fun w9 H9 I9 r9 q9 => ?_
      obtain ⟨l9, z9, k9⟩ := q9
      refine thn (mt_append (X := blk X scope cl C s2 H2 fp pins (x :: ys)) _ s9 _ H9 (.ref D) [w9] (.ref D) [y] (fun _ H' => N (acc ++ [w9]) H') I9 rfl (.cons r9 .nil) ⟨D, acc, w9, rfl, rfl, l9, z9, k9 _ SameBut.upd upd_same⟩) fun _ s10 zq => L2.el5 zq fun v10 H10 I10 _ q10 => ?_
      exact again I10 q10
theorem comp_block {pins : List (Addr × Obj)} {σ : St} {H2 : Hp} {s2 : Shared} {cl : List (Str × Addr)} {it : Addr} {fp : List Addr} {tn : Nat → Heap → Prop} {J : It} {R : Hp → Value → Addr → Result → Shared → Prop} {Q : Hp → V → Prop}
    (B : BlkSc X scope x js ys) (hc : X.calm = true) (ht : ∀ cl C s H fp pins, PTs (blk X scope cl C s H fp pins (x :: ys)) ifs tc) (he : ∀ cl C s H fp pins, PE (blk X scope cl C s H fp pins (x :: ys)) elt te)
    (h1 : ∀ y c, cl.lookup y = some c → X.env.cells.lookup y = some c) (h2 : ∀ y, (y, NameKind.free) ∈ scope.names → (cl.lookup y).isSome = true)
    (I2 : Inv X pins σ H2 s2) (T : Turn X.prog X.w X.K (.Name x px) J fp it tn) (st2 : tn 0 s2.heap) (f2 : ∀ b ∈ fp, FpOk X pins H2 b)
    (q : ∀ D H', H2 D = none → Same H2 H' → H' D = some (.lst []) → eComp J (fun v => stC js σ (some v)) tc te D (fun H' => Q H' (.ref D)) H')
    {RR : Value → Addr → Result → Shared → Prop}
    (hR : ∀ (D C : Addr) (H' : Hp) (s' : Shared) (m : Str → Option Value), H2 D = none → Q H' (.ref D) → s2.heap.objs.size ≤ C → s'.heap.Ns C m → s2.heap.get? C = none → H' C = none → (∀ h'', Heap.SameBut C s'.heap h'' → Inv X pins σ H' { s' with heap := h'' }) → RR (.ref D) C (.ok .next) s') :
    wpAny (model X.prog X.w) X.A (newList []) (fun acc s₃ => wpAny (model X.prog X.w) X.A (newFunctionEnv scope X.env.globals cl [] X.env.qual none .none (some X.env)) (fun cenv s₄ =>
      codeAny (model X.prog X.w) X.A (.compStart (.ListComp elt [⟨.Name x px, iter, ifs, 0⟩] scope pos) 0 (.ref it) acc { cenv with scope := relabel scope X.env }) (RR acc cenv.locals) s₄) X.xe s₃) X.xe s2 := by
  have hfb : ∀ b ∈ fp, b < s2.heap.objs.size := fun b hb => by
    obtain ⟨o, e, _⟩ := T.obj 0 _ st2 b hb
    exact Heap.lt_size e
  refine wpAny_newObj_type (wpAny_newFunctionEnv B.nocell (by intro y hy; simp at hy) (fun h3 hn3 hs3 => ?_) B.kind)
  dsimp only at hn3 hs3 ⊢
  generalize hH : s2.heap.push { cls := .type "list", dict := none, data := .seq ([] : List Value).toArray } = hp2 at hn3 hs3 ⊢
  have hC : hp2.objs.size = s2.heap.objs.size + 1 := by rw [← hH, Heap.size_push]
  have hCle : s2.heap.objs.size ≤ hp2.objs.size := by rw [hC]; exact Nat.le_succ _
  have hDC : s2.heap.objs.size ≠ hp2.objs.size := by rw [hC]; exact Nat.ne_of_lt (Nat.lt_succ_self _)
  have hk : ∀ b o, s2.heap.get? b = some o → h3.get? b = some o := fun b o e => hs3.extBut b o (Nat.ne_of_lt (Nat.lt_of_lt_of_le (Heap.lt_size e) hCle)) (Heap.get?_push_of_some _ (hH ▸ Heap.get?_push_of_some _ e))
  have hl : h3.get? s2.heap.objs.size = some { cls := .type "list", data := .seq ([] : List Value).toArray 0 } := hs3.extBut _ _ hDC (Heap.get?_push_of_some _ (hH ▸ Heap.get?_push_size _ rfl))
  have nC : s2.heap.get? hp2.objs.size = none := by
    cases e : s2.heap.get? hp2.objs.size with
    | none => rfl
    | some o => exact absurd (Heap.lt_size e) (Nat.not_lt.mpr hCle)
  have I3 := I2.block (tk := s2.toks + ([] : List (Str × Value)).length) f2 hfb B h1 h2 hk hCle (Nat.le_refl _) hDC hn3 hl
  have hD0 : H2 s2.heap.objs.size = none := I2.hok.fresh (Nat.le_refl _)
  have loop := comp_block1 (iter := iter) (pos := pos) B hc ht he h1 I2 T st2 f2 q (RR := RR) hR hfb hCle (Nat.le_refl _) hk nC I3 hD0
  exact codeAny_compStart_list loop (T.self X.A 0 _ _ _ (T.keep 0 _ _ st2 (fun b hb o e => hk b o e)) loop)
theorem pe_comp (B : BlkSc X scope x js ys) (hc : X.calm = true) (hi : PI X (.Name x px) iter wi) (ht : ∀ cl C s H fp pins, PTs (blk X scope cl C s H fp pins (x :: ys)) ifs tc)
    (he : ∀ cl C s H fp pins, PE (blk X scope cl C s H fp pins (x :: ys)) elt te) (hs : ∀ v, foldedSetIterable iter X.env v = pure v := by intro _; rfl) :
    PE X (.ListComp elt [⟨.Name x px, iter, ifs, 0⟩] scope pos) (tComp js wi tc te) := by
  intro pins s σ H Q I h
  obtain ⟨cl, ecl, h1, h2⟩ := closureFor_ok (env := X.env) (scope := scope) (fun y hy hk => I.ok.has y.1 (B.free y hy hk))
  rw [eval_ListComp]
  refine wpAny_comprehension_free (use := none) rfl hs ecl B.kind B.names ?_
  refine thn (hi pins s σ H _ I h) fun v s1 h1' => thn h1' fun itv s2 hit => ?_
  obtain ⟨it, fp, tn, J, H2, rfl, I2, T, st2, f2, q⟩ := hit
  refine comp_block (R := fun _ _ _ _ _ => True) (Q := fun H' v => Q v H') B hc ht he h1 h2 I2 T st2 f2 q (RR := fun acc C => compPost (model X.prog X.w) X.A X.xe none (EP X pins σ Q) acc C) ?_
  intro D C H' s' m hD hq hC hn hnC hHC hI
  exact ⟨m, hn, fun h'' hs'' => ⟨.ref D, H', hI h'' hs'', rfl, hq⟩⟩
end
end L2
namespace L2
open PySem PySem.Spec PyProof.Rows
section
variable {X : Cx} {scope : Scope} {x : Str} {js : List Nat} {ys : List Str}
theorem blk_mk (h1 : scope.kind = .function) (h2 : (scope.names.all fun y => y.2 != .cell) = true) (h3 : (scope.names.all fun y => y.2 != .local || scope.names.lookup y.1 == some .local) = true) (h4 : scope.names.lookup x = some .local)
    (h5 : (scope.names.all fun y => y.2 != .free || (X.env.kindOf y.1 == some .cell || X.env.kindOf y.1 == some .free)) = true) (h6 : ys.map some = js.map fun j => X.N[j]?) (h7 : (ys.all fun y => scope.names.lookup y == some .free) = true) (h8 : (x :: ys).Nodup) :
    BlkSc X scope x js ys where
  kind := h1
  nocell := fun y hy => by
    have := List.all_eq_true.mp h2 y hy
    simpa using this
  names := fun y hy e => by
    have := List.all_eq_true.mp h3 y hy
    simp [e] at this
    exact this
  own := h4
  free := fun y hy e => by
    have := List.all_eq_true.mp h5 y hy
    simp [e] at this
    exact this
  cap := h6
  caps := fun y hy => by
    have := List.all_eq_true.mp h7 y hy
    simpa using this
  nd := h8
end
section
variable {K : PySem.W.Frag} {σ : St} {H : Hp} {Q : VK} {js : List Nat} {wi : TI} {tc : TT} {te : TE}
end
end L2
set_option maxHeartbeats 1000000
namespace HT
open PySem PyProof.Rows
open PySem.SeqAt
open PySem.AutoSeq1 (wpAny_loadPart')
open PySem.MeetsSeq PySem.MeetsSeq2 PySem.MeetsSeq3
theorem lt_loopAt (l b : Addr) (items items2 : Array Value) (n n2 : Nat) (dd dd2 : Option Addr) (sl sl2 : Array (Option Value)) (ns ms : List Int) (hi : IntsAre items.toList ns) (hj : IntsAre items2.toList ms) (k : Nat) :
    ∀ i : Nat, items.size - i = k → Meets (Builtin.«list.__eq__.loop» ⟨[.ref l, .ref b, rawInt i, rawInt 0], []⟩) (fun _ R s => s.heap.get? l = some { cls := .type "list", dict := dd, data := .seq items n, slots := sl } ∧ s.heap.get? b = some { cls := .type "list", dict := dd2, data := .seq items2 n2, slots := sl2 } ∧
        i ≤ items.size ∧ i ≤ items2.size ∧ R (.ok (.ret (.bool (lexLt (ns.drop i) (ms.drop i))))) s) := by
  have z1 : items.size = ns.length := by rw [← hi.length]; simp [Array.length_toList]
  have z2 : items2.size = ms.length := by rw [← hj.length]; simp [Array.length_toList]
  have geti : ∀ (its : Array Value) (qs : List Int), IntsAre its.toList qs → ∀ i, (h : i < its.size) → ∃ t, its[i] = .int (qs.getD i 0) t := fun its qs hq i h => by
    have hv : L2.Vals (qs.map L2.V.int) its.toList := L2.vals_ints hq
    have e : its.toList[i]? = some its[i] := by simp [h]
    exact L2.vals_ints_at hv e
  induction k with
  | zero =>
    intro i hk prog w A R s h
    obtain ⟨hp, g, d, tk, os⟩ := s; obtain ⟨hl, hb, h1, h2, h⟩ := h
    wp_walk using wpAny_loadPart' hl, wpAny_loadPart' hb
    have hi1 : items[((i : Nat) : Int).toNat]? = none := by simp; (first|lia|omega)
    rw [hi1]
    wp_walk using wpAny_loadPart' hl, wpAny_loadPart' hb
    show R (.ok (.ret (.bool (decide (items.size < items2.size))))) _
    have e1 : ns.drop i = [] := List.drop_eq_nil_of_le (by (first|lia|omega))
    rw [e1] at h
    by_cases hlt : items.size < items2.size
    · have e2 : ∃ y r, ms.drop i = y :: r := by
        rw [List.drop_eq_getElem_cons (show i < ms.length by (first|lia|omega))]
        exact ⟨_, _, rfl⟩
      obtain ⟨y, r, e2⟩ := e2
      rw [e2, lexLt_nil_cons] at h
      rw [decide_eq_true hlt]; exact h
    · have e2 : ms.drop i = [] := List.drop_eq_nil_of_le (by (first|lia|omega))
      rw [e2, lexLt_nil_nil] at h
      rw [decide_eq_false hlt]; exact h
  | succ k ih =>
    intro i hk prog w A R s h
    obtain ⟨hp, g, d, tk, os⟩ := s; obtain ⟨hl, hb, h1, h2, h⟩ := h
    wp_walk using wpAny_loadPart' hl, wpAny_loadPart' hb
    have hlt : i < items.size := by (first|lia|omega)
    have hi1 : items[((i : Nat) : Int).toNat]? = some items[i] := by simp [hlt]
    by_cases hlt2 : i < items2.size
    · have hi2 : items2[((i : Nat) : Int).toNat]? = some items2[i] := by simp [hlt2]
      have hc : ((i : Int) + 1) = ((i + 1 : Nat) : Int) := by push_cast; rfl
      rw [hi1, hi2]
      obtain ⟨t, et⟩ := geti items ns hi i hlt
      obtain ⟨u, eu⟩ := geti items2 ms hj i hlt2
      have d1 : ns.drop i = ns.getD i 0 :: ns.drop (i + 1) := by
        rw [List.drop_eq_getElem_cons (show i < ns.length by (first|lia|omega)), List.getD_eq_getElem?_getD, List.getElem?_eq_getElem (show i < ns.length by (first|lia|omega))]; rfl
      have d2 : ms.drop i = ms.getD i 0 :: ms.drop (i + 1) := by
        rw [List.drop_eq_getElem_cons (show i < ms.length by (first|lia|omega)), List.getD_eq_getElem?_getD, List.getElem?_eq_getElem (show i < ms.length by (first|lia|omega))]; rfl
      rw [d1, d2, lexLt_cons] at h
      obtain ⟨e, he, hiff⟩ := eqAt_int A.in1 ⟨hp, g, d, tk, os⟩ (ns.getD i 0) t (ms.getD i 0) u
      rw [← et, ← eu] at he
      refine wpAny_bind (he prog w _ _ ?_)
      cases e with
      | true =>
        rw [if_pos (hiff.mp rfl)] at h
        wp_walk
        rw [hc]
        exact ⟨plainId_quiet plain_eq_loop _, codeAny_builtin entry_eq_loop (by
          rw [Around.under_plainId plain_eq_loop _]
          exact ih (i + 1) (by (first|lia|omega)) prog w A R _ ⟨hl, hb, by (first|lia|omega), by (first|lia|omega), h⟩)⟩
      | false =>
        rw [if_neg (fun q => absurd (hiff.mpr q) Bool.false_ne_true)] at h
        wp_walk using wpAny_loadPart' hl, wpAny_loadPart' hb
        rw [hi1, hi2]
        have hri := rcLt_int A.in1 ⟨hp, g, d, tk, os⟩ (ns.getD i 0) t (ms.getD i 0) u prog w
        rw [← et, ← eu] at hri
        wp_walk using hri
        exact h
    · have hi2 : items2[((i : Nat) : Int).toNat]? = none := by simp; (first|lia|omega)
      rw [hi1, hi2]
      wp_walk using wpAny_loadPart' hl, wpAny_loadPart' hb
      show R (.ok (.ret (.bool (decide (items.size < items2.size))))) _
      have d1 : ns.drop i = ns.getD i 0 :: ns.drop (i + 1) := by
        rw [List.drop_eq_getElem_cons (show i < ns.length by (first|lia|omega)), List.getD_eq_getElem?_getD, List.getElem?_eq_getElem (show i < ns.length by (first|lia|omega))]; rfl
      have e2 : ms.drop i = [] := List.drop_eq_nil_of_le (by (first|lia|omega))
      rw [d1, e2, lexLt_cons_nil] at h
      rw [decide_eq_false (by (first|lia|omega))]; exact h
end HT
namespace HT
open PySem PyProof.Rows
open PySem.SeqAt
open PySem.AutoSeq1 (wpAny_loadPart')
open PySem.MeetsSeq PySem.MeetsSeq2 PySem.MeetsSeq3
theorem list_lt_ints (l b : Addr) (items items2 : Array Value) (n n2 : Nat) (dd dd2 : Option Addr) (sl sl2 : Array (Option Value)) (ns ms : List Int) (hi : IntsAre items.toList ns) (hj : IntsAre items2.toList ms) :
    Meets (Builtin.«list.__lt__» ⟨[.ref l, .ref b], []⟩) (fun _ R s => s.heap.get? l = some { cls := .type "list", dict := dd, data := .seq items n, slots := sl } ∧ s.heap.get? b = some { cls := .type "list", dict := dd2, data := .seq items2 n2, slots := sl2 } ∧
        R (.ok (.ret (.bool (lexLt ns ms)))) s) := by
  intro prog w A R s h
  obtain ⟨hp, g, d, tk, os⟩ := s; obtain ⟨hl, hb, h⟩ := h
  have f3 := AutoSeq1.sub_list_list
  wp_walk using wpAny_loadPart' hl, wpAny_loadPart' hb
  exact ⟨plainId_quiet plain_eq_loop _, codeAny_builtin entry_eq_loop (by
    rw [Around.under_plainId plain_eq_loop _]
    exact lt_loopAt l b items items2 n n2 dd dd2 sl sl2 ns ms hi hj _ 0 rfl prog w A R _ ⟨hl, hb, Nat.zero_le _, Nat.zero_le _, h⟩)⟩
section
variable {prog : Program} {w : World} {A : Around} {E : Value → Shared → Prop} {s : Shared}
theorem lt_listInts {l b : Addr} {items items2 : Array Value} {ns ms : List Int} {Q : Value → Shared → Prop} (hl : s.heap.IsList l items) (hb : s.heap.IsList b items2) (hi : IntsAre items.toList ns) (hj : IntsAre items2.toList ms)
    (hu : A.units < cLine) (h : Q (.bool (lexLt ns ms)) s) : wpAny (model prog w) A (richCompare .Lt (.ref l) (.ref b)) Q E s := by
  obtain ⟨⟨cls, dd, data, sl⟩, ho, hc, n, hd⟩ := id hl
  obtain ⟨⟨cls2, dd2, data2, sl2⟩, ho2, hc2, n2, hd2⟩ := id hb
  simp only at hc hd hc2 hd2
  subst hc hd hc2 hd2
  exact richCompare_meets_room (op := .Lt) ⟨_, ho, rfl⟩ ⟨_, ho2, rfl⟩ F.slot_list_lt F.entry_list_lt (F.args_list_lt_2 _ _) (list_lt_ints l b items items2 n n2 dd dd2 sl sl2 ns ms hi hj)
    ⟨ho, ho2, show (Value.bool (lexLt ns ms) ≠ Value.notImplemented) ∧ Q (.bool (lexLt ns ms)) s from ⟨(fun z => nomatch z), h⟩⟩ hu
end
end HT
namespace L2
open PySem PySem.Spec PyProof.Rows
section
variable {X : Cx}
noncomputable def rLtLQ (K : PySem.W.Frag) : R2 := fun x y H Q => ∃ (a b : Addr) (ns ms : List Int), x = .ref a ∧ y = .ref b ∧ SqL K H a (ns.map V.int) ∧ SqL K H b (ms.map V.int) ∧ Q (.bl (HT.lexLt ns ms)) H
theorem op_ltL (hu : X.A.units < cLine) : OpR X (compareOp .Lt) (rLtLQ X.K) := by
  intro pins s σ H x y v u Q I rx ry h
  obtain ⟨a, b, ns, ms, rfl, rfl, h1, h2, q⟩ := h
  cases rx
  cases ry
  obtain ⟨its, r, pl, hz⟩ := I.list h1
  obtain ⟨its2, r2, pl2, hz2⟩ := I.list h2
  exact HT.lt_listInts pl.isList pl2.isList (intsAre_of (by simpa using r)) (intsAre_of (by simpa using r2)) hu ⟨.bl _, H, I, rfl, q⟩
end
section
variable {K : PySem.W.Frag} {H : Hp} {Q : VK} {x y v : V} {i : Int} {p a b : Addr} {n : Nat} {ns ms : List Int}
end
end L2
set_option maxHeartbeats 1000000
namespace L2
open PySem PySem.Spec PyProof.Rows
noncomputable def LI (H : Hp) (v : V) (ns : List Int) : Prop := ∃ a, v = .ref a ∧ H a = some (.lst (ns.map V.int))
section
variable {H H' : Hp} {v : V} {p : Int × Int} {l : Addr} {xs : List V} {ns : List Int}
theorem LI.same (S : Same H H') (h : LI H v ns) : LI H' v ns := let ⟨a, e, t⟩ := h; ⟨a, e, S _ _ t⟩
theorem LIs.same (S : Same H H') {vs : List V} {ps : List (List Int)} (h : Paired (LI H) vs ps) : Paired (LI H') vs ps := Paired.imp' (fun _ _ => LI.same S) h
end
theorem Paired.at_ {α β : Type} {F : α → β → Prop} : ∀ {l₁ : List α} {l₂ : List β}, Paired F l₁ l₂ → ∀ {i : Nat} {y : β}, l₂[i]? = some y → ∃ x, l₁[i]? = some x ∧ F x y
  | _, _, .nil, i, y, h => by simp at h
  | _, _, .cons (a := a) r t, 0, y, h => by simp at h; subst h; exact ⟨a, rfl, r⟩
  | _, _, .cons r t, i + 1, y, h => by
    obtain ⟨x, e, f⟩ := Paired.at_ t (i := i) (y := y) (by simpa using h)
    exact ⟨x, by simpa using e, f⟩
section
variable {K : PySem.W.Frag} {H : Hp} {Q : VK} {i : Int} {a : Addr} {α : Type} {F : V → α → Prop}
end
end L2
namespace L2
open PySem PySem.Spec PyProof.Rows
section
variable {K : PySem.W.Frag} {σ : St} {H : Hp} {G : St → Hp → Prop} {p : Addr} {xs vs : List V} {n : Nat} {t : TG} {u : TGs} {v : V}
end
end L2
namespace L2
end L2
set_option maxHeartbeats 1000000
namespace L2
open PySem PySem.Spec PyProof.Rows
noncomputable def cell (ns : List Int) (k : Int) : Int := ns.getD k.toNat 0
noncomputable def sums (p : Int) : List Int → List Int
  | [] => []
  | x :: r => (p + x) :: sums (p + x) r
noncomputable def jts (ns : List Int) : List Int := sums 0 ns.dropLast
theorem sums_length : ∀ (p : Int) (ns : List Int), (sums p ns).length = ns.length
  | _, [] => rfl
  | p, x :: r => by
    show (sums (p + x) r).length + 1 = r.length + 1
    rw [sums_length]
theorem sums_snoc : ∀ (p : Int) (ns : List Int) (y : Int), sums p (ns ++ [y]) = sums p ns ++ [p + ns.sum + y]
  | p, [], y => by simp [sums]
  | p, x :: r, y => by
    show (p + x) :: sums (p + x) (r ++ [y]) = (p + x) :: (sums (p + x) r ++ [p + (x :: r).sum + y])
    rw [sums_snoc (p + x) r y, List.sum_cons]
    congr 3
    (first|lia|omega)
theorem jts_length (ns : List Int) : (jts ns).length = ns.length - 1 := by
  unfold jts
  rw [sums_length, List.length_dropLast]
theorem take_snoc {α : Type} {ns : List α} {i : Nat} (h : i < ns.length) : ns.take (i + 1) = ns.take i ++ [ns[i]] := by
  rw [List.take_succ, List.getElem?_eq_getElem h]; rfl
theorem sums_get : ∀ (p : Int) (ns : List Int) (k : Nat), k < ns.length → (sums p ns).getD k 0 = p + (ns.take (k + 1)).sum
  | p, [], k, h => by simp at h
  | p, x :: r, 0, _ => by simp [sums]
  | p, x :: r, k + 1, h => by
    have ih := sums_get (p + x) r k (by simp at h; (first|lia|omega))
    show (sums (p + x) r).getD k 0 = p + ((x :: r).take (k + 2)).sum
    rw [ih]
    simp
    (first|lia|omega)
theorem jts_step {ms : List Int} {k : Nat} (h : k < (jts ms).length) : (jts ms).getD k 0 = (ms.take (k + 1)).sum ∧ (ms.take (k + 1)).sum - (ms.take k).sum = ms.getD k 0 := by
  rw [jts_length] at h
  have hk : k < ms.length := by (first|lia|omega)
  constructor
  · unfold jts
    rw [sums_get 0 _ k (by rw [List.length_dropLast]; (first|lia|omega)), Int.zero_add, List.dropLast_eq_take, List.take_take, Nat.min_eq_left (by (first|lia|omega))]
  · rw [take_snoc hk, List.sum_append, List.sum_singleton, List.getD_eq_getElem?_getD, List.getElem?_eq_getElem hk]
    show _ + ms[k] - _ = ms[k]
    (first|lia|omega)
noncomputable def diffs (p : Int) : List Int → List Int
  | [] => []
  | x :: r => (x - p) :: diffs x r
end L2
set_option maxHeartbeats 1000000
namespace HT
theorem lexLt_irr : ∀ a : List Int, lexLt a a = false
  | [] => rfl
  | x :: r => by rw [lexLt_cons, if_pos rfl]; exact lexLt_irr r
theorem lexLt_trans : ∀ a b c : List Int, lexLt a b = true → lexLt b c = true → lexLt a c = true
  | [], [], c, h, _ => by rw [lexLt_nil_nil] at h; cases h
  | [], y :: s, [], _, h => by rw [lexLt_cons_nil] at h; cases h
  | [], y :: s, z :: t, _, _ => lexLt_nil_cons z t
  | x :: r, [], c, h, _ => by rw [lexLt_cons_nil] at h; cases h
  | x :: r, y :: s, [], _, h => by rw [lexLt_cons_nil] at h; cases h
  | x :: r, y :: s, z :: t, h1, h2 => by
    rw [lexLt_cons] at h1 h2 ⊢
    by_cases e1 : x = y
    · subst e1
      rw [if_pos rfl] at h1
      by_cases e2 : x = z
      · subst e2
        rw [if_pos rfl] at h2 ⊢
        exact lexLt_trans r s t h1 h2
      · rw [if_neg e2] at h2 ⊢; exact h2
    · rw [if_neg e1] at h1
      by_cases e2 : y = z
      · subst e2
        rw [if_neg e1]; exact h1
      · rw [if_neg e2] at h2
        have h1' := of_decide_eq_true h1
        have h2' := of_decide_eq_true h2
        rw [if_neg (by (first|lia|omega))]
        exact decide_eq_true (by (first|lia|omega))
theorem lexLt_neg : ∀ a b c : List Int, lexLt a c = true → lexLt a b = true ∨ lexLt b c = true
  | [], b, [], h => by rw [lexLt_nil_nil] at h; cases h
  | x :: r, b, [], h => by rw [lexLt_cons_nil] at h; cases h
  | [], [], z :: t, h => .inr h
  | [], y :: s, z :: t, h => .inl (lexLt_nil_cons y s)
  | x :: r, [], z :: t, h => .inr (lexLt_nil_cons z t)
  | x :: r, y :: s, z :: t, h => by
    rw [lexLt_cons] at h
    rw [lexLt_cons, lexLt_cons]
    by_cases e : x = z
    · subst e
      rw [if_pos rfl] at h
      by_cases e1 : x = y
      · subst e1
        rw [if_pos rfl, if_pos rfl]
        exact lexLt_neg r s t h
      · rw [if_neg e1, if_neg (fun q => e1 q.symm)]
        by_cases hl : x < y
        · exact .inl (decide_eq_true hl)
        · exact .inr (decide_eq_true (by (first|lia|omega)))
    · rw [if_neg e] at h
      have h' := of_decide_eq_true h
      by_cases e1 : x = y
      · subst e1
        right
        rw [if_neg e]; exact h
      · rw [if_neg e1]
        by_cases hl : x < y
        · exact .inl (decide_eq_true hl)
        · right
          rw [if_neg (by (first|lia|omega))]
          exact decide_eq_true (by (first|lia|omega))
theorem lexLt_eq : ∀ a b : List Int, lexLt a b = false → lexLt b a = false → a = b
  | [], [], _, _ => rfl
  | [], y :: s, h, _ => by rw [lexLt_nil_cons] at h; cases h
  | x :: r, [], _, h => by rw [lexLt_nil_cons] at h; cases h
  | x :: r, y :: s, h1, h2 => by
    rw [lexLt_cons] at h1 h2
    by_cases e : x = y
    · subst e
      rw [if_pos rfl] at h1 h2
      rw [lexLt_eq r s h1 h2]
    · rw [if_neg e] at h1
      rw [if_neg (fun q => e q.symm)] at h2
      have := of_decide_eq_false h1
      have := of_decide_eq_false h2
      (first|lia|omega)
end HT
namespace My.Sort
open PySem PySem.W PyProof.Rows
structure Ord (lt : Nat → Nat → Bool) : Prop where
  irr : ∀ a, lt a a = false
  tr : ∀ a b c, lt a b = true → lt b c = true → lt a c = true
  neg : ∀ a b c, lt a c = true → lt a b = true ∨ lt b c = true
section
variable {lt : Nat → Nat → Bool} (O : Ord lt)
noncomputable def le (lt : Nat → Nat → Bool) (a b : Nat) : Prop := lt b a = false
include O
theorem le_refl (a : Nat) : le lt a a := O.irr a
theorem le_trans {a b c : Nat} (h1 : le lt a b) (h2 : le lt b c) : le lt a c := by
  unfold le at *
  cases h : lt c a
  · rfl
  · rcases O.neg c b a h with z | z
    · rw [h2] at z; cases z
    · rw [h1] at z; cases z
theorem le_of_lt {a b : Nat} (h : lt a b = true) : le lt a b := by
  unfold le
  cases z : lt b a
  · rfl
  · have := O.tr _ _ _ h z
    rw [O.irr] at this; cases this
end
noncomputable def at_ (p : Array Nat) (i : Nat) : Nat := p.getD i 0
theorem at_eq (p : Array Nat) (i : Nat) : at_ p i = (p[i]?).getD 0 := by
  unfold at_
  rw [Array.getD_eq_getD_getElem?]
noncomputable def Up (lt : Nat → Nat → Bool) (p : Array Nat) (m : Nat) : Prop := ∀ i j, i ≤ j → j < m → le lt (at_ p i) (at_ p j)
noncomputable def Down (lt : Nat → Nat → Bool) (p : Array Nat) (m : Nat) : Prop := ∀ i j, i ≤ j → j < m → le lt (at_ p j) (at_ p i)
structure Cmp (lt : Nat → Nat → Bool) (n : Nat) (cmp : Nat → Nat → (Bool → Shared → Prop) → Shared → Prop) (s : Shared) : Prop where
  ask : ∀ i j C, i < n → j < n → C (lt i j) s → cmp i j C s
noncomputable def Re (n : Nat) (p : Array Nat) : Prop := p.toList.Perm (List.range n)
theorem Re.size {n : Nat} {p : Array Nat} (h : Re n p) : p.size = n := by
  have := h.length_eq
  simpa using this
theorem Re.lt {n : Nat} {p : Array Nat} (h : Re n p) {i : Nat} (hi : i < n) : at_ p i < n := by
  have hs := h.size
  have : at_ p i ∈ p.toList := by
    rw [at_eq, Array.getElem?_eq_getElem (by (first|lia|omega))]
    simp
  exact List.mem_range.mp (h.mem_iff.mp this)
theorem Re.mirror {n : Nat} {p : Array Nat} (h : Re n p) (i j d : Nat) : Re n (mirror p i j d) := (Array.perm_iff_toList_perm.mp (mirror_perm p i j d)).trans h
theorem Re.bubble {n : Nat} {p : Array Nat} (h : Re n p) (k d : Nat) : Re n (bubble p k d) := (Array.perm_iff_toList_perm.mp (bubble_perm p k d)).trans h
theorem at_mirror {p : Array Nat} {i j : Nat} (hj : j ≤ p.size) (k : Nat) : at_ (kas_rev p i j) k = if i ≤ k ∧ k < j then at_ p (i + j - 1 - k) else at_ p k := by
  unfold kas_rev
  rw [at_eq, getElem?_mirror_all hj k]
  split
  · rw [at_eq]
  · rw [at_eq]
theorem at_bubble {p : Array Nat} {k l : Nat} (hk : k < p.size) (hl : l ≤ k) (i : Nat) : at_ (bubble p k (k - l)) i = if i = l then at_ p k else if l < i ∧ i ≤ k then at_ p (i - 1) else at_ p i := by
  rw [at_eq, getElem?_bubble hk (k - l) (by (first|lia|omega)) i]
  have e : k - (k - l) = l := by (first|lia|omega)
  rw [e]
  split
  · rw [at_eq]
  · split
    · rw [at_eq]
    · rw [at_eq]
section
variable {lt : Nat → Nat → Bool} {n : Nat} {cmp : Nat → Nat → (Bool → Shared → Prop) → Shared → Prop} {s : Shared}
theorem up_snoc (O : Ord lt) {p : Array Nat} {m : Nat} (h1 : 1 ≤ m) (hu : Up lt p m) (h : le lt (at_ p (m - 1)) (at_ p m)) : Up lt p (m + 1) := by
  intro i j hij hj
  by_cases e : j = m
  · subst e
    by_cases e2 : i = j
    · subst e2; exact le_refl O _
    · exact le_trans O (hu i (j - 1) (by (first|lia|omega)) (by (first|lia|omega))) h
  · exact hu i j hij (by (first|lia|omega))
theorem down_snoc (O : Ord lt) {p : Array Nat} {m : Nat} (h1 : 1 ≤ m) (hu : Down lt p m) (h : le lt (at_ p m) (at_ p (m - 1))) : Down lt p (m + 1) := by
  intro i j hij hj
  by_cases e : j = m
  · subst e
    by_cases e2 : i = j
    · subst e2; exact le_refl O _
    · exact le_trans O h (hu i (j - 1) (by (first|lia|omega)) (by (first|lia|omega)))
  · exact hu i j hij (by (first|lia|omega))
theorem asc_ok (O : Ord lt) (C : Cmp lt n cmp s) {p : Array Nat} (hp : Re n p) {Q : Nat → Shared → Prop} : ∀ (f m : Nat), 1 ≤ m → m + f ≤ n → Up lt p m →
    (∀ r, m ≤ r → r ≤ m + f → Up lt p r → (r < m + f → lt (at_ p r) (at_ p (r - 1)) = true) → Q r s) → (kas_asc p f m).kasWp cmp Q s
  | 0, m, h1, _, hu, q => q m (Nat.le_refl _) (Nat.le_refl _) hu (fun z => absurd z (Nat.lt_irrefl _))
  | f + 1, m, h1, hm, hu, q => by
    refine C.ask _ _ _ (hp.lt (by (first|lia|omega))) (hp.lt (by (first|lia|omega))) ?_
    show (if lt (at_ p m) (at_ p (m - 1)) = true then KasT.ret m else kas_asc p f (m + 1)).kasWp cmp Q s
    cases hlt : lt (at_ p m) (at_ p (m - 1)) with
    | true => rw [if_pos rfl]; exact q m (Nat.le_refl _) (by (first|lia|omega)) hu (fun _ => hlt)
    | false =>
      rw [if_neg Bool.false_ne_true]
      refine asc_ok O C hp f (m + 1) (by (first|lia|omega)) (by (first|lia|omega)) (up_snoc O h1 hu hlt) fun r h2 h3 h4 h5 => q r (by (first|lia|omega)) (by (first|lia|omega)) h4 fun z => h5 (by (first|lia|omega))
theorem place_ok (O : Ord lt) (C : Cmp lt n cmp s) {p : Array Nat} (hp : Re n p) {k : Nat} (hk : k < n) (hu : Up lt p k) {Q : Nat → Shared → Prop} : ∀ (f l r : Nat), l ≤ r → r ≤ k → r - l ≤ f → (∀ i, i < l → le lt (at_ p i) (at_ p k)) → (∀ i, r ≤ i → i < k → le lt (at_ p k) (at_ p i)) →
    (∀ l, l ≤ k → (∀ i, i < l → le lt (at_ p i) (at_ p k)) → (∀ i, l ≤ i → i < k → le lt (at_ p k) (at_ p i)) → Q l s) → (kas_place p k f l r).kasWp cmp Q s
  | 0, l, r, h1, h2, h3, hl, hr, q => q l (by (first|lia|omega)) hl (fun i a b => hr i (by (first|lia|omega)) b)
  | f + 1, l, r, h1, h2, h3, hl, hr, q => by
    show (if l ≥ r then KasT.ret l else KasT.ask (p.getD k 0) (p.getD ((l + r) / 2) 0) fun c => if c = true then kas_place p k f l ((l + r) / 2) else kas_place p k f ((l + r) / 2 + 1) r).kasWp cmp Q s
    by_cases hge : l ≥ r
    · rw [if_pos hge]
      exact q l (by (first|lia|omega)) hl (fun i a b => hr i (by (first|lia|omega)) b)
    · rw [if_neg hge]
      have hm1 : l ≤ (l + r) / 2 := by (first|lia|omega)
      have hm2 : (l + r) / 2 < r := by (first|lia|omega)
      refine C.ask _ _ _ (hp.lt hk) (hp.lt (by (first|lia|omega))) ?_
      show (if lt (at_ p k) (at_ p ((l + r) / 2)) = true then kas_place p k f l ((l + r) / 2) else kas_place p k f ((l + r) / 2 + 1) r).kasWp cmp Q s
      cases hlt : lt (at_ p k) (at_ p ((l + r) / 2)) with
      | true =>
        rw [if_pos rfl]
        refine place_ok O C hp hk hu f l _ hm1 (by (first|lia|omega)) (by (first|lia|omega)) hl (fun i a b => ?_) q
        exact le_trans O (le_of_lt O hlt) (hu _ i a b)
      | false =>
        rw [if_neg Bool.false_ne_true]
        refine place_ok O C hp hk hu f _ r (by (first|lia|omega)) h2 (by (first|lia|omega)) (fun i a => ?_) hr q
        exact le_trans O (hu i _ (by (first|lia|omega)) (by (first|lia|omega))) hlt
theorem bin_ok (O : Ord lt) (C : Cmp lt n cmp s) {Q : Array Nat → Shared → Prop} : ∀ (f : Nat) (p : Array Nat) (k : Nat), Re n p → 1 ≤ k → k + f = n → Up lt p k → (∀ p, Re n p → Up lt p n → Q p s) → (kas_bin f p k).kasWp cmp Q s
  | 0, p, k, hp, h1, hk, hu, q => q p hp (by rw [← hk]; exact hu)
  | f + 1, p, k, hp, h1, hk, hu, q => by
    show ((kas_place p k k 0 k).bind fun l => kas_bin f (bubble p k (k - l)) (k + 1)).kasWp cmp Q s
    rw [KasT.kasWp_bind]
    refine place_ok O C hp (by (first|lia|omega)) hu k 0 k (Nat.zero_le _) (Nat.le_refl _) (by (first|lia|omega)) (fun i a => absurd a (Nat.not_lt_zero _)) (fun i a b => absurd b (by (first|lia|omega))) fun l hl h2 h3 => ?_
    refine bin_ok O C f _ (k + 1) (hp.bubble _ _) (by (first|lia|omega)) (by (first|lia|omega)) ?_ q
    have hks : k < p.size := by rw [hp.size]; (first|lia|omega)
    intro i j hij hj
    rw [at_bubble hks hl, at_bubble hks hl]
    by_cases e1 : i = l
    · rw [if_pos e1]
      by_cases e2 : j = l
      · rw [if_pos e2]; exact le_refl O _
      · rw [if_neg e2, if_pos (by (first|lia|omega))]
        exact h3 _ (by (first|lia|omega)) (by (first|lia|omega))
    · rw [if_neg e1]
      by_cases e2 : j = l
      · rw [if_pos e2, if_neg (by (first|lia|omega))]
        exact h2 i (by (first|lia|omega))
      · rw [if_neg e2]
        by_cases c1 : l < i ∧ i ≤ k
        · rw [if_pos c1, if_pos (by (first|lia|omega))]
          exact hu _ _ (by (first|lia|omega)) (by (first|lia|omega))
        · rw [if_neg c1]
          by_cases c2 : l < j ∧ j ≤ k
          · rw [if_pos c2]
            exact hu _ _ (by (first|lia|omega)) (by (first|lia|omega))
          · rw [if_neg c2]
            exact hu _ _ hij (by (first|lia|omega))
noncomputable def Ties (lt : Nat → Nat → Bool) (p : Array Nat) (a b : Nat) : Prop := ∀ i j, a ≤ i → i < b → a ≤ j → j < b → le lt (at_ p i) (at_ p j)
theorem desc_ok (O : Ord lt) (C : Cmp lt n cmp s) {Q : Array Nat × Nat × Nat → Shared → Prop} : ∀ (f : Nat) (p : Array Nat) (m q : Nat), Re n p → 1 ≤ m → m + f ≤ n → q + 1 ≤ m → Down lt p m → Ties lt p (m - (q + 1)) m →
    (∀ p m q, Re n p → 1 ≤ m → m ≤ n → q + 1 ≤ m → Down lt p m → Ties lt p (m - (q + 1)) m → Q (p, m, q) s) → (kas_desc f p m q).kasWp cmp Q s
  | 0, p, m, q, hp, h1, hm, hq, hd, ht, k => k p m q hp h1 (by (first|lia|omega)) hq hd ht
  | f + 1, p, m, q, hp, h1, hm, hq, hd, ht, k => by
    refine C.ask _ _ _ (hp.lt (by (first|lia|omega))) (hp.lt (by (first|lia|omega))) ?_
    show (if lt (at_ p m) (at_ p (m - 1)) = true then (if q > 0 then kas_desc f (kas_rev p (m - (q + 1)) m) (m + 1) 0 else kas_desc f p (m + 1) 0)
      else KasT.ask (p.getD (m - 1) 0) (p.getD m 0) fun d => if d = true then KasT.ret (p, m, q) else kas_desc f p (m + 1) (q + 1)).kasWp cmp Q s
    have one : ∀ (p : Array Nat), Ties lt p (m + 1 - (0 + 1)) (m + 1) := fun p i j a b c d => by
      have : i = j := by (first|lia|omega)
      subst this; exact le_refl O _
    cases hlt : lt (at_ p m) (at_ p (m - 1)) with
    | true =>
      rw [if_pos rfl]
      by_cases hq0 : q > 0
      · rw [if_pos hq0]
        have hms : m ≤ p.size := by rw [hp.size]; (first|lia|omega)
        refine desc_ok O C f _ (m + 1) 0 (hp.mirror _ _ _) (by (first|lia|omega)) (by (first|lia|omega)) (by (first|lia|omega)) ?_ (one _) k
        have eqv : ∀ i, i < m → le lt (at_ (kas_rev p (m - (q + 1)) m) i) (at_ p i) ∧ le lt (at_ p i) (at_ (kas_rev p (m - (q + 1)) m) i) := fun i hi => by
          rw [at_mirror hms]
          by_cases c : m - (q + 1) ≤ i ∧ i < m
          · rw [if_pos c]
            exact ⟨ht _ _ (by (first|lia|omega)) (by (first|lia|omega)) (by (first|lia|omega)) (by (first|lia|omega)), ht _ _ (by (first|lia|omega)) (by (first|lia|omega)) (by (first|lia|omega)) (by (first|lia|omega))⟩
          · rw [if_neg c]; exact ⟨le_refl O _, le_refl O _⟩
        have hd' : Down lt (kas_rev p (m - (q + 1)) m) m := fun i j a b => le_trans O (eqv j b).1 (le_trans O (hd i j a b) (eqv i (by (first|lia|omega))).2)
        refine down_snoc O h1 hd' ?_
        have em : at_ (kas_rev p (m - (q + 1)) m) m = at_ p m := by rw [at_mirror hms, if_neg (by (first|lia|omega))]
        rw [em]
        exact le_trans O (le_of_lt O hlt) (eqv (m - 1) (by (first|lia|omega))).2
      · rw [if_neg hq0]
        exact desc_ok O C f p (m + 1) 0 hp (by (first|lia|omega)) (by (first|lia|omega)) (by (first|lia|omega)) (down_snoc O h1 hd (le_of_lt O hlt)) (one _) k
    | false =>
      rw [if_neg Bool.false_ne_true]
      refine C.ask _ _ _ (hp.lt (by (first|lia|omega))) (hp.lt (by (first|lia|omega))) ?_
      show (if lt (at_ p (m - 1)) (at_ p m) = true then KasT.ret (p, m, q) else kas_desc f p (m + 1) (q + 1)).kasWp cmp Q s
      cases hlt2 : lt (at_ p (m - 1)) (at_ p m) with
      | true => rw [if_pos rfl]; exact k p m q hp h1 (by (first|lia|omega)) hq hd ht
      | false =>
        rw [if_neg Bool.false_ne_true]
        refine desc_ok O C f p (m + 1) (q + 1) hp (by (first|lia|omega)) (by (first|lia|omega)) (by (first|lia|omega)) (down_snoc O h1 hd hlt2) ?_ k
        have tm : ∀ i, m - (q + 1) ≤ i → i < m + 1 → le lt (at_ p i) (at_ p m) ∧ le lt (at_ p m) (at_ p i) := fun i a b => by
          by_cases e : i = m
          · subst e; exact ⟨le_refl O _, le_refl O _⟩
          · have t1 := ht i (m - 1) a (by (first|lia|omega)) (by (first|lia|omega)) (by (first|lia|omega))
            have t2 := ht (m - 1) i (by (first|lia|omega)) (by (first|lia|omega)) a (by (first|lia|omega))
            exact ⟨le_trans O t1 hlt, le_trans O hlt2 t2⟩
        intro i j a b c d
        exact le_trans O (tm i (by (first|lia|omega)) b).1 (tm j (by (first|lia|omega)) d).2
theorem tail_ok (O : Ord lt) (C : Cmp lt n cmp s) {p : Array Nat} {m : Nat} {Q : Nat × Array Nat → Shared → Prop} (hp : Re n p) (h1 : 1 ≤ m) (hm : m ≤ n) (hd : Down lt p m) (q : ∀ r p, Re n p → 1 ≤ r → r ≤ n → Up lt p r → Q (r, p) s) :
    (kas_tail3 m n p).kasWp cmp Q s := by
  unfold kas_tail3
  rw [KasT.kasWp_bind]
  have hms : m ≤ p.size := by rw [hp.size]; (first|lia|omega)
  refine asc_ok O C (hp.mirror 0 m _) (n - m) m h1 (by (first|lia|omega)) ?_ fun r h2 h3 h4 _ => q r _ (hp.mirror _ _ _) (by (first|lia|omega)) (by (first|lia|omega)) h4
  intro i j hij hj
  show le lt (at_ (kas_rev p 0 m) i) (at_ (kas_rev p 0 m) j)
  rw [at_mirror hms, at_mirror hms, if_pos (by (first|lia|omega)), if_pos (by (first|lia|omega))]
  exact hd _ _ (by (first|lia|omega)) (by (first|lia|omega))
theorem descPart_ok (O : Ord lt) (C : Cmp lt n cmp s) {p : Array Nat} {m : Nat} {Q : Nat × Array Nat → Shared → Prop} (hp : Re n p) (h1 : 1 ≤ m) (hm : m < n) (hd : Down lt p (m + 1)) (q : ∀ r p, Re n p → 1 ≤ r → r ≤ n → Up lt p r → Q (r, p) s) :
    (kas_descPart m n p).kasWp cmp Q s := by
  unfold kas_descPart
  rw [KasT.kasWp_bind]
  refine desc_ok O C (n - (m + 1)) p (m + 1) 0 hp (by (first|lia|omega)) (by (first|lia|omega)) (by (first|lia|omega)) hd (fun i j a b c d => by
    have : i = j := by (first|lia|omega)
    subst this; exact le_refl O _) fun p r k hp h2 h3 h4 hd ht => ?_
  show (if k > 0 then kas_tail3 r n (kas_rev p (r - (k + 1)) r) else kas_tail3 r n p).kasWp cmp Q s
  by_cases hk : k > 0
  · rw [if_pos hk]
    have hrs : r ≤ p.size := by rw [hp.size]; (first|lia|omega)
    refine tail_ok O C (hp.mirror _ _ _) h2 h3 ?_ q
    have eqv : ∀ i, i < r → le lt (at_ (kas_rev p (r - (k + 1)) r) i) (at_ p i) ∧ le lt (at_ p i) (at_ (kas_rev p (r - (k + 1)) r) i) := fun i hi => by
      rw [at_mirror hrs]
      by_cases c : r - (k + 1) ≤ i ∧ i < r
      · rw [if_pos c]
        exact ⟨ht _ _ (by (first|lia|omega)) (by (first|lia|omega)) (by (first|lia|omega)) (by (first|lia|omega)), ht _ _ (by (first|lia|omega)) (by (first|lia|omega)) (by (first|lia|omega)) (by (first|lia|omega))⟩
      · rw [if_neg c]; exact ⟨le_refl O _, le_refl O _⟩
    exact fun i j a b => le_trans O (eqv j b).1 (le_trans O (hd i j a b) (eqv i (by (first|lia|omega))).2)
  · rw [if_neg hk]
    exact tail_ok O C hp h2 h3 hd q
theorem count_ok (O : Ord lt) (C : Cmp lt n cmp s) {p : Array Nat} {Q : Nat × Array Nat → Shared → Prop} (hp : Re n p) (hn : 2 ≤ n) (q : ∀ r p, Re n p → 1 ≤ r → r ≤ n → Up lt p r → Q (r, p) s) : (kas_count n p).kasWp cmp Q s := by
  unfold kas_count
  rw [KasT.kasWp_bind]
  refine asc_ok O C hp (n - 1) 1 (Nat.le_refl _) (by (first|lia|omega)) (fun i j a b => by
    have : i = j := by (first|lia|omega)
    subst this; exact le_refl O _) fun r h1 h2 hu hlt => ?_
  have hps := hp.size
  by_cases e : r = n
  · subst e
    have : (r == r) = true := by simp
    rw [if_pos this]
    exact q r p hp h1 (Nat.le_refl _) hu
  · rw [if_neg (by simpa using e)]
    have hl := hlt (by (first|lia|omega))
    by_cases h2' : r > 1
    · rw [if_pos h2']
      refine C.ask _ _ _ (hp.lt (by (first|lia|omega))) (hp.lt (by (first|lia|omega))) ?_
      show (if lt (at_ p 0) (at_ p (r - 1)) = true then KasT.ret (r, p) else kas_descPart r n (kas_rev p 0 r)).kasWp cmp Q s
      cases hz : lt (at_ p 0) (at_ p (r - 1)) with
      | true => rw [if_pos rfl]; exact q r p hp h1 (by (first|lia|omega)) hu
      | false =>
        rw [if_neg Bool.false_ne_true]
        have ties : ∀ i j, i < r → j < r → le lt (at_ p i) (at_ p j) := fun i j a b =>
          le_trans O (hu i (r - 1) (by (first|lia|omega)) (by (first|lia|omega))) (le_trans O hz (hu 0 j (by (first|lia|omega)) b))
        refine descPart_ok O C (hp.mirror _ _ _) h1 (by (first|lia|omega)) ?_ q
        have hrs : r ≤ p.size := by (first|lia|omega)
        intro i j hij hj
        show le lt (at_ (kas_rev p 0 r) j) (at_ (kas_rev p 0 r) i)
        rw [at_mirror hrs, at_mirror hrs]
        by_cases ej : j = r
        · subst ej
          rw [if_neg (by (first|lia|omega))]
          by_cases ei : i = j
          · subst ei; rw [if_neg (by (first|lia|omega))]; exact le_refl O _
          · rw [if_pos (by (first|lia|omega))]
            exact le_trans O (le_of_lt O hl) (ties _ _ (by (first|lia|omega)) (by (first|lia|omega)))
        · rw [if_pos (by (first|lia|omega)), if_pos (by (first|lia|omega))]
          exact ties _ _ (by (first|lia|omega)) (by (first|lia|omega))
    · rw [if_neg h2']
      have : r = 1 := by (first|lia|omega)
      subst this
      refine descPart_ok O C hp h1 (by (first|lia|omega)) ?_ q
      intro i j hij hj
      have : (i = 0 ∧ j = 0) ∨ (i = 0 ∧ j = 1) ∨ (i = 1 ∧ j = 1) := by (first|lia|omega)
      rcases this with ⟨rfl, rfl⟩ | ⟨rfl, rfl⟩ | ⟨rfl, rfl⟩
      · exact le_refl O _
      · exact le_of_lt O hl
      · exact le_refl O _
theorem sort_ok (O : Ord lt) (C : Cmp lt n cmp s) {Q : Array Nat → Shared → Prop} (hn : 2 ≤ n) (q : ∀ p, Re n p → Up lt p n → Q p s) : (kas_sort n).kasWp cmp Q s := by
  unfold kas_sort
  rw [KasT.kasWp_bind]
  have h0 : Re n (List.toArray (List.range n)) := List.Perm.refl _
  refine count_ok O C h0 hn fun r p hp h1 h2 hu => ?_
  show (if r < n then kas_bin (n - max r 1) p (max r 1) else KasT.ret p).kasWp cmp Q s
  have em : max r 1 = r := by (first|lia|omega)
  rw [em]
  by_cases hr : r < n
  · rw [if_pos hr]
    exact bin_ok O C (n - r) p r hp h1 (by (first|lia|omega)) hu q
  · rw [if_neg hr]
    have : r = n := by (first|lia|omega)
    subst this
    exact q p hp hu
end
end My.Sort
set_option maxHeartbeats 1000000
namespace L2
open PySem PySem.Spec PyProof.Rows
section
variable {X : Cx} {pins : List (Addr × Obj)} {σ : St} {H : Hp} {s : Shared}
theorem Inv.newAt {h' : Heap} {tk : Nat} {D : Addr} {ws : List V} {its : List Value} {n : Nat} (I : Inv X pins σ H s) (k : ∀ b o, b ≠ X.env.locals → s.heap.get? b = some o → h'.get? b = some o) (hns : ∀ m, s.heap.Ns X.env.locals m → h'.Ns X.env.locals m)
    (hD : s.heap.get? D = none) (nD : H D = none) (hz : ws.length ≤ sizeLine) (hv : Vals ws its) (hl : h'.get? D = some { cls := .type "list", data := .seq its.toArray n }) : Inv X pins σ (upd H D (.lst ws)) { s with heap := h', toks := tk } := by
  have neD : ∀ b o, s.heap.get? b = some o → b ≠ D := fun b o e z => by rw [z, hD] at e; cases e
  have tL : ∀ b o, H b = some o → b ≠ X.env.locals := fun b o e z => by rw [z, I.free] at e; cases e
  refine I.step (ch := []) (fun b hb => by cases hb) (fun b o h1 _ _ e _ => k b o h1 e) (fun b o h1 h2 _ e _ => ⟨o.slots, k b o h1 e⟩) (fun b o _ e n => by rw [upd_ne (neD b o e)]; exact n) (fun b o _ e => ?_)
    (fun b xs e => by rw [upd_ne (ne_of_none e nD)]; exact e) (fun b o u e => by rw [upd_ne (ne_of_none e nD)]; exact e) (fun b ps e => ⟨#[], by rw [upd_ne (ne_of_none e nD)]; simpa using e⟩) hns ?_ I.bare
  · by_cases hb : b = X.env.locals
    · subst hb
      obtain ⟨m, hm, _⟩ := I.loc
      obtain ⟨o', _, _, ho', _⟩ := hns m hm
      exact ⟨o', ho'⟩
    · exact ⟨o, k b o hb e⟩
  · intro b u e
    by_cases hb : b = D
    · subst hb
      rw [upd_same] at e
      cases e
      exact ⟨hz, its, n, hv, hl⟩
    · rw [upd_ne hb] at e
      refine (I.hok b u e).stay (fun c oc hc ec => k c oc ?_ ec) (fun c hc => ?_) (fun c xs hc => ?_)
      · rcases hc with rfl | hc
        · exact tL _ _ e
        · exact tL _ _ hc
      · rw [upd_ne (ne_of_none hc nD)]; exact hc
      · rw [upd_ne (ne_of_none hc nD)]; exact hc
end
section
variable {prog : Program} {w : World} {A : Around} {E : Value → Shared → Prop} {s : Shared}
theorem sorted_few {l : Addr} {vs : List Value} {Q : Value → Shared → Prop} (hl : s.heap.IsList l vs.toArray) (h2 : vs.length < 2)
    (h : ∀ h' n, (∀ b o, s.heap.get? b = some o → h'.get? b = some o) → h'.get? (s.heap.objs.size + 1) = some { cls := .type "list", data := .seq vs.toArray n } → Q (.ref (s.heap.objs.size + 1)) { s with heap := h' }) :
    wpAny (model prog w) A (call (.builtin "sorted") [.ref l]) Q E s := by
  have hsl : vs.length ≤ sizeLine := Nat.le_trans (Nat.le_of_lt h2) (by decide)
  refine Calls.call_function_entry kind_sorted plain_sorted entry_sorted (args_sorted1 _) ?_
  unfold Builtin.«sorted»
  refine wpAny_bind (m := checkCount "sorted" 1 1 _) (wpAny_pure (wpAny_bind (collect_list hl (wpAny_bind (wpAny_newList ?_ hsl)) hsl)))
  have size1 : ((s.heap.push (seqObj "list" #[] 0)).update s.heap.objs.size (Obj.mapSeq (· ++ vs.toArray))).objs.size = s.heap.objs.size + 1 := by rw [Heap.size_update, size_push']
  have old1 : ∀ b o, s.heap.get? b = some o → ((s.heap.push (seqObj "list" #[] 0)).update s.heap.objs.size (Obj.mapSeq (· ++ vs.toArray))).get? b = some o := fun b o e => by
    rw [Heap.get?_update_other _ _ (Nat.ne_of_gt (Heap.lt_size e))]; exact Heap.get?_push_of_some _ e
  generalize (s.heap.push (seqObj "list" #[] 0)).update s.heap.objs.size (Obj.mapSeq (· ++ vs.toArray)) = g1 at size1 old1 ⊢
  have at1 : (g1.push (seqObj "list" vs.toArray 0)).get? (s.heap.objs.size + 1) = some (seqObj "list" vs.toArray 0) := by rw [← size1]; exact Heap.get?_push_size _ rfl
  have old2 : ∀ b o, s.heap.get? b = some o → (g1.push (seqObj "list" vs.toArray 0)).get? b = some o := fun b o e => Heap.get?_push_of_some _ (old1 b o e)
  show wpAny _ _ _ _ _ { s with heap := g1.push (seqObj "list" vs.toArray 0) }
  rw [size1]
  have ne : ∀ b o, s.heap.get? b = some o → s.heap.objs.size + 1 ≠ b := fun b o e z => by
    have := Heap.lt_size e
    rw [← z] at this
    exact absurd this (Nat.not_lt.mpr (Nat.le_succ _))
  generalize g1.push (seqObj "list" vs.toArray 0) = g2 at at1 old2 ⊢
  generalize s.heap.objs.size + 1 = D at *
  refine wpAny_bind (wpAny_holding (wpAny_call_entry slot_list_sort ⟨_, at1, rfl⟩ entry_list_sort ?_ (args_list_sort _)))
  rw [list_sort_plain]
  refine wpAny_bind (listItems_at at1 rfl (wpAny_bind (listUpdate_at at1 rfl ?_ (by simpa using hsl))))
  obtain ⟨e3, at3⟩ : ∃ e3, (g2.update D (Obj.mapSeq fun _ => #[])).get? D = some (seqObj "list" #[] e3) := ⟨_, get?_update_seq at1 (fun _ => #[])⟩
  have old3 : ∀ b o, s.heap.get? b = some o → (g2.update D (Obj.mapSeq fun _ => #[])).get? b = some o := fun b o e => by
    rw [Heap.get?_update_other _ _ (ne b o e)]; exact old2 b o e
  generalize g2.update D (Obj.mapSeq fun _ => #[]) = g3 at at3 old3 ⊢
  refine wpAny_bind (seqEpoch_at at3 rfl (wpAny_bind (wpAny_newTuple (wpAny_bind (wpAny_newList (wpAny_holding ?_))) (by simpa using hsl))))
  have at4 : ((g3.push (seqObj "tuple" vs.toArray 0)).push (seqObj "list" #[] 0)).get? D = some (seqObj "list" #[] e3) := Heap.get?_push_of_some _ (Heap.get?_push_of_some _ at3)
  have old4 : ∀ b o, s.heap.get? b = some o → ((g3.push (seqObj "tuple" vs.toArray 0)).push (seqObj "list" #[] 0)).get? b = some o := fun b o e => Heap.get?_push_of_some _ (Heap.get?_push_of_some _ (old3 b o e))
  show wpAny _ _ _ _ _ { s with heap := (g3.push (seqObj "tuple" vs.toArray 0)).push (seqObj "list" #[] 0) }
  generalize (g3.push (seqObj "tuple" vs.toArray 0)).push (seqObj "list" #[] 0) = g4 at at4 old4 ⊢
  dsimp only
  have few : vs.toArray.size < 2 := by simpa using h2
  rw [if_pos few, if_pos few]
  refine wpAny_bind (wpAny_pure ?_)
  rw [StateT.run_pure]
  refine wpAny_bind (wpAny_pure ?_)
  dsimp only
  refine wpAny_bind (seqEpoch_at at4 rfl ?_)
  have eo : (arrOf (SortSt.mk' general' (vs.toArray.zip vs.toArray) #[] 7 none)).map (·.2) = vs.toArray := by
    show (vs.toArray.zip vs.toArray).map (·.2) = vs.toArray
    apply Array.ext'
    rw [Array.toList_map, Array.toList_zip]
    exact List.map_snd_zip (Nat.le_refl _)
  refine wpAny_bind (listUpdate_at at4 rfl ?_ (by simp) (by rw [eo]; simp; (first|lia|omega)))
  simp only [bne_self_eq_false, Bool.false_eq_true, if_false]
  rw [eo]
  refine wpAny_pure ⟨_, rfl, wpAny_pure ⟨_, rfl, ?_⟩⟩
  exact h _ _ (fun b o e => by rw [Heap.get?_update_other _ _ (ne b o e)]; exact old4 b o e) (get?_update_seq at4 _)
end
section
variable {prog : Program} {w : World} {A : Around} {E : Value → Shared → Prop} {s : Shared}
theorem ask_lists {x y : Addr} {us vs : List Value} {ns ms : List Int} {Q : Bool → Shared → Prop} (hx : s.heap.IsList x us.toArray) (hy : s.heap.IsList y vs.toArray) (hi : IntsAre us ns) (hj : IntsAre vs ms) (hu : A.units < cLine)
    (h : Q (HT.lexLt ns ms) s) : wpAny (model prog w) A (keyLt' oneType' (.ref x) (.ref y)) Q E s := by
  obtain ⟨⟨cx, dx, bx, sx⟩, ox, qx, nx, zx⟩ := id hx
  obtain ⟨⟨cy, dy, by', sy⟩, oy, qy, ny, zy⟩ := id hy
  simp only at qx zx qy zy
  subst qx zx qy zy
  rw [keyLt'_oneType, oneLt'_eq]
  simp only [if_true]
  refine wpAny_bind (wpAny_cRoomFor hu (wpAny_bind ?_))
  refine wpAny_callSpecialIfBound?_slot hx.typeIs F.slot_list_lt (call_meets F.slot_list_lt hx.typeIs F.entry_list_lt (F.args_list_lt_2 _ _) (HT.list_lt_ints x y us.toArray vs.toArray nx ny dx dy sx sy ns ms (by simpa using hi) (by simpa using hj)) ⟨ox, oy, ?_⟩)
  exact wpAny_truthy_bool h
end
section
variable {X : Cx}
noncomputable def rSortedI : List V → Hp → VK → Prop := fun xs H Q => ∃ (p : Addr) (ns : List Int), xs = [.ref p] ∧ H p = some (.lst (ns.map V.int)) ∧ ns.length < 64 ∧
  ∀ D H' (qs : List Int), H D = none → Same H H' → H' D = some (.lst (qs.map V.int)) → qs.Perm ns → qs.Pairwise (· ≤ ·) → Q (.ref D) H'
noncomputable def rSortedL : List V → Hp → VK → Prop := fun xs H Q => ∃ (p : Addr) (vs : List V) (rs : List (List Int)), xs = [.ref p] ∧ H p = some (.lst vs) ∧ Paired (LI H) vs rs ∧ vs.length < 64 ∧
  ∀ D H' (ws : List V) (qs : List (List Int)), H D = none → Same H H' → H' D = some (.lst ws) → Paired (LI H') ws qs → qs.Perm rs → qs.Pairwise (fun a b => HT.lexLt b a = false) → ws.Perm vs → Q (.ref D) H'
theorem sortedAll_len {h : Heap} {vs : List Value} {out : Array Value} : ∃ n, (sortedAll h vs out).get? (h.objs.size + 1) = some { cls := .type "list", data := .seq out n } := by
  obtain ⟨e, he⟩ := sortedAll_at h vs out
  exact ⟨e, he⟩
theorem call_sortedI : CallR X (.builtin "sorted") rSortedI := by
  intro pins s σ H xs us Q I r h
  obtain ⟨p, ns, rfl, hp, hz, q⟩ := h
  obtain ⟨u, rfl, rx⟩ := vals1 r
  cases rx
  obtain ⟨its, rv, pl, hsz⟩ := I.list (SqL.of hp)
  have hl := rv.length
  rw [List.length_map] at hl
  refine sorted_ints pl.isList (intsAre_of rv) (by (first|lia|omega)) fun out qs h1 h2 h3 => ?_
  obtain ⟨n, hn⟩ := sortedAll_len (h := s.heap) (vs := its) (out := out)
  have hq : qs.length ≤ sizeLine := by rw [h2.length_eq]; exact Nat.le_trans (Nat.le_of_lt hz) (by decide)
  have hD : H (s.heap.objs.size + 1) = none := I.hok.fresh (Nat.le_succ _)
  refine ⟨.ref _, _, I.laid (t' := s.toks) (o := .lst (qs.map V.int)) (fun b o e => sortedAll_old e) (Nat.le_succ _) ⟨by rw [List.length_map]; exact hq, out.toList, n, vals_ints h1, by simpa using hn⟩, rfl, q _ _ qs hD (same_new hD _) upd_same h2 h3⟩
theorem LI.at_ {H : Hp} {vs : List V} {rs : List (List Int)} (h : Paired (LI H) vs rs) {i : Nat} (hi : i < rs.length) : ∃ a, vs[i]? = some (.ref a) ∧ H a = some (.lst ((rs.getD i []).map V.int)) := by
  obtain ⟨x, e, a, rfl, t⟩ := Paired.at_ h (List.getElem?_eq_getElem hi)
  refine ⟨a, e, ?_⟩
  rw [List.getD_eq_getElem?_getD, List.getElem?_eq_getElem hi]
  exact t
end
theorem ObjOk.there {P : Program} {w : World} {H : Hp} {h : Heap} {a : Addr} : ∀ {o : HO}, ObjOk P w H h a o → ∃ ob, h.get? a = some ob
  | .lst _, ⟨_, _, _, _, e⟩ => ⟨_, e⟩
  | .tup _, ⟨_, _, _, o, e, _⟩ => ⟨o, e⟩
  | .dK _, ⟨_, _, _, _, o, _, _, e, _⟩ => ⟨o, e⟩
  | .dT _, ⟨_, _, _, _, o, _, _, e, _⟩ => ⟨o, e⟩
  | .set _ _, ⟨o, _, _, _, e, _⟩ => ⟨o, e⟩
  | .ins _ _ _, ⟨_, _, _, e, _⟩ => ⟨_, e⟩
  | .own _, ⟨o, e⟩ => ⟨o, e⟩
  | .xd _, ⟨_, ⟨o, _, _, e, _⟩, _⟩ => ⟨o, e⟩
  | .rng _ _, ⟨_, _, _, e⟩ => ⟨_, e⟩
  | .frz _ _, ⟨e, _⟩ => ⟨_, e⟩
  | .tbl _, e => ⟨_, e⟩
  | .met _ _, e => ⟨_, e⟩
  | .ext _, ⟨_, ⟨o, e⟩, _⟩ => ⟨o, e⟩
section
variable {X : Cx}
theorem lexOrd (key : Nat → List Int) : My.Sort.Ord (fun i j => HT.lexLt (key i) (key j)) := ⟨fun a => HT.lexLt_irr _, fun a b c => HT.lexLt_trans _ _ _, fun a b c => HT.lexLt_neg _ _ _⟩
theorem map_range_getD {α : Type} (l : List α) (d : α) : (List.range l.length).map (fun i => l.getD i d) = l := by
  apply List.ext_getElem
  · simp
  · intro i h1 h2
    simp [List.getD_eq_getElem?_getD, List.getElem?_eq_getElem h2]
theorem call_sortedL (hu : X.A.units + 64 < cLine) : CallR X (.builtin "sorted") rSortedL := by
  intro pins s σ H xs us Q I r h
  obtain ⟨p, vs, rs, rfl, hp, hP, hz, q⟩ := h
  obtain ⟨u, rfl, rx⟩ := vals1 r
  cases rx
  obtain ⟨its, rv, pl, hsz⟩ := I.list (SqL.of hp)
  have hl := rv.length
  have hl2 := hP.length
  by_cases h2 : its.length < 2
  · refine sorted_few pl.isList h2 fun h' n hk hn => ?_
    have hD : H (s.heap.objs.size + 1) = none := I.hok.fresh (Nat.le_succ _)
    refine ⟨.ref _, _, I.laid (t' := s.toks) (o := .lst vs) hk (Nat.le_succ _) ⟨hsz, its, n, rv, hn⟩, rfl, q _ _ vs rs hD (same_new hD _) upd_same (LIs.same (same_new hD _) hP) (List.Perm.refl _) ?_ (List.Perm.refl _)⟩
    match rs, hl2 with
    | [], _ => exact List.Pairwise.nil
    | [a], _ => exact List.pairwise_singleton _ _
    | a :: b :: t, e => simp at e; (first|lia|omega)
  · obtain ⟨m, F⟩ := I.fr
    have N : News X.base X.env.locals s.heap (allNews X.base s.heap X.env.locals) := news_all
    have item : ∀ i, i < rs.length → ∃ (a : Addr) (zs : List Value) (n : Nat), its.getD i Value.none = .ref a ∧ vs.getD i .non = .ref a ∧ H a = some (.lst ((rs.getD i []).map V.int)) ∧ IntsAre zs (rs.getD i []) ∧
        s.heap.get? a = some { cls := .type "list", data := .seq zs.toArray n } ∧ (a, ({ cls := .type "list", data := .seq zs.toArray n } : Obj)) ∈ allNews X.base s.heap X.env.locals := fun i hi => by
      obtain ⟨a, e1, e2⟩ := LI.at_ hP hi
      obtain ⟨u, e3, e4⟩ := Vals.get rv e1
      obtain ⟨zs, n, z1, z2, z3⟩ := I.lst e2
      refine ⟨a, zs, n, ?_, ?_, e2, intsAre_of z1, z2, mem_allNews (fun z => ?_) ?_ z2⟩
      · rw [List.getD_eq_getElem?_getD, e3]; exact e4
      · rw [List.getD_eq_getElem?_getD, e1]; rfl
      · rw [z, I.free] at e2; cases e2
      · cases eb : X.base.get? a with
        | none => rfl
        | some o => rw [(I.bs a o eb).2] at e2; cases e2
    refine PySem.W.kas_sorted (T := .type "list") F N pl.isList (by (first|lia|omega)) (by (first|lia|omega)) (fun h' F' N' v hv => ?_) (by decide) fun D e1 h' F' N' hlt => ?_
    · obtain ⟨i, hi, e⟩ := List.getElem_of_mem hv
      obtain ⟨a, zs, n, i1, _, _, _, _, i5⟩ := item i (by (first|lia|omega))
      rw [List.getD_eq_getElem?_getD, List.getElem?_eq_getElem hi] at i1
      have i1' : its[i] = .ref a := i1
      rw [← e, i1']
      intro A' Q' E' s' k' q'
      exact wpAny_typeOf ⟨_, k' _ _ (N' _ i5).1, rfl⟩ q'
    · have nd := N' _ (List.mem_cons_self ..)
      have hDs : s.heap.get? D = none := by
        cases e : s.heap.get? D with
        | none => rfl
        | some o => exact absurd (hlt _ (mem_allNews nd.2.1 nd.2.2 e)) (Nat.lt_irrefl _)
      have hDH : H D = none := by
        cases e : H D with
        | none => rfl
        | some o =>
          obtain ⟨ob, eo⟩ := (I.hok D o e).there
          rw [hDs] at eo; cases eo
      have len : rs.length = its.length := by (first|lia|omega)
      refine My.Sort.sort_ok (n := its.length) (lexOrd fun i => rs.getD i []) ⟨fun i j C hi hj hC => ?_⟩ (by (first|lia|omega)) fun ps hps hup => ?_
      · obtain ⟨a, zs, n, i1, _, _, i3, _, i5⟩ := item i (by (first|lia|omega))
        obtain ⟨b, ys, n', j1, _, _, j3, _, j5⟩ := item j (by (first|lia|omega))
        show wpAny _ _ (keyLt' oneType' (its.getD i Value.none) (its.getD j Value.none)) C _ _
        rw [i1, j1]
        exact ask_lists ⟨_, (N' _ (List.mem_cons_of_mem _ i5)).1, rfl, n, rfl⟩ ⟨_, (N' _ (List.mem_cons_of_mem _ j5)).1, rfl, n', rfl⟩ i3 j3 (by show X.A.units + 1 + 1 < cLine; (first|lia|omega)) hC
      · have mem : ∀ i ∈ ps.toList, i < rs.length := fun i hi => by
          have := List.mem_range.mp (hps.mem_iff.mp hi)
          (first|lia|omega)
        refine PySem.W.KasFin.intro F' N' (.head fun z hzz => Nat.ne_of_lt (hlt z hzz)) fun h'' c F'' N'' => ?_
        have nd2 := N'' _ (List.mem_cons_self ..)
        have keep : ∀ b o, b ≠ X.env.locals → s.heap.get? b = some o → h''.get? b = some o := fun b o hb e => by
          cases eb : X.base.get? b with
          | some o' =>
            have := (I.bs b o' eb).1
            rw [e] at this
            cases this
            exact F''.keep b o eb
          | none => exact (N'' _ (List.mem_cons_of_mem _ (mem_allNews hb eb e))).1
        have ns : ∀ m', s.heap.Ns X.env.locals m' → h''.Ns X.env.locals m' := fun m' hm' => by
          have : m' = m := by rw [hm'.eq_nsMap, F.ns.eq_nsMap]
          rw [this]; exact F''.ns
        have hv : Vals (ps.toList.map fun i => vs.getD i .non) (ps.toList.map fun i => its.getD i Value.none) := by
          have : ∀ l : List Nat, (∀ i ∈ l, i < rs.length) → Vals (l.map fun i => vs.getD i .non) (l.map fun i => its.getD i Value.none) := fun l => by
            induction l with
            | nil => intro _; exact .nil
            | cons i t ih =>
              intro hm
              obtain ⟨a, zs, n, i1, i2, _⟩ := item i (hm i List.mem_cons_self)
              refine .cons ?_ (ih fun j hj => hm j (List.mem_cons_of_mem _ hj))
              show RelV (vs.getD i .non) (its.getD i Value.none)
              rw [i1, i2]; rfl
          exact this _ mem
        have hP2 : ∀ H', Same H H' → Paired (LI H') (ps.toList.map fun i => vs.getD i .non) (ps.toList.map fun i => rs.getD i []) := fun H' S => by
          have : ∀ l : List Nat, (∀ i ∈ l, i < rs.length) → Paired (LI H') (l.map fun i => vs.getD i .non) (l.map fun i => rs.getD i []) := fun l => by
            induction l with
            | nil => intro _; exact .nil
            | cons i t ih =>
              intro hm
              obtain ⟨a, zs, n, _, i2, i3, _⟩ := item i (hm i List.mem_cons_self)
              refine .cons ⟨a, i2, S _ _ i3⟩ (ih fun j hj => hm j (List.mem_cons_of_mem _ hj))
          exact this _ mem
        have hn : ps.toList.length = its.length := by
          have := hps.length_eq
          simpa using this
        refine ⟨.ref D, _, I.newAt (tk := s.toks) keep ns hDs hDH (by rw [List.length_map]; (first|lia|omega)) hv nd2.1, rfl, q D _ _ _ hDH (same_new hDH _) upd_same (hP2 _ (same_new hDH _)) ?_ ?_ ?_⟩
        · have := hps.map (fun i => rs.getD i [])
          rw [← len, map_range_getD] at this
          exact this
        · rw [List.pairwise_map, List.pairwise_iff_getElem]
          intro i j hi hj hij
          have := hup i j (Nat.le_of_lt hij) (by (first|lia|omega))
          have ei : My.Sort.at_ ps i = ps.toList[i] := by
            rw [My.Sort.at_eq, Array.getElem?_eq_getElem (by simpa using hi)]; simp
          have ej : My.Sort.at_ ps j = ps.toList[j] := by
            rw [My.Sort.at_eq, Array.getElem?_eq_getElem (by simpa using hj)]; simp
          rw [ei, ej] at this
          exact this
        · have := hps.map (fun i => vs.getD i V.non)
          rw [← hl, map_range_getD] at this
          exact this
end
end L2
set_option maxHeartbeats 1000000
namespace L2
open PySem PySem.Spec PyProof.Rows
section
variable {X : Cx} {pins : List (Addr × Obj)} {σ : St} {H : Hp} {s : Shared} {h' : Heap}
end
section
variable {prog : Program} {w : World} {A : Around} {s : Shared} {R : Result → Shared → Prop}
theorem extend_walk {T : String} {r S : Addr} {c₀ : Nat} {res : Value} {E : Value → Shared → Prop} (hT : s.TypeIs (.ref r) T) (nl : (Value.type T == Value.type "list") = false) (nt : (Value.type T == Value.type "tuple") = false) (hSr : S ≠ r)
    (hS : s.heap.get? S = some { cls := .type "list", data := .seq #[] c₀ })
    (hit : wpAny (model prog w) A.in1 (pyIter (.ref r)) (fun v s₁ => ∃ (I : Addr) (fp wr : List Addr) (n : Nat) (P : Nat → Value → Prop) (St : Nat → Heap → Prop) (h₁ : Heap) (tk : Nat), v = .ref I ∧ s₁ = { s with heap := h₁, toks := tk } ∧ Walks prog w A.in1 I fp wr n P St ∧ St 0 h₁ ∧ S ∉ fp ∧
      (∀ b o, s.heap.get? b = some o → h₁.get? b = some o) ∧ n ≤ sizeLine ∧ (∀ (Q : Bool → Shared → Prop) (E : Value → Shared → Prop), (∀ b tk', Q b { s with heap := h₁, toks := tk' }) → wpAny (model prog w) A.in1 (Builtin.List.listLengthHint (.ref r)) Q E s₁) ∧
      ∀ h' tk' acc c, (∀ b o, b ∉ S :: wr → h₁.get? b = some o → h'.get? b = some o) → h'.get? S = some { cls := .type "list", dict := none, data := .seq acc c, slots := #[] } → ItemsOf P acc n → R (.ok (.ret res)) { s with heap := h', toks := tk' }) (fun e s' => R (.error e) s') s) :
    wpAny (model prog w) A.in1 (Builtin.List.listExtendWith (.ref S) (.ref r) res)
      (fun fin s' => match fin with | .done f => R (.ok f) s' | .again c' => c'.quiet = true ∧ codeAny (model prog w) A c' R s') (fun e s' => R (.error e) s') s := by
  unfold Builtin.List.listExtendWith
  refine wpAny_bind (wpAny_typeOf (T := T) hT ?_)
  have h1 : Builtin.List.listSameRef (.ref S) (.ref r) = false := by simp [Builtin.List.listSameRef, hSr]
  simp only [h1, nl, nt, Bool.or_false, Bool.false_eq_true, if_false]
  refine wpAny_bind (wpAny_mono hit (fun v s₁ hv => ?_) fun _ _ e => e)
  obtain ⟨I, fp, wr, n, P, St, h₁, tk, rfl, rfl, W, st, hSf, keep, hn, hint, fin⟩ := hv
  have hS₁ := keep _ _ hS
  have key : ∀ (h : Heap) (c₁ tk : Nat), St 0 h → (∀ b o, b ≠ S → h₁.get? b = some o → h.get? b = some o) →
      h.get? S = some { cls := .type "list", data := .seq #[] c₁ } → codeAny (model prog w) A (.builtin "list.extend.loop" ⟨[.ref S, .ref I, res], []⟩) R { s with heap := h, toks := tk } := by
    intro h c₁ tk hst hk hS₁
    refine codeAny_extend_loopS W.toS hn S hSf res n 0 _ #[] c₁ rfl (Nat.zero_le _) hst hS₁ (ItemsOf.nil _) fun s' acc' c' hm hS' hacc => ?_
    rw [Moved.eq_with hm]
    exact fin s'.heap s'.toks acc' c' (fun b o hb e => hm.heap b o hb (hk b o (fun z => hb (by rw [z]; exact List.mem_cons_self)) e)) hS' hacc
  refine wpAny_bind (wpAny_holding (hint _ _ fun b tk' => ?_))
  refine wpAny_ite_split (fun _ => ?_) (fun _ => wpAny_pure ⟨plainId_quiet PySem.F.plain_extend_loop _, key _ c₀ _ st (fun b o _ e => e) hS₁⟩)
  refine wpAny_bind (wpAny_rule ?_)
  refine wpAny_bind ?_
  show wpAny _ _ (updateSeq S (·.push .none) >>= fun _ => updateSeq S (·.pop)) _ _ _
  refine wpAny_bind (wpAny_updateSeq hS₁ rfl ?_)
  have hS₂ := Heap.get?_update_self (Obj.mapSeq (·.push Value.none)) hS₁ rfl
  refine wpAny_updateSeq (hz := by seq_fits) hS₂ rfl ?_
  have hS₃ := Heap.get?_update_self (Obj.mapSeq (·.pop)) hS₂ rfl
  have oth : ∀ b o, b ≠ S → h₁.get? b = some o → ((h₁.update S (Obj.mapSeq (·.push Value.none))).update S (Obj.mapSeq (·.pop))).get? b = some o := fun b o hb e =>
    (Heap.get?_update_other _ _ (Ne.symm hb)).trans ((Heap.get?_update_other _ _ (Ne.symm hb)).trans e)
  refine wpAny_pure ⟨plainId_quiet PySem.F.plain_extend_loop _, key _ _ _ ?_ oth hS₃⟩
  exact W.frame 0 _ _ st fun b hb o e => oth b o (fun h => hSf (h ▸ hb)) e
end
section
variable {prog : Program} {w : World} {A : Around} {s : Shared}
noncomputable def Gone (prog : Program) (w : World) (A : Around) (s : Shared) (r : Addr) (C : Heap → Nat → List Value → Prop) : Prop :=
  ∀ (s₀ : Shared) (S : Addr) (E : Value → Shared → Prop), (∀ b o, s.heap.get? b = some o → s₀.heap.get? b = some o) → s.heap.get? S = none → (∃ o, s₀.heap.get? S = some o) → s.heap.objs.size ≤ S →
    wpAny (model prog w) A (pyIter (.ref r)) (fun v s₁ => ∃ (I : Addr) (fp wr : List Addr) (n : Nat) (P : Nat → Value → Prop) (St : Nat → Heap → Prop) (h₁ : Heap) (tk : Nat), v = .ref I ∧ s₁ = { s₀ with heap := h₁, toks := tk } ∧ Walks prog w A I fp wr n P St ∧ St 0 h₁ ∧ S ∉ fp ∧
      (∀ b o, s₀.heap.get? b = some o → h₁.get? b = some o) ∧ n ≤ sizeLine ∧ (∀ (Q : Bool → Shared → Prop) (E : Value → Shared → Prop), (∀ b tk', Q b { s₀ with heap := h₁, toks := tk' }) → wpAny (model prog w) A (Builtin.List.listLengthHint (.ref r)) Q E s₁) ∧
      ∀ h' tk' acc, (∀ b o, b ∉ S :: wr → h₁.get? b = some o → h'.get? b = some o) → ItemsOf P acc n → C h' tk' acc.toList) E s₀
end
end L2
set_option maxHeartbeats 1000000
namespace My
open PySem
end My
namespace L2
open PySem PySem.Spec PyProof.Rows
section
variable {prog : Program} {w : World} {A : Around} {E : Value → Shared → Prop} {s : Shared}
end
section
variable {prog : Program} {w : World} {A : Around} {E : Value → Shared → Prop} {s : Shared}
end
section
variable {X : Cx}
end
end L2
set_option maxHeartbeats 1000000
namespace My
open PySem
noncomputable def tab1 (led : Bool) (a : Nat) : SetTable := { mask := 7, place := #[a % 8], dummies := #[], finger := 0, led := led, moves := 0, plain := true }
noncomputable def tab2 (led : Bool) (a b : Nat) : SetTable := { mask := 7, place := if a % 8 < b % 8 then #[a % 8, b % 8] else #[b % 8, a % 8], dummies := #[], finger := 0, led := led, moves := 0, plain := true }
theorem small {a : Int} (h : 2 ≤ a ∧ a ≤ 8) : a = 2 ∨ a = 3 ∨ a = 4 ∨ a = 5 ∨ a = 6 ∨ a = 7 ∨ a = 8 := by (first|lia|omega)
theorem lay1 {led : Bool} {a : Int} {x : Value} (h : 2 ≤ a ∧ a ≤ 8) : layNew (.fresh 0 0 led) #[] a x = (#[(a, x)], tab1 led a.toNat, false, false) := by
  rcases small h with rfl | rfl | rfl | rfl | rfl | rfl | rfl <;> rfl
theorem insert0 {α : Type} (u v : α) : SetTable.insertAt #[u] 0 v = #[v, u] := by simp [SetTable.insertAt]
theorem insert1 {α : Type} (u v : α) : SetTable.insertAt #[u] 1 v = #[u, v] := by simp [SetTable.insertAt]
theorem free2 {led : Bool} {a b : Int} (h : 2 ≤ a ∧ a ≤ 8) (h' : 2 ≤ b ∧ b ≤ 8) (ne : a ≠ b) : SetTable.freeSlot (tab1 led a.toNat) b = some (b.toNat % 8, false) := by
  cases led <;> rcases small h with rfl | rfl | rfl | rfl | rfl | rfl | rfl <;> rcases small h' with rfl | rfl | rfl | rfl | rfl | rfl | rfl <;> first | exact absurd rfl ne | decide +kernel
theorem below1 {a b : Int} (h : 2 ≤ a ∧ a ≤ 8) (h' : 2 ≤ b ∧ b ≤ 8) (ne : a ≠ b) : SetTable.below #[a.toNat % 8] (b.toNat % 8) = if a.toNat % 8 < b.toNat % 8 then 1 else 0 := by
  rcases small h with rfl | rfl | rfl | rfl | rfl | rfl | rfl <;> rcases small h' with rfl | rfl | rfl | rfl | rfl | rfl | rfl <;> first | exact absurd rfl ne | decide +kernel
theorem lay2 {led : Bool} {a b : Int} {x y : Value} (h : 2 ≤ a ∧ a ≤ 8) (h' : 2 ≤ b ∧ b ≤ 8) (ne : a ≠ b) :
    layNew (tab1 led a.toNat) #[(a, x)] b y = (if a.toNat % 8 < b.toNat % 8 then #[(a, x), (b, y)] else #[(b, y), (a, x)], tab2 led a.toNat b.toNat, false, false) := by
  unfold layNew
  rw [free2 h h' ne]
  dsimp only
  unfold SetTable.put
  have e1 : (tab1 led a.toNat).place = #[a.toNat % 8] := rfl
  have e2 : (tab1 led a.toNat).dummies = #[] := rfl
  have e3 : SetTable.has #[] (b.toNat % 8) = false := rfl
  rw [e1, e2, below1 h h' ne, e3]
  dsimp only
  by_cases hc : a.toNat % 8 < b.toNat % 8
  · rw [if_pos hc, if_pos hc, insert1, insert1]
    simp [SetTable.orStandIn, SetTable.fits, SetTable.fill, tab2, hc, tab1]
  · rw [if_neg hc, if_neg hc, insert0, insert0]
    simp [SetTable.orStandIn, SetTable.fits, SetTable.fill, tab2, hc, tab1]
theorem steps2 {led : Bool} {a b : Int} (h : 2 ≤ a ∧ a ≤ 8) (h' : 2 ≤ b ∧ b ≤ 8) (ne : a ≠ b) : (tab2 led a.toNat b.toNat).place.size = 2 ∧ SetTable.below (tab2 led a.toNat b.toNat).place 0 = 0 ∧
    SetTable.below (tab2 led a.toNat b.toNat).place ((tab2 led a.toNat b.toNat).place.getD 0 0 + 1) = 1 ∧ SetTable.below (tab2 led a.toNat b.toNat).place ((tab2 led a.toNat b.toNat).place.getD 1 0 + 1) = 2 := by
  cases led <;> rcases small h with rfl | rfl | rfl | rfl | rfl | rfl | rfl <;> rcases small h' with rfl | rfl | rfl | rfl | rfl | rfl | rfl <;> first | exact absurd rfl ne | decide +kernel
theorem steps1 {led : Bool} {a : Int} (h : 2 ≤ a ∧ a ≤ 8) : (tab1 led a.toNat).place.size = 1 ∧ SetTable.below (tab1 led a.toNat).place 0 = 0 ∧ SetTable.below (tab1 led a.toNat).place ((tab1 led a.toNat).place.getD 0 0 + 1) = 1 := by
  cases led <;> rcases small h with rfl | rfl | rfl | rfl | rfl | rfl | rfl <;> decide +kernel
theorem full2 {led : Bool} {a b : Int} (h : 2 ≤ a ∧ a ≤ 8) (h' : 2 ≤ b ∧ b ≤ 8) : (tab2 led a.toNat b.toNat).tooFull = false := by
  unfold SetTable.tooFull SetTable.fill tab2
  by_cases hc : a.toNat % 8 < b.toNat % 8 <;> simp [hc]
theorem full1 {led : Bool} {a : Int} : (tab1 led a.toNat).tooFull = false := by
  unfold SetTable.tooFull SetTable.fill tab1
  simp
end My
namespace L2
open PySem PySem.Spec PyProof.Rows
noncomputable abbrev setObj (es : Array (Int × Value)) (ep : Nat) (t : SetTable) : Obj := { cls := .type "set", dict := none, data := .set es ep t }
section
variable {prog : Program} {w : World} {A : Around} {E : Value → Shared → Prop} {s : Shared}
theorem add_new {S : Addr} {es es1 : Array (Int × Value)} {ep tk : Nat} {t t1 : SetTable} {k : Int} {Q : Bool → Shared → Prop} (ho : s.heap.get? S = some (setObj es ep t)) (hf : t.fits es.size = true) (hel : ElemsOf (intKind prog w) es.toList)
    (habs : es.toList.findIdx? (fun e => (intKind prog w).is k e.2) = none) (hb : es.size + 1 < scanBound) (hlay : layNew t es ((intKind prog w).hash k) (.int k tk) = (es1, t1, false, false)) (hpl : t1.plain = true) (hnf : t1.tooFull = false) (hz : es1.size ≤ sizeLine)
    (h : ∀ h', Heap.SameBut S s.heap h' → h'.get? S = some (setObj es1 (ep + 1) t1) → Q true { s with heap := h' }) : wpAny (model prog w) A (setAddHashed S (.int k tk) ((intKind prog w).hash k)) Q E s := by
  unfold setAddHashed setAddHashedIn
  refine wpAny_holding (wpAny_bind (wpAny_setState_of ho rfl hf ?_))
  dsimp only
  rw [byScan_of rfl (by (first|lia|omega)) hel]
  simp only [↓reduceIte]
  unfold setAddByScan
  refine wpAny_bind (wpAny_bind (wpAny_rule (wpAny_bind (wpAny_setScan_of (intKind_is _ _ _ _) ho rfl hf hel ?_))))
  rw [habs]
  dsimp only
  rw [hlay]
  dsimp only
  refine wpAny_bind (wpAny_pure ?_)
  rw [hpl]
  refine wpAny_bind ?_
  rw [hashByValue_scannable 8 rfl]
  refine wpAny_pure ?_
  rw [show plainKind (.int k tk) = true from rfl]
  simp only [↓reduceIte]
  refine wpAny_bind (wpAny_storeSet_of ho rfl ?_ hz)
  rw [hnf]
  simp only [Bool.and_false, Bool.false_eq_true, ↓reduceIte]
  refine wpAny_pure (wpAny_pure (h _ (Heap.SameBut.update ..) ?_))
  have := Heap.get?_update_self (Obj.putSet es1 t1) ho (by rw [putSet_of es1 t1 rfl]; rfl)
  rw [putSet_of es1 t1 rfl] at this
  exact this
theorem add_old {S : Addr} {es : Array (Int × Value)} {ep tk j : Nat} {t : SetTable} {k : Int} {Q : Bool → Shared → Prop} (ho : s.heap.get? S = some (setObj es ep t)) (hf : t.fits es.size = true) (hel : ElemsOf (intKind prog w) es.toList)
    (hold : es.toList.findIdx? (fun e => (intKind prog w).is k e.2) = some j) (hb : es.size + 1 < scanBound) (h : Q false s) : wpAny (model prog w) A (setAddHashed S (.int k tk) ((intKind prog w).hash k)) Q E s := by
  unfold setAddHashed setAddHashedIn
  refine wpAny_holding (wpAny_bind (wpAny_setState_of ho rfl hf ?_))
  dsimp only
  rw [byScan_of rfl (by (first|lia|omega)) hel]
  simp only [↓reduceIte]
  unfold setAddByScan
  refine wpAny_bind (wpAny_bind (wpAny_rule (wpAny_bind (wpAny_setScan_of (intKind_is _ _ _ _) ho rfl hf hel ?_))))
  rw [hold]
  exact wpAny_pure (wpAny_pure h)
theorem hash_small {a : Int} (h : 2 ≤ a ∧ a ≤ 8) : (intKind prog w).hash a = a := by
  rcases My.small h with rfl | rfl | rfl | rfl | rfl | rfl | rfl <;> rfl
noncomputable def Steps (t : SetTable) (n : Nat) : Prop := SetTable.below t.place 0 = 0 ∧ ∀ i, i < n → ∃ j, t.place[i]? = some j ∧ SetTable.below t.place (j + 1) = i + 1
noncomputable def Few (led : Bool) (h : Heap) (S : Addr) (a b : Int) : Prop := ∃ es ep t ns, h.get? S = some (setObj es ep t) ∧ t.led = led ∧ t.plain = true ∧ t.fits es.size = true ∧ Steps t es.size ∧ IntsAre (es.toList.map (·.2)) ns ∧ ns.Perm (if a = b then [a] else [a, b])
theorem place_at {p : Array Nat} {i : Nat} (h : i < p.size) : p[i]? = some (p.getD i 0) := by
  rw [Array.getElem?_eq_getElem h, Array.getD_eq_getD_getElem?, Array.getElem?_eq_getElem h]; rfl
theorem few_one {led : Bool} {h : Heap} {S : Addr} {a : Int} {ta ep : Nat} (sa : 2 ≤ a ∧ a ≤ 8) (ho : h.get? S = some (setObj #[(a, .int a ta)] ep (My.tab1 led a.toNat))) : Few led h S a a := by
  obtain ⟨h1, h2, h3⟩ := My.steps1 (led := led) sa
  refine ⟨_, ep, _, [a], ho, rfl, rfl, rfl, ⟨h2, fun i hi => ⟨_, place_at (by rw [h1]; exact hi), ?_⟩⟩, .cons a ta .nil, ?_⟩
  · have : i = 0 := by have : i < 1 := hi; (first|lia|omega)
    subst this
    exact h3
  · rw [if_pos rfl]
theorem few_two {led : Bool} {h : Heap} {S : Addr} {a b : Int} {ta tb ep : Nat} (sa : 2 ≤ a ∧ a ≤ 8) (sb : 2 ≤ b ∧ b ≤ 8) (ne : a ≠ b)
    (ho : h.get? S = some (setObj (if a.toNat % 8 < b.toNat % 8 then #[(a, .int a ta), (b, .int b tb)] else #[(b, .int b tb), (a, .int a ta)]) ep (My.tab2 led a.toNat b.toNat))) : Few led h S a b := by
  obtain ⟨h1, h2, h3, h4⟩ := My.steps2 (led := led) sa sb ne
  have hst : Steps (My.tab2 led a.toNat b.toNat) 2 := ⟨h2, fun i hi => ⟨_, place_at (by rw [h1]; exact hi), by
    have : i = 0 ∨ i = 1 := by (first|lia|omega)
    rcases this with rfl | rfl
    · exact h3
    · exact h4⟩⟩
  have hfit : (My.tab2 led a.toNat b.toNat).fits 2 = true := by
    unfold SetTable.fits
    rw [h1]
    unfold SetTable.fill My.tab2
    by_cases hc : a.toNat % 8 < b.toNat % 8 <;> simp [hc]
  by_cases hc : a.toNat % 8 < b.toNat % 8
  · rw [if_pos hc] at ho
    exact ⟨_, ep, _, [a, b], ho, rfl, rfl, hfit, hst, .cons a ta (.cons b tb .nil), by rw [if_neg ne]⟩
  · rw [if_neg hc] at ho
    exact ⟨_, ep, _, [b, a], ho, rfl, rfl, hfit, hst, .cons b tb (.cons a ta .nil), by rw [if_neg ne]; exact List.Perm.swap a b []⟩
theorem elems1 {a : Int} {ta : Nat} (sa : 2 ≤ a ∧ a ≤ 8) : ElemsOf (intKind prog w) (#[(a, Value.int a ta)] : Array (Int × Value)).toList := fun e he => by
  have : e = (a, Value.int a ta) := by simpa using he
  subst this
  exact ⟨⟨a, intKind_is _ _ _ _, (hash_small sa).symm⟩, rfl⟩
theorem is_other {a b : Int} {t : Nat} (ne : a ≠ b) : (intKind prog w).is b (.int a t) = false := by
  rw [KeyKind.is_eq_decide (intKind_is prog w a t) b]
  exact decide_eq_false fun e => ne e.symm
theorem loop_two {R : Result → Shared → Prop} {S I : Addr} {fp wr : List Addr} {P : Nat → Value → Prop} {St : Nat → Heap → Prop} {led : Bool} {a b : Int} (W : Walks prog w A.in1 I fp wr 2 P St) (hSf : S ∉ fp) (sa : 2 ≤ a ∧ a ≤ 8) (sb : 2 ≤ b ∧ b ≤ 8)
    (p0 : ∀ v, P 0 v → ∃ t, v = .int a t) (p1 : ∀ v, P 1 v → ∃ t, v = .int b t) (st : St 0 s.heap) (hS : s.heap.get? S = some (setObj #[] 0 (.fresh 0 0 led)))
    (hR : ∀ h' tk, (∀ c o, c ∉ S :: wr → s.heap.get? c = some o → h'.get? c = some o) → Few led h' S a b → R (.ok (.ret .none)) { s with heap := h', toks := tk }) :
    codeAny (model prog w) A (.builtin "set.update.loop" ⟨[.ref S, .ref I], []⟩) R s := by
  have hSw : S ∉ wr := fun h => hSf (W.sub _ h)
  have step : ∀ {s : Shared} {R' : Result → Shared → Prop} (i : Nat), i < 2 → St i s.heap → (∀ v h' tk, P i v → St (i + 1) h' → (∀ b o, b ∉ wr → s.heap.get? b = some o → h'.get? b = some o) →
      wpAny (model prog w) A.in1 (setAdd S v) (fun _ s' => codeAny (model prog w) A (.builtin "set.update.loop" ⟨[.ref S, .ref I], []⟩) R' s') (fun e s' => R' (.error e) s') { s with heap := h', toks := tk }) →
      codeAny (model prog w) A (.builtin "set.update.loop" ⟨[.ref S, .ref I], []⟩) R' s := by
    intro s R' i hi hst hv
    refine codeAny_builtin F.entry_set_update_loop ?_
    rw [Around.under_plainId F.plain_set_update_loop _]
    show wpAny _ A.in1 (pyNext (.ref I) >>= _) _ _ s
    refine wpAny_bind (W.item i s _ _ hi hst fun v h' tk hP hst' hk => ?_)
    show wpAny _ A.in1 (holding [v] (setAdd S v) >>= _) _ _ _
    refine wpAny_bind (wpAny_holding (wpAny_mono (hv v h' tk hP hst' hk) (fun _ s' q => wpAny_pure ⟨plainId_quiet F.plain_set_update_loop _, q⟩) fun _ _ e => e))
  have add : ∀ {s : Shared} {k : Int} {t : Nat} {Q : Bool → Shared → Prop} {E : Value → Shared → Prop}, wpAny (model prog w) A.in1 (setAddHashed S (.int k t) ((intKind prog w).hash k)) Q E { s with toks := s.toks + 1 } → wpAny (model prog w) A.in1 (setAdd S (.int k t)) Q E s := by
    intro s k t Q E h
    unfold setAdd
    exact wpAny_holding (wpAny_bind ((intKind prog w).pyHash (k := k) (intKind_is _ _ _ _) h))
  refine step 0 (by decide) st fun v h1 tk1 hP st1 k1 => ?_
  obtain ⟨ta, rfl⟩ := p0 v hP
  refine add (add_new (s := { s with heap := h1, toks := tk1 + 1 }) (k1 _ _ hSw hS) rfl (fun e he => by cases he) rfl (by decide) (by rw [hash_small sa]; exact My.lay1 sa) rfl My.full1 (by show 1 ≤ sizeLine; decide) fun h2 sb2 hS2 => ?_)
  have st2 : St 1 h2 := W.frame 1 _ _ st1 fun c hc o e => by rw [sb2.2 c (fun z => hSf (z ▸ hc))]; exact e
  refine step 1 (by decide) st2 fun v h3 tk3 hP3 st3 k3 => ?_
  obtain ⟨tb, rfl⟩ := p1 v hP3
  have hS3 := k3 _ _ hSw hS2
  have keep3 : ∀ c o, c ∉ S :: wr → s.heap.get? c = some o → h3.get? c = some o := fun c o hc e => by
    have c1 : c ≠ S := fun z => hc (by rw [z]; exact List.mem_cons_self)
    have c2 : c ∉ wr := fun z => hc (List.mem_cons_of_mem _ z)
    refine k3 c o c2 ?_
    show h2.get? c = some o
    rw [sb2.2 c c1]
    exact k1 c o c2 e
  have fin : ∀ (h4 : Heap) (tk4 : Nat), St 2 h4 → (∀ c o, c ∉ S :: wr → h3.get? c = some o → h4.get? c = some o) → Few led h4 S a b → codeAny (model prog w) A (.builtin "set.update.loop" ⟨[.ref S, .ref I], []⟩) R { s with heap := h4, toks := tk4 } := fun h4 tk4 st4 k4 hF => by
    refine codeAny_builtin F.entry_set_update_loop ?_
    rw [Around.under_plainId F.plain_set_update_loop _]
    show wpAny _ A.in1 (pyNext (.ref I) >>= _) _ _ _
    refine wpAny_bind (W.done _ _ _ st4 fun h5 tk5 k5 => ?_)
    refine wpAny_pure (hR h5 tk5 (fun c o hc e => k5 c o (fun z => hc (List.mem_cons_of_mem _ z)) (k4 c o hc (keep3 c o hc e))) ?_)
    obtain ⟨es, ep, t, ns, e1, r⟩ := hF
    exact ⟨es, ep, t, ns, k5 _ _ hSw e1, r⟩
  by_cases ne : a = b
  · subst ne
    refine add (add_old (s := { s with heap := h3, toks := tk3 + 1 }) (j := 0) hS3 rfl (elems1 sa) ?_ (by show 1 + 1 < scanBound; decide) ?_)
    · show List.findIdx? _ [(a, Value.int a ta)] = some 0
      rw [List.findIdx?_cons, intKind_is]; rfl
    · exact fin h3 _ st3 (fun c o _ e => e) (few_one sa hS3)
  · refine add (add_new (s := { s with heap := h3, toks := tk3 + 1 }) hS3 rfl (elems1 sa) ?_ (by show 1 + 1 < scanBound; decide) (by rw [hash_small sb]; exact My.lay2 sa sb ne) rfl (My.full2 sa sb) ?_ fun h4 sb4 hS4 => ?_)
    · show List.findIdx? _ [(a, Value.int a ta)] = none
      rw [List.findIdx?_cons, is_other ne]; rfl
    · by_cases hc : a.toNat % 8 < b.toNat % 8
      · rw [if_pos hc]; show 2 ≤ sizeLine; decide
      · rw [if_neg hc]; show 2 ≤ sizeLine; decide
    · refine fin h4 _ (W.frame 2 _ _ st3 fun c hc o e => by rw [sb4.2 c (fun z => hSf (z ▸ hc))]; exact e) (fun c o hc e => ?_) (few_two sa sb ne hS4)
      rw [sb4.2 c (fun z => hc (by rw [z]; exact List.mem_cons_self))]; exact e
theorem new_set (l : Value) {Q₁ : Value → Shared → Prop} (h : Q₁ (.ref s.heap.objs.size) { s with heap := s.heap.push (setObj #[] 0 (.fresh 0 0 (!w.params.followText "set-order"))) }) :
    codeAny (model prog w) A (.call (.builtin "set.__new__") ⟨[.type "set", l], []⟩) (wants Q₁ E) s := by
  refine codeAny_of_tree ?_
  show wpAny _ A.in1 (checkBuiltinCall "set.__new__" ⟨[.type "set", l], []⟩ >>= fun _ => again (.builtin "set.__new__" ⟨[.type "set", l], []⟩)) _ _ s
  refine wpAny_bind (wpAny_of_eq (F.newCall_set_1 l) (wpAny_pure ⟨plainId_quiet F.plain_set_new _, codeAny_builtin F.entry_set_new ?_⟩))
  rw [Around.under_plainId F.plain_set_new _]
  unfold Builtin.«set.__new__» Builtin.Frozenset.newClass
  have hsub := sub_set_self
  obtain ⟨hp, g, d, tk, os⟩ := s
  dsimp only
  wp_walk
  refine wpAny_askSetting (wpAny_pure ?_)
  dsimp only
  simp only [newObj]
  exact wpAny_bind (wpAny_alloc (wpAny_pure (wpAny_pure h)))
theorem call_set_two {l : Addr} {a b : Int} {ta tb : Nat} {Q : Value → Shared → Prop} (hh : A.handled = none) (hl : s.heap.IsList l #[.int a ta, .int b tb]) (sa : 2 ≤ a ∧ a ≤ 8) (sb : 2 ≤ b ∧ b ≤ 8)
    (h : ∀ h' tk, Few (!w.params.followText "set-order") h' s.heap.objs.size a b → (∀ c o, s.heap.get? c = some o → h'.get? c = some o) → Q (.ref s.heap.objs.size) { s with heap := h', toks := tk }) :
    wpAny (model prog w) A (call (.type "set") [.ref l]) Q E s := by
  obtain ⟨c, tl, hmro⟩ := F.called_set.mro
  have hmade := F.called_set.made
  have hsub := F.called_set.sub
  refine wpAny_call (codeAny_of_tree ?_)
  show wpAny _ _ (callAny (.type "set") ⟨[.ref l], []⟩) _ _ _
  refine wpAny_pure ⟨Code.quiet_builtin _ (by decide +kernel), codeAny_builtin F.entry_type_call ?_⟩
  rw [Around.under_plain (weight_type_call_type "set" [.ref l] []) rfl]
  have h1 := F.called_set.notType
  have h2 := F.called_set.canCreate
  have hct := F.typeCall_set_1 (.ref l)
  repeat (any_goals (first | assumption | wp_step))
  generalize hled : (!w.params.followText "set-order") = led at h
  refine codeAny_mono (new_set (.ref l) (E := E) (Q₁ := fun obj s₁ => obj = .ref s.heap.objs.size ∧ s₁ = { s with heap := s.heap.push (setObj #[] 0 (.fresh 0 0 led)) }) ⟨rfl, by rw [hled]⟩) fun r s₁ hr => ?_
  cases r with
  | error e => exact hr
  | ok fl =>
    cases fl with
    | ret obj =>
      obtain ⟨rfl, rfl⟩ := hr
      have hS : (s.heap.push (setObj #[] 0 (.fresh 0 0 led))).get? s.heap.objs.size = some (setObj #[] 0 (.fresh 0 0 led)) := Heap.get?_push_size _ rfl
      have hT : Shared.TypeIs { s with heap := s.heap.push (setObj #[] 0 (.fresh 0 0 led)) } (.ref s.heap.objs.size) "set" := ⟨_, hS, rfl⟩
      have hli := F.called_set.init.lookup
      have hbi := F.called_set.init.bind (.ref s.heap.objs.size)
      repeat (any_goals (first | assumption | wp_step))
      refine codeAny_mono (codeAny_call_builtin (R := wants (fun r s₂ => r = .none ∧ ∃ h' tk, s₂ = { s with heap := h', toks := tk } ∧ Few led h' s.heap.objs.size a b ∧ ∀ c o, s.heap.get? c = some o → h'.get? c = some o) E) F.called_set.init.plain F.entry_set_init (check_set_init_1 hT ?_)) fun r₂ s₂ hr₂ => ?_
      · obtain ⟨⟨ocl, odi, oda, osl⟩, hol, hcl, nl, hdl⟩ := id hl
        simp only at hcl hdl
        subst hcl; subst hdl
        have hol' := Heap.get?_push_of_some (setObj #[] 0 (.fresh 0 0 led)) hol
        have hsls := F.sub_list_set
        have hslf := F.sub_list_frozenset
        have hne : (Value.type "list" == Value.type "dict") = false := by decide
        have hl1 : (s.heap.push (setObj #[] 0 (.fresh 0 0 led))).IsList l #[.int a ta, .int b tb] := ⟨_, hol', rfl, nl, rfl⟩
        have size1 : (s.heap.push (setObj #[] 0 (.fresh 0 0 led))).objs.size = s.heap.objs.size + 1 := Heap.size_push ..
        have old1 : ∀ c o, s.heap.get? c = some o → (s.heap.push (setObj #[] 0 (.fresh 0 0 led))).get? c = some o := fun c o e => Heap.get?_push_of_some _ e
        have hlS : l < s.heap.objs.size := Heap.lt_size hol
        unfold Builtin.«set.__init__» noKeywords Builtin.Frozenset.updateFrom
        generalize hPI : pyIter = PI
        wp_walk
        subst hPI
        refine wpAny_pyIter_list hl1 ?_
        refine wpAny_bind (wpAny_runValue ?_)
        generalize s.heap.push (setObj #[] 0 (.fresh 0 0 led)) = g at hS hl1 size1 old1 ⊢
        have hneI : l ≠ g.objs.size := by rw [size1]; exact Nat.ne_of_lt (Nat.lt_succ_of_lt hlS)
        have hgI : ∀ it : Obj, (g.push it).get? s.heap.objs.size = some (setObj #[] 0 (.fresh 0 0 led)) := fun it => Heap.get?_push_of_some _ hS
        refine loop_two (Walks.list (by simp [hh]) _ l hneI #[.int a ta, .int b tb]) (S := s.heap.objs.size) (led := led) (a := a) (b := b) ?_ sa sb (fun v e => ⟨ta, ?_⟩) (fun v e => ⟨tb, ?_⟩) ⟨⟨_, Heap.get?_push_size _ rfl, rfl, rfl⟩, hl1.push _⟩ (hgI _) fun h' tk k hF => ?_
        · rw [size1]
          simp only [List.mem_cons, List.not_mem_nil, or_false, not_or]
          exact ⟨Nat.ne_of_lt (Nat.lt_succ_self _), Nat.ne_of_gt hlS⟩
        · simpa using e.symm
        · simpa using e.symm
        · refine wpAny_pure (wpAny_pure ⟨rfl, h', tk, rfl, hF, fun c o e => ?_⟩)
          have := Heap.lt_size e
          refine k c o ?_ (Heap.get?_push_of_some _ (old1 c o e))
          rw [size1]
          simp only [List.mem_cons, List.not_mem_nil, or_false, not_or]
          exact ⟨Nat.ne_of_lt this, Nat.ne_of_lt (Nat.lt_succ_of_lt this)⟩
      · cases r₂ with
        | error e => exact hr₂
        | ok fl₂ =>
          cases fl₂ with
          | ret r =>
            obtain ⟨rfl, h', tk, rfl, hF, hk⟩ := hr₂
            repeat (any_goals (first | assumption | wp_step))
            exact h _ _ hF hk
          | _ => exact hr₂.elim
    | _ => exact hr.elim
end
end L2
set_option maxHeartbeats 1000000
namespace My
open PySem
theorem owner_seti : Manifest.owners.lookup (String.ofList ['r', 'o', 't', 'a', 'r', 'e', 't', 'i', '_', 't', 'e', 's'].reverse) = some Manifest.sig_set_iterator := by kernel_rfl
theorem slot_seti_next : Slot "set_iterator" "__next__" "set_iterator.__next__" :=
  .of (owner := "set_iterator") (n := "__next__") (by rw [typeLookup_type, builtinLookup_eq_fast]; kernel_rfl) (by decide +kernel) (by decide +kernel) (by decide +kernel)
    (by first | exact .inl (by decide +kernel) | exact .inr (by decide +kernel)) (by rw [isSubtype_type]; kernel_rfl)
theorem entry_seti_next : entryFor table "set_iterator.__next__" = some Builtin.«set_iterator.__next__» := entryFor_of_tree (by kernel_rfl)
theorem args_seti_next (a : Value) : argsOk "set_iterator.__next__" ⟨[a], []⟩ := by
  unfold argsOk; rw [signature?_of (id := "set_iterator.__next__") (n := ['_', '_', 't', 'x', 'e', 'n', '_', '_']) (o := ['r', 'o', 't', 'a', 'r', 'e', 't', 'i', '_', 't', 'e', 's']) (by kernel_rfl) owner_seti]; kernel_rfl
theorem slot_seti_iter : Slot "set_iterator" "__iter__" "set_iterator.__iter__" :=
  .of (owner := "set_iterator") (n := "__iter__") (by rw [typeLookup_type, builtinLookup_eq_fast]; kernel_rfl) (by decide +kernel) (by decide +kernel) (by decide +kernel)
    (by first | exact .inl (by decide +kernel) | exact .inr (by decide +kernel)) (by rw [isSubtype_type]; kernel_rfl)
theorem args_seti_iter (a : Value) : argsOk "set_iterator.__iter__" ⟨[a], []⟩ := by
  unfold argsOk; rw [signature?_of (id := "set_iterator.__iter__") (n := ['_', '_', 'r', 'e', 't', 'i', '_', '_']) (o := ['r', 'o', 't', 'a', 'r', 'e', 't', 'i', '_', 't', 'e', 's']) (by kernel_rfl) owner_seti]; kernel_rfl
theorem entry_seti_iter : entryFor table "set_iterator.__iter__" = some Builtin.«dict_keyiterator.__iter__» :=
  entryFor_alias (id' := "dict_keyiterator.__iter__") (by kernel_rfl) (by first | rfl | decide +kernel | (unfold String.splitOn; simp +decide [String.splitOnAux])) (by decide +kernel) (by kernel_rfl)
theorem owner_set : Manifest.owners.lookup (String.ofList ['t', 'e', 's'].reverse) = some Manifest.sig_set := by kernel_rfl
theorem slot_set_iter : Slot "set" "__iter__" "set.__iter__" :=
  .of (owner := "set") (n := "__iter__") (by rw [typeLookup_type, builtinLookup_eq_fast]; kernel_rfl) (by decide +kernel) (by decide +kernel) (by decide +kernel)
    (by first | exact .inl (by decide +kernel) | exact .inr (by decide +kernel)) (by rw [isSubtype_type]; kernel_rfl)
theorem args_set_iter (a : Value) : argsOk "set.__iter__" ⟨[a], []⟩ := by
  unfold argsOk; rw [signature?_of (id := "set.__iter__") (n := ['_', '_', 'r', 'e', 't', 'i', '_', '_']) (o := ['t', 'e', 's']) (by kernel_rfl) owner_set]; kernel_rfl
theorem entry_set_iter : entryFor table "set.__iter__" = some Builtin.«frozenset.__iter__» :=
  entryFor_alias (id' := "frozenset.__iter__") (by kernel_rfl) (by first | rfl | decide +kernel | (unfold String.splitOn; simp +decide [String.splitOnAux])) (by decide +kernel) (by kernel_rfl)
theorem set_len_lookup : typeLookup (.type "set") "__len__" = pure (some (.builtin "set.__len__")) := by rw [typeLookup_type, builtinLookup_eq_fast]; kernel_rfl
theorem erase_perm {α : Type} : ∀ (l : List α) {i : Nat} (h : i < l.length), List.Perm ([l[i]] ++ l.eraseIdx i) l
  | x :: l, 0, _ => List.Perm.refl _
  | x :: l, i + 1, h => by
    have := erase_perm l (i := i) (by simpa using h)
    simp only [List.getElem_cons_succ, List.eraseIdx_cons_succ, List.singleton_append] at this ⊢
    exact (List.Perm.swap _ _ _).trans (this.cons x)
theorem pick_go {α : Type} (f : Nat → Nat) : ∀ (n k : Nat) (left : List α) (out : Array α), left.length = n → (pickOrder.go f n k left out).toList.Perm (out.toList ++ left)
  | 0, k, left, out, h => by
    have : left = [] := List.length_eq_zero_iff.mp h
    subst this
    rw [List.append_nil]
    exact List.Perm.refl _
  | n + 1, k, left, out, h => by
    unfold pickOrder.go
    have hlt : f k % left.length < left.length := Nat.mod_lt _ (by (first|lia|omega))
    rw [List.getElem?_eq_getElem hlt]
    dsimp only
    refine (pick_go f n (k + 1) _ _ (by rw [List.length_eraseIdx, if_pos hlt]; (first|lia|omega))).trans ?_
    rw [Array.toList_push, List.append_assoc]
    refine List.Perm.append_left _ ?_
    exact erase_perm left hlt
theorem pick_perm {α : Type} (f : Nat → Nat) (xs : Array α) : (pickOrder f xs).toList.Perm xs.toList := by
  have := pick_go f xs.size 0 xs.toList #[] (by simp)
  simpa [pickOrder] using this
end My
namespace L2
open PySem PySem.Spec PyProof.Rows
theorem ints_perm {vs us : List Value} (p : us.Perm vs) : ∀ {ns : List Int}, IntsAre vs ns → ∃ ms, IntsAre us ms ∧ ms.Perm ns := by
  induction p with
  | nil => intro ns h; exact ⟨ns, h, List.Perm.refl _⟩
  | cons x p ih =>
    intro ns h
    cases h with
    | cons n t h =>
      obtain ⟨ms, h1, h2⟩ := ih h
      exact ⟨n :: ms, .cons n t h1, h2.cons n⟩
  | swap x y l =>
    intro ns h
    cases h with
    | cons n t h =>
      cases h with
      | cons m u h => exact ⟨_, .cons m u (.cons n t h), List.Perm.swap n m _⟩
  | trans p q ih1 ih2 =>
    intro ns h
    obtain ⟨ms, h1, h2⟩ := ih2 h
    obtain ⟨ks, h3, h4⟩ := ih1 h1
    exact ⟨ks, h3, h4.trans h2⟩
section
variable {prog : Program} {w : World} {A : Around} {E : Value → Shared → Prop} {s : Shared}
noncomputable def slotAt (t : SetTable) (bt : Bool) : Nat → Nat
  | 0 => 0
  | i + 1 => if bt then 0 else t.place.getD i 0 + 1
noncomputable def orderOf (w : World) (S : Addr) (es : Array (Int × Value)) (ep : Nat) : Array (Int × Value) := if w.params.followText "set-order" then pickOrder (w.params.setOrder S ep) es else es
theorem byText {Q : Bool → Shared → Prop} (h : Q (w.params.followText "set-order") s) : wpAny (model prog w) A setsByText Q E s := by
  unfold setsByText
  exact wpAny_bind (wpAny_askSetting (wpAny_pure h))
theorem order_size {S : Addr} {es : Array (Int × Value)} {ep : Nat} : (orderOf w S es ep).size = es.size := by
  unfold orderOf
  split
  · have := (My.pick_perm (w.params.setOrder S ep) es).length_eq
    simpa using this
  · rfl
theorem slotAt_text {t : SetTable} {i : Nat} : slotAt t true i = 0 := by cases i <;> rfl
theorem steps_below {t : SetTable} {n i : Nat} (hs : Steps t n) (hi : i ≤ n) : SetTable.below t.place (slotAt t false i) = i := by
  cases i with
  | zero => exact hs.1
  | succ i =>
    obtain ⟨j, e1, e2⟩ := hs.2 i hi
    show SetTable.below t.place (t.place.getD i 0 + 1) = i + 1
    rw [Array.getD_eq_getD_getElem?, e1]
    exact e2
theorem setNext_item {S : Addr} {es : Array (Int × Value)} {ep i : Nat} {t : SetTable} {e : Int × Value} {Q : Option (Value × Nat) → Shared → Prop} (ho : s.heap.get? S = some (setObj es ep t)) (hf : t.fits es.size = true) (hl : t.led = !w.params.followText "set-order") (hp : t.plain = true)
    (hs : Steps t es.size) (he : (orderOf w S es ep)[i]? = some e) (h : Q (some (e.2, slotAt t (w.params.followText "set-order") (i + 1))) s) :
    wpAny (model prog w) A (setNext S (slotAt t (w.params.followText "set-order") i) i ep) Q E s := by
  unfold setNext
  refine wpAny_bind (wpAny_setState_of ho rfl hf ?_)
  dsimp only
  refine wpAny_bind (byText ?_)
  unfold orderOf at he
  cases hb : w.params.followText "set-order" with
  | true =>
    rw [hb] at he h
    simp only [bne_self_eq_false, Bool.false_eq_true, if_false, if_true] at he ⊢
    refine wpAny_bind ?_
    unfold setWalk
    refine wpAny_bind (wpAny_setState_of ho rfl hf ?_)
    dsimp only
    refine wpAny_bind (byText ?_)
    rw [hb]
    simp only [if_true]
    refine wpAny_bind (wpAny_askSetting (wpAny_pure (wpAny_pure ?_)))
    show Q (((pickOrder (w.params.setOrder S ep) es)[i]?).map _) s
    rw [he, slotAt_text]
    rw [slotAt_text] at h
    exact h
  | false =>
    rw [hb] at he h hl
    simp only [Bool.false_eq_true, if_false] at he ⊢
    obtain ⟨hi, _⟩ := Array.getElem?_eq_some_iff.mp he
    obtain ⟨j, hj, hj2⟩ := hs.2 i hi
    have hbel := steps_below hs (Nat.le_of_lt hi)
    refine wpAny_ite_split (fun hab => absurd hab ?_) (fun _ => ?_)
    · show ¬ ((!t.plain && decide (es.size > 1)) = true)
      rw [hp]; simp
    show wpAny _ _ ((if (!t.led && !es.isEmpty) = true then unsupported _ else pure ()) >>= _) _ _ _
    rw [hl]
    simp only [Bool.not_false, Bool.not_true, Bool.false_and, Bool.false_eq_true, if_false]
    refine wpAny_bind (wpAny_pure (wpAny_pure ?_))
    rw [hbel, he, hj]
    have e2 : slotAt t false (i + 1) = j + 1 := by
      show t.place.getD i 0 + 1 = j + 1
      rw [Array.getD_eq_getD_getElem?, hj]; rfl
    rw [e2] at h
    exact h
theorem setNext_end {S : Addr} {es : Array (Int × Value)} {ep : Nat} {t : SetTable} {Q : Option (Value × Nat) → Shared → Prop} (ho : s.heap.get? S = some (setObj es ep t)) (hf : t.fits es.size = true) (hl : t.led = !w.params.followText "set-order") (hp : t.plain = true)
    (hs : Steps t es.size) (h : Q none s) : wpAny (model prog w) A (setNext S (slotAt t (w.params.followText "set-order") es.size) es.size ep) Q E s := by
  have hsz := order_size (w := w) (S := S) (es := es) (ep := ep)
  unfold setNext
  refine wpAny_bind (wpAny_setState_of ho rfl hf ?_)
  dsimp only
  refine wpAny_bind (byText ?_)
  unfold orderOf at hsz
  cases hb : w.params.followText "set-order" with
  | true =>
    rw [hb] at hsz
    simp only [bne_self_eq_false, Bool.false_eq_true, if_false, if_true] at hsz ⊢
    refine wpAny_bind ?_
    unfold setWalk
    refine wpAny_bind (wpAny_setState_of ho rfl hf ?_)
    dsimp only
    refine wpAny_bind (byText ?_)
    rw [hb]
    simp only [if_true]
    refine wpAny_bind (wpAny_askSetting (wpAny_pure (wpAny_pure ?_)))
    show Q (((pickOrder (w.params.setOrder S ep) es)[es.size]?).map _) s
    rw [Array.getElem?_eq_none (by (first|lia|omega))]
    exact h
  | false =>
    rw [hb] at hl
    simp only [Bool.false_eq_true, if_false]
    have hbel := steps_below hs (Nat.le_refl _)
    refine wpAny_ite_split (fun hab => absurd hab ?_) (fun _ => ?_)
    · show ¬ ((!t.plain && decide (es.size > 1)) = true)
      rw [hp]; simp
    show wpAny _ _ ((if (!t.led && !es.isEmpty) = true then unsupported _ else pure ()) >>= _) _ _ _
    rw [hl]
    simp only [Bool.not_false, Bool.not_true, Bool.false_and, Bool.false_eq_true, if_false]
    refine wpAny_bind (wpAny_pure (wpAny_pure ?_))
    rw [hbel, Array.getElem?_eq_none (Nat.le_refl _)]
    exact h
noncomputable def setItObj (slot i : Nat) (S : Addr) (n ep : Nat) : Obj := { cls := .type "set_iterator", data := .fields #[rawInt slot, rawInt i, .ref S, rawInt n, rawInt ep] }
theorem iter_set {S : Addr} {es : Array (Int × Value)} {ep : Nat} {t : SetTable} {Q : Value → Shared → Prop} (ho : s.heap.get? S = some (setObj es ep t)) (hf : t.fits es.size = true) (hp : t.plain = true)
    (h : Q (.ref s.heap.objs.size) { s with heap := s.heap.push (setItObj 0 0 S es.size ep) }) : wpAny (model prog w) A (pyIter (.ref S)) Q E s := by
  have hT : s.TypeIs (.ref S) "set" := ⟨_, ho, rfl⟩
  refine wpAny_pyIter_slot hT My.slot_set_iter (wpAny_call_entry My.slot_set_iter hT My.entry_set_iter ?_ (My.args_set_iter _))
  unfold Builtin.«frozenset.__iter__»
  refine wpAny_bind (wpAny_of_eq (a := S) (by first | rfl | kernel_rfl) ?_)
  refine wpAny_bind ?_
  unfold Builtin.Frozenset.sizeOf
  unfold setEntries
  refine wpAny_bind (wpAny_bind (wpAny_setState_of ho rfl hf (wpAny_pure (wpAny_pure ?_))))
  refine wpAny_bind ?_
  unfold setDrawn
  refine wpAny_bind (wpAny_setState_of ho rfl hf ?_)
  dsimp only
  refine wpAny_bind (byText (wpAny_pure ?_))
  have hd : (!w.params.followText "set-order" && (!t.plain && decide (es.size > 1))) = false := by rw [hp]; simp
  refine wpAny_ite_split (fun hab => absurd (show (!w.params.followText "set-order" && (!t.plain && decide (es.size > 1))) = true from hab) (by rw [hd]; exact Bool.false_ne_true)) (fun _ => ?_)
  refine wpAny_bind (wpAny_pure ?_)
  refine wpAny_bind (wpAny_setEpoch_of ho rfl hf ?_)
  refine wpAny_bind ?_
  unfold newFields
  refine wpAny_newObj_type (wpAny_pure ⟨_, rfl, "set_iterator", _, ⟨_, Heap.get?_push_size _ rfl, rfl⟩, My.slot_seti_next.lookup, ?_⟩)
  exact h
theorem next_set_item {I S : Addr} {es : Array (Int × Value)} {ep i : Nat} {t : SetTable} {e : Int × Value} {Q : Option Value → Shared → Prop} (hI : s.heap.get? I = some (setItObj (slotAt t (w.params.followText "set-order") i) i S es.size ep))
    (ho : s.heap.get? S = some (setObj es ep t)) (hf : t.fits es.size = true) (hl : t.led = !w.params.followText "set-order") (hp : t.plain = true) (hs : Steps t es.size) (he : (orderOf w S es ep)[i]? = some e)
    (hQ : ∀ h', h'.get? I = some (setItObj (slotAt t (w.params.followText "set-order") (i + 1)) (i + 1) S es.size ep) → Heap.SameBut I s.heap h' → Q (some e.2) { s with heap := h' }) : wpAny (model prog w) A (pyNext (.ref I)) Q E s := by
  have hT : s.TypeIs (.ref I) "set_iterator" := ⟨_, hI, rfl⟩
  unfold pyNext
  refine wpAny_bind (wpAny_attempt (wpAny_callSpecial?_slot (name := Str.ofString "__next__") hT My.slot_seti_next
    (wpAny_call_entry My.slot_seti_next hT My.entry_seti_next ?_ (My.args_seti_next _))))
  unfold Builtin.«set_iterator.__next__»
  refine wpAny_bind (wpAny_of_eq (a := (Value.ref I, [])) rfl ?_)
  try dsimp only
  refine wpAny_bind (wpAny_fieldsOf hI rfl ?_)
  show wpAny _ _ (setEntries S >>= _) _ _ s
  unfold setEntries
  refine wpAny_bind (wpAny_bind (wpAny_setState_of ho rfl hf (wpAny_pure ?_)))
  dsimp only
  refine wpAny_ite_split (fun hab => absurd hab (by simp)) (fun _ => ?_)
  show wpAny _ _ (setNext S (slotAt t (w.params.followText "set-order") i) i ep >>= _) _ _ s
  refine wpAny_bind (setNext_item ho hf hl hp hs he ?_)
  dsimp only
  refine wpAny_bind (wpAny_setField_rec hI (by simp) fun h1 hI1 sb1 => ?_)
  refine wpAny_bind (wpAny_setField_rec hI1 (by simp) fun h2 hI2 sb2 => ?_)
  refine wpAny_pure ⟨_, rfl, wpAny_pure (hQ h2 ?_ (sb1.trans sb2))⟩
  rw [hI2]
  rfl
theorem next_set_end {I S : Addr} {es : Array (Int × Value)} {ep : Nat} {t : SetTable} {Q : Option Value → Shared → Prop} (hh : A.handled = none) (hI : s.heap.get? I = some (setItObj (slotAt t (w.params.followText "set-order") es.size) es.size S es.size ep))
    (ho : s.heap.get? S = some (setObj es ep t)) (hf : t.fits es.size = true) (hl : t.led = !w.params.followText "set-order") (hp : t.plain = true) (hs : Steps t es.size)
    (hQ : ∀ h', Heap.ExtBut I s.heap h' → Q none { s with heap := h' }) : wpAny (model prog w) A (pyNext (.ref I)) Q E s := by
  have hT : s.TypeIs (.ref I) "set_iterator" := ⟨_, hI, rfl⟩
  unfold pyNext
  refine wpAny_bind (wpAny_attempt (wpAny_callSpecial?_slot (name := Str.ofString "__next__") hT My.slot_seti_next
    (wpAny_call_entry My.slot_seti_next hT My.entry_seti_next ?_ (My.args_seti_next _))))
  unfold Builtin.«set_iterator.__next__»
  refine wpAny_bind (wpAny_of_eq (a := (Value.ref I, [])) rfl ?_)
  try dsimp only
  refine wpAny_bind (wpAny_fieldsOf hI rfl ?_)
  show wpAny _ _ (setEntries S >>= _) _ _ s
  unfold setEntries
  refine wpAny_bind (wpAny_bind (wpAny_setState_of ho rfl hf (wpAny_pure ?_)))
  dsimp only
  refine wpAny_ite_split (fun hab => absurd hab (by simp)) (fun _ => ?_)
  show wpAny _ _ (setNext S (slotAt t (w.params.followText "set-order") es.size) es.size ep >>= _) _ _ s
  refine wpAny_bind (setNext_end ho hf hl hp hs ?_)
  dsimp only
  refine wpAny_bind (wpAny_setField_rec hI (by simp) fun h1 hI1 sb1 => ?_)
  refine wpAny_bind ?_
  simp only [newExc, newTuple]
  refine wpAny_bind (wpAny_newObj_type ?_ (by size_fits))
  refine wpAny_bind (m := firstArgMember _ _) (wpAny_of_eq (a := Value.none) (by first | rfl | (simp only [firstArgMember]; rfl)) ?_)
  refine wpAny_newObj_type ?_ (by size_fits)
  simp only [raiseNew]
  refine wpAny_bind (wpAny_handled ?_)
  first | rw [show A.in1.handled = none from hh] | rw [hh]
  refine wpAny_bind (wpAny_pure (wpAny_throw ?_))
  refine wpAny_bind (wpAny_isInstance (T := "StopIteration") (b := true) ⟨_, Heap.get?_push_size _ rfl, rfl⟩ isSubtype_stop ?_)
  refine wpAny_pure (hQ _ fun b u hb e => ?_)
  refine Heap.get?_push_of_some _ (Heap.get?_push_of_some _ ?_)
  rw [sb1.2 b hb]
  exact e
theorem iter_setit {I : Addr} {sl i n ep : Nat} {S : Addr} {Q : Value → Shared → Prop} (hI : s.heap.get? I = some (setItObj sl i S n ep)) (h : Q (.ref I) s) : wpAny (model prog w) A (pyIter (.ref I)) Q E s := by
  have hT : s.TypeIs (.ref I) "set_iterator" := ⟨_, hI, rfl⟩
  refine wpAny_pyIter_slot hT My.slot_seti_iter (wpAny_call_entry My.slot_seti_iter hT My.entry_seti_iter ?_ (My.args_seti_iter _))
  show wpAny _ _ (ret (.ref I)) _ _ s
  exact wpAny_pure ⟨_, rfl, "set_iterator", _, hT, My.slot_seti_next.lookup, h⟩
theorem hint_set {S : Addr} {Q : Bool → Shared → Prop} (hT : s.TypeIs (.ref S) "set") (h : Q false s) : wpAny (model prog w) A (Builtin.List.listLengthHint (.ref S)) Q E s := by
  unfold Builtin.List.listLengthHint
  refine wpAny_bind (wpAny_specialOf hT My.set_len_lookup ?_)
  generalize hid : ("set.__len__" : String) = id0
  wp_delta
  rw [show splitId id0 = some ("set", "__len__") from by subst hid; decide +kernel]
  subst hid
  refine wpAny_bind (wpAny_isInstance (T := "set") (b := true) hT (by rw [isSubtype_type]; kernel_rfl) ?_)
  refine wpAny_ite_split (fun hab => absurd hab (by decide)) (fun _ => ?_)
  refine wpAny_ite_split (fun _ => ?_) (fun hab => absurd (by decide +kernel) hab)
  refine wpAny_bind (wpAny_typeOf hT ?_)
  exact wpAny_pure h
end
theorem walk_set {prog : Program} {w : World} {A : Around} (hh : A.handled = none) (I S : Addr) (hne : S ≠ I) (es : Array (Int × Value)) (ep : Nat) (t : SetTable) (hf : t.fits es.size = true) (hl : t.led = !w.params.followText "set-order") (hp : t.plain = true) (hs : Steps t es.size) :
    Walks prog w A I [I, S] [I] es.size (fun i v => ((orderOf w S es ep)[i]?).map (·.2) = some v) (fun i h => h.get? I = some (setItObj (slotAt t (w.params.followText "set-order") i) i S es.size ep) ∧ h.get? S = some (setObj es ep t)) where
  sub := fun b hb => by simp at hb; simp [hb]
  frame := fun _ _ _ x hk => ⟨hk I (by simp) _ x.1, hk S (by simp) _ x.2⟩
  item := fun i s Q E hi x hQ => by
    have hi2 : i < (orderOf w S es ep).size := by rw [order_size]; exact hi
    refine next_set_item x.1 x.2 hf hl hp hs (Array.getElem?_eq_getElem hi2) fun h' hI' sb' => ?_
    exact hQ _ h' s.toks (by rw [Array.getElem?_eq_getElem hi2]; rfl) ⟨hI', (sb'.2 S hne).trans x.2⟩ fun b o hb eo => sb'.extBut b o (fun h => hb (by simp [h])) eo
  done := fun s Q E x hQ => next_set_end hh x.1 x.2 hf hl hp hs fun h' he' => hQ h' s.toks fun b o hb eo => he' b o (fun h => hb (by simp [h])) eo
  self := fun _ _ _ _ x hQ => iter_setit x.1 hQ
section
variable {prog : Program} {w : World} {A : Around} {E : Value → Shared → Prop} {s : Shared}
theorem gone_few {r : Addr} {a b : Int} (hh : A.handled = none) (F : Few (!w.params.followText "set-order") s.heap r a b) :
    Gone prog w A s r fun h' _ acc => (∀ c o, s.heap.get? c = some o → h'.get? c = some o) ∧ ∃ ns, IntsAre acc ns ∧ ns.Perm (if a = b then [a] else [a, b]) := by
  intro s₀ S E keep hS hSo hle
  obtain ⟨es, ep, t, ns, ho, hl, hp, hf, hs, hi, hpm⟩ := F
  have ho0 := keep _ _ ho
  have hrlt : r < s₀.heap.objs.size := Heap.lt_size ho0
  obtain ⟨oS, hoS⟩ := hSo
  have hSlt : S < s₀.heap.objs.size := Heap.lt_size hoS
  have hsz : es.size ≤ 2 := by
    have h1 := hi.length
    have h2 := hpm.length_eq
    rw [List.length_map, Array.length_toList] at h1
    split at h2 <;> simp at h2 <;> (first|lia|omega)
  refine iter_set ho0 hf hp ?_
  refine ⟨s₀.heap.objs.size, _, _, es.size, _, _, _, s₀.toks, rfl, rfl, walk_set hh s₀.heap.objs.size r (Nat.ne_of_lt hrlt) es ep t hf hl hp hs, ⟨Heap.get?_push_size _ rfl, Heap.get?_push_of_some _ ho0⟩, ?_, fun c o e => Heap.get?_push_of_some _ e, Nat.le_trans hsz (by decide),
    fun Q E hQ => hint_set ⟨_, Heap.get?_push_of_some _ ho0, rfl⟩ (hQ false _), fun h' tk' acc hk hit => ⟨fun c o e => ?_, ?_⟩⟩
  · simp only [List.mem_cons, List.not_mem_nil, or_false, not_or]
    exact ⟨Nat.ne_of_lt hSlt, fun z => by rw [z, ho] at hS; cases hS⟩
  · refine hk c o ?_ (Heap.get?_push_of_some _ (keep c o e))
    simp only [List.mem_cons, List.not_mem_nil, or_false, not_or]
    refine ⟨fun z => ?_, Nat.ne_of_lt (Heap.lt_size (keep c o e))⟩
    rw [z, hS] at e
    cases e
  · have eacc : acc.toList = (orderOf w r es ep).toList.map (·.2) := by
      obtain ⟨e1, e2⟩ := hit
      apply List.ext_getElem?
      intro i
      by_cases hi : i < es.size
      · have hi2 : i < acc.size := by (first|lia|omega)
        have hi3 : i < (orderOf w r es ep).size := by rw [order_size]; exact hi
        have := e2 i acc[i] (Array.getElem?_eq_getElem hi2)
        rw [Array.getElem?_toList, Array.getElem?_eq_getElem hi2, List.getElem?_map, Array.getElem?_toList, ← this]
      · rw [List.getElem?_eq_none (by simp; (first|lia|omega)), List.getElem?_eq_none (by simp [order_size]; (first|lia|omega))]
    have hperm : acc.toList.Perm (es.toList.map (·.2)) := by
      rw [eacc]
      refine List.Perm.map _ ?_
      unfold orderOf
      split
      · exact My.pick_perm _ _
      · exact List.Perm.refl _
    obtain ⟨ms, h1, h2⟩ := ints_perm hperm hi
    exact ⟨ms, h1, h2.trans hpm⟩
theorem collect_walk {T : String} {r : Addr} {C : Heap → Nat → List Value → Prop} {Q : List Value → Shared → Prop} (hT : s.TypeIs (.ref r) T) (nl : (Value.type T == Value.type "list") = false) (nt : (Value.type T == Value.type "tuple") = false)
    (G : Gone prog w A.in1 s r C) (hQ : ∀ h' tk acc, C h' tk acc → Q acc { s with heap := h', toks := tk }) : wpAny (model prog w) A (collect (.ref r)) Q E s := by
  obtain ⟨ro, hro, hrc⟩ := id hT
  have hnone : s.heap.get? s.heap.objs.size = none := by
    cases e : s.heap.get? s.heap.objs.size with
    | none => rfl
    | some o => exact absurd (Heap.lt_size e) (Nat.lt_irrefl _)
  unfold collect
  refine wpAny_bind (wpAny_runValue (codeAny_builtin F.entry_proto_collect ?_))
  rw [Around.under_plainId F.plain_proto_collect _]
  show wpAny _ A.in1 (newList [] >>= fun l => again (.builtin "list.__iadd__" ⟨[l, .ref r], []⟩)) _ _ s
  refine wpAny_bind (wpAny_newObj_type ?_)
  refine wpAny_pure ⟨plainId_quiet F.plain_list_iadd _, codeAny_builtin F.entry_list_iadd ?_⟩
  rw [Around.under_plainId F.plain_list_iadd _]
  have hS : (s.heap.push { cls := .type "list", data := .seq ([] : List Value).toArray }).get? s.heap.objs.size = some { cls := .type "list", data := .seq #[] } := Heap.get?_push_size _ rfl
  have old : ∀ b o, s.heap.get? b = some o → (s.heap.push { cls := .type "list", data := .seq ([] : List Value).toArray }).get? b = some o := fun b o e => Heap.get?_push_of_some _ e
  show wpAny _ A.in1 (Builtin.List.listExtendWith (.ref s.heap.objs.size) (.ref r) (.ref s.heap.objs.size)) _ _ _
  refine extend_walk (s := { s with heap := s.heap.push { cls := .type "list", data := .seq ([] : List Value).toArray } }) (c₀ := 0) (T := T) (E := E) (R := wants (fun v s' => wpAny (model prog w) A (match v with | .ref a => (do let o ← load a; match o.data with | .seq xs _ => pure xs.toList | _ => unsupported "internal:collect") | _ => unsupported "internal:collect") Q E s') E) ⟨ro, old _ _ hro, hrc⟩ nl nt (Nat.ne_of_gt (Heap.lt_size hro)) hS ?_
  refine wpAny_mono (G { s with heap := s.heap.push { cls := .type "list", data := .seq ([] : List Value).toArray } } s.heap.objs.size _ old hnone ⟨_, hS⟩ (Nat.le_refl _)) (fun v s₁ hv => ?_) fun _ _ e => e
  obtain ⟨I, fp, wr, n, P, St, h₁, tk, e1, e2, W, st, hSf, keep, hn, hint, fin⟩ := hv
  refine ⟨I, fp, wr, n, P, St, h₁, tk, e1, e2, W, st, hSf, keep, hn, hint, fun h' tk' acc c hk hl hi => ?_⟩
  show wpAny _ A (load s.heap.objs.size >>= _) _ _ _
  refine wpAny_bind (wpAny_load hl ?_)
  exact wpAny_pure (hQ h' tk' acc.toList (fin h' tk' acc hk hi))
theorem sorted_walk {T : String} {r : Addr} {ks : List Int} {Q : Value → Shared → Prop} (hT : s.TypeIs (.ref r) T) (nl : (Value.type T == Value.type "list") = false) (nt : (Value.type T == Value.type "tuple") = false) (hz : ks.length < 64)
    (G : Gone prog w A.in1.in1 s r fun h' _ acc => (∀ c o, s.heap.get? c = some o → h'.get? c = some o) ∧ ∃ ns, IntsAre acc ns ∧ ns.Perm ks)
    (hQ : ∀ D h' tk (out : Array Value) ms n, (∀ c o, s.heap.get? c = some o → h'.get? c = some o) → s.heap.get? D = none → IntsAre out.toList ms → ms.Perm ks → ms.Pairwise (· ≤ ·) → h'.get? D = some { cls := .type "list", data := .seq out n } → Q (.ref D) { s with heap := h', toks := tk }) :
    wpAny (model prog w) A (call (.builtin "sorted") [.ref r]) Q E s := by
  refine Calls.call_function_entry kind_sorted plain_sorted entry_sorted (args_sorted1 _) ?_
  unfold Builtin.«sorted»
  refine wpAny_bind (m := checkCount "sorted" 1 1 _) (wpAny_pure (wpAny_bind (collect_walk hT nl nt G fun h' tk acc hC => ?_)))
  obtain ⟨keep, ns, hi, hp⟩ := hC
  have hlen : acc.length < 64 := by rw [hi.length, hp.length_eq]; exact hz
  refine wpAny_bind (wpAny_newList ?_ (Nat.le_trans (Nat.le_of_lt hlen) (by decide)))
  have at1 : (h'.push (seqObj "list" acc.toArray 0)).get? h'.objs.size = some (seqObj "list" acc.toArray 0) := Heap.get?_push_size _ rfl
  refine wpAny_bind (wpAny_holding (wpAny_call_entry slot_list_sort ⟨_, at1, rfl⟩ entry_list_sort (list_sort_tree at1 hi hlen fun out ms a1 a2 a3 => ⟨_, rfl, wpAny_pure ⟨_, rfl, ?_⟩⟩) (args_list_sort _)))
  have nD : ∀ c o, s.heap.get? c = some o → h'.objs.size ≠ c := fun c o e => Nat.ne_of_gt (Heap.lt_size (keep c o e))
  have hD : s.heap.get? h'.objs.size = none := by
    cases e : s.heap.get? h'.objs.size with
    | none => rfl
    | some o => exact absurd rfl (nD _ o e)
  obtain ⟨n, hn⟩ : ∃ n, (sortedHeap (h'.push (seqObj "list" acc.toArray 0)) h'.objs.size acc out).get? h'.objs.size = some (seqObj "list" out n) := by
    unfold sortedHeap
    obtain ⟨e1, he1⟩ : ∃ e1, ((h'.push (seqObj "list" acc.toArray 0)).update h'.objs.size (Obj.mapSeq fun _ => #[])).get? h'.objs.size = some (seqObj "list" #[] e1) := ⟨_, get?_update_seq at1 (fun _ => #[])⟩
    exact ⟨_, get?_update_seq (Heap.get?_push_of_some _ (Heap.get?_push_of_some _ he1)) (fun _ => out)⟩
  refine hQ _ _ tk out ms n (fun c o e => ?_) hD a1 (a2.trans hp) a3 hn
  have nc := nD c o e
  show (sortedHeap (h'.push (seqObj "list" acc.toArray 0)) h'.objs.size acc out).get? c = some o
  unfold sortedHeap
  rw [Heap.get?_update_other _ _ nc]
  refine Heap.get?_push_of_some _ (Heap.get?_push_of_some _ ?_)
  rw [Heap.get?_update_other _ _ nc]
  exact Heap.get?_push_of_some _ (keep c o e)
end
section
variable {X : Cx}
noncomputable def SetOf2 (bt : Bool) (r : Addr) (a b : Int) (h : Heap) : Prop := Few (!bt) h r a b
noncomputable def rSet2 (bt : Bool) : List V → Hp → VK → Prop := fun xs H Q => ∃ p a b, xs = [.ref p] ∧ H p = some (.lst [.int a, .int b]) ∧ (2 ≤ a ∧ a ≤ 8) ∧ (2 ≤ b ∧ b ≤ 8) ∧ ∀ r, H r = none → Q (.ref r) (upd H r (.ext (SetOf2 bt r a b)))
theorem SetOf2.stable {bt : Bool} {r : Addr} {a b : Int} {h1 h2 : Heap} (x : SetOf2 bt r a b h1) (k : ∀ o, h1.get? r = some o → h2.get? r = some o) : SetOf2 bt r a b h2 := by
  obtain ⟨es, ep, t, ns, ho, rest⟩ := x
  exact ⟨es, ep, t, ns, k _ ho, rest⟩
theorem call_set2 (hc : X.calm = true) : CallR X (.type "set") (rSet2 (X.w.params.followText "set-order")) := by
  intro pins s σ H xs us Q I r h
  obtain ⟨p, a, b, rfl, hp, sa, sb, q⟩ := h
  obtain ⟨u, rfl, rx⟩ := vals1 r
  cases rx
  obtain ⟨hz, its, n, rv, ho⟩ := I.hok p _ hp
  obtain ⟨u1, u2, rfl, ⟨ta, rfl⟩, ⟨tb, rfl⟩⟩ := Vals.two rv
  refine call_set_two (I.ok.hd hc) ⟨_, ho, rfl, n, rfl⟩ sa sb fun h' tk hF keep => ?_
  obtain ⟨es, ep, t, ns, hes, rest⟩ := id hF
  exact ⟨.ref s.heap.objs.size, _, I.laid (t' := tk) (o := .ext (SetOf2 (X.w.params.followText "set-order") s.heap.objs.size a b)) keep (Nat.le_refl _) ⟨hF, ⟨_, hes⟩, fun h1 h2 hp k => hp.stable k⟩, rfl, q _ (I.hok.fresh (Nat.le_refl _))⟩
noncomputable def rSorted2 (bt : Bool) : List V → Hp → VK → Prop := fun xs H Q => ∃ r a b, xs = [.ref r] ∧ H r = some (.ext (SetOf2 bt r a b)) ∧
  ∀ D H' (ms : List Int), H D = none → Same H H' → H' D = some (.lst (ms.map V.int)) → ms.Perm (if a = b then [a] else [a, b]) → ms.Pairwise (· ≤ ·) → Q (.ref D) H'
theorem call_sorted2 (hc : X.calm = true) : CallR X (.builtin "sorted") (rSorted2 (X.w.params.followText "set-order")) := by
  intro pins s σ H xs us Q I rr h
  obtain ⟨r, a, b, rfl, hr, q⟩ := h
  obtain ⟨u, rfl, rx⟩ := vals1 rr
  cases rx
  obtain ⟨hF, _, _⟩ := I.hok r _ hr
  obtain ⟨es, ep, t, ns, ho, rest⟩ := id hF
  have hlen : (if a = b then [a] else [a, b]).length ≤ 2 := by split <;> simp
  refine sorted_walk (T := "set") (ks := if a = b then [a] else [a, b]) ⟨_, ho, rfl⟩ (by decide) (by decide) (by (first|lia|omega)) (gone_few (A := X.A.in1.in1) (I.ok.hd hc) hF) fun D h' tk out ms n keep hD hi hp hs hn => ?_
  have hDH : H D = none := by
    cases e : H D with
    | none => rfl
    | some o =>
      obtain ⟨ob, eo⟩ := (I.hok D o e).there
      rw [hD] at eo; cases eo
  have hml : ms.length ≤ 2 := by rw [hp.length_eq]; exact hlen
  refine ⟨.ref D, _, I.newAt (tk := tk) (its := out.toList) (n := n) (fun c o _ e => keep c o e) (fun m hm => hm.at' fun o e => keep _ o e) hD hDH (by rw [List.length_map]; exact Nat.le_trans hml (by decide)) (vals_ints hi) (by simpa using hn), rfl, q D _ ms hDH (same_new hDH _) upd_same hp hs⟩
theorem rd_set2 {bt : Bool} {H : Hp} {p : Addr} {a b : Int} {Q : VK} (hp : H p = some (.lst [.int a, .int b])) (sa : 2 ≤ a ∧ a ≤ 8) (sb : 2 ≤ b ∧ b ≤ 8) (q : ∀ r, H r = none → Q (.ref r) (upd H r (.ext (SetOf2 bt r a b)))) : rSet2 bt [.ref p] H Q := ⟨p, a, b, rfl, hp, sa, sb, q⟩
theorem rd_sorted2 {bt : Bool} {H : Hp} {r : Addr} {a b : Int} {Q : VK} (hn : H r = none) (q : ∀ D H' (ms : List Int), H D = none → Same H H' → H' D = some (.lst (ms.map V.int)) → ms.Perm (if a = b then [a] else [a, b]) → ms.Pairwise (· ≤ ·) → Q (.ref D) H') :
    rSorted2 bt [.ref r] (upd H r (.ext (SetOf2 bt r a b))) Q :=
  ⟨r, a, b, rfl, upd_same, fun D H' ms hD S L p w => q D H' ms (by
    have : D ≠ r := fun z => by rw [z, upd_same] at hD; cases hD
    rw [upd_ne this] at hD; exact hD) (fun c o e => S c o (by rw [upd_ne (ne_of_none e hn)]; exact e)) L p w⟩
end
end L2
set_option maxHeartbeats 1000000
namespace L2
open PySem PySem.Spec PyProof.Rows
structure WOk (ws : List Int) : Prop where
  one : 1 ≤ ws.length
  three : ws.length ≤ 3
  rng : ∀ w ∈ ws, 2 ≤ w ∧ w ≤ 8
  nd : ws.Nodup
noncomputable def stepC (ws : List Int) (T : List (List (List Int))) (size : Int) : List (List Int) := ws.flatMap fun w => if w ≤ size then (T.getD (size - w).toNat []).map (fun r => r ++ [w]) else []
noncomputable def tblC (ws : List Int) : Nat → List (List (List Int))
  | 0 => [[[]]]
  | n + 1 => tblC ws n ++ [stepC ws (tblC ws n) ((n + 1 : Nat) : Int)]
noncomputable def comps (ws : List Int) (n : Nat) : List (List Int) := (tblC ws n).getD n []
theorem tblC_length (ws : List Int) : ∀ n, (tblC ws n).length = n + 1
  | 0 => rfl
  | n + 1 => by
    show (tblC ws n ++ _).length = _
    rw [List.length_append, tblC_length ws n]; rfl
theorem tblC_get (ws : List Int) : ∀ {n k : Nat}, k ≤ n → (tblC ws n).getD k [] = comps ws k
  | 0, k, h => by
    have : k = 0 := by (first|lia|omega)
    subst this; rfl
  | n + 1, k, h => by
    by_cases hk : k = n + 1
    · subst hk; rfl
    · have hl := tblC_length ws n
      show (tblC ws n ++ _).getD k [] = _
      rw [List.getD_eq_getElem?_getD, List.getElem?_append_left (by (first|lia|omega)), ← List.getD_eq_getElem?_getD]
      exact tblC_get ws (by (first|lia|omega))
theorem comps_zero (ws : List Int) : comps ws 0 = [[]] := rfl
theorem comps_succ (ws : List Int) (n : Nat) : comps ws (n + 1) = stepC ws (tblC ws n) ((n + 1 : Nat) : Int) := by
  unfold comps
  show (tblC ws n ++ [_]).getD (n + 1) [] = _
  rw [List.getD_eq_getElem?_getD, List.getElem?_append_right (by rw [tblC_length]; exact Nat.le_refl _), tblC_length]
  simp
theorem mem_stepC {ws : List Int} {n : Nat} (pos : ∀ w ∈ ws, 1 ≤ w) {row : List Int} : row ∈ stepC ws (tblC ws n) ((n + 1 : Nat) : Int) ↔ ∃ w ∈ ws, w ≤ ((n + 1 : Nat) : Int) ∧ ∃ r ∈ comps ws (((n + 1 : Nat) : Int) - w).toNat, row = r ++ [w] := by
  unfold stepC
  rw [List.mem_flatMap]
  constructor
  · rintro ⟨w, hw, h⟩
    by_cases hc : w ≤ ((n + 1 : Nat) : Int)
    · rw [if_pos hc, List.mem_map] at h
      obtain ⟨r, hr, rfl⟩ := h
      have := pos w hw
      rw [tblC_get ws (by (first|lia|omega))] at hr
      exact ⟨w, hw, hc, r, hr, rfl⟩
    · rw [if_neg hc] at h; cases h
  · rintro ⟨w, hw, hc, r, hr, rfl⟩
    refine ⟨w, hw, ?_⟩
    have := pos w hw
    rw [if_pos hc, List.mem_map]
    exact ⟨r, by rw [tblC_get ws (by (first|lia|omega))]; exact hr, rfl⟩
theorem mem_comps {ws : List Int} (pos : ∀ w ∈ ws, 1 ≤ w) : ∀ (n : Nat) (row : List Int), row ∈ comps ws n ↔ (∀ w ∈ row, w ∈ ws) ∧ row.sum = (n : Int) := by
  intro n
  induction n using Nat.strongRecOn with
  | _ n ih =>
    intro row
    cases n with
    | zero =>
      rw [comps_zero, List.mem_singleton]
      constructor
      · rintro rfl
        exact ⟨fun w h => (by cases h), rfl⟩
      · rintro ⟨h1, h2⟩
        cases row with
        | nil => rfl
        | cons x r =>
          exfalso
          have hx := pos x (h1 x List.mem_cons_self)
          have : ∀ l : List Int, (∀ w ∈ l, w ∈ ws) → 0 ≤ l.sum := fun l => by
            induction l with
            | nil => intro _; exact Int.le_refl _
            | cons y t ih2 =>
              intro h
              have := ih2 fun w hw => h w (List.mem_cons_of_mem _ hw)
              have := pos y (h y List.mem_cons_self)
              rw [List.sum_cons]; (first|lia|omega)
          have := this r fun w hw => h1 w (List.mem_cons_of_mem _ hw)
          rw [List.sum_cons] at h2
          have : (0 : Int) = ((0 : Nat) : Int) := rfl
          (first|lia|omega)
    | succ n =>
      rw [comps_succ, mem_stepC pos]
      constructor
      · rintro ⟨w, hw, hc, r, hr, rfl⟩
        have := pos w hw
        obtain ⟨h1, h2⟩ := (ih _ (by (first|lia|omega)) r).mp hr
        refine ⟨fun x hx => ?_, ?_⟩
        · rcases List.mem_append.mp hx with hx | hx
          · exact h1 x hx
          · rw [List.mem_singleton.mp hx]; exact hw
        · rw [List.sum_append, List.sum_singleton, h2]; (first|lia|omega)
      · rintro ⟨h1, h2⟩
        rcases List.eq_nil_or_concat row with rfl | ⟨r, w, rfl⟩
        · rw [List.sum_nil] at h2; (first|lia|omega)
        · rw [List.concat_eq_append] at h1 h2 ⊢
          have hw : w ∈ ws := h1 w (List.mem_append_right _ (List.mem_singleton.mpr rfl))
          have hr : ∀ x ∈ r, x ∈ ws := fun x hx => h1 x (List.mem_append_left _ hx)
          rw [List.sum_append, List.sum_singleton] at h2
          have hpos := pos w hw
          have hsum : 0 ≤ r.sum := by
            have : ∀ l : List Int, (∀ w ∈ l, w ∈ ws) → 0 ≤ l.sum := fun l => by
              induction l with
              | nil => intro _; exact Int.le_refl _
              | cons y t ih2 =>
                intro h
                have := ih2 fun w hw => h w (List.mem_cons_of_mem _ hw)
                have := pos y (h y List.mem_cons_self)
                rw [List.sum_cons]; (first|lia|omega)
            exact this r hr
          refine ⟨w, hw, by (first|lia|omega), r, (ih _ (by (first|lia|omega)) r).mpr ⟨hr, by (first|lia|omega)⟩, rfl⟩
theorem sum_ge {l : List Int} (h : ∀ w ∈ l, 2 ≤ w) : 2 * (l.length : Int) ≤ l.sum := by
  induction l with
  | nil => exact Int.le_refl _
  | cons y t ih =>
    have := ih fun w hw => h w (List.mem_cons_of_mem _ hw)
    have := h y List.mem_cons_self
    rw [List.sum_cons, List.length_cons]; (first|lia|omega)
noncomputable def cntC (ws : List Int) : Nat → List Nat
  | 0 => [1]
  | n + 1 => cntC ws n ++ [(ws.map fun w => if w ≤ ((n + 1 : Nat) : Int) then (cntC ws n).getD (((n + 1 : Nat) : Int) - w).toNat 0 else 0).sum]
theorem cntC_eq (ws : List Int) : ∀ n, (tblC ws n).map List.length = cntC ws n
  | 0 => rfl
  | n + 1 => by
    show (tblC ws n ++ [_]).map List.length = cntC ws n ++ [_]
    rw [List.map_append, cntC_eq ws n]
    congr 1
    rw [List.map_singleton]
    congr 1
    unfold stepC
    rw [List.length_flatMap]
    congr 1
    apply List.map_congr_left
    intro w _
    split
    · rw [List.length_map, ← cntC_eq ws n, List.getD_eq_getElem?_getD, List.getD_eq_getElem?_getD, List.getElem?_map]
      cases (tblC ws n)[(((n + 1 : Nat) : Int) - w).toNat]? <;> rfl
    · rfl
noncomputable def sevenW : List Int := [2, 3, 4, 5, 6, 7, 8]
theorem mem_sevenW {w : Int} (h : 2 ≤ w ∧ w ≤ 8) : w ∈ sevenW := by
  rcases My.small h with rfl | rfl | rfl | rfl | rfl | rfl | rfl <;> decide
theorem cnt1 : sevenW.all (fun a => (cntC [a] 12).all (fun k => k ≤ 60)) = true := by decide +kernel
theorem cnt2 : sevenW.all (fun a => sevenW.all fun b => a == b || (cntC [a, b] 12).all (fun k => k ≤ 60)) = true := by decide +kernel
theorem cnt3 : sevenW.all (fun a => sevenW.all fun b => sevenW.all fun c => a == b || a == c || b == c || (cntC [a, b, c] 12).all (fun k => k ≤ 60)) = true := by decide +kernel
theorem cnt_all {ws : List Int} (h : WOk ws) : (cntC ws 12).all (fun k => k ≤ 60) = true := by
  obtain ⟨h1, h3, hr, hn⟩ := h
  match ws, h1, h3, hr, hn with
  | [a], _, _, hr, _ => exact List.all_eq_true.mp cnt1 a (mem_sevenW (hr a (by simp)))
  | [a, b], _, _, hr, hn =>
    have := List.all_eq_true.mp (List.all_eq_true.mp cnt2 a (mem_sevenW (hr a (by simp)))) b (mem_sevenW (hr b (by simp)))
    rw [Bool.or_eq_true] at this
    rcases this with e | e
    · have := eq_of_beq e
      subst this; simp at hn
    · exact e
  | [a, b, c], _, _, hr, hn =>
    have := List.all_eq_true.mp (List.all_eq_true.mp (List.all_eq_true.mp cnt3 a (mem_sevenW (hr a (by simp)))) b (mem_sevenW (hr b (by simp)))) c (mem_sevenW (hr c (by simp)))
    rw [Bool.or_eq_true, Bool.or_eq_true, Bool.or_eq_true] at this
    rcases this with ((e | e) | e) | e
    · have := eq_of_beq e
      subst this; simp at hn
    · have := eq_of_beq e
      subst this; simp at hn
    · have := eq_of_beq e
      subst this; simp at hn
    · exact e
  | a :: b :: c :: d :: t, _, h3, _, _ => simp at h3
theorem comps_few {ws : List Int} (h : WOk ws) {n : Nat} (hn : n ≤ 12) : (comps ws n).length ≤ 60 := by
  have e := cntC_eq ws 12
  have hl := tblC_length ws 12
  have hlt : n < (tblC ws 12).length := by (first|lia|omega)
  have h2 : (comps ws n).length ∈ cntC ws 12 := by
    rw [← e, List.mem_map]
    refine ⟨comps ws n, ?_, rfl⟩
    rw [← tblC_get ws hn, List.getD_eq_getElem?_getD, List.getElem?_eq_getElem hlt]
    exact List.getElem_mem hlt
  exact of_decide_eq_true (List.all_eq_true.mp (cnt_all h) _ h2)
theorem WOk.pos {ws : List Int} (h : WOk ws) : ∀ w ∈ ws, 1 ≤ w := fun w hw => by have := h.rng w hw; (first|lia|omega)
theorem comps_short {ws : List Int} (h : WOk ws) {n : Nat} {row : List Int} (hr : row ∈ comps ws n) : 2 * row.length ≤ n := by
  obtain ⟨h1, h2⟩ := (mem_comps h.pos n row).mp hr
  have := sum_ge (l := row) fun w hw => (h.rng w (h1 w hw)).1
  (first|lia|omega)
end L2
namespace L2
open PySem PySem.Spec PyProof.Rows
noncomputable def LIx (P : Addr → Prop) (H : Hp) (v : V) (r : List Int) : Prop := ∃ a, v = .ref a ∧ P a ∧ H a = some (.lst (r.map V.int))
section
variable {P P' : Addr → Prop} {H H' : Hp} {v : V} {r : List Int} {rs : List (List Int)} {l : Addr} {vs : List V}
theorem LIx.weak (n : ∀ a, P a → P' a) (h : LIx P H v r) : LIx P' H v r := let ⟨a, e, p, t⟩ := h; ⟨a, e, n a p, t⟩
theorem LIxs.weak (n : ∀ a, P a → P' a) (h : Paired (LIx P H) vs rs) : Paired (LIx P' H) vs rs := Paired.imp' (fun _ _ => LIx.weak n) h
end
section
variable {K : PySem.W.Frag} {H : Hp} {Q : VK} {p : Addr} {ns : List Int}
end
end L2
set_option maxHeartbeats 1000000
namespace L2
open PySem PySem.Spec PyProof.Rows
noncomputable def constInts : List Expr → Option (List Int)
  | [] => some []
  | .Constant (.int i) _ _ :: es => match constInts es with
    | some ns => some (i :: ns)
    | none => none
  | _ => none
noncomputable def constIntss : List Expr → Option (List (List Int))
  | [] => some []
  | .List l _ :: es => match constInts l, constIntss es with
    | some ns, some nss => some (ns :: nss)
    | _, _ => none
  | _ => none
noncomputable def tIntsA (ns : List Int) : TA := fun _ H Q => Q (ns.map V.int) H
noncomputable def tIntssA (nss : List (List Int)) : TA := fun _ H Q => ∀ vs H', Same H H' → Paired (LIx (fun a => H a = none) H') vs nss → Q vs H'
section
variable {X : Cx}
theorem pa_ints : ∀ {es : List Expr} {ns : List Int}, constInts es = some ns → PA X es (tIntsA ns)
  | [], ns, h => by
    cases h
    exact pa_nil
  | e :: es, ns, h => by
    unfold constInts at h
    split at h
    · rename_i e0; cases e0
    · rename_i i j p es' e0
      cases e0
      cases hc : constInts es with
      | none => rw [hc] at h; cases h
      | some ms =>
        rw [hc] at h
        cases h
        exact pa_cons (te := tC (.int i)) (t := tIntsA ms) pe_int (pa_ints hc)
    · cases h
theorem pa_intss : ∀ {es : List Expr} {nss : List (List Int)}, constIntss es = some nss → nss.all (fun ns => decide (ns.length ≤ 1000)) = true → PA X es (tIntssA nss)
  | [], nss, h, _ => by
    cases h
    exact fun _ _ _ _ H Q I q => Calls.spliced_nil ⟨[], H, I, .nil, q [] H (fun _ _ e => e) .nil⟩
  | e :: es, nss, h, hl => by
    unfold constIntss at h
    split at h
    · rename_i e0; cases e0
    · rename_i l p es' e0
      cases e0
      split at h
      · rename_i ns nss' h1 h2
        cases h
        rw [List.all_cons, Bool.and_eq_true] at hl
        have hz := of_decide_eq_true hl.1
        refine fun pos pins s σ H Q I q => (pa_cons (te := tLstQ (tIntsA ns)) (t := tIntssA nss') (pe_lstQ (pa_ints h1)) (pa_intss h2 hl.2)) pos pins s σ H Q I ?_
        refine ⟨by rw [List.length_map]; exact Nat.le_trans hz (by decide), fun a H1 ha S1 L1 vs H2 S2 P2 => q _ H2 (S1.trans S2) (.cons ⟨a, rfl, ha, S2 _ _ L1⟩ (LIxs.weak (fun b hb => ?_) P2))⟩
        cases eb : H b with
        | none => rfl
        | some o => rw [S1 b o eb] at hb; cases hb
      · cases h
    · cases h
end
end L2
noncomputable section
namespace Dn
open PySem
inductive T where
  | non | bl (b : Bool) | int (i : Int) | str (x : Str) | ty (n : String)
  | lst (ts : List T) | tup (ts : List T) | ins (c : Nat) (ts : List T) | dic (ks vs : List T) | cel (k : Nat) | exn (c : Nat) | scr (ts : List T)
  deriving Inhabited
noncomputable instance : DecidableEq T := fun a b => Classical.propDecidable (a = b)
noncomputable def T.beq (a b : T) : Bool := decide (a = b)
noncomputable def T.beqs (a b : List T) : Bool := decide (a = b)
theorem T.beq_iff (a b : T) : T.beq a b = true ↔ a = b := decide_eq_true_iff
theorem T.beq_non : T.beq .non .non = true := decide_eq_true rfl
theorem T.beq_bl (a b : Bool) : T.beq (.bl a) (.bl b) = (a == b) := by rw [Bool.eq_iff_iff, T.beq_iff, T.bl.injEq, beq_iff_eq]
theorem T.beq_int (a b : Int) : T.beq (.int a) (.int b) = (a == b) := by rw [Bool.eq_iff_iff, T.beq_iff, T.int.injEq, beq_iff_eq]
theorem T.beq_str (a b : Str) : T.beq (.str a) (.str b) = (a == b) := by rw [Bool.eq_iff_iff, T.beq_iff, T.str.injEq, beq_iff_eq]
theorem T.beq_lst (a b : List T) : T.beq (.lst a) (.lst b) = T.beqs a b := by simp only [T.beq, T.beqs, T.lst.injEq]
theorem T.beq_tup (a b : List T) : T.beq (.tup a) (.tup b) = T.beqs a b := by simp only [T.beq, T.beqs, T.tup.injEq]
theorem T.beqs_cons (a b : T) (as bs : List T) : T.beqs (a :: as) (b :: bs) = (T.beq a b && T.beqs as bs) := by simp only [T.beq, T.beqs, List.cons.injEq, Bool.decide_and]
inductive MO where
  | lst (ts : List T) | ins (c : Nat) (ts : List T) | dic (ks vs : List T)
  deriving Inhabited
noncomputable instance : DecidableEq MO := fun a b => Classical.propDecidable (a = b)
structure Env where
  loc : List (Option T)
  ms : List MO
inductive R (α : Type) where
  | ok (a : α) (ms : List MO) | exc (c : Nat) (ms : List MO) | bad
noncomputable def R.bind {α β : Type} (x : R α) (f : α → List MO → R β) : R β := match x with
  | .ok a ms => f a ms
  | .exc c ms => .exc c ms
  | .bad => .bad
@[simp] theorem R.bind_ok {α β : Type} (a : α) (ms : List MO) (f : α → List MO → R β) : (R.ok a ms).bind f = f a ms := rfl
@[simp] theorem R.bind_exc {α β : Type} (c : Nat) (ms : List MO) (f : α → List MO → R β) : (R.exc c ms : R α).bind f = .exc c ms := rfl
@[simp] theorem R.bind_bad {α β : Type} (f : α → List MO → R β) : (R.bad : R α).bind f = .bad := rfl
noncomputable abbrev DE := Env → R T
noncomputable abbrev DT := Env → R Bool
noncomputable abbrev DA := Env → R (List T)
mutual
noncomputable def T.clean : T → Bool
  | .lst ts => T.cleans ts
  | .tup ts => T.cleans ts
  | .ins _ ts => T.cleans ts
  | .scr ts => T.cleans ts
  | .dic ks vs => T.cleans ks && T.cleans vs
  | .cel _ => false
  | _ => true
noncomputable def T.cleans : List T → Bool
  | [] => true
  | t :: ts => T.clean t && T.cleans ts
end
noncomputable def T.flat : T → Bool
  | .non => true | .bl _ => true | .int _ => true | .str _ => true | .ty _ => true
  | _ => false
theorem T.cleans_iff : ∀ ts : List T, T.cleans ts = true ↔ ∀ t ∈ ts, T.clean t = true
  | [] => by simp [T.cleans]
  | t :: ts => by simp [T.cleans, T.cleans_iff ts]
noncomputable def reify (ms : List MO) : Nat → T → Option T
  | 0, t => if t.clean then some t else none
  | n + 1, t => if t.clean then some t else match t with
    | .cel k => match ms[k]? with
      | some (.lst ts) => (ts.mapM (reify ms n)).map .lst
      | some (.ins c ts) => (ts.mapM (reify ms n)).map (.ins c)
      | some (.dic ks vs) => if T.cleans ks then (vs.mapM (reify ms n)).map (.dic ks) else none
      | none => none
    | .lst ts => (ts.mapM (reify ms n)).map .lst
    | .tup ts => (ts.mapM (reify ms n)).map .tup
    | .ins c ts => (ts.mapM (reify ms n)).map (.ins c)
    | _ => none
noncomputable def dVar (i : Nat) : DE := fun ρ => match ρ.loc[i]? with
  | some (some t) => .ok t ρ.ms
  | _ => .bad
noncomputable def dC (t : T) : DE := fun ρ => .ok t ρ.ms
noncomputable def dOp (f : List MO → T → T → R T) (a b : DE) : DE := fun ρ => (a ρ).bind fun x m => (b ⟨ρ.loc, m⟩).bind fun y m' => f m' x y
noncomputable def dUn (f : List MO → T → R T) (a : DE) : DE := fun ρ => (a ρ).bind fun x m => f m x
noncomputable def dNil : DA := fun ρ => .ok [] ρ.ms
noncomputable def dCons (a : DE) (r : DA) : DA := fun ρ => (a ρ).bind fun x m => (r ⟨ρ.loc, m⟩).bind fun xs m' => .ok (x :: xs) m'
noncomputable def dInts (ns : List Int) : DA := fun ρ => .ok (ns.map .int) ρ.ms
noncomputable def dIntss (nss : List (List Int)) : DA := fun ρ => .ok (nss.map fun ns => .lst (ns.map .int)) ρ.ms
noncomputable def dCB (f : List MO → List T → R T) (a : DA) : DE := fun ρ => (a ρ).bind fun xs m => f m xs
noncomputable def dTest (a : DE) : DT := fun ρ => (a ρ).bind fun x m => match x with
  | .bl b => .ok b m
  | _ => .bad
noncomputable def dAnd (a b : DT) : DT := fun ρ => (a ρ).bind fun x m => if x then b ⟨ρ.loc, m⟩ else .ok false m
noncomputable def dOr (a b : DT) : DT := fun ρ => (a ρ).bind fun x m => if x then .ok true m else b ⟨ρ.loc, m⟩
noncomputable def dNot (a : DT) : DT := fun ρ => (a ρ).bind fun x m => .ok (!x) m
noncomputable def dTrue : DT := fun ρ => .ok true ρ.ms
noncomputable def dAndV (a b : DE) : DE := fun ρ => (a ρ).bind fun x m => match x with
  | .bl c => if c then b ⟨ρ.loc, m⟩ else .ok (.bl false) m
  | _ => .bad
noncomputable def dOrV (a b : DE) : DE := fun ρ => (a ρ).bind fun x m => match x with
  | .bl c => if c then .ok (.bl true) m else b ⟨ρ.loc, m⟩
  | _ => .bad
noncomputable def dNotV (a : DE) : DE := fun ρ => (a ρ).bind fun x m => match x with
  | .bl c => .ok (.bl (!c)) m
  | _ => .bad
noncomputable def dIfE (c : DT) (a b : DE) : DE := fun ρ => (c ρ).bind fun x m => if x then a ⟨ρ.loc, m⟩ else b ⟨ρ.loc, m⟩
noncomputable def dChain (f g : List MO → T → T → R T) (a b c : DE) : DE := fun ρ => (a ρ).bind fun x m => (b ⟨ρ.loc, m⟩).bind fun y m => (f m x y).bind fun z m => match z with
  | .bl true => (c ⟨ρ.loc, m⟩).bind fun u m => g m y u
  | .bl false => .ok (.bl false) m
  | _ => .bad
noncomputable def dIsN (neg : Bool) (a : DE) : DE := fun ρ => (a ρ).bind fun x m => .ok (.bl (xor neg (decide (x = .non)))) m
noncomputable def items (m : List MO) : T → Option (List T)
  | .lst ts => some ts
  | .scr ts => some ts
  | .tup ts => some ts
  | .cel k => match m[k]? with
    | some (.lst ts) => some ts
    | _ => none
  | _ => none
noncomputable def litems (m : List MO) : T → Option (List T)
  | .lst ts => some ts
  | .cel k => match m[k]? with
    | some (.lst ts) => some ts
    | _ => none
  | _ => none
structure Src where
  k : Option Nat
  ts : List T
noncomputable def Src.fits (s : Src) (m : List MO) : Bool := match s.k with
  | none => true
  | some k => decide (m[k]? = some (.lst s.ts))
noncomputable abbrev DI := Env → R Src
noncomputable def srcOf (m : List MO) : T → Option Src
  | .lst ts => some ⟨none, ts⟩
  | .tup ts => some ⟨none, ts⟩
  | .cel k => match m[k]? with
    | some (.lst ts) => some ⟨some k, ts⟩
    | _ => none
  | _ => none
noncomputable def iSeq (a : DE) : DI := fun ρ => (a ρ).bind fun x m => match srcOf m x with
  | some s => .ok s m
  | none => .bad
noncomputable def big : Int := 1000000
noncomputable def rngT (lo : Int) (n : Nat) : List T := (List.range n).map fun k : Nat => T.int (lo + k)
noncomputable def iRng1 (a : DA) : DI := fun ρ => (a ρ).bind fun xs m => match xs with
  | [.int j] => if -big ≤ j ∧ j ≤ big then .ok ⟨none, rngT 0 j.toNat⟩ m else .bad
  | _ => .bad
noncomputable def iRng2 (a : DA) : DI := fun ρ => (a ρ).bind fun xs m => match xs with
  | [.int i, .int j] => if -big ≤ i ∧ i ≤ big ∧ -big ≤ j ∧ j ≤ big then .ok ⟨none, rngT i (j - i).toNat⟩ m else .bad
  | _ => .bad
noncomputable def most : Nat := 100000
noncomputable def alloc (c : Bool) (ts : List T) (m : List MO) : R T :=
  if ts.length ≤ most then (if c then .ok (.cel m.length) (m ++ [.lst ts]) else .ok (.lst ts) m) else .bad
noncomputable def dLst (c : Bool) (a : DA) : DE := fun ρ => (a ρ).bind fun xs m => alloc c xs m
noncomputable def dTup (a : DA) : DE := fun ρ => (a ρ).bind fun xs m => if xs.length ≤ most then .ok (.tup xs) m else .bad
noncomputable def R.sure {α β : Type} (x : R α) (f : α → List MO → R β) : R β := match x with
  | .ok a ms => f a ms
  | _ => .bad
@[simp] theorem R.sure_ok {α β : Type} (a : α) (ms : List MO) (f : α → List MO → R β) : (R.ok a ms).sure f = f a ms := rfl
@[simp] theorem R.sure_exc {α β : Type} (c : Nat) (ms : List MO) (f : α → List MO → R β) : (R.exc c ms : R α).sure f = .bad := rfl
@[simp] theorem R.sure_bad {α β : Type} (f : α → List MO → R β) : (R.bad : R α).sure f = .bad := rfl
noncomputable def compD (src : Src) (sc : T → List (Option T)) (tc : DT) (te : DE) : List T → List T → List MO → R (List T)
  | [], acc, m => if src.fits m then .ok acc m else .bad
  | x :: xs, acc, m => if src.fits m then (tc ⟨sc x, m⟩).sure fun b m => if b then (te ⟨sc x, m⟩).sure fun t m => if acc.length < most then compD src sc tc te xs (acc ++ [t]) m else .bad else compD src sc tc te xs acc m else .bad
noncomputable def scD (js : List Nat) (loc : List (Option T)) (x : T) : List (Option T) := some x :: js.map fun j => (loc[j]?).getD none
noncomputable def dComp (c : Bool) (js : List Nat) (it : DI) (tc : DT) (te : DE) : DE := fun ρ => (it ρ).bind fun s m => (compD s (scD js ρ.loc) tc te s.ts [] m).bind fun ts m => alloc c ts m
inductive RS where
  | go (ρ : Env) | ret (t : T) (ms : List MO) | brk (ρ : Env) | cont (ρ : Env) | exc (c : Nat) (ρ : Env) | bad
noncomputable abbrev DS := Env → RS
noncomputable abbrev DG := T → Env → RS
noncomputable def sOf {α : Type} (r : R α) (ρ : Env) (f : α → List MO → RS) : RS := match r with
  | .ok a m => f a m
  | .exc c m => .exc c ⟨ρ.loc, m⟩
  | .bad => .bad
@[simp] theorem sOf_ok {α : Type} (a : α) (m : List MO) (ρ : Env) (f : α → List MO → RS) : sOf (.ok a m) ρ f = f a m := rfl
@[simp] theorem sOf_exc {α : Type} (c : Nat) (m : List MO) (ρ : Env) (f : α → List MO → RS) : sOf (.exc c m) ρ f = .exc c ⟨ρ.loc, m⟩ := rfl
@[simp] theorem sOf_bad {α : Type} (ρ : Env) (f : α → List MO → RS) : sOf (.bad : R α) ρ f = .bad := rfl
noncomputable def RS.then (r : RS) (f : DS) : RS := match r with
  | .go ρ => f ρ
  | x => x
@[simp] theorem RS.then_go (ρ : Env) (f : DS) : (RS.go ρ).then f = f ρ := rfl
@[simp] theorem RS.then_ret (t : T) (m : List MO) (f : DS) : (RS.ret t m).then f = .ret t m := rfl
@[simp] theorem RS.then_brk (ρ : Env) (f : DS) : (RS.brk ρ).then f = .brk ρ := rfl
@[simp] theorem RS.then_cont (ρ : Env) (f : DS) : (RS.cont ρ).then f = .cont ρ := rfl
@[simp] theorem RS.then_exc (c : Nat) (ρ : Env) (f : DS) : (RS.exc c ρ).then f = .exc c ρ := rfl
@[simp] theorem RS.then_bad (f : DS) : (RS.bad).then f = .bad := rfl
noncomputable def sSeq (a b : DS) : DS := fun ρ => (a ρ).then b
noncomputable def sNext : DS := fun ρ => .go ρ
noncomputable def sRet (e : DE) : DS := fun ρ => sOf (e ρ) ρ fun t m => .ret t m
noncomputable def sRetN : DS := fun ρ => .ret .non ρ.ms
noncomputable def sExpr (e : DE) : DS := fun ρ => sOf (e ρ) ρ fun _ m => .go ⟨ρ.loc, m⟩
noncomputable def sAsg (e : DE) (g : DG) : DS := fun ρ => sOf (e ρ) ρ fun t m => g t ⟨ρ.loc, m⟩
noncomputable def sIf (c : DT) (a b : DS) : DS := fun ρ => sOf (c ρ) ρ fun x m => if x then a ⟨ρ.loc, m⟩ else b ⟨ρ.loc, m⟩
noncomputable def gName (i : Nat) : DG := fun t ρ => .go ⟨ρ.loc.set i (some t), ρ.ms⟩
noncomputable def gAll : List DG → List T → Env → RS
  | [], [], ρ => .go ρ
  | g :: gs, t :: ts, ρ => (g t ρ).then (gAll gs ts)
  | _, _, _ => .bad
noncomputable def gTup (gs : List DG) : DG := fun t ρ => match t with
  | .tup ts => if ts.length = gs.length then gAll gs ts ρ else .bad
  | _ => .bad
noncomputable def kill (ks : List Nat) (ρ : Env) : Env := ⟨ks.foldl (fun l k => l.set k none) ρ.loc, ρ.ms⟩
noncomputable def forD (src : Src) (ks : List Nat) (g : DG) (b : DS) : List T → Env → RS
  | [], ρ => if src.fits ρ.ms then .go ρ else .bad
  | x :: xs, ρ => if src.fits ρ.ms then (match (g x ρ).then b with
    | .go ρ' => forD src ks g b xs (kill ks ρ')
    | .cont ρ' => forD src ks g b xs (kill ks ρ')
    | .brk ρ' => .go (kill ks ρ')
    | r => r) else .bad
noncomputable def sFor (it : DI) (ks : List Nat) (g : DG) (b : DS) : DS := fun ρ => sOf (it ρ) ρ fun s m => forD s ks g b s.ts (kill ks ⟨ρ.loc, m⟩)
noncomputable def whileD (ks : List Nat) (c : DT) (b : DS) : Nat → Env → RS
  | 0, _ => .bad
  | n + 1, ρ => sOf (c ρ) ρ fun x m => if x then (match b ⟨ρ.loc, m⟩ with
    | .go ρ' => whileD ks c b n (kill ks ρ')
    | .cont ρ' => whileD ks c b n (kill ks ρ')
    | .brk ρ' => .go (kill ks ρ')
    | r => r) else .go ⟨ρ.loc, m⟩
noncomputable def sWhile (n : Nat) (ks : List Nat) (c : DT) (b : DS) : DS := fun ρ => whileD ks c b n (kill ks ρ)
noncomputable abbrev Fn := List T → List MO → R T
noncomputable def runD (n : Nat) (d : DS) : Fn := fun ts ms => match d ⟨ts.map some ++ List.replicate (n - ts.length) none, ms⟩ with
  | .ret t m => .ok t m
  | .go ρ => .ok .non ρ.ms
  | .exc c ρ => .exc c ρ.ms
  | _ => .bad
noncomputable def callP (F : Fn) (m : List MO) (ts : List T) : R T :=
  if T.cleans ts then (match F ts [] with
    | .ok t m' => match reify m' 4 t with
      | some t' => .ok t' m
      | none => .bad
    | .exc c _ => .exc c m
    | .bad => .bad) else .bad
noncomputable def callC (F : Fn) (m : List MO) (ts : List T) : R T :=
  match ts.mapM (reify m 4) with
  | none => .bad
  | some us => match F us [] with
    | .ok t _ => if t.flat then .ok t m else .bad
    | .exc c _ => .exc c m
    | .bad => .bad
mutual
noncomputable def T.shift (n : Nat) : T → T
  | .lst ts => .lst (T.shifts n ts)
  | .tup ts => .tup (T.shifts n ts)
  | .ins c ts => .ins c (T.shifts n ts)
  | .dic ks vs => .dic ks (T.shifts n vs)
  | .scr ts => .scr (T.shifts n ts)
  | .cel k => .cel (n + k)
  | .non => .non
  | .bl b => .bl b
  | .int i => .int i
  | .str x => .str x
  | .ty x => .ty x
  | .exn c => .exn c
noncomputable def T.shifts (n : Nat) : List T → List T
  | [] => []
  | t :: ts => T.shift n t :: T.shifts n ts
end
noncomputable def MO.shift (n : Nat) : MO → MO
  | .lst ts => .lst (T.shifts n ts)
  | .ins c ts => .ins c (T.shifts n ts)
  | .dic ks vs => .dic ks (T.shifts n vs)
noncomputable def callT (F : Fn) (m : List MO) (ts : List T) : R T :=
  if T.cleans ts then (match F ts [] with
    | .ok t m' => .ok (t.shift m.length) (m ++ m'.map (MO.shift m.length))
    | .exc c _ => .exc c m
    | .bad => .bad) else .bad
noncomputable def oI (g : Int → Int → T) : List MO → T → T → R T := fun m x y => match x, y with
  | .int i, .int j => .ok (g i j) m
  | _, _ => .bad
noncomputable def oIc (C : Int → Int → Bool) (g : Int → Int → T) : List MO → T → T → R T := fun m x y => match x, y with
  | .int i, .int j => if C i j then .ok (g i j) m else .bad
  | _, _ => .bad
noncomputable def oAdd (c : Bool) : List MO → T → T → R T := fun m x y => match x, y with
  | .int i, .int j => .ok (.int (i + j)) m
  | _, _ => match litems m x, litems m y with
    | some xs, some ys => alloc c (xs ++ ys) m
    | _, _ => .bad
noncomputable def small (i : Int) : Bool := decide (-(2 ^ 64) < i ∧ i < 2 ^ 64)
noncomputable def oMul (c : Bool) : List MO → T → T → R T := fun m x y => match x, y with
  | .int i, .int j => if small i || small j then .ok (.int (i * j)) m else .bad
  | _, .int k => match litems m x with
    | some xs => if 0 ≤ k ∧ k ≤ 1000 ∧ xs.length ≤ 1000 then alloc c (List.replicate k.toNat xs).flatten m else .bad
    | none => .bad
  | _, _ => .bad
noncomputable def oSub : List MO → T → T → R T := oI fun i j => .int (i - j)
noncomputable def oMod : List MO → T → T → R T := oIc (fun _ j => decide (0 < j)) fun i j => .int (i % j)
noncomputable def oDiv : List MO → T → T → R T := oIc (fun _ j => decide (0 < j ∧ j < 1073741824)) fun i j => .int (i / j)
noncomputable def oPow : List MO → T → T → R T := oIc (fun i j => decide (0 ≤ j ∧ j ≤ 1000 ∧ i.natAbs ≤ 1000)) fun i j => .int (i ^ j.toNat)
noncomputable def oNeg : List MO → T → R T := fun m x => match x with
  | .int i => .ok (.int (-i)) m
  | _ => .bad
noncomputable def T.akin : Nat → T → T → Bool
  | _, .non, .non => true
  | _, .bl _, .bl _ => true
  | _, .int _, .int _ => true
  | _, .str _, .str _ => true
  | n + 1, .lst a, .lst b => (a.zip b).all fun p => T.akin n p.1 p.2
  | n + 1, .tup a, .tup b => (a.zip b).all fun p => T.akin n p.1 p.2
  | _, _, _ => false
noncomputable def deref (m : List MO) (t : T) : T := match t with
  | .cel k => match m[k]? with
    | some (.lst ts) => .lst ts
    | _ => t
  | _ => t
noncomputable def oEq (neg : Bool) : List MO → T → T → R T := fun m x y => if T.akin 8 (deref m x) (deref m y) then .ok (.bl (xor neg (T.beq (deref m x) (deref m y)))) m else .bad
noncomputable def intsOf : List T → Option (List Int)
  | [] => some []
  | .int i :: r => (intsOf r).map (i :: ·)
  | _ => none
noncomputable def lexLt : List Int → List Int → Bool
  | [], [] => false
  | [], _ :: _ => true
  | _ :: _, [] => false
  | x :: xs, y :: ys => if x = y then lexLt xs ys else decide (x < y)
noncomputable def oLt : List MO → T → T → R T := fun m x y => match x, y with
  | .int i, .int j => .ok (.bl (decide (i < j))) m
  | _, _ => match (litems m x).bind intsOf, (litems m y).bind intsOf with
    | some xs, some ys => .ok (.bl (lexLt xs ys)) m
    | _, _ => .bad
noncomputable def oLe : List MO → T → T → R T := oI fun i j => .bl (decide (i ≤ j))
noncomputable def oGt : List MO → T → T → R T := oI fun i j => .bl (decide (j < i))
noncomputable def oGe : List MO → T → T → R T := oI fun i j => .bl (decide (j ≤ i))
noncomputable def oIn (neg : Bool) : List MO → T → T → R T := fun m x y => match items m y with
  | some ys => if ys.all (fun y => T.akin 8 y x) then .ok (.bl (xor neg (decide (x ∈ ys)))) m else .bad
  | none => .bad
noncomputable def ixD (n : Nat) (i : Int) : Option Nat :=
  if 0 ≤ i then (if i < n then some i.toNat else none)
  else if -(n : Int) ≤ i then some (i + n).toNat else none
noncomputable def atD {α : Type} (xs : List α) (i : Int) : Option α := match ixD xs.length i with
  | some j => xs[j]?
  | none => none
noncomputable def oIx : List MO → T → T → R T := fun m x y => match items m x, y with
  | some xs, .int i => match atD xs i with
    | some t => .ok t m
    | none => .bad
  | _, _ => .bad
noncomputable def sIx (n d : Nat) : Option Int → Nat
  | none => d
  | some i => if i < 0 then (i + n).toNat else min i.toNat n
noncomputable def cut {α : Type} (xs : List α) (lo hi : Option Int) : List α := (xs.drop (sIx xs.length 0 lo)).take (sIx xs.length xs.length hi - sIx xs.length 0 lo)
noncomputable abbrev DO := Env → R (Option Int)
noncomputable def pNone : DO := fun ρ => .ok none ρ.ms
noncomputable def pSome (e : DE) : DO := fun ρ => (e ρ).bind fun x m => match x with
  | .int i => .ok (some i) m
  | _ => .bad
noncomputable def oCut (c : Bool) (m : List MO) (x : T) (lo hi : Option Int) : R T := match x with
  | .tup ts => .ok (.tup (cut ts lo hi)) m
  | _ => match litems m x with
    | some ts => alloc c (cut ts lo hi) m
    | none => .bad
noncomputable def dSl (c : Bool) (e : DE) (lo hi : DO) : DE := fun ρ => (e ρ).bind fun x m => (lo ⟨ρ.loc, m⟩).bind fun l m => (hi ⟨ρ.loc, m⟩).bind fun h m => oCut c m x l h
noncomputable def bLen : List MO → List T → R T := fun m xs => match xs with
  | [x] => match items m x with
    | some ts => .ok (.int ts.length) m
    | none => .bad
  | _ => .bad
noncomputable def bSum : List MO → List T → R T := fun m xs => match xs with
  | [x] => match (items m x).bind intsOf with
    | some ns => .ok (.int ns.sum) m
    | none => .bad
  | _ => .bad
noncomputable def bList (c : Bool) : List MO → List T → R T := fun m xs => match xs with
  | [x] => match items m x with
    | some ts => alloc c ts m
    | none => .bad
  | _ => .bad
noncomputable def bTuple : List MO → List T → R T := fun m xs => match xs with
  | [x] => match items m x with
    | some ts => .ok (.tup ts) m
    | none => .bad
  | _ => .bad
noncomputable def isT (m : List MO) (x : T) (n : String) : Option Bool :=
  match deref m x with
  | .int _ => if n = "int" then some true else if n = "bool" then some false else if n = "list" then some false else if n = "tuple" then some false else none
  | .bl _ => if n = "int" then some true else if n = "bool" then some true else if n = "list" then some false else if n = "tuple" then some false else none
  | .lst _ => if n = "int" then some false else if n = "bool" then some false else if n = "list" then some true else if n = "tuple" then some false else none
  | .tup _ => if n = "int" then some false else if n = "bool" then some false else if n = "list" then some false else if n = "tuple" then some true else none
  | .non => if n = "int" then some false else if n = "bool" then some false else if n = "list" then some false else if n = "tuple" then some false else none
  | _ => none
noncomputable def bIs : List MO → List T → R T := fun m xs => match xs with
  | [x, .ty n] => match isT m x n with
    | some b => .ok (.bl b) m
    | none => .bad
  | _ => .bad
noncomputable def ins1 {α : Type} (lt : α → α → Bool) (x : α) : List α → List α
  | [] => [x]
  | y :: r => if lt y x then y :: ins1 lt x r else x :: y :: r
noncomputable def isort {α : Type} (lt : α → α → Bool) : List α → List α
  | [] => []
  | x :: r => ins1 lt x (isort lt r)
noncomputable def nub : List Int → List Int
  | [] => []
  | x :: r => if x ∈ r then nub r else x :: nub r
noncomputable def bLenSet : List MO → List T → R T := fun m xs => match xs with
  | [x] => match (litems m x).bind intsOf with
    | some ns => if ns.length ≤ 1000 then .ok (.int (nub ns).length) m else .bad
    | none => .bad
  | _ => .bad
noncomputable def bSortSet2 (c : Bool) : List MO → List T → R T := fun m xs => match xs with
  | [x] => match (litems m x).bind intsOf with
    | some [a, b] => if 2 ≤ a ∧ a ≤ 8 ∧ 2 ≤ b ∧ b ≤ 8 then alloc c ((if a = b then [a] else if a < b then [a, b] else [b, a]).map .int) m else .bad
    | _ => .bad
  | _ => .bad
noncomputable def rowsOf : List T → Option (List (List Int))
  | [] => some []
  | .lst us :: r => (intsOf us).bind fun ns => (rowsOf r).map (ns :: ·)
  | _ => none
noncomputable def bSorted (c : Bool) : List MO → List T → R T := fun m xs => match xs with
  | [x] => match litems m x with
    | some ts => if ts.length < 64 then (match intsOf ts with
      | some ns => alloc c ((isort (fun a b => decide (a < b)) ns).map .int) m
      | none => match rowsOf ts with
        | some rs => alloc c ((isort lexLt rs).map fun r => .lst (r.map .int)) m
        | none => .bad) else .bad
    | none => .bad
  | _ => .bad
noncomputable def keyOf (F : Fn) (t : T) : Option (List Int) := match F [t] [] with
  | .ok r m => match reify m 4 r with
    | some (.lst us) => intsOf us
    | _ => none
  | _ => none
noncomputable def bSortK (c : Bool) (F : Fn) : List MO → List T → R T := fun m xs => match xs with
  | [x] => match litems m x with
    | some ts => if T.cleans ts && decide (ts.length < 64) then (match ts.mapM (keyOf F) with
      | some kz => if kz.Nodup then alloc c ((isort (fun a b => lexLt a.1 b.1) (kz.zip ts)).map (·.2)) m else .bad
      | none => .bad) else .bad
    | none => .bad
  | _ => .bad
noncomputable def mAppend : List MO → T → List T → R T := fun m x xs => match x, xs with
  | .cel k, [y] => match m[k]? with
    | some (.lst ts) => if ts.length < most then .ok .non (m.set k (.lst (ts ++ [y]))) else .bad
    | _ => .bad
  | _, _ => .bad
noncomputable def dMethL (f : List MO → T → List T → R T) (o : DE) (a : DA) : DE := fun ρ => (o ρ).bind fun x m => if (litems m x).isSome then (a ⟨ρ.loc, m⟩).bind fun xs m => f m x xs else .bad
noncomputable def fieldsOf (m : List MO) : T → Option (Nat × List T)
  | .ins c ts => some (c, ts)
  | .cel k => match m[k]? with
    | some (.ins c ts) => some (c, ts)
    | _ => none
  | _ => none
noncomputable def oFld (ix : List (Nat × Nat)) (m : List MO) (x : T) : R T := match fieldsOf m x with
  | some (c, ts) => match ix.lookup c with
    | some i => match ts[i]? with
      | some t => .ok t m
      | none => .bad
    | none => .bad
  | none => .bad
noncomputable def dFld (ix : List (Nat × Nat)) (o : DE) : DE := dUn (oFld ix) o
noncomputable def oSet (ix : List (Nat × Nat)) (m : List MO) (x y : T) : R Unit := match x with
  | .cel k => match m[k]? with
    | some (.ins c ts) => match ix.lookup c with
      | some i => if i < ts.length then .ok () (m.set k (.ins c (ts.set i y))) else if i = ts.length then .ok () (m.set k (.ins c (ts ++ [y]))) else .bad
      | none => .bad
    | _ => .bad
  | _ => .bad
noncomputable def sSetF (ix : List (Nat × Nat)) (o v : DE) : DS := fun ρ => sOf (v ρ) ρ fun y m => sOf (o ⟨ρ.loc, m⟩) ρ fun x m => sOf (oSet ix m x y) ρ fun _ m => .go ⟨ρ.loc, m⟩
noncomputable def makeP (c : Nat) (F : Fn) (m : List MO) (ts : List T) : R T :=
  if T.cleans ts then (match F (.cel 0 :: ts) [.ins c []] with
    | .ok .non m' => match reify m' 4 (.cel 0) with
      | some t' => .ok t' m
      | none => .bad
    | .exc c' _ => .exc c' m
    | _ => .bad) else .bad
noncomputable def dMethO (c : Nat) (f : List MO → List T → R T) (o : DE) (a : DA) : DE := fun ρ => (o ρ).bind fun x m => match fieldsOf m x with
  | some (c', _) => if c' = c then (a ⟨ρ.loc, m⟩).bind fun xs m => f m (x :: xs) else .bad
  | none => .bad
noncomputable def sBad : DS := fun _ => .bad
noncomputable def tame : Nat := 10 ^ 40
noncomputable def msgD (loc : List (Option T)) (j : Nat) : Bool := match loc[j]? with
  | some (some (.int i)) => decide (i.natAbs < tame)
  | _ => false
noncomputable def sRaise (c : Nat) (js : List Nat) : DS := fun ρ => if js.all (msgD ρ.loc) then .exc c ρ else .bad
noncomputable def sTry (cs : List Nat) (i : Nat) (b s : DS) : DS := fun ρ => match b ρ with
  | .exc c ρ' => if c ∈ cs then (match s ⟨ρ'.loc.set i (some (.exn c)), ρ'.ms⟩ with
    | .go ρ'' => .go ⟨ρ''.loc.set i none, ρ''.ms⟩
    | _ => .bad) else .bad
  | r => r
noncomputable def dIsX (i : Nat) (f : List (Nat × Bool)) : DE := fun ρ => match ρ.loc[i]? with
  | some (some (.exn c)) => match f.lookup c with
    | some b => .ok (.bl b) ρ.ms
    | none => .bad
  | _ => .bad
end Dn
namespace L2
open PySem
noncomputable def xcO (e C : Addr) : HO := .ext fun h => ∃ ob, h.get? e = some ob ∧ ob.cls = .ref C
end L2
namespace Dn
open PySem L2
structure Wd where
  K : PySem.W.Frag
  cl : Nat → Addr
  nm : Nat → List Str
noncomputable def Nd (A B : List Addr) (a : Addr) : Prop := a ∉ A ∧ a ∉ B
noncomputable def KL (K : PySem.W.Frag) (a : Addr) (xs : List V) : Prop :=
  ∃ (o : Obj) (its : Array Value) (n : Nat), K.lookup a = some o ∧ o.cls = .type "list" ∧ o.dict = none ∧ o.data = .seq its n ∧ its.size ≤ sizeLine ∧ Vals xs its.toList
noncomputable def keyT : T → Option Key
  | .int i => some (.inl i)
  | .str x => some (.inr x)
  | _ => none
noncomputable def keyTs : List T → Option (List Key)
  | [] => some []
  | t :: ts => (keyT t).bind fun k => (keyTs ts).map (k :: ·)
noncomputable def tkeys : List T → Option (List (List Key))
  | [] => some []
  | .tup ts :: r => (keyTs ts).bind fun k => (tkeys r).map (k :: ·)
  | _ => none
noncomputable def pkeys : List T → Option (List Key) := keyTs
mutual
noncomputable def Tr (W : Wd) (A B : List Addr) (H : Hp) : T → V → Prop
  | .non, v => v = .non
  | .bl b, v => v = .bl b
  | .int i, v => v = .int i
  | .str x, v => v = .str x
  | .ty n, v => v = .ty n
  | .lst ts, v => ∃ a vs, v = .ref a ∧ Nd A B a ∧ H a = some (.lst vs) ∧ Trs W A B H ts vs
  | .tup ts, v => ∃ a vs, v = .ref a ∧ Nd A B a ∧ H a = some (.tup vs) ∧ Trs W A B H ts vs
  | .ins c ts, v => ∃ a dx vs, v = .ref a ∧ Nd A B a ∧ H a = some (.ins (W.cl c) dx ((W.nm c).zip vs)) ∧ ts.length ≤ (W.nm c).length ∧ Trs W A B H ts vs
  | .dic ks ts, v => ∃ a vs, v = .ref a ∧ Nd A B a ∧ ((∃ kl, pkeys ks = some kl ∧ kl.length = ts.length ∧ H a = some (.dK (kl.zip vs))) ∨ (∃ kl, tkeys ks = some kl ∧ kl.length = ts.length ∧ H a = some (.dT (kl.zip vs)))) ∧ Trs W A B H ts vs
  | .cel k, v => ∃ a, A[k]? = some a ∧ v = .ref a
  | .exn c, v => ∃ a, v = .ref a ∧ Nd A B a ∧ H a = some (xcO a (W.cl c))
  | .scr ts, v => ∃ a vs, v = .ref a ∧ ((Nd A B a ∧ Rd H a (.lst vs)) ∨ KL W.K a vs) ∧ Trs W A B H ts vs
noncomputable def Trs (W : Wd) (A B : List Addr) (H : Hp) : List T → List V → Prop
  | [], vs => vs = []
  | t :: ts, vs => ∃ v r, vs = v :: r ∧ Tr W A B H t v ∧ Trs W A B H ts r
end
structure Ext (A : List Addr) (H : Hp) (A' : List Addr) (H' : Hp) : Prop where
  pre : ∃ l, A' = A ++ l ∧ ∀ c ∈ l, H c = none
  fr : ∀ b o, b ∉ A → H b = some o → H' b = some o
  tr : ∀ b o, H b = some o → ∃ u, H' b = some u
section
variable {W : Wd} {A A' A'' B B' : List Addr} {H H' H'' : Hp} {t : T} {ts us : List T} {v : V} {vs ws : List V} {a : Addr} {o : HO}
theorem Ext.refl : Ext A H A H := ⟨⟨[], by simp, fun c h => by cases h⟩, fun _ _ _ h => h, fun _ o h => ⟨o, h⟩⟩
theorem Ext.same (h : Same H H') : Ext A H A H' := ⟨⟨[], by simp, fun c h => by cases h⟩, fun b o _ q => h b o q, fun b o q => ⟨o, h b o q⟩⟩
theorem Ext.out (e : Ext A H A' H') (n : a ∉ A) (q : H a = some o) : a ∉ A' := by
  obtain ⟨l, rfl, hl⟩ := e.pre
  intro h
  rcases List.mem_append.mp h with h | h
  · exact n h
  · rw [hl a h] at q; cases q
theorem Ext.trans (e : Ext A H A' H') (f : Ext A' H' A'' H'') : Ext A H A'' H'' := by
  refine ⟨?_, fun b o n q => f.fr b o (e.out n q) (e.fr b o n q), fun b o q => let ⟨u, q'⟩ := e.tr b o q; f.tr b u q'⟩
  obtain ⟨l, rfl, hl⟩ := e.pre
  obtain ⟨k, rfl, hk⟩ := f.pre
  refine ⟨l ++ k, by simp, fun c hc => ?_⟩
  rcases List.mem_append.mp hc with h | h
  · exact hl c h
  · cases q : H c with
    | none => rfl
    | some u =>
      obtain ⟨w, q'⟩ := e.tr c u q
      rw [hk c h] at q'; cases q'
theorem Ext.get {k : Nat} (e : Ext A H A' H') (h : A[k]? = some a) : A'[k]? = some a := by
  obtain ⟨l, rfl, hl⟩ := e.pre
  rw [List.getElem?_append_left (List.getElem?_eq_some_iff.mp h).1]; exact h
theorem Nd.ext (n : Nd A B a) (e : Ext A H A' H') (q : H a = some o) : Nd A' B a := ⟨e.out n.1 q, n.2⟩
theorem Ext.rd {u : HO} (e : Ext A H A' H') (n : a ∉ A) (q : Rd H a u) : Rd H' a u := by
  rcases q with q | ⟨o, q⟩
  · exact .inl (e.fr _ _ n q)
  · exact .inr ⟨o, e.fr _ _ n q⟩
theorem Nd.extR {u : HO} (n : Nd A B a) (e : Ext A H A' H') (q : Rd H a u) : Nd A' B a := by
  rcases q with q | ⟨o, q⟩
  · exact n.ext e q
  · exact n.ext e q
mutual
theorem Tr.ext (e : Ext A H A' H') : ∀ {t : T} {v : V}, Tr W A B H t v → Tr W A' B H' t v
  | .non, _, h => by simpa only [Tr] using h
  | .bl _, _, h => by simpa only [Tr] using h
  | .int _, _, h => by simpa only [Tr] using h
  | .str _, _, h => by simpa only [Tr] using h
  | .ty _, _, h => by simpa only [Tr] using h
  | .lst ts, _, h => by
    simp only [Tr] at h ⊢
    obtain ⟨a, vs, rfl, n, q, r⟩ := h
    exact ⟨a, vs, rfl, n.ext e q, e.fr _ _ n.1 q, Trs.ext e r⟩
  | .tup ts, _, h => by
    simp only [Tr] at h ⊢
    obtain ⟨a, vs, rfl, n, q, r⟩ := h
    exact ⟨a, vs, rfl, n.ext e q, e.fr _ _ n.1 q, Trs.ext e r⟩
  | .ins c ts, _, h => by
    simp only [Tr] at h ⊢
    obtain ⟨a, dx, vs, rfl, n, q, l, r⟩ := h
    exact ⟨a, dx, vs, rfl, n.ext e q, e.fr _ _ n.1 q, l, Trs.ext e r⟩
  | .dic ks ts, _, h => by
    simp only [Tr] at h ⊢
    obtain ⟨a, vs, rfl, n, q, r⟩ := h
    refine ⟨a, vs, rfl, ?_, ?_, Trs.ext e r⟩
    · rcases q with ⟨kl, h1, h2, q⟩ | ⟨kl, h1, h2, q⟩ <;> exact n.ext e q
    · rcases q with ⟨kl, h1, h2, q⟩ | ⟨kl, h1, h2, q⟩
      · exact .inl ⟨kl, h1, h2, e.fr _ _ n.1 q⟩
      · exact .inr ⟨kl, h1, h2, e.fr _ _ n.1 q⟩
  | .cel k, _, h => by
    simp only [Tr] at h ⊢
    obtain ⟨a, q, rfl⟩ := h
    exact ⟨a, e.get q, rfl⟩
  | .exn _, _, h => by
    simp only [Tr] at h ⊢
    obtain ⟨a, rfl, n, q⟩ := h
    exact ⟨a, rfl, n.ext e q, e.fr _ _ n.1 q⟩
  | .scr ts, _, h => by
    simp only [Tr] at h ⊢
    obtain ⟨a, vs, rfl, q, r⟩ := h
    refine ⟨a, vs, rfl, ?_, Trs.ext e r⟩
    rcases q with ⟨n, q⟩ | q
    · exact .inl ⟨n.extR e q, e.rd n.1 q⟩
    · exact .inr q
theorem Trs.ext (e : Ext A H A' H') : ∀ {ts : List T} {vs : List V}, Trs W A B H ts vs → Trs W A' B H' ts vs
  | [], _, h => by simpa only [Trs] using h
  | t :: ts, _, h => by
    simp only [Trs] at h ⊢
    obtain ⟨v, r, rfl, h1, h2⟩ := h
    exact ⟨v, r, rfl, Tr.ext e h1, Trs.ext e h2⟩
end
mutual
theorem Tr.conv (f : ∀ x o, H x = some o → Nd A B x → Nd A' B' x) (g : ∀ (k : Nat) a, A[k]? = some a → A'[k]? = some a) : ∀ {t : T} {v : V}, Tr W A B H t v → Tr W A' B' H t v
  | .non, _, h => by simpa only [Tr] using h
  | .bl _, _, h => by simpa only [Tr] using h
  | .int _, _, h => by simpa only [Tr] using h
  | .str _, _, h => by simpa only [Tr] using h
  | .ty _, _, h => by simpa only [Tr] using h
  | .lst ts, _, h => by
    simp only [Tr] at h ⊢
    obtain ⟨a, vs, rfl, n, q, r⟩ := h
    exact ⟨a, vs, rfl, f _ _ q n, q, Trs.conv f g r⟩
  | .tup ts, _, h => by
    simp only [Tr] at h ⊢
    obtain ⟨a, vs, rfl, n, q, r⟩ := h
    exact ⟨a, vs, rfl, f _ _ q n, q, Trs.conv f g r⟩
  | .ins c ts, _, h => by
    simp only [Tr] at h ⊢
    obtain ⟨a, dx, vs, rfl, n, q, l, r⟩ := h
    exact ⟨a, dx, vs, rfl, f _ _ q n, q, l, Trs.conv f g r⟩
  | .dic ks ts, _, h => by
    simp only [Tr] at h ⊢
    obtain ⟨a, vs, rfl, n, q, r⟩ := h
    refine ⟨a, vs, rfl, ?_, q, Trs.conv f g r⟩
    rcases q with ⟨kl, h1, h2, q⟩ | ⟨kl, h1, h2, q⟩ <;> exact f _ _ q n
  | .cel k, _, h => by
    simp only [Tr] at h ⊢
    obtain ⟨a, q, rfl⟩ := h
    exact ⟨a, g _ _ q, rfl⟩
  | .exn _, _, h => by
    simp only [Tr] at h ⊢
    obtain ⟨a, rfl, n, q⟩ := h
    exact ⟨a, rfl, f _ _ q n, q⟩
  | .scr ts, _, h => by
    simp only [Tr] at h ⊢
    obtain ⟨a, vs, rfl, q, r⟩ := h
    refine ⟨a, vs, rfl, ?_, Trs.conv f g r⟩
    rcases q with ⟨n, q⟩ | q
    · refine .inl ⟨?_, q⟩
      rcases q with q | ⟨o, q⟩ <;> exact f _ _ q n
    · exact .inr q
theorem Trs.conv (f : ∀ x o, H x = some o → Nd A B x → Nd A' B' x) (g : ∀ (k : Nat) a, A[k]? = some a → A'[k]? = some a) : ∀ {ts : List T} {vs : List V}, Trs W A B H ts vs → Trs W A' B' H ts vs
  | [], _, h => by simpa only [Trs] using h
  | t :: ts, _, h => by
    simp only [Trs] at h ⊢
    obtain ⟨v, r, rfl, h1, h2⟩ := h
    exact ⟨v, r, rfl, Tr.conv f g h1, Trs.conv f g h2⟩
end
mutual
theorem Tr.butB {D : Addr} (s : SameBut D H H') (hD : D ∈ B) : ∀ {t : T} {v : V}, Tr W A B H t v → Tr W A B H' t v
  | .non, _, h => by simpa only [Tr] using h
  | .bl _, _, h => by simpa only [Tr] using h
  | .int _, _, h => by simpa only [Tr] using h
  | .str _, _, h => by simpa only [Tr] using h
  | .ty _, _, h => by simpa only [Tr] using h
  | .lst ts, _, h => by
    simp only [Tr] at h ⊢
    obtain ⟨a, vs, rfl, n, q, r⟩ := h
    exact ⟨a, vs, rfl, n, s _ _ (fun z => n.2 (z ▸ hD)) q, Trs.butB s hD r⟩
  | .tup ts, _, h => by
    simp only [Tr] at h ⊢
    obtain ⟨a, vs, rfl, n, q, r⟩ := h
    exact ⟨a, vs, rfl, n, s _ _ (fun z => n.2 (z ▸ hD)) q, Trs.butB s hD r⟩
  | .ins c ts, _, h => by
    simp only [Tr] at h ⊢
    obtain ⟨a, dx, vs, rfl, n, q, l, r⟩ := h
    exact ⟨a, dx, vs, rfl, n, s _ _ (fun z => n.2 (z ▸ hD)) q, l, Trs.butB s hD r⟩
  | .dic ks ts, _, h => by
    simp only [Tr] at h ⊢
    obtain ⟨a, vs, rfl, n, q, r⟩ := h
    have hne : a ≠ D := fun z => n.2 (z ▸ hD)
    refine ⟨a, vs, rfl, n, ?_, Trs.butB s hD r⟩
    rcases q with ⟨kl, h1, h2, q⟩ | ⟨kl, h1, h2, q⟩
    · exact .inl ⟨kl, h1, h2, s _ _ hne q⟩
    · exact .inr ⟨kl, h1, h2, s _ _ hne q⟩
  | .cel k, _, h => by simpa only [Tr] using h
  | .exn _, _, h => by
    simp only [Tr] at h ⊢
    obtain ⟨a, rfl, n, q⟩ := h
    exact ⟨a, rfl, n, s _ _ (fun z => n.2 (z ▸ hD)) q⟩
  | .scr ts, _, h => by
    simp only [Tr] at h ⊢
    obtain ⟨a, vs, rfl, q, r⟩ := h
    refine ⟨a, vs, rfl, ?_, Trs.butB s hD r⟩
    rcases q with ⟨n, q⟩ | q
    · have hne : a ≠ D := fun z => n.2 (z ▸ hD)
      refine .inl ⟨n, ?_⟩
      rcases q with q | ⟨o, q⟩
      · exact .inl (s _ _ hne q)
      · exact .inr ⟨o, s _ _ hne q⟩
    · exact .inr q
theorem Trs.butB {D : Addr} (s : SameBut D H H') (hD : D ∈ B) : ∀ {ts : List T} {vs : List V}, Trs W A B H ts vs → Trs W A B H' ts vs
  | [], _, h => by simpa only [Trs] using h
  | t :: ts, _, h => by
    simp only [Trs] at h ⊢
    obtain ⟨v, r, rfl, h1, h2⟩ := h
    exact ⟨v, r, rfl, Tr.butB s hD h1, Trs.butB s hD h2⟩
end
theorem Trs.nil : Trs W A B H [] [] := by simp only [Trs]
theorem Trs.cons (h : Tr W A B H t v) (r : Trs W A B H ts vs) : Trs W A B H (t :: ts) (v :: vs) := by simp only [Trs]; exact ⟨v, vs, rfl, h, r⟩
theorem Trs.length : ∀ {ts : List T} {vs : List V}, Trs W A B H ts vs → ts.length = vs.length
  | [], _, h => by simp only [Trs] at h; rw [h]; rfl
  | t :: ts, _, h => by
    simp only [Trs] at h
    obtain ⟨v, r, rfl, h1, h2⟩ := h
    rw [List.length_cons, List.length_cons, Trs.length h2]
theorem Trs.append : ∀ {ts us : List T} {vs ws : List V}, Trs W A B H ts vs → Trs W A B H us ws → Trs W A B H (ts ++ us) (vs ++ ws)
  | [], _, _, _, h, k => by simp only [Trs] at h; rw [h]; exact k
  | t :: ts, _, _, _, h, k => by
    simp only [Trs] at h
    obtain ⟨v, r, rfl, h1, h2⟩ := h
    exact Trs.cons h1 (Trs.append h2 k)
theorem Trs.get : ∀ {ts : List T} {vs : List V} {i : Nat} {t : T}, Trs W A B H ts vs → ts[i]? = some t → ∃ v, vs[i]? = some v ∧ Tr W A B H t v
  | [], _, _, _, _, e => by simp at e
  | t :: ts, _, 0, _, h, e => by
    simp only [Trs] at h
    obtain ⟨v, r, rfl, h1, h2⟩ := h
    simp at e; subst e
    exact ⟨v, rfl, h1⟩
  | t :: ts, _, i + 1, u, h, e => by
    simp only [Trs] at h
    obtain ⟨v, r, rfl, h1, h2⟩ := h
    obtain ⟨x, q, y⟩ := Trs.get (i := i) (t := u) h2 (by simpa using e)
    exact ⟨x, by simpa using q, y⟩
theorem Trs.getV {i : Nat} (h : Trs W A B H ts vs) (e : vs[i]? = some v) : ∃ t, ts[i]? = some t ∧ Tr W A B H t v := by
  have hl := h.length
  have hi := (List.getElem?_eq_some_iff.mp e).1
  obtain ⟨w, q, r⟩ := h.get (i := i) (t := ts[i]) (List.getElem?_eq_getElem (by (first|lia|omega)))
  rw [e] at q; cases q
  exact ⟨_, List.getElem?_eq_getElem (by (first|lia|omega)), r⟩
theorem Trs.take : ∀ (n : Nat) {ts : List T} {vs : List V}, Trs W A B H ts vs → Trs W A B H (ts.take n) (vs.take n)
  | 0, _, _, _ => by simpa using Trs.nil
  | n + 1, [], _, h => by simp only [Trs] at h; rw [h]; simpa using Trs.nil
  | n + 1, t :: ts, _, h => by
    simp only [Trs] at h
    obtain ⟨v, r, rfl, h1, h2⟩ := h
    exact Trs.cons h1 (Trs.take n h2)
theorem Trs.drop : ∀ (n : Nat) {ts : List T} {vs : List V}, Trs W A B H ts vs → Trs W A B H (ts.drop n) (vs.drop n)
  | 0, _, _, h => h
  | n + 1, [], _, h => by simp only [Trs] at h; rw [h]; simpa using Trs.nil
  | n + 1, t :: ts, _, h => by
    simp only [Trs] at h
    obtain ⟨v, r, rfl, h1, h2⟩ := h
    exact Trs.drop n h2
theorem Trs.set {i : Nat} (ht : Tr W A B H t v) : ∀ {i : Nat} {ts : List T} {vs : List V}, Trs W A B H ts vs → Trs W A B H (ts.set i t) (vs.set i v)
  | _, [], _, h => by simp only [Trs] at h; rw [h]; simpa using Trs.nil
  | 0, x :: ts, _, h => by
    simp only [Trs] at h
    obtain ⟨v, r, rfl, h1, h2⟩ := h
    exact Trs.cons ht h2
  | i + 1, x :: ts, _, h => by
    simp only [Trs] at h
    obtain ⟨v, r, rfl, h1, h2⟩ := h
    exact Trs.cons h1 (Trs.set (i := i) ht h2)
theorem Trs.rep (h : Trs W A B H ts vs) : ∀ k : Nat, Trs W A B H (List.replicate k ts).flatten (List.replicate k vs).flatten
  | 0 => by simpa using Trs.nil
  | k + 1 => by
    rw [List.replicate_succ, List.replicate_succ, List.flatten_cons, List.flatten_cons]
    exact h.append (Trs.rep h k)
theorem Trs.ints : ∀ {ts : List T} {vs : List V} {ns : List Int}, Trs W A B H ts vs → intsOf ts = some ns → vs = ns.map V.int
  | [], _, _, h, e => by simp only [Trs] at h; simp [intsOf] at e; rw [h, e]; rfl
  | t :: ts, _, ns, h, e => by
    simp only [Trs] at h
    obtain ⟨v, r, rfl, h1, h2⟩ := h
    cases t with
    | int i =>
      simp only [intsOf, Option.map_eq_some_iff] at e
      obtain ⟨ms, e1, rfl⟩ := e
      simp only [Tr] at h1
      rw [h1, Trs.ints h2 e1]; rfl
    | _ => simp [intsOf] at e
theorem Trs.of_ints : ∀ (ns : List Int), Trs W A B H (ns.map T.int) (ns.map V.int)
  | [] => Trs.nil
  | n :: ns => Trs.cons (by simp only [Tr]) (Trs.of_ints ns)
noncomputable def Cell (W : Wd) (A B : List Addr) (H : Hp) (a : Addr) : MO → Prop
  | .lst ts => ∃ vs, H a = some (.lst vs) ∧ Trs W A B H ts vs
  | .ins c ts => ∃ dx vs, H a = some (.ins (W.cl c) dx ((W.nm c).zip vs)) ∧ ts.length ≤ (W.nm c).length ∧ Trs W A B H ts vs
  | .dic ks ts => ∃ vs, ((∃ kl, pkeys ks = some kl ∧ kl.length = ts.length ∧ H a = some (.dK (kl.zip vs))) ∨ (∃ kl, tkeys ks = some kl ∧ kl.length = ts.length ∧ H a = some (.dT (kl.zip vs)))) ∧ Trs W A B H ts vs
structure Rl (W : Wd) (A B : List Addr) (ms : List MO) (H : Hp) : Prop where
  nd : A.Nodup
  dj : ∀ a ∈ A, a ∉ B
  bt : ∀ b ∈ B, ∃ o, H b = some o
  len : ms.length = A.length
  ce : ∀ (k : Nat) (m : MO) (a : Addr), ms[k]? = some m → A[k]? = some a → Cell W A B H a m
theorem Cell.there {m : MO} (c : Cell W A B H a m) : ∃ o, H a = some o := by
  cases m with
  | lst ts => obtain ⟨vs, q, _⟩ := c; exact ⟨_, q⟩
  | ins c ts => obtain ⟨dx, vs, q, _⟩ := c; exact ⟨_, q⟩
  | dic ks ts => obtain ⟨vs, q | q, _⟩ := c <;> (obtain ⟨_, _, _, q⟩ := q; exact ⟨_, q⟩)
theorem Cell.ext {m : MO} (c : Cell W A B H a m) (e : Ext A H A' H') (h : H' a = H a) : Cell W A' B H' a m := by
  cases m with
  | lst ts => obtain ⟨vs, q, r⟩ := c; exact ⟨vs, by rw [h]; exact q, r.ext e⟩
  | ins c ts => obtain ⟨dx, vs, q, l, r⟩ := c; exact ⟨dx, vs, by rw [h]; exact q, l, r.ext e⟩
  | dic ks ts => obtain ⟨vs, q, r⟩ := c; exact ⟨vs, by rw [h]; exact q, r.ext e⟩
theorem Rl.there {ms : List MO} (h : Rl W A B ms H) (ha : a ∈ A) : ∃ o, H a = some o := by
  obtain ⟨k, hk, e⟩ := List.getElem_of_mem ha
  have hk' : k < ms.length := by rw [h.len]; exact hk
  exact (h.ce k ms[k] a (List.getElem?_eq_getElem hk') (by rw [List.getElem?_eq_getElem hk, e])).there
theorem Rl.same {ms : List MO} (h : Rl W A B ms H) (s : Same H H') : Rl W A B ms H' := by
  refine ⟨h.nd, h.dj, fun b hb => let ⟨o, q⟩ := h.bt b hb; ⟨o, s b o q⟩, h.len, fun k m a hm ha => ?_⟩
  have c := h.ce k m a hm ha
  obtain ⟨o, q⟩ := c.there
  exact c.ext (Ext.same s) (by rw [s a o q, q])
theorem Rl.tree {ms : List MO} {p : Addr} (h : Rl W A B ms H) (hp : H p = none) : Nd A B p :=
  ⟨fun z => (by obtain ⟨o, q⟩ := h.there z; rw [hp] at q; cases q), fun z => (by obtain ⟨o, q⟩ := h.bt p z; rw [hp] at q; cases q)⟩
theorem Rl.cell {ms : List MO} {p : Addr} {m : MO} (h : Rl W A B ms H) (hp : H p = none) (s : Same H H') (c : Cell W (A ++ [p]) B H' p m) : Ext A H (A ++ [p]) H' ∧ Rl W (A ++ [p]) B (ms ++ [m]) H' := by
  have e : Ext A H (A ++ [p]) H' := ⟨⟨[p], rfl, fun c hc => by rw [List.mem_singleton.mp hc]; exact hp⟩, fun b o _ q => s b o q, fun b o q => ⟨o, s b o q⟩⟩
  have n := h.tree hp
  refine ⟨e, ⟨?_, ?_, fun b hb => let ⟨o, q⟩ := h.bt b hb; ⟨o, s b o q⟩, by simp [h.len], ?_⟩⟩
  · rw [List.nodup_append]
    refine ⟨h.nd, by simp, fun a ha b hb => ?_⟩
    rw [List.mem_singleton.mp hb]
    rintro rfl
    exact n.1 ha
  · intro a ha
    rcases List.mem_append.mp ha with z | z
    · exact h.dj a z
    · rw [List.mem_singleton.mp z]; exact n.2
  · intro k m' a hm ha
    by_cases hk : k < A.length
    · rw [List.getElem?_append_left hk] at ha
      rw [List.getElem?_append_left (by rw [h.len]; exact hk)] at hm
      have c' := h.ce k m' a hm ha
      obtain ⟨o, q⟩ := c'.there
      exact c'.ext e (by rw [s a o q, q])
    · have e1 : k = A.length := by
        have := (List.getElem?_eq_some_iff.mp ha).1
        simp at this; (first|lia|omega)
      subst e1
      rw [List.getElem?_append_right (Nat.le_refl _)] at ha
      rw [List.getElem?_append_right (by rw [h.len]; exact Nat.le_refl _)] at hm
      simp [h.len] at ha hm
      subst ha hm
      exact c
theorem Rl.put {ms : List MO} {k : Nat} {m : MO} (h : Rl W A B ms H) (hk : A[k]? = some a) (s : SameBut a H H') (c : Cell W A B H' a m) : Ext A H A H' ∧ Rl W A B (ms.set k m) H' := by
  have ha : a ∈ A := List.mem_of_getElem? hk
  have e : Ext A H A H' := ⟨⟨[], by simp, fun c h => by cases h⟩, fun b o n q => s b o (fun z => n (z ▸ ha)) q, fun b o q => by
    by_cases z : b = a
    · subst z; exact c.there
    · exact ⟨o, s b o z q⟩⟩
  refine ⟨e, ⟨h.nd, h.dj, fun b hb => let ⟨o, q⟩ := h.bt b hb; ⟨o, s b o (fun z => h.dj a ha (z ▸ hb)) q⟩, by simp [h.len], ?_⟩⟩
  intro j m' a' hm ha'
  by_cases hj : j = k
  · subst hj
    rw [hk] at ha'; cases ha'
    have hlt : j < ms.length := by rw [h.len]; exact (List.getElem?_eq_some_iff.mp hk).1
    rw [List.getElem?_set_self hlt] at hm
    cases hm
    exact c
  · rw [List.getElem?_set_ne (fun z => hj z.symm)] at hm
    have c' := h.ce j m' a' hm ha'
    obtain ⟨o, q⟩ := c'.there
    have hne : a' ≠ a := fun z => by
      subst z
      have h1 := List.getElem?_eq_some_iff.mp ha'
      have h2 := List.getElem?_eq_some_iff.mp hk
      exact hj ((List.getElem_inj h.nd).mp (h1.2.trans h2.2.symm))
    exact c'.ext e (by rw [s a' o hne q, q])
theorem Cell.conv {m : MO} (c : Cell W A B H a m) (f : ∀ x o, H x = some o → Nd A B x → Nd A' B' x) (g : ∀ (k : Nat) a, A[k]? = some a → A'[k]? = some a) : Cell W A' B' H a m := by
  cases m with
  | lst ts => obtain ⟨vs, q, r⟩ := c; exact ⟨vs, q, r.conv f g⟩
  | ins c ts => obtain ⟨dx, vs, q, l, r⟩ := c; exact ⟨dx, vs, q, l, r.conv f g⟩
  | dic ks ts => obtain ⟨vs, q, r⟩ := c; exact ⟨vs, q, r.conv f g⟩
theorem Cell.butB {m : MO} {D : Addr} (c : Cell W A B H a m) (s : SameBut D H H') (hD : D ∈ B) (hne : a ≠ D) : Cell W A B H' a m := by
  cases m with
  | lst ts => obtain ⟨vs, q, r⟩ := c; exact ⟨vs, s _ _ hne q, r.butB s hD⟩
  | ins c ts => obtain ⟨dx, vs, q, l, r⟩ := c; exact ⟨dx, vs, s _ _ hne q, l, r.butB s hD⟩
  | dic ks ts =>
    obtain ⟨vs, q, r⟩ := c
    refine ⟨vs, ?_, r.butB s hD⟩
    rcases q with ⟨kl, h1, h2, q⟩ | ⟨kl, h1, h2, q⟩
    · exact .inl ⟨kl, h1, h2, s _ _ hne q⟩
    · exact .inr ⟨kl, h1, h2, s _ _ hne q⟩
theorem Rl.butB {ms : List MO} {D : Addr} (h : Rl W A B ms H) (s : SameBut D H H') (hD : D ∈ B) (ht : ∃ o, H' D = some o) : Rl W A B ms H' :=
  ⟨h.nd, h.dj, fun b hb => by
    by_cases z : b = D
    · subst z; exact ht
    · obtain ⟨o, q⟩ := h.bt b hb; exact ⟨o, s _ _ z q⟩, h.len, fun k m a hm ha => (h.ce k m a hm ha).butB s hD fun z => h.dj a (List.mem_of_getElem? ha) (z ▸ hD)⟩
theorem Rl.addB {ms : List MO} {D : Addr} (h : Rl W A B ms H) (hD : H D = none) (s : Same H H') (ht : ∃ o, H' D = some o) : Rl W A (D :: B) ms H' := by
  have h' := h.same s
  refine ⟨h.nd, fun a ha z => ?_, fun b hb => ?_, h.len, fun k m a hm ha => ?_⟩
  · rcases List.mem_cons.mp z with e | e
    · obtain ⟨o, q⟩ := h.there ha; rw [e, hD] at q; cases q
    · exact h.dj a ha e
  · rcases List.mem_cons.mp hb with e | e
    · rw [e]; exact ht
    · exact h'.bt b e
  · have c := (h.ce k m a hm ha).conv (A' := A) (B' := D :: B) (fun x o q n => ⟨n.1, fun z => by
      rcases List.mem_cons.mp z with e | e
      · rw [e, hD] at q; cases q
      · exact n.2 e⟩) (fun k a q => q)
    obtain ⟨o, q⟩ := c.there
    exact c.ext (Ext.same s) (by rw [s _ _ q, q])
theorem Rl.unB {ms : List MO} {D : Addr} (h : Rl W A (D :: B) ms H) : Rl W A B ms H :=
  ⟨h.nd, fun a ha z => h.dj a ha (List.mem_cons_of_mem _ z), fun b hb => h.bt b (List.mem_cons_of_mem _ hb), h.len, fun k m a hm ha => (h.ce k m a hm ha).conv (fun x o q n => ⟨n.1, fun z => n.2 (List.mem_cons_of_mem _ z)⟩) fun k a q => q⟩
theorem Rl.toCell {ms : List MO} {D : Addr} {m : MO} (h : Rl W A (D :: B) ms H) (hB : D ∉ B) (c : Cell W (A ++ [D]) B H D m) : Rl W (A ++ [D]) B (ms ++ [m]) H := by
  have hA : D ∉ A := fun z => h.dj D z (List.mem_cons_self ..)
  refine ⟨?_, ?_, fun b hb => h.bt b (List.mem_cons_of_mem _ hb), by simp [h.len], ?_⟩
  · rw [List.nodup_append]
    refine ⟨h.nd, by simp, fun a ha b hb => ?_⟩
    rw [List.mem_singleton.mp hb]
    rintro rfl
    exact hA ha
  · intro a ha
    rcases List.mem_append.mp ha with z | z
    · exact fun y => h.dj a z (List.mem_cons_of_mem _ y)
    · rw [List.mem_singleton.mp z]; exact hB
  · intro k m' a hm ha
    by_cases hk : k < A.length
    · rw [List.getElem?_append_left hk] at ha
      rw [List.getElem?_append_left (by rw [h.len]; exact hk)] at hm
      exact (h.ce k m' a hm ha).conv (fun x o q n => ⟨fun z => by
        rcases List.mem_append.mp z with z | z
        · exact n.1 z
        · rw [List.mem_singleton.mp z] at n; exact n.2 (List.mem_cons_self ..), fun z => n.2 (List.mem_cons_of_mem _ z)⟩) fun k a q => by
          rw [List.getElem?_append_left (List.getElem?_eq_some_iff.mp q).1]; exact q
    · have e1 : k = A.length := by
        have := (List.getElem?_eq_some_iff.mp ha).1
        simp at this; (first|lia|omega)
      subst e1
      rw [List.getElem?_append_right (Nat.le_refl _)] at ha
      rw [List.getElem?_append_right (by rw [h.len]; exact Nat.le_refl _)] at hm
      simp [h.len] at ha hm
      subst ha hm
      exact c
noncomputable def Lc (W : Wd) (A B : List Addr) (H : Hp) (loc : List (Option T)) (σ : St) : Prop := loc.length = σ.length ∧ ∀ (i : Nat) (t : T), loc[i]? = some (some t) → ∃ v, σ[i]? = some (some v) ∧ Tr W A B H t v
theorem Lc.ext {loc : List (Option T)} {σ : St} (h : Lc W A B H loc σ) (e : Ext A H A' H') : Lc W A' B H' loc σ := ⟨h.1, fun i t q => let ⟨v, a, b⟩ := h.2 i t q; ⟨v, a, b.ext e⟩⟩
theorem Lc.conv {loc : List (Option T)} {σ : St} (h : Lc W A B H loc σ) (f : ∀ x o, H x = some o → Nd A B x → Nd A' B' x) (g : ∀ (k : Nat) a, A[k]? = some a → A'[k]? = some a) : Lc W A' B' H loc σ := ⟨h.1, fun i t q => let ⟨v, a, b⟩ := h.2 i t q; ⟨v, a, b.conv f g⟩⟩
theorem Lc.butB {D : Addr} {loc : List (Option T)} {σ : St} (h : Lc W A B H loc σ) (s : SameBut D H H') (hD : D ∈ B) : Lc W A B H' loc σ := ⟨h.1, fun i t q => let ⟨v, a, b⟩ := h.2 i t q; ⟨v, a, b.butB s hD⟩⟩
theorem addB_f {D : Addr} (hD : H D = none) : ∀ x o, H x = some o → Nd A B x → Nd A (D :: B) x := fun x o q n => ⟨n.1, fun z => by
  rcases List.mem_cons.mp z with e | e
  · rw [e, hD] at q; cases q
  · exact n.2 e⟩
theorem Ext.butN {D : Addr} (e : Ext A H A' H') (hD : H D = none) (s : SameBut D H' H'') : Ext A H A' H'' :=
  ⟨e.pre, fun b o n q => s b o (fun z => by rw [z, hD] at q; cases q) (e.fr b o n q), fun b o q => by
    obtain ⟨u, q'⟩ := e.tr b o q
    exact ⟨u, s b u (fun z => by rw [z, hD] at q; cases q) q'⟩⟩
theorem Lc.set {loc : List (Option T)} {σ : St} (h : Lc W A B H loc σ) (r : Tr W A B H t v) (i : Nat) : Lc W A B H (loc.set i (some t)) (σ.set i (some v)) := by
  refine ⟨by simp [h.1], fun j u q => ?_⟩
  by_cases hj : i = j
  · subst hj
    have hlt : i < loc.length := by simpa using (List.getElem?_eq_some_iff.mp q).1
    rw [List.getElem?_set_self hlt] at q
    cases q
    exact ⟨v, List.getElem?_set_self (by rw [← h.1]; exact hlt), r⟩
  · rw [List.getElem?_set_ne hj] at q
    obtain ⟨x, a, b⟩ := h.2 j u q
    exact ⟨x, by rw [List.getElem?_set_ne hj]; exact a, b⟩
theorem Lc.kill {loc : List (Option T)} {σ : St} {ms : List MO} (h : Lc W A B H loc σ) (ks : List Nat) : Lc W A B H (kill ks ⟨loc, ms⟩).loc σ := by
  show Lc W A B H (ks.foldl (fun l k => l.set k none) loc) σ
  induction ks generalizing loc with
  | nil => exact h
  | cons k ks ih =>
    refine ih ⟨by simp [h.1], fun j u q => ?_⟩
    by_cases hj : k = j
    · subst hj
      have hlt : k < loc.length := by simpa using (List.getElem?_eq_some_iff.mp q).1
      rw [List.getElem?_set_self hlt] at q
      cases q
    · rw [List.getElem?_set_ne hj] at q
      exact h.2 j u q
end
end Dn
namespace Dn
open PySem L2
noncomputable abbrev ZT := Nat → St → Hp → Prop
noncomputable def wpR {α : Type} (W : Wd) (Z : ZT) (σ : St) (A B : List Addr) (H : Hp) (r : R α) (Q : α → List MO → List Addr → Hp → Prop) : Prop := match r with
  | .ok a m => ∀ A' H', Ext A H A' H' → Rl W A' B m H' → Q a m A' H'
  | .exc c m => ∀ A' H', Ext A H A' H' → Rl W A' B m H' → Z c σ H'
  | .bad => False
section
variable {α β : Type} {W : Wd} {Z : ZT} {σ : St} {A A' B : List Addr} {H H' : Hp} {r : R α} {Q Q' : α → List MO → List Addr → Hp → Prop} {m : List MO}
theorem wpR.ext (e : Ext A H A' H') (h : wpR W Z σ A B H r Q) : wpR W Z σ A' B H' r Q := by
  cases r with
  | ok a m => exact fun A2 H2 f => h A2 H2 (e.trans f)
  | exc c m => exact fun A2 H2 f => h A2 H2 (e.trans f)
  | bad => exact h
theorem wpR.imp (h : wpR W Z σ A B H r Q) (f : ∀ a m A' H', r = .ok a m → Ext A H A' H' → Rl W A' B m H' → Q a m A' H' → Q' a m A' H') : wpR W Z σ A B H r Q' := by
  cases r with
  | ok a m => exact fun A2 H2 e l => f a m A2 H2 rfl e l (h A2 H2 e l)
  | exc c m => exact h
  | bad => exact h
theorem wpR.bind {f : α → List MO → R β} {Q : β → List MO → List Addr → Hp → Prop} (h : wpR W Z σ A B H (r.bind f) Q) : wpR W Z σ A B H r fun a m A' H' => wpR W Z σ A' B H' (f a m) Q := by
  cases r with
  | ok a m => exact fun A2 H2 e l => wpR.ext e (show wpR W Z σ A B H (f a m) Q from h)
  | exc c m => exact h
  | bad => exact h
theorem wpR.now {a : α} (h : wpR W Z σ A B H (.ok a m) Q) (l : Rl W A B m H) : Q a m A H := h A H Ext.refl l
end
noncomputable abbrev VQ (W : Wd) (B : List Addr) (Q : VK) : T → List MO → List Addr → Hp → Prop := fun t _ A' H' => ∀ v, Tr W A' B H' t v → Q v H'
noncomputable def tD (W : Wd) (Z : ZT) (d : DE) : TE := fun σ H Q => ∃ A B ρ, Rl W A B ρ.ms H ∧ Lc W A B H ρ.loc σ ∧ wpR W Z σ A B H (d ρ) (VQ W B Q)
noncomputable def tDT (W : Wd) (Z : ZT) (d : DT) : TT := fun σ H Q => ∃ A B ρ, Rl W A B ρ.ms H ∧ Lc W A B H ρ.loc σ ∧ wpR W Z σ A B H (d ρ) fun b _ _ H' => Q b H'
noncomputable def tDA (W : Wd) (Z : ZT) (d : DA) : TA := fun σ H Q => ∃ A B ρ, Rl W A B ρ.ms H ∧ Lc W A B H ρ.loc σ ∧ wpR W Z σ A B H (d ρ) fun ts _ A' H' => ∀ vs, Trs W A' B H' ts vs → Q vs H'
noncomputable def tDO (W : Wd) (Z : ZT) (d : DO) : TO := fun σ H Q => ∃ A B ρ, Rl W A B ρ.ms H ∧ Lc W A B H ρ.loc σ ∧ wpR W Z σ A B H (d ρ) fun o _ _ H' => Q o H'
noncomputable def Walk (W : Wd) (B : List Addr) (s : Src) (J : It) (A1 : List Addr) (H1 : Hp) : Prop := ∀ A H ms B', (∀ b ∈ B', b ∈ B ∨ H1 b = none) → Ext A1 H1 A H → Rl W A B' ms H → s.fits ms = true →
  J.stop s.ts.length H ∧ ∀ (i : Nat) (t : T), s.ts[i]? = some t → J.go i H ∧ ∀ x H', J.yld i H x H' → Same H H' ∧ Tr W A B' H' t x
noncomputable def tDI (W : Wd) (Z : ZT) (d : DI) : TI := fun σ H Q => ∃ A B ρ, Rl W A B ρ.ms H ∧ Lc W A B H ρ.loc σ ∧ wpR W Z σ A B H (d ρ) fun s _ A' H' => ∀ J, Walk W B s J A' H' → Q J H'
theorem _root_.L2.PE.weak {X : Cx} {e : Expr} {t t' : TE} (h : PE X e t) (w : ∀ σ H Q, t' σ H Q → t σ H Q) : PE X e t' := fun pins s σ H Q I q => h pins s σ H Q I (w σ H Q q)
theorem _root_.L2.PT.weak {X : Cx} {e : Expr} {t t' : TT} (h : PT X e t) (w : ∀ σ H Q, t' σ H Q → t σ H Q) : PT X e t' := fun pins s σ H Q I q => h pins s σ H Q I (w σ H Q q)
theorem _root_.L2.PW.weak {X : Cx} {e : Expr} {t t' : TT} (h : PW X e t) (w : ∀ σ H Q, t' σ H Q → t σ H Q) : PW X e t' := fun wh pins s σ H Q I q => h wh pins s σ H Q I (w σ H Q q)
theorem _root_.L2.PA.weak {X : Cx} {e : List Expr} {t t' : TA} (h : PA X e t) (w : ∀ σ H Q, t' σ H Q → t σ H Q) : PA X e t' := fun pos pins s σ H Q I q => h pos pins s σ H Q I (w σ H Q q)
theorem _root_.L2.PO.weak {X : Cx} {e : Option Expr} {t t' : TO} (h : PO X e t) (w : ∀ σ H Q, t' σ H Q → t σ H Q) : PO X e t' := by
  intro a b c d e f g
  exact h a b c d e f (w _ _ _ g)
theorem _root_.L2.PI.weak {X : Cx} {tg e : Expr} {t t' : TI} (h : PI X tg e t) (w : ∀ σ H Q, t' σ H Q → t σ H Q) : PI X tg e t' := by
  intro a b c d e f g
  exact h a b c d e f (w _ _ _ g)
theorem _root_.L2.PS.weak {X : Cx} {e : Stmt} {t t' : TS} (h : PS X e t) (w : ∀ D σ H, t' D σ H → t D σ H) : PS X e t' := fun pins s σ H D I q => h pins s σ H D I (w D σ H q)
theorem _root_.L2.PSs.weak {X : Cx} {e : List Stmt} {t t' : TS} (h : PSs X e t) (w : ∀ D σ H, t' D σ H → t D σ H) : PSs X e t' := fun pins s σ H D I q => h pins s σ H D I (w D σ H q)
theorem _root_.L2.PG.weak {X : Cx} {e : Expr} {t t' : TG} (h : PG X e t) (w : ∀ v σ H Q, t' v σ H Q → t v σ H Q) : PG X e t' := fun pins s σ H v u Q I r q => h pins s σ H v u Q I r (w v σ H Q q)
section
variable {X : Cx} {W : Wd} {Z : ZT} {a b c : Expr} {da db dc : DE} {pos : Pos}
theorem de_var {i : Nat} {x : Str} (h : PE X (.Name x pos) (tVar i)) : PE X (.Name x pos) (tD W Z (dVar i)) := h.weak fun σ H Q zq => L2.el6 zq fun A B ρ hr hl h => by
  unfold dVar at h
  split at h
  · rename_i t e
    obtain ⟨v, ev, tv⟩ := hl.2 i t e
    exact ⟨v, ev, h.now hr v tv⟩
  · exact h.elim
theorem de_C {e : Expr} {t : T} {v : V} (h : PE X e (tC v)) (hv : ∀ A B H, Tr W A B H t v) : PE X e (tD W Z (dC t)) := h.weak fun σ H Q zq => L2.el6 zq fun A B ρ hr hl h => h.now hr v (hv A B H)
theorem de_int {i : Int} {j} : PE X (.Constant (.int i) j pos) (tD W Z (dC (.int i))) := de_C pe_int fun _ _ _ => by simp only [Tr]
theorem de_bl {i : Bool} {j} : PE X (.Constant (.bool i) j pos) (tD W Z (dC (.bl i))) := de_C pe_bl fun _ _ _ => by simp only [Tr]
theorem de_non {j} : PE X (.Constant .none j pos) (tD W Z (dC .non)) := de_C pe_non fun _ _ _ => by simp only [Tr]
noncomputable def OpS (W : Wd) (f : List MO → T → T → R T) (r : R2) : Prop := ∀ (Z : ZT) (σ : St) (A B : List Addr) (H : Hp) (ms : List MO) (x y : T) (v u : V) (Q : VK), Rl W A B ms H → Tr W A B H x v → Tr W A B H y u → wpR W Z σ A B H (f ms x y) (VQ W B Q) → r v u H Q
theorem bin_ok {f : List MO → T → T → R T} {r : R2} (hs : OpS W f r) {σ : St} {H : Hp} {Q : VK} (h : tD W Z (dOp f da db) σ H Q) : tOp r (tD W Z da) (tD W Z db) σ H Q := by
  obtain ⟨A, B, ρ, hr, hl, h⟩ := h
  refine ⟨A, B, ρ, hr, hl, h.bind.imp fun x m A1 H1 _ e1 r1 h1 v tv => ⟨A1, B, ⟨ρ.loc, m⟩, r1, hl.ext e1, h1.bind.imp fun y m2 A2 H2 _ e2 r2 h2 u tu => ?_⟩⟩
  exact hs Z σ A2 B H2 m2 x y v u Q r2 (tv.ext e2) tu h2
theorem de_op {op : Operator} {f : List MO → T → T → R T} {r : R2} (ho : OpR X (binaryOp op) r) (hs : OpS W f r) (ha : PE X a (tD W Z da)) (hb : PE X b (tD W Z db)) : PE X (.BinOp a op b pos) (tD W Z (dOp f da db)) :=
  (pe_op ho ha hb).weak fun σ H Q h => bin_ok hs h
theorem de_cmp {op : CmpOp} {f : List MO → T → T → R T} {r : R2} (ho : OpR X (compareOp op) r) (hs : OpS W f r) (ha : PE X a (tD W Z da)) (hb : PE X b (tD W Z db)) (hm : behindInMarks op b = false) : PE X (.Compare a [op] [b] pos) (tD W Z (dOp f da db)) :=
  (pe_cmpR ho ha hb hm).weak fun σ H Q h => bin_ok hs h
theorem test_ok {d : DE} {σ : St} {H : Hp} {Q : Bool → Hp → Prop} (h : tDT W Z (dTest d) σ H Q) : tD W Z d σ H fun x H' => ∃ k, x = .bl k ∧ Q k H' := by
  obtain ⟨A, B, ρ, hr, hl, h⟩ := h
  refine ⟨A, B, ρ, hr, hl, h.bind.imp fun x m A1 H1 _ e1 r1 h1 v tv => ?_⟩
  cases x with
  | bl k =>
    simp only [Tr] at tv
    exact ⟨k, tv, h1.now r1⟩
  | _ => exact h1.elim
theorem dt_cmp {op : CmpOp} {f : List MO → T → T → R T} {r : R2} (ho : OpR X (compareOp op) r) (hs : OpS W f r) (ha : PE X a (tD W Z da)) (hb : PE X b (tD W Z db)) (hm : behindInMarks op b = false) : PT X (.Compare a [op] [b] pos) (tDT W Z (dTest (dOp f da db))) :=
  (pt_cmpR ho ha hb hm).weak fun σ H Q h => bin_ok hs (Q := fun x H' => ∃ k, x = .bl k ∧ Q k H') (test_ok h)
theorem dt_val (ha : PE X a (tD W Z da)) (he : ∀ whole, isTrue a X.env whole = (do let v ← whole; standAt a.pos; holding [v] (truthy v)) := by intro _; rfl) : PT X a (tDT W Z (dTest da)) :=
  (pt_val ha he).weak fun σ H Q h => test_ok h
theorem de_un {op : UnaryOp} {f : List MO → T → R T} {r : V → Hp → VK → Prop} (ho : UnR X (unaryOp op) r)
    (hs : ∀ (Z : ZT) (σ : St) (A B : List Addr) (H : Hp) (ms : List MO) (x : T) (v : V) (Q : VK), Rl W A B ms H → Tr W A B H x v → wpR W Z σ A B H (f ms x) (VQ W B Q) → r v H Q) (ha : PE X a (tD W Z da)) : PE X (.UnaryOp op a pos) (tD W Z (dUn f da)) :=
  (pe_un ho ha).weak fun σ H Q zq => L2.el6 zq fun A B ρ hr hl h => ⟨A, B, ρ, hr, hl, h.bind.imp fun x m A1 H1 _ e1 r1 h1 v tv => hs Z σ A1 B H1 m x v Q r1 tv h1⟩
variable {ta tb : DT} {rest : List Expr}
theorem dw_and1 (ha : PT X a (tDT W Z ta)) : PW X (.BoolOp .And [a] pos) (tDT W Z ta) := pw_and1 ha
theorem dw_or1 (ha : PT X a (tDT W Z ta)) : PW X (.BoolOp .Or [a] pos) (tDT W Z ta) := pw_or1 ha
theorem dw_and (ha : PT X a (tDT W Z ta)) (hb : PW X (.BoolOp .And (b :: rest) pos) (tDT W Z tb)) : PW X (.BoolOp .And (a :: b :: rest) pos) (tDT W Z (dAnd ta tb)) :=
  (pw_and ha hb).weak fun σ H Q zq => L2.el6 zq fun A B ρ hr hl h => ⟨A, B, ρ, hr, hl, h.bind.imp fun x m A1 H1 _ e1 r1 h1 => by
    cases x with
    | true => exact iteT ⟨A1, B, ⟨ρ.loc, m⟩, r1, hl.ext e1, h1⟩
    | false => exact iteF (h1.now r1)⟩
theorem dw_or (ha : PT X a (tDT W Z ta)) (hb : PW X (.BoolOp .Or (b :: rest) pos) (tDT W Z tb)) : PW X (.BoolOp .Or (a :: b :: rest) pos) (tDT W Z (dOr ta tb)) :=
  (pw_or ha hb).weak fun σ H Q zq => L2.el6 zq fun A B ρ hr hl h => ⟨A, B, ρ, hr, hl, h.bind.imp fun x m A1 H1 _ e1 r1 h1 => by
    cases x with
    | true => exact iteT (h1.now r1)
    | false => exact iteF ⟨A1, B, ⟨ρ.loc, m⟩, r1, hl.ext e1, h1⟩⟩
theorem dt_w (h : PW X a (tDT W Z ta)) : PT X a (tDT W Z ta) := h.pt
theorem dt_not (ha : PT X a (tDT W Z ta)) : PT X (.UnaryOp .Not a pos) (tDT W Z (dNot ta)) :=
  (pt_not ha).weak fun σ H Q zq => L2.el6 zq fun A B ρ hr hl h => ⟨A, B, ρ, hr, hl, h.bind.imp fun x m A1 H1 _ e1 r1 h1 => h1.now r1⟩
theorem de_one {op} (ha : PE X a (tD W Z da)) : PE X (.BoolOp op [a] pos) (tD W Z da) := pe_one ha
theorem de_and (ha : PE X a (tD W Z da)) (hb : PE X (.BoolOp .And (b :: rest) pos) (tD W Z db)) : PE X (.BoolOp .And (a :: b :: rest) pos) (tD W Z (dAndV da db)) :=
  (pe_and ha hb).weak fun σ H Q zq => L2.el6 zq fun A B ρ hr hl h => ⟨A, B, ρ, hr, hl, h.bind.imp fun x m A1 H1 _ e1 r1 h1 v tv => by
    cases x with
    | bl k =>
      simp only [Tr] at tv
      refine ⟨k, tv, ?_⟩
      cases k with
      | true => exact iteT ⟨A1, B, ⟨ρ.loc, m⟩, r1, hl.ext e1, h1⟩
      | false => exact iteF (h1.now r1 _ (by simp only [Tr]))
    | _ => exact h1.elim⟩
theorem de_not (ha : PE X a (tD W Z da)) : PE X (.UnaryOp .Not a pos) (tD W Z (dNotV da)) :=
  (pe_not ha).weak fun σ H Q zq => L2.el6 zq fun A B ρ hr hl h => ⟨A, B, ρ, hr, hl, h.bind.imp fun x m A1 H1 _ e1 r1 h1 v tv => by
    cases x with
    | bl k =>
      simp only [Tr] at tv
      exact ⟨k, tv, h1.now r1 _ (by simp only [Tr])⟩
    | _ => exact h1.elim⟩
variable {es : List Expr} {ea : DA}
theorem da_nil : PA X [] (tDA W Z dNil) := pa_nil.weak fun σ H Q zq => L2.el6 zq fun A B ρ hr hl h => h.now hr [] Trs.nil
theorem da_cons (ha : PE X a (tD W Z da)) (hb : PA X es (tDA W Z ea)) (hs : autoParam (starEach (a :: es) X.env = (false, eval a X.env) :: starEach es X.env) L2.aR._auto_1) : PA X (a :: es) (tDA W Z (dCons da ea)) :=
  (pa_cons ha hb hs).weak fun σ H Q zq => L2.el6 zq fun A B ρ hr hl h => ⟨A, B, ρ, hr, hl, h.bind.imp fun x m A1 H1 _ e1 r1 h1 v tv => ⟨A1, B, ⟨ρ.loc, m⟩, r1, hl.ext e1, h1.bind.imp fun ys m2 A2 H2 _ e2 r2 h2 us tu => h2.now r2 (v :: us) (Trs.cons (tv.ext e2) tu)⟩⟩
theorem alloc_ok {Z : ZT} {σ : St} {A B : List Addr} {H : Hp} {ms : List MO} {ts : List T} {vs : List V} {c : Bool} {Q : VK} (hr : Rl W A B ms H) (ht : Trs W A B H ts vs) (h : wpR W Z σ A B H (alloc c ts ms) (VQ W B Q)) :
    vs.length ≤ most ∧ ∀ p H', H p = none → Same H H' → H' p = some (.lst vs) → Q (.ref p) H' := by
  unfold alloc at h
  have hl := ht.length
  split at h
  · rename_i hle
    refine ⟨by (first|lia|omega), fun p H' hp s e => ?_⟩
    have n := hr.tree hp
    split at h
    · have eA : Ext A H (A ++ [p]) H' := ⟨⟨[p], rfl, fun c hc => by rw [List.mem_singleton.mp hc]; exact hp⟩, fun b o _ q => s b o q, fun b o q => ⟨o, s b o q⟩⟩
      obtain ⟨e1, r1⟩ := hr.cell hp s (m := .lst ts) ⟨vs, e, ht.ext eA⟩
      refine h _ _ e1 r1 _ ?_
      simp only [Tr]
      exact ⟨p, by rw [hr.len]; simp, rfl⟩
    · refine h _ _ (Ext.same s) (hr.same s) _ ?_
      simp only [Tr]
      exact ⟨p, vs, rfl, n, e, ht.ext (Ext.same s)⟩
  · exact h.elim
theorem most_le {n : Nat} (h : n ≤ most) : n ≤ sizeLine := Nat.le_trans h (by decide)
theorem most_lt {n : Nat} (h : n ≤ most) : n < sizeLine := Nat.lt_of_le_of_lt h (by decide)
theorem de_lst {c : Bool} (ha : PA X es (tDA W Z ea)) : PE X (.List es pos) (tD W Z (dLst c ea)) :=
  (pe_lstQ ha).weak fun σ H Q zq => L2.el6 zq fun A B ρ hr hl h => ⟨A, B, ρ, hr, hl, h.bind.imp fun ts m A1 H1 _ e1 r1 h1 vs tv => by
    obtain ⟨h2, h3⟩ := alloc_ok r1 tv h1
    exact ⟨most_le h2, h3⟩⟩
theorem de_tup {x1} (ha : PA X es (tDA W Z ea)) : PE X (.Tuple es x1 pos) (tD W Z (dTup ea)) :=
  (pe_tupQ ha).weak fun σ H Q zq => L2.el6 zq fun A B ρ hr hl h => ⟨A, B, ρ, hr, hl, h.bind.imp fun ts m A1 H1 _ e1 r1 h1 vs tv => by
    have hlen := tv.length
    split at h1
    · refine ⟨most_le (by (first|lia|omega)), fun p H' hp s e => h1 A1 H' (Ext.same s) (r1.same s) _ ?_⟩
      simp only [Tr]
      exact ⟨p, vs, rfl, r1.tree hp, e, tv.ext (Ext.same s)⟩
    · exact h1.elim⟩
noncomputable def CaS (W : Wd) (f : List MO → List T → R T) (r : List V → Hp → VK → Prop) : Prop := ∀ (Z : ZT) (σ : St) (A B : List Addr) (H : Hp) (ms : List MO) (xs : List T) (vs : List V) (Q : VK), Rl W A B ms H → Trs W A B H xs vs → wpR W Z σ A B H (f ms xs) (VQ W B Q) → r vs H Q
theorem de_callB {x : Str} {p : Pos} {id : String} {r : List V → Hp → VK → Prop} {f : List MO → List T → R T} (hc : CallR X (.builtin id) r) (hf : CaS W f r) (hg : Gl X x) (hm : X.mg x = none) (hv : bootBuiltins x = some (.builtin id)) (ha : PA X (a :: es) (tDA W Z ea)) (hn : autoParam (x ≠ "__name__") L2.aD._auto_1) (hdb : autoParam ((x == ("__debug__" : Str)) = false) L2.aD._auto_1)
    (he : autoParam (starEach (a :: es) X.env = (false, eval a X.env) :: starEach es X.env) L2.aR._auto_1) (hpl : autoParam ((backTo pos (starEach es X.env)).any (·.1) = false) L2.aR._auto_1) : PE X (.Call (.Name x p) (a :: es) [] pos) (tD W Z (dCB f ea)) :=
  (pe_callB hc hg hm hv ha hn hdb he hpl).weak fun σ H Q zq => L2.el6 zq fun A B ρ hr hl h => ⟨A, B, ρ, hr, hl, h.bind.imp fun ts m A1 H1 _ e1 r1 h1 vs tv => hf Z σ A1 B H1 m ts vs Q r1 tv h1⟩
theorem de_callTy {x : Str} {p : Pos} {id : String} {r : List V → Hp → VK → Prop} {f : List MO → List T → R T} (hc : CallR X (.type id) r) (hf : CaS W f r) (hg : Gl X x) (hm : X.mg x = none) (hv : bootBuiltins x = some (.type id)) (ha : PA X (a :: es) (tDA W Z ea)) (hn : autoParam (x ≠ "__name__") L2.aD._auto_1) (hdb : autoParam ((x == ("__debug__" : Str)) = false) L2.aD._auto_1)
    (he : autoParam (starEach (a :: es) X.env = (false, eval a X.env) :: starEach es X.env) L2.aR._auto_1) (hpl : autoParam ((backTo pos (starEach es X.env)).any (·.1) = false) L2.aR._auto_1) : PE X (.Call (.Name x p) (a :: es) [] pos) (tD W Z (dCB f ea)) :=
  (pe_callTy hc hg hm hv ha hn hdb he hpl).weak fun σ H Q zq => L2.el6 zq fun A B ρ hr hl h => ⟨A, B, ρ, hr, hl, h.bind.imp fun ts m A1 H1 _ e1 r1 h1 vs tv => hf Z σ A1 B H1 m ts vs Q r1 tv h1⟩
end
end Dn
namespace Dn
open PySem L2
section
variable {W : Wd} {A B : List Addr} {H : Hp} {ms : List MO} {x y : T} {v u : V} {ts us : List T}
theorem litems_ok (hr : Rl W A B ms H) (h : Tr W A B H x v) (e : litems ms x = some ts) : ∃ a vs, v = .ref a ∧ H a = some (.lst vs) ∧ Trs W A B H ts vs := by
  cases x with
  | lst l =>
    simp [litems] at e; subst e
    simp only [Tr] at h
    obtain ⟨a, vs, rfl, _, q, r⟩ := h
    exact ⟨a, vs, rfl, q, r⟩
  | cel k =>
    simp only [litems] at e
    split at e
    · rename_i l hm
      cases e
      simp only [Tr] at h
      obtain ⟨a, q, rfl⟩ := h
      obtain ⟨vs, q, r⟩ := hr.ce k _ a hm q
      exact ⟨a, vs, rfl, q, r⟩
    · cases e
  | _ => simp [litems] at e
theorem items_ok (hr : Rl W A B ms H) (h : Tr W A B H x v) (e : items ms x = some ts) : ∃ a vs, v = .ref a ∧ Sq W.K H a vs ∧ Trs W A B H ts vs := by
  cases x with
  | lst l =>
    obtain ⟨a, vs, e1, q, r⟩ := litems_ok hr h (ts := ts) (by simpa [litems, items] using e)
    exact ⟨a, vs, e1, Sq.l q, r⟩
  | cel k =>
    obtain ⟨a, vs, e1, q, r⟩ := litems_ok hr h (ts := ts) (by simpa [litems, items] using e)
    exact ⟨a, vs, e1, Sq.l q, r⟩
  | tup l =>
    simp [items] at e; subst e
    simp only [Tr] at h
    obtain ⟨a, vs, rfl, _, q, r⟩ := h
    exact ⟨a, vs, rfl, Sq.t q, r⟩
  | scr l =>
    simp [items] at e; subst e
    simp only [Tr] at h
    obtain ⟨a, vs, rfl, q, r⟩ := h
    refine ⟨a, vs, rfl, .inl ?_, r⟩
    rcases q with ⟨_, q⟩ | q
    · exact .inl q
    · exact .inr q
  | _ => simp [items] at e
theorem deref_ok (hr : Rl W A B ms H) (h : Tr W A B H x v) : Tr W A B H (deref ms x) v ∨ ∃ a vs ts, deref ms x = .lst ts ∧ v = .ref a ∧ H a = some (.lst vs) ∧ Trs W A B H ts vs := by
  cases x with
  | cel k =>
    unfold deref
    simp only
    split
    · rename_i l hm
      simp only [Tr] at h
      obtain ⟨a, q, rfl⟩ := h
      obtain ⟨vs, q, r⟩ := hr.ce k _ a hm q
      exact .inr ⟨a, vs, l, rfl, rfl, q, r⟩
    · exact .inl h
  | _ => exact .inl h
noncomputable def Top (W : Wd) (A B : List Addr) (H : Hp) (t : T) (v : V) : Prop := Tr W A B H t v ∨ ∃ a vs ts, t = .lst ts ∧ v = .ref a ∧ H a = some (.lst vs) ∧ Trs W A B H ts vs
theorem Top.lst {ts : List T} (h : Top W A B H (.lst ts) v) : ∃ a vs, v = .ref a ∧ H a = some (.lst vs) ∧ Trs W A B H ts vs := by
  rcases h with h | ⟨a, vs, l, e, e1, q, r⟩
  · simp only [Tr] at h
    obtain ⟨a, vs, rfl, _, q, r⟩ := h
    exact ⟨a, vs, rfl, q, r⟩
  · cases e; exact ⟨a, vs, e1, q, r⟩
theorem Top.tup {ts : List T} (h : Top W A B H (.tup ts) v) : ∃ a vs, v = .ref a ∧ H a = some (.tup vs) ∧ Trs W A B H ts vs := by
  rcases h with h | ⟨a, vs, l, e, e1, q, r⟩
  · simp only [Tr] at h
    obtain ⟨a, vs, rfl, _, q, r⟩ := h
    exact ⟨a, vs, rfl, q, r⟩
  · cases e
theorem Top.bl {b : Bool} (h : Top W A B H (.bl b) v) : v = .bl b := by
  rcases h with h | ⟨a, vs, l, e, _⟩
  · simpa only [Tr] using h
  · cases e
theorem Top.int {b : Int} (h : Top W A B H (.int b) v) : v = .int b := by
  rcases h with h | ⟨a, vs, l, e, _⟩
  · simpa only [Tr] using h
  · cases e
theorem Top.str {b : Str} (h : Top W A B H (.str b) v) : v = .str b := by
  rcases h with h | ⟨a, vs, l, e, _⟩
  · simpa only [Tr] using h
  · cases e
theorem Top.non (h : Top W A B H .non v) : v = .non := by
  rcases h with h | ⟨a, vs, l, e, _⟩
  · simpa only [Tr] using h
  · cases e
theorem akin_cases {n : Nat} (h : T.akin n x y = true) : (x = .non ∧ y = .non) ∨ (∃ a b, x = .bl a ∧ y = .bl b) ∨ (∃ a b, x = .int a ∧ y = .int b) ∨ (∃ a b, x = .str a ∧ y = .str b) ∨
    (∃ m a b, n = m + 1 ∧ x = .lst a ∧ y = .lst b ∧ ∀ (i : Nat) s t, a[i]? = some s → b[i]? = some t → T.akin m s t = true) ∨ (∃ m a b, n = m + 1 ∧ x = .tup a ∧ y = .tup b ∧ ∀ (i : Nat) s t, a[i]? = some s → b[i]? = some t → T.akin m s t = true) := by
  have zs : ∀ {m : Nat} {a b : List T}, ((a.zip b).all fun p => T.akin m p.1 p.2) = true → ∀ (i : Nat) s t, a[i]? = some s → b[i]? = some t → T.akin m s t = true := by
    intro m a b h i s t h1 h2
    rw [List.all_eq_true] at h
    refine h (s, t) (List.mem_of_getElem? (i := i) ?_)
    rw [List.getElem?_zip_eq_some]
    exact ⟨h1, h2⟩
  unfold T.akin at h
  split at h
  · exact .inl ⟨rfl, rfl⟩
  · exact .inr (.inl ⟨_, _, rfl, rfl⟩)
  · exact .inr (.inr (.inl ⟨_, _, rfl, rfl⟩))
  · exact .inr (.inr (.inr (.inl ⟨_, _, rfl, rfl⟩)))
  · exact .inr (.inr (.inr (.inr (.inl ⟨_, _, _, rfl, rfl, rfl, zs h⟩))))
  · exact .inr (.inr (.inr (.inr (.inr ⟨_, _, _, rfl, rfl, rfl, zs h⟩))))
  · cases h
theorem Top.inj {n : Nat} : ∀ {x y : T} {v : V}, T.akin n x y = true → Top W A B H x v → Top W A B H y v → x = y := by
  induction n with
  | zero =>
    intro x y v h tx ty
    rcases akin_cases h with ⟨rfl, rfl⟩ | ⟨a, b, rfl, rfl⟩ | ⟨a, b, rfl, rfl⟩ | ⟨a, b, rfl, rfl⟩ | ⟨m, a, b, e, _⟩ | ⟨m, a, b, e, _⟩
    · rfl
    · have := tx.bl; rw [ty.bl] at this; cases this; rfl
    · have := tx.int; rw [ty.int] at this; cases this; rfl
    · have := tx.str; rw [ty.str] at this; cases this; rfl
    · cases e
    · cases e
  | succ n ih =>
    intro x y v h tx ty
    have go : ∀ {a b : List T} {vs : List V}, (∀ (i : Nat) s t, a[i]? = some s → b[i]? = some t → T.akin n s t = true) → Trs W A B H a vs → Trs W A B H b vs → a = b := by
      intro a b vs hz ra rb
      have la := ra.length
      have lb := rb.length
      refine List.ext_getElem (by (first|lia|omega)) fun i h1 h2 => ?_
      obtain ⟨w, q, tw⟩ := ra.get (List.getElem?_eq_getElem h1)
      obtain ⟨w', q', tw'⟩ := rb.get (List.getElem?_eq_getElem h2)
      rw [q] at q'; cases q'
      exact ih (hz i _ _ (List.getElem?_eq_getElem h1) (List.getElem?_eq_getElem h2)) (.inl tw) (.inl tw')
    rcases akin_cases h with ⟨rfl, rfl⟩ | ⟨a, b, rfl, rfl⟩ | ⟨a, b, rfl, rfl⟩ | ⟨a, b, rfl, rfl⟩ | ⟨m, a, b, e, rfl, rfl, hz⟩ | ⟨m, a, b, e, rfl, rfl, hz⟩
    · rfl
    · have := tx.bl; rw [ty.bl] at this; cases this; rfl
    · have := tx.int; rw [ty.int] at this; cases this; rfl
    · have := tx.str; rw [ty.str] at this; cases this; rfl
    · cases e
      obtain ⟨p, vs, rfl, q, r⟩ := tx.lst
      obtain ⟨p', vs', e', q', r'⟩ := ty.lst
      cases e'
      rw [q] at q'; cases q'
      rw [go hz r r']
    · cases e
      obtain ⟨p, vs, rfl, q, r⟩ := tx.tup
      obtain ⟨p', vs', e', q', r'⟩ := ty.tup
      cases e'
      rw [q] at q'; cases q'
      rw [go hz r r']
theorem beqs_range : ∀ (a b : List T), T.beqs a b = ((List.range (min a.length b.length)).all (fun i => T.beq (a.getD i .non) (b.getD i .non)) && a.length == b.length)
  | [], [] => by simp [T.beqs]
  | [], b :: bs => by simp [T.beqs]
  | a :: as, [] => by simp [T.beqs]
  | a :: as, b :: bs => by
    rw [T.beqs_cons, beqs_range as bs]
    have e : min (a :: as).length (b :: bs).length = min as.length bs.length + 1 := by simp only [List.length_cons]; (first|lia|omega)
    rw [e, List.range_succ_eq_map, List.all_cons, List.all_map]
    simp only [List.getD_cons_zero, Function.comp_def, List.getD_cons_succ, List.length_cons]
    rw [Bool.and_assoc]
    congr 2
    simp
theorem rcAt_tree {n : Nat} : ∀ {X : Cx} {A' : Around} {pins : List (Addr × Obj)} {σ : St} {s : Shared} {x y : T} {v u : V} {xv yv : Value}, L2.Inv X pins σ H s → A'.units + n < cLine → T.akin n x y = true → Top W A B H x v → Top W A B H y u → RelV v xv → RelV u yv →
    SeqAt.RcAt A' s xv yv (T.beq x y) ∧ SeqAt.RcNeAt A' s xv yv (!T.beq x y) ∧ SeqAt.EqAt A' s xv yv (T.beq x y) := by
  have flat : ∀ {A' : Around} {s : Shared} {x y : T} {v u : V} {xv yv : Value} {m : Nat}, T.akin m x y = true → ((x = .non ∧ y = .non) ∨ (∃ a b, x = .bl a ∧ y = .bl b) ∨ (∃ a b, x = .int a ∧ y = .int b) ∨ (∃ a b, x = .str a ∧ y = .str b)) → Top W A B H x v → Top W A B H y u → RelV v xv → RelV u yv →
    SeqAt.RcAt A' s xv yv (T.beq x y) ∧ SeqAt.RcNeAt A' s xv yv (!T.beq x y) ∧ SeqAt.EqAt A' s xv yv (T.beq x y) := by
    intro A' s x y v u xv yv m _ h tx ty rx ry
    rcases h with ⟨rfl, rfl⟩ | ⟨a, b, rfl, rfl⟩ | ⟨a, b, rfl, rfl⟩ | ⟨a, b, rfl, rfl⟩
    · cases tx.non; cases ty.non; cases rx; cases ry
      rw [T.beq_non]; exact ⟨SeqAt.RcAt.none_none, SeqAt.RcNeAt.none_none, SeqAt.EqAt.same _⟩
    · cases tx.bl; cases ty.bl; cases rx; cases ry
      rw [T.beq_bl]; exact ⟨SeqAt.RcAt.bool_bool a b, SeqAt.RcNeAt.bool_bool a b, SeqAt.EqAt.bool_bool a b⟩
    · cases tx.int; cases ty.int; obtain ⟨t1, rfl⟩ := rx; obtain ⟨t2, rfl⟩ := ry
      rw [T.beq_int]; exact ⟨SeqAt.RcAt.int_int a t1 b t2, SeqAt.RcNeAt.int_int a t1 b t2, SeqAt.EqAt.int_int a t1 b t2⟩
    · cases tx.str; cases ty.str; obtain ⟨t1, rfl⟩ := rx; obtain ⟨t2, rfl⟩ := ry
      rw [T.beq_str]; exact ⟨SeqAt.RcAt.str_str a t1 b t2, SeqAt.RcNeAt.str_str a t1 b t2, SeqAt.EqAt.str_str a t1 b t2⟩
  induction n with
  | zero =>
    intro X A' pins σ s x y v u xv yv I hu h tx ty rx ry
    rcases akin_cases h with z | z | z | z | ⟨m, a, b, e, _⟩ | ⟨m, a, b, e, _⟩
    · exact flat h (.inl z) tx ty rx ry
    · exact flat h (.inr (.inl z)) tx ty rx ry
    · exact flat h (.inr (.inr (.inl z))) tx ty rx ry
    · exact flat h (.inr (.inr (.inr z))) tx ty rx ry
    · cases e
    · cases e
  | succ n ih =>
    intro X A' pins σ s x y v u xv yv I hu h tx ty rx ry
    have parts : ∀ {a b : List T} {vs ws : List V} {its its2 : List Value}, (∀ (i : Nat) s t, a[i]? = some s → b[i]? = some t → T.akin n s t = true) → Trs W A B H a vs → Trs W A B H b ws → Vals vs its → Vals ws its2 →
        ∀ j (h1 : j < its.toArray.size) (h2 : j < its2.toArray.size), SeqAt.EqAt A'.in1 s its.toArray[j] its2.toArray[j] (T.beq (a.getD j .non) (b.getD j .non)) := by
      intro a b vs ws its its2 hz ra rb ri ri2 j h1 h2
      have la := ra.length
      have lb := rb.length
      have li := ri.length
      have li2 := ri2.length
      simp at h1 h2
      obtain ⟨w, q, tw⟩ := ra.get (List.getElem?_eq_getElem (l := a) (i := j) (by (first|lia|omega)))
      obtain ⟨w', q', tw'⟩ := rb.get (List.getElem?_eq_getElem (l := b) (i := j) (by (first|lia|omega)))
      obtain ⟨uu, e1, r1⟩ := ri.get q
      obtain ⟨uu', e2, r2⟩ := ri2.get q'
      have z1 : its.toArray[j] = uu := by
        have := List.getElem?_eq_some_iff.mp e1
        simpa using this.2
      have z2 : its2.toArray[j] = uu' := by
        have := List.getElem?_eq_some_iff.mp e2
        simpa using this.2
      have za : a.getD j .non = a[j]'(by (first|lia|omega)) := by rw [List.getD_eq_getElem?_getD, List.getElem?_eq_getElem (by (first|lia|omega))]; rfl
      have zb : b.getD j .non = b[j]'(by (first|lia|omega)) := by rw [List.getD_eq_getElem?_getD, List.getElem?_eq_getElem (by (first|lia|omega))]; rfl
      rw [z1, z2, za, zb]
      exact (ih I (show A'.units + 1 + n < cLine by (first|lia|omega)) (hz j _ _ (List.getElem?_eq_getElem (by (first|lia|omega))) (List.getElem?_eq_getElem (by (first|lia|omega)))) (.inl tw) (.inl tw') r1 r2).2.2
    rcases akin_cases h with z | z | z | z | ⟨m, a, b, e, rfl, rfl, hz⟩ | ⟨m, a, b, e, rfl, rfl, hz⟩
    · exact flat h (.inl z) tx ty rx ry
    · exact flat h (.inr (.inl z)) tx ty rx ry
    · exact flat h (.inr (.inr (.inl z))) tx ty rx ry
    · exact flat h (.inr (.inr (.inr z))) tx ty rx ry
    · cases e
      have same := fun (e : v = u) => Top.inj h tx (e ▸ ty)
      obtain ⟨p, vs, rfl, q, r⟩ := tx.lst
      obtain ⟨p', vs', rfl, q', r'⟩ := ty.lst
      cases rx; cases ry
      obtain ⟨its, ri, pl, _⟩ := I.list (SqL.of q)
      obtain ⟨its2, ri2, pl2, _⟩ := I.list (SqL.of q')
      have hb := parts hz r r' ri ri2
      have la := r.length
      have lb := r'.length
      have li := ri.length
      have li2 := ri2.length
      have both : SeqAt.RcAt A' s (.ref p) (.ref p') (T.beq (.lst a) (.lst b)) ∧ SeqAt.RcNeAt A' s (.ref p) (.ref p') (!T.beq (.lst a) (.lst b)) := by
        by_cases hs : its.toArray.size = its2.toArray.size
        · have e : T.beq (.lst a) (.lst b) = (List.range its.toArray.size).all (fun i => T.beq (a.getD i .non) (b.getD i .non)) := by
            rw [T.beq_lst, beqs_range]
            have e1 : min a.length b.length = its.toArray.size := by simp at hs ⊢; (first|lia|omega)
            have e2 : (a.length == b.length) = true := by simp at hs ⊢; (first|lia|omega)
            rw [e1, e2, Bool.and_true]
          rw [e]
          exact ⟨SeqAt.RcAt.lists pl.isList pl2.isList hs (by (first|lia|omega)) hb, SeqAt.RcNeAt.lists pl.isList pl2.isList hs (by (first|lia|omega)) hb⟩
        · have e : T.beq (.lst a) (.lst b) = false := by
            rw [T.beq_lst, beqs_range]
            have e2 : (a.length == b.length) = false := by simp at hs ⊢; (first|lia|omega)
            rw [e2, Bool.and_false]
          have hs' : (its.toArray.size != its2.toArray.size) = true := by simpa using hs
          rw [e]
          exact ⟨SeqAt.RcAt.lists_lengths pl.isList pl2.isList hs' (by (first|lia|omega)), SeqAt.RcNeAt.lists_lengths pl.isList pl2.isList hs' (by (first|lia|omega))⟩
      refine ⟨both.1, both.2, ?_⟩
      by_cases hp : p = p'
      · subst hp
        have := same rfl
        cases this
        rw [show T.beq (.lst a) (.lst a) = true from (T.beq_iff _ _).mpr rfl]
        exact SeqAt.EqAt.same _
      · exact SeqAt.EqAt.of_refs hp both.1
    · cases e
      have same := fun (e : v = u) => Top.inj h tx (e ▸ ty)
      obtain ⟨p, vs, rfl, q, r⟩ := tx.tup
      obtain ⟨p', vs', rfl, q', r'⟩ := ty.tup
      cases rx; cases ry
      obtain ⟨its, ri, pl, _⟩ := I.tuple (SqT.of q)
      obtain ⟨its2, ri2, pl2, _⟩ := I.tuple (SqT.of q')
      have hb := parts hz r r' ri ri2
      have la := r.length
      have lb := r'.length
      have li := ri.length
      have li2 := ri2.length
      have both : SeqAt.RcAt A' s (.ref p) (.ref p') (T.beq (.tup a) (.tup b)) ∧ SeqAt.RcNeAt A' s (.ref p) (.ref p') (!T.beq (.tup a) (.tup b)) := by
        have e : T.beq (.tup a) (.tup b) = ((List.range (min its.toArray.size its2.toArray.size)).all (fun i => T.beq (a.getD i .non) (b.getD i .non)) && its.toArray.size == its2.toArray.size) := by
          rw [T.beq_tup, beqs_range]
          have e1 : min a.length b.length = min its.toArray.size its2.toArray.size := by simp; (first|lia|omega)
          have e2 : (a.length == b.length) = (its.toArray.size == its2.toArray.size) := by
            rw [la, lb, li, li2]; simp
          rw [e1, e2]
        rw [e]
        exact ⟨SeqAt.RcAt.tuples pl pl2 (by (first|lia|omega)) hb, SeqAt.RcNeAt.tuples pl pl2 (by (first|lia|omega)) hb⟩
      refine ⟨both.1, both.2, ?_⟩
      by_cases hp : p = p'
      · subst hp
        have := same rfl
        cases this
        rw [show T.beq (.tup a) (.tup a) = true from (T.beq_iff _ _).mpr rfl]
        exact SeqAt.EqAt.same _
      · exact SeqAt.EqAt.of_refs hp both.1
end
end Dn
namespace L2
open PySem PySem.Spec PyProof.Rows
noncomputable def rSlTQ (K : PySem.W.Frag) : V → Option Int → Option Int → Hp → VK → Prop := fun x lo hi H Q => ∃ a xs, x = .ref a ∧ SqT K H a xs ∧ ∀ p H', Same H H' → ((H p = none ∧ H' p = some (.tup (cutV xs lo hi))) ∨ (p = a ∧ cutV xs lo hi = xs)) → Q (.ref p) H'
theorem sl_tupQ {X : Cx} : SlR X (rSlTQ X.K) := by
  intro pins s σ H x v vl vu lo hi sl Q I rx hs pl pu h
  obtain ⟨a, xs, rfl, hx, q⟩ := h
  by_cases hw : HT.sIx xs.length 0 lo = 0 ∧ HT.sIx xs.length xs.length hi = xs.length
  · cases rx
    obtain ⟨its, r, ht, hz⟩ := I.tuple hx
    have hlen : its.toArray.size = xs.length := by rw [List.size_toArray]; exact r.length.symm
    refine ⟨"tuple", _, PyProof.Rows.slot_tuple_getitem.lookup, ht.typeIs, ?_⟩
    refine HT.getItem_tuple_all ht hs pl pu (by rw [hlen]; exact hw) ?_
    exact ⟨.ref a, H, I, rfl, q a H (Same.refl H) (.inr ⟨rfl, cutV_whole hw⟩)⟩
  · exact sl_tup pins s σ H _ v vl vu lo hi sl Q I rx hs pl pu ⟨a, xs, rfl, hx, hw, fun p hp => q p _ (same_new hp _) (.inl ⟨hp, upd_same⟩)⟩
end L2
namespace Dn
open PySem L2
section
variable {X : Cx} {W : Wd}
theorem trI {A B : List Addr} {H : Hp} {i : Int} : Tr W A B H (.int i) (.int i) := by simp only [Tr]
theorem trB {A B : List Addr} {H : Hp} {i : Bool} : Tr W A B H (.bl i) (.bl i) := by simp only [Tr]
theorem trN {A B : List Addr} {H : Hp} : Tr W A B H .non .non := by simp only [Tr]
theorem ops_I {g : Int → Int → T} {g' : Int → Int → V} (hg : ∀ i j A B H, Tr W A B H (g i j) (g' i j)) : OpS W (oI g) (rI0 g') := by
  intro Z σ A B H ms x y v u Q hr tx ty h
  unfold oI at h
  split at h
  · rename_i i j
    simp only [Tr] at tx ty
    exact ⟨i, j, tx, ty, h.now hr _ (hg i j A B H)⟩
  · exact h.elim
theorem ops_Ic {C : Int → Int → Bool} {C' : Int → Int → Prop} {g : Int → Int → T} {g' : Int → Int → V} (hc : ∀ i j, C i j = true → C' i j) (hg : ∀ i j A B H, Tr W A B H (g i j) (g' i j)) : OpS W (oIc C g) (rI C' g') := by
  intro Z σ A B H ms x y v u Q hr tx ty h
  unfold oIc at h
  split at h
  · rename_i i j
    simp only [Tr] at tx ty
    split at h
    · rename_i e
      exact ⟨i, j, tx, ty, hc i j e, h.now hr _ (hg i j A B H)⟩
    · exact h.elim
  · exact h.elim
theorem os_sub : OpS W oSub (rI0 fun i j => .int (i - j)) := ops_I fun _ _ _ _ _ => trI
theorem os_mod : OpS W oMod (rI (fun _ j => 0 < j) fun i j => .int (i % j)) := ops_Ic (fun i j h => by simpa using h) fun _ _ _ _ _ => trI
theorem os_div : OpS W oDiv (rI CDiv fun i j => .int (i / j)) := ops_Ic (fun i j h => by simpa [CDiv] using h) fun _ _ _ _ _ => trI
theorem os_pow : OpS W oPow (rI CPow fun i j => .int (i ^ j.toNat)) := ops_Ic (fun i j h => by
  simp only [decide_eq_true_eq] at h
  exact ⟨h.1, by (first|lia|omega), Nat.lt_of_le_of_lt h.2.2 (by decide)⟩) fun _ _ _ _ _ => trI
theorem os_le : OpS W oLe (rI0 fun i j => .bl (decide (i ≤ j))) := ops_I fun _ _ _ _ _ => trB
theorem os_gt : OpS W oGt (rI0 fun i j => .bl (decide (j < i))) := ops_I fun _ _ _ _ _ => trB
theorem us_neg (Z : ZT) (σ : St) (A B : List Addr) (H : Hp) (ms : List MO) (x : T) (v : V) (Q : VK) (hr : Rl W A B ms H) (tx : Tr W A B H x v) (h : wpR W Z σ A B H (oNeg ms x) (VQ W B Q)) : rU (fun i => .int (-i)) v H Q := by
  unfold oNeg at h
  split at h
  · rename_i i
    simp only [Tr] at tx
    exact ⟨i, tx, h.now hr _ trI⟩
  · exact h.elim
noncomputable def rAddT : R2 := fun x y H Q => rI0 (fun i j => .int (i + j)) x y H Q ∨ rCatQ x y H Q
theorem op_addT : OpR X (binaryOp .Add) rAddT := OpR.or op_add op_catQ
theorem os_add {c : Bool} : OpS W (oAdd c) rAddT := by
  intro Z σ A B H ms x y v u Q hr tx ty h
  unfold oAdd at h
  split at h
  · rename_i i j
    simp only [Tr] at tx ty
    exact .inl ⟨i, j, tx, ty, h.now hr _ trI⟩
  · split at h
    · rename_i xs ys e1 e2
      obtain ⟨a, vs, rfl, q1, r1⟩ := litems_ok hr tx e1
      obtain ⟨b, ws, rfl, q2, r2⟩ := litems_ok hr ty e2
      obtain ⟨h1, h2⟩ := alloc_ok hr (r1.append r2) h
      exact .inr ⟨a, b, vs, ws, rfl, rfl, q1, q2, most_le (by simpa using h1), h2⟩
    · exact h.elim
noncomputable def rMulT : R2 := fun x y H Q => rI CMul (fun i j => .int (i * j)) x y H Q ∨ rRepQ x y H Q
theorem op_mulT : OpR X (binaryOp .Mult) rMulT := OpR.or op_mul op_repQ
theorem os_mul {c : Bool} : OpS W (oMul c) rMulT := by
  intro Z σ A B H ms x y v u Q hr tx ty h
  unfold oMul at h
  split at h
  · rename_i i j
    simp only [Tr] at tx ty
    split at h
    · rename_i hs
      refine .inl ⟨i, j, tx, ty, ?_, h.now hr _ trI⟩
      simp only [small, Bool.or_eq_true, decide_eq_true_eq] at hs
      exact hs
    · exact h.elim
  · rename_i k _
    split at h
    · rename_i xs e
      split at h
      · rename_i hk
        obtain ⟨a, vs, rfl, q1, r1⟩ := litems_ok hr tx e
        obtain ⟨h1, h2⟩ := alloc_ok hr (r1.rep k.toNat) h
        simp only [Tr] at ty
        have hl := r1.length
        refine .inr ⟨a, k, vs, rfl, ty, q1, by (first|lia|omega), by (first|lia|omega), ?_, h2⟩
        have : vs.length * k.toNat ≤ 1000 * 1000 := Nat.mul_le_mul (by (first|lia|omega)) (by (first|lia|omega))
        exact Nat.le_trans this (by decide)
      · exact h.elim
    · exact h.elim
  · exact h.elim
noncomputable def rEqT (W : Wd) (neg : Bool) : R2 := fun x y H Q => ∃ A B tx ty, Top W A B H tx x ∧ Top W A B H ty y ∧ T.akin 8 tx ty = true ∧ Q (.bl (xor neg (T.beq tx ty))) H
theorem op_eqT (hu : X.A.units + 64 < cLine) : OpR X (compareOp .Eq) (rEqT W false) := by
  intro pins s σ H x y v u Q I rx ry h
  obtain ⟨A, B, tx, ty, h1, h2, h3, q⟩ := h
  rw [Bool.false_xor] at q
  exact (rcAt_tree I (A' := X.A) (n := 8) (by (first|lia|omega)) h3 h1 h2 rx ry).1 _ _ _ _ ⟨.bl _, H, I, rfl, q⟩
theorem op_neT (hu : X.A.units + 64 < cLine) : OpR X (compareOp .NotEq) (rEqT W true) := by
  intro pins s σ H x y v u Q I rx ry h
  obtain ⟨A, B, tx, ty, h1, h2, h3, q⟩ := h
  rw [Bool.true_xor] at q
  exact (rcAt_tree I (A' := X.A) (n := 8) (by (first|lia|omega)) h3 h1 h2 rx ry).2.1 _ _ _ _ ⟨.bl _, H, I, rfl, q⟩
theorem os_eq {neg : Bool} : OpS W (oEq neg) (rEqT W neg) := by
  intro Z σ A B H ms x y v u Q hr tx ty h
  unfold oEq at h
  split at h
  · rename_i e
    exact ⟨A, B, _, _, deref_ok hr tx, deref_ok hr ty, e, h.now hr _ trB⟩
  · exact h.elim
theorem lex_eq : ∀ a b : List Int, HT.lexLt a b = lexLt a b
  | [], [] => rfl
  | [], _ :: _ => rfl
  | _ :: _, [] => rfl
  | x :: xs, y :: ys => by rw [HT.lexLt_cons, lexLt, lex_eq xs ys]
noncomputable def rLtT (K : PySem.W.Frag) : R2 := fun x y H Q => rI0 (fun i j => .bl (decide (i < j))) x y H Q ∨ rLtLQ K x y H Q
theorem op_ltT (hu : X.A.units + 64 < cLine) : OpR X (compareOp .Lt) (rLtT X.K) := OpR.or op_lt (op_ltL (by (first|lia|omega)))
theorem os_lt {K : PySem.W.Frag} : OpS W oLt (rLtT K) := by
  intro Z σ A B H ms x y v u Q hr tx ty h
  unfold oLt at h
  split at h
  · rename_i i j
    simp only [Tr] at tx ty
    exact .inl ⟨i, j, tx, ty, h.now hr _ trB⟩
  · split at h
    · rename_i xs ys e1 e2
      simp only [Option.bind_eq_some_iff] at e1 e2
      obtain ⟨l1, e1, f1⟩ := e1
      obtain ⟨l2, e2, f2⟩ := e2
      obtain ⟨a, vs, rfl, q1, r1⟩ := litems_ok hr tx e1
      obtain ⟨b, ws, rfl, q2, r2⟩ := litems_ok hr ty e2
      have g1 := r1.ints f1
      have g2 := r2.ints f2
      subst g1 g2
      exact .inr ⟨a, b, xs, ys, rfl, rfl, SqL.of q1, SqL.of q2, by rw [lex_eq]; exact h.now hr _ trB⟩
    · exact h.elim
noncomputable def rInT (W : Wd) (neg : Bool) : R2 := fun x y H Q => ∃ A B tx ts a vs, Top W A B H tx x ∧ y = .ref a ∧ Sq W.K H a vs ∧ Trs W A B H ts vs ∧ (∀ t ∈ ts, T.akin 8 t tx = true) ∧ Q (.bl (xor neg (decide (tx ∈ ts)))) H
open Classical in
noncomputable def eqOf (W : Wd) (A B : List Addr) (H : Hp) (x : T) (ts : List T) (u : Value) : Bool := decide (∃ v, RelV v u ∧ x ∈ ts ∧ Tr W A B H x v)
open Classical in
theorem in_core {A B : List Addr} {pins : List (Addr × Obj)} {σ : St} {H : Hp} {s : Shared} {x : T} {v : V} {xv : Value} {ts : List T} {vs : List V} {its : List Value} {A' : Around} (I : L2.Inv X pins σ H s) (hu : A'.units + 8 < cLine) (tx : Top W A B H x v) (rx : RelV v xv) (tr : Trs W A B H ts vs) (rv : Vals vs its) (hz : ∀ t ∈ ts, T.akin 8 t x = true) :
    (∀ u ∈ its, SeqAt.EqAt A' s u xv (eqOf W A B H x ts u)) ∧ its.any (eqOf W A B H x ts) = decide (x ∈ ts) := by
  have key : ∀ (j : Nat) (u : Value), its[j]? = some u → ∃ t w, ts[j]? = some t ∧ t ∈ ts ∧ RelV w u ∧ Tr W A B H t w ∧ T.beq t x = eqOf W A B H x ts u := by
    intro j u hj
    have l1 := tr.length
    have l2 := rv.length
    have hlt := (List.getElem?_eq_some_iff.mp hj).1
    obtain ⟨w, q, r⟩ : ∃ w, vs[j]? = some w ∧ RelV w u := by
      obtain ⟨u', e', r'⟩ := rv.get (List.getElem?_eq_getElem (l := vs) (i := j) (by (first|lia|omega)))
      rw [hj] at e'; cases e'
      exact ⟨_, List.getElem?_eq_getElem (by (first|lia|omega)), r'⟩
    obtain ⟨t, qt, tw⟩ := tr.getV q
    have hm := List.mem_of_getElem? qt
    refine ⟨t, w, qt, hm, r, tw, ?_⟩
    unfold eqOf
    by_cases e : t = x
    · subst e
      rw [(T.beq_iff t t).mpr rfl, decide_eq_true]
      exact ⟨w, r, hm, tw⟩
    · have e1 : T.beq t x = false := by
        cases h : T.beq t x with
        | false => rfl
        | true => exact absurd ((T.beq_iff _ _).mp h) e
      rw [e1, decide_eq_false]
      rintro ⟨w', r', _, tw'⟩
      have := r.inj r'
      subst this
      exact e (Top.inj (hz t hm) (.inl tw) (.inl tw'))
  constructor
  · intro u hu'
    obtain ⟨j, hj⟩ := List.getElem?_of_mem hu'
    obtain ⟨t, w, _, hm, r, tw, e⟩ := key j u hj
    rw [← e]
    exact (rcAt_tree I hu (hz t hm) (.inl tw) tx r rx).2.2
  · rw [Bool.eq_iff_iff, List.any_eq_true, decide_eq_true_eq]
    constructor
    · rintro ⟨u, hu', h⟩
      obtain ⟨j, hj⟩ := List.getElem?_of_mem hu'
      obtain ⟨t, w, _, hm, r, tw, e⟩ := key j u hj
      rw [← e] at h
      rw [← (T.beq_iff _ _).mp h]; exact hm
    · intro h
      obtain ⟨j, hj⟩ := List.getElem?_of_mem h
      obtain ⟨w, q, tw⟩ := tr.get hj
      obtain ⟨u, qu, r⟩ := rv.get q
      refine ⟨u, List.mem_of_getElem? qu, ?_⟩
      obtain ⟨t, w', q', _, _, _, e⟩ := key j u qu
      rw [hj] at q'; cases q'
      rw [← e, (T.beq_iff _ _).mpr rfl]
theorem op_notInT (hu : X.A.units + 64 < cLine) (hK : X.K = W.K) : OpR X (compareOp .NotIn) (rInT W true) := by
  intro pins s σ H x y v u Q I rx ry h
  obtain ⟨A, B, tx, ts, a, vs, h1, rfl, hq, ht, hz, q⟩ := h
  cases ry
  rw [Bool.true_xor] at q
  rw [← hK] at hq
  rcases hq with hq | hq
  · obtain ⟨its, r, pl, _⟩ := I.list hq
    obtain ⟨k1, k2⟩ := in_core (A' := X.A.in1) I (show X.A.units + 1 + 8 < cLine by (first|lia|omega)) h1 rx ht r hz
    refine SeqAt.notIn_listAt (eqOf W A B H tx ts) pl.isList (fun w hw => k1 w (by simpa using hw)) ⟨.bl _, H, I, rfl, ?_⟩
    rw [show its.toArray.any (eqOf W A B H tx ts) = its.any (eqOf W A B H tx ts) by simp, k2]
    exact q
  · obtain ⟨its, r, pl, _⟩ := I.tuple hq
    obtain ⟨k1, k2⟩ := in_core (A' := X.A.in1) I (show X.A.units + 1 + 8 < cLine by (first|lia|omega)) h1 rx ht r hz
    refine SeqAt.notIn_tupleAt (eqOf W A B H tx ts) pl (fun w hw => k1 w (by simpa using hw)) ⟨.bl _, H, I, rfl, ?_⟩
    rw [show its.toArray.any (eqOf W A B H tx ts) = its.any (eqOf W A B H tx ts) by simp, k2]
    exact q
theorem os_in {neg : Bool} : OpS W (oIn neg) (rInT W neg) := by
  intro Z σ A B H ms x y v u Q hr tx ty h
  unfold oIn at h
  split at h
  · rename_i ys e
    split at h
    · rename_i hz
      obtain ⟨a, vs, rfl, q, r⟩ := items_ok hr ty e
      exact ⟨A, B, x, ys, a, vs, .inl tx, rfl, q, r, fun t ht => by rw [List.all_eq_true] at hz; exact hz t ht, h.now hr _ trB⟩
    · exact h.elim
  · exact h.elim
theorem ixD_eq (n : Nat) (i : Int) : ixD n i = L2.ixN n i := rfl
theorem os_ix : OpS W oIx (rIxQ W.K) := by
  intro Z σ A B H ms x y v u Q hr tx ty h
  unfold oIx at h
  split at h
  · rename_i xs i e
    split at h
    · rename_i t et
      obtain ⟨a, vs, rfl, q, r⟩ := items_ok hr tx e
      simp only [Tr] at ty
      have hl := r.length
      have : ∃ w, L2.atI vs i = some w ∧ Tr W A B H t w := by
        unfold atD at et
        rw [ixD_eq, hl] at et
        unfold L2.atI
        cases ej : L2.ixN vs.length i with
        | none => rw [ej] at et; cases et
        | some j =>
          rw [ej] at et
          exact r.get et
      obtain ⟨w, ew, tw⟩ := this
      exact ⟨a, vs, i, w, rfl, ty, q, ew, h.now hr _ tw⟩
    · exact h.elim
  · exact h.elim
variable {a b c : Expr} {da db dc : DE} {pos p2 : Pos} {Z : ZT}
theorem de_ix (hK : X.K = W.K) (ha : PE X a (tD W Z da)) (hb : PE X b (tD W Z db)) (hs : PlainIx b) : PE X (.Subscript a b pos) (tD W Z (dOp oIx da db)) :=
  (pe_ix (ix_sq (X := X)) ha hb hs).weak fun σ H Q h => bin_ok (by rw [hK]; exact os_ix) h
theorem do_none : PO X none (tDO W Z pNone) := po_none.weak fun σ H Q zq => L2.el6 zq fun A B ρ hr hl h => h.now hr
theorem do_some (ha : PE X a (tD W Z da)) : PO X (some a) (tDO W Z (pSome da)) := (po_some ha).weak fun σ H Q zq => L2.el6 zq fun A B ρ hr hl h => ⟨A, B, ρ, hr, hl, h.bind.imp fun x m A1 H1 _ e1 r1 h1 v tv => by
  cases x with
  | int i =>
    simp only [Tr] at tv
    exact ⟨i, tv, h1.now r1⟩
  | _ => exact h1.elim⟩
theorem sIx_eq (n d : Nat) : ∀ o : Option Int, sIx n d o = HT.sIx n d o
  | none => rfl
  | some i => rfl
theorem cut_eq (xs : List V) (lo hi : Option Int) : cutV xs lo hi = cut xs lo hi := by
  unfold cutV cut
  simp only [sIx_eq]
theorem Trs.cut {A B : List Addr} {H : Hp} {ts : List T} {vs : List V} (h : Trs W A B H ts vs) (lo hi : Option Int) : Trs W A B H (cut ts lo hi) (Dn.cut vs lo hi) := by
  unfold Dn.cut
  rw [h.length]
  exact (h.drop _).take _
theorem de_sl {cc : Bool} {lo hi : Option Expr} {dl dh : DO} (ha : PE X a (tD W Z da)) (hl' : PO X lo (tDO W Z dl)) (hh : PO X hi (tDO W Z dh)) : PE X (.Subscript a (.Slice lo hi none p2) pos) (tD W Z (dSl cc da dl dh)) :=
  (pe_slice (SlR.or (sl_listQ (X := X)) (sl_tupQ (X := X))) ha hl' hh).weak fun σ H Q zq => L2.el6 zq fun A B ρ hr hl h => ⟨A, B, ρ, hr, hl, h.bind.imp fun x m A1 H1 _ e1 r1 h1 v tv => ⟨A1, B, ⟨ρ.loc, m⟩, r1, hl.ext e1, h1.bind.imp fun o1 m2 A2 H2 _ e2 r2 h2 => ⟨A2, B, ⟨ρ.loc, m2⟩, r2, (hl.ext e1).ext e2, h2.bind.imp fun o2 m3 A3 H3 _ e3 r3 h3 => by
    have tv3 := (tv.ext e2).ext e3
    unfold oCut at h3
    split at h3
    · rename_i ts
      simp only [Tr] at tv3
      obtain ⟨a, vs, rfl, n, q, r⟩ := tv3
      refine .inr ⟨a, vs, rfl, SqT.of q, fun p H' s cu => h3 A3 H' (Ext.same s) (r3.same s) _ ?_⟩
      rw [cut_eq] at cu
      have rc := (r.cut o1 o2).ext (Ext.same (A := A3) s)
      simp only [Tr]
      rcases cu with ⟨hp, e⟩ | ⟨e1, e2⟩
      · exact ⟨p, _, rfl, r3.tree hp, e, rc⟩
      · subst e1; exact ⟨p, _, rfl, n, s _ _ (by rw [e2]; exact q), rc⟩
    · split at h3
      · rename_i ts e
        obtain ⟨a, vs, rfl, q, r⟩ := litems_ok r3 tv3 e
        obtain ⟨k1, k2⟩ := alloc_ok r3 (r.cut o1 o2) h3
        refine .inl ⟨a, vs, rfl, SqL.of q, fun p H' hp s e => ?_⟩
        rw [cut_eq] at e
        exact k2 p H' hp s e
      · exact h3.elim⟩⟩⟩
theorem Trs.one {A B : List Addr} {H : Hp} {x : T} {vs : List V} (h : Trs W A B H [x] vs) : ∃ v, vs = [v] ∧ Tr W A B H x v := by
  simp only [Trs] at h
  obtain ⟨v, r, rfl, h1, rfl⟩ := h
  exact ⟨v, rfl, h1⟩
theorem Trs.two {A B : List Addr} {H : Hp} {x y : T} {vs : List V} (h : Trs W A B H [x, y] vs) : ∃ v u, vs = [v, u] ∧ Tr W A B H x v ∧ Tr W A B H y u := by
  simp only [Trs] at h
  obtain ⟨v, r, rfl, h1, u, r', rfl, h2, rfl⟩ := h
  exact ⟨v, u, rfl, h1, h2⟩
theorem cs_len : CaS W bLen (rLen W.K) := by
  intro Z σ A B H ms xs vs Q hr tx h
  unfold bLen at h
  split at h
  · rename_i x
    split at h
    · rename_i ts e
      obtain ⟨v, rfl, tv⟩ := tx.one
      obtain ⟨a, ws, rfl, q, r⟩ := items_ok hr tv e
      exact ⟨a, ws, rfl, q, by rw [← r.length]; exact h.now hr _ trI⟩
    · exact h.elim
  · exact h.elim
theorem cs_sum : CaS W bSum (rSum W.K) := by
  intro Z σ A B H ms xs vs Q hr tx h
  unfold bSum at h
  split at h
  · rename_i x
    split at h
    · rename_i ns e
      simp only [Option.bind_eq_some_iff] at e
      obtain ⟨ts, e, f⟩ := e
      obtain ⟨v, rfl, tv⟩ := tx.one
      obtain ⟨a, ws, rfl, q, r⟩ := items_ok hr tv e
      have g := r.ints f
      subst g
      exact ⟨a, ns, rfl, q, h.now hr _ trI⟩
    · exact h.elim
  · exact h.elim
theorem cs_list {c : Bool} : CaS W (bList c) (rListOf W.K) := by
  intro Z σ A B H ms xs vs Q hr tx h
  unfold bList at h
  split at h
  · rename_i x
    split at h
    · rename_i ts e
      obtain ⟨v, rfl, tv⟩ := tx.one
      obtain ⟨a, ws, rfl, q, r⟩ := items_ok hr tv e
      exact ⟨a, ws, rfl, q, (alloc_ok hr r h).2⟩
    · exact h.elim
  · exact h.elim
noncomputable def rTupT (K : PySem.W.Frag) : List V → Hp → VK → Prop := fun xs H Q => ∃ p ys, xs = [.ref p] ∧ ((SqL K H p ys ∧ ∀ l, H l = none → Q (.ref l) (upd H l (.tup ys))) ∨ (SqT K H p ys ∧ Q (.ref p) H))
theorem call_tupT : CallR X (.type "tuple") (rTupT X.K) := call_tuple_of
theorem items_case {A B : List Addr} {H : Hp} {ms : List MO} {x : T} {v : V} {ts : List T} (hr : Rl W A B ms H) (h : Tr W A B H x v) (e : items ms x = some ts) : ∃ a vs, v = .ref a ∧ Trs W A B H ts vs ∧ (SqL W.K H a vs ∨ (x = .tup ts ∧ H a = some (.tup vs))) := by
  cases x with
  | tup l =>
    simp [items] at e; subst e
    simp only [Tr] at h
    obtain ⟨a, vs, rfl, _, q, r⟩ := h
    exact ⟨a, vs, rfl, r, .inr ⟨rfl, q⟩⟩
  | lst l =>
    obtain ⟨a, vs, e1, q, r⟩ := litems_ok hr h (ts := ts) (by simpa [litems, items] using e)
    exact ⟨a, vs, e1, r, .inl (SqL.of q)⟩
  | cel k =>
    obtain ⟨a, vs, e1, q, r⟩ := litems_ok hr h (ts := ts) (by simpa [litems, items] using e)
    exact ⟨a, vs, e1, r, .inl (SqL.of q)⟩
  | scr l =>
    simp [items] at e; subst e
    simp only [Tr] at h
    obtain ⟨a, vs, rfl, q, r⟩ := h
    refine ⟨a, vs, rfl, r, .inl ?_⟩
    rcases q with ⟨_, q⟩ | q
    · exact .inl q
    · exact .inr q
  | _ => simp [items] at e
theorem cs_tuple : CaS W bTuple (rTupT W.K) := by
  intro Z σ A B H ms xs vs Q hr tx h
  unfold bTuple at h
  split at h
  · rename_i x
    split at h
    · rename_i ts e
      obtain ⟨v, rfl, tv⟩ := tx.one
      obtain ⟨a, ws, rfl, r, q⟩ := items_case hr tv e
      refine ⟨a, ws, rfl, ?_⟩
      rcases q with q | ⟨rfl, q⟩
      · refine .inl ⟨q, fun l hl => h _ _ (Ext.same (same_new hl _)) (hr.same (same_new hl _)) _ ?_⟩
        simp only [Tr]
        exact ⟨l, ws, rfl, hr.tree hl, upd_same, r.ext (Ext.same (same_new hl _))⟩
      · exact .inr ⟨SqT.of q, h.now hr _ tv⟩
    · exact h.elim
  · exact h.elim
theorem cs_is : CaS W bIs (rIsT W.K) := by
  intro Z σ A B H ms xs vs Q hr tx h
  unfold bIs at h
  split at h
  · rename_i x n
    split at h
    · rename_i b e
      obtain ⟨v, u, rfl, tv, tu⟩ := tx.two
      simp only [Tr] at tu; subst tu
      have top := deref_ok hr tv
      unfold isT at e
      have q := h.now hr _ trB
      split at e
      · rename_i i hd
        rw [hd] at top
        have := Top.int top
        subst this
        split at e
        · rename_i hn; subst hn; cases e; exact ⟨_, _, _, _, rfl, .int i, by rfl, q⟩
        · split at e
          · rename_i hn; subst hn; cases e; exact ⟨_, _, _, _, rfl, .int i, by rfl, q⟩
          · split at e
            · rename_i hn; subst hn; cases e; exact ⟨_, _, _, _, rfl, .int i, by rfl, q⟩
            · split at e
              · rename_i hn; subst hn; cases e; exact ⟨_, _, _, _, rfl, .int i, by rfl, q⟩
              · cases e
      · rename_i i hd
        rw [hd] at top
        have := Top.bl top
        subst this
        split at e
        · rename_i hn; subst hn; cases e; exact ⟨_, _, _, _, rfl, .bl i, by rfl, q⟩
        · split at e
          · rename_i hn; subst hn; cases e; exact ⟨_, _, _, _, rfl, .bl i, by rfl, q⟩
          · split at e
            · rename_i hn; subst hn; cases e; exact ⟨_, _, _, _, rfl, .bl i, by rfl, q⟩
            · split at e
              · rename_i hn; subst hn; cases e; exact ⟨_, _, _, _, rfl, .bl i, by rfl, q⟩
              · cases e
      · rename_i i hd
        rw [hd] at top
        obtain ⟨a, ws, rfl, ha, _⟩ := Top.lst top
        split at e
        · rename_i hn; subst hn; cases e; exact ⟨_, _, _, _, rfl, .lst ha, by rfl, q⟩
        · split at e
          · rename_i hn; subst hn; cases e; exact ⟨_, _, _, _, rfl, .lst ha, by rfl, q⟩
          · split at e
            · rename_i hn; subst hn; cases e; exact ⟨_, _, _, _, rfl, .lst ha, by rfl, q⟩
            · split at e
              · rename_i hn; subst hn; cases e; exact ⟨_, _, _, _, rfl, .lst ha, by rfl, q⟩
              · cases e
      · rename_i i hd
        rw [hd] at top
        obtain ⟨a, ws, rfl, ha, _⟩ := Top.tup top
        split at e
        · rename_i hn; subst hn; cases e; exact ⟨_, _, _, _, rfl, .tup ha, by rfl, q⟩
        · split at e
          · rename_i hn; subst hn; cases e; exact ⟨_, _, _, _, rfl, .tup ha, by rfl, q⟩
          · split at e
            · rename_i hn; subst hn; cases e; exact ⟨_, _, _, _, rfl, .tup ha, by rfl, q⟩
            · split at e
              · rename_i hn; subst hn; cases e; exact ⟨_, _, _, _, rfl, .tup ha, by rfl, q⟩
              · cases e
      · rename_i hd
        rw [hd] at top
        have := Top.non top
        subst this
        split at e
        · rename_i hn; subst hn; cases e; exact ⟨_, _, _, _, rfl, .non, by rfl, q⟩
        · split at e
          · rename_i hn; subst hn; cases e; exact ⟨_, _, _, _, rfl, .non, by rfl, q⟩
          · split at e
            · rename_i hn; subst hn; cases e; exact ⟨_, _, _, _, rfl, .non, by rfl, q⟩
            · split at e
              · rename_i hn; subst hn; cases e; exact ⟨_, _, _, _, rfl, .non, by rfl, q⟩
              · cases e
      · cases e
    · exact h.elim
  · exact h.elim
noncomputable def MtS (W : Wd) (T' : String) (f : List MO → T → List T → R T) (r : V → List V → Hp → VK → Prop) : Prop := ∀ (Z : ZT) (σ : St) (A B : List Addr) (H : Hp) (ms : List MO) (x : T) (xs : List T) (v : V) (vs : List V) (Q : VK), Rl W A B ms H → Tr W A B H x v → Trs W A B H xs vs → wpR W Z σ A B H (f ms x xs) (VQ W B Q) → r v vs H Q
theorem ms_append : MtS W "list" mAppend rAppendQ := by
  intro Z σ A B H ms x xs v vs Q hr tx tr h
  unfold mAppend at h
  split at h
  · rename_i k y
    split at h
    · rename_i ts hm
      split at h
      · rename_i hl
        simp only [Tr] at tx
        obtain ⟨a, hk, rfl⟩ := tx
        obtain ⟨ws, q, r⟩ := hr.ce k _ a hm hk
        obtain ⟨w, rfl, tw⟩ := tr.one
        refine ⟨a, ws, w, rfl, rfl, q, by rw [← r.length]; exact most_lt (Nat.le_of_lt hl), fun H' s e => ?_⟩
        have e0 : Ext A H A H' := ⟨⟨[], by simp, fun c h => by cases h⟩, fun b o n q => s b o (fun z => n (z ▸ List.mem_of_getElem? hk)) q, fun b o q => by
          by_cases z : b = a
          · subst z; exact ⟨_, e⟩
          · exact ⟨o, s b o z q⟩⟩
        obtain ⟨e1, r1⟩ := hr.put hk s (m := .lst (ts ++ [y])) ⟨_, e, (r.ext e0).append (Trs.cons (tw.ext e0) Trs.nil)⟩
        exact h _ _ e1 r1 _ trN
      · exact h.elim
    · exact h.elim
  · exact h.elim
variable {es : List Expr} {ea : DA} {apos cpos : Pos}
theorem de_methL {name : Str} {id : String} {f : List MO → T → List T → R T} {r : V → List V → Hp → VK → Prop} (slot : Slot "list" name id) (hty : typeOf (.builtin id) = pure (.type "method_descriptor")) (hm : MtR X id r) (hf : MtS W "list" f r) (ho : PE X b (tD W Z db)) (ha : PA X (a :: es) (tDA W Z ea))
    (hbase : autoParam (attributeBase b name X.env (eval b X.env) = eval b X.env) L2.aR._auto_1)
    (hfew : autoParam (((backTo cpos (starEach (a :: es) X.env)).all (fun x => !x.1) && (backToKw cpos (keywordEach [] X.env)).all (fun x => x.1.isSome)
      && decide ((a :: es).length + ([] : List Keyword).length + (if ([] : List Keyword).isEmpty then 0 else 1) < 30)) = true) L2.aR._auto_1)
    (hline : autoParam ((apos.endLine == cpos.line) = true) L2.aR._auto_1) (hs : autoParam (starEach (a :: es) X.env = (false, eval a X.env) :: starEach es X.env) L2.aR._auto_1) (hplain : autoParam ((backTo cpos (starEach es X.env)).any (·.1) = false) L2.aR._auto_1) :
    PE X (.Call (.Attribute b name apos) (a :: es) [] cpos) (tD W Z (dMethL f db ea)) :=
  (pe_bm PySem.F.plainAttrs_list slot hty hm ho ha hbase hfew hline hs hplain).weak fun σ H Q zq => L2.el6 zq fun A B ρ hr hl h => ⟨A, B, ρ, hr, hl, h.bind.imp fun x m A1 H1 _ e1 r1 h1 v tv => by
    split at h1
    · rename_i hi
      obtain ⟨ts, hi⟩ := Option.isSome_iff_exists.mp hi
      obtain ⟨a', vs', rfl, q, _⟩ := litems_ok r1 tv hi
      exact ⟨.inl ⟨rfl, vs', SqL.of q⟩, A1, B, ⟨ρ.loc, m⟩, r1, hl.ext e1, h1.bind.imp fun ys m2 A2 H2 _ e2 r2 h2 us tu => hf Z σ A2 B H2 m2 x ys _ us Q r2 (tv.ext e2) tu h2⟩
    · exact h1.elim⟩
end
end Dn
namespace Dn
open PySem L2
noncomputable def wpS (W : Wd) (Z : ZT) (A B : List Addr) (H : Hp) (r : RS) (D : Ends) : Prop := match r with
  | .go ρ => ∀ A' H' σ', Ext A H A' H' → Rl W A' B ρ.ms H' → Lc W A' B H' ρ.loc σ' → D.nx σ' H'
  | .ret t m => ∀ A' H' v, Ext A H A' H' → Rl W A' B m H' → Tr W A' B H' t v → D.rt v H'
  | .brk ρ => ∀ A' H' σ', Ext A H A' H' → Rl W A' B ρ.ms H' → Lc W A' B H' ρ.loc σ' → D.bk σ' H'
  | .cont ρ => ∀ A' H' σ', Ext A H A' H' → Rl W A' B ρ.ms H' → Lc W A' B H' ρ.loc σ' → D.ct σ' H'
  | .exc c ρ => ∀ A' H' σ', Ext A H A' H' → Rl W A' B ρ.ms H' → Lc W A' B H' ρ.loc σ' → Z c σ' H'
  | .bad => False
noncomputable def tDs (W : Wd) (Z : ZT) (d : DS) : TS := fun D σ H => ∃ A B ρ, Rl W A B ρ.ms H ∧ Lc W A B H ρ.loc σ ∧ wpS W Z A B H (d ρ) D
section
variable {W : Wd} {Z : ZT} {A A' B : List Addr} {H H' : Hp} {r : RS} {D D' : Ends} {σ : St}
theorem wpS.ext (e : Ext A H A' H') (h : wpS W Z A B H r D) : wpS W Z A' B H' r D := by
  cases r with
  | go ρ => exact fun A2 H2 s f => h A2 H2 s (e.trans f)
  | ret t m => exact fun A2 H2 s f => h A2 H2 s (e.trans f)
  | brk ρ => exact fun A2 H2 s f => h A2 H2 s (e.trans f)
  | cont ρ => exact fun A2 H2 s f => h A2 H2 s (e.trans f)
  | exc c ρ => exact fun A2 H2 s f => h A2 H2 s (e.trans f)
  | bad => exact h
theorem wpS.of {α : Type} {x : R α} {ρ : Env} {f : α → List MO → RS} (hl : Lc W A B H ρ.loc σ) (h : wpS W Z A B H (sOf x ρ f) D) : wpR W Z σ A B H x fun a m A' H' => wpS W Z A' B H' (f a m) D := by
  cases x with
  | ok a m => exact fun A2 H2 e l => wpS.ext e h
  | exc c m => exact fun A2 H2 e l => h A2 H2 σ e l (hl.ext e)
  | bad => exact h
end
section
variable {X : Cx} {W : Wd} {Z : ZT} {a b c : Expr} {da db dc : DE} {pos : Pos} {d1 d2 : DS} {st : Stmt} {rest : List Stmt} {s1 s2 : List Stmt} {tc : DT}
theorem dss_nil : PSs X [] (tDs W Z sNext) := pss_nil.weak fun D σ H zq => L2.el6 zq fun A B ρ hr hl h => h A H σ Ext.refl hr hl
theorem dss_one (h : PS X st (tDs W Z d1)) : PSs X [st] (tDs W Z d1) := pss_one h
theorem dss_cons (h1 : PS X st (tDs W Z d1)) (h2 : PSs X rest (tDs W Z d2)) : PSs X (st :: rest) (tDs W Z (sSeq d1 d2)) := (pss_cons h1 h2).weak fun D σ H zq => L2.el6 zq fun A B ρ hr hl h => ⟨A, B, ρ, hr, hl, by
  show wpS W Z A B H (d1 ρ) { D with nx := tDs W Z d2 D }
  unfold sSeq at h
  cases e : d1 ρ with
  | go ρ' =>
    rw [e] at h
    exact fun A2 H2 σ2 f l c => ⟨A2, B, ρ', l, c, wpS.ext f h⟩
  | ret t m => rw [e] at h; exact h
  | brk ρ' => rw [e] at h; exact h
  | cont ρ' => rw [e] at h; exact h
  | exc c ρ' => rw [e] at h; exact h
  | bad => rw [e] at h; exact h⟩
theorem ds_ret (ha : PE X a (tD W Z da)) : PS X (.Return (some a) pos) (tDs W Z (sRet da)) := (ps_ret ha).weak fun D σ H zq => L2.el6 zq fun A B ρ hr hl h => ⟨A, B, ρ, hr, hl, (h.of hl).imp fun t m A1 H1 _ e1 r1 h1 v tv => h1 A1 H1 v Ext.refl r1 tv⟩
theorem ds_expr (ha : PE X a (tD W Z da)) (hs : autoParam (swapsWith a none pos.line X.env = pure false) L2.aR._auto_1) : PS X (.Expr a pos) (tDs W Z (sExpr da)) := (ps_expr ha hs).weak fun D σ H zq => L2.el6 zq fun A B ρ hr hl h => ⟨A, B, ρ, hr, hl, (h.of hl).imp fun t m A1 H1 _ e1 r1 h1 v tv => h1 A1 H1 σ Ext.refl r1 (hl.ext e1)⟩
theorem ds_if (hc : PT X c (tDT W Z tc)) (h1 : PSs X s1 (tDs W Z d1)) (h2 : PSs X s2 (tDs W Z d2)) : PS X (.If c s1 s2 pos) (tDs W Z (sIf tc d1 d2)) := (ps_if hc h1 h2).weak fun D σ H zq => L2.el6 zq fun A B ρ hr hl h => ⟨A, B, ρ, hr, hl, (h.of hl).imp fun x m A1 H1 _ e1 r1 h1 => by
  cases x with
  | true => exact iteT ⟨A1, B, ⟨ρ.loc, m⟩, r1, hl.ext e1, h1⟩
  | false => exact iteF ⟨A1, B, ⟨ρ.loc, m⟩, r1, hl.ext e1, h1⟩⟩
noncomputable def tDg (W : Wd) (Z : ZT) (g : DG) : TG := fun v σ H Q => ∃ A B ρ t, Rl W A B ρ.ms H ∧ Lc W A B H ρ.loc σ ∧ Tr W A B H t v ∧ wpS W Z A B H (g t ρ) { nx := Q, rt := fun _ _ => False }
noncomputable def tDgs (W : Wd) (Z : ZT) (gs : List DG) : TGs := fun vs σ H Q => ∃ A B ρ ts, Rl W A B ρ.ms H ∧ Lc W A B H ρ.loc σ ∧ Trs W A B H ts vs ∧ wpS W Z A B H (gAll gs ts ρ) { nx := Q, rt := fun _ _ => False }
theorem dg_name {i : Nat} {x : Str} (h : PG X (.Name x pos) (L2.gName i)) : PG X (.Name x pos) (tDg W Z (gName i)) := h.weak fun v σ H Q ⟨A, B, ρ, t, hr, hl, ht, h⟩ => h A H _ Ext.refl hr (hl.set ht i)
theorem dgs_nil : PGs X [] (tDgs W Z []) := by
  intro pins s σ H vs us Q I r h
  refine pgs_nil pins s σ H vs us Q I r ?_
  obtain ⟨A, B, ρ, ts, hr, hl, ht, h⟩ := h
  cases ts with
  | nil => simp only [Trs] at ht; exact ⟨ht, h A H σ Ext.refl hr hl⟩
  | cons t ts => exact h.elim
theorem dgs_cons {e : Expr} {es : List Expr} {g : DG} {gs : List DG} (h1 : PG X e (tDg W Z g)) (h2 : PGs X es (tDgs W Z gs))
    (hs : autoParam ((assignEach (e :: es) X.env).map (·.2) = assign e X.env :: (assignEach es X.env).map (·.2)) L2.aR._auto_1) : PGs X (e :: es) (tDgs W Z (g :: gs)) := by
  intro pins s σ H vs us Q I r h
  refine pgs_cons h1 h2 hs pins s σ H vs us Q I r ?_
  obtain ⟨A, B, ρ, ts, hr, hl, ht, h⟩ := h
  cases ts with
  | nil => exact h.elim
  | cons t ts =>
    simp only [Trs] at ht
    obtain ⟨v, vr, rfl, tv, tr⟩ := ht
    refine ⟨v, vr, rfl, A, B, ρ, t, hr, hl, tv, ?_⟩
    simp only [gAll] at h
    cases e : g t ρ with
    | go ρ' =>
      rw [e] at h
      exact fun A2 H2 σ2 f l c => ⟨A2, B, ρ', ts, l, c, tr.ext f, wpS.ext f h⟩
    | ret t m => rw [e] at h; exact h
    | brk ρ' => rw [e] at h; exact h
    | cont ρ' => rw [e] at h; exact h
    | exc c ρ' => rw [e] at h; exact h
    | bad => rw [e] at h; exact h
theorem dg_tup {es : List Expr} {k : Nat} {gs : List DG} (hc : X.calm = true) (h : PGs X es (tDgs W Z gs))
    (hn : autoParam ((assignEach es X.env).length = gs.length) L2.aR._auto_1) (hst : autoParam ((assignEach es X.env).findIdx? (·.1) = none) L2.aR._auto_1) : PG X (.Tuple es k pos) (tDg W Z (gTup gs)) := by
  intro pins s σ H v u Q I r hw
  obtain ⟨A, B, ρ, t, hr, hl, ht, hw⟩ := hw
  cases t with
  | tup ts =>
    simp only [Tr] at ht
    obtain ⟨a, vs, rfl, n, q, tr⟩ := ht
    simp only [gTup] at hw
    split at hw
    · rename_i e
      exact pg_tup hc h hn hst pins s σ H _ u Q I r ⟨a, vs, rfl, SqT.of q, by rw [← tr.length]; exact e, A, B, ρ, ts, hr, hl, tr, hw⟩
    · exact hw.elim
  | _ => exact hw.elim
theorem asg_ok {g : DG} {σ : St} {H : Hp} {D : Ends} (h : tDs W Z (sAsg da g) D σ H) (hg : ∀ t ρ, (∃ ρ', g t ρ = .go ρ') ∨ (∃ c ρ', g t ρ = .exc c ρ') ∨ g t ρ = .bad) : tAsg (tD W Z da) (tDg W Z g) D σ H := by
  obtain ⟨A, B, ρ, hr, hl, h⟩ := h
  refine ⟨A, B, ρ, hr, hl, (h.of hl).imp fun t m A1 H1 _ e1 r1 h1 v tv => ⟨A1, B, ⟨ρ.loc, m⟩, t, r1, hl.ext e1, tv, ?_⟩⟩
  rcases hg t ⟨ρ.loc, m⟩ with ⟨ρ', e⟩ | ⟨c, ρ', e⟩ | e
  · rw [e] at h1 ⊢; exact h1
  · rw [e] at h1 ⊢; exact h1
  · rw [e] at h1; exact h1.elim
noncomputable def Tg (g : DG) : Prop := ∀ t ρ, (∃ ρ', g t ρ = .go ρ') ∨ (∃ c ρ', g t ρ = .exc c ρ') ∨ g t ρ = .bad
theorem tg_name (i : Nat) : Tg (gName i) := fun t ρ => .inl ⟨_, rfl⟩
theorem tg_all : ∀ {gs : List DG}, (∀ g ∈ gs, Tg g) → ∀ ts ρ, (∃ ρ', gAll gs ts ρ = .go ρ') ∨ (∃ c ρ', gAll gs ts ρ = .exc c ρ') ∨ gAll gs ts ρ = .bad
  | [], _, [], ρ => .inl ⟨ρ, rfl⟩
  | [], _, _ :: _, ρ => .inr (.inr rfl)
  | _ :: _, _, [], ρ => .inr (.inr rfl)
  | g :: gs, h, t :: ts, ρ => by
    simp only [gAll]
    rcases h g (by simp) t ρ with ⟨ρ', e⟩ | ⟨c, ρ', e⟩ | e
    · rw [e]; exact tg_all (fun g' hg => h g' (by simp [hg])) ts ρ'
    · rw [e]; exact .inr (.inl ⟨c, ρ', rfl⟩)
    · rw [e]; exact .inr (.inr rfl)
theorem tg_tup {gs : List DG} (h : ∀ g ∈ gs, Tg g) : Tg (gTup gs) := fun t ρ => by
  unfold gTup
  split
  · split
    · exact tg_all h _ _
    · exact .inr (.inr rfl)
  · exact .inr (.inr rfl)
theorem tgs_nil : ∀ g ∈ ([] : List DG), Tg g := fun g h => by cases h
theorem tgs_cons {g : DG} {gs : List DG} (h : Tg g) (r : ∀ g ∈ gs, Tg g) : ∀ g' ∈ g :: gs, Tg g' := fun g' hm => by
  rcases List.mem_cons.mp hm with e | e
  · rw [e]; exact h
  · exact r g' e
theorem ds_asg {tg : Expr} {g : DG} (he : PE X a (tD W Z da)) (hg : PG X tg (tDg W Z g)) (ht : Tg g) (hs : autoParam (swapsWithSole [tg] a pos.line X.env = pure false) L2.aR._auto_1) (hw : autoParam (swappedStores [tg] a X.env = pure none) L2.aR._auto_1)
    (h1 : autoParam ((assignEach [tg] X.env).map (·.2) = [assign tg X.env]) L2.aR._auto_1) : PS X (.Assign [tg] a pos) (tDs W Z (sAsg da g)) :=
  (ps_asg he hg hs hw h1).weak fun D σ H h => asg_ok h ht
theorem ds_set {i : Nat} {x : Str} {pos' : Pos} (hN : X.N.Nodup) (hi : X.N[i]? = some x) (hx : Loc X.env.scope x) (he : PE X a (tD W Z da)) (hs : autoParam (swapsWith a (some (.Name x pos')) pos.line X.env = pure false) L2.aR._auto_1) (hf : X.fn x = true ∨ X.env.scope.names.lookup x = some .local := by first | exact .inl rfl | exact .inr rfl | assumption) :
    PS X (.Assign [.Name x pos'] a pos) (tDs W Z (sAsg da (gName i))) :=
  (ps_set hN hi hx he hs hf).weak fun D σ H zq => L2.el6 zq fun A B ρ hr hl h => ⟨A, B, ρ, hr, hl, (h.of hl).imp fun t m A1 H1 _ e1 r1 h1 v tv => h1 A1 H1 _ Ext.refl r1 ((hl.ext e1).set tv i)⟩
theorem for_ok {it : DI} {ks : List Nat} {g : DG} {bd : DS} {σ : St} {H : Hp} {D : Ends} {wi : TI} (hw : ∀ σ H R, tDI W Z it σ H R → wi σ H R) (ht : Tg g) (h : tDs W Z (sFor it ks g bd) D σ H) : tFor wi (tDg W Z g) (tDs W Z bd) D σ H := by
  obtain ⟨A, B, ρ, hr, hl, h⟩ := h
  refine hw σ H _ ⟨A, B, ρ, hr, hl, (h.of hl).imp fun s m A1 H1 _ e1 r1 h1 J hJ => ?_⟩
  have l1 := hl.ext e1
  refine ⟨fun i n σ H' => i + n = s.ts.length ∧ ∃ A' ρ', Ext A1 H1 A' H' ∧ Rl W A' B ρ'.ms H' ∧ Lc W A' B H' ρ'.loc σ ∧ wpS W Z A' B H' (forD s ks g bd (s.ts.drop i) ρ') D, ⟨s.ts.length, by (first|lia|omega), A1, kill ks ⟨ρ.loc, m⟩, Ext.refl, r1, l1.kill ks, by simpa using h1⟩, ?_⟩
  rintro i n σ2 H2 ⟨hi, A2, ρ2, e2, r2, c2, h2⟩
  by_cases hlt : i < s.ts.length
  · have ed : s.ts.drop i = s.ts[i] :: s.ts.drop (i + 1) := List.drop_eq_getElem_cons hlt
    rw [ed, forD] at h2
    split at h2
    · rename_i hfit
      obtain ⟨hg1, hy⟩ := (hJ A2 H2 ρ2.ms B (fun b hb => .inl hb) e2 r2 hfit).2 i _ (List.getElem?_eq_getElem hlt)
      refine .inr ⟨hg1, fun σ3 H3 => ∃ A' ρ', Ext A1 H1 A' H3 ∧ Rl W A' B ρ'.ms H3 ∧ Lc W A' B H3 ρ'.loc σ3 ∧ wpS W Z A' B H3 (forD s ks g bd (s.ts.drop (i + 1)) ρ') D, fun σ3 H3 ⟨A', ρ', q⟩ => ⟨n - 1, by (first|lia|omega), by (first|lia|omega), A', ρ', q⟩, fun x H3 hx => ?_⟩
      obtain ⟨sm, tx⟩ := hy x H3 hx
      have e3 : Ext A2 H2 A2 H3 := Ext.same sm
      refine ⟨A2, B, ρ2, s.ts[i], r2.same sm, c2.ext e3, tx, ?_⟩
      have h3 : wpS W Z A2 B H3 _ D := wpS.ext e3 h2
      rcases ht s.ts[i] ρ2 with ⟨ρ3, e⟩ | ⟨c, ρ3, e⟩ | e
      · rw [e] at h3 ⊢
        rw [RS.then_go] at h3
        refine fun A4 H4 σ4 f4 l4 c4 => ⟨A4, B, ρ3, l4, c4, ?_⟩
        have e14 : Ext A1 H1 A4 H4 := (e2.trans e3).trans f4
        have h4 := wpS.ext f4 h3
        cases eb : bd ρ3 with
        | go ρ5 =>
          rw [eb] at h4
          exact fun A5 H5 σ5 f5 l5 c5 => ⟨A5, kill ks ρ5, e14.trans f5, l5, c5.kill (ms := ρ5.ms) ks, wpS.ext f5 h4⟩
        | cont ρ5 =>
          rw [eb] at h4
          exact fun A5 H5 σ5 f5 l5 c5 => ⟨A5, kill ks ρ5, e14.trans f5, l5, c5.kill (ms := ρ5.ms) ks, wpS.ext f5 h4⟩
        | brk ρ5 =>
          rw [eb] at h4
          exact fun A5 H5 σ5 f5 l5 c5 => h4 A5 H5 σ5 f5 l5 (c5.kill (ms := ρ5.ms) ks)
        | ret t m => rw [eb] at h4; exact h4
        | exc c ρ5 => rw [eb] at h4; exact h4
        | bad => rw [eb] at h4; exact h4
      · rw [e] at h3 ⊢; exact h3
      · rw [e] at h3; exact h3.elim
    · exact h2.elim
  · have e : i = s.ts.length := by (first|lia|omega)
    rw [List.drop_eq_nil_of_le (by (first|lia|omega)), forD] at h2
    split at h2
    · rename_i hfit
      subst e
      exact .inl ⟨(hJ A2 H2 ρ2.ms B (fun b hb => .inl hb) e2 r2 hfit).1, h2 A2 H2 σ2 Ext.refl r2 c2⟩
    · exact h2.elim
theorem ds_for {tg iter : Expr} {body : List Stmt} {it : DI} {ks : List Nat} {g : DG} {bd : DS} (hp : PassesOwn (model X.prog X.w) X.A X.env X.xe) (hc : X.calm = true) (hi : PI X tg iter (tDI W Z it)) (hg : PG X tg (tDg W Z g)) (ht : Tg g) (hb : PSs X body (tDs W Z bd)) (hs : ∀ v, foldedSetIterable iter X.env v = pure v := by intro _; rfl) : PS X (.For tg iter body [] pos) (tDs W Z (sFor it ks g bd)) :=
  (ps_for hp hc hi hg hb hs).weak fun D σ H h => for_ok (fun _ _ _ q => q) ht h
theorem walk_f {A B B' : List Addr} {H : Hp} (hB : ∀ b ∈ B', b ∈ B ∨ H b = none) : ∀ x o, H x = some o → Nd A B x → Nd A B' x := fun x o q n => ⟨n.1, fun z => by
  rcases hB x z with e | e
  · exact n.2 e
  · rw [e] at q; cases q⟩
theorem di_seq {tg : Expr} (hK : X.K = W.K) (ha : PE X a (tD W Z da)) : PI X tg a (tDI W Z (iSeq da)) := (pi_sq (tg := tg) ha).weak fun σ H R zq => L2.el6 zq fun A B ρ hr hl h => ⟨A, B, ρ, hr, hl, h.bind.imp fun x m A1 H1 _ e1 r1 h1 v tv => by
  split at h1
  · rename_i s es
    have h2 := h1.now r1
    have lists : ∀ (p : Addr) (ts : List T), s = ⟨none, ts⟩ → (∀ A2 H2 B', (∀ b ∈ B', b ∈ B ∨ H1 b = none) → Ext A1 H1 A2 H2 → ∃ vs, SqL X.K H2 p vs ∧ Trs W A2 B' H2 ts vs) → Walk W B s (Itl X.K p) A1 H1 := by
      rintro p ts rfl hq A2 H2 m2 B' hB e2 r2 _
      obtain ⟨vs, q, r⟩ := hq A2 H2 B' hB e2
      have hlen := r.length
      refine ⟨⟨vs, q, by show vs.length ≤ ts.length; (first|lia|omega)⟩, fun i t hi => ?_⟩
      obtain ⟨w, hw, tw⟩ := r.get hi
      refine ⟨⟨vs, w, q, hw⟩, fun x H' ⟨e, hx⟩ => ?_⟩
      subst e
      have := hx vs q
      rw [hw] at this; cases this
      exact ⟨Same.refl _, tw⟩
    cases x with
    | lst l =>
      simp [srcOf] at es; subst es
      have tv0 := tv
      simp only [Tr] at tv
      obtain ⟨p, vs, rfl, n, q, r⟩ := tv
      refine ⟨p, rfl, .inl ⟨⟨vs, SqL.of q⟩, h2 _ (lists p l rfl fun A2 H2 B' hB e2 => ⟨vs, SqL.of (e2.fr _ _ n.1 q), (r.conv (walk_f hB) fun _ _ q => q).ext e2⟩)⟩⟩
    | tup l =>
      simp [srcOf] at es; subst es
      simp only [Tr] at tv
      obtain ⟨p, vs, rfl, n, q, r⟩ := tv
      refine ⟨p, rfl, .inr ⟨⟨vs, SqT.of q⟩, h2 _ ?_⟩⟩
      intro A2 H2 m2 B' hB e2 r2 _
      have q2 : SqT X.K H2 p vs := SqT.of (e2.fr _ _ n.1 q)
      have r3 := (r.conv (walk_f hB) fun _ _ q => q).ext e2
      have hlen := r3.length
      refine ⟨⟨vs, q2, by show vs.length ≤ l.length; (first|lia|omega)⟩, fun i t hi => ?_⟩
      obtain ⟨w, hw, tw⟩ := r3.get hi
      refine ⟨⟨vs, w, q2, hw⟩, fun x H' ⟨e, hx⟩ => ?_⟩
      subst e
      have := hx vs q2
      rw [hw] at this; cases this
      exact ⟨Same.refl _, tw⟩
    | cel k =>
      simp only [srcOf] at es
      split at es
      · rename_i l hm
        cases es
        simp only [Tr] at tv
        obtain ⟨p, hk, rfl⟩ := tv
        obtain ⟨vs, q, r⟩ := r1.ce k _ p hm hk
        refine ⟨p, rfl, .inl ⟨⟨vs, SqL.of q⟩, h2 _ ?_⟩⟩
        intro A2 H2 m2 B' hB e2 r2 hfit
        simp only [Src.fits, decide_eq_true_eq] at hfit
        obtain ⟨vs2, q2, r3⟩ := r2.ce k _ p hfit (e2.get hk)
        have hlen := r3.length
        refine ⟨⟨vs2, SqL.of q2, by show vs2.length ≤ l.length; (first|lia|omega)⟩, fun i t hi => ?_⟩
        obtain ⟨w, hw, tw⟩ := r3.get hi
        refine ⟨⟨vs2, w, SqL.of q2, hw⟩, fun x H' ⟨e, hx⟩ => ?_⟩
        subst e
        have := hx vs2 (SqL.of q2)
        rw [hw] at this; cases this
        exact ⟨Same.refl _, tw⟩
      · cases es
    | _ => simp [srcOf] at es
  · exact h1.elim⟩
end
end Dn
namespace Dn
open PySem L2
section
variable {X : Cx} {W : Wd} {Z : ZT} {a b c : Expr} {da db dc : DE} {pos : Pos} {tc : DT}
theorem walk_rng {B : List Addr} {A1 : List Addr} {H1 : Hp} (lo : Int) (n : Nat) : Walk W B ⟨none, rngT lo n⟩ (Itr lo n) A1 H1 := by
  intro A2 H2 m2 B' hB e2 r2 _
  refine ⟨by show n ≤ (rngT lo n).length; simp [rngT], fun i t hi => ?_⟩
  have hlt : i < n := by
    have := (List.getElem?_eq_some_iff.mp hi).1
    simpa [rngT] using this
  have et : t = .int (lo + i) := by
    have := (List.getElem?_eq_some_iff.mp hi).2
    simpa [rngT] using this.symm
  refine ⟨hlt, fun x H' ⟨e, hx⟩ => ?_⟩
  subst e hx et
  exact ⟨Same.refl _, trI⟩
variable {es : List Expr} {ea : DA} {p : Pos}
theorem di_rng1 {tg : Expr} (hg : Gl X "range") (hm : X.mg "range" = none) (ha : PA X [a] (tDA W Z ea)) (hs : autoParam (starEach [a] X.env = [(false, eval a X.env)]) L2.aR._auto_1) : PI X tg (.Call (.Name "range" p) [a] [] pos) (tDI W Z (iRng1 ea)) :=
  (pi_range1 hg hm ha hs).weak fun σ H R zq => L2.el6 zq fun A B ρ hr hl h => ⟨A, B, ρ, hr, hl, h.bind.imp fun xs m A1 H1 ex e1 r1 h1 vs tv => by
    split at h1
    · rename_i j
      split at h1
      · rename_i hj
        obtain ⟨v, rfl, tw⟩ := tv.one
        have ew : v = .int j := by simpa only [Tr] using tw
        subst ew
        have hj : -1000000 ≤ j ∧ j ≤ 1000000 := hj
        exact ⟨j, rfl, by (first|lia|omega), by (first|lia|omega), h1.now r1 _ (walk_rng 0 j.toNat)⟩
      · exact h1.elim
    · exact h1.elim⟩
theorem di_rng2 {tg : Expr} (hg : Gl X "range") (hm : X.mg "range" = none) (ha : PA X [a, b] (tDA W Z ea)) (hs : autoParam (starEach [a, b] X.env = [(false, eval a X.env), (false, eval b X.env)]) L2.aR._auto_1) (hs2 : autoParam (starEach [b] X.env = [(false, eval b X.env)]) L2.aR._auto_1) : PI X tg (.Call (.Name "range" p) [a, b] [] pos) (tDI W Z (iRng2 ea)) :=
  (pi_range2 hg hm ha hs hs2).weak fun σ H R zq => L2.el6 zq fun A B ρ hr hl h => ⟨A, B, ρ, hr, hl, h.bind.imp fun xs m A1 H1 ex e1 r1 h1 vs tv => by
    split at h1
    · rename_i i j
      split at h1
      · rename_i hj
        obtain ⟨v, u, rfl, tv, tu⟩ := tv.two
        simp only [Tr] at tv tu; subst tv tu
        have hj : -1000000 ≤ i ∧ i ≤ 1000000 ∧ -1000000 ≤ j ∧ j ≤ 1000000 := hj
        exact ⟨i, j, rfl, ⟨by (first|lia|omega), by (first|lia|omega), by (first|lia|omega), by (first|lia|omega)⟩, h1.now r1 _ (walk_rng i (j - i).toNat)⟩
      · exact h1.elim
    · exact h1.elim⟩
theorem Nd.nil {A B : List Addr} {x : Addr} (n : Nd A B x) : Nd [] (A ++ B) x := ⟨by simp, fun z => by
  rcases List.mem_append.mp z with z | z
  · exact n.1 z
  · exact n.2 z⟩
theorem Nd.cons {A B : List Addr} {x : Addr} (n : Nd [] (A ++ B) x) : Nd A B x := ⟨fun z => n.2 (List.mem_append_left _ z), fun z => n.2 (List.mem_append_right _ z)⟩
theorem Nd.drop {A B : List Addr} {x : Addr} (n : Nd A B x) : Nd [] B x := ⟨by simp, n.2⟩
mutual
theorem Tr.turn {A B A' B' : List Addr} {H : Hp} (f : ∀ x, Nd A B x → Nd A' B' x) : ∀ {t : T} {v : V}, t.clean = true → Tr W A B H t v → Tr W A' B' H t v
  | .non, _, _, h => by simpa only [Tr] using h
  | .bl _, _, _, h => by simpa only [Tr] using h
  | .int _, _, _, h => by simpa only [Tr] using h
  | .str _, _, _, h => by simpa only [Tr] using h
  | .ty _, _, _, h => by simpa only [Tr] using h
  | .lst ts, _, c, h => by
    simp only [Tr] at h ⊢
    obtain ⟨a, vs, rfl, n, q, r⟩ := h
    exact ⟨a, vs, rfl, f a n, q, Trs.turn f (by simpa [T.clean] using c) r⟩
  | .tup ts, _, c, h => by
    simp only [Tr] at h ⊢
    obtain ⟨a, vs, rfl, n, q, r⟩ := h
    exact ⟨a, vs, rfl, f a n, q, Trs.turn f (by simpa [T.clean] using c) r⟩
  | .ins k ts, _, c, h => by
    simp only [Tr] at h ⊢
    obtain ⟨a, dx, vs, rfl, n, q, l, r⟩ := h
    exact ⟨a, dx, vs, rfl, f a n, q, l, Trs.turn f (by simpa [T.clean] using c) r⟩
  | .dic ks ts, _, c, h => by
    simp only [Tr] at h ⊢
    obtain ⟨a, vs, rfl, n, q, r⟩ := h
    exact ⟨a, vs, rfl, f a n, q, Trs.turn f (by simp [T.clean] at c; exact c.2) r⟩
  | .cel k, _, c, _ => by simp [T.clean] at c
  | .exn _, _, _, h => by
    simp only [Tr] at h ⊢
    obtain ⟨a, rfl, n, q⟩ := h
    exact ⟨a, rfl, f a n, q⟩
  | .scr ts, _, c, h => by
    simp only [Tr] at h ⊢
    obtain ⟨a, vs, rfl, q, r⟩ := h
    refine ⟨a, vs, rfl, ?_, Trs.turn f (by simpa [T.clean] using c) r⟩
    rcases q with ⟨n, q⟩ | q
    · exact .inl ⟨f a n, q⟩
    · exact .inr q
theorem Trs.turn {A B A' B' : List Addr} {H : Hp} (f : ∀ x, Nd A B x → Nd A' B' x) : ∀ {ts : List T} {vs : List V}, T.cleans ts = true → Trs W A B H ts vs → Trs W A' B' H ts vs
  | [], _, _, h => by simpa only [Trs] using h
  | t :: ts, _, c, h => by
    simp only [Trs] at h ⊢
    obtain ⟨v, r, rfl, h1, h2⟩ := h
    simp only [T.cleans, Bool.and_eq_true] at c
    exact ⟨v, r, rfl, Tr.turn f c.1 h1, Trs.turn f c.2 h2⟩
end
theorem Tr.flat {A B A' B' : List Addr} {H H' : Hp} {t : T} {v : V} (c : t.flat = true) (h : Tr W A B H t v) : Tr W A' B' H' t v := by
  cases t with
  | non => simpa only [Tr] using h
  | bl _ => simpa only [Tr] using h
  | int _ => simpa only [Tr] using h
  | str _ => simpa only [Tr] using h
  | ty _ => simpa only [Tr] using h
  | _ => simp [T.flat] at c
theorem reifys_ok {A B : List Addr} {H : Hp} {ms : List MO} {n : Nat} (ih : ∀ t v t', Tr W A B H t v → reify ms n t = some t' → Tr W [] B H t' v ∧ t'.clean = true) : ∀ (ts : List T) (vs : List V) (ts' : List T), Trs W A B H ts vs → ts.mapM (reify ms n) = some ts' → Trs W [] B H ts' vs ∧ T.cleans ts' = true
  | [], vs, ts', h, e => by
    simp at e; subst e
    simp only [Trs] at h; subst h
    exact ⟨Trs.nil, rfl⟩
  | t :: ts, vs, ts', h, e => by
    simp only [Trs] at h
    obtain ⟨v, r, rfl, h1, h2⟩ := h
    simp only [List.mapM_cons, Option.bind_eq_bind, Option.bind_eq_some_iff, Option.pure_def, Option.some.injEq] at e
    obtain ⟨t1, e1, ts1, e2, rfl⟩ := e
    obtain ⟨k1, k2⟩ := ih t v t1 h1 e1
    obtain ⟨k3, k4⟩ := reifys_ok ih ts r ts1 h2 e2
    exact ⟨Trs.cons k1 k3, by simp [T.cleans, k2, k4]⟩
theorem reify_ok {A B : List Addr} {H : Hp} {ms : List MO} (hr : Rl W A B ms H) : ∀ (n : Nat) (t : T) (v : V) (t' : T), Tr W A B H t v → reify ms n t = some t' → Tr W [] B H t' v ∧ t'.clean = true := by
  intro n
  induction n with
  | zero =>
    intro t v t' h e
    unfold reify at e
    split at e
    · rename_i c
      cases e
      exact ⟨Tr.turn (fun _ => Nd.drop) c h, c⟩
    · cases e
  | succ n ih =>
    intro t v t' h e
    unfold reify at e
    split at e
    · rename_i c
      cases e
      exact ⟨Tr.turn (fun _ => Nd.drop) c h, c⟩
    · rename_i nc
      split at e
      · rename_i k
        simp only [Tr] at h
        obtain ⟨a, hk, rfl⟩ := h
        have hB : a ∉ B := hr.dj a (List.mem_of_getElem? hk)
        split at e
        · rename_i ts hm
          simp only [Option.map_eq_some_iff] at e
          obtain ⟨ts', e, rfl⟩ := e
          obtain ⟨vs, q, r⟩ := hr.ce k _ a hm hk
          obtain ⟨k1, k2⟩ := reifys_ok ih ts vs ts' r e
          simp only [Tr]
          exact ⟨⟨a, vs, rfl, ⟨by simp, hB⟩, q, k1⟩, by simpa [T.clean] using k2⟩
        · rename_i cc ts hm
          simp only [Option.map_eq_some_iff] at e
          obtain ⟨ts', e, rfl⟩ := e
          obtain ⟨dx, vs, q, l, r⟩ := hr.ce k _ a hm hk
          obtain ⟨k1, k2⟩ := reifys_ok ih ts vs ts' r e
          simp only [Tr]
          exact ⟨⟨a, dx, vs, rfl, ⟨by simp, hB⟩, q, by rw [k1.length, ← r.length]; exact l, k1⟩, by simpa [T.clean] using k2⟩
        · rename_i ks ts hm
          split at e
          · rename_i hc
            simp only [Option.map_eq_some_iff] at e
            obtain ⟨ts', e, rfl⟩ := e
            obtain ⟨vs, q, r⟩ := hr.ce k _ a hm hk
            obtain ⟨k1, k2⟩ := reifys_ok ih ts vs ts' r e
            have hl : ts.length = ts'.length := by rw [k1.length, ← r.length]
            simp only [Tr]
            rw [← hl]
            exact ⟨⟨a, vs, rfl, ⟨by simp, hB⟩, q, k1⟩, by simp [T.clean, k2, hc]⟩
          · cases e
        · cases e
      · rename_i ts
        simp only [Option.map_eq_some_iff] at e
        obtain ⟨ts', e, rfl⟩ := e
        simp only [Tr] at h
        obtain ⟨a, vs, rfl, n, q, r⟩ := h
        obtain ⟨k1, k2⟩ := reifys_ok ih ts vs ts' r e
        simp only [Tr]
        exact ⟨⟨a, vs, rfl, n.drop, q, k1⟩, by simpa [T.clean] using k2⟩
      · rename_i ts
        simp only [Option.map_eq_some_iff] at e
        obtain ⟨ts', e, rfl⟩ := e
        simp only [Tr] at h
        obtain ⟨a, vs, rfl, n, q, r⟩ := h
        obtain ⟨k1, k2⟩ := reifys_ok ih ts vs ts' r e
        simp only [Tr]
        exact ⟨⟨a, vs, rfl, n.drop, q, k1⟩, by simpa [T.clean] using k2⟩
      · rename_i cc ts
        simp only [Option.map_eq_some_iff] at e
        obtain ⟨ts', e, rfl⟩ := e
        simp only [Tr] at h
        obtain ⟨a, dx, vs, rfl, n, q, l, r⟩ := h
        obtain ⟨k1, k2⟩ := reifys_ok ih ts vs ts' r e
        simp only [Tr]
        exact ⟨⟨a, dx, vs, rfl, n.drop, q, by rw [k1.length, ← r.length]; exact l, k1⟩, by simpa [T.clean] using k2⟩
      · cases e
end
end Dn
namespace L2
open PySem PySem.Spec PyProof.Rows
section
variable {X : Cx} {CX : CXT} {k : Nat} {f C : Addr} {fd : FuncData} {ps : List Str} {sp : Sp} {x m : Str} {p pos apos : Pos} {e o : Expr} {es : List Expr} {ta : TE} {t : TA}
theorem run_fnX {E : XK} {pins : List (Addr × Obj)} {σ : St} {H : Hp} {s : Shared} {Q : VK} {us : List Value} {vs : List V} (F : FnOk X.prog X.w X.K X.mg X.base CX k f fd ps sp) (hr : Room k X.A) (hb : Binds X.K fd ps [])
    (I : Inv X pins σ H s) (r : Vals vs us) (h : sp vs H Q E) (hx : ∀ ex s', CX X.stack H s E ex s' → X.xe ex s') : wpAny (model X.prog X.w) X.A (call (.ref f) us) (EP X pins σ Q) X.xe s := by
  have hl : (us ++ []).length = ps.length := by rw [List.append_nil, ← r.length]; exact F.len _ _ _ _ h
  have hb' := hb s us I.kIn hl
  rw [List.append_nil] at hb'
  refine wpAny_call (codeAny_mono (F.run X.A X.stack s H ⟨us, []⟩ us vs Q E hr I.env0 hb' r h) fun r s' hq => ?_)
  cases r with
  | error e => exact hx e s' hq
  | ok fl =>
    cases fl with
    | ret u => exact I.after hq
    | next => exact False.elim hq
    | brk => exact False.elim hq
    | cont => exact False.elim hq
noncomputable def tCallX (X : Cx) (CX : CXT) (sp : Sp) (t : TA) : TE := fun σ H Q => t σ H fun vs H1 => ∃ E, sp vs H1 Q E ∧ ∀ pins s, Inv X pins σ H1 s → ∀ ex s', CX X.stack H1 s E ex s' → X.xe ex s'
structure CalD (P : Program) (w : World) (K : PySem.W.Frag) (mg : Str → Option Value) (base : Heap) (CX : CXT) (k : Nat) (x : Str) (ps : List Str) (sp : Sp) : Prop where
  ex : ∃ f fd, FnOk P w K mg base CX k f fd ps sp ∧ mg x = some (.ref f) ∧ PySem.W.keepIn K (.ref f) = true ∧ Binds K fd ps []
theorem pe_callX (C : CalD X.prog X.w X.K X.mg X.base CX k x ps sp) (hr : Room k X.A) (hg : Gl X x) (ha : PA X (e :: es) t) (hdb : autoParam ((x == ("__debug__" : Str)) = false) L2.aK._auto_1)
    (he : autoParam (starEach (e :: es) X.env = (false, eval e X.env) :: starEach es X.env) L2.aR._auto_1) (hpl : autoParam ((backTo pos (starEach es X.env)).any (·.1) = false) L2.aR._auto_1) : PE X (.Call (.Name x p) (e :: es) [] pos) (tCallX X CX sp t) := by
  obtain ⟨f, fd, F, hm, hk, hb⟩ := C.ex
  intro pins s σ H Q I h
  refine wpAny_Call_Name_kw (ld_glob I hg hm ?_ hdb)
  refine PySem.W.callWith_K (h₀ := X.base) I.ok.mod.kin hk (thn (ha pos pins s σ H _ I h) fun us s1 zq => L2.el5 zq fun vs H1 I1 r q => ⟨I1.kIn, ?_⟩) he hpl
  obtain ⟨E, q1, q2⟩ := q
  exact run_fnX F hr hb I1 r q1 (q2 pins s1 I1)
end
end L2
namespace Dn
open PySem L2
noncomputable def spD (W : Wd) (n : Nat) (F : Fn) : Sp := fun vs H Q E => vs.length = n ∧ ∃ A B ts ms, Rl W A B ms H ∧ Trs W A B H ts vs ∧ match F ts ms with
  | .ok t m => ∀ A' H' v, Ext A H A' H' → Rl W A' B m H' → Tr W A' B H' t v → Q v H'
  | .exc c m => ∀ A' H', Ext A H A' H' → Rl W A' B m H' → E (.ref (W.cl c)) none H'
  | .bad => False
noncomputable def ZP (X : Cx) (CX : CXT) (W : Wd) (Z : ZT) : Prop := ∀ (pins : List (Addr × Obj)) (σ : St) (H : Hp) (s : Shared) (E : XK) (c : Nat) (e : Value) (s' : Shared), L2.Inv X pins σ H s → (∀ cls oa H', E cls oa H' → cls = .ref (W.cl c) ∧ Z c σ H') → CX X.stack H s E e s' → X.xe e s'
section
variable {X : Cx} {CX : CXT} {W : Wd} {Z : ZT} {a b c : Expr} {da db dc : DE} {pos p : Pos} {es : List Expr} {ea : DA} {k : Nat} {x : Str} {ps : List Str} {F : Fn}
theorem Rl.hand {A B : List Addr} {ms : List MO} {H : Hp} (h : Rl W A B ms H) : Rl W [] (A ++ B) [] H :=
  ⟨by simp, fun a ha => (List.not_mem_nil ha).elim, fun b hb => (List.mem_append.mp hb).elim (fun z => h.there z) (fun z => h.bt b z), rfl, fun k m a hm => by simp at hm⟩
theorem Rl.handB {A B : List Addr} {ms : List MO} {H : Hp} (h : Rl W A B ms H) : Rl W [] B [] H :=
  ⟨by simp, fun a ha => (List.not_mem_nil ha).elim, h.bt, rfl, fun k m a hm => by simp at hm⟩
theorem Ext.all {A' : List Addr} {H H' : Hp} (e : Ext [] H A' H') : Same H H' := fun b o q => e.fr b o (by simp) q
theorem callP_ok {A B : List Addr} {H : Hp} {ms : List MO} {ts : List T} {vs : List V} {σ : St} {Q : VK} (hz : ZP X CX W Z) (hlen : F ts [] ≠ .bad → vs.length = ps.length) (hr : Rl W A B ms H) (ht : Trs W A B H ts vs) (h : wpR W Z σ A B H (callP F ms ts) (VQ W B Q)) :
    ∃ E, spD W ps.length F vs H Q E ∧ ∀ pins s, L2.Inv X pins σ H s → ∀ ex s', CX X.stack H s E ex s' → X.xe ex s' := by
  unfold callP at h
  split at h
  · rename_i hc
    have ht' := Trs.turn (A' := []) (B' := A ++ B) (fun _ => Nd.nil) hc ht
    cases hF : F ts [] with
    | ok t m' =>
      rw [hF] at h
      simp only at h
      split at h
      · rename_i t' e
        refine ⟨fun _ _ _ => False, ⟨hlen (by rw [hF]; exact fun z => by cases z), [], A ++ B, ts, [], hr.hand, ht', ?_⟩, fun pins s I ex s' q => hz pins σ H s _ 0 ex s' I (fun _ _ _ z => z.elim) q⟩
        rw [hF]
        intro A' H' v e1 r1 tv
        obtain ⟨k1, k2⟩ := reify_ok r1 4 t v t' tv e
        exact h A H' (Ext.same e1.all) (hr.same e1.all) v (Tr.turn (fun _ => Nd.cons) k2 k1)
      · exact h.elim
    | exc c m' =>
      rw [hF] at h
      refine ⟨fun cls _ H' => cls = .ref (W.cl c) ∧ Z c σ H', ⟨hlen (by rw [hF]; exact fun z => by cases z), [], A ++ B, ts, [], hr.hand, ht', ?_⟩, fun pins s I ex s' q => hz pins σ H s _ c ex s' I (fun _ _ _ z => z) q⟩
      rw [hF]
      intro A' H' e1 r1
      exact ⟨rfl, h A H' (Ext.same e1.all) (hr.same e1.all)⟩
    | bad => rw [hF] at h; exact h.elim
  · exact h.elim
theorem mapM_reify {A B : List Addr} {H : Hp} {ms : List MO} {ts us : List T} {vs : List V} (hr : Rl W A B ms H) (ht : Trs W A B H ts vs) (e : ts.mapM (reify ms 4) = some us) : Trs W [] B H us vs := (reifys_ok (fun t v t' h e => reify_ok hr 4 t v t' h e) ts vs us ht e).1
theorem callC_ok {A B : List Addr} {H : Hp} {ms : List MO} {ts : List T} {vs : List V} {σ : St} {Q : VK} (hz : ZP X CX W Z) (hlen : ts.length = vs.length → vs.length = ps.length) (hr : Rl W A B ms H) (ht : Trs W A B H ts vs) (h : wpR W Z σ A B H (callC F ms ts) (VQ W B Q)) :
    ∃ E, spD W ps.length F vs H Q E ∧ ∀ pins s, L2.Inv X pins σ H s → ∀ ex s', CX X.stack H s E ex s' → X.xe ex s' := by
  unfold callC at h
  have hl := hlen ht.length
  split at h
  · exact h.elim
  · rename_i us e
    have ht' := mapM_reify hr ht e
    cases hF : F us [] with
    | ok t m' =>
      rw [hF] at h
      simp only at h
      split at h
      · rename_i hf
        refine ⟨fun _ _ _ => False, ⟨hl, [], B, us, [], hr.handB, ht', ?_⟩, fun pins s I ex s' q => hz pins σ H s _ 0 ex s' I (fun _ _ _ z => z.elim) q⟩
        rw [hF]
        intro A' H' v e1 r1 tv
        exact h A H' (Ext.same e1.all) (hr.same e1.all) v (Tr.flat hf tv)
      · exact h.elim
    | exc c m' =>
      rw [hF] at h
      refine ⟨fun cls _ H' => cls = .ref (W.cl c) ∧ Z c σ H', ⟨hl, [], B, us, [], hr.handB, ht', ?_⟩, fun pins s I ex s' q => hz pins σ H s _ c ex s' I (fun _ _ _ z => z) q⟩
      rw [hF]
      intro A' H' e1 r1
      exact ⟨rfl, h A H' (Ext.same e1.all) (hr.same e1.all)⟩
    | bad => rw [hF] at h; exact h.elim
noncomputable def DA.len (ea : DA) (n : Nat) : Prop := ∀ ρ ts m, ea ρ = .ok ts m → ts.length = n
theorem len_nil : DA.len dNil 0 := fun ρ ts m e => by
  simp only [dNil] at e; cases e; rfl
theorem len_cons {n : Nat} (h : DA.len ea n) : DA.len (dCons da ea) (n + 1) := fun ρ ts m e => by
  unfold dCons at e
  cases h1 : da ρ with
  | ok x m1 =>
    rw [h1] at e
    simp only [R.bind_ok] at e
    cases h2 : ea ⟨ρ.loc, m1⟩ with
    | ok xs m2 =>
      rw [h2] at e
      simp only [R.bind_ok] at e
      cases e
      simp [h _ _ _ h2]
    | exc c m2 => rw [h2] at e; cases e
    | bad => rw [h2] at e; cases e
  | exc c m1 => rw [h1] at e; cases e
  | bad => rw [h1] at e; cases e
theorem de_fnP (C : CalD X.prog X.w X.K X.mg X.base CX k x ps (spD W ps.length F)) (hz : ZP X CX W Z) (hr : Room k X.A) (hg : Gl X x) (ha : PA X (a :: es) (tDA W Z ea)) (hn : DA.len ea ps.length) (hdb : autoParam ((x == ("__debug__" : Str)) = false) L2.aK._auto_1)
    (he : autoParam (starEach (a :: es) X.env = (false, eval a X.env) :: starEach es X.env) L2.aR._auto_1) (hpl : autoParam ((backTo pos (starEach es X.env)).any (·.1) = false) L2.aR._auto_1) : PE X (.Call (.Name x p) (a :: es) [] pos) (tD W Z (dCB (callP F) ea)) :=
  (pe_callX C hr hg ha hdb he hpl).weak fun σ H Q zq => L2.el6 zq fun A B ρ hr hl h => ⟨A, B, ρ, hr, hl, h.bind.imp fun ts m A1 H1 ex e1 r1 h1 vs tv => callP_ok hz (fun _ => by rw [← tv.length]; exact hn _ _ _ ex) r1 tv h1⟩
theorem de_fnC (C : CalD X.prog X.w X.K X.mg X.base CX k x ps (spD W ps.length F)) (hz : ZP X CX W Z) (hr : Room k X.A) (hg : Gl X x) (ha : PA X (a :: es) (tDA W Z ea)) (hn : DA.len ea ps.length) (hdb : autoParam ((x == ("__debug__" : Str)) = false) L2.aK._auto_1)
    (he : autoParam (starEach (a :: es) X.env = (false, eval a X.env) :: starEach es X.env) L2.aR._auto_1) (hpl : autoParam ((backTo pos (starEach es X.env)).any (·.1) = false) L2.aR._auto_1) : PE X (.Call (.Name x p) (a :: es) [] pos) (tD W Z (dCB (callC F) ea)) :=
  (pe_callX C hr hg ha hdb he hpl).weak fun σ H Q zq => L2.el6 zq fun A B ρ hr hl h => ⟨A, B, ρ, hr, hl, h.bind.imp fun ts m A1 H1 ex e1 r1 h1 vs tv => callC_ok hz (fun _ => by rw [← tv.length]; exact hn _ _ _ ex) r1 tv h1⟩
theorem fun_den {P : Program} {w : World} {K : PySem.W.Frag} {mg : Str → Option Value} {base : Heap} {st : Stmt} {N : List Str} {d : DS} {qual : Str} {fl : Addr} {fd : FuncData} (G : Fun K x qual st fl fd) (S : FnScope N ps (defScope st))
    (hb : ∀ (f : Addr) (cdv : Value) (A : Around) (outer : List PySem.Env) (s : Shared) (H : Hp) (E : XK), Room k (A.deeper (PyProof.Rows.envOfC qual (defScope st) s.heap.objs.size f cdv)) →
      PSs (cxOf CX P w K mg base N qual (defScope st) f cdv A outer s H E) (defBody st) (tDs W (fun c _ H' => E (.ref (W.cl c)) none H') d)) : FnOk P w K mg base CX (k + 1) fl fd ps (spD W ps.length (runD N.length d)) := by
  obtain ⟨oc, od, kV, doc, pm, an, cdv, ct, osl, rfl, lk, hcd⟩ := G.ex
  refine fn_of lk hcd S (fun vs H Q E h => h.1) fun A outer s H vs Q E hr hsp => ⟨_, hb fl cdv A outer s H E hr, ?_⟩
  obtain ⟨hl, A', B, ts, ms, r, t, h⟩ := hsp
  refine ⟨A', B, ⟨ts.map some ++ List.replicate (N.length - ts.length) none, ms⟩, r, ⟨by simp [L2.start, t.length], fun i u q => ?_⟩, ?_⟩
  · have hi : i < ts.length := by
      apply Decidable.byContradiction
      intro hn
      rw [List.getElem?_append_right (by simpa using hn)] at q
      have := List.mem_of_getElem? q
      simp at this
    rw [List.getElem?_append_left (by simpa using hi)] at q
    simp only [List.getElem?_map, Option.map_eq_some_iff] at q
    obtain ⟨u', q, e⟩ := q
    cases e
    obtain ⟨v, qv, tv⟩ := t.get q
    refine ⟨v, ?_, tv⟩
    unfold L2.start
    rw [List.getElem?_append_left (by simpa [← t.length] using hi), List.getElem?_map, qv]
    rfl
  · unfold runD at h
    generalize d ⟨ts.map some ++ List.replicate (N.length - ts.length) none, ms⟩ = r0 at h
    cases r0 with
    | go ρ => exact fun A2 H2 σ2 e2 r2 l2 => h A2 H2 .non e2 r2 trN
    | ret t m => exact fun A2 H2 v e2 r2 tv => h A2 H2 v e2 r2 tv
    | brk ρ => exact h.elim
    | cont ρ => exact h.elim
    | exc c ρ => exact fun A2 H2 σ2 e2 r2 l2 => h A2 H2 e2 r2
    | bad => exact h.elim
theorem fd_den {P : Program} {w : World} {K : PySem.W.Frag} {mg : Str → Option Value} {base : Heap} {st : Stmt} {N : List Str} {d : DS} (Fd : Fd K mg x st ps) (S : FnScope N ps (defScope st))
    (hb : ∀ (f : Addr) (cdv : Value) (A : Around) (outer : List PySem.Env) (s : Shared) (H : Hp) (E : XK), Room k (A.deeper (PyProof.Rows.envOfC x (defScope st) s.heap.objs.size f cdv)) →
      PSs (cxOf CX P w K mg base N x (defScope st) f cdv A outer s H E) (defBody st) (tDs W (fun c _ H' => E (.ref (W.cl c)) none H') d)) : CalD P w K mg base CX (k + 1) x ps (spD W ps.length (runD N.length d)) := by
  obtain ⟨f, fd, G, a, b⟩ := Fd.ex
  exact ⟨f, fd, fun_den G S hb, a, G.kp, .all b⟩
end
end Dn
namespace Dn
open PySem L2
section
variable {X : Cx} {W : Wd} {Z : ZT} {pos : Pos} {js : List Nat} {it : DI} {tc : DT} {te : DE}
theorem Lc.sc {A B : List Addr} {H : Hp} {loc : List (Option T)} {σ : St} {t : T} {v : V} (h : Lc W A B H loc σ) (tv : Tr W A B H t v) (js : List Nat) : Lc W A B H (scD js loc t) (stC js σ (some v)) := by
  refine ⟨by simp [scD, stC], fun i u q => ?_⟩
  cases i with
  | zero =>
    simp [scD] at q
    subst q
    exact ⟨v, rfl, tv⟩
  | succ i =>
    simp only [scD, List.getElem?_cons_succ, List.getElem?_map, Option.map_eq_some_iff] at q
    obtain ⟨j, hj, q⟩ := q
    have q' : loc[j]? = some (some u) := by
      cases e : loc[j]? with
      | none => rw [e] at q; cases q
      | some o => rw [e] at q; simp at q; rw [q]
    obtain ⟨w, ew, tw⟩ := h.2 j u q'
    refine ⟨w, ?_, tw⟩
    simp only [stC, List.getElem?_cons_succ, List.getElem?_map, hj, Option.map_some, ew, Option.getD_some]
theorem comp_ok {c : Bool} {wi : TI} {tc' : TT} {te' : TE} {σ : St} {H : Hp} {Q : VK} {Z' : ZT} (hi : ∀ σ H R, tDI W Z it σ H R → wi σ H R) (hc : ∀ σ H R, tDT W Z' tc σ H R → tc' σ H R) (he : ∀ σ H R, tD W Z' te σ H R → te' σ H R) (h : tD W Z (dComp c js it tc te) σ H Q) : tComp js wi tc' te' σ H Q := by
  obtain ⟨A, B, ρ, hr, hl, h⟩ := h
  refine hi σ H _ ⟨A, B, ρ, hr, hl, h.bind.imp fun s m A1 H1 ex e1 r1 h1 J hJ D H2 hD sm hD2 => ?_⟩
  have l1 := hl.ext e1
  cases hcD : compD s (scD js ρ.loc) tc te s.ts [] m with
  | bad => rw [hcD] at h1; exact h1.elim
  | exc c' m' =>
    exfalso
    clear h1 h hJ
    have : ∀ (xs acc : List T) (m : List MO), compD s (scD js ρ.loc) tc te xs acc m ≠ .exc c' m' := by
      intro xs
      induction xs with
      | nil => intro acc m; unfold compD; split <;> simp
      | cons x xs ih =>
        intro acc m
        unfold compD
        split
        · cases tc ⟨scD js ρ.loc x, m⟩ with
          | ok b m1 =>
            simp only [R.sure_ok]
            split
            · cases te ⟨scD js ρ.loc x, m1⟩ with
              | ok t m2 =>
                simp only [R.sure_ok]
                split
                · exact ih _ _
                · simp
              | exc _ _ => simp
              | bad => simp
            · exact ih _ _
          | exc _ _ => simp
          | bad => simp
        · simp
    exact this _ _ _ hcD
  | ok ts mF =>
    rw [hcD] at h1
    simp only [R.bind_ok] at h1
    have r2 : Rl W A1 (D :: B) m H2 := r1.addB hD sm ⟨_, hD2⟩
    have hDB : D ∉ B := fun z => by obtain ⟨o, q⟩ := r1.bt D z; rw [hD] at q; cases q
    have eB : ∀ b ∈ D :: B, b ∈ B ∨ H1 b = none := fun b hb => by
      rcases List.mem_cons.mp hb with e | e
      · exact .inr (e ▸ hD)
      · exact .inl e
    refine ⟨fun i n acc H' => i + n = s.ts.length ∧ ∃ A' m' accT, Ext A1 H1 A' H' ∧ Rl W A' (D :: B) m' H' ∧ Lc W A' (D :: B) H' ρ.loc σ ∧ H' D = some (.lst acc) ∧ Trs W A' (D :: B) H' accT acc ∧ compD s (scD js ρ.loc) tc te (s.ts.drop i) accT m' = .ok ts mF,
      ⟨s.ts.length, by (first|lia|omega), A1, m, [], Ext.same sm, r2, (l1.conv (addB_f hD) fun _ _ q => q).ext (Ext.same sm), hD2, Trs.nil, by simpa using hcD⟩, ?_⟩
    rintro i n acc H3 ⟨hin, A3, m3, accT, e3, r3, l3, hD3, t3, hc3⟩
    by_cases hlt : i < s.ts.length
    · have ed : s.ts.drop i = s.ts[i] :: s.ts.drop (i + 1) := List.drop_eq_getElem_cons hlt
      rw [ed, compD] at hc3
      split at hc3
      · rename_i hfit
        obtain ⟨hg1, hy⟩ := (hJ A3 H3 m3 (D :: B) eB e3 r3 hfit).2 i _ (List.getElem?_eq_getElem hlt)
        refine .inr ⟨hg1, fun acc' H' => ∃ A' m' accT, Ext A1 H1 A' H' ∧ Rl W A' (D :: B) m' H' ∧ Lc W A' (D :: B) H' ρ.loc σ ∧ H' D = some (.lst acc') ∧ Trs W A' (D :: B) H' accT acc' ∧ compD s (scD js ρ.loc) tc te (s.ts.drop (i + 1)) accT m' = .ok ts mF, fun acc' H' q => ⟨n - 1, by (first|lia|omega), by (first|lia|omega), q⟩, fun x H4 hx => ?_⟩
        obtain ⟨sm4, tx⟩ := hy x H4 hx
        have e4 : Ext A3 H3 A3 H4 := Ext.same sm4
        have r4 := r3.same sm4
        have l4 := l3.ext e4
        have t4 := t3.ext e4
        have hD4 := sm4 _ _ hD3
        refine hc _ _ _ ⟨A3, D :: B, ⟨scD js ρ.loc s.ts[i], m3⟩, r4, l4.sc tx js, ?_⟩
        cases htc : tc ⟨scD js ρ.loc s.ts[i], m3⟩ with
        | exc _ _ => rw [htc] at hc3; cases hc3
        | bad => rw [htc] at hc3; cases hc3
        | ok bb m5 =>
          rw [htc] at hc3
          simp only [R.sure_ok] at hc3
          intro A5 H5 e5 r5
          have l5 := l4.ext e5
          have t5 := t4.ext e5
          have hnA : D ∉ A3 := fun z => r4.dj D z (List.mem_cons_self ..)
          have hD5 := e5.fr _ _ hnA hD4
          have e15 : Ext A1 H1 A5 H5 := (e3.trans e4).trans e5
          cases bb with
          | false =>
            refine iteF ⟨A5, m5, accT, e15, r5, l5, hD5, t5, ?_⟩
            simpa using hc3
          | true =>
            refine iteT ?_
            simp only [if_true] at hc3
            refine he _ _ _ ⟨A5, D :: B, ⟨scD js ρ.loc s.ts[i], m5⟩, r5, l5.sc (tx.ext e5) js, ?_⟩
            cases hte : te ⟨scD js ρ.loc s.ts[i], m5⟩ with
            | exc _ _ => rw [hte] at hc3; cases hc3
            | bad => rw [hte] at hc3; cases hc3
            | ok t m6 =>
              rw [hte] at hc3
              simp only [R.sure_ok] at hc3
              split at hc3
              · rename_i hm
                intro A6 H6 e6 r6 v tv
                have hnA5 : D ∉ A5 := fun z => r5.dj D z (List.mem_cons_self ..)
                have hD6 := e6.fr _ _ hnA5 hD5
                have t6 := t5.ext e6
                refine ⟨hD6, most_lt (by rw [← t6.length]; exact Nat.le_of_lt hm), fun H7 sb hD7 => ?_⟩
                have hB : D ∈ D :: B := List.mem_cons_self ..
                exact ⟨A6, m6, accT ++ [t], (e15.trans e6).butN hD sb, r6.butB sb hB ⟨_, hD7⟩, (l5.ext e6).butB sb hB, hD7, (t6.butB sb hB).append (Trs.cons (tv.butB sb hB) Trs.nil), hc3⟩
              · cases hc3
      · cases hc3
    · have e : i = s.ts.length := by (first|lia|omega)
      rw [List.drop_eq_nil_of_le (by (first|lia|omega)), compD] at hc3
      split at hc3
      · rename_i hfit
        cases hc3
        subst e
        refine .inl ⟨(hJ A3 H3 _ (D :: B) eB e3 r3 hfit).1, ?_⟩
        unfold alloc at h1
        split at h1
        · split at h1
          · have tc3 : Trs W (A3 ++ [D]) B H3 ts acc := t3.conv (fun x o q n => ⟨fun z => by
              rcases List.mem_append.mp z with z | z
              · exact n.1 z
              · rw [List.mem_singleton.mp z] at n; exact n.2 (List.mem_cons_self ..), fun z => n.2 (List.mem_cons_of_mem _ z)⟩) fun k a q => by
                rw [List.getElem?_append_left (List.getElem?_eq_some_iff.mp q).1]; exact q
            have rF := r3.toCell hDB (m := .lst ts) ⟨acc, hD3, tc3⟩
            have eF : Ext A1 H1 (A3 ++ [D]) H3 := ⟨by
              obtain ⟨l, hA, hn⟩ := e3.pre
              refine ⟨l ++ [D], by rw [hA]; simp, fun c hc => ?_⟩
              rcases List.mem_append.mp hc with z | z
              · exact hn c z
              · rw [List.mem_singleton.mp z]; exact hD, e3.fr, e3.tr⟩
            refine h1 _ _ eF rF _ ?_
            simp only [Tr]
            exact ⟨D, by rw [r3.len]; simp, rfl⟩
          · refine h1 _ _ e3 r3.unB _ ?_
            simp only [Tr]
            exact ⟨D, acc, rfl, ⟨fun z => r3.dj D z (List.mem_cons_self ..), hDB⟩, hD3, t3.conv (fun x o q n => ⟨n.1, fun z => n.2 (List.mem_cons_of_mem _ z)⟩) fun _ _ q => q⟩
        · exact h1.elim
      · cases hc3
noncomputable abbrev Zn : ZT := fun _ _ _ => False
variable {elt iter cnd : Expr} {x : Str} {px : Pos} {scope : Scope} {ys : List Str}
theorem de_comp0 {c : Bool} (B : BlkSc X scope x js ys) (hc : X.calm = true) (hi : PI X (.Name x px) iter (tDI W Z it))
    (he : ∀ cl C s H fp pins, PE (blk X scope cl C s H fp pins (x :: ys)) elt (tD W Zn te)) (hs : ∀ v, foldedSetIterable iter X.env v = pure v := by intro _; rfl) :
    PE X (.ListComp elt [⟨.Name x px, iter, [], 0⟩] scope pos) (tD W Z (dComp c js it dTrue te)) :=
  (pe_comp B hc hi (fun _ _ _ _ _ _ => pts_nil) he hs).weak fun σ H Q h => comp_ok (Z' := Zn) (fun _ _ _ q => q) (fun σ H R zq => L2.el6 zq fun A B ρ hr hl q => q.now hr) (fun _ _ _ q => q) h
end
end Dn
namespace L2
end L2
namespace Dn
open PySem L2
section
variable {X : Cx} {W : Wd} {Z : ZT} {a b c : Expr} {da db dc : DE} {pos : Pos}
theorem de_ty {e : Expr} {n : String} (h : PE X e (tC (.ty n))) : PE X e (tD W Z (dC (.ty n))) := de_C h fun _ _ _ => by simp only [Tr]
theorem de_glob {x : Str} {i : Int} (hg : Gl X x) (hm : ∃ t, X.mg x = some (.int i t)) (hd : autoParam ((x == ("__debug__" : Str)) = false) L2.aK._auto_1) : PE X (.Name x pos) (tD W Z (dC (.int i))) := by
  obtain ⟨t, e⟩ := hm
  exact de_C (pe_glob (v := .int i) hg e ⟨t, rfl⟩ hd) fun _ _ _ => trI
theorem chain_ok {f g : List MO → T → T → R T} {r r' : R2} (hs : OpS W f r) (hs' : OpS W g r') {σ : St} {H : Hp} {Q : VK} (h : tD W Z (dChain f g da db dc) σ H Q) : tChain r r' (tD W Z da) (tD W Z db) (tD W Z dc) σ H Q := by
  obtain ⟨A, B, ρ, hr, hl, h⟩ := h
  refine ⟨A, B, ρ, hr, hl, h.bind.imp fun x m A1 H1 _ e1 r1 h1 v tv => ⟨A1, B, ⟨ρ.loc, m⟩, r1, hl.ext e1, h1.bind.imp fun y m2 A2 H2 _ e2 r2 h2 u tu => ?_⟩⟩
  refine hs Z σ A2 B H2 m2 x y v u _ r2 (tv.ext e2) tu (h2.bind.imp fun z m3 A3 H3 _ e3 r3 h3 w tw => ?_)
  have l3 := ((hl.ext e1).ext e2).ext e3
  cases z with
  | bl k =>
    simp only [Tr] at tw
    refine ⟨k, tw, ?_⟩
    cases k with
    | true => exact iteT ⟨A3, B, ⟨ρ.loc, m3⟩, r3, l3, h3.bind.imp fun q m4 A4 H4 _ e4 r4 h4 p tp => hs' Z σ A4 B H4 m4 y q u p Q r4 ((tu.ext e3).ext e4) tp h4⟩
    | false => exact iteF (h3.now r3 _ trB)
  | _ => exact h3.elim
theorem de_chain {op op' : CmpOp} {f g : List MO → T → T → R T} {r r' : R2} (ho : OpR X (compareOp op) r) (ho' : OpR X (compareOp op') r') (hs : OpS W f r) (hs' : OpS W g r') (ha : PE X a (tD W Z da)) (hb : PE X b (tD W Z db)) (hc : PE X c (tD W Z dc))
    (hm : lastMarks [op, op'] [b, c] = false := by with_unfolding_all rfl) : PE X (.Compare a [op, op'] [b, c] pos) (tD W Z (dChain f g da db dc)) := (pe_chain ho ho' ha hb hc hm).weak fun σ H Q h => chain_ok hs hs' h
theorem dt_chain {op op' : CmpOp} {f g : List MO → T → T → R T} {r r' : R2} (ho : OpR X (compareOp op) r) (ho' : OpR X (compareOp op') r') (hs : OpS W f r) (hs' : OpS W g r') (ha : PE X a (tD W Z da)) (hb : PE X b (tD W Z db)) (hc : PE X c (tD W Z dc))
    (hm : lastMarks [op, op'] [b, c] = false := by with_unfolding_all rfl) : PT X (.Compare a [op, op'] [b, c] pos) (tDT W Z (dTest (dChain f g da db dc))) := (pt_chain ho ho' ha hb hc hm).weak fun σ H Q h => chain_ok hs hs' (Q := fun x H' => ∃ k, x = .bl k ∧ Q k H') (test_ok h)
end
end Dn
namespace L2
open PySem PySem.Spec PyProof.Rows
structure CalM (P : Program) (w : World) (K : PySem.W.Frag) (mg : Str → Option Value) (base : Heap) (CX : CXT) (k : Nat) (C : Addr) (m : Str) (ps : List Str) (sp : Sp) : Prop where
  ex : ∃ f fd, FnOk P w K mg base CX k f fd ps sp ∧ Meth K C m f ∧ Binds K fd ps []
structure CalI (P : Program) (w : World) (K : PySem.W.Frag) (mg : Str → Option Value) (base : Heap) (CX : CXT) (k : Nat) (C : Addr) (ps : List Str) (sp : Sp) : Prop where
  ex : ∃ f fd, FnOk P w K mg base CX k f fd ps sp ∧ Mk K C f ∧ Binds K fd ps []
structure MethD (K : PySem.W.Frag) (C : Addr) (m qual : Str) (st : Stmt) (ps : List Str) : Prop where
  ex : ∃ f fd, Fun K m qual st f fd ∧ Meth K C m f ∧ Binds K fd ps []
structure InitD (K : PySem.W.Frag) (C : Addr) (qual : Str) (st : Stmt) (ps : List Str) : Prop where
  ex : ∃ f fd, Fun K "__init__" qual st f fd ∧ Mk K C f ∧ Binds K fd ps []
structure ClsD (K : PySem.W.Frag) (mg : Str → Option Value) (C : Addr) (x : Str) (as : List Str) : Prop where
  mgC : mg x = some (.ref C)
  cls : Cls K C
  no : ∀ f ∈ as, NoAttr K C f
theorem cls_mk {K : PySem.W.Frag} {mg : Str → Option Value} {C : Addr} {x : Str} {as : List Str} {h : Heap} (X : K.In h) (G : h.Ns mainGlobals mg) (a : PySem.W.nsIn K mainGlobals x = some (some (.ref C))) (pg : PySem.W.plainGet K C Str.empty = true) (hd : PySem.W.hasDictIn K C = true) (po : PySem.W.plainOver K C = true)
    (sa : PySem.W.findIn K (.ref C) "__setattr__" = some (some (.builtin "object.__setattr__"))) (no : ∀ f ∈ as, PySem.W.findIn K (.ref C) f = some none) : ClsD K mg C x as := ⟨PySem.W.mg_of X G a, ⟨pg, hd, po, sa⟩, no⟩
theorem meth_mk {K : PySem.W.Frag} {C f : Addr} {m qual : Str} {st : Stmt} {ps : List Str} {oc : Value} {od an : Option Addr} {osl : Array (Option Value)} {kV doc pm cdv ct : Value} (a : PySem.W.findIn K (.ref C) m = some (some (.ref f))) (i : PySem.W.isFn K (.ref f) = true)
    (l : K.lookup f = some ⟨oc, od, .func (PySem.W.fnOf m qual (defArgs st) (defBody st) (defScope st) .none kV doc pm an cdv ct), osl⟩) (c : PySem.W.codeIn K cdv qual = true) (kp : PySem.W.keepIn K (.ref f) = true)
    (b : ∀ (kV doc pm : Value) (an : Option Addr) (cdv ct : Value) (us : List Value), us.length = ps.length → bindArgs (PySem.W.fnOf m qual (defArgs st) (defBody st) (defScope st) .none kV doc pm an cdv ct) ⟨us, []⟩ = pure (ps.zip us)) : MethD K C m qual st ps :=
  ⟨f, _, fun_mk l c kp, ⟨a, i, kp⟩, .all (b kV doc pm an cdv ct)⟩
theorem init_mk {K : PySem.W.Frag} {C f : Addr} {qual : Str} {st : Stmt} {ps : List Str} {oc : Value} {od an : Option Addr} {osl : Array (Option Value)} {kV doc pm cdv ct : Value} (mk : PySem.W.makesIn K C = true) (kc : PySem.W.keepIn K (.ref C) = true) (a : PySem.W.findIn K (.ref C) "__init__" = some (some (.ref f))) (i : PySem.W.isFn K (.ref f) = true)
    (l : K.lookup f = some ⟨oc, od, .func (PySem.W.fnOf "__init__" qual (defArgs st) (defBody st) (defScope st) .none kV doc pm an cdv ct), osl⟩) (c : PySem.W.codeIn K cdv qual = true) (kp : PySem.W.keepIn K (.ref f) = true)
    (b : ∀ (kV doc pm : Value) (an : Option Addr) (cdv ct : Value) (us : List Value), us.length = ps.length → bindArgs (PySem.W.fnOf "__init__" qual (defArgs st) (defBody st) (defScope st) .none kV doc pm an cdv ct) ⟨us, []⟩ = pure (ps.zip us)) : InitD K C qual st ps :=
  ⟨f, _, fun_mk l c kp, ⟨mk, a, i, kc⟩, .all (b kV doc pm an cdv ct)⟩
section
variable {X : Cx} {CX : CXT} {k : Nat} {f C : Addr} {fd : FuncData} {ps : List Str} {sp : Sp} {x m : Str} {p pos apos : Pos} {e o : Expr} {es : List Expr} {ta : TE} {t : TA}
noncomputable def tMethX (X : Cx) (CX : CXT) (C : Addr) (m : Str) (sp : Sp) (ta : TE) (t : TA) : TE := fun σ H Q => ta σ H fun x H1 => ∃ a dx fs, x = .ref a ∧ H1 a = some (.ins C dx fs) ∧ fs.lookup m = none ∧
  t σ H1 fun vs H2 => ∃ E, sp (x :: vs) H2 Q E ∧ ∀ pins s, Inv X pins σ H2 s → ∀ ex s', CX X.stack H2 s E ex s' → X.xe ex s'
theorem pe_methX {pl : Sem Bool} (M : CalM X.prog X.w X.K X.mg X.base CX k C m ps sp) (c : Cls X.K C) (hr : Room k X.A) (he : PE X o ta) (ha : PA X (e :: es) t)
    (hst : autoParam (starEach (e :: es) X.env = (false, eval e X.env) :: starEach es X.env) L2.aR._auto_1) (hpl : autoParam ((backTo pos (starEach es X.env)).any (·.1) = false) L2.aR._auto_1)
    (ht : autoParam (eval (.Call (.Attribute o m apos) (e :: es) [] pos) X.env = (do
      let ov ← eval o X.env
      standAt apos.atName
      let (f, first) ← holding [ov] (getMethod ov m pl)
      callWith pos f first (backTo pos (starEach (e :: es) X.env)) (backToKw pos (keywordEach [] X.env)))) L2.aR._auto_1) :
    PE X (.Call (.Attribute o m apos) (e :: es) [] pos) (tMethX X CX C m sp ta t) := by
  obtain ⟨f, fd, F, hm, hb⟩ := M.ex
  intro pins s σ H Q I h
  refine PySem.W.methodCall_KW (pl := pl) (thn (he pins s σ H _ I h) fun u s1 ⟨x, H1, I1, rx, a, dx, fs, ex, ea, l, q⟩ => ?_) ht
  subst ex
  obtain rfl : u = Value.ref a := rx
  refine getmeth_ok I1 ea c hm l ?_
  refine PySem.W.callWith_K (first := [.ref a]) (h₀ := X.base) I.ok.mod.kin hm.kp (thn (ha pos pins s1 σ H1 _ I1 q) fun us s2 zq => L2.el5 zq fun vs H2 I2 r q2 => ⟨I2.kIn, ?_⟩) hst hpl
  obtain ⟨E, q3, q4⟩ := q2
  exact run_fnX (us := .ref a :: us) (vs := .ref a :: vs) F hr hb I2 (.cons rfl r) q3 (q4 pins s2 I2)
theorem run_makeX {E : XK} {pins : List (Addr × Obj)} {σ : St} {H : Hp} {s : Shared} {Q : VK} {us : List Value} {vs : List V} (M : Mk X.K C f) (F : FnOk X.prog X.w X.K X.mg X.base CX k f fd ps sp) (hr : Room (k + 1) X.A) (hb : Binds X.K fd ps [])
    (I : Inv X pins σ H s) (r : Vals vs us)
    (h : ∀ x dx, H x = none → H dx = none → dx ≠ x → ∃ E, sp (.ref x :: vs) (upd (upd H dx (.own x)) x (.ins C dx [])) (fun v H2 => v = .non ∧ Q (.ref x) H2) E ∧ ∀ pins s, Inv X pins σ (upd (upd H dx (.own x)) x (.ins C dx [])) s → ∀ ex s', CX X.stack (upd (upd H dx (.own x)) x (.ins C dx [])) s E ex s' → X.xe ex s') :
    wpAny (model X.prog X.w) X.A (call (.ref C) us) (EP X pins σ Q) X.xe s := by
  obtain ⟨E, hq, hx⟩ := h (s.heap.objs.size + 1) s.heap.objs.size (I.hok.fresh (Nat.le_succ _)) (I.hok.fresh (Nat.le_refl _)) (Nat.ne_of_lt (Nat.lt_succ_self _))
  have I2 := Inv.made (C := C) I
  have r2 : Vals (V.ref (s.heap.objs.size + 1) :: vs) (Value.ref (s.heap.objs.size + 1) :: us) := .cons rfl r
  have hl : (Value.ref (s.heap.objs.size + 1) :: us ++ []).length = ps.length := by
    have e := r2.length
    rw [F.len _ _ _ _ hq] at e
    rw [List.append_nil]
    exact e.symm
  have hb' := hb _ (Value.ref (s.heap.objs.size + 1) :: us) I2.kIn hl
  rw [List.append_nil] at hb'
  refine wpAny_call (make_map (f := f) I.kIn M.makes M.init (beq_iff_eq.mp M.fn) (codeAny_mono (F.run _ X.stack _ _ ⟨Value.ref (s.heap.objs.size + 1) :: us, []⟩ (Value.ref (s.heap.objs.size + 1) :: us) _ _ E (hr.make C us [])
    (I2.env0.make C us []) hb' r2 hq) fun r s' hq' => ?_))
  cases r with
  | error e => exact hx pins _ I2 e s' hq'
  | ok fl =>
    cases fl with
    | ret u =>
      obtain ⟨v, H', I3, rv, ev, q3⟩ := I2.after hq'
      subst ev
      exact ⟨rv, ⟨V.ref (s.heap.objs.size + 1), H', I3, rfl, q3⟩⟩
    | next => exact False.elim hq'
    | brk => exact False.elim hq'
    | cont => exact False.elim hq'
noncomputable def tMakeX (X : Cx) (CX : CXT) (C : Addr) (sp : Sp) (t : TA) : TE := fun σ H Q => t σ H fun vs H1 => ∀ x dx, H1 x = none → H1 dx = none → dx ≠ x → ∃ E,
  sp (.ref x :: vs) (upd (upd H1 dx (.own x)) x (.ins C dx [])) (fun v H2 => v = .non ∧ Q (.ref x) H2) E ∧ ∀ pins s, Inv X pins σ (upd (upd H1 dx (.own x)) x (.ins C dx [])) s → ∀ ex s', CX X.stack (upd (upd H1 dx (.own x)) x (.ins C dx [])) s E ex s' → X.xe ex s'
theorem pe_makeX (M : CalI X.prog X.w X.K X.mg X.base CX k C ps sp) (hr : Room (k + 1) X.A) (hg : Gl X x) (hm : X.mg x = some (.ref C)) (ha : PA X (e :: es) t) (hdb : autoParam ((x == ("__debug__" : Str)) = false) L2.aK._auto_1) (he : autoParam (starEach (e :: es) X.env = (false, eval e X.env) :: starEach es X.env) L2.aR._auto_1) (hpl : autoParam ((backTo pos (starEach es X.env)).any (·.1) = false) L2.aR._auto_1) :
    PE X (.Call (.Name x p) (e :: es) [] pos) (tMakeX X CX C sp t) := by
  obtain ⟨f, fd, F, M, hb⟩ := M.ex
  intro pins s σ H Q I h
  refine wpAny_Call_Name_kw (ld_glob I hg hm ?_ hdb)
  refine PySem.W.callWith_K (h₀ := X.base) I.ok.mod.kin M.kp (thn (ha pos pins s σ H _ I h) fun us s1 zq => L2.el5 zq fun vs H1 I1 r q => ⟨I1.kIn, ?_⟩) he hpl
  exact run_makeX (E := fun _ _ _ => True) M F hr hb I1 r q
end
end L2
namespace Dn
open PySem L2
structure FldD (W : Wd) (f : Str) (ix : List (Nat × Nat)) : Prop where
  ok : ∀ (c i : Nat), ix.lookup c = some i → (W.nm c)[i]? = some f ∧ (W.nm c).Nodup ∧ Cls W.K (W.cl c) ∧ NoAttr W.K (W.cl c) f ∧ (W.nm c).length < 1000
theorem zip_lookup {f : Str} : ∀ {ns : List Str} {vs : List V} {i : Nat} {v : V}, ns.Nodup → ns[i]? = some f → vs[i]? = some v → (ns.zip vs).lookup f = some v
  | [], _, _, _, _, h, _ => by simp at h
  | n :: ns, [], _, _, _, _, h => by simp at h
  | n :: ns, u :: vs, 0, v, _, h1, h2 => by
    simp at h1 h2; subst h1 h2
    simp [List.lookup]
  | n :: ns, u :: vs, i + 1, v, nd, h1, h2 => by
    have hne : f ≠ n := fun e => (List.nodup_cons.mp nd).1 (e ▸ List.mem_of_getElem? (by simpa using h1))
    have hb : (f == n) = false := beq_eq_false_iff_ne.mpr hne
    simp only [List.zip_cons_cons, List.lookup, hb]
    exact zip_lookup (List.nodup_cons.mp nd).2 (by simpa using h1) (by simpa using h2)
theorem zip_lookup_none {m : Str} : ∀ {ns : List Str} {vs : List V}, m ∉ ns → (ns.zip vs).lookup m = none
  | [], _, _ => by simp
  | n :: ns, [], _ => by simp
  | n :: ns, u :: vs, h => by
    have hne : m ≠ n := fun e => h (e ▸ List.mem_cons_self ..)
    have hb : (m == n) = false := beq_eq_false_iff_ne.mpr hne
    simp only [List.zip_cons_cons, List.lookup, hb]
    exact zip_lookup_none fun z => h (List.mem_cons_of_mem _ z)
theorem putF_set {f : Str} {y : V} : ∀ {ns : List Str} {vs : List V} {i : Nat}, ns.Nodup → ns[i]? = some f → i < vs.length → putF f y (ns.zip vs) = ns.zip (vs.set i y)
  | [], _, _, _, h, _ => by simp at h
  | n :: ns, [], _, _, _, h => by simp at h
  | n :: ns, u :: vs, 0, _, h1, h2 => by
    simp at h1; subst h1
    simp [putF]
  | n :: ns, u :: vs, i + 1, nd, h1, h2 => by
    have hne : n ≠ f := fun e => (List.nodup_cons.mp nd).1 (e ▸ List.mem_of_getElem? (by simpa using h1))
    simp only [List.zip_cons_cons, putF, if_neg hne, List.set_cons_succ]
    rw [putF_set (List.nodup_cons.mp nd).2 (by simpa using h1) (by simpa using h2)]
theorem putF_new {f : Str} {y : V} : ∀ {ns : List Str} {vs : List V}, ns.Nodup → ns[vs.length]? = some f → putF f y (ns.zip vs) = ns.zip (vs ++ [y])
  | [], _, _, h => by simp at h
  | n :: ns, [], _, h => by
    simp at h; subst h
    simp [putF]
  | n :: ns, u :: vs, nd, h1 => by
    have hne : n ≠ f := fun e => (List.nodup_cons.mp nd).1 (e ▸ List.mem_of_getElem? (i := vs.length) (by simpa using h1))
    simp only [List.zip_cons_cons, List.cons_append, putF, if_neg hne]
    rw [putF_new (List.nodup_cons.mp nd).2 (by simpa using h1)]
section
variable {X : Cx} {CX : CXT} {W : Wd} {Z : ZT} {a b : Expr} {da db : DE} {pos p apos : Pos} {es : List Expr} {ea : DA} {k c : Nat} {x m : Str} {ps : List Str} {F : Fn} {f : Str} {ix : List (Nat × Nat)}
theorem fields_ok {A B : List Addr} {H : Hp} {ms : List MO} {x : T} {v : V} {c : Nat} {ts : List T} (hr : Rl W A B ms H) (h : Tr W A B H x v) (e : fieldsOf ms x = some (c, ts)) : ∃ p dx vs, v = .ref p ∧ H p = some (.ins (W.cl c) dx ((W.nm c).zip vs)) ∧ ts.length ≤ (W.nm c).length ∧ Trs W A B H ts vs := by
  cases x with
  | ins c' ts' =>
    simp [fieldsOf] at e
    obtain ⟨rfl, rfl⟩ := e
    simp only [Tr] at h
    obtain ⟨p, dx, vs, rfl, n, q, l, r⟩ := h
    exact ⟨p, dx, vs, rfl, q, l, r⟩
  | cel k =>
    simp only [fieldsOf] at e
    split at e
    · rename_i c' ts' hm
      cases e
      simp only [Tr] at h
      obtain ⟨p, hk, rfl⟩ := h
      obtain ⟨dx, vs, q, l, r⟩ := hr.ce k _ p hm hk
      exact ⟨p, dx, vs, rfl, q, l, r⟩
    · cases e
  | _ => simp [fieldsOf] at e
theorem de_fld (hK : X.K = W.K) (hF : FldD W f ix) (ha : PE X a (tD W Z da)) (hb : autoParam (attributeBase a f X.env (eval a X.env) = eval a X.env) L2.aR._auto_1) : PE X (.Attribute a f pos) (tD W Z (dFld ix da)) :=
  (pe_fld ha hb).weak fun σ H Q zq => L2.el6 zq fun A B ρ hr hl h => ⟨A, B, ρ, hr, hl, h.bind.imp fun x m A1 H1 ex e1 r1 h1 v tv => by
    unfold oFld at h1
    split at h1
    · rename_i c ts e
      split at h1
      · rename_i i hi
        split at h1
        · rename_i t ht
          obtain ⟨p, dx, vs, rfl, q, l, r⟩ := fields_ok r1 tv e
          obtain ⟨k1, k2, k3, k4, _⟩ := hF.ok c i hi
          obtain ⟨w, hw, tw⟩ := r.get ht
          rw [hK]
          exact ⟨p, _, dx, _, w, rfl, q, k3, k4, zip_lookup k2 k1 hw, h1.now r1 _ tw⟩
        · exact h1.elim
      · exact h1.elim
    · exact h1.elim⟩
theorem ds_fld {pos' : Pos} (hK : X.K = W.K) (hF : FldD W f ix) (ha : PE X a (tD W Z da)) (hb : PE X b (tD W Z db)) (hs : autoParam (swapsWith b (some (.Attribute a f pos')) pos.line X.env = pure false) L2.aR._auto_1) : PS X (.Assign [.Attribute a f pos'] b pos) (tDs W Z (sSetF ix da db)) :=
  (ps_fld ha hb hs).weak fun D σ H zq => L2.el6 zq fun A B ρ hr hl h => ⟨A, B, ρ, hr, hl, (h.of hl).imp fun y m A1 H1 ex1 e1 r1 h1 u tu => ⟨A1, B, ⟨ρ.loc, m⟩, r1, hl.ext e1, (wpS.of (hl.ext e1) h1).imp fun x m2 A2 H2 ex2 e2 r2 h2 v tv => by
    have l2 := (hl.ext e1).ext e2
    have h3 := wpS.of l2 h2
    unfold oSet at h3
    split at h3
    · rename_i kk
      split at h3
      · rename_i c ts hm
        split at h3
        · rename_i i hi
          obtain ⟨k1, k2, k3, k4, k5⟩ := hF.ok c i hi
          simp only [Tr] at tv
          obtain ⟨p, hk, rfl⟩ := tv
          obtain ⟨dx, vs, q, l, r⟩ := r2.ce kk _ p hm hk
          have hlen := r.length
          rw [hK]
          have put : ∀ (ts' : List T) (vs' : List V), ts'.length ≤ (W.nm c).length → putF f u ((W.nm c).zip vs) = (W.nm c).zip vs' → (∀ H', Ext A2 H2 A2 H' → Trs W A2 B H' ts' vs') → wpR W Z σ A2 B H2 (.ok () (m2.set kk (.ins c ts'))) (fun _ m A' H' => wpS W Z A' B H' (.go ⟨ρ.loc, m⟩) D) → D.nx σ (upd H2 p (.ins (W.cl c) dx (putF f u ((W.nm c).zip vs)))) := by
            intro ts' vs' hl1 e hT hh
            rw [e]
            have sb : SameBut p H2 (upd H2 p (.ins (W.cl c) dx ((W.nm c).zip vs'))) := SameBut.upd
            have e0 : Ext A2 H2 A2 (upd H2 p (.ins (W.cl c) dx ((W.nm c).zip vs'))) := ⟨⟨[], by simp, fun c h => (List.not_mem_nil h).elim⟩, fun b o n q => sb b o (fun z => n (z ▸ List.mem_of_getElem? hk)) q, fun b o q => by
              by_cases z : b = p
              · subst z; exact ⟨_, upd_same⟩
              · exact ⟨o, sb b o z q⟩⟩
            obtain ⟨e4, r4⟩ := r2.put hk sb (m := .ins c ts') ⟨dx, vs', upd_same, hl1, hT _ e0⟩
            exact hh _ _ e4 r4 _ _ σ Ext.refl r4 (l2.ext e4)
          have hz : ((W.nm c).zip vs).length < 1000 := by
            rw [List.length_zip]; (first|lia|omega)
          refine ⟨p, _, dx, _, rfl, q, k3, k4, hz, ?_⟩
          have hiN : i < (W.nm c).length := (List.getElem?_eq_some_iff.mp k1).1
          split at h3
          · rename_i hlt
            refine put (ts.set i y) (vs.set i u) (by simpa using l) (putF_set k2 k1 (by (first|lia|omega))) (fun H' e0 => Trs.set (i := i) ((tu.ext e2).ext e0) (r.ext e0)) h3
          · split at h3
            · rename_i heq
              refine put (ts ++ [y]) (vs ++ [u]) (by simp; (first|lia|omega)) (putF_new k2 (by rw [← hlen, ← heq]; exact k1)) (fun H' e0 => (r.ext e0).append (Trs.cons ((tu.ext e2).ext e0) Trs.nil)) h3
            · exact h3.elim
        · exact h3.elim
      · exact h3.elim
    · exact h3.elim⟩⟩
theorem de_methO {call : Fn → List MO → List T → R T} {pl : Sem Bool} (hcall : ∀ {A B : List Addr} {H : Hp} {ms : List MO} {ts : List T} {vs : List V} {σ : St} {Q : VK}, ts.length = ps.length → Rl W A B ms H → Trs W A B H ts vs → wpR W Z σ A B H (call F ms ts) (VQ W B Q) → ∃ E, spD W ps.length F vs H Q E ∧ ∀ pins s, L2.Inv X pins σ H s → ∀ ex s', CX X.stack H s E ex s' → X.xe ex s')
    (M : CalM X.prog X.w X.K X.mg X.base CX k (W.cl c) m ps (spD W ps.length F)) (cl : Cls X.K (W.cl c)) (hno : m ∉ W.nm c) (hr : Room k X.A) (hb : PE X b (tD W Z db)) (ha : PA X (a :: es) (tDA W Z ea)) (hn : DA.len ea (ps.length - 1)) (hp : 0 < ps.length)
    (hst : autoParam (starEach (a :: es) X.env = (false, eval a X.env) :: starEach es X.env) L2.aR._auto_1) (hpl : autoParam ((backTo pos (starEach es X.env)).any (·.1) = false) L2.aR._auto_1)
    (ht : autoParam (eval (.Call (.Attribute b m apos) (a :: es) [] pos) X.env = (do
      let ov ← eval b X.env
      standAt apos.atName
      let (f, first) ← holding [ov] (getMethod ov m pl)
      callWith pos f first (backTo pos (starEach (a :: es) X.env)) (backToKw pos (keywordEach [] X.env)))) L2.aR._auto_1) :
    PE X (.Call (.Attribute b m apos) (a :: es) [] pos) (tD W Z (dMethO c (call F) db ea)) :=
  (pe_methX (pl := pl) M cl hr hb ha hst hpl ht).weak fun σ H Q zq => L2.el6 zq fun A B ρ hr hl h => ⟨A, B, ρ, hr, hl, h.bind.imp fun x m1 A1 H1 ex1 e1 r1 h1 v tv => by
    split at h1
    · rename_i c' ts e
      split at h1
      · rename_i hc
        subst hc
        obtain ⟨p, dx, vs, rfl, q, l, r⟩ := fields_ok r1 tv e
        refine ⟨p, dx, _, rfl, q, zip_lookup_none hno, A1, B, ⟨ρ.loc, m1⟩, r1, hl.ext e1, h1.bind.imp fun xs m2 A2 H2 ex2 e2 r2 h2 us tu => ?_⟩
        exact hcall (by have := hn _ _ _ ex2; simp; (first|lia|omega)) r2 (Trs.cons (tv.ext e2) tu) h2
      · exact h1.elim
    · exact h1.elim⟩
theorem hcallP (hz : ZP X CX W Z) {A B : List Addr} {H : Hp} {ms : List MO} {ts : List T} {vs : List V} {σ : St} {Q : VK} (hl : ts.length = ps.length) (hr : Rl W A B ms H) (ht : Trs W A B H ts vs) (h : wpR W Z σ A B H (callP F ms ts) (VQ W B Q)) : ∃ E, spD W ps.length F vs H Q E ∧ ∀ pins s, L2.Inv X pins σ H s → ∀ ex s', CX X.stack H s E ex s' → X.xe ex s' :=
  callP_ok hz (fun _ => by rw [← ht.length]; exact hl) hr ht h
theorem de_makeP (M : CalI X.prog X.w X.K X.mg X.base CX k (W.cl c) ps (spD W ps.length F)) (hz : ZP X CX W Z) (hr : Room (k + 1) X.A) (hg : Gl X x) (hm : X.mg x = some (.ref (W.cl c))) (ha : PA X (a :: es) (tDA W Z ea)) (hn : DA.len ea (ps.length - 1)) (hp : 0 < ps.length) (hdb : autoParam ((x == ("__debug__" : Str)) = false) L2.aK._auto_1) (he : autoParam (starEach (a :: es) X.env = (false, eval a X.env) :: starEach es X.env) L2.aR._auto_1) (hpl : autoParam ((backTo pos (starEach es X.env)).any (·.1) = false) L2.aR._auto_1) :
    PE X (.Call (.Name x p) (a :: es) [] pos) (tD W Z (dCB (makeP c F) ea)) :=
  (pe_makeX M hr hg hm ha hdb he hpl).weak fun σ H Q zq => L2.el6 zq fun A B ρ hr hl h => ⟨A, B, ρ, hr, hl, h.bind.imp fun ts m A1 H1 ex e1 r1 h1 vs tv y dx hy hdx hne => by
    unfold makeP at h1
    split at h1
    · rename_i hc
      have s0 : Same H1 (upd (upd H1 dx (.own y)) y (.ins (W.cl c) dx [])) := fun b o e => by
        rw [upd_ne (ne_of_none e hy), upd_ne (ne_of_none e hdx)]
        exact e
      have r2 : Rl W [y] (A1 ++ B) [.ins c []] (upd (upd H1 dx (.own y)) y (.ins (W.cl c) dx [])) := by
        have r0 := (r1.hand).same s0
        refine ⟨by simp, fun q hq z => ?_, r0.bt, rfl, fun kk mm q hmm hq => ?_⟩
        · rw [List.mem_singleton.mp hq] at z
          obtain ⟨o, e⟩ := r1.hand.bt y z
          rw [hy] at e; cases e
        · cases kk with
          | zero =>
            simp at hmm hq
            subst hmm hq
            exact ⟨dx, [], by rw [upd_same]; simp, by simp, Trs.nil⟩
          | succ kk => simp at hmm
      have t2 : Trs W [y] (A1 ++ B) (upd (upd H1 dx (.own y)) y (.ins (W.cl c) dx [])) (.cel 0 :: ts) (.ref y :: vs) := by
        refine Trs.cons (by simp only [Tr]; exact ⟨y, rfl, rfl⟩) ?_
        have t0 := (Trs.turn (A' := []) (B' := A1 ++ B) (fun _ => Nd.nil) hc tv)
        exact (t0.conv (A' := [y]) (B' := A1 ++ B) (fun q o e n => ⟨fun z => (by rw [List.mem_singleton.mp z, hy] at e; cases e), n.2⟩) fun kk q e => by simp at e).ext (Ext.same s0)
      have hlen : (V.ref y :: vs).length = ps.length := by
        have := hn _ _ _ ex
        rw [List.length_cons, ← tv.length]; (first|lia|omega)
      have back : ∀ {A' : List Addr} {H' : Hp}, Ext [y] (upd (upd H1 dx (.own y)) y (.ins (W.cl c) dx [])) A' H' → Same H1 H' := fun e b o q => e.fr b o (fun z => by rw [List.mem_singleton.mp z, hy] at q; cases q) (s0 b o q)
      cases hF : F (.cel 0 :: ts) [.ins c []] with
      | ok t m' =>
        rw [hF] at h1
        cases t with
        | non =>
          simp only at h1
          split at h1
          · rename_i t' e
            refine ⟨fun _ _ _ => False, ⟨hlen, [y], A1 ++ B, .cel 0 :: ts, [.ins c []], r2, t2, ?_⟩, fun pins s I ex s' q => hz pins σ _ s _ 0 ex s' I (fun _ _ _ z => z.elim) q⟩
            rw [hF]
            intro A' H' v e3 r3 tv3
            have sm := back e3
            refine ⟨by simpa only [Tr] using tv3, ?_⟩
            have tc : Tr W A' (A1 ++ B) H' (.cel 0) (.ref y) := by
              simp only [Tr]
              exact ⟨y, e3.get rfl, rfl⟩
            obtain ⟨k1, k2⟩ := reify_ok r3 4 (.cel 0) (.ref y) t' tc e
            exact h1 A1 H' (Ext.same sm) (r1.same sm) _ (Tr.turn (fun _ => Nd.cons) k2 k1)
          · exact h1.elim
        | _ => exact h1.elim
      | exc cc m' =>
        rw [hF] at h1
        refine ⟨fun cls _ H' => cls = .ref (W.cl cc) ∧ Z cc σ H', ⟨hlen, [y], A1 ++ B, .cel 0 :: ts, [.ins c []], r2, t2, ?_⟩, fun pins s I ex s' q => hz pins σ _ s _ cc ex s' I (fun _ _ _ z => z) q⟩
        rw [hF]
        intro A' H' e3 r3
        have sm := back e3
        exact ⟨rfl, h1 A1 H' (Ext.same sm) (r1.same sm)⟩
      | bad => rw [hF] at h1; exact h1.elim
    · exact h1.elim⟩
theorem meth_den {P : Program} {w : World} {K : PySem.W.Frag} {mg : Str → Option Value} {base : Heap} {C : Addr} {st : Stmt} {N : List Str} {d : DS} {qual : Str} (M : MethD K C m qual st ps) (S : FnScope N ps (defScope st))
    (hb : ∀ (f : Addr) (cdv : Value) (A : Around) (outer : List PySem.Env) (s : Shared) (H : Hp) (E : XK), Room k (A.deeper (PyProof.Rows.envOfC qual (defScope st) s.heap.objs.size f cdv)) →
      PSs (cxOf CX P w K mg base N qual (defScope st) f cdv A outer s H E) (defBody st) (tDs W (fun c _ H' => E (.ref (W.cl c)) none H') d)) : CalM P w K mg base CX (k + 1) C m ps (spD W ps.length (runD N.length d)) := by
  obtain ⟨f, fd, G, a, b⟩ := M.ex
  exact ⟨f, fd, fun_den G S hb, a, b⟩
theorem init_den {P : Program} {w : World} {K : PySem.W.Frag} {mg : Str → Option Value} {base : Heap} {C : Addr} {st : Stmt} {N : List Str} {d : DS} {qual : Str} (M : InitD K C qual st ps) (S : FnScope N ps (defScope st))
    (hb : ∀ (f : Addr) (cdv : Value) (A : Around) (outer : List PySem.Env) (s : Shared) (H : Hp) (E : XK), Room k (A.deeper (PyProof.Rows.envOfC qual (defScope st) s.heap.objs.size f cdv)) →
      PSs (cxOf CX P w K mg base N qual (defScope st) f cdv A outer s H E) (defBody st) (tDs W (fun c _ H' => E (.ref (W.cl c)) none H') d)) : CalI P w K mg base CX (k + 1) C ps (spD W ps.length (runD N.length d)) := by
  obtain ⟨f, fd, G, a, b⟩ := M.ex
  exact ⟨f, fd, fun_den G S hb, a, b⟩
end
end Dn
set_option maxHeartbeats 1000000
namespace L2
open PySem PySem.Spec PyProof.Rows PySem.W
section
variable {prog : Program} {w : World} {A : Around} {E : Value → Shared → Prop} {s : Shared} {D kS : Addr} {kA : Array Value} {its : List Value} {kz : List (List Int)} {e e1 : Nat} {P : PySem.Fin → Shared → Prop}
theorem sortK_tail {st : SortSt} {out : Array Value} (hk : s.heap.get? kS = some (seqObj "list" kA e)) (hD : s.heap.get? D = some (seqObj "list" #[] e1)) (hne : kS ≠ D) (hz : kA.size ≤ sizeLine) (ho : (arrOf st).map (·.2) = out) (hoz : out.size ≤ sizeLine) (hf : failedOf st = none)
    (h : ∀ h' c, (∀ b o, b ≠ kS → b ≠ D → s.heap.get? b = some o → h'.get? b = some o) → (∃ o, h'.get? kS = some o) → h'.get? D = some (seqObj "list" out c) → P (.done (.ret .none)) { s with heap := h' }) :
    wpAny (model prog w) A (ksk_tail D false e1 (.ref kS) st) P E s := by
  have s1 := Heap.SameBut.update s.heap kS (Obj.mapSeq fun _ => (#[] : Array Value))
  have hD1 : (s.heap.update kS (Obj.mapSeq fun _ => (#[] : Array Value))).get? D = some (seqObj "list" #[] e1) := (s1.2 D hne.symm).trans hD
  have s2 := Heap.SameBut.update (s.heap.update kS (Obj.mapSeq fun _ => (#[] : Array Value))) D (Obj.mapSeq fun _ => (arrOf st).map (·.2))
  obtain ⟨c0, hc0⟩ : ∃ c0, (s.heap.update kS (Obj.mapSeq fun _ => (#[] : Array Value))).get? kS = some (seqObj "list" #[] c0) := ⟨_, get?_update_seq hk fun _ => #[]⟩
  obtain ⟨c2, hc2⟩ : ∃ c2, ((s.heap.update kS (Obj.mapSeq fun _ => (#[] : Array Value))).update D (Obj.mapSeq fun _ => (arrOf st).map (·.2))).get? D = some (seqObj "list" ((arrOf st).map (·.2)) c2) := ⟨_, get?_update_seq hD1 fun _ => (arrOf st).map (·.2)⟩
  unfold ksk_tail
  try dsimp only
  refine wpAny_bind (listUpdate_at hk rfl ?_ hz (Nat.zero_le _))
  refine wpAny_bind (wpAny_letGo ?_)
  refine wpAny_bind (seqEpoch_at hD1 rfl ?_)
  refine wpAny_bind (listUpdate_at hD1 rfl ?_ (Nat.zero_le _) (by simp only [Bool.false_eq_true, if_false]; rw [ho]; exact Nat.le_succ_of_le hoz))
  rw [hf]
  simp only [bne_self_eq_false, Bool.false_eq_true, if_false]
  refine wpAny_pure (h _ c2 (fun b o n1 n2 q => ?_) ⟨_, (s2.2 kS hne).trans hc0⟩ (by rw [hc2, ho]))
  exact (s2.2 b n2).trans ((s1.2 b n1).trans q)
theorem kas_item_zip (keys : Array Value) (its : List Value) (h : keys.size = its.length) (i : Nat) : kas_item (keys.zip its.toArray) i = (keys.toList.getD i Value.none, its.getD i Value.none) := by
  unfold kas_item
  have hz : (keys.zip its.toArray).size = its.length := by rw [Array.size_zip]; simp; (first|lia|omega)
  by_cases hi : i < its.length
  · have h' : i < (keys.zip its.toArray).size := by (first|lia|omega)
    have hk : i < keys.size := by (first|lia|omega)
    have e : (keys.zip its.toArray).getD i (Value.none, Value.none) = (keys.zip its.toArray)[i] := by unfold Array.getD; rw [dif_pos h']; rfl
    have e2 : (keys.zip its.toArray)[i] = (keys[i], its[i]) := by simp
    have e3 : its.getD i Value.none = its[i] := by simp [hi]
    have e4 : keys.toList.getD i Value.none = keys[i] := by simp [List.getD_eq_getElem?_getD, hk]
    rw [e, e2, e3, e4]
  · have h' : ¬ i < (keys.zip its.toArray).size := by (first|lia|omega)
    have hk : ¬ i < keys.size := by (first|lia|omega)
    have e : (keys.zip its.toArray).getD i (Value.none, Value.none) = (Value.none, Value.none) := by unfold Array.getD; rw [dif_neg h']
    have e3 : its.getD i Value.none = Value.none := by simp [Nat.le_of_not_lt hi]
    have e4 : keys.toList.getD i Value.none = Value.none := by simp [List.getD_eq_getElem?_getD, Nat.le_of_not_lt hk]
    rw [e, e3, e4]
theorem sortK_end (hk : s.heap.get? kS = some (seqObj "list" kA e)) (hD : s.heap.get? D = some (seqObj "list" #[] e1)) (hne : kS ≠ D) (hn : kA.size = its.length) (hl : kz.length = its.length) (h64 : its.length < 64) (hu : A.units < cLine)
    (keys : ∀ i, i < its.length → ∃ (b : Addr) (zs : List Value) (m : Nat), kA.toList.getD i Value.none = .ref b ∧ IntsAre zs (kz.getD i []) ∧ s.heap.get? b = some { cls := .type "list", data := .seq zs.toArray m })
    (h : ∀ (p : List Nat) h' c, p.Perm (List.range its.length) → (p.map fun i => kz.getD i []).Pairwise (fun a b => HT.lexLt b a = false) → (∀ b o, b ≠ kS → b ≠ D → s.heap.get? b = some o → h'.get? b = some o) → (∃ o, h'.get? kS = some o) →
      h'.get? D = some (seqObj "list" (p.map fun i => its.getD i Value.none).toArray c) → P (.done (.ret .none)) { s with heap := h' }) :
    wpAny (model prog w) A (ksk_end D false its.toArray e1 (.ref kS) kA) P E s := by
  have hz : kA.size ≤ sizeLine := by rw [hn, sizeLine_eq]; (first|lia|omega)
  have hzip : (kA.zip its.toArray).size = its.length := by rw [Array.size_zip]; simp; (first|lia|omega)
  unfold ksk_end
  try dsimp only
  simp only [Bool.false_eq_true, if_false]
  by_cases h2 : its.toArray.size < 2
  · rw [if_pos h2, if_pos h2]
    refine wpAny_bind (wpAny_pure ?_)
    rw [StateT.run_pure]
    refine wpAny_bind (wpAny_pure ?_)
    try dsimp only
    have eo : (arrOf (SortSt.mk' general' (kA.zip its.toArray) #[] 7 none)).map (·.2) = its.toArray := by
      show (kA.zip its.toArray).map (·.2) = its.toArray
      apply Array.ext'
      rw [Array.toList_map, Array.toList_zip]
      exact List.map_snd_zip (by simp; (first|lia|omega))
    refine sortK_tail hk hD hne hz eo (by simp; rw [sizeLine_eq]; (first|lia|omega)) rfl fun h' c k1 k2 k3 => h (List.range its.length) h' c (List.Perm.refl _) ?_ k1 k2 ?_
    · simp at h2
      have : its.length = 0 ∨ its.length = 1 := by (first|lia|omega)
      rcases this with e | e <;> rw [e] <;> simp [List.range_succ]
    · rw [k3]
      congr 2
      rw [map_range_getD]
  · rw [if_neg h2, if_neg h2]
    have h2' : 2 ≤ its.length := by simp at h2; (first|lia|omega)
    have hkl : kA.toList.length = its.length := by rw [Array.length_toList]; exact hn
    have ekA : kA = kA.toList.toArray := by simp
    refine wpAny_bind ?_
    have kind := kas_kind (M := model prog w) (A := A) (E := E) (s := s) (vs := kA.toList) (T := .type "list") (Q := fun κ s' => wpAny (model prog w) A ((sortRuns').run (SortSt.mk' κ (kA.zip its.toArray) #[] 7 none) >>= fun x => ksk_tail D false e1 (.ref kS) x.2) P E s') (by (first|lia|omega)) (fun v hv => ?_) (by decide) (by decide) ?_
    · rw [← ekA] at kind
      exact kind
    · obtain ⟨i, hi, ev⟩ := List.getElem_of_mem hv
      obtain ⟨b, zs, m, j1, j2, j3⟩ := keys i (by (first|lia|omega))
      rw [List.getD_eq_getElem?_getD, List.getElem?_eq_getElem hi] at j1
      have j1' : kA.toList[i] = .ref b := j1
      rw [← ev, j1']
      intro A' Q' E' s' k' q'
      exact wpAny_typeOf ⟨_, k' _ _ j3, rfl⟩ q'
    · have est : SortSt.mk' oneType' (kA.zip its.toArray) #[] 7 none = kas_st oneType' (kA.zip its.toArray) (List.toArray (List.range its.length)) := by
        have e := kas_range (kA.zip its.toArray)
        rw [hzip] at e
        show SortSt.mk' oneType' (kA.zip its.toArray) #[] 7 none = SortSt.mk' oneType' ((List.toArray (List.range its.length)).map (kas_item (kA.zip its.toArray))) #[] 7 none
        rw [e]
      have ask : (kas_sort its.length).kasWp (kas_cmp prog w A oneType' (kA.zip its.toArray)) (fun p s' => s' = s ∧ My.Sort.Re its.length p ∧ My.Sort.Up (fun i j => HT.lexLt (kz.getD i []) (kz.getD j [])) p its.length) s := by
        refine My.Sort.sort_ok (n := its.length) (lexOrd fun i => kz.getD i []) ⟨fun i j C hi hj hC => ?_⟩ h2' fun ps hps hup => ⟨rfl, hps, hup⟩
        obtain ⟨b, zs, m, j1, j2, j3⟩ := keys i (by (first|lia|omega))
        obtain ⟨b', zs', m', j1', j2', j3'⟩ := keys j (by (first|lia|omega))
        show wpAny _ _ (keyLt' oneType' (kas_item (kA.zip its.toArray) i).1 (kas_item (kA.zip its.toArray) j).1) C _ _
        rw [kas_item_zip _ _ hn, kas_item_zip _ _ hn]
        show wpAny _ _ (keyLt' oneType' (kA.toList.getD i Value.none) (kA.toList.getD j Value.none)) C _ _
        rw [j1, j1']
        exact ask_lists ⟨_, j3, rfl, m, rfl⟩ ⟨_, j3', rfl, m', rfl⟩ j2 j2' hu hC
      have run := kas_runs (E := E) (Q := fun _ st' s' => ∃ p : Array Nat, s' = s ∧ p.size = its.length ∧ arrOf st' = p.map (kas_item (kA.zip its.toArray)) ∧ failedOf st' = none ∧ My.Sort.Re its.length p ∧ My.Sort.Up (fun i j => HT.lexLt (kz.getD i []) (kz.getD j [])) p its.length)
        h2' h64 (fun p' st' s' a1 a2 a3 a4 => ⟨p', a4.1, a1, a2, a3, a4.2⟩) ask
      rw [← est] at run
      refine wpAny_bind (wpAny_mono run ?_ fun _ _ e => e)
      rintro ⟨⟨⟩, st'⟩ s' ⟨p, rfl, hp, har, hf, hps, hup⟩
      dsimp only
      have hout : (arrOf st').map (·.2) = (p.toList.map fun i => its.getD i Value.none).toArray := by
        apply Array.toList_inj.mp
        rw [har, Array.map_map, Array.toList_map]
        exact List.map_congr_left fun i _ => by show (kas_item (kA.zip its.toArray) i).2 = _; rw [kas_item_zip _ _ hn]
      refine sortK_tail hk hD hne hz hout (by simp; rw [hp, sizeLine_eq]; (first|lia|omega)) hf fun h' c k1 k2 k3 => h p.toList h' c hps ?_ k1 k2 k3
      have hpl : p.toList.length = its.length := by simpa using hp
      rw [List.pairwise_map, List.pairwise_iff_getElem]
      intro i j hi hj hij
      have := hup i j (Nat.le_of_lt hij) (by (first|lia|omega))
      have ei : My.Sort.at_ p i = p.toList[i] := by
        rw [My.Sort.at_eq, Array.getElem?_eq_getElem (by simpa using hi)]; simp
      have ej : My.Sort.at_ p j = p.toList[j] := by
        rw [My.Sort.at_eq, Array.getElem?_eq_getElem (by simpa using hj)]; simp
      rw [ei, ej] at this
      exact this
end
section
variable {X : Cx} {pins : List (Addr × Obj)} {σ : St} {H : Hp} {s : Shared}
theorem Inv.track {D : Addr} {ws : List V} {its : List Value} {n : Nat} (I : Inv X pins σ H s) (fp : FpOk X pins H D) (hx : D ∉ X.ex) (hz : ws.length ≤ sizeLine) (hv : Vals ws its) (hl : s.heap.get? D = some { cls := .type "list", data := .seq its.toArray n }) : Inv X pins σ (upd H D (.lst ws)) s := by
  obtain ⟨f1, f2, f3, f4, f5, f6⟩ := fp
  have hs : X.s₀.heap.objs.size ≤ D := f4.resolve_left hx
  have old : ∀ b o, X.s₀.heap.get? b = some o → b ≠ D := fun b o e z => absurd (Nat.lt_of_lt_of_le (Heap.lt_size e) (by rw [z]; exact hs)) (Nat.lt_irrefl _)
  refine ⟨I.ok, I.os, I.bare, ⟨I.base.keep, I.base.slot, fun b o e nn hx' => ?_, I.base.there, fun b xs e => ?_, fun b o u e => ?_, fun b ps e => ?_⟩, I.loc, I.cell, ?_, fun x c e => ?_, fun p hp => ?_, ?_, I.len⟩
  · rw [upd_ne (old b o e)]; exact I.base.free b o e nn hx'
  · have q := I.base.tups b xs e; rw [upd_ne (ne_of_none q f1)]; exact q
  · have q := I.base.frzs b o u e; rw [upd_ne (ne_of_none q f1)]; exact q
  · obtain ⟨more, q⟩ := I.base.tbls b ps e; exact ⟨more, by rw [upd_ne (ne_of_none q f1)]; exact q⟩
  · rw [upd_ne f2.symm]; exact I.free
  · rw [upd_ne (f5 x c e)]; exact I.freeC x c e
  · obtain ⟨a1, a2, a3, a4, a5⟩ := I.pin p hp
    exact ⟨a1, by rw [upd_ne (f6 p hp)]; exact a2, a3, a4, a5⟩
  · intro b u e
    by_cases hb : b = D
    · subst hb
      rw [upd_same] at e
      cases e
      exact ⟨hz, its, n, hv, hl⟩
    · rw [upd_ne hb] at e
      exact (I.hok b u e).stay (fun c oc _ ec => ec) (fun c hc => by rw [upd_ne (ne_of_none hc f1)]; exact hc) fun c xs hc => by rw [upd_ne (ne_of_none hc f1)]; exact hc
theorem FpOk.same {D : Addr} {H' : Hp} (fp : FpOk X pins H D) (h : H' D = none) : FpOk X pins H' D := ⟨h, fp.2⟩
variable {CX : CXT} {k : Nat} {f p : Addr} {fd : FuncData} {ps : List Str} {sp : Sp} {vs : List V} {kz : List (List Int)} {Q : VK}
noncomputable def NoX (CX : CXT) : Prop := ∀ outer H s e s', CX outer H s E0 e s' → False
theorem fp_run {D : Addr} {H' : Hp} {s' : Shared} (I : Inv X pins σ H s) (fp : FpOk X pins H D) (hDx : D ∉ X.ex) {o : Obj} (ho : s.heap.get? D = some o) (un : Un (frs X.stack) [] H H' s.heap s'.heap) : s'.heap.get? D = some o ∧ H' D = none := by
  have nf : D ∉ frs X.stack := fun z => by
    rcases List.mem_cons.mp (I.stkSub D z) with e | e
    · exact fp.2.1 e
    · exact fp.2.2.1 e
  exact ⟨un.keep D o ho fp.1 nf (by simp), un.free D o ho fp.1 (by simp)⟩
theorem sortK_core (hnx : NoX CX) (F : FnOk X.prog X.w X.K X.mg X.base CX k f fd ps sp) (hb : Binds X.K fd ps []) (hr : Room (k + 2) X.A) (hex : ∀ b ∈ X.ex, b < X.s₀.heap.objs.size) (I : Inv X pins σ H s) (hp : H p = some (.lst vs)) (h64 : vs.length < 64) (hl : kz.length = vs.length)
    (turn : ∀ (i : Nat) v ks H', vs[i]? = some v → kz[i]? = some ks → Same H H' → sp [v] H' (fun r H2 => Same H' H2 ∧ ∃ b, r = .ref b ∧ H2 b = some (.lst (ks.map V.int))) E0)
    (q : ∀ D H' (pm : List Nat), H D = none → Same H H' → pm.Perm (List.range vs.length) → (pm.map fun i => kz.getD i []).Pairwise (fun a b => HT.lexLt b a = false) → H' D = some (.lst (pm.map fun i => vs.getD i .non)) → Q (.ref D) H') :
    wpAny (model X.prog X.w) X.A (call (.builtin "sorted") [.ref p] [(Str.ofString "key", .ref f)]) (EP X pins σ Q) X.xe s := by
  obtain ⟨its, rv, pl, hsz⟩ := I.list (SqL.of hp)
  have hlv := rv.length
  have h64' : its.length < 64 := by (first|lia|omega)
  refine call_function_entry_kw kind_sorted plain_sorted entry_sorted (ksk_s1 _ _) ?_
  unfold Builtin.«sorted»
  refine wpAny_bind (m := checkCount "sorted" 1 1 _) (wpAny_pure ?_)
  refine wpAny_bind (collect_list pl.isList ?_ (by rw [sizeLine_eq]; (first|lia|omega)))
  refine wpAny_bind (wpAny_newList ?_ (by rw [sizeLine_eq]; (first|lia|omega)))
  have hsz1 : ((s.heap.push (seqObj "list" #[] 0)).update s.heap.objs.size (Obj.mapSeq (· ++ its.toArray))).objs.size = s.heap.objs.size + 1 := by
    rw [Heap.size_update, size_push']
  have hoL : (((s.heap.push (seqObj "list" #[] 0)).update s.heap.objs.size (Obj.mapSeq (· ++ its.toArray))).push (seqObj "list" its.toArray 0)).get? (s.heap.objs.size + 1) = some (seqObj "list" its.toArray 0) := by
    rw [← hsz1]; exact Heap.get?_push_size _ rfl
  have keep : ∀ b o, s.heap.get? b = some o → (((s.heap.push (seqObj "list" #[] 0)).update s.heap.objs.size (Obj.mapSeq (· ++ its.toArray))).push (seqObj "list" its.toArray 0)).get? b = some o := fun b o q => by
    have hlt : b < s.heap.objs.size := Heap.lt_size q
    rw [Heap.get?_push_ne _ _ _ (by rw [hsz1]; exact Nat.ne_of_lt (Nat.lt_succ_of_lt hlt)), Heap.get?_update_ne _ _ _ _ (Nat.ne_of_lt hlt), Heap.get?_push_ne _ _ _ (Nat.ne_of_lt hlt)]
    exact q
  show wpAny _ _ _ _ _ { s with heap := ((s.heap.push (seqObj "list" #[] 0)).update s.heap.objs.size (Obj.mapSeq (· ++ its.toArray))).push (seqObj "list" its.toArray 0) }
  rw [hsz1]
  refine wpAny_bind (wpAny_holding (wpAny_call_entry_kw slot_list_sort ⟨_, hoL, rfl⟩ entry_list_sort ?body (ksk_l1 _ _)))
  case body =>
    show wpAny (model X.prog X.w) X.A.in1.in1 (Builtin.«list.sort» ⟨[.ref (s.heap.objs.size + 1)], [(Str.ofString "key", .ref f)]⟩) _ _ _
    rw [ksk_t1]
    generalize ((s.heap.push (seqObj "list" #[] 0)).update s.heap.objs.size (Obj.mapSeq (· ++ its.toArray))).push (seqObj "list" its.toArray 0) = g1 at hoL keep
    have hDn : s.heap.objs.size ≤ s.heap.objs.size + 1 := Nat.le_succ _
    have hHD : H (s.heap.objs.size + 1) = none := I.hok.fresh hDn
    have fpD : FpOk X pins H (s.heap.objs.size + 1) := I.fpOk hDn hHD
    have hDold : ∀ b o, s.heap.get? b = some o → b ≠ s.heap.objs.size + 1 := fun b o e => Nat.ne_of_lt (Nat.lt_succ_of_lt (Heap.lt_size e))
    have hDx : s.heap.objs.size + 1 ∉ X.ex := fun z => absurd (Nat.lt_of_lt_of_le (hex _ z) (Nat.le_trans I.sz hDn)) (Nat.lt_irrefl _)
    generalize s.heap.objs.size + 1 = D at *
    unfold ksk_tree
    refine wpAny_bind (listItems_at hoL rfl ?_)
    refine wpAny_bind (listUpdate_at hoL rfl ?_ (by rw [List.size_toArray, sizeLine_eq]; (first|lia|omega)) (Nat.zero_le _))
    have s1 := Heap.SameBut.update g1 D (Obj.mapSeq fun _ => (#[] : Array Value))
    obtain ⟨e1, ho1⟩ : ∃ e1, (g1.update D (Obj.mapSeq fun _ => (#[] : Array Value))).get? D = some (seqObj "list" #[] e1) := ⟨_, get?_update_seq hoL fun _ => #[]⟩
    refine wpAny_bind (seqEpoch_at ho1 rfl ?_)
    refine wpAny_bind (wpAny_newTuple ?_ (by show its.length ≤ _; rw [sizeLine_eq]; (first|lia|omega)))
    refine wpAny_bind (wpAny_newList ?_ (Nat.zero_le _))
    refine wpAny_holding ?_
    have keep2 : ∀ b o, s.heap.get? b = some o → ((g1.update D (Obj.mapSeq fun _ => (#[] : Array Value))).push (seqObj "tuple" its.toArray 0)).get? b = some o := fun b o e =>
      Heap.get?_push_of_some _ ((s1.2 b (hDold b o e)).trans (keep b o e))
    have ho2 : ((g1.update D (Obj.mapSeq fun _ => (#[] : Array Value))).push (seqObj "tuple" its.toArray 0)).get? D = some (seqObj "list" #[] e1) := Heap.get?_push_of_some _ ho1
    show wpAny (model X.prog X.w) X.A.in1.in1 (ksk_rest D (.ref f) false its.toArray e1 (.ref ((g1.update D (Obj.mapSeq fun _ => (#[] : Array Value))).push (seqObj "tuple" its.toArray 0)).objs.size)) _ _
      { s with heap := (((g1.update D (Obj.mapSeq fun _ => (#[] : Array Value))).push (seqObj "tuple" its.toArray 0)).push (seqObj "list" #[] 0)) }
    generalize (g1.update D (Obj.mapSeq fun _ => (#[] : Array Value))).push (seqObj "tuple" its.toArray 0) = g2 at keep2 ho2
    have I2 : Inv X pins σ H { s with heap := g2 } := I.kept (t' := s.toks) keep2
    have fpK : FpOk X pins H g2.objs.size := I2.fpOk (Nat.le_refl _) (I2.hok.fresh (Nat.le_refl _))
    have hKD : g2.objs.size ≠ D := fun z => absurd (Heap.lt_size ho2) (by rw [z]; exact Nat.lt_irrefl _)
    have hKx : g2.objs.size ∉ X.ex := fun z => absurd (Nat.lt_of_lt_of_le (hex _ z) (show X.s₀.heap.objs.size ≤ g2.objs.size from I2.sz)) (Nat.lt_irrefl _)
    have ho3 : (g2.push (seqObj "list" #[] 0)).get? D = some (seqObj "list" #[] e1) := Heap.get?_push_of_some _ ho2
    have hk3 : (g2.push (seqObj "list" #[] 0)).get? g2.objs.size = some (seqObj "list" #[] 0) := Heap.get?_push_size _ rfl
    have I3 : Inv X pins σ H { s with heap := g2.push (seqObj "list" #[] 0) } := I2.kept (t' := s.toks) fun b o e => Heap.get?_push_of_some _ e
    generalize g2.objs.size = kS at *
    generalize g2.push (seqObj "list" #[] 0) = g3 at *
    clear keep2 ho2 I2 keep hoL s1 ho1
    unfold ksk_rest
    refine wpAny_bind (wpAny_rule ?_)
    rw [List.forIn_toArray]
    have hr2 : Room k X.A.in1.in1 := (hr.in1).in1
    refine wpAny_bind (ksk_fold (fun i s' => ∃ H' kA e, Inv X pins σ H' s' ∧ Same H H' ∧ H' D = none ∧ H' kS = none ∧ s'.heap.get? D = some (seqObj "list" #[] e1) ∧ s'.heap.get? kS = some (seqObj "list" kA e) ∧ kA.size = i ∧
      ∀ j, j < i → ∃ b, kA.toList.getD j Value.none = .ref b ∧ H' b = some (.lst ((kz.getD j []).map V.int))) its 0 _ ⟨H, #[], 0, I3, Same.refl H, fpD.1, fpK.1, ho3, hk3, rfl, fun j hj => absurd hj (Nat.not_lt_zero _)⟩ ?step ?done)
    case step =>
      rintro j x s' hx ⟨H', kA, e, I', S', nD, nK, hD', hK', hsize, hkeys⟩
      simp only [Nat.zero_add] at hsize hkeys ⊢
      have hj : j < its.length := (List.getElem?_eq_some_iff.mp hx).1
      obtain ⟨v, hv, rvx⟩ : ∃ v, vs[j]? = some v ∧ RelV v x := by
        obtain ⟨u, e', r'⟩ := rv.get (List.getElem?_eq_getElem (l := vs) (i := j) (by (first|lia|omega)))
        rw [hx] at e'; cases e'
        exact ⟨_, List.getElem?_eq_getElem (by (first|lia|omega)), r'⟩
      have hks : kz[j]? = some (kz.getD j []) := by
        rw [List.getD_eq_getElem?_getD, List.getElem?_eq_getElem (by (first|lia|omega))]; rfl
      have hsp := turn j v _ H' hv hks S'
      have hbl : ([x] ++ []).length = ps.length := by
        have := F.len _ _ _ _ hsp
        simpa using this
      have hb' := hb s' [x] I'.kIn hbl
      rw [List.append_nil] at hb'
      refine wpAny_bind (wpAny_attempt (wpAny_call (codeAny_mono (F.run X.A.in1.in1 X.stack s' H' ⟨[x], []⟩ [x] [v] _ E0 hr2 I'.env0.in1.in1 hb' (.cons rvx .nil) hsp) fun r s'' hq => ?_)))
      cases r with
      | error ee => exact (hnx _ _ _ _ _ hq).elim
      | ok fl =>
        cases fl with
        | next => exact False.elim hq
        | brk => exact False.elim hq
        | cont => exact False.elim hq
        | ret u =>
          obtain ⟨r, H2, os, bare, un, hok, ru, S2, b, er, hb2⟩ := hq
          subst er
          obtain rfl : u = Value.ref b := ru
          have I'' : Inv X pins σ H2 s'' := I'.call' (ch := []) os un hok bare fun b z => absurd z (by simp)
          obtain ⟨hD2, nD2⟩ := fp_run I' (fpD.same nD) hDx hD' un
          obtain ⟨hK2, nK2⟩ := fp_run I' (fpK.same nK) hKx hK' un
          try dsimp only
          have s1 := Heap.SameBut.update s''.heap kS (Obj.mapSeq (·.push (Value.ref b)))
          obtain ⟨c2, hc2⟩ : ∃ c2, (s''.heap.update kS (Obj.mapSeq (·.push (Value.ref b)))).get? kS = some (seqObj "list" (kA.push (Value.ref b)) c2) := ⟨_, get?_update_seq hK2 (·.push (Value.ref b))⟩
          refine wpAny_bind (listUpdate_at hK2 rfl ?_ (by rw [sizeLine_eq]; (first|lia|omega)) (Nat.le_trans (Nat.le_of_eq (Array.size_push ..)) (by rw [sizeLine_eq]; (first|lia|omega))))
          have fk := fpK.same nK2
          have I4 := I''.turned (t' := s''.toks) (h' := s''.heap.update kS (Obj.mapSeq (·.push (Value.ref b)))) (fun b' o n q => (s1.2 b' n).trans q) nK2 fk.2.1 fk.2.2.2.1 fk.2.2.2.2.1 fk.2.2.2.2.2
          refine wpAny_pure ⟨rfl, H2, kA.push (Value.ref b), c2, I4, S'.trans S2, nD2, nK2, (s1.2 D hKD.symm).trans hD2, hc2, by rw [Array.size_push, hsize], fun i hi => ?_⟩
          by_cases hij : i < j
          · obtain ⟨b', e1', e2'⟩ := hkeys i hij
            refine ⟨b', ?_, S2 _ _ e2'⟩
            rw [Array.toList_push, List.getD_eq_getElem?_getD, List.getElem?_append_left (by rw [Array.length_toList]; (first|lia|omega)), ← List.getD_eq_getElem?_getD]
            exact e1'
          · have : i = j := by (first|lia|omega)
            subst this
            refine ⟨b, ?_, hb2⟩
            rw [Array.toList_push, List.getD_eq_getElem?_getD, List.getElem?_append_right (by rw [Array.length_toList]; (first|lia|omega))]
            simp [hsize]
    case done =>
      rintro s' ⟨H', kA, e, I', S', nD, nK, hD', hK', hsize, hkeys⟩
      rw [Nat.zero_add] at hsize hkeys
      try dsimp only
      refine wpAny_bind (listItems_at hK' rfl ?_)
      refine sortK_end hK' hD' hKD hsize (by (first|lia|omega)) h64' (by have := hr.un; show X.A.units + 1 + 1 < cLine; (first|lia|omega)) (kz := kz) (fun i hi => ?_) fun pm h' c hperm hpw k1 k2 k3 => ?_
      · obtain ⟨b, e1', e2'⟩ := hkeys i hi
        obtain ⟨zs, n, z1, z2, z3⟩ := I'.lst e2'
        exact ⟨b, zs, n, e1', intsAre_of z1, z2⟩
      · refine ⟨_, rfl, wpAny_pure ⟨_, rfl, ?_⟩⟩
        have fk := fpK.same nK
        have fd' := fpD.same nD
        have I5 : Inv X pins σ H' { s' with heap := h', toks := s'.toks } := by
          refine I'.step (g' := s'.gens) (d' := s'.drawn) (t' := s'.toks) (ch := [kS, D]) (fun b hb => ?_) (fun b o _ _ hc e _ => k1 b o (fun z => hc (by simp [z])) (fun z => hc (by simp [z])) e) (fun b o _ _ hc e _ => ⟨o.slots, k1 b o (fun z => hc (by simp [z])) (fun z => hc (by simp [z])) e⟩) (fun _ _ _ _ n => n) (fun b o hc e => ⟨o, k1 b o (fun z => hc (by simp [z])) (fun z => hc (by simp [z])) e⟩)
            (fun _ _ q => q) (fun _ _ _ q => q) (fun _ ps q => ⟨#[], by rw [q]; simp⟩) (fun m hm => ?_) ?_ I'.bare
          · rcases List.mem_cons.mp hb with z | z
            · subst z; exact ⟨fk.2.2.2.1, fk.2.1, fk.2.2.2.2.1, fk.2.2.2.2.2⟩
            · rw [List.mem_singleton.mp z]; exact ⟨fd'.2.2.2.1, fd'.2.1, fd'.2.2.2.2.1, fd'.2.2.2.2.2⟩
          · obtain ⟨o, es, ep, ho, r⟩ := hm
            exact ⟨o, es, ep, k1 _ o fk.2.1.symm fd'.2.1.symm ho, r⟩
          · intro b u e
            have nb1 : ∀ b u, H' b = some u → b ≠ kS := fun b u e z => by rw [z, nK] at e; cases e
            have nb2 : ∀ b u, H' b = some u → b ≠ D := fun b u e z => by rw [z, nD] at e; cases e
            refine (I'.hok b u e).stay (fun c v hc q => ?_) (fun _ q => q) fun _ _ q => q
            rcases hc with z | z
            · rw [z] at q ⊢; exact k1 _ v (nb1 b u e) (nb2 b u e) q
            · exact k1 _ v (nb1 c _ z) (nb2 c _ z) q
        have mem : ∀ i ∈ pm, i < its.length := fun i hi => List.mem_range.mp (hperm.mem_iff.mp hi)
        have hv : Vals (pm.map fun i => vs.getD i .non) (pm.map fun i => its.getD i Value.none) := by
          have : ∀ l : List Nat, (∀ i ∈ l, i < its.length) → Vals (l.map fun i => vs.getD i .non) (l.map fun i => its.getD i Value.none) := fun l => by
            induction l with
            | nil => intro _; exact .nil
            | cons i t ih =>
              intro hm
              refine .cons ?_ (ih fun j hj => hm j (List.mem_cons_of_mem _ hj))
              have hi := hm i List.mem_cons_self
              obtain ⟨u, e', r'⟩ := rv.get (List.getElem?_eq_getElem (l := vs) (i := i) (by (first|lia|omega)))
              show RelV (vs.getD i V.non) (its.getD i Value.none)
              rw [List.getD_eq_getElem?_getD, List.getD_eq_getElem?_getD, e', List.getElem?_eq_getElem (by (first|lia|omega))]
              exact r'
          exact this _ mem
        have I6 := I5.track fd' hDx (by rw [List.length_map, hperm.length_eq, List.length_range, sizeLine_eq]; (first|lia|omega)) hv k3
        refine ⟨.ref D, _, I6, rfl, q D _ pm hHD (S'.trans (same_new nD _)) (by rw [hlv]; exact hperm) hpw upd_same⟩
end
section
variable {X : Cx} {CX : CXT} {k : Nat} {x y : Str} {ps : List Str} {sp : Sp} {e : Expr} {p p2 kp pos : Pos} {ta : TE}
noncomputable def rSortK (sp : Sp) (xs : List V) (H1 : Hp) (Q : VK) : Prop := ∃ (p : Addr) (vs : List V) (kz : List (List Int)), xs = [.ref p] ∧ H1 p = some (.lst vs) ∧ vs.length < 64 ∧ kz.length = vs.length ∧
  (∀ (i : Nat) v ks H', vs[i]? = some v → kz[i]? = some ks → Same H1 H' → sp [v] H' (fun r H2 => Same H' H2 ∧ ∃ b, r = .ref b ∧ H2 b = some (.lst (List.map V.int ks))) E0) ∧
  ∀ D H' (pm : List Nat), H1 D = none → Same H1 H' → pm.Perm (List.range vs.length) → (pm.map fun i => kz.getD i []).Pairwise (fun a b => HT.lexLt b a = false) → H' D = some (.lst (pm.map fun i => vs.getD i .non)) → Q (.ref D) H'
noncomputable def tSortK (sp : Sp) (t : TA) : TE := fun σ H Q => t σ H fun xs H1 => rSortK sp xs H1 Q
theorem pe_sortK {t : TA} (hnx : NoX CX) (C : CalD X.prog X.w X.K X.mg X.base CX k y ps sp) (hr : Room (k + 2) X.A) (hex : ∀ b ∈ X.ex, b < X.s₀.heap.objs.size) (hg : Gl X "sorted") (hm : X.mg "sorted" = none) (hgy : Gl X y) (ha : PA X [e] t)
    (hdy : autoParam ((y == ("__debug__" : Str)) = false) L2.aK._auto_1) (hs : autoParam (starEach [e] X.env = [(false, eval e X.env)]) L2.aR._auto_1) : PE X (.Call (.Name "sorted" p) [e] [⟨some (Str.ofString "key"), .Name y p2, kp⟩] pos) (tSortK sp t) := by
  obtain ⟨f, fd, F, hmy, hk, hb⟩ := C.ex
  intro pins s σ H Q I h
  refine wpAny_Call_Name_kw (ld_blt I hg hm My.boot_sorted ?_)
  refine callWith_kw (thn (ha pos pins s σ H _ I h) fun us s1 zq => L2.el5 zq fun vs H1 I1 r1 q1 => ?_) (by rw [hs]; rfl) (by rw [hs]; rfl) (by rfl) (by rfl)
  refine kws_cons (ld_glob I1 hgy hmy (kws_nil ?_) hdy)
  obtain ⟨p', vs', kz, rfl, h1, h2, h3, h4, h5⟩ := q1
  obtain ⟨u, rfl, rx⟩ := vals1 r1
  cases rx
  show wpAny (model X.prog X.w) X.A (call (.builtin "sorted") [.ref p'] [(Str.ofString "key", .ref f)]) (EP X pins σ Q) X.xe s1
  exact sortK_core hnx F hb hr hex I1 h1 h2 h3 h4 h5
end
end L2
namespace Dn
open PySem L2
theorem ins1_perm {α : Type} (lt : α → α → Bool) (x : α) : ∀ l : List α, (ins1 lt x l).Perm (x :: l)
  | [] => List.Perm.refl _
  | y :: r => by
    unfold ins1
    split
    · exact ((ins1_perm lt x r).cons y).trans (List.Perm.swap x y r)
    · exact List.Perm.refl _
theorem isort_perm {α : Type} (lt : α → α → Bool) : ∀ l : List α, (isort lt l).Perm l
  | [] => List.Perm.refl _
  | x :: r => (ins1_perm lt x _).trans ((isort_perm lt r).cons x)
theorem ins1_sorted {α : Type} {lt : α → α → Bool} (tr : ∀ a b c, lt b a = false → lt c b = false → lt c a = false) (tot : ∀ a b, lt a b = true → lt b a = false) (x : α) : ∀ l : List α, l.Pairwise (fun a b => lt b a = false) → (ins1 lt x l).Pairwise (fun a b => lt b a = false)
  | [], _ => List.pairwise_singleton _ _
  | y :: r, h => by
    unfold ins1
    rw [List.pairwise_cons] at h
    split
    · rename_i hy
      refine List.pairwise_cons.mpr ⟨fun z hz => ?_, ins1_sorted tr tot x r h.2⟩
      rcases List.mem_cons.mp ((ins1_perm lt x r).mem_iff.mp hz) with e | e
      · rw [e]; exact tot _ _ hy
      · exact h.1 z e
    · rename_i hy
      have hy' : lt y x = false := by simpa using hy
      refine List.pairwise_cons.mpr ⟨fun z hz => ?_, List.pairwise_cons.mpr h⟩
      rcases List.mem_cons.mp hz with e | e
      · rw [e]; exact hy'
      · exact tr _ _ _ hy' (h.1 z e)
theorem isort_sorted {α : Type} {lt : α → α → Bool} (tr : ∀ a b c, lt b a = false → lt c b = false → lt c a = false) (tot : ∀ a b, lt a b = true → lt b a = false) : ∀ l : List α, (isort lt l).Pairwise (fun a b => lt b a = false)
  | [] => List.Pairwise.nil
  | x :: r => ins1_sorted tr tot x _ (isort_sorted tr tot r)
theorem sorted_unique {α : Type} {lt : α → α → Bool} : ∀ {l l' : List α}, l.Perm l' → (∀ a ∈ l, ∀ b ∈ l, lt a b = false → lt b a = false → a = b) → l.Pairwise (fun a b => lt b a = false) → l'.Pairwise (fun a b => lt b a = false) → l = l'
  | [], l', hp, _, _, _ => by rw [List.nil_perm.mp hp]
  | x :: r, [], hp, _, _, _ => by cases hp.symm.nil_eq
  | x :: r, y :: r', hp, an, h, h' => by
    rw [List.pairwise_cons] at h h'
    have e : x = y := by
      have hx : x ∈ y :: r' := hp.mem_iff.mp (List.mem_cons_self ..)
      have hy : y ∈ x :: r := hp.mem_iff.mpr (List.mem_cons_self ..)
      rcases List.mem_cons.mp hx with e | e
      · exact e
      · rcases List.mem_cons.mp hy with e' | e'
        · exact e'.symm
        · exact an x (List.mem_cons_self ..) y (List.mem_cons_of_mem _ e') (h'.1 x e) (h.1 y e')
    subst e
    rw [sorted_unique (List.Perm.cons_inv hp) (fun a ha b hb => an a (List.mem_cons_of_mem _ ha) b (List.mem_cons_of_mem _ hb)) h.2 h'.2]
theorem lex_tr (a b c : List Int) (h1 : lexLt b a = false) (h2 : lexLt c b = false) : lexLt c a = false := by
  cases h : lexLt c a with
  | false => rfl
  | true =>
    rw [← lex_eq] at h
    rcases HT.lexLt_neg c b a h with q | q
    · rw [lex_eq, h2] at q; cases q
    · rw [lex_eq, h1] at q; cases q
theorem lex_tot (a b : List Int) (h : lexLt a b = true) : lexLt b a = false := by
  cases h' : lexLt b a with
  | false => rfl
  | true =>
    rw [← lex_eq] at h h'
    have := HT.lexLt_trans _ _ _ h h'
    rw [HT.lexLt_irr] at this; cases this
theorem lex_anti (a b : List Int) (h : lexLt a b = false) (h' : lexLt b a = false) : a = b := by
  rw [← lex_eq] at h h'
  exact HT.lexLt_eq _ _ h h'
section
variable {X : Cx} {CX : CXT} {W : Wd} {Z : ZT} {a : Expr} {ea : DA} {k : Nat} {y : Str} {F : Fn} {p p2 kp pos : Pos} {pn : Str}
theorem keys_get {F : Fn} : ∀ {ts : List T} {kz : List (List Int)}, ts.mapM (keyOf F) = some kz → kz.length = ts.length ∧ ∀ (i : Nat) t ks, ts[i]? = some t → kz[i]? = some ks → keyOf F t = some ks
  | [], kz, e => by simp at e; subst e; exact ⟨rfl, fun i t ks h => by simp at h⟩
  | t :: ts, kz, e => by
    simp only [List.mapM_cons, Option.bind_eq_bind, Option.bind_eq_some_iff, Option.pure_def, Option.some.injEq] at e
    obtain ⟨k1, e1, ks1, e2, rfl⟩ := e
    obtain ⟨h1, h2⟩ := keys_get e2
    refine ⟨by simp [h1], fun i u ks hu hk => ?_⟩
    cases i with
    | zero => simp at hu hk; subst hu hk; exact e1
    | succ i => exact h2 i u ks (by simpa using hu) (by simpa using hk)
theorem zip_range {α β : Type} (l : List α) (m : List β) (da : α) (db : β) (h : l.length = m.length) : (List.range m.length).map (fun i => (l.getD i da, m.getD i db)) = l.zip m := by
  refine List.ext_getElem (by simp [h]) fun i h1 h2 => ?_
  simp at h1
  simp [List.getD_eq_getElem?_getD, List.getElem?_eq_getElem (show i < l.length by (first|lia|omega)), List.getElem?_eq_getElem h1]
theorem Trs.pick {A B : List Addr} {H : Hp} {ts : List T} {vs : List V} (h : Trs W A B H ts vs) : ∀ (pm : List Nat), (∀ i ∈ pm, i < ts.length) → Trs W A B H (pm.map fun i => ts.getD i .non) (pm.map fun i => vs.getD i .non)
  | [], _ => Trs.nil
  | i :: pm, hm => by
    have hi := hm i (List.mem_cons_self ..)
    obtain ⟨v, e, tv⟩ := h.get (List.getElem?_eq_getElem hi)
    refine Trs.cons ?_ (Trs.pick h pm fun j hj => hm j (List.mem_cons_of_mem _ hj))
    show Tr W A B H (ts.getD i .non) (vs.getD i .non)
    rw [List.getD_eq_getElem?_getD, List.getD_eq_getElem?_getD, e, List.getElem?_eq_getElem hi]
    exact tv
theorem de_sortK {cc : Bool} (hnx : NoX CX) (C : CalD X.prog X.w X.K X.mg X.base CX k y [pn] (spD W 1 F)) (hr : Room (k + 2) X.A) (hex : ∀ b ∈ X.ex, b < X.s₀.heap.objs.size) (hg : Gl X "sorted") (hm : X.mg "sorted" = none) (hgy : Gl X y) (ha : PA X [a] (tDA W Z ea))
    (hdy : autoParam ((y == ("__debug__" : Str)) = false) L2.aK._auto_1) (hs : autoParam (starEach [a] X.env = [(false, eval a X.env)]) L2.aR._auto_1) : PE X (.Call (.Name "sorted" p) [a] [⟨some (Str.ofString "key"), .Name y p2, kp⟩] pos) (tD W Z (dCB (bSortK cc F) ea)) :=
  (pe_sortK hnx C hr hex hg hm hgy ha hdy hs).weak fun σ H Q zq => L2.el6 zq fun A B ρ hr hl h => ⟨A, B, ρ, hr, hl, h.bind.imp fun ts0 m A1 H1 ex e1 r1 h1 us tu => by
    unfold bSortK at h1
    split at h1
    · rename_i x
      split at h1
      · rename_i ts hi
        split at h1
        · rename_i hc
          simp only [Bool.and_eq_true, decide_eq_true_eq] at hc
          split at h1
          · rename_i kz hkz
            split at h1
            · rename_i hnd
              obtain ⟨v, rfl, tv⟩ := tu.one
              obtain ⟨q, vs, rfl, hq, tr⟩ := litems_ok r1 tv hi
              have hlen := tr.length
              obtain ⟨g1, g2⟩ := keys_get hkz
              refine ⟨q, vs, kz, rfl, hq, by (first|lia|omega), by (first|lia|omega), fun i v ks H' hv hk S => ?_, fun D H' pm hD S hpm hpw hD' => ?_⟩
              · obtain ⟨t, et, tt⟩ := tr.getV hv
                have hkey := g2 i t ks et hk
                have ct : t.clean = true := (T.cleans_iff ts).mp hc.1 t (List.mem_of_getElem? et)
                have t0 : Tr W [] (A1 ++ B) H' t v := (Tr.turn (fun _ => Nd.nil) ct tt).ext (Ext.same S)
                refine ⟨rfl, [], A1 ++ B, [t], [], r1.hand.same S, Trs.cons t0 Trs.nil, ?_⟩
                unfold keyOf at hkey
                split at hkey
                · rename_i r m' hF
                  rw [hF]
                  intro A' H2 w e2 r2 tw
                  split at hkey
                  · rename_i us' hre
                    obtain ⟨k1, _⟩ := reify_ok r2 4 r w _ tw hre
                    simp only [Tr] at k1
                    obtain ⟨b, ws, rfl, _, hb, tws⟩ := k1
                    have := tws.ints hkey
                    subst this
                    exact ⟨e2.all, b, rfl, hb⟩
                  · cases hkey
                · cases hkey
              · have hlen2 : kz.length = ts.length := g1
                have mem : ∀ i ∈ pm, i < ts.length := fun i hi => by have := List.mem_range.mp (hpm.mem_iff.mp hi); (first|lia|omega)
                have tp := tr.pick pm mem
                have key : pm.map (fun i => ts.getD i .non) = (isort (fun a b => lexLt a.1 b.1) (kz.zip ts)).map (·.2) := by
                  have e1 : (pm.map fun i => (kz.getD i [], ts.getD i .non)).Perm (kz.zip ts) := by
                    have := hpm.map (fun i => (kz.getD i [], ts.getD i T.non))
                    rw [← hlen, zip_range kz ts [] .non g1] at this
                    exact this
                  have e2 : pm.map (fun i => (kz.getD i [], ts.getD i .non)) = isort (fun a b => lexLt a.1 b.1) (kz.zip ts) := by
                    refine sorted_unique (lt := fun a b => lexLt a.1 b.1) (e1.trans (isort_perm _ _).symm) (fun a ha b hb h1 h2 => ?_) ?_ (isort_sorted (fun a b c => lex_tr a.1 b.1 c.1) (fun a b => lex_tot a.1 b.1) _)
                    · have hk : a.1 = b.1 := lex_anti _ _ h1 h2
                      have ha' := e1.mem_iff.mp ha
                      have hb' := e1.mem_iff.mp hb
                      obtain ⟨i, hi, ei⟩ := List.getElem_of_mem ha'
                      obtain ⟨j, hj, ej⟩ := List.getElem_of_mem hb'
                      have hi' : i < kz.length := by simp at hi; (first|lia|omega)
                      have hj' : j < kz.length := by simp at hj; (first|lia|omega)
                      have q1 : a = (kz[i], ts[i]'(by (first|lia|omega))) := by rw [← ei]; simp
                      have q2 : b = (kz[j], ts[j]'(by (first|lia|omega))) := by rw [← ej]; simp
                      have : kz[i] = kz[j] := by rw [q1, q2] at hk; exact hk
                      have hij : i = j := (List.getElem_inj hnd).mp this
                      subst hij
                      rw [q1, q2]
                    · rw [List.pairwise_map] at hpw ⊢
                      exact hpw.imp fun {a b} h => by rw [← lex_eq]; exact h
                  have e3 := congrArg (List.map (·.2)) e2
                  rw [List.map_map] at e3
                  exact e3
                rw [key] at tp
                exact (alloc_ok r1 tp h1).2 D H' hD S hD'
            · exact h1.elim
          · exact h1.elim
        · exact h1.elim
      · exact h1.elim
    · exact h1.elim⟩
end
end Dn
set_option maxHeartbeats 1000000
namespace L2
open PySem PySem.Spec PyProof.Rows PySem.W
section
variable {X : Cx}
noncomputable def rSetI : List V → Hp → VK → Prop := fun xs H Q => ∃ (p : Addr) (ns : List Int), xs = [.ref p] ∧ H p = some (.lst (ns.map V.int)) ∧ ns.length ≤ 1000 ∧ ∀ r S, H r = none → Q (.ref r) (upd H r (.set S (firstMet (fun i => ns.getD i 0) ns.length).length))
theorem call_setI (hc : X.calm = true) : CallR X (.type "set") rSetI := by
  intro pins s σ H xs us Q I r h
  obtain ⟨p, ns, rfl, hp, hz, q⟩ := h
  obtain ⟨u, rfl, rx⟩ := vals1 r
  cases rx
  obtain ⟨its, rv, pl, hsz⟩ := I.list (SqL.of hp)
  have hl := rv.length
  rw [List.length_map] at hl
  have hsize : its.toArray.size = ns.length := by simp [hl]
  refine call_set_list (I.ok.hd hc) pl.isList (by simpa using intsAre_of rv) (by rw [hsize]; exact Nat.lt_of_le_of_lt (Nat.succ_le_succ hz) (by decide)) fun h' tk hS hk => ?_
  rw [hsize] at hS
  exact ⟨.ref s.heap.objs.size, _, I.laid (t' := tk) (o := .set _ _) (fun b o e => hk b o (Heap.lt_size e) e) (Nat.le_refl _) hS, rfl, q _ _ (I.hok.fresh (Nat.le_refl _))⟩
noncomputable def rLenS : List V → Hp → VK → Prop := fun xs H Q => ∃ r S n, xs = [.ref r] ∧ H r = some (.set S n) ∧ n ≤ 1000 ∧ Q (.int n) H
theorem call_lenS : CallR X (.builtin "len") rLenS := by
  intro pins s σ H xs us Q I r h
  obtain ⟨p, S, n, rfl, hp, hz, q⟩ := h
  obtain ⟨u, rfl, rx⟩ := vals1 r
  cases rx
  obtain ⟨o, es, ep, t, ho, hex, hd, _, _, hsb, hf, hn⟩ := I.hok p _ hp
  subst hn
  exact call_len_set ho hex hd hf (by (first|lia|omega)) ⟨.int _, H, I.tok _, ⟨_, rfl⟩, q⟩
end
end L2
namespace Dn
open PySem L2
theorem _root_.L2.Paired.mapP' {α β : Type} {F G : α → β → Prop} : ∀ {l₁ : List α} {l₂ : List β}, Paired F l₁ l₂ → (∀ a b, a ∈ l₁ → F a b → G a b) → Paired G l₁ l₂
  | _, _, .nil, _ => .nil
  | _, _, .cons r t, f => .cons (f _ _ (List.mem_cons_self ..) r) (L2.Paired.mapP' t fun a b ha => f a b (List.mem_cons_of_mem _ ha))
theorem nodup_le {α : Type} [DecidableEq α] : ∀ {l l' : List α}, l.Nodup → (∀ a ∈ l, a ∈ l') → l.length ≤ l'.length
  | [], l', _, _ => Nat.zero_le _
  | x :: r, l', hn, hs => by
    have hx := hs x (List.mem_cons_self ..)
    rw [List.nodup_cons] at hn
    have h1 := nodup_le (l := r) (l' := l'.erase x) hn.2 fun a ha => (List.mem_erase_of_ne (fun e => hn.1 (by rw [← e]; exact ha))).mpr (hs a (List.mem_cons_of_mem _ ha))
    rw [List.length_erase_of_mem hx] at h1
    have : 0 < l'.length := List.length_pos_of_mem hx
    rw [List.length_cons]; (first|lia|omega)
theorem nub_mem : ∀ (l : List Int) (x : Int), x ∈ nub l ↔ x ∈ l
  | [], x => by simp [nub]
  | y :: r, x => by
    unfold nub
    split
    · rename_i h
      rw [nub_mem r x]
      constructor
      · exact fun h => List.mem_cons_of_mem _ h
      · intro h'
        rcases List.mem_cons.mp h' with e | e
        · rw [e]; exact h
        · exact e
    · rw [List.mem_cons, List.mem_cons, nub_mem r x]
theorem nub_nodup : ∀ l : List Int, (nub l).Nodup
  | [] => List.nodup_nil
  | y :: r => by
    unfold nub
    split
    · exact nub_nodup r
    · rename_i h
      exact List.nodup_cons.mpr ⟨fun z => h ((nub_mem r y).mp z), nub_nodup r⟩
theorem dedup_ok : ∀ (l acc : List Int), acc.Nodup → (l.foldl PyProof.Rows.step_dedup acc).Nodup ∧ ∀ x, x ∈ l.foldl PyProof.Rows.step_dedup acc ↔ x ∈ acc ∨ x ∈ l
  | [], acc, h => ⟨h, fun x => by simp⟩
  | y :: r, acc, h => by
    rw [List.foldl_cons]
    by_cases hy : y ∈ acc
    · have e : PyProof.Rows.step_dedup acc y = acc := by unfold PyProof.Rows.step_dedup; simp [hy]
      rw [e]
      obtain ⟨h1, h2⟩ := dedup_ok r acc h
      refine ⟨h1, fun x => ?_⟩
      rw [h2 x, List.mem_cons]
      constructor
      · rintro (h | h)
        · exact .inl h
        · exact .inr (.inr h)
      · rintro (h | h | h)
        · exact .inl h
        · exact .inl (h ▸ hy)
        · exact .inr h
    · have e : PyProof.Rows.step_dedup acc y = acc ++ [y] := by unfold PyProof.Rows.step_dedup; simp [hy]
      rw [e]
      have hn : (acc ++ [y]).Nodup := by
        rw [List.nodup_append]
        exact ⟨h, by simp, fun a ha b hb => by rw [List.mem_singleton.mp hb]; rintro rfl; exact hy ha⟩
      obtain ⟨h1, h2⟩ := dedup_ok r (acc ++ [y]) hn
      refine ⟨h1, fun x => ?_⟩
      rw [h2 x, List.mem_append, List.mem_singleton, List.mem_cons]
      constructor
      · rintro ((h | h) | h)
        · exact .inl h
        · exact .inr (.inl h)
        · exact .inr (.inr h)
      · rintro (h | h | h)
        · exact .inl (.inl h)
        · exact .inl (.inr h)
        · exact .inr h
theorem firstMet_nub (ns : List Int) : (PyProof.Rows.firstMet (fun i => ns.getD i 0) ns.length).length = (nub ns).length := by
  unfold PyProof.Rows.firstMet
  rw [map_range_getD]
  obtain ⟨h1, h2⟩ := dedup_ok ns [] List.nodup_nil
  have a := nodup_le h1 fun x hx => (nub_mem ns x).mpr (by simpa using (h2 x).mp hx)
  have b := nodup_le (nub_nodup ns) fun x hx => (h2 x).mpr (.inr ((nub_mem ns x).mp hx))
  (first|lia|omega)
theorem nub_le : ∀ ns : List Int, (nub ns).length ≤ ns.length
  | [] => Nat.le_refl _
  | x :: r => by
    unfold nub
    have := nub_le r
    split
    · rw [List.length_cons]; (first|lia|omega)
    · rw [List.length_cons, List.length_cons]; (first|lia|omega)
section
variable {X : Cx} {CX : CXT} {W : Wd} {Z : ZT} {a b c : Expr} {da db dc : DE} {pos p p1 p2 : Pos} {es : List Expr} {ea : DA} {k : Nat} {x : Str} {ps : List Str} {F : Fn}
theorem de_lenSet (hg1 : Gl X "len") (hm1 : X.mg "len" = none) (hg2 : Gl X "set") (hm2 : X.mg "set" = none) (hc : X.calm = true) (ha : PA X [a] (tDA W Z ea)) (h1 : autoParam (starEach [.Call (.Name "set" p1) [a] [] p2] X.env = [(false, eval (.Call (.Name "set" p1) [a] [] p2) X.env)]) L2.aR._auto_1) (h2 : autoParam (starEach [a] X.env = [(false, eval a X.env)]) L2.aR._auto_1) :
    PE X (.Call (.Name "len" p) [.Call (.Name "set" p1) [a] [] p2] [] pos) (tD W Z (dCB bLenSet ea)) :=
  (pe_callB call_lenS hg1 hm1 My.boot_len (pa_cons (pe_callTy (call_setI hc) hg2 hm2 My.boot_set ha (by decide) (by decide) (by rw [h2]; rfl) (by rfl)) pa_nil (by rw [h1]; rfl)) (by decide) (by decide) (by rw [h1]; rfl) (by rfl)).weak fun σ H Q zq => L2.el6 zq fun A B ρ hr hl h => ⟨A, B, ρ, hr, hl, h.bind.imp fun ts m A1 H1 ex e1 r1 hq vs tv => by
    unfold bLenSet at hq
    split at hq
    · rename_i x
      split at hq
      · rename_i ns e
        split at hq
        · rename_i hz
          simp only [Option.bind_eq_some_iff] at e
          obtain ⟨ts, e, f⟩ := e
          obtain ⟨v, rfl, tv1⟩ := tv.one
          obtain ⟨q, ws, rfl, hq', tr⟩ := litems_ok r1 tv1 e
          have := tr.ints f
          subst this
          refine ⟨q, ns, rfl, hq', hz, fun r S hr0 => ⟨r, S, _, rfl, upd_same, ?_, ?_⟩⟩
          · have := nub_le ns
            rw [firstMet_nub]; (first|lia|omega)
          · rw [firstMet_nub]
            exact hq _ _ (Ext.same (same_new hr0 _)) (r1.same (same_new hr0 _)) _ trI
        · exact hq.elim
      · exact hq.elim
    · exact hq.elim⟩
theorem de_sortSet2 {cc : Bool} (hg1 : Gl X "sorted") (hm1 : X.mg "sorted" = none) (hg2 : Gl X "set") (hm2 : X.mg "set" = none) (hc : X.calm = true) (ha : PA X [a] (tDA W Z ea)) (h1 : autoParam (starEach [.Call (.Name "set" p1) [a] [] p2] X.env = [(false, eval (.Call (.Name "set" p1) [a] [] p2) X.env)]) L2.aR._auto_1) (h2 : autoParam (starEach [a] X.env = [(false, eval a X.env)]) L2.aR._auto_1) :
    PE X (.Call (.Name "sorted" p) [.Call (.Name "set" p1) [a] [] p2] [] pos) (tD W Z (dCB (bSortSet2 cc) ea)) :=
  (pe_callB (call_sorted2 hc) hg1 hm1 My.boot_sorted (pa_cons (pe_callTy (call_set2 hc) hg2 hm2 My.boot_set ha (by decide) (by decide) (by rw [h2]; rfl) (by rfl)) pa_nil (by rw [h1]; rfl)) (by decide) (by decide) (by rw [h1]; rfl) (by rfl)).weak fun σ H Q zq => L2.el6 zq fun A B ρ hr hl h => ⟨A, B, ρ, hr, hl, h.bind.imp fun ts m A1 H1 ex e1 r1 hq vs tv => by
    unfold bSortSet2 at hq
    split at hq
    · rename_i x
      split at hq
      · rename_i i j e
        split at hq
        · rename_i hz
          simp only [Option.bind_eq_some_iff] at e
          obtain ⟨ts, e, f⟩ := e
          obtain ⟨v, rfl, tv1⟩ := tv.one
          obtain ⟨q, ws, rfl, hq', tr⟩ := litems_ok r1 tv1 e
          have := tr.ints f
          subst this
          refine rd_set2 hq' ⟨hz.1, hz.2.1⟩ ⟨hz.2.2.1, hz.2.2.2⟩ fun r hr0 => rd_sorted2 hr0 fun D H' ms hD S L hp hs => ?_
          have em : ms = if i = j then [i] else if i < j then [i, j] else [j, i] := by
            by_cases hij : i = j
            · rw [if_pos hij] at hp ⊢
              exact List.perm_singleton.mp hp
            · rw [if_neg hij] at hp ⊢
              rcases PyProof.Rows.ksk_perm2 hp with e | e
              · rw [e] at hs ⊢
                have : i ≤ j := by simpa using hs
                rw [if_pos (by (first|lia|omega))]
              · rw [e] at hs ⊢
                have : j ≤ i := by simpa using hs
                rw [if_neg (by (first|lia|omega))]
          subst em
          exact (alloc_ok r1 (Trs.of_ints _) hq).2 D H' hD S L
        · exact hq.elim
      · exact hq.elim
    · exact hq.elim⟩
noncomputable def rSortT : List V → Hp → VK → Prop := fun xs H Q => rSortedI xs H Q ∨ rSortedL xs H Q
theorem call_sortT (hu : X.A.units + 64 < cLine) : CallR X (.builtin "sorted") rSortT := CallR.or call_sortedI (call_sortedL hu)
theorem Trs.rows {A B : List Addr} {H : Hp} : ∀ {ts : List T} {vs : List V} {rs : List (List Int)}, Trs W A B H ts vs → rowsOf ts = some rs → Paired (LI H) vs rs ∧ ∀ (q : Addr), V.ref q ∈ vs → Nd A B q
  | [], _, rs, h, e => by
    simp only [Trs] at h; simp [rowsOf] at e; subst h e
    exact ⟨.nil, fun q hq => by simp at hq⟩
  | t :: ts, _, rs, h, e => by
    simp only [Trs] at h
    obtain ⟨v, r, rfl, h1, h2⟩ := h
    cases t with
    | lst us =>
      simp only [rowsOf, Option.bind_eq_some_iff, Option.map_eq_some_iff] at e
      obtain ⟨ns, e1, rs', e2, rfl⟩ := e
      simp only [Tr] at h1
      obtain ⟨a, ws, rfl, n, q, tr⟩ := h1
      have := tr.ints e1
      subst this
      obtain ⟨k1, k2⟩ := Trs.rows h2 e2
      refine ⟨.cons ⟨a, rfl, q⟩ k1, fun q' hq' => ?_⟩
      rcases List.mem_cons.mp hq' with z | z
      · cases z; exact n
      · exact k2 q' z
    | _ => simp [rowsOf] at e
theorem Trs.of_rows {A B : List Addr} {H : Hp} : ∀ {ws : List V} {qs : List (List Int)}, Paired (LI H) ws qs → (∀ q : Addr, V.ref q ∈ ws → Nd A B q) → Trs W A B H (qs.map fun r => .lst (r.map .int)) ws
  | _, _, .nil, _ => Trs.nil
  | _, _, .cons ⟨a, e, q⟩ t, h => by
    subst e
    refine Trs.cons ?_ (Trs.of_rows t fun q hq => h q (List.mem_cons_of_mem _ hq))
    simp only [Tr]
    exact ⟨a, _, rfl, h a (List.mem_cons_self ..), q, Trs.of_ints _⟩
theorem li_there {H : Hp} {b : Addr} : ∀ {ws : List V} {rs : List (List Int)}, Paired (LI H) ws rs → V.ref b ∈ ws → ∃ o, H b = some o
  | _, _, .nil, h => by cases h
  | _, _, .cons ⟨a, e, q⟩ t, h => by
    rcases List.mem_cons.mp h with z | z
    · rw [e] at z; cases z; exact ⟨_, q⟩
    · exact li_there t z
theorem cs_sorted {c : Bool} : CaS W (bSorted c) rSortT := by
  intro Z σ A B H ms xs vs Q hr tx h
  unfold bSorted at h
  split at h
  · rename_i x
    split at h
    · rename_i ts e
      split at h
      · rename_i hz
        obtain ⟨v, rfl, tv⟩ := tx.one
        obtain ⟨a, ws, rfl, q, r⟩ := litems_ok hr tv e
        have hlen := r.length
        split at h
        · rename_i ns f
          have := r.ints f
          subst this
          refine .inl ⟨a, ns, rfl, q, by simp at hlen; (first|lia|omega), fun D H' qs hD S L hp hs => ?_⟩
          have em : qs = isort (fun a b => decide (a < b)) ns := by
            refine sorted_unique (lt := fun a b => decide (a < b)) (hp.trans (isort_perm _ _).symm) (fun a _ b _ h1 h2 => ?_) ?_ (isort_sorted (fun a b c h1 h2 => ?_) (fun a b h1 => ?_) _)
            · simp at h1 h2; (first|lia|omega)
            · exact hs.imp fun {a b} h => by simp; (first|lia|omega)
            · simp at h1 h2 ⊢; (first|lia|omega)
            · simp at h1 ⊢; (first|lia|omega)
          rw [em] at L
          exact (alloc_ok hr (Trs.of_ints _) h).2 D H' hD S L
        · split at h
          · rename_i rs f
            obtain ⟨k1, k2⟩ := r.rows f
            refine .inr ⟨a, ws, rs, rfl, q, k1, by (first|lia|omega), fun D H' us qs hD S L hP hp hs hw => ?_⟩
            have em : qs = isort lexLt rs := by
              refine sorted_unique (lt := lexLt) (hp.trans (isort_perm _ _).symm) (fun a _ b _ h1 h2 => lex_anti a b h1 h2) (hs.imp fun {a b} h => by rw [← lex_eq]; exact h) (isort_sorted lex_tr lex_tot _)
            subst em
            have tr2 : Trs W A B H ((isort lexLt rs).map fun r => .lst (r.map .int)) us := by
              refine Trs.of_rows ?_ fun q hq => k2 q (hw.mem_iff.mp hq)
              refine Paired.mapP' hP fun v ns hv ⟨b, e, hb⟩ => ⟨b, e, ?_⟩
              subst e
              have hm := hw.mem_iff.mp hv
              have : ∃ o, H b = some o := li_there k1 hm
              obtain ⟨o, ho⟩ := this
              rw [S _ _ ho] at hb
              rw [ho]; exact hb
            exact (alloc_ok hr tr2 h).2 D H' hD S L
          · exact h.elim
      · exact h.elim
    · exact h.elim
  · exact h.elim
end
end Dn
set_option maxHeartbeats 1000000
namespace Dn
open PySem L2
section
variable {X : Cx} {CX : CXT} {W : Wd} {Z : ZT} {a b c : Expr} {da db dc : DE} {pos p p1 p2 : Pos} {es : List Expr} {ea : DA} {k : Nat} {x : Str} {ps : List Str} {F : Fn}
mutual
theorem Tr.shift {A A' B : List Addr} {H : Hp} : ∀ {t : T} {v : V}, Tr W A' (A ++ B) H t v → Tr W (A ++ A') B H (t.shift A.length) v
  | .non, _, h => by simpa only [Tr, T.shift] using h
  | .bl _, _, h => by simpa only [Tr, T.shift] using h
  | .int _, _, h => by simpa only [Tr, T.shift] using h
  | .str _, _, h => by simpa only [Tr, T.shift] using h
  | .ty _, _, h => by simpa only [Tr, T.shift] using h
  | .lst ts, _, h => by
    simp only [Tr, T.shift] at h ⊢
    obtain ⟨a, vs, rfl, n, q, r⟩ := h
    exact ⟨a, vs, rfl, Nd.over n, q, Trs.shift r⟩
  | .tup ts, _, h => by
    simp only [Tr, T.shift] at h ⊢
    obtain ⟨a, vs, rfl, n, q, r⟩ := h
    exact ⟨a, vs, rfl, Nd.over n, q, Trs.shift r⟩
  | .ins c ts, _, h => by
    simp only [Tr, T.shift] at h ⊢
    obtain ⟨a, dx, vs, rfl, n, q, l, r⟩ := h
    have r' := Trs.shift r
    exact ⟨a, dx, vs, rfl, Nd.over n, q, by rw [r'.length, ← r.length]; exact l, r'⟩
  | .dic ks ts, _, h => by
    simp only [Tr, T.shift] at h ⊢
    obtain ⟨a, vs, rfl, n, q, r⟩ := h
    have r' := Trs.shift r
    have hl : (T.shifts A.length ts).length = ts.length := by rw [r'.length, ← r.length]
    rw [hl]
    exact ⟨a, vs, rfl, Nd.over n, q, r'⟩
  | .cel k, _, h => by
    simp only [Tr, T.shift] at h ⊢
    obtain ⟨a, q, rfl⟩ := h
    exact ⟨a, by rw [List.getElem?_append_right (by (first|lia|omega))]; simpa using q, rfl⟩
  | .exn _, _, h => by
    simp only [Tr, T.shift] at h ⊢
    obtain ⟨a, rfl, n, q⟩ := h
    exact ⟨a, rfl, Nd.over n, q⟩
  | .scr ts, _, h => by
    simp only [Tr, T.shift] at h ⊢
    obtain ⟨a, vs, rfl, q, r⟩ := h
    refine ⟨a, vs, rfl, ?_, Trs.shift r⟩
    rcases q with ⟨n, q⟩ | q
    · exact .inl ⟨Nd.over n, q⟩
    · exact .inr q
theorem Trs.shift {A A' B : List Addr} {H : Hp} : ∀ {ts : List T} {vs : List V}, Trs W A' (A ++ B) H ts vs → Trs W (A ++ A') B H (T.shifts A.length ts) vs
  | [], _, h => by simpa only [Trs, T.shifts] using h
  | t :: ts, _, h => by
    simp only [Trs, T.shifts] at h ⊢
    obtain ⟨v, r, rfl, h1, h2⟩ := h
    exact ⟨v, r, rfl, Tr.shift h1, Trs.shift h2⟩
theorem Nd.over {A A' B : List Addr} {a : Addr} (n : Nd A' (A ++ B) a) : Nd (A ++ A') B a := ⟨fun z => by
  rcases List.mem_append.mp z with z | z
  · exact n.2 (List.mem_append_left _ z)
  · exact n.1 z, fun z => n.2 (List.mem_append_right _ z)⟩
end
theorem Cell.shift {A A' B : List Addr} {H : Hp} {q : Addr} {m : MO} (h : Cell W A' (A ++ B) H q m) : Cell W (A ++ A') B H q (m.shift A.length) := by
  cases m with
  | lst ts => obtain ⟨vs, e, r⟩ := h; exact ⟨vs, e, r.shift⟩
  | ins c ts =>
    obtain ⟨dx, vs, e, l, r⟩ := h
    have r' := r.shift
    exact ⟨dx, vs, e, by rw [r'.length, ← r.length]; exact l, r'⟩
  | dic ks ts =>
    obtain ⟨vs, e, r⟩ := h
    have r' := r.shift
    have hl : (T.shifts A.length ts).length = ts.length := by rw [r'.length, ← r.length]
    exact ⟨vs, by rw [hl]; exact e, r'⟩
theorem Rl.join {A A' B : List Addr} {ms ms' : List MO} {H H' : Hp} (h : Rl W A B ms H) (e : Ext [] H A' H') (h' : Rl W A' (A ++ B) ms' H') : Ext A H (A ++ A') H' ∧ Rl W (A ++ A') B (ms ++ ms'.map (MO.shift A.length)) H' := by
  have S := e.all
  have fresh : ∀ c ∈ A', H c = none := fun c hc => by
    obtain ⟨l, hl, hn⟩ := e.pre
    exact hn c (by rw [hl] at hc; simpa using hc)
  refine ⟨⟨⟨A', rfl, fresh⟩, fun b o _ q => S b o q, fun b o q => ⟨o, S b o q⟩⟩, ?_, ?_, fun b hb => h'.bt b (List.mem_append_right _ hb), by simp [h.len, h'.len], ?_⟩
  · rw [List.nodup_append]
    refine ⟨h.nd, h'.nd, fun a ha b hb z => ?_⟩
    subst z
    exact h'.dj a hb (List.mem_append_left _ ha)
  · intro a ha
    rcases List.mem_append.mp ha with z | z
    · exact h.dj a z
    · exact fun y => h'.dj a z (List.mem_append_right _ y)
  · intro kk mm q hm hq
    by_cases hk : kk < A.length
    · rw [List.getElem?_append_left hk] at hq
      rw [List.getElem?_append_left (by rw [h.len]; exact hk)] at hm
      have c := (h.ce kk mm q hm hq).conv (A' := A ++ A') (B' := B) (fun x o ho n => ⟨fun z => (List.mem_append.mp z).elim (fun z => n.1 z) (fun z => by rw [fresh x z] at ho; cases ho), n.2⟩) fun k a q => by
          rw [List.getElem?_append_left (List.getElem?_eq_some_iff.mp q).1]; exact q
      obtain ⟨o, ho⟩ := c.there
      exact c.ext (Ext.same S) (by rw [S _ _ ho, ho])
    · rw [List.getElem?_append_right (by (first|lia|omega))] at hq
      rw [List.getElem?_append_right (by rw [h.len]; (first|lia|omega))] at hm
      rw [h.len] at hm
      simp only [List.getElem?_map, Option.map_eq_some_iff] at hm
      obtain ⟨m0, hm, rfl⟩ := hm
      exact (h'.ce _ m0 q hm hq).shift
theorem callT_ok {A B : List Addr} {H : Hp} {ms : List MO} {ts : List T} {vs : List V} {σ : St} {Q : VK} (hz : ZP X CX W Z) (hlen : ts.length = ps.length) (hr : Rl W A B ms H) (ht : Trs W A B H ts vs) (h : wpR W Z σ A B H (callT F ms ts) (VQ W B Q)) :
    ∃ E, spD W ps.length F vs H Q E ∧ ∀ pins s, L2.Inv X pins σ H s → ∀ ex s', CX X.stack H s E ex s' → X.xe ex s' := by
  unfold callT at h
  have hl : vs.length = ps.length := by rw [← ht.length]; exact hlen
  split at h
  · rename_i hc
    have ht' := Trs.turn (A' := []) (B' := A ++ B) (fun _ => Nd.nil) hc ht
    cases hF : F ts [] with
    | ok t m' =>
      rw [hF] at h
      refine ⟨fun _ _ _ => False, ⟨hl, [], A ++ B, ts, [], hr.hand, ht', ?_⟩, fun pins s I ex s' q => hz pins σ H s _ 0 ex s' I (fun _ _ _ z => z.elim) q⟩
      rw [hF]
      intro A' H' v e1 r1 tv
      obtain ⟨k1, k2⟩ := hr.join e1 r1
      rw [← hr.len] at k2
      exact h _ H' k1 k2 v (by rw [hr.len]; exact tv.shift)
    | exc c m' =>
      rw [hF] at h
      refine ⟨fun cls _ H' => cls = .ref (W.cl c) ∧ Z c σ H', ⟨hl, [], A ++ B, ts, [], hr.hand, ht', ?_⟩, fun pins s I ex s' q => hz pins σ H s _ c ex s' I (fun _ _ _ z => z) q⟩
      rw [hF]
      intro A' H' e1 r1
      exact ⟨rfl, h A H' (Ext.same e1.all) (hr.same e1.all)⟩
    | bad => rw [hF] at h; exact h.elim
  · exact h.elim
theorem de_fnT (C : CalD X.prog X.w X.K X.mg X.base CX k x ps (spD W ps.length F)) (hz : ZP X CX W Z) (hr : Room k X.A) (hg : Gl X x) (ha : PA X (a :: es) (tDA W Z ea)) (hn : DA.len ea ps.length) (hdb : autoParam ((x == ("__debug__" : Str)) = false) L2.aK._auto_1)
    (he : autoParam (starEach (a :: es) X.env = (false, eval a X.env) :: starEach es X.env) L2.aR._auto_1) (hpl : autoParam ((backTo pos (starEach es X.env)).any (·.1) = false) L2.aR._auto_1) : PE X (.Call (.Name x p) (a :: es) [] pos) (tD W Z (dCB (callT F) ea)) :=
  (pe_callX C hr hg ha hdb he hpl).weak fun σ H Q zq => L2.el6 zq fun A B ρ hr hl h => ⟨A, B, ρ, hr, hl, h.bind.imp fun ts m A1 H1 ex e1 r1 h1 vs tv => callT_ok hz (hn _ _ _ ex) r1 tv h1⟩
theorem hcallT (hz : ZP X CX W Z) {A B : List Addr} {H : Hp} {ms : List MO} {ts : List T} {vs : List V} {σ : St} {Q : VK} (hl : ts.length = ps.length) (hr : Rl W A B ms H) (ht : Trs W A B H ts vs) (h : wpR W Z σ A B H (callT F ms ts) (VQ W B Q)) : ∃ E, spD W ps.length F vs H Q E ∧ ∀ pins s, L2.Inv X pins σ H s → ∀ ex s', CX X.stack H s E ex s' → X.xe ex s' :=
  callT_ok hz hl hr ht h
theorem fd_bad {P : Program} {w : World} {K : PySem.W.Frag} {mg : Str → Option Value} {base : Heap} {st : Stmt} (Fd : Fd K mg x st ps) : CalD P w K mg base CX k x ps (spD W ps.length fun _ _ => .bad) := by
  obtain ⟨f, fd, G, a, b⟩ := Fd.ex
  exact ⟨f, fd, ⟨fun vs H Q E h => h.1, fun A outer s H args us vs Q E _ _ _ _ h => by obtain ⟨_, _, _, _, _, _, _, z⟩ := h; exact z.elim⟩, a, G.kp, .all b⟩
end
end Dn
namespace Dn
open PySem L2
theorem fld_nil {W : Wd} {f : Str} : FldD W f [] := ⟨fun c i h => by simp at h⟩
theorem fld_cons {W : Wd} {f : Str} {c i : Nat} {ix : List (Nat × Nat)} (h1 : (W.nm c)[i]? = some f) (h2 : (W.nm c).Nodup) (h3 : Cls W.K (W.cl c)) (h4 : NoAttr W.K (W.cl c) f) (h5 : (W.nm c).length < 1000) (r : FldD W f ix) : FldD W f ((c, i) :: ix) := ⟨fun c' i' h => by
  by_cases e : c' = c
  · subst e
    simp [List.lookup] at h
    subst h
    exact ⟨h1, h2, h3, h4, h5⟩
  · have hb : (c' == c) = false := beq_eq_false_iff_ne.mpr e
    simp only [List.lookup, hb] at h
    exact r.ok c' i' h⟩
theorem glob_mk {K : PySem.W.Frag} {mg : Str → Option Value} {h : Heap} {x : Str} {i : Int} {t : Tok} (X : K.In h) (G : h.Ns mainGlobals mg) (a : PySem.W.nsIn K mainGlobals x = some (some (.int i t))) : ∃ t, mg x = some (.int i t) := ⟨t, PySem.W.mg_of X G a⟩
noncomputable def spL (K : PySem.W.Frag) (F : Fn) : Sp := fun vs H Q _ => ∃ (a : Addr) (ns : List Int), vs = [.ref a] ∧ SqL K H a (ns.map V.int) ∧ (∃ m, F [.scr (ns.map T.int)] [] = .ok (.bl true) m) ∧ ∀ H', Q (.bl true) H'
theorem spL_spD {W : Wd} {F : Fn} {vs : List V} {H : Hp} {Q : VK} {E : XK} (h : spL W.K F vs H Q E) : spD W 1 F vs H Q E := by
  obtain ⟨a, ns, rfl, hS, ⟨m, e⟩, q⟩ := h
  refine ⟨rfl, [], [], [.scr (ns.map T.int)], [], ⟨by simp, fun a ha => (List.not_mem_nil ha).elim, fun b hb => (List.not_mem_nil hb).elim, rfl, fun k m a hm => by simp at hm⟩, Trs.cons ?_ Trs.nil, ?_⟩
  · simp only [Tr]
    refine ⟨a, ns.map V.int, rfl, ?_, Trs.of_ints ns⟩
    rcases hS with h | h
    · exact .inl ⟨⟨by simp, by simp⟩, h⟩
    · exact .inr h
  · rw [e]
    intro A' H' v _ _ tv
    have : v = .bl true := by simpa only [Tr] using tv
    subst this
    exact q H'
theorem spL_law {K : PySem.W.Frag} {H : Hp} {a : Addr} {ns : List Int} {F : Fn} {E : XK} (hS : SqL K H a (ns.map V.int)) (h : ∃ m, F [.scr (ns.map T.int)] [] = .ok (.bl true) m) : spL K F [.ref a] H (fun v _ => v = .bl true) E := ⟨a, ns, rfl, hS, h, fun _ => rfl⟩
theorem lix_trs {W : Wd} {A B : List Addr} {ms : List MO} {H H' : Hp} (hr : Rl W A B ms H) : ∀ {vs : List V} {nss : List (List Int)}, Paired (LIx (fun a => H a = none) H') vs nss → Trs W A B H' (nss.map fun ns => .lst (ns.map .int)) vs
  | _, _, .nil => Trs.nil
  | _, _, .cons ⟨a, e, n, q⟩ t => by
    subst e
    refine Trs.cons ?_ (lix_trs hr t)
    simp only [Tr]
    exact ⟨a, _, rfl, hr.tree n, q, Trs.of_ints _⟩
theorem da_intss {X : Cx} {W : Wd} {Z : ZT} {es : List Expr} {nss : List (List Int)} (h : constIntss es = some nss) (hz : nss.all (fun ns => decide (ns.length ≤ 1000)) = true) : PA X es (tDA W Z (dIntss nss)) :=
  (pa_intss h hz).weak fun σ H Q ⟨A, B, ρ, hr, hl, h⟩ vs H' S P => h A H' (Ext.same S) (hr.same S) vs (lix_trs hr P)
structure MenuShape (st : Stmt) (x k : Str) (e1 e2 e3 e4 e5 e6 : List Expr) (P : Nat → Pos) : Prop where
  eq : defBody st = [.Assign [.Name x (P 0)] (.List e1 (P 1)) (P 2),
    .Assign [.Name x (P 3)] (.BinOp (.Name x (P 4)) .Add (.List e2 (P 5)) (P 6)) (P 7),
    .Assign [.Name x (P 8)] (.BinOp (.Name x (P 9)) .Add (.List e3 (P 10)) (P 11)) (P 12),
    .Assign [.Name x (P 13)] (.BinOp (.Name x (P 14)) .Add (.List e4 (P 15)) (P 16)) (P 17),
    .Assign [.Name x (P 18)] (.BinOp (.Name x (P 19)) .Add (.List e5 (P 20)) (P 21)) (P 22),
    .Assign [.Name x (P 23)] (.BinOp (.Name x (P 24)) .Add (.List e6 (P 25)) (P 26)) (P 27),
    .Return (some (.Subscript (.Name x (P 28)) (.BinOp (.Name k (P 29)) .Mod (.Constant (.int 22) 0 (P 30)) (P 31)) (P 32))) (P 33)]
  c1 : constIntss e1 = some [[12, 2, 3, 4, 1, 1], [12, 2, 3, 6, 1, 1],
   [12, 2, 3, 5, 1, 1], [10, 2, 3, 5, 1, 1]]
  c2 : constIntss e2 = some [[11, 2, 3, 8, 1, 1], [9, 2, 3, 6, 1, 1],
   [12, 2, 4, 8, 2, 2], [10, 2, 5, 8, 3, 3]]
  c3 : constIntss e3 = some [[10, 3, 5, 7, 2, 2], [11, 2, 4, 7, 1, 2],
   [9, 2, 4, 5, 1, 2], [10, 2, 3, 5, 1, 2]]
  c4 : constIntss e4 = some [[12, 2, 3, 6, 1, 2], [12, 3, 4, 6, 1, 2],
   [11, 2, 5, 6, 1, 2], [8, 2, 4, 6, 2, 3]]
  c5 : constIntss e5 = some [[10, 2, 3, 4, 1, 2], [12, 2, 3, 6, 2, 1],
   [8, 2, 3, 8, 1, 1], [8, 2, 4, 8, 2, 1]]
  c6 : constIntss e6 = some [[6, 2, 4, 6, 1, 3],
   [7, 2, 3, 7, 2, 2]]
  w1 : ∀ env, swapsWith (.List e1 (P 1)) (some (.Name x (P 0))) (P 2).line env = pure false
noncomputable def asgPos : Stmt → List Pos
  | .Assign [.Name _ a] (.List _ b) c => [a, b, c]
  | .Assign [.Name _ a] (.BinOp (.Name _ b) _ (.List _ c) d) e => [a, b, c, d, e]
  | .Return (some (.Subscript (.Name _ a) (.BinOp (.Name _ b) _ (.Constant _ _ c) d) e)) f => [a, b, c, d, e, f]
  | _ => []
noncomputable def asgLst : Stmt → List Expr
  | .Assign [.Name _ _] (.List l _) _ => l
  | .Assign [.Name _ _] (.BinOp (.Name _ _) _ (.List l _) _) _ => l
  | _ => []
noncomputable def menuL (st : Stmt) (k : Nat) : List Expr := asgLst ((defBody st).getD k (.Pass ⟨0, 0, 0, 0⟩))
noncomputable def menuP (st : Stmt) (k : Nat) : Pos := ((defBody st).flatMap asgPos).getD k ⟨0, 0, 0, 0⟩
end Dn
namespace L2
open PySem PySem.Spec PyProof.Rows
theorem ObjOk.here {P : Program} {w : World} {H : Hp} {h : Heap} {a : Addr} {o : HO} (x : ObjOk P w H h a o) : ∃ u, h.get? a = some u := by
  cases o with
  | lst xs => obtain ⟨_, _, _, _, e⟩ := x; exact ⟨_, e⟩
  | tup xs => obtain ⟨_, _, _, u, e, _⟩ := x; exact ⟨u, e⟩
  | dK kvs => obtain ⟨_, _, _, _, u, _, _, e, _⟩ := x; exact ⟨u, e⟩
  | dT kvs => obtain ⟨_, _, _, _, u, _, _, e, _⟩ := x; exact ⟨u, e⟩
  | set S n => obtain ⟨u, _, _, _, e, _⟩ := x; exact ⟨u, e⟩
  | ins C dx fs => obtain ⟨_, _, _, e, _⟩ := x; exact ⟨_, e⟩
  | own y => exact x
  | xd fs => obtain ⟨_, ⟨u, _, _, e, _⟩, _⟩ := x; exact ⟨u, e⟩
  | rng lo hi => obtain ⟨_, _, _, e⟩ := x; exact ⟨_, e⟩
  | frz ob u => exact ⟨ob, x.1⟩
  | tbl ps => exact ⟨_, x⟩
  | met f y => exact ⟨_, x⟩
  | ext φ => exact x.2.1
structure Flies (P : Program) (w : World) (base : Heap) (outer : List Env) (H H' : Hp) (h h' B : Heap) (e C : Addr) : Prop where
  fl : ∃ a0, Heap.FlyingW B outer e (.ref C) a0 h'
  bs : base.StaysIn B
  hok : HOk P w H' B
  kb : ∀ b o, h.get? b = some o → H b = none → b ∉ frs outer → B.get? b = some o
  tk : ∀ b o, h.get? b = some o → b ∉ frs outer → ∃ u, B.get? b = some u
  slot : ∀ b o, h.get? b = some o → H b = none → b ∈ frs outer → ∃ sl, h'.get? b = some { o with slots := sl }
  free : ∀ b o, h.get? b = some o → H b = none → H' b = none
  tups : ∀ b xs, H b = some (.tup xs) → H' b = some (.tup xs)
  frzs : ∀ b o u, H b = some (.frz o u) → H' b = some (.frz o u)
  tbls : ∀ b ps, H b = some (.tbl ps) → ∃ more, H' b = some (.tbl (ps ++ more))
  frh : ∀ b ∈ frs outer, ∃ u, h'.get? b = some u
theorem Flies.un {P : Program} {w : World} {base h h' B : Heap} {outer : List Env} {H H' : Hp} {e C : Addr} (F : Flies P w base outer H H' h h' B e C) : Un (frs outer) [] H H' h h' := by
  obtain ⟨a0, fl⟩ := F.fl
  refine ⟨fun b o q n nf _ => fl.1 b o (F.kb b o q n nf), fun b o q n hb _ => F.slot b o q n hb, fun b o q n _ => F.free b o q n, fun b o q _ => ?_, F.tups, F.frzs, F.tbls⟩
  by_cases hb : b ∈ frs outer
  · exact F.frh b hb
  · obtain ⟨u, z⟩ := F.tk b o q hb
    exact ⟨u, fl.1 b u z⟩
theorem Flies.hok' {P : Program} {w : World} {base h h' B : Heap} {outer : List Env} {H H' : Hp} {e C : Addr} (F : Flies P w base outer H H' h h' B e C) : HOk P w H' h' := by
  obtain ⟨a0, fl⟩ := F.fl
  exact F.hok.kept fl.1
theorem Flies.new {P : Program} {w : World} {base h h' B : Heap} {outer : List Env} {H H' : Hp} {e C : Addr} (F : Flies P w base outer H H' h h' B e C) : H' e = none := by
  obtain ⟨a0, fl⟩ := F.fl
  cases q : H' e with
  | none => rfl
  | some o =>
    obtain ⟨u, z⟩ := (F.hok e o q).here
    rw [fl.2.1] at z; cases z
noncomputable def CXr (P : Program) (w : World) (base : Heap) : CXT := fun outer H s E ex s' =>
  ∃ e C H' B, ex = .ref e ∧ s'.os = s.os ∧ AllBare s'.gens ∧ Flies P w base outer H H' s.heap s'.heap B e C ∧ E (.ref C) none H'
theorem frame_plain {h base : Heap} {l : List Env} (F : h.FunFrames base l) {b : Addr} {o : Obj} (hb : b ∈ frs l) (q : h.get? b = some o) : ∀ vs, o.data ≠ .fields vs := by
  obtain ⟨_, u, hu, hd⟩ := F.mem hb
  rw [q] at hu; cases hu
  exact hd
section
variable {P : Program} {w : World} {K : PySem.W.Frag} {mg : Str → Option Value} {base : Heap} {N : List Str} {qual : Str} {scope : Scope} {f : Addr} {cd : Value} {A : Around} {outer : List Env} {s : Shared} {H : Hp} {E : XK}
theorem fly_on {pins : List (Addr × Obj)} {σ : St} {H1 : Hp} {s1 s' : Shared} {E1 : XK} {ex : Value} (I : Inv (cxOf (CXr P w base) P w K mg base N qual scope f cd A outer s H E) pins σ H1 s1)
    (hE : ∀ C H', E1 (.ref C) none H' → E (.ref C) none H') (h : CXr P w base (envOfC qual scope s.heap.objs.size f cd :: outer) H1 s1 E1 ex s') : (cxOf (CXr P w base) P w K mg base N qual scope f cd A outer s H E).xe ex s' := by
  obtain ⟨e, C, H', B, rfl, os, bare, F, q⟩ := h
  obtain ⟨a0, fl⟩ := F.fl
  have lt : ∀ b o, s.heap.get? b = some o → b ≠ s.heap.objs.size := fun b o z => Nat.ne_of_lt (Heap.lt_size z)
  have out : ∀ b o, s.heap.get? b = some o → b ∉ frs outer → b ∉ frs (envOfC qual scope s.heap.objs.size f cd :: outer) := fun b o z n m => by
    rcases List.mem_cons.mp (show b ∈ s.heap.objs.size :: frs outer from m) with y | y
    · exact lt b o z y
    · exact n y
  show wpAny _ _ (leaving _ (.ref e)) _ _ s'
  refine wpAny_leaves_onW (outer := outer) (L := s.heap.objs.size) I.ok.frames rfl fl fun h' fl' up => ?_
  have kp : ∀ b o, s.heap.get? b = some o → H b = none → b ∉ frs outer → s1.heap.get? b = some o ∧ H1 b = none := fun b o z n nf => ⟨I.base.keep b o z n nf (fun y => nomatch y), I.base.free b o z n (fun y => nomatch y)⟩
  refine ⟨e, C, H', B, rfl, os.trans I.os, bare, ⟨⟨a0, fl'⟩, F.bs, F.hok, fun b o z n nf => ?_, fun b o z nf => ?_, fun b o z n hb => ?_, fun b o z n => ?_, fun b xs z => ?_, fun b o u z => ?_, fun b ps z => ?_, fun b hb => ?_⟩, hE C H' q⟩
  · obtain ⟨k1, k2⟩ := kp b o z n nf
    exact F.kb b o k1 k2 (out b o z nf)
  · obtain ⟨u, k⟩ := I.base.there b o z (fun y => nomatch y)
    exact F.tk b u k (out b o z nf)
  · obtain ⟨sl, k⟩ := I.base.slot b o z n hb (fun y => nomatch y)
    have n1 : H1 b = none := I.base.free b o z n (fun y => nomatch y)
    obtain ⟨sl', k'⟩ := F.slot b _ k n1 (show b ∈ s.heap.objs.size :: frs outer from List.mem_cons_of_mem _ hb)
    obtain ⟨sl'', k''⟩ := up b _ k' (fun vs => frame_plain fl.2.2.1 (show b ∈ s.heap.objs.size :: frs outer from List.mem_cons_of_mem _ hb) k' vs)
    exact ⟨sl'', k''⟩
  · obtain ⟨u, k⟩ := I.base.there b o z (fun y => nomatch y)
    exact F.free b u k (I.base.free b o z n (fun y => nomatch y))
  · exact F.tups b xs (I.base.tups b xs z)
  · exact F.frzs b o u (I.base.frzs b o u z)
  · obtain ⟨m1, e1⟩ := I.base.tbls b ps z
    obtain ⟨m2, e2⟩ := F.tbls b _ e1
    exact ⟨m1 ++ m2, by rw [e2, Array.append_assoc]⟩
  · obtain ⟨_, u, hu, _⟩ := fl'.2.2.1.mem hb
    exact ⟨u, hu⟩
theorem fly_made {pins : List (Addr × Obj)} {σ : St} {H1 : Hp} {s1 : Shared} {h2 : Heap} {e C : Addr} {vs : List Value} (I : Inv (cxOf (CXr P w base) P w K mg base N qual scope f cd A outer s H E) pins σ H1 s1)
    (hx : Heap.MadeExcOf s1.heap h2 e (.ref C) vs) (q : E (.ref C) none H1) : (cxOf (CXr P w base) P w K mg base N qual scope f cd A outer s H E).xe (.ref e) { s1 with heap := h2 } := by
  have out : ∀ b o, s.heap.get? b = some o → b ∉ frs outer → b ∉ frs (envOfC qual scope s.heap.objs.size f cd :: outer) := fun b o z n m => by
    rcases List.mem_cons.mp (show b ∈ s.heap.objs.size :: frs outer from m) with y | y
    · exact Nat.ne_of_lt (Heap.lt_size z) y
    · exact n y
  have hl : s1.heap.FunFrames base (envOfC qual scope s.heap.objs.size f cd :: outer) := I.stack
  have fre : ∀ b ∈ frs (envOfC qual scope s.heap.objs.size f cd :: outer), H1 b = none := I.stkFree
  show wpAny _ _ (leaving _ (.ref e)) _ _ _
  refine wpAny_leaves_madeW (base := PySem.W.hideAll s1.heap (frs (envOfC qual scope s.heap.objs.size f cd :: outer))) (h := s1.heap) (outer := outer) (L := s.heap.objs.size) I.ok.frames rfl (fun b o z => PySem.W.of_hideAll _ z)
    (PySem.W.funFrames_hide hl fun env he b hb => List.mem_filterMap.mpr ⟨env, he, hb⟩) hx fun h' t fl' _ _ up => ?_
  have inB : ∀ b o, s1.heap.get? b = some o → b ∉ frs (envOfC qual scope s.heap.objs.size f cd :: outer) → (PySem.W.hideAll s1.heap (frs (envOfC qual scope s.heap.objs.size f cd :: outer))).get? b = some o := fun b o z n => PySem.W.hideAll_get _ z n
  refine ⟨e, C, H1, _, rfl, I.os, I.bare, ⟨⟨_, fl'⟩, fun b o z => ?_, fun b o z => ?_, fun b o z n nf => ?_, fun b o z nf => ?_, fun b o z n hb => ?_, fun b o z n => ?_, fun b xs z => ?_, fun b o u z => ?_, fun b ps z => ?_, fun b hb => ?_⟩, q⟩
  · refine inB b o (I.bk b o z) fun m => ?_
    have := (hl.mem m).1
    rw [z] at this; cases this
  · refine (I.hok b o z).stay (fun c u hc y => inB c u y fun m => ?_) (fun _ y => y) fun _ _ y => y
    have n := fre c m
    rcases hc with e' | e'
    · rw [e', z] at n; cases n
    · rw [e'] at n; cases n
  · exact inB b o (I.base.keep b o z n nf (fun y => nomatch y)) (out b o z nf)
  · obtain ⟨u, k⟩ := I.base.there b o z (fun y => nomatch y)
    exact ⟨u, inB b u k (out b o z nf)⟩
  · obtain ⟨sl, k⟩ := I.base.slot b o z n hb (fun y => nomatch y)
    have k2 := hx.keeps b _ k
    obtain ⟨sl', k'⟩ := up b _ k2 (fun vs => frame_plain hl (show b ∈ s.heap.objs.size :: frs outer from List.mem_cons_of_mem _ hb) k vs)
    exact ⟨sl', k'⟩
  · exact I.base.free b o z n (fun y => nomatch y)
  · exact I.base.tups b xs z
  · exact I.base.frzs b o u z
  · exact I.base.tbls b ps z
  · obtain ⟨_, u, hu, _⟩ := fl'.2.2.1.mem hb
    exact ⟨u, hu⟩
end
end L2
namespace L2
open PySem PySem.Spec PyProof.Rows
open Dn (tame)
theorem tame_small {i : Int} (h : i.natAbs < tame) : i.natAbs.log2 < 1920 := by
  by_cases h0 : i.natAbs = 0
  · rw [h0]; decide
  · exact (Nat.log2_lt h0).mpr (Nat.lt_of_lt_of_le h (by decide +kernel))
noncomputable def MsgOk (js : List Nat) (σ : St) : Prop := ∀ j ∈ js, ∃ i : Int, σ[j]? = some (some (.int i)) ∧ i.natAbs < tame
section
variable {X : Cx} {js : List Nat} {n : Nat} {e : Expr} {parts : List Expr} {pos p p2 : Pos}
noncomputable def PM (X : Cx) (e : Expr) (js : List Nat) : Prop := ∀ (pins : List (Addr × Obj)) (s : Shared) (σ : St) (H : Hp), Inv X pins σ H s → MsgOk js σ → wpAny (model X.prog X.w) X.A (eval e X.env) (fun v s' => ∃ y t, v = .str y t ∧ Inv X pins σ H s') X.xe s
noncomputable def PJ (X : Cx) (n : Nat) (parts : List Expr) (js : List Nat) : Prop := ∀ (pins : List (Addr × Obj)) (s : Shared) (σ : St) (H : Hp) (out : Str), Inv X pins σ H s → MsgOk js σ → out.length ≤ n → wpAny (model X.prog X.w) X.A (joinParts out (evalEach parts X.env)) (fun v s' => ∃ y t, v = .str y t ∧ Inv X pins σ H s') X.xe s
theorem pm_str {x : Str} {j} : PM X (.Constant (.str x) j pos) [] := fun pins s σ H I _ => thn (pe_str pins s σ H (fun v H' => v = .str x ∧ H' = H) I ⟨rfl, rfl⟩) fun v s' ⟨u, H', I', r, e1, e2⟩ => by
  subst e1 e2
  obtain ⟨t, rfl⟩ : ∃ t, v = .str x t := r
  exact ⟨x, t, rfl, I'⟩
theorem pj_nil (h : autoParam (n ≤ sizeLine) L2.aD._auto_1) : PJ X n [] [] := fun pins s σ H out I _ hl => joinParts_nil ⟨_, _, rfl, I.tok _⟩ (Nat.le_trans hl h)
theorem pj_str {x : Str} {j} (hx : x.length ≤ 100) (hn : n + 100 ≤ sizeLine) (h : PJ X (n + 100) parts js) : PJ X n (.Constant (.str x) j pos :: parts) js := fun pins s σ H out I m hl => by
  refine joinParts_cons (rest := evalEach parts X.env) (thn (pe_str (x := x) (pos := pos) pins s σ H (fun v H' => v = .str x ∧ H' = H) I ⟨rfl, rfl⟩) fun v s' ⟨u, H', I', r, e1, e2⟩ => ?_)
  subst e1 e2
  obtain ⟨t, rfl⟩ : ∃ t, v = .str x t := r
  have hl' : (out ++ x).length ≤ n + 100 := by rw [strLen_append]; (first|lia|omega)
  exact ⟨Nat.le_trans hl' hn, h pins s' σ H' (out ++ x) I' m hl'⟩
theorem pj_int {i : Nat} {x : Str} (hx : PE X (.Name x p) (tVar i)) (hn : n + 2000 ≤ sizeLine) (h : PJ X (n + 2000) parts js) : PJ X n (.FormattedValue (.Name x p) (-1) none p2 :: parts) (i :: js) := fun pins s σ H out I m hl => by
  obtain ⟨a, ea, ta⟩ := m i (List.mem_cons_self ..)
  refine joinParts_cons (rest := evalEach parts X.env) (FormattedValue_plain (thn (hx pins s σ H (fun v H' => v = .int a ∧ H' = H) I ⟨_, ea, rfl, rfl⟩) fun v s' ⟨u, H', I', r, e1, e2⟩ => ?_))
  subst e1 e2
  obtain ⟨t, rfl⟩ : ∃ t, v = .int a t := r
  refine formatField_int_small (tame_small ta) ?_
  have hy : (Str.ofString (toString a)).length ≤ 1921 := by rw [PySem.ofString_length]; exact int_text_length_le (k := 1920) (by decide) (tame_small ta)
  have hl' : (out ++ Str.ofString (toString a)).length ≤ n + 2000 := by rw [strLen_append]; (first|lia|omega)
  exact ⟨Nat.le_trans hl' hn, h pins _ σ H' _ (I'.tok _) (fun j hj => m j (List.mem_cons_of_mem _ hj)) hl'⟩
theorem pm_join {a b : Expr} {es : List Expr} (h : PJ X 0 (a :: b :: es) js) : PM X (.JoinedStr (a :: b :: es) pos) js := fun pins s σ H I m => JoinedStr_many (h pins s σ H Str.empty I m (Nat.le_refl _))
end
noncomputable abbrev bmV : List Value := [.type "ValueError", .type "Exception", .type "BaseException", .type "object"]
structure ExcD (K : PySem.W.Frag) (mg : Str → Option Value) (C : Addr) (x : Str) : Prop where
  mgC : mg x = some (.ref C)
  own : ∀ h, K.In h → h.Ns mainGlobals mg → OwnCls x C bmV "ValueError.__new__" mg h
section
variable {X : Cx} {C : Addr} {x : Str} {a : Expr} {js : List Nat} {np cpos pos : Pos}
noncomputable def tRaise (js : List Nat) (R : St → Hp → Prop) : TS := fun _ σ H => MsgOk js σ ∧ R σ H
theorem ps_raise {R : St → Hp → Prop} (O : ExcD X.K X.mg C x) (hc : X.calm = true) (hg : Gl X x) (hmsg : PM X a js)
    (hz : ∀ (pins : List (Addr × Obj)) (σ : St) (H : Hp) (s : Shared) (h2 : Heap) (e : Addr) (vs : List Value), Inv X pins σ H s → R σ H → Heap.MadeExcOf s.heap h2 e (.ref C) vs → X.xe (.ref e) { s with heap := h2 })
    (hdb : autoParam ((x == ("__debug__" : Str)) = false) L2.aK._auto_1) (hs : autoParam (starEach [a] X.env = [(false, eval a X.env)]) L2.aR._auto_1) : PS X (.Raise (some (.Call (.Name x np) [a] [] cpos)) none pos) (tRaise js R) := by
  intro pins s σ H D I ⟨m, q⟩
  have G : s.heap.Ns mainGlobals X.mg := I.mod.glob.keeps I.bk
  obtain ⟨tl, N, nm, qn, bs, hdct, sn, sub, ab, col, dd, k0, k1, k2, k3, k5, mN, hC, hN, hni, T⟩ := (O.own _ I.ok.mod.kin I.mod.glob).obj
  refine wpAny_Raise_call_subT (C := C) (nm := nm) (q := qn) (N := N) (bs := bs) (bm := tl) (hdct := hdct) (sn := sn) (sub := sub) (ab := ab) (col := col) (dd := dd) (k0 := k0) (k1 := k1) (k2 := k2) (k3 := k3) (k5 := k5) (bmB := bmV)
    PySem.F.excBase_ValueError (mN := mN) (T.hasType PySem.F.excBase_ValueError.hasBase) (I.ok.hd hc) (by rw [hs]; rfl) hni (ld_glob I hg O.mgC ⟨rfl, ?_⟩ hdb)
  rw [hs]
  refine Calls.evalArgs_plain ?_
  show wpAny _ _ (spliced (backTo cpos [(false, eval a X.env)])) _ _ _
  refine Calls.spliced_cons (rest := []) (thn (hmsg pins s σ H I m) fun v s' ⟨y, t, hv, I'⟩ => Calls.spliced_nil ?_)
  exact ⟨rfl, by show 1 ≤ sizeLine; decide, I'.bk _ _ hC, hN.keeps I'.bk, T.keeps I'.bk, fun h' e hm => hz pins σ H s' h' e _ I' q hm⟩
end
end L2
namespace L2
open PySem PySem.Spec PyProof.Rows
section
variable {X : Cx} {pins : List (Addr × Obj)} {σ : St} {H H' : Hp} {s : Shared}
noncomputable abbrev Cx.inside (X : Cx) (pn : List (Addr × Obj)) (E : Value → Shared → Prop) : Cx := { X with pn := pn, xe := E }
noncomputable abbrev Cx.suite (X : Cx) (a : Addr) (E : Value → Shared → Prop) : Cx := { X with A := X.A.mark (some (.ref a)), calm := false, xe := E }
theorem Inv.inside (I : Inv X pins σ H s) (E : Value → Shared → Prop) : Inv (X.inside (X.pn ++ pins) E) [] σ H s :=
  ⟨⟨I.ok.mod, I.ok.kind, I.ok.glob, I.ok.blt, I.ok.above, I.ok.inj, I.ok.has, I.ok.cab, I.ok.hd, I.ok.frames, I.ok.stk, I.ok.exf, I.ok.bs, I.ok.bsz, I.ok.noex, I.ok.exfs, I.ok.funs, I.ok.frf⟩,
    I.os, I.bare, I.base, I.loc, I.cell, I.free, I.freeC, fun p hp => I.pin p (by simpa using hp), I.hok, I.len⟩
theorem Inv.outside {ps : List (Addr × Obj)} {E : Value → Shared → Prop} (I : Inv (X.inside (X.pn ++ pins) E) ps σ H s) : Inv X pins σ H s :=
  ⟨⟨I.ok.mod, I.ok.kind, I.ok.glob, I.ok.blt, I.ok.above, I.ok.inj, I.ok.has, I.ok.cab, I.ok.hd, I.ok.frames, I.ok.stk, I.ok.exf, I.ok.bs, I.ok.bsz, I.ok.noex, I.ok.exfs, I.ok.funs, I.ok.frf⟩,
    I.os, I.bare, I.base, I.loc, I.cell, I.free, I.freeC, fun p hp => I.pin p (List.mem_append_left _ hp), I.hok, I.len⟩
theorem Inv.suite (I : Inv X pins σ H s) (a : Addr) (E : Value → Shared → Prop) : Inv (X.suite a E) pins σ H s :=
  ⟨⟨I.ok.mod, I.ok.kind, I.ok.glob, I.ok.blt, I.ok.above, I.ok.inj, I.ok.has, I.ok.cab, (fun z => by cases z), I.ok.frames, I.ok.stk, I.ok.exf, I.ok.bs, I.ok.bsz, I.ok.noex, I.ok.exfs, I.ok.funs, I.ok.frf⟩,
    I.os, I.bare, I.base, I.loc, I.cell, I.free, I.freeC, I.pin, I.hok, I.len⟩
theorem Inv.unsuite (hd : X.calm = true → X.A.handled = none) {a : Addr} {E : Value → Shared → Prop} (I : Inv (X.suite a E) pins σ H s) : Inv X pins σ H s :=
  ⟨⟨I.ok.mod, I.ok.kind, I.ok.glob, I.ok.blt, I.ok.above, I.ok.inj, I.ok.has, I.ok.cab, hd, I.ok.frames, I.ok.stk, I.ok.exf, I.ok.bs, I.ok.bsz, I.ok.noex, I.ok.exfs, I.ok.funs, I.ok.frf⟩,
    I.os, I.bare, I.base, I.loc, I.cell, I.free, I.freeC, I.pin, I.hok, I.len⟩
theorem Inv.trackX {e : Addr} {o : HO} (I : Inv X pins σ H s) (hn : H e = none) (h0 : X.s₀.heap.get? e = none) (hL : e ≠ X.env.locals) (hC : ∀ x c, X.env.cells.lookup x = some c → c ≠ e) (hp : ∀ p ∈ X.pn ++ pins, p.1 ≠ e)
    (new : ObjOk X.prog X.w (upd H e o) s.heap e o) : Inv X pins σ (upd H e o) s := by
  have ne : ∀ b u, H b = some u → b ≠ e := fun b u q z => by rw [z, hn] at q; cases q
  have n0 : ∀ b u, X.s₀.heap.get? b = some u → b ≠ e := fun b u q z => by rw [z, h0] at q; cases q
  refine ⟨I.ok, I.os, I.bare, ⟨I.base.keep, I.base.slot, fun b u q n hx => ?_, I.base.there, fun b xs q => ?_, fun b u xs q => ?_, fun b ps q => ?_⟩, I.loc, I.cell, ?_, fun x c q => ?_, fun p q => ?_, fun b u q => ?_, I.len⟩
  · rw [upd_ne (n0 b u q)]; exact I.base.free b u q n hx
  · have z := I.base.tups b xs q
    rw [upd_ne (ne _ _ z)]; exact z
  · have z := I.base.frzs b u xs q
    rw [upd_ne (ne _ _ z)]; exact z
  · obtain ⟨m, z⟩ := I.base.tbls b ps q
    exact ⟨m, by rw [upd_ne (ne _ _ z)]; exact z⟩
  · rw [upd_ne (Ne.symm hL)]; exact I.free
  · rw [upd_ne (hC x c q)]; exact I.freeC x c q
  · obtain ⟨a, b, c⟩ := I.pin p q
    exact ⟨a, by rw [upd_ne (hp p q)]; exact b, c⟩
  · by_cases z : b = e
    · subst z; rw [upd_same] at q; cases q; exact new
    · rw [upd_ne z] at q
      exact (I.hok b u q).stay (fun _ _ _ y => y) (fun c y => by rw [upd_ne (ne _ _ y)]; exact y) fun c xs y => by rw [upd_ne (ne _ _ y)]; exact y
theorem Inv.gone {M : Model} {A : Around} {E : Value → Shared → Prop} {i : Nat} {n : Str} {pos : Pos} {Q : Unit → Shared → Prop} (I : Inv X pins σ H s) (hN : X.N.Nodup) (hi : X.N[i]? = some n) (hk : X.env.kindOf n = some .local)
    (h : ∀ s', Inv X pins (σ.set i none) H s' → Q () s') : wpAny M A (do bindName X.env n .none; unbindBehindTheSuite X.env n pos) Q E s := by
  obtain ⟨m, hn, hl⟩ := id I.loc
  have hcls : (X.env.scope.kind == .class || (X.env.scope.kind == .module && X.env.locals != X.env.globals)) = false := by rw [I.ok.kind]; rfl
  have cne := I.cne
  obtain ⟨oL, _, _, hoL, _⟩ := id hn
  have lt : ∀ b o, X.s₀.heap.get? b = some o → b ≠ X.env.locals := fun b o q => Nat.ne_of_lt (Nat.lt_of_lt_of_le (Heap.lt_size q) I.ok.above)
  refine wpAny_nameGoes_keeps hk hn hcls fun h' v hn' hs => h _ ⟨I.ok, I.os, I.bare, ⟨fun b o q n hb hx => (hs.2 b (lt b o q)).trans (I.base.keep b o q n hb hx), fun b o q n hb hx => ?_, I.base.free, fun b o q hx => ?_, I.base.tups, I.base.frzs, I.base.tbls⟩, ⟨_, hn', fun j y v' e1 e2 e3 => ?_⟩, fun y c q => ?_, I.free, I.freeC, fun p hp => ?_, fun b o q => ?_, by simpa using I.len⟩
  · obtain ⟨sl, z⟩ := I.base.slot b o q n hb hx
    exact ⟨sl, (hs.2 b (lt b o q)).trans z⟩
  · obtain ⟨o', z⟩ := I.base.there b o q hx
    exact ⟨o', (hs.2 b (lt b o q)).trans z⟩
  · by_cases hj : j = i
    · subst hj
      have := (List.getElem?_eq_some_iff.mp e2).1
      rw [List.getElem?_set_self (by simpa using this)] at e2
      cases e2
    · rw [List.getElem?_set_ne (Ne.symm hj)] at e2
      obtain ⟨u', r', z⟩ := hl j y v' e1 e2 e3
      refine ⟨u', r', ?_⟩
      rcases z with ⟨k, z⟩ | ⟨k, c, z, y2⟩
      · by_cases hy : y = n
        · exfalso
          exact hj (nodup_ix hN e1 (hy ▸ hi))
        · exact .inl ⟨k, by simp [hy, z]⟩
      · exact .inr ⟨k, c, z, y2.sameBut hs (cne y c z)⟩
  · obtain ⟨v', z⟩ := I.cell y c q
    exact ⟨v', z.sameBut hs (cne y c q)⟩
  · obtain ⟨z, n', ne, nf, d⟩ := I.pin p hp
    exact ⟨(hs.2 p.1 ne).trans z, n', ne, nf, d⟩
  · refine (I.hok b o q).stay (fun c u hc y => (hs.2 c ?_).trans y) (fun _ y => y) fun _ _ y => y
    rintro rfl
    have f := I.free
    rcases hc with z | z
    · rw [z, q] at f; cases f
    · rw [z] at f; cases f
theorem Flies.again {P : Program} {w : World} {base h h1 h2 B : Heap} {outer : List Env} {H H' : Hp} {e C : Addr} {a0 : Value} (F : Flies P w base outer H H' h h1 B e C) (fl : Heap.FlyingW B outer e (.ref C) a0 h2) (up : h1.UpToSlots h2) : Flies P w base outer H H' h h2 B e C := by
  obtain ⟨a1, f1⟩ := F.fl
  refine ⟨⟨a0, fl⟩, F.bs, F.hok, F.kb, F.tk, fun b o q n hb => ?_, F.free, F.tups, F.frzs, F.tbls, fun b hb => ?_⟩
  · obtain ⟨sl, z⟩ := F.slot b o q n hb
    obtain ⟨sl', z'⟩ := up b _ z (fun vs => frame_plain f1.2.2.1 hb z vs)
    exact ⟨sl', z'⟩
  · obtain ⟨_, u, hu, _⟩ := fl.2.2.1.mem hb
    exact ⟨u, hu⟩
theorem Flies.inv {s1 s' : Shared} {h : Heap} {B : Heap} {e C : Addr} (I : Inv X pins σ H s1) (os : s'.os = s1.os) (bare : AllBare s'.gens) (F : Flies X.prog X.w X.base X.stack H H' s1.heap h B e C) : Inv X pins σ H' { s' with heap := h } :=
  I.call' (s' := { s' with heap := h }) (ch := []) os F.un F.hok' bare (fun b z => nomatch z)
noncomputable def XP (X : Cx) (Zx : Addr → St → Hp → Prop) : Prop := ∀ (pins : List (Addr × Obj)) (σ : St) (H : Hp) (s : Shared) (E : XK) (e : Value) (s' : Shared), Inv X pins σ H s → (∀ C H', E (.ref C) none H' → Zx C σ H') → CXr X.prog X.w X.base X.stack H s E e s' → X.xe e s'
noncomputable def tTry (K : PySem.W.Frag) (CR : Addr) (i : Nat) (tb : (Addr → St → Hp → Prop) → TS) (ts : TS) : TS := fun D σ H => ∃ Zx : Addr → St → Hp → Prop, tb Zx D σ H ∧ ∀ C σ' H' e, Zx C σ' H' → PySem.W.exmOne K (.ref C) (.ref CR) = some true ∧
  (H' e = none → ts { nx := fun σ2 H2 => D.nx (σ2.set i none) H2, rt := fun _ _ => False } (σ'.set i (some (.ref e))) (upd H' e (xcO e C)))
theorem ps_try {body suite : List Stmt} {b₀ : Stmt} {n x : Str} {i : Nat} {CR : Addr} {np hpos pos : Pos} {tb : (Addr → St → Hp → Prop) → TS} {ts : TS} (hN : X.N.Nodup) (hi : X.N[i]? = some n) (hk : X.env.scope.names.lookup n = some .local) (hst : X.stack = X.env :: X.outer) (hfr : X.env.frame = some X.env.locals) (hex : X.ex = [])
    (hg : Gl X x) (hm : X.mg x = some (.ref CR)) (hb : ∀ pn E Zx, XP (X.inside pn E) Zx → PSs (X.inside pn E) body (tb Zx)) (hs : ∀ a E, PSs (X.suite a E) (b₀ :: suite) ts) (hdb : autoParam ((x == ("__debug__" : Str)) = false) L2.aK._auto_1) :
    PS X (.Try body [.ExceptHandler (some (.Name x np)) (some n) (b₀ :: suite) hpos] [] [] pos) (tTry X.K CR i tb ts) := by
  intro pins s σ H D I ⟨Zx, q, qs⟩
  refine wpAny_Try_except ?_
  refine wpAny_mono (hb (X.pn ++ pins) _ Zx ?xp [] s σ H D (I.inside _) q) (fun f s1 h1 => ?_) fun _ _ z => z
  case xp =>
    intro ps σ1 H1 s1 E1 ex s' I0 hE hC
    have I1 : Inv X pins σ1 H1 s1 := I0.outside
    obtain ⟨e, C, H', B, rfl, os, bare, F, qE⟩ := hC
    have F : Flies X.prog X.w X.base X.stack H1 H' s1.heap s'.heap B e C := F
    obtain ⟨hx, qsuite⟩ := qs C σ1 H' e (hE C H' qE)
    have qsuite := qsuite F.new
    obtain ⟨a0, fl⟩ := F.fl
    have fl' := fl
    rw [hst] at fl'
    have hfrs : X.A.frames = some (X.env :: X.outer) := by rw [← hst]; exact I.ok.frames
    refine wpAny_looks_onW hfrs hfr fl' fun h₄ hh₄ up₄ => wpAny_landsW hh₄ fun h₅ fl₅ up₅ => ?_
    rw [← hst] at fl₅
    have F₅ := F.again fl₅ (up₄.trans up₅)
    have I₅ := F₅.inv (s' := s') I1 os bare
    have I₅' := I₅.suite e X.xe
    obtain ⟨ob, hob, hobc⟩ := fl₅.there
    have LT : PySem.W.Looks (model X.prog X.w) h₅ (typeOf (.ref e)) (.ref C) := hobc ▸ (PySem.W.Looks.ld hob).andThen .now
    refine wpAny_handleBy_cons (codeAny_handlers_test (ld_glob (X := X.suite e X.xe) I₅' hg hm ?_ hdb)) (by intro z; cases z)
    refine (PySem.W.exm_one I₅.kIn LT hx).here ?_
    refine codeAny_handlers_suite_as (lands_againW fl₅ fun h₆ fl₆ up₆ => ?_)
    have F₆ := F₅.again fl₆ up₆
    have I₆ := F₆.inv (s' := s') I1 os bare
    obtain ⟨oe, ws, hoe, hoec, hoed, _⟩ := fl₆.first
    have notFr : ∀ b, b ∈ frs X.stack → b ≠ e := fun b hb z => by
      obtain ⟨_, u, hu, hd⟩ := fl₆.2.2.1.mem hb
      rw [z, show h₆.get? e = some oe from hoe] at hu; cases hu
      exact hd _ hoed
    have notIn : ∀ b u, s1.heap.get? b = some u → b ≠ e := fun b u z y => by
      by_cases hb : b ∈ frs X.stack
      · exact notFr b hb y
      · obtain ⟨u', z'⟩ := F.tk b u z hb
        rw [y, fl.2.1] at z'; cases z'
    have I₇ := I₆.trackX (o := xcO e C) F₆.new (by
        cases z : X.s₀.heap.get? e with
        | none => rfl
        | some u =>
          by_cases hx2 : e ∈ X.ex
          · rw [hex] at hx2; exact nomatch hx2
          · obtain ⟨o', z'⟩ := I1.base.there e u z hx2
            exact (notIn e o' z' rfl).elim) (fun z => by
        obtain ⟨m, ⟨o, _, _, ho, _⟩, _⟩ := I1.loc
        exact notIn _ _ ho z.symm) (fun y c z => by
        obtain ⟨v, o, ho, _⟩ := I1.cell y c z
        exact notIn _ _ ho) (fun p hp => notIn _ _ (I1.pin p hp).1) ⟨⟨oe, hoe, hoec⟩, ⟨oe, hoe⟩, fun h1 h2 ⟨o1, z1, z2⟩ k => ⟨o1, k _ z1, z2⟩⟩
    refine store_ok2 (X := X.suite e X.xe) (i := i) (v := .ref e) (I₇.suite e X.xe) hN hi (.inl hk) rfl (fun s8 I8 _ => ?_) (.inr hk)
    refine wpAny_mono (hs e _ pins s8 _ _ _ ((I8.unsuite I.ok.hd).suite e _) qsuite) (fun f s9 h9 => ?_) fun _ _ z => z
    cases f with
    | next =>
      obtain ⟨σ9, H9, I9, q9⟩ := h9
      exact (I9.unsuite I.ok.hd).gone hN hi hk fun s10 I10 => ⟨_, _, I10, q9⟩
    | brk => obtain ⟨_, _, _, z⟩ := h9; exact z.elim
    | cont => obtain ⟨_, _, _, z⟩ := h9; exact z.elim
    | ret u => obtain ⟨_, _, _, _, _, z⟩ := h9; exact z.elim
  · cases f with
    | next =>
      obtain ⟨σ1, H1, I1, q1⟩ := h1
      exact wpAny_pure ⟨σ1, H1, I1.outside, q1⟩
    | brk => obtain ⟨σ1, H1, I1, q1⟩ := h1; exact ⟨σ1, H1, I1.outside, q1⟩
    | cont => obtain ⟨σ1, H1, I1, q1⟩ := h1; exact ⟨σ1, H1, I1.outside, q1⟩
    | ret u => obtain ⟨v, σ1, H1, I1, r, q1⟩ := h1; exact ⟨v, σ1, H1, I1.outside, r, q1⟩
end
end L2
namespace L2
open PySem PySem.Spec PyProof.Rows PySem.W PySem.Builtin PySem.Builtin.Getset_descriptor
structure KxD (K : PySem.W.Frag) (C : Addr) : Prop where
  ga : findIn K (.ref C) "__getattribute__" = some (some (.builtin "BaseException.__getattribute__"))
  nh : findIn K (.ref C) "__getattr__" = some none
  cl : findIn K (.ref C) "__class__" = some (some (.builtin "object.__class__"))
  sp : specialIn K (.builtin "object.__class__") "__get__" = some (some (.builtin "getset_descriptor.__get__"))
  tk : takesIn K (.builtin "object.__class__") = some true
  ob : mroIn K C (.type "object") = some true
  be : mroIn K C (.type "BaseException") = some true
  cc : (clsIn K C).isSome = true
section
variable {prog : Program} {w : World} {A : Around} {E : Value → Shared → Prop} {s : Shared} {K : PySem.W.Frag} {x C : Addr} {tk : Tok}
theorem xc_find {M : Model} {h : Heap} (D : KxD K C) (X : K.In h) : Looks M h (PySem.Builtin.ObjectAttr.find (.ref x) (.ref C) "__class__") (.bind (.builtin "getset_descriptor.__get__") (.builtin "object.__class__")) := by
  have a1 := looks_findIn (M := M) X D.cl
  have a2 : Looks M h (PySem.Builtin.ObjectAttr.getOf (some (.builtin "object.__class__"))) (some (.builtin "getset_descriptor.__get__")) := looks_specialIn X D.sp
  have a3 := looks_takesIn (M := M) X D.tk
  refine a1.andThen (a2.andThen ?_)
  have a4 : Looks M h (PySem.Builtin.ObjectAttr.dataDescriptor? (some (.builtin "object.__class__")) (some (.builtin "getset_descriptor.__get__"))) (some (.builtin "getset_descriptor.__get__", .builtin "object.__class__")) := a3.andThen .now
  exact a4.andThen (Looks.tag .now)
theorem xc_get {R : Result → Shared → Prop} {tp : Value} (D : KxD K C) (X : K.In s.heap) (LT : Looks (model prog w) s.heap (typeOf (.ref x)) (.ref C)) (h : R (.ok (.ret (.ref C))) s) :
    codeAny (model prog w) A (.call (.builtin "getset_descriptor.__get__") ⟨[.builtin "object.__class__", .ref x, tp], []⟩) R s := by
  obtain ⟨hh, g, dr, t, os⟩ := s
  have a1 := LT
  have a2 := looks_mroIn (M := model prog w) X D.ob
  refine codeAny_call_builtin (KF.slot_gs.plain) (KF.entry_gs) (KF.slot_gs.check _ _ _ _ _ _ _ _ (KF.type_class) (KF.args_gs _ _ _) ?_)
  unfold Builtin.«getset_descriptor.__get__»; unfold descrGet
  (rw [dga_obj]; refine wpAny_bind (wpAny_pure ?_))
  unfold descrGetter; unfold descrCheckInstance; unfold descrNameAndClass; unfold isInstance
  (simp only [KF.owner_class]; repeat lk)
  refine ⟨Code.quiet_builtin _ (by decide +kernel), (codeAny_builtin KF.entry_class ?_)⟩
  unfold Builtin.«object.__class__»; unfold shownTypeOf
  (repeat lk); exact h
theorem xc_entry {Q : Fin → Shared → Prop} (D : KxD K C) (X : K.In s.heap) (LT : Looks (model prog w) s.heap (typeOf (.ref x)) (.ref C)) (h : Q (.done (.ret (.ref C))) s) :
    wpAny (model prog w) A (Builtin.«object.__getattribute__» ⟨[.ref x, .str "__class__" tk], []⟩) Q E s := by
  obtain ⟨hh, g, dr, t, os⟩ := s
  have a2 := xc_find (M := model prog w) (x := x) D X
  unfold Builtin.«object.__getattribute__»
  refine wpAny_bind (wpAny_pure (wpAny_bind (wpAny_pure (wpAny_bind (LT.at (wpAny_bind (a2.at ?_)))))))
  refine wpAny_bind (wpAny_holding (wpAny_call (xc_get D X LT ?_)))
  exact wpAny_pure h
theorem xc_check {Q : Unit → Shared → Prop} {v : Value} (D : KxD K C) (X : K.In s.heap) (LT : Looks (model prog w) s.heap (typeOf (.ref x)) (.ref C)) (hq : Q () s) : wpAny (model prog w) A (checkBuiltinCall "BaseException.__getattribute__" ⟨[.ref x, v], []⟩) Q E s := by
  obtain ⟨hh, g, dr, t, os⟩ := s
  have k1 : builtinKind "BaseException.__getattribute__" = some .slot := by decide +kernel
  have k2 : splitId "BaseException.__getattribute__" = some ("BaseException", "__getattribute__") := by decide +kernel
  have k3 := looks_mroIn (M := model prog w) X D.be
  have k4 := F.args_bexc_ga (.ref x) v
  have k5 : Looks (model prog w) hh (isInstance (.ref x) (.type "BaseException")) true := LT.andThen k3
  simp only [checkBuiltinCall, k1, k2]
  refine wpAny_bind (k5.at ?_)
  repeat (first | assumption | wp_step)
theorem xc_call {R : Result → Shared → Prop} (D : KxD K C) (X : K.In s.heap) (LT : Looks (model prog w) s.heap (typeOf (.ref x)) (.ref C)) (h : R (.ok (.ret (.ref C))) s) :
    codeAny (model prog w) A (.call (.builtin "BaseException.__getattribute__") ⟨[.ref x, .str "__class__" tk], []⟩) R s :=
  codeAny_call_builtin F.excAttr_ValueError.ga.plain F.entry_bexc_ga (xc_check D X LT (xc_entry D X LT h))
theorem xc_attr {Q : Option Value → Shared → Prop} (D : KxD K C) (X : K.In s.heap) (LT : Looks (model prog w) s.heap (typeOf (.ref x)) (.ref C)) (h : Q (some (.ref C)) { s with toks := s.toks + 1 }) :
    wpAny (model prog w) A (getAttr? (.ref x) "__class__") Q E s := by
  obtain ⟨hh, g, dr, t, os⟩ := s
  have a1 := looks_findIn (M := model prog w) X D.ga
  have a2 := looks_findIn (M := model prog w) X D.nh
  have e2 : (Value.builtin "BaseException.__getattribute__" == Value.builtin "object.__getattribute__") = false := by decide +kernel
  unfold getAttr? getAttrBy? getAttrBy
  refine wpAny_bind (wpAny_mkText (wpAny_bind (wpAny_attempt (wpAny_holding (wpAny_bind (LT.at (wpAny_bind (a1.at ?_))))))))
  simp only [e2, Bool.and_false, Bool.false_eq_true, if_false]
  unfold getAttrByItsOwn hookBefore
  refine wpAny_bind ?_
  simp only [onTheHeap, if_true]
  refine a2.at (wpAny_bind (wpAny_attempt (wpAny_holding ?_)))
  unfold callGetattribute boundAndCalled
  simp only [Bool.false_and, Bool.false_eq_true, if_false]
  rw [F.excAttr_ValueError.ga.bind (.ref x)]
  refine wpAny_bind (wpAny_pure (wpAny_call (xc_call D X LT ?_)))
  exact wpAny_pure (wpAny_pure h)
theorem kitx_exc {e : Addr} (D : KxD K C) : KitX K (.ref e) (.ref C) (fun h => ∃ ob, h.get? e = some ob ∧ ob.cls = .ref C) := by
  have lt : ∀ (M : Model) (h : Heap), (∃ ob, h.get? e = some ob ∧ ob.cls = .ref C) → Looks M h (typeOf (.ref e)) (.ref C) := fun M h ⟨ob, a, b⟩ => b ▸ (Looks.ld a).andThen .now
  obtain ⟨cd, hcd⟩ := Option.isSome_iff_exists.mp D.cc
  have oc : ∃ o1 o2 o3 o4, K.lookup C = some ⟨o1, o2, .cls o3, o4⟩ := by
    unfold clsIn at hcd
    split at hcd
    · rename_i ho; exact ⟨_, _, _, _, ho⟩
    · cases hcd
  obtain ⟨o1, o2, o3, o4, ho⟩ := oc
  refine ⟨fun M h _ p => lt M h p, fun M h X _ A' Q' E' s' k q => ?_, fun h tp dd its n sl X htp => ?_, fun {prog w A E Q s} X p hq => xc_attr D X (lt _ _ p) hq⟩
  · unfold isType loadHead
    exact wpAny_bind (wpAny_loadPart (k _ _ (X _ _ ho)) (wpAny_pure q))
  · refine Bool.eq_false_iff.mpr fun q => ?_
    have z : C = tp := Value.ref.inj (beq_iff_eq.mp q)
    subst z
    have y := (X _ _ ho).symm.trans htp
    cases y
end
section
variable {X : Cx}
noncomputable def ClV : V → Value → Prop := fun u tv => (∃ a, u = .ref a ∧ tv = .ref a) ∨ ∃ n, u = .ty n ∧ tv = .type n
theorem ClV.rel {u : V} {tv v : Value} (h : ClV u tv) (r : RelV u v) : v = tv := by
  rcases h with ⟨a, rfl, rfl⟩ | ⟨n, rfl, rfl⟩ <;> exact r
noncomputable def rIsX (K : PySem.W.Frag) : List V → Hp → VK → Prop := fun vs H Q => ∃ e C u tv b, vs = [.ref e, u] ∧ H e = some (xcO e C) ∧ ClV u tv ∧ KxD K C ∧ kitOne K (.ref C) tv = some b ∧ Q (.bl b) H
theorem call_isX : CallR X (.builtin "isinstance") (rIsX X.K) := by
  intro pins s σ H xs us Q I r h
  obtain ⟨e, C, u, tv, b, rfl, he, hc, D, hb, q⟩ := h
  cases r with
  | cons r1 r2 =>
    cases r2 with
    | cons r2 r3 =>
      cases r3
      cases r1
      have := hc.rel r2
      subst this
      refine kia_one (kitx_exc D) I.kIn (I.hok e _ he).1 hb (by intro z; cases z) fun tk => ⟨.bl b, H, I.tok tk, rfl, q⟩
end
end L2
namespace Dn
open PySem L2
section
variable {P : Program} {w : World} {K : PySem.W.Frag} {mg : Str → Option Value} {base : Heap} {N : List Str} {qual : Str} {scope : Scope} {f : Addr} {cd : Value} {A : Around} {outer : List PySem.Env} {s : Shared} {H : Hp} {E : XK} {W : Wd} {X : Cx} {Z : ZT}
theorem noxr : NoX (CXr P w base) := fun _ _ _ _ _ ⟨_, _, _, _, _, _, _, _, q⟩ => q
theorem zpr : ZP (cxOf (CXr P w base) P w K mg base N qual scope f cd A outer s H E) (CXr P w base) W (fun c _ H' => E (.ref (W.cl c)) none H') := fun pins σ H1 s1 E1 c e s' I hE h =>
  fly_on I (fun C H' q => by obtain ⟨a, b⟩ := hE _ _ _ q; rw [a]; exact b) h
noncomputable abbrev ZF : ZT := fun _ _ _ => False
theorem zpF : ZP X (CXr P w base) W ZF := fun pins σ H1 s1 E1 c e s' I hE h => by
  obtain ⟨_, _, _, _, _, _, _, _, q⟩ := h
  exact (hE _ _ _ q).2.elim
noncomputable def ZM (X : Cx) (W : Wd) (Z : ZT) : Prop := ∀ (pins : List (Addr × Obj)) (σ : St) (H : Hp) (s : Shared) (h2 : Heap) (e : Addr) (vs : List Value) (c : Nat), L2.Inv X pins σ H s → Z c σ H → Heap.MadeExcOf s.heap h2 e (.ref (W.cl c)) vs → X.xe (.ref e) { s with heap := h2 }
theorem zmr : ZM (cxOf (CXr P w base) P w K mg base N qual scope f cd A outer s H E) W (fun c _ H' => E (.ref (W.cl c)) none H') := fun pins σ H1 s1 h2 e vs c I q hx => fly_made I hx q
end
section
variable {X : Cx} {W : Wd} {Z : ZT} {a : Expr} {js : List Nat} {np cpos pos hpos : Pos} {x n : Str} {c i : Nat}
theorem ds_raise (O : ExcD X.K X.mg (W.cl c) x) (hz : ZM X W Z) (hc : X.calm = true) (hg : Gl X x) (hmsg : PM X a js)
    (hdb : autoParam ((x == ("__debug__" : Str)) = false) L2.aK._auto_1) (hs : autoParam (starEach [a] X.env = [(false, eval a X.env)]) L2.aR._auto_1) : PS X (.Raise (some (.Call (.Name x np) [a] [] cpos)) none pos) (tDs W Z (sRaise c js)) :=
  (ps_raise (R := Z c) O hc hg hmsg (fun pins σ H s h2 e vs I q hx => hz pins σ H s h2 e vs c I q hx) hdb hs).weak fun D σ H zq => L2.el6 zq fun A B ρ hr hl h => by
    unfold sRaise at h
    split at h
    · rename_i hj
      refine ⟨fun j hjm => ?_, h A H σ Ext.refl hr hl⟩
      have q := List.all_eq_true.mp hj j hjm
      unfold msgD at q
      split at q
      · rename_i k e
        obtain ⟨v, ev, tv⟩ := hl.2 j _ e
        simp only [Tr] at tv
        subst tv
        exact ⟨k, ev, of_decide_eq_true q⟩
      · cases q
    · exact h.elim
theorem Lc.unset {A B : List Addr} {H : Hp} {loc : List (Option T)} {σ : St} (h : Lc W A B H loc σ) (i : Nat) : Lc W A B H (loc.set i none) (σ.set i none) := by
  refine ⟨by simp [h.1], fun j u q => ?_⟩
  by_cases hj : i = j
  · subst hj
    have hlt : i < loc.length := by simpa using (List.getElem?_eq_some_iff.mp q).1
    rw [List.getElem?_set_self hlt] at q
    cases q
  · rw [List.getElem?_set_ne hj] at q
    obtain ⟨v, a, b⟩ := h.2 j u q
    exact ⟨v, by rw [List.getElem?_set_ne hj]; exact a, b⟩
theorem ds_try {body suite : List Stmt} {b₀ : Stmt} {CR : Addr} {cs : List Nat} {bd sd : DS} (hN : X.N.Nodup) (hi : X.N[i]? = some n) (hk : X.env.scope.names.lookup n = some .local) (hst : X.stack = X.env :: X.outer) (hfr : X.env.frame = some X.env.locals) (hex : X.ex = [])
    (hg : Gl X x) (hm : X.mg x = some (.ref CR)) (hcs : ∀ c ∈ cs, PySem.W.exmOne X.K (.ref (W.cl c)) (.ref CR) = some true) (hb : ∀ pn E Z', ZP (X.inside pn E) (CXr X.prog X.w X.base) W Z' → PSs (X.inside pn E) body (tDs W Z' bd))
    (hs : ∀ a E, PSs (X.suite a E) (b₀ :: suite) (tDs W ZF sd)) (hdb : autoParam ((x == ("__debug__" : Str)) = false) L2.aK._auto_1) : PS X (.Try body [.ExceptHandler (some (.Name x np)) (some n) (b₀ :: suite) hpos] [] [] pos) (tDs W Z (sTry cs i bd sd)) := by
  refine (ps_try (tb := fun Zx => fun D σ H => ∃ Z' : ZT, (∀ c σ' H', Z' c σ' H' → Zx (W.cl c) σ' H') ∧ tDs W Z' bd D σ H) hN hi hk hst hfr hex hg hm (fun pn E Zx hx pins s σ H D I ⟨Z', z1, z2⟩ => hb pn E Z' (fun pins σ H s E1 c e s' I hE hC => hx pins σ H s E1 e s' I (fun C H' q => ?_) hC) pins s σ H D I z2) hs hdb).weak fun D σ H zq => L2.el6 zq fun A B ρ hr hl h => ?_
  · obtain ⟨q1, q2⟩ := hE _ _ _ q
    cases q1
    exact z1 c σ H' q2
  refine ⟨fun C σ' H' => ∃ (c : Nat) (A' : List Addr) (ρ' : Dn.Env), C = W.cl c ∧ c ∈ cs ∧ Rl W A' B ρ'.ms H' ∧ Lc W A' B H' ρ'.loc σ' ∧ wpS W Z A' B H' (match sd ⟨ρ'.loc.set i (some (.exn c)), ρ'.ms⟩ with
    | .go ρ'' => .go ⟨ρ''.loc.set i none, ρ''.ms⟩
    | _ => .bad) D, ⟨fun c σ' H' => c ∈ cs ∧ ∃ (A' : List Addr) (ρ' : Dn.Env), Rl W A' B ρ'.ms H' ∧ Lc W A' B H' ρ'.loc σ' ∧ wpS W Z A' B H' (match sd ⟨ρ'.loc.set i (some (.exn c)), ρ'.ms⟩ with
    | .go ρ'' => .go ⟨ρ''.loc.set i none, ρ''.ms⟩
    | _ => .bad) D, fun c σ' H' ⟨q1, A', ρ', q2⟩ => ⟨c, A', ρ', rfl, q1, q2⟩, A, B, ρ, hr, hl, ?_⟩, fun C σ' H' e ⟨c, A', ρ', hC, hc, r', l', h'⟩ => ?_⟩
  · unfold sTry at h
    cases e : bd ρ with
    | go ρ' => rw [e] at h; exact h
    | ret t m => rw [e] at h; exact h
    | brk ρ' => rw [e] at h; exact h
    | cont ρ' => rw [e] at h; exact h
    | bad => rw [e] at h; exact h
    | exc c ρ' =>
      rw [e] at h
      simp only at h
      split at h
      · rename_i hc
        exact fun A2 H2 σ2 e2 r2 l2 => ⟨hc, A2, ρ', r2, l2, wpS.ext e2 h⟩
      · exact h.elim
  · subst hC
    refine ⟨hcs c hc, fun hn => ?_⟩
    have S : Same H' (upd H' e (xcO e (W.cl c))) := same_new hn _
    have e0 : Ext A' H' A' (upd H' e (xcO e (W.cl c))) := Ext.same S
    refine ⟨A', B, ⟨ρ'.loc.set i (some (.exn c)), ρ'.ms⟩, r'.same S, (l'.ext e0).set (by simp only [Tr]; exact ⟨e, rfl, r'.tree hn, upd_same⟩) i, ?_⟩
    cases es : sd ⟨ρ'.loc.set i (some (.exn c)), ρ'.ms⟩ with
    | go ρ'' =>
      rw [es] at h'
      exact fun A2 H2 σ2 e2 r2 l2 => h' A2 H2 _ (e0.trans e2) r2 (l2.unset i)
    | ret t m => rw [es] at h'; exact h'.elim
    | brk ρ'' => rw [es] at h'; exact h'.elim
    | cont ρ'' => rw [es] at h'; exact h'.elim
    | exc c' ρ'' => rw [es] at h'; exact h'.elim
    | bad => rw [es] at h'; exact h'.elim
noncomputable def IsF (W : Wd) (tvs : List Value) (f : List (Nat × Bool)) : Prop := ∀ c b, f.lookup c = some b → KxD W.K (W.cl c) ∧ PySem.W.kitAny W.K (.ref (W.cl c)) tvs = some b
theorem isf_nil {tvs : List Value} : IsF W tvs [] := fun c b h => by cases h
theorem isf_cons {tvs : List Value} {f : List (Nat × Bool)} {b : Bool} (hk : KxD W.K (W.cl c)) (h : PySem.W.kitAny W.K (.ref (W.cl c)) tvs = some b) (r : IsF W tvs f) : IsF W tvs ((c, b) :: f) := fun c' b' q => by
  by_cases e : c' = c
  · subst e
    simp only [List.lookup, beq_self_eq_true, Option.some.injEq] at q
    subst q
    exact ⟨hk, h⟩
  · have hb : (c' == c) = false := by simpa using e
    simp only [List.lookup, hb] at q
    exact r c' b' q
theorem kit_one {K : PySem.W.Frag} {t v : Value} {b : Bool} (h : PySem.W.kitAny K t [v] = some b) : PySem.W.kitOne K t v = some b := by
  unfold PySem.W.kitAny at h
  split at h
  · rename_i e; cases h; exact e
  · rename_i e; rw [e]; exact h
  · cases h
noncomputable def PCl (X : Cx) (e : Expr) (v : Value) : Prop := ∃ u, PE X e (tC u) ∧ ClV u v
theorem pcl_own {C : Addr} (hg : Gl X x) (hm : X.mg x = some (.ref C)) (hd : autoParam ((x == ("__debug__" : Str)) = false) L2.aK._auto_1) : PCl X (.Name x pos) (.ref C) := ⟨.ref C, pe_glob hg hm rfl hd, .inl ⟨C, rfl, rfl⟩⟩
theorem pcl_blt {t : String} (hg : Gl X x) (hm : X.mg x = none) (hv : bootBuiltins x = some (.type t)) (hn : autoParam (x ≠ "__name__") L2.aK._auto_1) (hd : autoParam ((x == ("__debug__" : Str)) = false) L2.aK._auto_1) : PCl X (.Name x pos) (.type t) := ⟨.ty t, pe_bltn hg hm hv rfl hn hd, .inr ⟨t, rfl, rfl⟩⟩
variable {p p1 : Pos} {e2 : Expr}
theorem isX_ok {f : List (Nat × Bool)} {σ : St} {H : Hp} {Q : VK} (h : tD W Z (dIsX i f) σ H Q) : ∃ e c b, σ[i]? = some (some (.ref e)) ∧ H e = some (xcO e (W.cl c)) ∧ f.lookup c = some b ∧ ∀ H', Same H H' → Q (.bl b) H' := by
  obtain ⟨A, B, ρ, hr, hl, h⟩ := h
  unfold dIsX at h
  split at h
  · rename_i c e
    split at h
    · rename_i b hb
      obtain ⟨v, ev, tv⟩ := hl.2 i _ e
      simp only [Tr] at tv
      obtain ⟨a, rfl, _, q⟩ := tv
      exact ⟨a, c, b, ev, q, hb, fun H' S => h A H' (Ext.same S) (hr.same S) _ (by simp only [Tr])⟩
    · exact h.elim
  · exact h.elim
theorem de_isX {v : Value} {f : List (Nat × Bool)} (hK : X.K = W.K) (hn : PE X (.Name n p1) (tVar i)) (hc : PCl X e2 v) (hf : IsF W [v] f) (hg : Gl X "isinstance") (hm : X.mg "isinstance" = none)
    (h1 : autoParam (starEach [.Name n p1, e2] X.env = (false, eval (.Name n p1) X.env) :: starEach [e2] X.env) L2.aR._auto_1) (h2 : autoParam (starEach [e2] X.env = (false, eval e2 X.env) :: starEach [] X.env) L2.aR._auto_1) (hpl : autoParam ((backTo pos (starEach [e2] X.env)).any (·.1) = false) L2.aR._auto_1) :
    PE X (.Call (.Name "isinstance" p) [.Name n p1, e2] [] pos) (tD W Z (dIsX i f)) := by
  obtain ⟨u, hu, cu⟩ := hc
  refine (pe_callB (call_isX (X := X)) hg hm My.boot_isinstance (pa_cons hn (pa_cons hu pa_nil h2) h1) (by decide) (by decide) h1 hpl).weak fun σ H Q h => ?_
  obtain ⟨e, c, b, q1, q2, q3, q4⟩ := isX_ok h
  obtain ⟨k1, k2⟩ := hf c b q3
  rw [← hK] at k1 k2
  exact ⟨_, q1, e, W.cl c, u, v, b, rfl, q2, cu, k1, kit_one k2, q4 H (Same.refl H)⟩
end
theorem fn_cx0 {P : Program} {w : World} {K : PySem.W.Frag} {mg : Str → Option Value} {base : Heap} {k : Nat} {fa : Addr} {fd : FuncData} {ps : List Str} {F : Fn} (h : FnOk P w K mg base (CXr P w base) k fa fd ps (spL K F)) : FnOk P w K mg base CX0 k fa fd ps (spL K F) :=
  ⟨h.len, fun A outer s H args us vs Q E hr e0 hb hv hs => codeAny_mono (h.run A outer s H args us vs Q E0 hr e0 hb hv (show spL K F vs H Q E0 from hs)) fun r s' q => by
    cases r with
    | ok f => cases f <;> exact q
    | error e => exact (noxr _ _ _ _ _ q).elim⟩
end Dn
namespace L2
open PySem PySem.Spec PyProof.Rows
theorem exc_mk {K : PySem.W.Frag} {mg : Str → Option Value} {C : Addr} {x : Str} {h : Heap} (X : K.In h) (G : h.Ns mainGlobals mg) (a : PySem.W.nsIn K mainGlobals x = some (some (.ref C))) (q : PySem.W.excIn K C bmV "ValueError.__new__" = true) : ExcD K mg C x := by
  have hm := PySem.W.mg_of X G a
  refine ⟨hm, fun h X G => ⟨hm, ?_⟩⟩
  unfold PySem.W.excIn at q
  split at q
  · rename_i dd cd sl ho
    split at q
    · rename_i C' bm k0 k1 k2 k3 n k5 e1 e2
      simp only [Bool.and_eq_true, beq_iff_eq, Bool.not_eq_true'] at q
      obtain ⟨⟨⟨⟨⟨z1, z2⟩, z3⟩, z4⟩, z5⟩, z6⟩ := q
      subst z1 z2
      obtain ⟨c1, c2, c3, c4, c5, c6, c7, c8, c9, c10, c11⟩ := cd
      simp only at e1 z3 z5 z6
      subst e1 z3
      have e3 : sl = #[k0, k1, k2, k3, some (.builtin "ValueError.__new__"), k5] := by
        cases sl; simp only at e2; rw [e2]
      subst e3
      exact ⟨bm, c4, c1, c5, c2, c6, c7, c8, c9, c10, dd, k0, k1, k2, k3, k5, _, X _ _ ho, .of_isNs (PySem.W.isNs_of_in X z5), PySem.W.nsMap_none_of_in X z5 z6, PySem.W.tail_of_in X z4⟩
    · cases q
  · cases q
end L2
namespace Dn
open PySem L2
structure Blt2 (mg : Str → Option Value) : Prop where
  ValueError_ : mg "ValueError" = none
  enumerate_ : mg "enumerate" = none
  dict_ : mg "dict" = none
theorem blt2_mk {K : PySem.W.Frag} {h : Heap} {mg : Str → Option Value} (X : K.In h) (G : h.Ns mainGlobals mg) (a : PySem.W.nsIn K mainGlobals "ValueError" = some none) (b : PySem.W.nsIn K mainGlobals "enumerate" = some none) (c : PySem.W.nsIn K mainGlobals "dict" = some none) : Blt2 mg :=
  ⟨PySem.W.mg_none_of X G a, PySem.W.mg_none_of X G b, PySem.W.mg_none_of X G c⟩
theorem boot_ValueError : bootBuiltins "ValueError" = some (.type "ValueError") := by decide +kernel
end Dn
namespace Dn
open PySem L2
noncomputable def mIndex : List MO → T → List T → R T := fun m x xs => match litems m x, xs with
  | some ts, [y] => if ts.all (fun t => T.akin 8 t (deref m y)) then (match ts.findIdx? (fun t => T.beq t (deref m y)) with
    | some j => .ok (.int (j : Int)) m
    | none => .bad) else .bad
  | _, _ => .bad
section
variable {X : Cx} {W : Wd} {Z : ZT} {a b c : Expr} {da db dc : DE} {pos p p1 p2 : Pos} {es : List Expr} {ea : DA}
noncomputable def rIndex (W : Wd) : V → List V → Hp → VK → Prop := fun x xs H Q => ∃ (A B : List Addr) (ty : T) (ts : List T) (a : Addr) (vs : List V) (v : V) (j : Nat), x = .ref a ∧ xs = [v] ∧ H a = some (.lst vs) ∧ Trs W A B H ts vs ∧ Top W A B H ty v ∧ (∀ t ∈ ts, T.akin 8 t ty = true) ∧ ts.findIdx? (fun t => T.beq t ty) = some j ∧ Q (.int j) H
open Classical in
theorem in_at {A B : List Addr} {H : Hp} {x : T} {ts : List T} {vs : List V} {its : List Value} {v : V} (tx : Top W A B H x v) (tr : Trs W A B H ts vs) (rv : Vals vs its) (hz : ∀ t ∈ ts, T.akin 8 t x = true) {j : Nat} {t : T} {u : Value} (ht : ts[j]? = some t) (hu : its[j]? = some u) : eqOf W A B H x ts u = T.beq t x := by
  obtain ⟨w, q, tw⟩ := tr.get ht
  obtain ⟨u', q', r⟩ := rv.get q
  rw [hu] at q'; cases q'
  have hm := List.mem_of_getElem? ht
  unfold eqOf
  by_cases e : t = x
  · subst e
    rw [(T.beq_iff t t).mpr rfl, decide_eq_true]
    exact ⟨w, r, hm, tw⟩
  · have e1 : T.beq t x = false := by
      cases h : T.beq t x with
      | false => rfl
      | true => exact absurd ((T.beq_iff _ _).mp h) e
    rw [e1, decide_eq_false]
    rintro ⟨w', r', _, tw'⟩
    have := r.inj r'
    subst this
    exact e (Top.inj (hz t hm) (.inl tw) (.inl tw'))
theorem mt_index (hu : X.A.units + 64 < cLine) : MtR X "list.index" (rIndex W) := by
  intro pins s σ H x xs v us Q I rx rv h
  obtain ⟨A, B, ty, ts, l, vs, w, j, rfl, rfl, hH, tr, tx, hz, hj, q⟩ := h
  cases rx
  obtain ⟨u, rfl, ru⟩ := rv.one
  obtain ⟨z, its, n, r, hl⟩ := I.hok l _ hH
  obtain ⟨hjl, hjt, hjn⟩ := List.findIdx?_eq_some_iff_getElem.mp hj
  have l1 := tr.length
  have l2 := r.length
  have jl : j < its.toArray.size := by rw [List.size_toArray]; (first|lia|omega)
  have e1 : ∀ k (hk : k < its.toArray.size), eqOf W A B H ty ts its.toArray[k] = T.beq (ts[k]'(by simp at hk; (first|lia|omega))) ty := fun k hk =>
    in_at tx tr r hz (List.getElem?_eq_getElem _) (by rw [List.getElem?_eq_getElem (by simpa using hk)]; simp)
  obtain ⟨k1, k2⟩ := in_core (A' := X.A.in1) I (show X.A.units + 1 + 8 < cLine by (first|lia|omega)) tx ru tr r hz
  have jb : (j : Int) < 2 ^ 63 - 1 := by
    have h0 : its.length ≤ sizeLine := by (first|lia|omega)
    rw [sizeLine_eq] at h0
    simp at jl
    (first|lia|omega)
  have mt := SeqAt.list_indexAt l its.toArray n none #[] u (eqOf W A B H ty ts) j jl jb (by rw [e1 j jl]; exact hjt) (fun m hm hlt => by
    rw [e1 m hm]
    have := hjn m hlt
    simpa using this)
  refine call_meets PySem.F.slot_list_index ⟨_, hl, rfl⟩ PySem.F.entry_list_index (PySem.F.args_list_index_2 _ _) mt ⟨hl, fun y hy => k1 y (by simpa using hy), ?_⟩
  exact ⟨.int j, H, I.tok _, ⟨_, rfl⟩, q⟩
theorem ms_index : MtS W "list" mIndex (rIndex W) := by
  intro Z σ A B H ms x xs v vs Q hr tx tr h
  unfold mIndex at h
  split at h
  · rename_i ts y hi
    split at h
    · rename_i hz
      split at h
      · rename_i j hj
        obtain ⟨w, rfl, tw⟩ := tr.one
        obtain ⟨q, ws, rfl, hq, tq⟩ := litems_ok hr tx hi
        exact ⟨A, B, _, ts, q, ws, w, j, rfl, rfl, hq, tq, deref_ok hr tw, fun t ht => List.all_eq_true.mp hz t ht, hj, h.now hr _ trI⟩
      · exact h.elim
    · exact h.elim
  · exact h.elim
end
end Dn
namespace Dn
open PySem L2
section
variable {X : Cx} {CX : CXT} {W : Wd} {Z : ZT} {a b c : Expr} {da db dc : DE} {pos p : Pos} {es : List Expr} {ea : DA} {k : Nat} {x : Str} {ps : List Str} {F : Fn} {A A' B l : List Addr} {H H' : Hp} {n : Nat}
variable {c : Nat}
end
end Dn
set_option maxHeartbeats 1000000
namespace L2
open PySem PySem.Spec PyProof.Rows PySem.W
section
variable {prog : Program} {w : World} {A : Around} {E : Value → Shared → Prop} {s : Shared}
end
section
variable {X : Cx}
end
end L2
namespace Dn
open PySem L2
section
variable {X : Cx} {CX : CXT} {W : Wd} {Z : ZT} {a b c : Expr} {da db dc : DE} {pos p p1 p2 : Pos} {es : List Expr} {ea : DA} {k : Nat} {x : Str} {ps : List Str} {F : Fn}
end
end Dn
namespace Pu
open Dn PySem
@[simp] theorem e_var (i : Nat) (loc : List (Option T)) (m : List MO) : dVar i ⟨loc, m⟩ = match loc[i]? with
  | some (some t) => .ok t m
  | _ => .bad := rfl
@[simp] theorem e_C (t : T) (loc : List (Option T)) (m : List MO) : dC t ⟨loc, m⟩ = .ok t m := rfl
@[simp] theorem e_op (f : List MO → T → T → R T) (a b : DE) (loc : List (Option T)) (m : List MO) : dOp f a b ⟨loc, m⟩ = (a ⟨loc, m⟩).bind fun x m => (b ⟨loc, m⟩).bind fun y m' => f m' x y := rfl
@[simp] theorem e_un (f : List MO → T → R T) (a : DE) (loc : List (Option T)) (m : List MO) : dUn f a ⟨loc, m⟩ = (a ⟨loc, m⟩).bind fun x m => f m x := rfl
@[simp] theorem e_nil (loc : List (Option T)) (m : List MO) : dNil ⟨loc, m⟩ = .ok [] m := rfl
@[simp] theorem e_cons (a : DE) (r : DA) (loc : List (Option T)) (m : List MO) : dCons a r ⟨loc, m⟩ = (a ⟨loc, m⟩).bind fun x m => (r ⟨loc, m⟩).bind fun xs m' => .ok (x :: xs) m' := rfl
@[simp] theorem e_ints (ns : List Int) (loc : List (Option T)) (m : List MO) : dInts ns ⟨loc, m⟩ = .ok (ns.map .int) m := rfl
@[simp] theorem e_intss (ns : List (List Int)) (loc : List (Option T)) (m : List MO) : dIntss ns ⟨loc, m⟩ = .ok (ns.map fun r => .lst (r.map .int)) m := rfl
@[simp] theorem e_CB (f : List MO → List T → R T) (a : DA) (loc : List (Option T)) (m : List MO) : dCB f a ⟨loc, m⟩ = (a ⟨loc, m⟩).bind fun xs m => f m xs := rfl
@[simp] theorem e_test (a : DE) (loc : List (Option T)) (m : List MO) : dTest a ⟨loc, m⟩ = (a ⟨loc, m⟩).bind fun x m => match x with
  | .bl b => .ok b m
  | _ => .bad := rfl
@[simp] theorem e_and (a b : DT) (loc : List (Option T)) (m : List MO) : dAnd a b ⟨loc, m⟩ = (a ⟨loc, m⟩).bind fun x m => if x then b ⟨loc, m⟩ else .ok false m := rfl
@[simp] theorem e_or (a b : DT) (loc : List (Option T)) (m : List MO) : dOr a b ⟨loc, m⟩ = (a ⟨loc, m⟩).bind fun x m => if x then .ok true m else b ⟨loc, m⟩ := rfl
@[simp] theorem e_not (a : DT) (loc : List (Option T)) (m : List MO) : dNot a ⟨loc, m⟩ = (a ⟨loc, m⟩).bind fun x m => .ok (!x) m := rfl
@[simp] theorem e_andV (a b : DE) (loc : List (Option T)) (m : List MO) : dAndV a b ⟨loc, m⟩ = (a ⟨loc, m⟩).bind fun x m => match x with
  | .bl c => if c then b ⟨loc, m⟩ else .ok (.bl false) m
  | _ => .bad := rfl
@[simp] theorem e_orV (a b : DE) (loc : List (Option T)) (m : List MO) : dOrV a b ⟨loc, m⟩ = (a ⟨loc, m⟩).bind fun x m => match x with
  | .bl c => if c then .ok (.bl true) m else b ⟨loc, m⟩
  | _ => .bad := rfl
@[simp] theorem e_notV (a : DE) (loc : List (Option T)) (m : List MO) : dNotV a ⟨loc, m⟩ = (a ⟨loc, m⟩).bind fun x m => match x with
  | .bl c => .ok (.bl (!c)) m
  | _ => .bad := rfl
@[simp] theorem e_ifE (c : DT) (a b : DE) (loc : List (Option T)) (m : List MO) : dIfE c a b ⟨loc, m⟩ = (c ⟨loc, m⟩).bind fun x m => if x then a ⟨loc, m⟩ else b ⟨loc, m⟩ := rfl
@[simp] theorem e_chain (f g : List MO → T → T → R T) (a b c : DE) (loc : List (Option T)) (m : List MO) : dChain f g a b c ⟨loc, m⟩ = (a ⟨loc, m⟩).bind fun x m => (b ⟨loc, m⟩).bind fun y m => (f m x y).bind fun z m => match z with
  | .bl true => (c ⟨loc, m⟩).bind fun u m => g m y u
  | .bl false => .ok (.bl false) m
  | _ => .bad := rfl
@[simp] theorem e_isN (neg : Bool) (a : DE) (loc : List (Option T)) (m : List MO) : dIsN neg a ⟨loc, m⟩ = (a ⟨loc, m⟩).bind fun x m => .ok (.bl (xor neg (decide (x = .non)))) m := rfl
@[simp] theorem e_lst (c : Bool) (a : DA) (loc : List (Option T)) (m : List MO) : dLst c a ⟨loc, m⟩ = (a ⟨loc, m⟩).bind fun xs m => alloc c xs m := rfl
@[simp] theorem e_tup (a : DA) (loc : List (Option T)) (m : List MO) : dTup a ⟨loc, m⟩ = (a ⟨loc, m⟩).bind fun xs m => if xs.length ≤ most then .ok (.tup xs) m else .bad := rfl
@[simp] theorem e_seq (a : DE) (loc : List (Option T)) (m : List MO) : iSeq a ⟨loc, m⟩ = (a ⟨loc, m⟩).bind fun x m => match srcOf m x with
  | some s => .ok s m
  | none => .bad := rfl
@[simp] theorem e_rng1 (a : DA) (loc : List (Option T)) (m : List MO) : iRng1 a ⟨loc, m⟩ = (a ⟨loc, m⟩).bind fun xs m => match xs with
  | [.int j] => if -big ≤ j ∧ j ≤ big then .ok ⟨none, rngT 0 j.toNat⟩ m else .bad
  | _ => .bad := rfl
@[simp] theorem e_rng2 (a : DA) (loc : List (Option T)) (m : List MO) : iRng2 a ⟨loc, m⟩ = (a ⟨loc, m⟩).bind fun xs m => match xs with
  | [.int i, .int j] => if -big ≤ i ∧ i ≤ big ∧ -big ≤ j ∧ j ≤ big then .ok ⟨none, rngT i (j - i).toNat⟩ m else .bad
  | _ => .bad := rfl
@[simp] theorem e_comp (c : Bool) (js : List Nat) (it : DI) (tc : DT) (te : DE) (loc : List (Option T)) (m : List MO) : dComp c js it tc te ⟨loc, m⟩ = (it ⟨loc, m⟩).bind fun s m => (compD s (scD js loc) tc te s.ts [] m).bind fun ts m => alloc c ts m := rfl
@[simp] theorem e_sl (c : Bool) (e : DE) (lo hi : DO) (loc : List (Option T)) (m : List MO) : dSl c e lo hi ⟨loc, m⟩ = (e ⟨loc, m⟩).bind fun x m => (lo ⟨loc, m⟩).bind fun l m => (hi ⟨loc, m⟩).bind fun h m => oCut c m x l h := rfl
@[simp] theorem e_pNone (loc : List (Option T)) (m : List MO) : pNone ⟨loc, m⟩ = .ok none m := rfl
@[simp] theorem e_pSome (e : DE) (loc : List (Option T)) (m : List MO) : pSome e ⟨loc, m⟩ = (e ⟨loc, m⟩).bind fun x m => match x with
  | .int i => .ok (some i) m
  | _ => .bad := rfl
@[simp] theorem e_methL (f : List MO → T → List T → R T) (o : DE) (a : DA) (loc : List (Option T)) (m : List MO) : dMethL f o a ⟨loc, m⟩ = (o ⟨loc, m⟩).bind fun x m => if (litems m x).isSome then (a ⟨loc, m⟩).bind fun xs m => f m x xs else .bad := rfl
@[simp] theorem e_fld (ix : List (Nat × Nat)) (o : DE) (loc : List (Option T)) (m : List MO) : dFld ix o ⟨loc, m⟩ = (o ⟨loc, m⟩).bind fun x m => oFld ix m x := rfl
@[simp] theorem e_methO (c : Nat) (f : List MO → List T → R T) (o : DE) (a : DA) (loc : List (Option T)) (m : List MO) : dMethO c f o a ⟨loc, m⟩ = (o ⟨loc, m⟩).bind fun x m => match fieldsOf m x with
  | some (c', _) => if c' = c then (a ⟨loc, m⟩).bind fun xs m => f m (x :: xs) else .bad
  | none => .bad := rfl
@[simp] theorem s_seq (a b : DS) (ρ : Dn.Env) : sSeq a b ρ = (a ρ).then b := rfl
@[simp] theorem s_next (ρ : Dn.Env) : sNext ρ = .go ρ := rfl
@[simp] theorem s_bad (ρ : Dn.Env) : sBad ρ = .bad := rfl
@[simp] theorem s_ret (e : DE) (loc : List (Option T)) (m : List MO) : sRet e ⟨loc, m⟩ = sOf (e ⟨loc, m⟩) ⟨loc, m⟩ fun t m => .ret t m := rfl
@[simp] theorem s_retN (loc : List (Option T)) (m : List MO) : sRetN ⟨loc, m⟩ = .ret .non m := rfl
@[simp] theorem s_expr (e : DE) (loc : List (Option T)) (m : List MO) : sExpr e ⟨loc, m⟩ = sOf (e ⟨loc, m⟩) ⟨loc, m⟩ fun _ m => .go ⟨loc, m⟩ := rfl
@[simp] theorem s_asg (e : DE) (g : DG) (loc : List (Option T)) (m : List MO) : sAsg e g ⟨loc, m⟩ = sOf (e ⟨loc, m⟩) ⟨loc, m⟩ fun t m => g t ⟨loc, m⟩ := rfl
@[simp] theorem s_if (c : DT) (a b : DS) (loc : List (Option T)) (m : List MO) : sIf c a b ⟨loc, m⟩ = sOf (c ⟨loc, m⟩) ⟨loc, m⟩ fun x m => if x then a ⟨loc, m⟩ else b ⟨loc, m⟩ := rfl
@[simp] theorem s_for (it : DI) (ks : List Nat) (g : DG) (b : DS) (loc : List (Option T)) (m : List MO) : sFor it ks g b ⟨loc, m⟩ = sOf (it ⟨loc, m⟩) ⟨loc, m⟩ fun s m => forD s ks g b s.ts (kill ks ⟨loc, m⟩) := rfl
@[simp] theorem s_while (n : Nat) (ks : List Nat) (c : DT) (b : DS) (ρ : Dn.Env) : sWhile n ks c b ρ = whileD ks c b n (kill ks ρ) := rfl
@[simp] theorem s_setF (ix : List (Nat × Nat)) (o v : DE) (loc : List (Option T)) (m : List MO) : sSetF ix o v ⟨loc, m⟩ = sOf (v ⟨loc, m⟩) ⟨loc, m⟩ fun y m => sOf (o ⟨loc, m⟩) ⟨loc, m⟩ fun x m => sOf (oSet ix m x y) ⟨loc, m⟩ fun _ m => .go ⟨loc, m⟩ := rfl
@[simp] theorem g_name (i : Nat) (t : T) (loc : List (Option T)) (m : List MO) : gName i t ⟨loc, m⟩ = .go ⟨loc.set i (some t), m⟩ := rfl
@[simp] theorem g_tup (gs : List DG) (ts : List T) (ρ : Dn.Env) : gTup gs (.tup ts) ρ = if ts.length = gs.length then gAll gs ts ρ else .bad := rfl
@[simp] theorem g_all0 (ρ : Dn.Env) : gAll [] [] ρ = .go ρ := rfl
@[simp] theorem g_all1 (g : DG) (gs : List DG) (t : T) (ts : List T) (ρ : Dn.Env) : gAll (g :: gs) (t :: ts) ρ = (g t ρ).then (gAll gs ts) := rfl
@[simp] theorem kill_eq (ks : List Nat) (loc : List (Option T)) (m : List MO) : kill ks ⟨loc, m⟩ = ⟨ks.foldl (fun l k => l.set k none) loc, m⟩ := rfl
@[simp] theorem o_I (g : Int → Int → T) (m : List MO) (i j : Int) : oI g m (.int i) (.int j) = .ok (g i j) m := rfl
@[simp] theorem o_sub (m : List MO) (i j : Int) : oSub m (.int i) (.int j) = .ok (.int (i - j)) m := rfl
@[simp] theorem o_add (c : Bool) (m : List MO) (i j : Int) : oAdd c m (.int i) (.int j) = .ok (.int (i + j)) m := rfl
@[simp] theorem o_mod (m : List MO) (i j : Int) : oMod m (.int i) (.int j) = if 0 < j then .ok (.int (i % j)) m else .bad := by simp [oMod, oIc]
@[simp] theorem o_div (m : List MO) (i j : Int) : oDiv m (.int i) (.int j) = if 0 < j ∧ j < 1073741824 then .ok (.int (i / j)) m else .bad := by simp [oDiv, oIc]
@[simp] theorem o_le (m : List MO) (i j : Int) : oLe m (.int i) (.int j) = .ok (.bl (decide (i ≤ j))) m := rfl
@[simp] theorem o_gt (m : List MO) (i j : Int) : oGt m (.int i) (.int j) = .ok (.bl (decide (j < i))) m := rfl
@[simp] theorem o_ge (m : List MO) (i j : Int) : oGe m (.int i) (.int j) = .ok (.bl (decide (j ≤ i))) m := rfl
@[simp] theorem o_lt (m : List MO) (i j : Int) : oLt m (.int i) (.int j) = .ok (.bl (decide (i < j))) m := rfl
@[simp] theorem o_neg (m : List MO) (i : Int) : oNeg m (.int i) = .ok (.int (-i)) m := rfl
@[simp] theorem o_eqI (neg : Bool) (m : List MO) (i j : Int) : oEq neg m (.int i) (.int j) = .ok (.bl (xor neg (decide (i = j)))) m := by
  simp only [oEq, deref, T.akin, if_true, T.beq, T.int.injEq, T.bl.injEq]
@[simp] theorem o_eqB (neg : Bool) (m : List MO) (i j : Bool) : oEq neg m (.bl i) (.bl j) = .ok (.bl (xor neg (decide (i = j)))) m := by
  simp only [oEq, deref, T.akin, if_true, T.beq, T.int.injEq, T.bl.injEq]
@[simp] theorem cl_ints (ns : List Int) : T.cleans (ns.map .int) = true := by
  induction ns with
  | nil => rfl
  | cons n ns ih => simp [T.cleans, T.clean, ih]
@[simp] theorem iof_ints (ns : List Int) : intsOf (ns.map .int) = some ns := by
  induction ns with
  | nil => rfl
  | cons n ns ih => simp [intsOf, ih]
@[simp] theorem cl_rows (rs : List (List Int)) : T.cleans (rs.map fun r => .lst (r.map .int)) = true := by
  induction rs with
  | nil => rfl
  | cons n ns ih => simp [T.cleans, T.clean, ih]
@[simp] theorem rof_rows (rs : List (List Int)) : rowsOf (rs.map fun r => .lst (r.map .int)) = some rs := by
  induction rs with
  | nil => rfl
  | cons n ns ih => simp [rowsOf, ih]
theorem reify_clean {m : List MO} {n : Nat} {t : T} (h : t.clean = true) : reify m n t = some t := by
  cases n <;> simp [reify, h]
theorem callP_of {F : Fn} {m m' : List MO} {ts : List T} {t t' : T} (hc : T.cleans ts = true) (h : F ts [] = .ok t m') (hr : reify m' 4 t = some t') : callP F m ts = .ok t' m := by
  unfold callP
  rw [if_pos hc, h]
  simp only [hr]
theorem callC_of {F : Fn} {m m' : List MO} {ts us : List T} {t : T} (hc : ts.mapM (reify m 4) = some us) (h : F us [] = .ok t m') (hr : t.flat = true) : callC F m ts = .ok t m := by
  unfold callC
  rw [hc]
  simp only [h, hr, if_true]
end Pu
namespace Pu
open Dn PySem
theorem atD_in {α : Type} {l : List α} {i : Int} (h0 : 0 ≤ i) (h1 : i < l.length) : atD l i = l[i.toNat]? := by
  unfold atD ixD
  rw [if_pos h0, if_pos h1]
end Pu
namespace Pu
open Dn
structure MOk (e : Int) (ws : List Int) (n f : Int) : Prop where
  w : L2.WOk ws
  e1 : 1 ≤ e
  e12 : e ≤ 12
  n1 : 1 ≤ n
  n6 : n ≤ 6
  f1 : 1 ≤ f
  f6 : f ≤ 6
@[simp] theorem m_append (m : List MO) (k : Nat) (y : T) (ts : List T) (h : m[k]? = some (.lst ts)) (hl : ts.length < most) : mAppend m (.cel k) [y] = .ok .non (m.set k (.lst (ts ++ [y]))) := by
  simp [mAppend, h, hl]
theorem akin_int (n : Nat) (a : Int) (ns : List Int) : ((ns.map T.int).all fun y => T.akin n y (.int a)) = true := by
  simp [T.akin]
theorem o_inI (neg : Bool) (m : List MO) (a : Int) (y : T) (ns : List Int) (h : items m y = some (ns.map .int)) : oIn neg m (.int a) y = .ok (.bl (xor neg (decide (a ∈ ns)))) m := by
  unfold oIn
  rw [h]
  simp only [akin_int, if_true]
  congr 3
  simp
end Pu
namespace Pu
open Dn
theorem mapM_ints (m : List MO) (n : Nat) : ∀ l : List Int, (l.map T.int).mapM (reify m n) = some (l.map T.int)
  | [] => rfl
  | x :: r => by
    have e : reify m n (.int x) = some (.int x) := reify_clean rfl
    simp only [List.map_cons, List.mapM_cons, e, mapM_ints m n r]
    rfl
end Pu
namespace Pu
open Dn
theorem reify_ints {m : List MO} {k : Nat} {ns : List Int} (n : Nat) (h : m[k]? = some (.lst (ns.map .int))) : reify m (n + 1) (.cel k) = some (.lst (ns.map .int)) := by
  have := mapM_ints m n ns
  unfold reify
  rw [if_neg (by simp [T.clean])]
  simp only [h, this]
  rfl
theorem reify_meas {m : List MO} {k : Nat} {ns : List Int} (e a b : Int) (h : m[k]? = some (.lst (ns.map .int))) : reify m 4 (.tup [.int e, .cel k, .int a, .int b]) = some (.tup [.int e, .lst (ns.map .int), .int a, .int b]) := by
  have h1 := reify_ints 2 h
  have h2 : ∀ x : Int, reify m 3 (.int x) = some (.int x) := fun x => reify_clean rfl
  rw [reify]
  rw [if_neg (by simp [T.clean, T.cleans])]
  simp only [List.mapM_cons, List.mapM_nil, h1, h2]
  rfl
end Pu
namespace Pu
open Dn
theorem forD_fold {α β : Type} {src : Src} {ks : List Nat} {g : DG} {b : DS} (hk : src.k = none) (enc : α → T) (st : β → Dn.Env) (step : β → α → β) (Inv : List α → β → Prop)
    (h : ∀ s a r, Inv (a :: r) s → Inv r (step s a) ∧ ∃ ρ', (g (enc a) (st s)).then b = .go ρ' ∧ kill ks ρ' = st (step s a)) :
    ∀ (l : List α) (s : β), Inv l s → forD src ks g b (l.map enc) (st s) = .go (st (l.foldl step s)) ∧ Inv [] (l.foldl step s)
  | [], s, i => ⟨by simp [forD, Src.fits, hk], i⟩
  | a :: r, s, i => by
    obtain ⟨i', ρ', e, k⟩ := h s a r i
    have := forD_fold hk enc st step Inv h r (step s a) i'
    refine ⟨?_, this.2⟩
    simp only [List.map_cons, forD, Src.fits, hk, if_true, e, k]
    exact this.1
theorem forD_same {α : Type} {src : Src} {ks : List Nat} {g : DG} {b : DS} {ρ : Dn.Env} (hk : src.k = none) (enc : α → T) (l : List α)
    (h : ∀ a ∈ l, ∃ ρ', (g (enc a) ρ).then b = .go ρ' ∧ kill ks ρ' = ρ) : forD src ks g b (l.map enc) ρ = .go ρ := by
  have := (forD_fold (β := Unit) hk enc (fun _ => ρ) (fun _ _ => ()) (fun r _ => ∀ a ∈ r, a ∈ l) (fun _ a r i => ⟨fun x hx => i x (List.mem_cons_of_mem _ hx), h a (i a (List.mem_cons_self ..))⟩) l () (fun _ h => h)).1
  exact this
noncomputable def rowsN (S : List Int) : Nat → Int → List (List Int)
  | 0, _ => []
  | n + 1, L => if L = 0 then [[]] else S.flatMap fun w => if w ≤ L then (rowsN S n (L - w)).map (w :: ·) else []
theorem rowsN_len {S : List Int} (h3 : S.length ≤ 3) : ∀ n L, (rowsN S n L).length ≤ 3 ^ n
  | 0, L => by simp [rowsN]
  | n + 1, L => by
    rw [rowsN]
    split
    · have := Nat.one_le_pow (n + 1) 3 (by decide); simpa using this
    · have ih := rowsN_len h3 n
      have : ∀ l : List Int, (l.flatMap fun w => if w ≤ L then (rowsN S n (L - w)).map (w :: ·) else []).length ≤ l.length * 3 ^ n := by
        intro l
        induction l with
        | nil => simp
        | cons a r i =>
          rw [List.flatMap_cons, List.length_append, List.length_cons, Nat.succ_mul]
          have : (if a ≤ L then (rowsN S n (L - a)).map (a :: ·) else []).length ≤ 3 ^ n := by
            split
            · rw [List.length_map]; exact ih _
            · simp
          (first|lia|omega)
      refine Nat.le_trans (this S) ?_
      rw [Nat.pow_succ, Nat.mul_comm]
      exact Nat.mul_le_mul_left _ h3
theorem mem_rowsN {S : List Int} (h2 : ∀ w ∈ S, 2 ≤ w) : ∀ (n : Nat) (L : Int), 0 ≤ L → L < 2 * (n : Int) → ∀ row, row ∈ rowsN S n L ↔ (∀ w ∈ row, w ∈ S) ∧ row.sum = L
  | 0, L, h0, h1, row => by (first|lia|omega)
  | n + 1, L, h0, h1, row => by
    rw [rowsN]
    split
    · rename_i hL
      subst hL
      constructor
      · intro h; rw [List.mem_singleton] at h; subst h; simp
      · rintro ⟨hm, hs⟩
        cases row with
        | nil => simp
        | cons a r =>
          have ha := h2 a (hm a (List.mem_cons_self ..))
          have hr := L2.sum_ge (l := r) (fun w hw => h2 w (hm w (List.mem_cons_of_mem _ hw)))
          rw [List.sum_cons] at hs
          (first|lia|omega)
    · rename_i hL
      rw [List.mem_flatMap]
      constructor
      · rintro ⟨w, hw, hr⟩
        split at hr
        · rename_i hle
          obtain ⟨r, hr', rfl⟩ := List.mem_map.mp hr
          have hw2 := h2 w hw
          obtain ⟨a, b⟩ := (mem_rowsN h2 n (L - w) (by (first|lia|omega)) (by (first|lia|omega)) r).mp hr'
          refine ⟨fun x hx => ?_, by rw [List.sum_cons, b]; (first|lia|omega)⟩
          rcases List.mem_cons.mp hx with rfl | hx
          · exact hw
          · exact a x hx
        · simp at hr
      · rintro ⟨hm, hs⟩
        cases row with
        | nil => simp at hs; (first|lia|omega)
        | cons a r =>
          have ha := h2 a (hm a (List.mem_cons_self ..))
          have hr := L2.sum_ge (l := r) (fun w hw => h2 w (hm w (List.mem_cons_of_mem _ hw)))
          rw [List.sum_cons] at hs
          refine ⟨a, hm a (List.mem_cons_self ..), ?_⟩
          rw [if_pos (by (first|lia|omega))]
          exact List.mem_map.mpr ⟨r, (mem_rowsN h2 n (L - a) (by (first|lia|omega)) (by (first|lia|omega)) r).mpr ⟨fun x hx => hm x (List.mem_cons_of_mem _ hx), by (first|lia|omega)⟩, rfl⟩
theorem rowsN_nodup {S : List Int} (hS : S.Nodup) : ∀ n L, (rowsN S n L).Nodup
  | 0, L => by simp [rowsN]
  | n + 1, L => by
    rw [rowsN]
    split
    · simp
    · unfold List.Nodup
      rw [List.pairwise_flatMap]
      refine ⟨fun a _ => ?_, ?_⟩
      · split
        · refine List.Pairwise.map _ (fun x y h e => h (List.cons.inj e).2) (rowsN_nodup hS n (L - a))
        · simp
      · refine List.Pairwise.imp (fun {a b} hab x hx y hy e => ?_) hS
        split at hx
        · split at hy
          · obtain ⟨r, _, rfl⟩ := List.mem_map.mp hx
            obtain ⟨r', _, rfl⟩ := List.mem_map.mp hy
            exact hab (List.cons.inj e).1
          · simp at hy
        · simp at hx
theorem sum_perm {l l' : List Nat} (h : l.Perm l') : l.sum = l'.sum := by
  induction h with
  | nil => rfl
  | cons x _ ih => simp [ih]
  | swap x y l => simp; (first|lia|omega)
  | trans _ _ a b => rw [a, b]
theorem rowsN_count {S S' : List Int} (h : S.Perm S') : ∀ n L, (rowsN S n L).length = (rowsN S' n L).length
  | 0, L => rfl
  | n + 1, L => by
    rw [rowsN, rowsN]
    split
    · rfl
    · rw [List.length_flatMap, List.length_flatMap]
      have ih := rowsN_count h n
      have : (fun w => (if w ≤ L then (rowsN S n (L - w)).map (w :: ·) else []).length) = fun w => (if w ≤ L then (rowsN S' n (L - w)).map (w :: ·) else []).length := by
        funext w
        split
        · simp [ih]
        · rfl
      rw [this]
      exact sum_perm (h.map _)
theorem diffs_sums : ∀ (p : Int) (r : List Int), L2.diffs p (L2.sums p r) = r
  | p, [] => rfl
  | p, x :: r => by
    show (p + x - p) :: L2.diffs (p + x) (L2.sums (p + x) r) = _
    rw [diffs_sums (p + x) r]; congr 1; (first|lia|omega)
theorem jts_whole {r : List Int} (h : r ≠ []) : L2.jts r ++ [r.sum] = L2.sums 0 r := by
  have e := List.dropLast_concat_getLast h
  have s := L2.sums_snoc 0 r.dropLast (r.getLast h)
  rw [e] at s
  rw [s]
  unfold L2.jts
  congr 2
  conv => lhs; rw [← e, List.sum_append]
  simp
theorem jts_inj {r r' : List Int} (h : r ≠ []) (h' : r' ≠ []) (hs : r.sum = r'.sum) (hj : L2.jts r = L2.jts r') : r = r' := by
  rw [← diffs_sums 0 r, ← diffs_sums 0 r', ← jts_whole h, ← jts_whole h', hs, hj]
noncomputable def jlt (a b : List Int) : Bool := lexLt (L2.jts a) (L2.jts b)
noncomputable def ordL (S : List Int) (e : Int) : List (List Int) := isort jlt (rowsN S 8 e)
theorem ins1_map {α β : Type} (f : α → β) {lt : α → α → Bool} {lt' : β → β → Bool} (h : ∀ a b, lt' (f a) (f b) = lt a b) (x : α) : ∀ l : List α, ins1 lt' (f x) (l.map f) = (ins1 lt x l).map f
  | [] => rfl
  | y :: r => by
    simp only [List.map_cons, ins1, h]
    split
    · rw [ins1_map f h x r]; rfl
    · rfl
theorem isort_map {α β : Type} (f : α → β) {lt : α → α → Bool} {lt' : β → β → Bool} (h : ∀ a b, lt' (f a) (f b) = lt a b) : ∀ l : List α, isort lt' (l.map f) = (isort lt l).map f
  | [] => rfl
  | y :: r => by
    simp only [List.map_cons, isort, isort_map f h r, ins1_map f h]
theorem nodup_map_on {α β : Type} {f : α → β} : ∀ {l : List α}, l.Nodup → (∀ a ∈ l, ∀ b ∈ l, f a = f b → a = b) → (l.map f).Nodup
  | [], _, _ => by simp
  | x :: r, h, q => by
    rw [List.nodup_cons] at h
    rw [List.map_cons, List.nodup_cons]
    refine ⟨fun hx => ?_, nodup_map_on h.2 fun a ha b hb => q a (List.mem_cons_of_mem _ ha) b (List.mem_cons_of_mem _ hb)⟩
    obtain ⟨y, hy, e⟩ := List.mem_map.mp hx
    have := q y (List.mem_cons_of_mem _ hy) x (List.mem_cons_self ..) e
    exact h.1 (this ▸ hy)
structure Crs (e : Int) (ws : List Int) (O : List (List Int)) : Prop where
  mem : ∀ row, row ∈ O ↔ (∀ w ∈ row, w ∈ ws) ∧ row.sum = e
  srt : O.Pairwise fun a b => lexLt (L2.jts a) (L2.jts b) = true
  cnt : O.length = (rowsN ws 8 e).length
  few : O.length ≤ 60
theorem len_le_of_sub {α : Type} [DecidableEq α] : ∀ {l l' : List α}, l.Nodup → (∀ x ∈ l, x ∈ l') → l.length ≤ l'.length
  | [], l', _, _ => by simp
  | x :: r, l', h, q => by
    rw [List.nodup_cons] at h
    have hx := q x (List.mem_cons_self ..)
    have := len_le_of_sub (l := r) (l' := l'.erase x) h.2 fun y hy => (List.mem_erase_of_ne (fun (e : y = x) => h.1 (e ▸ hy))).mpr (q y (List.mem_cons_of_mem _ hy))
    have e := List.length_erase_of_mem hx
    have := List.length_pos_of_mem hx
    simp only [List.length_cons]; (first|lia|omega)
theorem WOk.perm {ws S : List Int} (h : L2.WOk ws) (p : S.Perm ws) : L2.WOk S := ⟨by rw [p.length_eq]; exact h.one, by rw [p.length_eq]; exact h.three, fun w hw => h.rng w (p.mem_iff.mp hw), p.nodup_iff.mpr h.nd⟩
theorem rowsN_few {S : List Int} (h : L2.WOk S) {e : Int} (h1 : 0 ≤ e) (h12 : e ≤ 12) : (rowsN S 8 e).length ≤ 60 := by
  have := L2.comps_few h (n := e.toNat) (by (first|lia|omega))
  refine Nat.le_trans (len_le_of_sub (rowsN_nodup h.nd 8 e) fun row hr => ?_) this
  rw [L2.mem_comps h.pos]
  obtain ⟨a, b⟩ := (mem_rowsN (fun w hw => (h.rng w hw).1) 8 e h1 (by (first|lia|omega)) row).mp hr
  exact ⟨a, by (first|lia|omega)⟩
theorem rowsN_keys {S : List Int} (h : L2.WOk S) {e : Int} (h1 : 1 ≤ e) (h12 : e ≤ 12) : ((rowsN S 8 e).map L2.jts).Nodup := by
  refine nodup_map_on (rowsN_nodup h.nd 8 e) fun a ha b hb hj => ?_
  have m := mem_rowsN (fun w hw => (h.rng w hw).1) 8 e (by (first|lia|omega)) (by (first|lia|omega))
  have sa := ((m a).mp ha).2
  have sb := ((m b).mp hb).2
  exact jts_inj (fun z => by subst z; simp at sa; (first|lia|omega)) (fun z => by subst z; simp at sb; (first|lia|omega)) (by (first|lia|omega)) hj
theorem ordL_crs {ws S : List Int} (h : L2.WOk ws) (p : S.Perm ws) {e : Int} (h1 : 1 ≤ e) (h12 : e ≤ 12) : Crs e ws (ordL S e) := by
  have hS := WOk.perm h p
  have P := isort_perm jlt (rowsN S 8 e)
  have m := mem_rowsN (fun w hw => (hS.rng w hw).1) 8 e (by (first|lia|omega)) (by (first|lia|omega))
  refine ⟨fun row => ?_, ?_, ?_, ?_⟩
  · rw [show ordL S e = isort jlt (rowsN S 8 e) from rfl, P.mem_iff, m row]
    constructor
    · rintro ⟨a, b⟩; exact ⟨fun w hw => p.mem_iff.mp (a w hw), b⟩
    · rintro ⟨a, b⟩; exact ⟨fun w hw => p.mem_iff.mpr (a w hw), b⟩
  · have s := isort_sorted (lt := jlt) (fun a b c => lex_tr _ _ _) (fun a b => lex_tot _ _) (rowsN S 8 e)
    have nd : (ordL S e).Pairwise fun a b => L2.jts a ≠ L2.jts b := List.pairwise_map.mp ((P.map L2.jts).nodup_iff.mpr (rowsN_keys hS h1 h12))
    refine List.Pairwise.imp (fun {a b} q => ?_) (List.pairwise_and_iff.mpr ⟨s, nd⟩)
    cases hb : lexLt (L2.jts a) (L2.jts b)
    · exact absurd (lex_anti _ _ hb q.1) q.2
    · rfl
  · show (isort jlt (rowsN S 8 e)).length = _
    rw [P.length_eq, rowsN_count p]
  · show (isort jlt (rowsN S 8 e)).length ≤ _
    rw [P.length_eq]; exact rowsN_few hS (by (first|lia|omega)) h12
end Pu
namespace Pu
open Dn
@[simp] theorem s_raise (c : Nat) (js : List Nat) (ρ : Dn.Env) : sRaise c js ρ = if js.all (msgD ρ.loc) then .exc c ρ else .bad := rfl
theorem s_try {cs : List Nat} {i : Nat} {b s : DS} {ρ : Dn.Env} : sTry cs i b s ρ = match b ρ with
  | .exc c ρ' => if c ∈ cs then (match s ⟨ρ'.loc.set i (some (.exn c)), ρ'.ms⟩ with
    | .go ρ'' => .go ⟨ρ''.loc.set i none, ρ''.ms⟩
    | _ => .bad) else .bad
  | r => r := rfl
@[simp] theorem e_isX (i : Nat) (f : List (Nat × Bool)) (loc : List (Option T)) (m : List MO) : dIsX i f ⟨loc, m⟩ = match loc[i]? with
  | some (some (.exn c)) => match f.lookup c with
    | some b => .ok (.bl b) m
    | none => .bad
  | _ => .bad := rfl
@[simp] theorem o_pow (m : List MO) (i j : Int) : oPow m (.int i) (.int j) = if 0 ≤ j ∧ j ≤ 1000 ∧ i.natAbs ≤ 1000 then .ok (.int (i ^ j.toNat)) m else .bad := by simp [oPow, oIc]
theorem exc_of {F : Fn} {m m' : List MO} {ts : List T} {c : Nat} (hc : T.cleans ts = true) (h : F ts [] = .exc c m') : callP F m ts = .exc c m := by
  unfold callP
  rw [if_pos hc, h]
theorem forD_find {α : Type} {src : Src} {ks : List Nat} {g : DG} {b : DS} {ρ : Dn.Env} {t : T} {m : List MO} (hk : src.k = none) (enc : α → T) (p : α → Bool) : ∀ (l : List α),
    (∀ a ∈ l, if p a then (g (enc a) ρ).then b = .ret t m else ∃ ρ', (g (enc a) ρ).then b = .go ρ' ∧ kill ks ρ' = ρ) → forD src ks g b (l.map enc) ρ = if l.any p then .ret t m else .go ρ
  | [], _ => by simp [forD, Src.fits, hk]
  | a :: r, h => by
    have ih := forD_find hk enc p r fun x hx => h x (List.mem_cons_of_mem _ hx)
    have ha := h a (List.mem_cons_self ..)
    simp only [List.map_cons, forD, Src.fits, hk, if_true, List.any_cons]
    by_cases hp : p a = true
    · rw [if_pos hp] at ha
      rw [ha]; simp [hp]
    · rw [if_neg hp] at ha
      obtain ⟨ρ', e, k⟩ := ha
      have hp : p a = false := by simpa using hp
      simp only [e, k, ih, hp, Bool.false_or]
theorem compD_map {α : Type} {src : Src} {sc : T → List (Option T)} {te : DE} (hk : src.k = none) (enc : α → T) (f : α → T) : ∀ (l : List α) (acc : List T) (m : List MO), (∀ a ∈ l, te ⟨sc (enc a), m⟩ = .ok (f a) m) → acc.length + l.length ≤ most →
    compD src sc dTrue te (l.map enc) acc m = .ok (acc ++ l.map f) m
  | [], acc, m, _, _ => by simp [compD, Src.fits, hk]
  | a :: r, acc, m, h, hl => by
    have ih := compD_map hk enc f r (acc ++ [f a]) m (fun x hx => h x (List.mem_cons_of_mem _ hx)) (by simp at hl ⊢; (first|lia|omega))
    simp only [List.length_cons] at hl
    simp only [List.map_cons, compD, Src.fits, hk, if_true, dTrue, R.sure_ok, h a (List.mem_cons_self ..), show acc.length < most by (first|lia|omega)]
    simpa using ih
theorem forD_foldG {α β : Type} {src : Src} {ks : List Nat} {g : DG} {b : DS} (enc : α → T) (st : β → Dn.Env) (step : β → α → β) (Inv : List α → β → Prop) (hf : ∀ l s, Inv l s → src.fits (st s).ms = true)
    (h : ∀ s a r, Inv (a :: r) s → Inv r (step s a) ∧ ∃ ρ', (g (enc a) (st s)).then b = .go ρ' ∧ kill ks ρ' = st (step s a)) :
    ∀ (l : List α) (s : β), Inv l s → forD src ks g b (l.map enc) (st s) = .go (st (l.foldl step s)) ∧ Inv [] (l.foldl step s)
  | [], s, i => ⟨by simp [forD, hf _ _ i], i⟩
  | a :: r, s, i => by
    obtain ⟨i', ρ', e, k⟩ := h s a r i
    have := forD_foldG enc st step Inv hf h r (step s a) i'
    refine ⟨?_, this.2⟩
    simp only [List.map_cons, forD, hf _ _ i, if_true, e, k]
    exact this.1
theorem compD_mapG {α : Type} {src : Src} {sc : T → List (Option T)} {te : DE} (enc : α → T) (f : α → T) : ∀ (l : List α) (acc : List T) (m : List MO), src.fits m = true → (∀ a ∈ l, te ⟨sc (enc a), m⟩ = .ok (f a) m) → acc.length + l.length ≤ most →
    compD src sc dTrue te (l.map enc) acc m = .ok (acc ++ l.map f) m
  | [], acc, m, hk, _, _ => by simp [compD, hk]
  | a :: r, acc, m, hk, h, hl => by
    have ih := compD_mapG enc f r (acc ++ [f a]) m hk (fun x hx => h x (List.mem_cons_of_mem _ hx)) (by simp at hl ⊢; (first|lia|omega))
    simp only [List.length_cons] at hl
    simp only [List.map_cons, compD, hk, if_true, dTrue, R.sure_ok, h a (List.mem_cons_self ..), show acc.length < most by (first|lia|omega)]
    simpa using ih
theorem ix_at {α : Type} (enc : α → T) {l : List α} {k : Nat} {a : α} (h : l[k]? = some a) (m : List MO) : oIx m (.lst (l.map enc)) (.int (k : Int)) = .ok (enc a) m := by
  have hk := (List.getElem?_eq_some_iff.mp h).1
  have : atD (l.map enc) (k : Int) = some (enc a) := by
    rw [atD_in (by (first|lia|omega)) (by simp; (first|lia|omega)), List.getElem?_map, Int.toNat_natCast, h]; rfl
  simp [oIx, items, this]
theorem rng_map (n : Nat) : rngT 0 n = (List.range n).map fun k : Nat => T.int (k : Int) := by
  unfold rngT
  congr 1
  funext k
  rw [Int.zero_add]
theorem big_ok {n : Nat} (h : n ≤ 1000000) : -big ≤ (n : Int) ∧ (n : Int) ≤ big := by
  unfold big; (first|lia|omega)
theorem lex_irr : ∀ a : List Int, lexLt a a = false
  | [] => rfl
  | x :: r => by rw [lexLt, if_pos rfl, lex_irr r]
theorem lex_asym : ∀ a b : List Int, lexLt a b = true → lexLt b a = false
  | [], [], h => rfl
  | [], _ :: _, h => rfl
  | _ :: _, [], h => by cases h
  | x :: a, y :: b, h => by
    rw [lexLt] at h ⊢
    by_cases e : x = y
    · rw [if_pos e] at h
      rw [if_pos e.symm]
      exact lex_asym a b h
    · rw [if_neg e] at h
      rw [if_neg (fun z => e z.symm)]
      simp at h ⊢; (first|lia|omega)
noncomputable def encR (r : List Int) : T := .lst (r.map .int)
theorem cl_enc (rs : List (List Int)) : T.cleans (rs.map encR) = true := cl_rows rs
theorem reify_rows {m : List MO} {k : Nat} {rs : List (List Int)} (n : Nat) (h : m[k]? = some (.lst (rs.map encR))) : reify m (n + 1) (.cel k) = some (.lst (rs.map encR)) := by
  have q : ∀ rs : List (List Int), (rs.map encR).mapM (reify m n) = some (rs.map encR) := by
    intro rs
    induction rs with
    | nil => rfl
    | cons r rs ih =>
      have e : reify m n (encR r) = some (encR r) := reify_clean (by simp [encR, T.clean])
      simp only [List.map_cons, List.mapM_cons, e, ih]
      rfl
  unfold reify
  rw [if_neg (by simp [T.clean])]
  simp only [h, q]
  rfl
theorem foldl_flat {α β : Type} (f : α → List β) : ∀ (l : List α) (s : List β), l.foldl (fun s a => s ++ f a) s = s ++ l.flatMap f
  | [], s => by simp
  | a :: r, s => by simp [foldl_flat f r, List.append_assoc]
theorem flat_one {α β : Type} (f : α → β) : ∀ l : List α, (l.flatMap fun r => [f r]) = l.map f
  | [] => rfl
  | a :: r => by rw [List.flatMap_cons, flat_one f r]; rfl
noncomputable def planT (e : Int) (S : List Int) (n f : Int) (O : List (List Int)) : T := .ins 0 [.int e, .lst (S.map .int), .int n, .int f, .lst (O.map encR), .lst ((O.map L2.jts).map encR)]
theorem planT_clean (e : Int) (S : List Int) (n f : Int) (O : List (List Int)) : (planT e S n f O).clean = true := by
  simp only [planT, T.clean, T.cleans, cl_ints, cl_enc, Bool.and_true, Bool.and_self]
theorem comps_nodup {ws : List Int} (h : L2.WOk ws) : ∀ n : Nat, (L2.comps ws n).Nodup := by
  intro n
  induction n using Nat.strongRecOn with
  | ind n ih =>
    cases n with
    | zero => rw [L2.comps_zero]; simp
    | succ n =>
      rw [L2.comps_succ]
      unfold L2.stepC List.Nodup
      rw [List.pairwise_flatMap]
      refine ⟨fun w hw => ?_, ?_⟩
      · have := (h.rng w hw).1
        split
        · rw [L2.tblC_get ws (by (first|lia|omega))]
          refine List.Pairwise.map _ (fun x y hxy e => hxy (List.append_cancel_right e)) (ih _ (by (first|lia|omega)))
        · simp
      · refine List.Pairwise.imp (fun {a b} hab x hx y hy e => ?_) h.nd
        split at hx
        · split at hy
          · obtain ⟨r, _, rfl⟩ := List.mem_map.mp hx
            obtain ⟨r', _, rfl⟩ := List.mem_map.mp hy
            have := congrArg List.getLast? e
            simp at this
            exact hab this
          · simp at hy
        · simp at hx
theorem sorted_marks {e : Int} {ws : List Int} {O : List (List Int)} (h : L2.WOk ws) (h1 : 1 ≤ e) (h12 : e ≤ 12) (c : Crs e ws O) : isort lexLt ((L2.comps ws e.toNat).map L2.jts) = O.map L2.jts := by
  have m1 := L2.mem_comps h.pos e.toNat
  rw [show ((e.toNat : Nat) : Int) = e by (first|lia|omega)] at m1
  have inj : ∀ a, (∀ w ∈ a, w ∈ ws) ∧ a.sum = e → ∀ b, (∀ w ∈ b, w ∈ ws) ∧ b.sum = e → L2.jts a = L2.jts b → a = b := fun a ha b hb hj =>
    jts_inj (fun z => by subst z; have := ha.2; simp at this; (first|lia|omega)) (fun z => by subst z; have := hb.2; simp at this; (first|lia|omega)) (by rw [ha.2, hb.2]) hj
  have nO : (O.map L2.jts).Nodup := by
    unfold List.Nodup
    rw [List.pairwise_map]
    refine c.srt.imp fun {a b} hab z => ?_
    rw [z] at hab
    have := lex_irr (L2.jts b)
    rw [this] at hab; cases hab
  have nC : ((L2.comps ws e.toNat).map L2.jts).Nodup := nodup_map_on (comps_nodup h _) fun a ha b hb hj => inj a ((m1 a).mp ha) b ((m1 b).mp hb) hj
  have P : (isort lexLt ((L2.comps ws e.toNat).map L2.jts)).Perm (O.map L2.jts) := by
    refine (isort_perm _ _).trans ((List.perm_ext_iff_of_nodup nC nO).mpr fun x => ?_)
    simp only [List.mem_map]
    constructor
    · rintro ⟨a, ha, rfl⟩; exact ⟨a, (c.mem a).mpr ((m1 a).mp ha), rfl⟩
    · rintro ⟨a, ha, rfl⟩; exact ⟨a, (m1 a).mpr ((c.mem a).mp ha), rfl⟩
  refine sorted_unique (lt := lexLt) P (fun a _ b _ x y => lex_anti a b x y) (isort_sorted lex_tr lex_tot _) ?_
  rw [List.pairwise_map]
  exact c.srt.imp fun {a b} hab => by
    cases z : lexLt (L2.jts b) (L2.jts a) with
    | false => rfl
    | true => rw [lex_asym _ _ hab] at z; cases z
theorem Crs.short {e : Int} {ws : List Int} {O : List (List Int)} (c : Crs e ws O) (h : L2.WOk ws) (h12 : e ≤ 12) : ∀ r ∈ O, r.length ≤ 6 := fun r hr => by
  obtain ⟨a, b⟩ := (c.mem r).mp hr
  have := L2.sum_ge (l := r) (fun w hw => (h.rng w (a w hw)).1)
  (first|lia|omega)
noncomputable def mksT (O : List (List Int)) : T := .lst ((O.map L2.jts).map encR)
theorem mksT_clean (O : List (List Int)) : (mksT O).clean = true := by
  simp only [mksT, T.clean, cl_enc]
@[simp] theorem mks_len (O : List (List Int)) (m : List MO) : bLen m [mksT O] = .ok (.int (O.length : Int)) m := by simp [bLen, items, mksT]
theorem mks_ix {O : List (List Int)} {k : Nat} {a : List Int} (h : O[k]? = some a) (m : List MO) : oIx m (mksT O) (.int (k : Int)) = .ok (encR (L2.jts a)) m :=
  ix_at encR (l := O.map L2.jts) (k := k) (a := L2.jts a) (by rw [List.getElem?_map, h]; rfl) m
@[simp] theorem fo_plan (e : Int) (S : List Int) (n f : Int) (O : List (List Int)) (m : List MO) : fieldsOf m (planT e S n f O) = some (0, [.int e, .lst (S.map .int), .int n, .int f, .lst (O.map encR), mksT O]) := rfl
theorem bl_ws {ws : List Int} (h : ws.length ≤ 1000) (m : List MO) : bList false m [.lst (ws.map .int)] = .ok (.lst (ws.map .int)) m := by
  simp [bList, items, Dn.alloc, most, show ws.length ≤ 100000 by (first|lia|omega)]
theorem tame_small {i : Int} (h : -(10 ^ 30) < i ∧ i < 10 ^ 30) : i.natAbs < tame := by
  have : i.natAbs < 10 ^ 30 := by (first|lia|omega)
  exact Nat.lt_trans this (by decide)
noncomputable def absI (x : Int) : Int := if x < 0 then -x else x
noncomputable def hit1 (x : Int) (b : List Int) (l : Int) : Bool := b.any fun y => decide (absI (x - y) < l)
noncomputable def hit (a b : List Int) (l : Int) : Bool := a.any fun x => hit1 x b l
end Pu
namespace Pu
open Dn
structure SqI (x : T) (r : List Int) : Prop where
  it : ∀ m, items m x = some (r.map .int)
  so : ∀ m, srcOf m x = some ⟨none, r.map .int⟩
  cl : x.clean = true
noncomputable def tupR (r : List Int) : T := .tup (r.map .int)
theorem sq_enc (r : List Int) : SqI (encR r) r := ⟨fun _ => rfl, fun _ => rfl, by simp [encR, T.clean]⟩
theorem sq_lst (r : List Int) : SqI (.lst (r.map .int)) r := sq_enc r
theorem sq_tup (r : List Int) : SqI (tupR r) r := ⟨fun _ => rfl, fun _ => rfl, by simp [tupR, T.clean]⟩
theorem SqI.len {x : T} {r : List Int} (h : SqI x r) (m : List MO) : bLen m [x] = .ok (.int (r.length : Int)) m := by simp [bLen, h.it]
theorem SqI.sum {x : T} {r : List Int} (h : SqI x r) (m : List MO) : bSum m [x] = .ok (.int r.sum) m := by simp [bSum, h.it]
theorem SqI.list {x : T} {r : List Int} (h : SqI x r) (hl : r.length ≤ 100000) (m : List MO) : bList false m [x] = .ok (encR r) m := by simp [bList, h.it, Dn.alloc, most, hl, encR]
theorem SqI.ix {x : T} {r : List Int} (h : SqI x r) {k : Nat} {a : Int} (hk : r[k]? = some a) (m : List MO) : oIx m x (.int (k : Int)) = .ok (.int a) m := by
  have e := ix_at T.int hk m
  have z : items m (.lst (r.map T.int)) = some (r.map T.int) := rfl
  unfold oIx at e ⊢
  rw [z] at e
  rw [h.it]
  exact e
theorem shifts_ints (n : Nat) : ∀ r : List Int, T.shifts n (r.map .int) = r.map .int
  | [] => rfl
  | x :: r => by rw [List.map_cons, T.shifts, T.shift, shifts_ints n r]
theorem forD_until {α β : Type} {src : Src} {ks : List Nat} {g : DG} {b : DS} {t : T} {m : List MO} (hk : src.k = none) (enc : α → T) (p : α → Bool) (st : β → Dn.Env) (step : β → α → β)
    (h : ∀ s a, if p a then (g (enc a) (st s)).then b = .ret t m else ∃ ρ', (g (enc a) (st s)).then b = .go ρ' ∧ kill ks ρ' = st (step s a)) :
    ∀ (l : List α) (s : β), forD src ks g b (l.map enc) (st s) = if l.any p then .ret t m else .go (st (l.foldl step s))
  | [], s => by simp [forD, Src.fits, hk]
  | a :: r, s => by
    have ha := h s a
    simp only [List.map_cons, forD, Src.fits, hk, if_true, List.any_cons, List.foldl_cons]
    by_cases hp : p a = true
    · rw [if_pos hp] at ha
      rw [ha]; simp [hp]
    · rw [if_neg hp] at ha
      obtain ⟨ρ', e, k⟩ := ha
      have hp : p a = false := by simpa using hp
      simp only [e, k, hp, Bool.false_or]
      exact forD_until hk enc p st step h r (step s a)
theorem beq_enc (a b : List Int) : T.beq (encR a) (encR b) = decide (a = b) := by
  rw [Bool.eq_iff_iff, T.beq_iff, decide_eq_true_eq]
  constructor
  · intro h
    have := (T.lst.inj h)
    exact (List.map_inj_right (fun x y h => T.int.inj h)).mp this
  · rintro rfl; rfl
theorem akin_enc (n : Nat) (a b : List Int) : T.akin (n + 1) (encR a) (encR b) = true := by
  show ((a.map T.int).zip (b.map T.int)).all (fun p => T.akin n p.1 p.2) = true
  rw [List.all_eq_true]
  rintro ⟨x, y⟩ h
  obtain ⟨h1, h2⟩ := List.of_mem_zip h
  obtain ⟨i, _, rfl⟩ := List.mem_map.mp h1
  obtain ⟨j, _, rfl⟩ := List.mem_map.mp h2
  cases n <;> rfl
theorem index_rows {O : List (List Int)} {r : List Int} {k : Nat} (h : O.findIdx? (fun x => decide (x = r)) = some k) (m : List MO) : mIndex m (.lst (O.map encR)) [encR r] = .ok (.int (k : Int)) m := by
  have h1 : ((O.map encR).all fun t => T.akin 8 t (deref m (encR r))) = true := by
    rw [List.all_map, List.all_eq_true]
    intro x _
    exact akin_enc 7 x r
  have h2 : (O.map encR).findIdx? (fun t => T.beq t (deref m (encR r))) = some k := by
    rw [List.findIdx?_map, ← h]
    congr 1
    funext x
    exact beq_enc x r
  simp only [mIndex, litems, h1, if_true, h2]
theorem find_of_mem {O : List (List Int)} {r : List Int} (h : r ∈ O) : ∃ k, O.findIdx? (fun x => decide (x = r)) = some k ∧ O[k]? = some r := by
  have : (O.findIdx? (fun x => decide (x = r))).isSome = true := by
    rw [List.findIdx?_isSome, List.any_eq_true]
    exact ⟨r, h, by simp⟩
  obtain ⟨k, hk⟩ := Option.isSome_iff_exists.mp this
  obtain ⟨hl, hp, _⟩ := List.findIdx?_eq_some_iff_getElem.mp hk
  exact ⟨k, hk, by rw [List.getElem?_eq_getElem hl]; simpa using hp⟩
theorem find_at {O : List (List Int)} (nd : O.Nodup) {k : Nat} {r : List Int} (h : O[k]? = some r) : O.findIdx? (fun x => decide (x = r)) = some k := by
  obtain ⟨j, h1, h2⟩ := find_of_mem (List.mem_of_getElem? h)
  have hj := (List.getElem?_eq_some_iff.mp h2).1
  have hk := (List.getElem?_eq_some_iff.mp h).1
  have : j = k := (List.getElem?_inj hj nd).mp (h2.trans h.symm)
  rw [← this]; exact h1
theorem Crs.nd {e : Int} {ws : List Int} {O : List (List Int)} (c : Crs e ws O) : O.Nodup := by
  refine c.srt.imp fun {a b} hab z => ?_
  rw [z, lex_irr] at hab; cases hab
theorem Crs.nd_jts {e : Int} {ws : List Int} {O : List (List Int)} (c : Crs e ws O) : (O.map L2.jts).Nodup := by
  unfold List.Nodup
  rw [List.pairwise_map]
  refine c.srt.imp fun {a b} hab z => ?_
  rw [z, lex_irr] at hab; cases hab
noncomputable def flr (e : Int) (ws r : List Int) : Bool := decide ((∀ w ∈ r, w ∈ ws) ∧ r.sum = e)
theorem row_back {r : List Int} (h : r ≠ []) {e : Int} (hs : r.sum = e) (k : Nat) (hk : k < r.length) : (([0] ++ L2.jts r ++ [e])[k + 1]?).getD 0 - (([0] ++ L2.jts r ++ [e])[k]?).getD 0 = r[k] := by
  have e1 : [0] ++ L2.jts r ++ [e] = 0 :: L2.sums 0 r := by
    rw [← jts_whole h, hs]; simp
  rw [e1]
  have : ∀ (p : Int) (r : List Int) (k : Nat) (hk : k < r.length), (((p :: L2.sums p r)[k + 1]?).getD 0) - (((p :: L2.sums p r)[k]?).getD 0) = r[k] := by
    intro p r
    induction r generalizing p with
    | nil => intro k hk; simp at hk
    | cons x r ih =>
      intro k hk
      cases k with
      | zero =>
        show (((p + x) :: L2.sums (p + x) r)[0]?).getD 0 - p = x
        simp; (first|lia|omega)
      | succ k =>
        have := ih (p + x) k (by simpa using hk)
        simpa [L2.sums] using this
  exact this 0 r k hk
end Pu
namespace Pu
open Dn
end Pu
set_option maxHeartbeats 4000000
noncomputable section
namespace Tx
open Dn Pu
noncomputable def is_NotFilled : List (Nat × Bool) := [(51, false), (52, false), (53, true)]
noncomputable def is_ValueError : List (Nat × Bool) := [(51, true), (52, true), (53, true)]
noncomputable def is_UnknownCourse : List (Nat × Bool) := [(51, false), (52, true), (53, false)]
noncomputable def d_law_at : DS := (sSeq (sIf (dTest (dOp oLt (dVar 1) (dCB bLen (dCons (dVar 0) dNil)))) (sRet (dOp oIx (dVar 0) (dVar 1))) sNext)
    (sRet (dC (.int 0))))
noncomputable def F_law_at : Fn := runD 2 d_law_at
theorem r_law_at (ns : List Int) (k : Int) (hk : 0 ≤ k) (m : List MO) : callP F_law_at m [.scr (ns.map .int), .int k] = .ok (.int (L2.cell ns k)) m := by
  refine callP_of (t := .int (L2.cell ns k)) (m' := []) (by simp [T.cleans, T.clean]) ?_ (reify_clean rfl)
  unfold F_law_at runD d_law_at L2.cell
  by_cases h : k < ns.length
  · have e : atD (ns.map T.int) k = some (.int (ns.getD k.toNat 0)) := by
      rw [atD_in (by (first|lia|omega)) (by simpa using h), List.getElem?_map, List.getElem?_eq_getElem (by (first|lia|omega)), List.getD_eq_getElem?_getD, List.getElem?_eq_getElem (by (first|lia|omega))]; rfl
    simp [bLen, items, oIx, h, e]
  · simp [bLen, items, oIx, h, List.getElem?_eq_none (show ns.length ≤ k.toNat by (first|lia|omega))]
noncomputable def d_law_menu : DS := (sSeq (sAsg (dLst false (dIntss [[12, 2, 3, 4, 1, 1], [12, 2, 3, 6, 1, 1], [12, 2, 3, 5, 1, 1], [10, 2, 3, 5, 1, 1]])) (gName 1))
    (sSeq (sAsg (dOp (oAdd false) (dVar 1) (dLst false (dIntss [[11, 2, 3, 8, 1, 1], [9, 2, 3, 6, 1, 1], [12, 2, 4, 8, 2, 2], [10, 2, 5, 8, 3, 3]]))) (gName 1))
    (sSeq (sAsg (dOp (oAdd false) (dVar 1) (dLst false (dIntss [[10, 3, 5, 7, 2, 2], [11, 2, 4, 7, 1, 2], [9, 2, 4, 5, 1, 2], [10, 2, 3, 5, 1, 2]]))) (gName 1))
    (sSeq (sAsg (dOp (oAdd false) (dVar 1) (dLst false (dIntss [[12, 2, 3, 6, 1, 2], [12, 3, 4, 6, 1, 2], [11, 2, 5, 6, 1, 2], [8, 2, 4, 6, 2, 3]]))) (gName 1))
    (sSeq (sAsg (dOp (oAdd false) (dVar 1) (dLst false (dIntss [[10, 2, 3, 4, 1, 2], [12, 2, 3, 6, 2, 1], [8, 2, 3, 8, 1, 1], [8, 2, 4, 8, 2, 1]]))) (gName 1))
    (sSeq (sAsg (dOp (oAdd false) (dVar 1) (dLst false (dIntss [[6, 2, 4, 6, 1, 3], [7, 2, 3, 7, 2, 2]]))) (gName 1))
    (sRet (dOp oIx (dVar 1) (dOp oMod (dVar 0) (dC (.int 22)))))))))))
noncomputable def F_law_menu : Fn := runD 2 d_law_menu
noncomputable def menuR : List (List Int) :=
  [[12, 2, 3, 4, 1, 1], [12, 2, 3, 6, 1, 1],
   [12, 2, 3, 5, 1, 1], [10, 2, 3, 5, 1, 1],
   [11, 2, 3, 8, 1, 1], [9, 2, 3, 6, 1, 1],
   [12, 2, 4, 8, 2, 2], [10, 2, 5, 8, 3, 3],
   [10, 3, 5, 7, 2, 2], [11, 2, 4, 7, 1, 2],
   [9, 2, 4, 5, 1, 2], [10, 2, 3, 5, 1, 2],
   [12, 2, 3, 6, 1, 2], [12, 3, 4, 6, 1, 2],
   [11, 2, 5, 6, 1, 2], [8, 2, 4, 6, 2, 3],
   [10, 2, 3, 4, 1, 2], [12, 2, 3, 6, 2, 1],
   [8, 2, 3, 8, 1, 1], [8, 2, 4, 8, 2, 1],
   [6, 2, 4, 6, 1, 3], [7, 2, 3, 7, 2, 2]]
theorem r_law_menu (k : Int) (m : List MO) : ∃ row, row ∈ menuR ∧ callP F_law_menu m [.int k] = .ok (.lst (row.map .int)) m := by
  have h0 : 0 ≤ k % 22 := Int.emod_nonneg _ (by decide)
  have h1 : k % 22 < 22 := Int.emod_lt_of_pos _ (by decide)
  have hl : (k % 22).toNat < menuR.length := by show (k % 22).toNat < 22; (first|lia|omega)
  refine ⟨menuR[(k % 22).toNat], List.getElem_mem hl, callP_of (t := .lst (menuR[(k % 22).toNat].map .int)) (m' := []) rfl ?_ (reify_clean (by simp [T.clean]))⟩
  have e : atD (menuR.map fun r => T.lst (r.map T.int)) (k % 22) = some (.lst (menuR[(k % 22).toNat].map .int)) := by
    rw [atD_in h0 (by simpa [menuR] using h1), List.getElem?_map, List.getElem?_eq_getElem hl]; rfl
  have e2 : oIx [] (T.lst (menuR.map fun r => T.lst (r.map T.int))) (.int (k % 22)) = .ok (.lst (menuR[(k % 22).toNat].map .int)) [] := by simp [oIx, items, e]
  have e3 : F_law_menu [.int k] [] = match oIx [] (T.lst (menuR.map fun r => T.lst (r.map T.int))) (.int (k % 22)) with
    | .ok t m => R.ok t m
    | .exc c m => .exc c m
    | .bad => .bad := by
    show (match sOf (oIx [] (T.lst (menuR.map fun r => T.lst (r.map T.int))) (.int (k % 22))) _ fun t m => RS.ret t m with
    | .ret t m => R.ok t m
    | .go ρ => .ok .non ρ.ms
    | .exc c ρ => .exc c ρ.ms
    | _ => .bad) = _
    cases oIx [] (T.lst (menuR.map fun r => T.lst (r.map T.int))) (.int (k % 22)) <;> rfl
  rw [e3, e2]
noncomputable def d_law_measures_b1 : DS := (sSeq (sAsg (dCB (callP F_law_at) (dCons (dVar 0) (dCons (dVar 4) dNil))) (gName 5))
    (sIf (dAnd (dTest (dOp oGt (dOp oMod (dVar 5) (dC (.int 4))) (dC (.int 0)))) (dTest (dOp (oIn true) (dOp (oAdd false) (dC (.int 2)) (dOp oMod (dOp oDiv (dVar 5) (dC (.int 4))) (dC (.int 7)))) (dVar 3)))) (sExpr (dMethL mAppend (dVar 3) (dCons (dOp (oAdd false) (dC (.int 2)) (dOp oMod (dOp oDiv (dVar 5) (dC (.int 4))) (dC (.int 7)))) dNil))) sNext))
noncomputable def d_law_measures : DS := (sSeq (sAsg (dCB (callP F_law_at) (dCons (dVar 0) (dCons (dC (.int 0)) dNil))) (gName 1))
    (sSeq (sAsg (dCB (callP F_law_menu) (dCons (dOp oDiv (dVar 1) (dC (.int 3))) dNil)) (gName 2))
    (sSeq (sIf (dTest (dOp (oEq false) (dOp oMod (dVar 1) (dC (.int 3))) (dC (.int 1)))) (sRet (dTup (dCons (dOp oIx (dVar 2) (dC (.int 0))) (dCons (dSl false (dVar 2) (pSome (dC (.int 1))) (pSome (dC (.int 4)))) (dCons (dOp oIx (dVar 2) (dC (.int 4))) (dCons (dOp oIx (dVar 2) (dC (.int 5))) dNil)))))) sNext)
    (sSeq (sAsg (dLst true (dCons (dOp (oAdd false) (dC (.int 2)) (dOp oMod (dCB (callP F_law_at) (dCons (dVar 0) (dCons (dC (.int 1)) dNil))) (dC (.int 7)))) dNil)) (gName 3))
    (sSeq (sFor (iSeq (dLst false (dCons (dC (.int 2)) (dCons (dC (.int 3)) dNil)))) [4, 5] (gName 4) (d_law_measures_b1))
    (sSeq (sAsg (dOp (oAdd false) (dC (.int 5)) (dOp oMod (dCB (callP F_law_at) (dCons (dVar 0) (dCons (dC (.int 4)) dNil))) (dC (.int 8)))) (gName 6))
    (sSeq (sIf (dAnd (dTest (dOp (oEq false) (dOp oMod (dVar 1) (dC (.int 3))) (dC (.int 2)))) (dAnd (dTest (dOp (oEq false) (dOp oMod (dOp oDiv (dVar 1) (dC (.int 3))) (dC (.int 4))) (dC (.int 1)))) (dAnd (dTest (dOp oLt (dC (.int 1)) (dOp oSub (dVar 6) (dOp oIx (dVar 3) (dC (.int 0)))))) (dTest (dOp oLt (dOp oSub (dVar 6) (dOp oIx (dVar 3) (dC (.int 0)))) (dC (.int 9))))))) (sAsg (dCB (bSortSet2 true) (dCons (dLst false (dCons (dOp oIx (dVar 3) (dC (.int 0))) (dCons (dOp oSub (dVar 6) (dOp oIx (dVar 3) (dC (.int 0)))) dNil))) dNil)) (gName 3)) (sIf (dTest (dOp (oEq false) (dOp oMod (dVar 1) (dC (.int 3))) (dC (.int 2)))) (sRet (dTup (dCons (dVar 6) (dCons (dVar 3) (dCons (dOp (oAdd false) (dC (.int 1)) (dOp oMod (dCB (callP F_law_at) (dCons (dVar 0) (dCons (dC (.int 5)) dNil))) (dC (.int 2)))) (dCons (dOp (oAdd false) (dC (.int 1)) (dOp oMod (dCB (callP F_law_at) (dCons (dVar 0) (dCons (dC (.int 6)) dNil))) (dC (.int 2)))) dNil)))))) (sAsg (dOp (oAdd false) (dC (.int 1)) (dOp oMod (dCB (callP F_law_at) (dCons (dVar 0) (dCons (dC (.int 4)) dNil))) (dC (.int 12)))) (gName 6))))
    (sRet (dTup (dCons (dVar 6) (dCons (dVar 3) (dCons (dOp (oAdd false) (dC (.int 1)) (dOp oMod (dCB (callP F_law_at) (dCons (dVar 0) (dCons (dC (.int 5)) dNil))) (dC (.int 6)))) (dCons (dOp (oAdd false) (dC (.int 1)) (dOp oMod (dCB (callP F_law_at) (dCons (dVar 0) (dCons (dC (.int 6)) dNil))) (dC (.int 6)))) dNil)))))))))))))
noncomputable def F_law_measures : Fn := runD 7 d_law_measures
theorem menuR_ok : ∀ row ∈ menuR, ∃ e a b c n f : Int, row = [e, a, b, c, n, f] ∧ 1 ≤ e ∧ e ≤ 12 ∧ (2 ≤ a ∧ a ≤ 8) ∧ (2 ≤ b ∧ b ≤ 8) ∧ (2 ≤ c ∧ c ≤ 8) ∧ a ≠ b ∧ a ≠ c ∧ b ≠ c ∧ 1 ≤ n ∧ n ≤ 6 ∧ 1 ≤ f ∧ f ≤ 6 := by
  intro row h
  simp only [menuR, List.mem_cons, List.not_mem_nil, or_false] at h
  rcases h with rfl | rfl | rfl | rfl | rfl | rfl | rfl | rfl | rfl | rfl | rfl | rfl | rfl | rfl | rfl | rfl | rfl | rfl | rfl | rfl | rfl | rfl
  all_goals exact ⟨_, _, _, _, _, _, rfl, by decide⟩
noncomputable def wStep (ws : List Int) (c : Int) : List Int := if 0 < c % 4 ∧ ¬ (2 + c / 4 % 7) ∈ ws then ws ++ [2 + c / 4 % 7] else ws
structure WPre (w : Int) (ws : List Int) (n : Nat) : Prop where
  hd : ws[0]? = some w
  nd : ws.Nodup
  rng : ∀ x ∈ ws, 2 ≤ x ∧ x ≤ 8
  len : ws.length ≤ n
theorem WPre.step {w : Int} {ws : List Int} {n : Nat} (h : WPre w ws n) (c : Int) : WPre w (wStep ws c) (n + 1) := by
  unfold wStep
  split
  · rename_i hc
    have h0 := Int.emod_nonneg (c / 4) (show (7 : Int) ≠ 0 by decide)
    have h1 := Int.emod_lt_of_pos (c / 4) (show (0 : Int) < 7 by decide)
    refine ⟨?_, ?_, fun x hx => ?_, by simp; exact h.len⟩
    · rw [List.getElem?_append_left (List.getElem?_eq_some_iff.mp h.hd).1]; exact h.hd
    · rw [List.nodup_append]
      exact ⟨h.nd, by simp, fun a ha b hb e => hc.2 (by rw [List.mem_singleton.mp hb] at e; rw [← e]; exact ha)⟩
    · rcases List.mem_append.mp hx with z | z
      · exact h.rng x z
      · rw [List.mem_singleton.mp z]; (first|lia|omega)
  · exact ⟨h.hd, h.nd, h.rng, Nat.le_succ_of_le h.len⟩
theorem meas_turn (ns ws : List Int) (k : Int) (hk : 0 ≤ k) (p r : Option T) (hl : ws.length < 10) :
    ((gName 4) (.int k) ⟨[some (.scr (ns.map .int)), p, r, some (.cel 0), none, none, none], [.lst (ws.map .int)]⟩).then d_law_measures_b1
      = .go ⟨[some (.scr (ns.map .int)), p, r, some (.cel 0), some (.int k), some (.int (L2.cell ns k)), none], [.lst ((wStep ws (L2.cell ns k)).map .int)]⟩ := by
  unfold d_law_measures_b1
  simp [r_law_at ns k hk]
  by_cases h : 0 < L2.cell ns k % 4
  · have hin := o_inI true [.lst (ws.map .int)] (2 + L2.cell ns k / 4 % 7) (.cel 0) ws rfl
    simp [h, hin]
    by_cases h2 : (2 + L2.cell ns k / 4 % 7) ∈ ws
    · simp [h2, wStep]
    · simp [h2, wStep, h, litems, mAppend, most, show ws.length < 100000 by (first|lia|omega)]
  · simp [h, wStep]
theorem r_law_measures (ns : List Int) (m : List MO) : ∃ e ws n f, MOk e ws n f ∧ callP F_law_measures m [.scr (ns.map .int)] = .ok (.tup [.int e, .lst (ws.map .int), .int n, .int f]) m := by
  obtain ⟨row, hrow, hmenu⟩ := r_law_menu (L2.cell ns 0 / 3) []
  obtain ⟨e, a, b, c, n, f, rfl, q⟩ := menuR_ok row hrow
  by_cases h1 : L2.cell ns 0 % 3 = 1
  · refine ⟨e, [a, b, c], n, f, ⟨⟨by simp, by simp, by simp; (first|lia|omega), by simp; (first|lia|omega)⟩, by (first|lia|omega), by (first|lia|omega), by (first|lia|omega), by (first|lia|omega), by (first|lia|omega), by (first|lia|omega)⟩, callP_of (t := .tup [.int e, .lst [.int a, .int b, .int c], .int n, .int f]) (m' := []) (by simp [T.cleans, T.clean]) ?_ (reify_clean (by simp [T.clean, T.cleans]))⟩
    unfold F_law_measures runD d_law_measures
    simp [r_law_at, hmenu, h1, oIx, items, atD, ixD, oCut, litems, cut, sIx, Dn.alloc, most]
  · have hm0 := Int.emod_nonneg (L2.cell ns 1) (show (7 : Int) ≠ 0 by decide)
    have hm1 := Int.emod_lt_of_pos (L2.cell ns 1) (show (0 : Int) < 7 by decide)
    have p0 : WPre (2 + L2.cell ns 1 % 7) [2 + L2.cell ns 1 % 7] 1 := ⟨rfl, by simp, by simp; (first|lia|omega), by simp⟩
    have p2 := (p0.step (L2.cell ns 2)).step (L2.cell ns 3)
    have hl1 := (p0.step (L2.cell ns 2)).len
    have t1 := meas_turn ns [2 + L2.cell ns 1 % 7] 2 (by decide) (some (.int (L2.cell ns 0))) (some (.lst ([e, a, b, c, n, f].map .int))) (by simp)
    have t2 := meas_turn ns (wStep [2 + L2.cell ns 1 % 7] (L2.cell ns 2)) 3 (by decide) (some (.int (L2.cell ns 0))) (some (.lst ([e, a, b, c, n, f].map .int))) (by (first|lia|omega))
    generalize wStep (wStep [2 + L2.cell ns 1 % 7] (L2.cell ns 2)) (L2.cell ns 3) = ws at p2 t2
    have g0 : atD (ws.map T.int) 0 = some (.int (2 + L2.cell ns 1 % 7)) := by
      have := (List.getElem?_eq_some_iff.mp p2.hd).1
      rw [atD_in (by decide) (by simp; (first|lia|omega)), List.getElem?_map]
      show (ws[0]?).map T.int = _
      rw [p2.hd]; rfl
    have wok : L2.WOk ws := ⟨by have := (List.getElem?_eq_some_iff.mp p2.hd).1; (first|lia|omega), p2.len, p2.rng, p2.nd⟩
    have ix0 : ∀ m', oIx (MO.lst (ws.map .int) :: m') (.cel 0) (.int 0) = .ok (.int (2 + L2.cell ns 1 % 7)) (MO.lst (ws.map .int) :: m') := fun m' => by simp [oIx, items, g0]
    have b5 := Int.emod_nonneg (L2.cell ns 5) (show (6 : Int) ≠ 0 by decide)
    have b5' := Int.emod_lt_of_pos (L2.cell ns 5) (show (0 : Int) < 6 by decide)
    have b6 := Int.emod_nonneg (L2.cell ns 6) (show (6 : Int) ≠ 0 by decide)
    have b6' := Int.emod_lt_of_pos (L2.cell ns 6) (show (0 : Int) < 6 by decide)
    have d5 := Int.emod_nonneg (L2.cell ns 5) (show (2 : Int) ≠ 0 by decide)
    have d5' := Int.emod_lt_of_pos (L2.cell ns 5) (show (0 : Int) < 2 by decide)
    have d6 := Int.emod_nonneg (L2.cell ns 6) (show (2 : Int) ≠ 0 by decide)
    have d6' := Int.emod_lt_of_pos (L2.cell ns 6) (show (0 : Int) < 2 by decide)
    have b4 := Int.emod_nonneg (L2.cell ns 4) (show (8 : Int) ≠ 0 by decide)
    have b4' := Int.emod_lt_of_pos (L2.cell ns 4) (show (0 : Int) < 8 by decide)
    have c4 := Int.emod_nonneg (L2.cell ns 4) (show (12 : Int) ≠ 0 by decide)
    have c4' := Int.emod_lt_of_pos (L2.cell ns 4) (show (0 : Int) < 12 by decide)
    have hcl : T.cleans [T.scr (ns.map .int)] = true := by simp [T.cleans, T.clean]
    have loop : ∀ (g : Src) (m' : List MO), g.k = none → forD g [4, 5] (gName 4) d_law_measures_b1 [.int 2, .int 3] ⟨[some (.scr (ns.map .int)), some (.int (L2.cell ns 0)), some (.lst ([e, a, b, c, n, f].map .int)), some (.cel 0), none, none, none], [.lst ([2 + L2.cell ns 1 % 7].map .int)]⟩
        = .go ⟨[some (.scr (ns.map .int)), some (.int (L2.cell ns 0)), some (.lst ([e, a, b, c, n, f].map .int)), some (.cel 0), none, none, none], [.lst (ws.map .int)]⟩ := by
      intro g m' hg
      simp only [forD, Src.fits, hg, if_true, t1, kill_eq, List.foldl, List.set]
      simp only [t2, kill_eq, List.foldl, List.set]
    have loop2 := loop ⟨none, [.int 2, .int 3]⟩ [] rfl
    simp only [List.map_cons, List.map_nil] at loop2
    by_cases h2 : L2.cell ns 0 % 3 = 2
    · by_cases h3 : L2.cell ns 0 / 3 % 4 = 1 ∧ 1 < 5 + L2.cell ns 4 % 8 - (2 + L2.cell ns 1 % 7) ∧ 5 + L2.cell ns 4 % 8 - (2 + L2.cell ns 1 % 7) < 9
      · obtain ⟨h3, h4, h5⟩ := h3
        let u := 2 + L2.cell ns 1 % 7
        let v := 5 + L2.cell ns 4 % 8 - (2 + L2.cell ns 1 % 7)
        refine ⟨5 + L2.cell ns 4 % 8, if u = v then [u] else if u < v then [u, v] else [v, u], 1 + L2.cell ns 5 % 6, 1 + L2.cell ns 6 % 6, ⟨?_, by (first|lia|omega), by (first|lia|omega), by (first|lia|omega), by (first|lia|omega), by (first|lia|omega), by (first|lia|omega)⟩, ?_⟩
        · have hu : 2 ≤ u ∧ u ≤ 8 := ⟨by show 2 ≤ 2 + L2.cell ns 1 % 7; (first|lia|omega), by show 2 + L2.cell ns 1 % 7 ≤ 8; (first|lia|omega)⟩
          have hv : 2 ≤ v ∧ v ≤ 8 := ⟨by show 2 ≤ 5 + L2.cell ns 4 % 8 - (2 + L2.cell ns 1 % 7); (first|lia|omega), by show 5 + L2.cell ns 4 % 8 - (2 + L2.cell ns 1 % 7) ≤ 8; (first|lia|omega)⟩
          split
          · exact ⟨by simp, by simp, by simp; exact hu, by simp⟩
          · split
            · exact ⟨by simp, by simp, by simp; exact ⟨hu, hv⟩, by simp; assumption⟩
            · exact ⟨by simp, by simp, by simp; exact ⟨hv, hu⟩, by simp; intro h; rename_i h' _; exact h' h.symm⟩
        · refine callP_of (t := .tup [.int (5 + L2.cell ns 4 % 8), .cel 1, .int (1 + L2.cell ns 5 % 6), .int (1 + L2.cell ns 6 % 6)]) (m' := [.lst (ws.map .int), .lst ((if u = v then [u] else if u < v then [u, v] else [v, u]).map .int)]) hcl ?_ (reify_meas _ _ _ rfl)
          unfold F_law_measures runD d_law_measures
          have bs : ∀ m', bSortSet2 true m' [.lst [.int u, .int v]] = .ok (.cel m'.length) (m' ++ [.lst ((if u = v then [u] else if u < v then [u, v] else [v, u]).map .int)]) := fun m' => by
            have hu : 2 ≤ u ∧ u ≤ 8 := ⟨by show 2 ≤ 2 + L2.cell ns 1 % 7; (first|lia|omega), by show 2 + L2.cell ns 1 % 7 ≤ 8; (first|lia|omega)⟩
            have hv : 2 ≤ v ∧ v ≤ 8 := ⟨by show 2 ≤ 5 + L2.cell ns 4 % 8 - (2 + L2.cell ns 1 % 7); (first|lia|omega), by show 5 + L2.cell ns 4 % 8 - (2 + L2.cell ns 1 % 7) ≤ 8; (first|lia|omega)⟩
            simp only [bSortSet2, litems, Option.bind_some, intsOf, Option.map_some]
            rw [if_pos ⟨hu.1, hu.2, hv.1, hv.2⟩]
            simp only [Dn.alloc, if_true]
            rw [if_pos]
            rw [List.length_map]
            split
            · show 1 ≤ most; decide
            · split <;> (show 2 ≤ most; decide)
          simp [r_law_at, hmenu, h1, Dn.alloc, most, srcOf, loop2, h2, h3, ix0, h4, h5]
          have bs' := bs [.lst (ws.map .int)]
          simp only [u, v] at bs'
          simp [bs', most, r_law_at, u, v]
      · refine ⟨5 + L2.cell ns 4 % 8, ws, 1 + L2.cell ns 5 % 2, 1 + L2.cell ns 6 % 2, ⟨wok, by (first|lia|omega), by (first|lia|omega), by (first|lia|omega), by (first|lia|omega), by (first|lia|omega), by (first|lia|omega)⟩, ?_⟩
        refine callP_of (t := .tup [.int (5 + L2.cell ns 4 % 8), .cel 0, .int (1 + L2.cell ns 5 % 2), .int (1 + L2.cell ns 6 % 2)]) (m' := [.lst (ws.map .int)]) hcl ?_ (reify_meas _ _ _ rfl)
        unfold F_law_measures runD d_law_measures
        simp [r_law_at, hmenu, h1, Dn.alloc, most, srcOf, loop2, h2, ix0]
        by_cases k3 : L2.cell ns 0 / 3 % 4 = 1
        · by_cases k4 : 1 < 5 + L2.cell ns 4 % 8 - (2 + L2.cell ns 1 % 7)
          · have k5 : ¬ 5 + L2.cell ns 4 % 8 - (2 + L2.cell ns 1 % 7) < 9 := fun z => h3 ⟨k3, k4, z⟩
            simp [k3, k4, k5, ix0, most]
          · simp [k3, k4, ix0, most]
        · simp [k3, most]
    · refine ⟨1 + L2.cell ns 4 % 12, ws, 1 + L2.cell ns 5 % 6, 1 + L2.cell ns 6 % 6, ⟨wok, by (first|lia|omega), by (first|lia|omega), by (first|lia|omega), by (first|lia|omega), by (first|lia|omega), by (first|lia|omega)⟩, ?_⟩
      refine callP_of (t := .tup [.int (1 + L2.cell ns 4 % 12), .cel 0, .int (1 + L2.cell ns 5 % 6), .int (1 + L2.cell ns 6 % 6)]) (m' := [.lst (ws.map .int)]) hcl ?_ (reify_meas _ _ _ rfl)
      unfold F_law_measures runD d_law_measures
      simp [r_law_at, hmenu, h1, Dn.alloc, most, srcOf, loop2, h2]
noncomputable def d_check_eaves : DS := (sIf (dNot (dTest (dChain oLe oLe (dC (.int 1)) (dVar 0) (dC (.int 12))))) (sRaise 51 [0]) sNext)
noncomputable def F_check_eaves : Fn := runD 1 d_check_eaves
theorem r_check_eaves {e : Int} (h1 : 1 ≤ e) (h2 : e ≤ 12) (m : List MO) : callP F_check_eaves m [.int e] = .ok .non m := by
  refine callP_of (t := .non) (m' := []) (by simp [T.cleans, T.clean]) ?_ (reify_clean rfl)
  unfold F_check_eaves runD d_check_eaves
  simp [h1, h2]
noncomputable def d_check_widths_b1 : DS := (sIf (dNot (dTest (dChain oLe oLe (dC (.int 2)) (dVar 1) (dC (.int 8))))) (sRaise 51 [1]) sNext)
noncomputable def d_check_widths : DS := (sSeq (sIf (dNot (dTest (dChain oLe oLe (dC (.int 1)) (dCB bLen (dCons (dVar 0) dNil)) (dC (.int 3))))) (sRaise 51 []) sNext)
    (sSeq (sFor (iSeq (dVar 0)) [1] (gName 1) (d_check_widths_b1))
    (sIf (dTest (dOp oLt (dCB bLenSet (dCons (dVar 0) dNil)) (dCB bLen (dCons (dVar 0) dNil)))) (sRaise 51 []) sNext)))
noncomputable def F_check_widths : Fn := runD 2 d_check_widths
theorem nub_nodup : ∀ {l : List Int}, l.Nodup → nub l = l
  | [], _ => rfl
  | x :: r, h => by
    rw [List.nodup_cons] at h
    rw [nub, if_neg h.1, nub_nodup h.2]
theorem r_check_widths {ws : List Int} (h : L2.WOk ws) (m : List MO) : callP F_check_widths m [.lst (ws.map .int)] = .ok .non m := by
  refine callP_of (t := .non) (m' := []) (by simp [T.cleans, T.clean]) ?_ (reify_clean rfl)
  unfold F_check_widths runD d_check_widths
  have loop := forD_same (src := ⟨none, ws.map .int⟩) (ks := [1]) (g := gName 1) (b := d_check_widths_b1) (ρ := ⟨[some (.lst (ws.map .int)), none], []⟩) rfl T.int ws (fun a ha => by
    have := h.rng a ha
    refine ⟨⟨[some (.lst (ws.map .int)), some (.int a)], []⟩, ?_, rfl⟩
    unfold d_check_widths_b1
    simp [this.1, this.2])
  have h1 := h.one
  have h3 := h.three
  simp [bLen, items, srcOf, loop, bLenSet, litems, nub_nodup h.nd, show 1 ≤ (ws.length : Int) by (first|lia|omega), show (ws.length : Int) ≤ 3 by (first|lia|omega), show ws.length ≤ 1000 by (first|lia|omega)]
noncomputable def d_check_distance : DS := (sIf (dNot (dTest (dChain oLe oLe (dC (.int 1)) (dVar 0) (dC (.int 6))))) (sRaise 51 [0]) sNext)
noncomputable def F_check_distance : Fn := runD 1 d_check_distance
theorem r_check_distance {e : Int} (h1 : 1 ≤ e) (h2 : e ≤ 6) (m : List MO) : callP F_check_distance m [.int e] = .ok .non m := by
  refine callP_of (t := .non) (m' := []) (by simp [T.cleans, T.clean]) ?_ (reify_clean rfl)
  unfold F_check_distance runD d_check_distance
  simp [h1, h2]
noncomputable def d_rows_of_length_b1 (Frec : Fn) : DS := (sExpr (dMethL mAppend (dVar 2) (dCons (dOp (oAdd false) (dLst false (dCons (dVar 3) dNil)) (dVar 4)) dNil)))
noncomputable def d_rows_of_length_b2 (Frec : Fn) : DS := (sIf (dTest (dOp oLe (dVar 3) (dVar 0))) (sFor (iSeq (dCB (callP Frec) (dCons (dOp oSub (dVar 0) (dVar 3)) (dCons (dVar 1) dNil)))) [4] (gName 4) (d_rows_of_length_b1 Frec)) sNext)
noncomputable def d_rows_of_length (Frec : Fn) : DS := (sSeq (sIf (dTest (dOp (oEq false) (dVar 0) (dC (.int 0)))) (sRet (dLst false (dCons (dLst false dNil) dNil))) sNext)
    (sSeq (sAsg (dLst true dNil) (gName 2))
    (sSeq (sFor (iSeq (dVar 1)) [3, 4] (gName 3) (d_rows_of_length_b2 Frec))
    (sRet (dVar 2)))))
noncomputable def Fr_rows_of_length : Nat → Fn
  | 0 => fun _ _ => .bad
  | n + 1 => runD 5 (d_rows_of_length (Fr_rows_of_length n))
noncomputable def F_rows_of_length : Fn := Fr_rows_of_length 8
theorem rows_inner (Fr : Fn) (L : Int) (S : List Int) (w : Int) (rs acc : List (List Int)) (hb : acc.length + rs.length ≤ 50000) (hr : ∀ r ∈ rs, r.length < 50000) :
    forD ⟨none, rs.map encR⟩ [4] (gName 4) (d_rows_of_length_b1 Fr) (rs.map encR) ⟨[some (.int L), some (.lst (S.map .int)), some (.cel 0), some (.int w), none], [.lst (acc.map encR)]⟩
      = .go ⟨[some (.int L), some (.lst (S.map .int)), some (.cel 0), some (.int w), none], [.lst ((acc ++ rs.map (w :: ·)).map encR)]⟩ := by
  have := (forD_fold (src := ⟨none, rs.map encR⟩) (ks := [4]) (g := gName 4) (b := d_rows_of_length_b1 Fr) rfl encR (fun s : List (List Int) => ⟨[some (.int L), some (.lst (S.map .int)), some (.cel 0), some (.int w), none], [.lst (s.map encR)]⟩) (fun s r => s ++ [w :: r]) (fun l s => s.length + l.length ≤ 50000 ∧ ∀ r ∈ l, r.length < 50000) (fun s a r i => by
    obtain ⟨i1, i2⟩ := i
    have ha := i2 a (List.mem_cons_self ..)
    refine ⟨⟨by simp at i1 ⊢; (first|lia|omega), fun x hx => i2 x (List.mem_cons_of_mem _ hx)⟩, ⟨[some (.int L), some (.lst (S.map .int)), some (.cel 0), some (.int w), some (encR a)], [.lst ((s ++ [w :: a]).map encR)]⟩, ?_, rfl⟩
    unfold d_rows_of_length_b1
    simp at i1
    simp [Dn.alloc, most, litems, oAdd, encR, mAppend, show s.length < 100000 by (first|lia|omega), show 1 + a.length ≤ 100000 by (first|lia|omega)]) rs acc ⟨hb, hr⟩).1
  rw [this, foldl_flat (fun r => [w :: r]) rs acc, flat_one]
theorem r_rows {S : List Int} (h : L2.WOk S) : ∀ (n : Nat) (L : Int), n ≤ 8 → 0 ≤ L → L < 2 * (n : Int) → ∀ m, callP (Fr_rows_of_length n) m [.int L, .lst (S.map .int)] = .ok (.lst ((rowsN S n L).map encR)) m
  | 0, L, _, h0, h1, m => by (first|lia|omega)
  | n + 1, L, hn, h0, h1, m => by
    have ih := r_rows h n
    by_cases hL : L = 0
    · refine callP_of (t := .lst [.lst []]) (m' := []) (by simp [T.cleans, T.clean]) ?_ ?_
      · unfold Fr_rows_of_length runD d_rows_of_length
        simp [hL, Dn.alloc, most]
      · rw [rowsN, if_pos hL]; exact reify_clean rfl
    · have hf : rowsN S (n + 1) L = S.flatMap fun w => if w ≤ L then (rowsN S n (L - w)).map (w :: ·) else [] := by rw [rowsN, if_neg hL]
      refine callP_of (t := .cel 0) (m' := [.lst ((rowsN S (n + 1) L).map encR)]) (by simp [T.cleans, T.clean]) ?_ (reify_rows 3 rfl)
      have h3 : ∀ L, (rowsN S n L).length ≤ 3 ^ 8 := fun L => Nat.le_trans (rowsN_len h.three n L) (Nat.pow_le_pow_right (by decide) (by (first|lia|omega)))
      have loop := (forD_fold (src := ⟨none, S.map .int⟩) (ks := [3, 4]) (g := gName 3) (b := d_rows_of_length_b2 (Fr_rows_of_length n)) rfl T.int (fun s : List (List Int) => ⟨[some (.int L), some (.lst (S.map .int)), some (.cel 0), none, none], [.lst (s.map encR)]⟩) (fun s w => s ++ (if w ≤ L then (rowsN S n (L - w)).map (w :: ·) else [])) (fun l s => s.length + l.length * 3 ^ 8 ≤ 3 * 3 ^ 8 ∧ ∀ w ∈ l, 2 ≤ w) (fun s a r i => by
        obtain ⟨i1, i2⟩ := i
        have ha := i2 a (List.mem_cons_self ..)
        have hb := h3 (L - a)
        rw [List.length_cons, Nat.succ_mul] at i1
        refine ⟨⟨?_, fun x hx => i2 x (List.mem_cons_of_mem _ hx)⟩, ⟨[some (.int L), some (.lst (S.map .int)), some (.cel 0), some (.int a), none], [.lst ((s ++ (if a ≤ L then (rowsN S n (L - a)).map (a :: ·) else [])).map encR)]⟩, ?_, rfl⟩
        · rw [List.length_append]
          split
          · rw [List.length_map]; (first|lia|omega)
          · simp; (first|lia|omega)
        · unfold d_rows_of_length_b2
          by_cases hle : a ≤ L
          · have ihh := ih (L - a) (by (first|lia|omega)) (by (first|lia|omega)) (by (first|lia|omega))
            have hbb : s.length + (rowsN S n (L - a)).length ≤ 50000 := by (first|lia|omega)
            have inner := rows_inner (Fr_rows_of_length n) L S a (rowsN S n (L - a)) s hbb (fun r hr => by
              have := (mem_rowsN (fun w hw => (h.rng w hw).1) n (L - a) (by (first|lia|omega)) (by (first|lia|omega)) r).mp hr
              have := L2.sum_ge (l := r) (fun w hw => (h.rng w (this.1 w hw)).1)
              (first|lia|omega))
            simp [hle, ihh, srcOf, inner]
          · simp [hle]) S [] ⟨by simp; have := h.three; (first|lia|omega), fun w hw => (h.rng w hw).1⟩).1
      rw [foldl_flat, ← hf] at loop
      unfold Fr_rows_of_length runD d_rows_of_length
      simp [hL, Dn.alloc, most, srcOf]
      simp at loop
      simp [loop]
theorem r_rows_of_length {S : List Int} (h : L2.WOk S) {e : Int} (h1 : 0 ≤ e) (h12 : e ≤ 12) (m : List MO) : callP F_rows_of_length m [.int e, .lst (S.map .int)] = .ok (.lst ((rowsN S 8 e).map encR)) m := r_rows h 8 e (by decide) h1 (by (first|lia|omega)) m
noncomputable def d_joints_b1 : DS := (sSeq (sAsg (dOp (oAdd false) (dVar 2) (dVar 3)) (gName 2))
    (sExpr (dMethL mAppend (dVar 1) (dCons (dVar 2) dNil))))
noncomputable def d_joints : DS := (sSeq (sAsg (dLst true dNil) (gName 1))
    (sSeq (sAsg (dC (.int 0)) (gName 2))
    (sSeq (sFor (iSeq (dSl false (dVar 0) pNone (pSome (dUn oNeg (dC (.int 1)))))) [3] (gName 3) (d_joints_b1))
    (sRet (dVar 1)))))
noncomputable def F_joints : Fn := runD 4 d_joints
theorem fold_sums : ∀ (l : List Int) (fs : List Int) (p : Int), (l.foldl (fun (s : List Int × Int) w => (s.1 ++ [s.2 + w], s.2 + w)) (fs, p)).1 = fs ++ L2.sums p l
  | [], fs, p => by simp [L2.sums]
  | w :: r, fs, p => by
    rw [List.foldl_cons, fold_sums r]
    show fs ++ [p + w] ++ L2.sums (p + w) r = fs ++ ((p + w) :: L2.sums (p + w) r)
    simp
theorem cut_last (r : List Int) : cut (r.map T.int) none (some (-1)) = r.dropLast.map .int := by
  unfold cut sIx
  simp only [show (-1 : Int) < 0 by decide, if_true, List.drop_zero, Nat.sub_zero, List.length_map]
  rw [← List.map_take, List.dropLast_eq_take]
  congr 2
  (first|lia|omega)
theorem f_joints (r : List Int) (hl : r.length < 50000) : ∃ x, F_joints [.lst (r.map .int)] [] = .ok (.cel 0) (.lst ((L2.jts r).map .int) :: x) ∧ x = [] := by
  have loop := (forD_fold (src := ⟨none, r.dropLast.map .int⟩) (ks := [3]) (g := gName 3) (b := d_joints_b1) rfl T.int (fun s : List Int × Int => ⟨[some (.lst (r.map .int)), some (.cel 0), some (.int s.2), none], [.lst (s.1.map .int)]⟩) (fun s w => (s.1 ++ [s.2 + w], s.2 + w)) (fun l s => s.1.length + l.length < 50000) (fun s a t i => by
    simp at i
    refine ⟨by simp; (first|lia|omega), ⟨[some (.lst (r.map .int)), some (.cel 0), some (.int (s.2 + a)), some (.int a)], [.lst ((s.1 ++ [s.2 + a]).map .int)]⟩, ?_, rfl⟩
    unfold d_joints_b1
    simp [litems, mAppend, most, show s.1.length < 100000 by (first|lia|omega)]) r.dropLast ([], 0) (by simp; (first|lia|omega))).1
  refine ⟨[], ?_, rfl⟩
  have e : (r.dropLast.foldl (fun (s : List Int × Int) w => (s.1 ++ [s.2 + w], s.2 + w)) ([], 0)).1 = L2.jts r := by rw [fold_sums]; rfl
  generalize r.dropLast.foldl (fun (s : List Int × Int) w => (s.1 ++ [s.2 + w], s.2 + w)) ([], 0) = z at loop e
  unfold F_joints runD d_joints
  simp at loop
  simp [Dn.alloc, most, oCut, litems, srcOf, cut_last, show r.length - 1 ≤ 100000 by (first|lia|omega), loop, e]
theorem r_joints (r : List Int) (hl : r.length < 50000) (m : List MO) : callP F_joints m [encR r] = .ok (encR (L2.jts r)) m := by
  obtain ⟨x, h, rfl⟩ := f_joints r hl
  exact callP_of (by simp [T.cleans, T.clean, encR]) h (reify_ints 3 rfl)
theorem key_joints (r : List Int) (hl : r.length < 50000) : keyOf F_joints (encR r) = some (L2.jts r) := by
  obtain ⟨x, h, rfl⟩ := f_joints r hl
  have : reify [.lst ((L2.jts r).map .int)] 4 (.cel 0) = some (.lst ((L2.jts r).map .int)) := reify_ints 3 rfl
  unfold keyOf encR
  rw [h]
  simp only [this, iof_ints]
noncomputable def d_Plan___init___e1 : DE := (dCB (callP F_joints) (dCons (dVar 0) dNil))
noncomputable def d_Plan___init__ : DS := (sSeq (sExpr (dCB (callP F_check_eaves) (dCons (dVar 1) dNil)))
    (sSeq (sExpr (dCB (callP F_check_widths) (dCons (dVar 2) dNil)))
    (sSeq (sExpr (dCB (callP F_check_distance) (dCons (dVar 3) dNil)))
    (sSeq (sExpr (dCB (callP F_check_distance) (dCons (dVar 4) dNil)))
    (sSeq (sSetF [(0, 0)] (dVar 0) (dVar 1))
    (sSeq (sSetF [(0, 1)] (dVar 0) (dCB (bSorted false) (dCons (dVar 2) dNil)))
    (sSeq (sSetF [(0, 2)] (dVar 0) (dVar 3))
    (sSeq (sSetF [(0, 3)] (dVar 0) (dVar 4))
    (sSeq (sSetF [(0, 4)] (dVar 0) (dCB (bSortK false F_joints) (dCons (dCB (callP F_rows_of_length) (dCons (dVar 1) (dCons (dFld [(0, 1)] (dVar 0)) dNil))) dNil)))
    (sSetF [(0, 5)] (dVar 0) (dComp false [] (iSeq (dFld [(0, 4)] (dVar 0))) dTrue (d_Plan___init___e1))))))))))))
noncomputable def F_Plan___init__ : Fn := runD 5 d_Plan___init__
theorem keys_of (R : List (List Int)) (h : ∀ r ∈ R, r.length < 50000) : (R.map encR).mapM (keyOf F_joints) = some (R.map L2.jts) := by
  induction R with
  | nil => rfl
  | cons r R ih =>
    have := key_joints r (h r (List.mem_cons_self ..))
    simp only [List.map_cons, List.mapM_cons, this, ih fun x hx => h x (List.mem_cons_of_mem _ hx)]
    rfl
theorem sortK_rows (R : List (List Int)) (h : ∀ r ∈ R, r.length < 50000) (h64 : R.length < 64) (nd : (R.map L2.jts).Nodup) (m : List MO) : bSortK false F_joints m [.lst (R.map encR)] = .ok (.lst ((isort jlt R).map encR)) m := by
  have z : (R.map L2.jts).zip (R.map encR) = R.map fun r => (L2.jts r, encR r) := by
    induction R with
    | nil => rfl
    | cons r R ih => simp only [List.map_cons, List.zip_cons_cons]; rw [ih (fun x hx => h x (List.mem_cons_of_mem _ hx)) (by simp at h64; (first|lia|omega)) (by rw [List.map_cons, List.nodup_cons] at nd; exact nd.2)]
  have s := isort_map (fun r => (L2.jts r, encR r)) (lt := jlt) (lt' := fun a b : List Int × T => lexLt a.1 b.1) (fun _ _ => rfl) R
  have p := (isort_perm jlt R).length_eq
  unfold bSortK
  simp only [litems, cl_enc, Bool.true_and, List.length_map, h64, decide_true, if_true, keys_of R h, nd, z, s, List.map_map]
  unfold Dn.alloc
  simp [most, show (isort jlt R).length ≤ 100000 by (first|lia|omega)]
theorem comp_rows (S : List (Option T) → T → List (Option T)) (src : Src) (hk : src.k = none) (sc : T → List (Option T)) (hs : ∀ t, sc t = [some t]) : ∀ (O : List (List Int)) (acc : List (List Int)) (m : List MO), (∀ r ∈ O, r.length < 50000) → acc.length + O.length < 50000 →
    compD src sc dTrue d_Plan___init___e1 (O.map encR) (acc.map encR) m = .ok ((acc ++ O.map L2.jts).map encR) m
  | [], acc, m, _, _ => by simp [compD, Src.fits, hk]
  | r :: O, acc, m, h, hl => by
    have ih := comp_rows S src hk sc hs O (acc ++ [L2.jts r]) m (fun x hx => h x (List.mem_cons_of_mem _ hx)) (by simp at hl ⊢; (first|lia|omega))
    have j := r_joints r (h r (List.mem_cons_self ..)) m
    simp only [List.length_cons] at hl
    have el : d_Plan___init___e1 ⟨[some (encR r)], m⟩ = .ok (encR (L2.jts r)) m := by
      unfold d_Plan___init___e1
      simp [j]
    simp only [List.map_cons, compD, Src.fits, hk, if_true, hs, dTrue, R.sure_ok, el, List.length_map, most, show acc.length < 100000 by (first|lia|omega)]
    simpa using ih
theorem r_PlanS {e : Int} {ws : List Int} {n f : Int} (h : MOk e ws n f) (m : List MO) : ∃ S O, S.Perm ws ∧ Crs e ws O ∧ makeP 0 F_Plan___init__ m [.int e, .lst (ws.map .int), .int n, .int f] = .ok (planT e S n f O) m := by
  let S := isort (fun a b : Int => decide (a < b)) ws
  have p : S.Perm ws := isort_perm _ _
  have hS := WOk.perm h.w p
  have h1 := h.e1
  have h12 := h.e12
  have few := rowsN_few hS (e := e) (by (first|lia|omega)) h12
  have short : ∀ r ∈ rowsN S 8 e, r.length < 50000 := fun r hr => by
    obtain ⟨a, b⟩ := (mem_rowsN (fun w hw => (hS.rng w hw).1) 8 e (by (first|lia|omega)) (by (first|lia|omega)) r).mp hr
    have := L2.sum_ge (l := r) (fun w hw => (hS.rng w (a w hw)).1)
    (first|lia|omega)
  refine ⟨S, ordL S e, p, ordL_crs h.w p h1 h12, ?_⟩
  have P := isort_perm jlt (rowsN S 8 e)
  have w3 := h.w.three
  have bs : ∀ m, bSorted false m [.lst (ws.map .int)] = .ok (.lst (S.map .int)) m := fun m => by
    have : S.length ≤ 100000 := by rw [p.length_eq]; (first|lia|omega)
    simp [bSorted, litems, Dn.alloc, most, show ws.length < 64 by (first|lia|omega)]
    exact if_pos this
  have rows : ∀ m, callP F_rows_of_length m [.int e, .lst (S.map .int)] = .ok (.lst ((rowsN S 8 e).map encR)) m := r_rows_of_length hS (by (first|lia|omega)) h12
  have srt : ∀ m, bSortK false F_joints m [.lst ((rowsN S 8 e).map encR)] = .ok (.lst ((ordL S e).map encR)) m := fun m => sortK_rows _ short (by (first|lia|omega)) (rowsN_keys hS h1 h12) m
  have ol : (ordL S e).length ≤ 60 := by show (isort jlt (rowsN S 8 e)).length ≤ 60; rw [P.length_eq]; exact few
  have oshort : ∀ r ∈ ordL S e, r.length < 50000 := fun r hr => short r (P.mem_iff.mp hr)
  generalize ordL S e = O at srt ol oshort
  have cmp : ∀ (src : Src) (hk : src.k = none) (loc : List (Option T)) m, compD src (scD [] loc) dTrue d_Plan___init___e1 (O.map encR) [] m = .ok ((O.map L2.jts).map encR) m := fun src hk loc m => by
    have := comp_rows (fun _ t => [some t]) src hk (scD [] loc) (fun t => rfl) O [] m oshort (by simp; (first|lia|omega))
    simpa using this
  have run : F_Plan___init__ (.cel 0 :: [.int e, .lst (ws.map .int), .int n, .int f]) [.ins 0 []] = .ok .non [.ins 0 [.int e, .lst (S.map .int), .int n, .int f, .lst (O.map encR), .lst ((O.map L2.jts).map encR)]] := by
    unfold F_Plan___init__ runD d_Plan___init__
    have c := fun m => cmp ⟨none, O.map encR⟩ rfl [some (.cel 0), some (.int e), some (.lst (ws.map .int)), some (.int n), some (.int f)] m
    simp [r_check_eaves h1 h12, r_check_widths h.w, r_check_distance h.n1 h.n6, r_check_distance h.f1 h.f6, bs, oSet, oFld, fieldsOf, List.lookup, rows, srt, srcOf]
    simp at c
    simp [c, Dn.alloc, most, show O.length ≤ 100000 by (first|lia|omega)]
  unfold makeP
  rw [if_pos (by simp [T.cleans, T.clean]), run]
  have q : reify [.ins 0 [.int e, .lst (S.map .int), .int n, .int f, .lst (O.map encR), .lst ((O.map L2.jts).map encR)]] 4 (.cel 0) = some (planT e S n f O) := by
    have c := planT_clean e S n f O
    simp only [planT, T.clean] at c
    unfold reify
    rw [if_neg (by simp [T.clean])]
    simp only [List.getElem?_cons_zero]
    have mp : ∀ (ts : List T), T.cleans ts = true → ts.mapM (reify [.ins 0 [.int e, .lst (S.map .int), .int n, .int f, .lst (O.map encR), .lst ((O.map L2.jts).map encR)]] 3) = some ts := by
      intro ts
      induction ts with
      | nil => intro _; rfl
      | cons t ts ih =>
        intro hc
        rw [T.cleans, Bool.and_eq_true] at hc
        rw [List.mapM_cons, reify_clean hc.1, ih hc.2]
        rfl
    rw [mp _ c]
    rfl
  simp only [q]
theorem r_Plan {e : Int} {ws : List Int} {n f : Int} (h : MOk e ws n f) (m : List MO) : ∃ S O, Crs e ws O ∧ makeP 0 F_Plan___init__ m [.int e, .lst (ws.map .int), .int n, .int f] = .ok (planT e S n f O) m := by
  obtain ⟨S, O, _, c, q⟩ := r_PlanS h m
  exact ⟨S, O, c, q⟩
noncomputable def d_law_marks_b1 : DS := (sExpr (dMethL mAppend (dVar 1) (dCons (dCB bSum (dCons (dSl false (dVar 0) pNone (pSome (dVar 2))) dNil)) dNil)))
noncomputable def d_law_marks : DS := (sSeq (sAsg (dLst true dNil) (gName 1))
    (sSeq (sFor (iRng2 (dCons (dC (.int 1)) (dCons (dCB bLen (dCons (dVar 0) dNil)) dNil))) [2] (gName 2) (d_law_marks_b1))
    (sRet (dVar 1))))
noncomputable def F_law_marks : Fn := runD 3 d_law_marks
theorem cut_to (r : List Int) (k : Nat) (hk : k ≤ r.length) : cut (r.map T.int) none (some (k : Int)) = (r.take k).map .int := by
  unfold cut sIx
  simp only [show ¬ ((k : Int) < 0) by (first|lia|omega), if_false, List.drop_zero, Nat.sub_zero, List.length_map, Int.toNat_natCast]
  rw [Nat.min_eq_left hk, List.map_take]
theorem jts_at (r : List Int) : L2.jts r = (List.range (r.length - 1)).map fun k => (r.take (k + 1)).sum := by
  refine List.ext_getElem (by simp [L2.jts_length]) fun k h1 h2 => ?_
  have := (L2.jts_step h1).1
  rw [List.getD_eq_getElem?_getD, List.getElem?_eq_getElem h1] at this
  simpa using this
theorem r_law_marks (r : List Int) (hl : r.length < 50000) (m : List MO) : callP F_law_marks m [encR r] = .ok (encR (L2.jts r)) m := by
  refine callP_of (t := .cel 0) (m' := [.lst ((L2.jts r).map .int)]) (by simp [T.cleans, T.clean, encR]) ?_ (reify_ints 3 rfl)
  have loop := (forD_fold (src := ⟨none, rngT 1 (r.length - 1)⟩) (ks := [2]) (g := gName 2) (b := d_law_marks_b1) rfl (fun k : Nat => T.int (1 + k)) (fun s : List Int => ⟨[some (.lst (r.map .int)), some (.cel 0), none], [.lst (s.map .int)]⟩) (fun s k => s ++ [(r.take (k + 1)).sum]) (fun l s => s.length + l.length < 50000 ∧ ∀ k ∈ l, k < r.length - 1) (fun s a t i => by
    obtain ⟨i1, i2⟩ := i
    have ha := i2 a (List.mem_cons_self ..)
    have hc := cut_to r (a + 1) (by (first|lia|omega))
    rw [show ((a + 1 : Nat) : Int) = 1 + (a : Int) by (first|lia|omega)] at hc
    refine ⟨⟨by simp at i1 ⊢; (first|lia|omega), fun x hx => i2 x (List.mem_cons_of_mem _ hx)⟩, ⟨[some (.lst (r.map .int)), some (.cel 0), some (.int (1 + a))], [.lst ((s ++ [(r.take (a + 1)).sum]).map .int)]⟩, ?_, rfl⟩
    unfold d_law_marks_b1
    simp at i1
    have hl : (List.take (a + 1) r).length ≤ 100000 := by rw [List.length_take]; (first|lia|omega)
    rw [List.length_take] at hl
    have io := iof_ints (r.take (a + 1))
    simp only [e_fld, s_expr, e_methL, e_var, e_CB, e_cons, e_nil, e_sl, e_pNone, e_pSome, g_name, RS.then_go]
    simp [litems, oCut, hc, Dn.alloc, most, -List.map_take, hl, bSum, items, io, mAppend, show s.length < 100000 by (first|lia|omega)]) (List.range (r.length - 1)) [] ⟨by simp; (first|lia|omega), fun k hk => List.mem_range.mp hk⟩).1
  have e : (List.range (r.length - 1)).foldl (fun s k => s ++ [(r.take (k + 1)).sum]) [] = L2.jts r := by
    rw [foldl_flat (fun k => [(r.take (k + 1)).sum]), flat_one, jts_at]; simp
  rw [e] at loop
  unfold F_law_marks runD d_law_marks encR
  simp at loop
  simp [Dn.alloc, most, bLen, items, big, show (-1000000 : Int) ≤ r.length by (first|lia|omega), show (r.length : Int) ≤ 1000000 by (first|lia|omega)]
  have q : ((r.length : Int) - 1).toNat = r.length - 1 := by (first|lia|omega)
  unfold rngT at loop
  simp [q, rngT, loop]
noncomputable def d_law_courses_b1 : DS := (sExpr (dMethL mAppend (dVar 4) (dCons (dOp (oAdd false) (dVar 6) (dLst false (dCons (dVar 5) dNil))) dNil)))
noncomputable def d_law_courses_b2 : DS := (sIf (dTest (dOp oLe (dVar 5) (dVar 3))) (sFor (iSeq (dOp oIx (dVar 2) (dOp oSub (dVar 3) (dVar 5)))) [6] (gName 6) (d_law_courses_b1)) sNext)
noncomputable def d_law_courses_b3 : DS := (sSeq (sAsg (dLst true dNil) (gName 4))
    (sSeq (sFor (iSeq (dVar 1)) [5, 6] (gName 5) (d_law_courses_b2))
    (sExpr (dMethL mAppend (dVar 2) (dCons (dVar 4) dNil)))))
noncomputable def d_law_courses_e4 : DE := (dCB (callP F_law_marks) (dCons (dVar 0) dNil))
noncomputable def d_law_courses : DS := (sSeq (sAsg (dLst true (dCons (dLst false (dCons (dLst false dNil) dNil)) dNil)) (gName 2))
    (sSeq (sFor (iRng2 (dCons (dC (.int 1)) (dCons (dOp (oAdd false) (dVar 0) (dC (.int 1))) dNil))) [3, 4, 5, 6] (gName 3) (d_law_courses_b3))
    (sRet (dCB (bSorted false) (dCons (dComp false [] (iSeq (dOp oIx (dVar 2) (dVar 0))) dTrue (d_law_courses_e4)) dNil)))))
noncomputable def F_law_courses : Fn := runD 7 d_law_courses
noncomputable def madeT (s : Nat) : List T := .lst [encR []] :: (List.range s).map fun i => .cel (i + 1)
noncomputable def mS (ws : List Int) (s : Nat) (x : List MO) : List MO := .lst (madeT s) :: ((List.range s).map fun i => MO.lst ((L2.comps ws (i + 1)).map encR)) ++ x
theorem mS_at (ws : List Int) (s : Nat) (x : List MO) {i : Nat} (hi : i < s) : (mS ws s x)[i + 1]? = some (.lst ((L2.comps ws (i + 1)).map encR)) := by
  unfold mS
  rw [List.cons_append, List.getElem?_cons_succ, List.getElem?_append_left (by simpa using hi)]
  simp [hi]
theorem mS_end (ws : List Int) (s : Nat) (o : MO) : (mS ws s [o])[s + 1]? = some o := by
  unfold mS
  rw [List.cons_append, List.getElem?_cons_succ, List.getElem?_append_right (by simp)]
  simp
theorem mS_len (ws : List Int) (s : Nat) (x : List MO) : (mS ws s x).length = s + 1 + x.length := by
  simp [mS]; (first|lia|omega)
theorem mS_set (ws : List Int) (s : Nat) (o o' : MO) : (mS ws s [o]).set (s + 1) o' = mS ws s [o'] := by
  unfold mS
  rw [List.cons_append, List.set_cons_succ, List.set_append_right _ _ (by simp)]
  simp
theorem made_at (ws : List Int) (s : Nat) (x : List MO) {j : Nat} (hj : j ≤ s) : ∃ t src, oIx (mS ws s x) (.cel 0) (.int (j : Int)) = .ok t (mS ws s x) ∧ srcOf (mS ws s x) t = some src ∧ src.ts = (L2.comps ws j).map encR ∧ ∀ y, src.fits (mS ws s y) = true := by
  have it : items (mS ws s x) (.cel 0) = some (madeT s) := by simp [items, mS]
  have hl : (madeT s).length = s + 1 := by simp [madeT]
  cases j with
  | zero =>
    refine ⟨.lst [encR []], ⟨none, [encR []]⟩, ?_, rfl, by rw [L2.comps_zero]; rfl, fun y => rfl⟩
    have : atD (madeT s) ((0 : Nat) : Int) = some (.lst [encR []]) := by
      rw [atD_in (by (first|lia|omega)) (by rw [hl]; (first|lia|omega))]; rfl
    simp only [oIx, it, this]
  | succ j =>
    refine ⟨.cel (j + 1), ⟨some (j + 1), (L2.comps ws (j + 1)).map encR⟩, ?_, ?_, rfl, fun y => ?_⟩
    · have : atD (madeT s) ((j + 1 : Nat) : Int) = some (.cel (j + 1)) := by
        rw [atD_in (by (first|lia|omega)) (by rw [hl]; (first|lia|omega)), Int.toNat_natCast]
        unfold madeT
        rw [List.getElem?_cons_succ, List.getElem?_map, List.getElem?_range (by (first|lia|omega))]; rfl
      simp only [oIx, it, this]
    · simp only [srcOf, mS_at ws s x (show j < s by (first|lia|omega))]
    · simp only [Src.fits, mS_at ws s y (show j < s by (first|lia|omega)), decide_true]
theorem crs_inner {ws : List Int} {s : Nat} {src : Src} {w e : Int} {j : Nat} (hsrc : ∀ y, src.fits (mS ws s y) = true) (acc : List (List Int)) (hb : acc.length + (L2.comps ws j).length < 50000) (hr : ∀ r ∈ L2.comps ws j, r.length < 5000) (sz : Int) :
    forD src [6] (gName 6) d_law_courses_b1 ((L2.comps ws j).map encR) ⟨[some (.int e), some (.lst (ws.map .int)), some (.cel 0), some (.int sz), some (.cel (s + 1)), some (.int w), none], mS ws s [.lst (acc.map encR)]⟩
    = .go ⟨[some (.int e), some (.lst (ws.map .int)), some (.cel 0), some (.int sz), some (.cel (s + 1)), some (.int w), none], mS ws s [.lst ((acc ++ (L2.comps ws j).map fun r => r ++ [w]).map encR)]⟩ := by
  have loop := (forD_foldG (src := src) (ks := [6]) (g := gName 6) (b := d_law_courses_b1) encR (fun a : List (List Int) => ⟨[some (.int e), some (.lst (ws.map .int)), some (.cel 0), some (.int sz), some (.cel (s + 1)), some (.int w), none], mS ws s [.lst (a.map encR)]⟩) (fun a r => a ++ [r ++ [w]]) (fun l a => a.length + l.length < 50000 ∧ ∀ r ∈ l, r.length < 5000) (fun l a _ => hsrc _) (fun a r l i => by
    obtain ⟨i1, i2⟩ := i
    have hrl := i2 r (List.mem_cons_self ..)
    refine ⟨⟨by simp at i1 ⊢; (first|lia|omega), fun x hx => i2 x (List.mem_cons_of_mem _ hx)⟩, ⟨[some (.int e), some (.lst (ws.map .int)), some (.cel 0), some (.int sz), some (.cel (s + 1)), some (.int w), some (encR r)], mS ws s [.lst ((a ++ [r ++ [w]]).map encR)]⟩, ?_, rfl⟩
    unfold d_law_courses_b1
    have g1 := mS_end ws s (.lst (a.map encR))
    have ad : oAdd false (mS ws s [.lst (a.map encR)]) (encR r) (.lst [.int w]) = .ok (encR (r ++ [w])) (mS ws s [.lst (a.map encR)]) := by
      simp [oAdd, encR, litems, Dn.alloc, most, show r.length + 1 ≤ 100000 by (first|lia|omega)]
    simp at i1
    simp [litems, g1, Dn.alloc, most, ad, mAppend, show a.length < 100000 by (first|lia|omega), mS_set]) (L2.comps ws j) acc ⟨hb, hr⟩).1
  rw [foldl_flat (fun r => [r ++ [w]]), flat_one] at loop
  exact loop
theorem r_law_courses {e : Int} {ws : List Int} {O : List (List Int)} (h : L2.WOk ws) (h1 : 1 ≤ e) (h12 : e ≤ 12) (c : Crs e ws O) (m : List MO) : callP F_law_courses m [.int e, .lst (ws.map .int)] = .ok (mksT O) m := by
  show _ = R.ok (T.lst ((O.map L2.jts).map encR)) m
  have few : ∀ j : Nat, j ≤ 12 → (L2.comps ws j).length ≤ 60 := fun j hj => L2.comps_few h hj
  have short : ∀ j : Nat, j ≤ 12 → ∀ r ∈ L2.comps ws j, r.length < 5000 := fun j hj r hr => by
    have := L2.comps_short h hr; (first|lia|omega)
  have three := h.three
  have turn : ∀ s : Nat, s < 12 → forD ⟨none, ws.map .int⟩ [5, 6] (gName 5) d_law_courses_b2 (ws.map .int) ⟨[some (.int e), some (.lst (ws.map .int)), some (.cel 0), some (.int ((s + 1 : Nat) : Int)), some (.cel (s + 1)), none, none], mS ws s [.lst []]⟩
      = .go ⟨[some (.int e), some (.lst (ws.map .int)), some (.cel 0), some (.int ((s + 1 : Nat) : Int)), some (.cel (s + 1)), none, none], mS ws s [.lst ((L2.comps ws (s + 1)).map encR)]⟩ := fun s hs => by
    have loop := (forD_fold (src := ⟨none, ws.map .int⟩) (ks := [5, 6]) (g := gName 5) (b := d_law_courses_b2) rfl T.int (fun a : List (List Int) => ⟨[some (.int e), some (.lst (ws.map .int)), some (.cel 0), some (.int ((s + 1 : Nat) : Int)), some (.cel (s + 1)), none, none], mS ws s [.lst (a.map encR)]⟩) (fun a w => a ++ (if w ≤ ((s + 1 : Nat) : Int) then ((L2.tblC ws s).getD (((s + 1 : Nat) : Int) - w).toNat []).map (fun r => r ++ [w]) else [])) (fun l a => a.length + 60 * l.length < 50000 ∧ ∀ w ∈ l, 2 ≤ w) (fun a w l i => by
      obtain ⟨i1, i2⟩ := i
      have hw := i2 w (List.mem_cons_self ..)
      rw [List.length_cons, Nat.mul_succ] at i1
      by_cases hle : w ≤ ((s + 1 : Nat) : Int)
      · have hj : (((s + 1 : Nat) : Int) - w).toNat ≤ s := by (first|lia|omega)
        rw [if_pos hle, L2.tblC_get ws hj]
        have f := few (((s + 1 : Nat) : Int) - w).toNat (by (first|lia|omega))
        refine ⟨⟨by rw [List.length_append, List.length_map]; (first|lia|omega), fun x hx => i2 x (List.mem_cons_of_mem _ hx)⟩, ⟨[some (.int e), some (.lst (ws.map .int)), some (.cel 0), some (.int ((s + 1 : Nat) : Int)), some (.cel (s + 1)), some (.int w), none], mS ws s [.lst ((a ++ (L2.comps ws (((s + 1 : Nat) : Int) - w).toNat).map fun r => r ++ [w]).map encR)]⟩, ?_, rfl⟩
        obtain ⟨t, src, q1, q2, q3, q4⟩ := made_at ws s [.lst (a.map encR)] hj
        rw [show (((((s + 1 : Nat) : Int) - w).toNat : Nat) : Int) = ((s + 1 : Nat) : Int) - w by (first|lia|omega)] at q1
        have inn := crs_inner (ws := ws) (s := s) (src := src) (w := w) (e := e) (j := (((s + 1 : Nat) : Int) - w).toNat) q4 a (by (first|lia|omega)) (short _ (by (first|lia|omega))) ((s + 1 : Nat) : Int)
        rw [← q3] at inn
        unfold d_law_courses_b2
        simp only [s_if, e_test, e_op, e_var, e_C, g_name, RS.then_go, List.getElem?_cons_succ, List.getElem?_cons_zero, List.set, R.bind_ok, o_le, sOf_ok, decide_eq_true hle, if_true, s_for, e_seq, o_sub, q1, q2, kill_eq, List.foldl, inn]
      · rw [if_neg hle, List.append_nil]
        refine ⟨⟨by (first|lia|omega), fun x hx => i2 x (List.mem_cons_of_mem _ hx)⟩, ⟨[some (.int e), some (.lst (ws.map .int)), some (.cel 0), some (.int ((s + 1 : Nat) : Int)), some (.cel (s + 1)), some (.int w), none], mS ws s [.lst (a.map encR)]⟩, ?_, rfl⟩
        unfold d_law_courses_b2
        simp only [s_if, e_test, e_op, e_var, e_C, g_name, RS.then_go, List.getElem?_cons_succ, List.getElem?_cons_zero, List.set, R.bind_ok, o_le, sOf_ok, decide_eq_false hle, Bool.false_eq_true, if_false, s_next]) ws [] ⟨by simp; (first|lia|omega), fun w hw => (h.rng w hw).1⟩).1
    rw [foldl_flat, List.nil_append] at loop
    rw [L2.comps_succ]
    exact loop
  have outer := (forD_fold (src := ⟨none, rngT 1 e.toNat⟩) (ks := [3, 4, 5, 6]) (g := gName 3) (b := d_law_courses_b3) rfl (fun k : Nat => T.int (1 + (k : Int))) (fun s : Nat => ⟨[some (.int e), some (.lst (ws.map .int)), some (.cel 0), none, none, none, none], mS ws s []⟩) (fun s _ => s + 1) (fun l s => l = List.range' s (e.toNat - s) ∧ s ≤ e.toNat) (fun s k l i => by
    obtain ⟨i1, i2⟩ := i
    have hs : s < e.toNat := by
      apply Decidable.byContradiction
      intro hn
      rw [show e.toNat - s = 0 by (first|lia|omega)] at i1
      cases i1
    rw [show e.toNat - s = (e.toNat - (s + 1)) + 1 by (first|lia|omega), List.range'_succ] at i1
    obtain ⟨rfl, i1⟩ := List.cons.inj i1
    refine ⟨⟨i1, hs⟩, ⟨[some (.int e), some (.lst (ws.map .int)), some (.cel 0), some (.int (1 + (k : Int))), some (.cel (k + 1)), none, none], mS ws (k + 1) []⟩, ?_, rfl⟩
    have tn := turn k (by (first|lia|omega))
    rw [show (((k + 1 : Nat) : Int)) = 1 + (k : Int) by (first|lia|omega)] at tn
    have a1 : mS ws k [] ++ [MO.lst []] = mS ws k [.lst []] := by simp [mS]
    have l1 : (mS ws k []).length = k + 1 := by simp [mS_len]
    have a2 : ∀ o, (mS ws k [o])[0]? = some (.lst (madeT k)) := fun o => rfl
    have a3 : (mS ws k [.lst ((L2.comps ws (k + 1)).map encR)]).set 0 (.lst (madeT k ++ [.cel (k + 1)])) = mS ws (k + 1) [] := by
      unfold mS madeT
      simp [List.range_succ]
    have lm : (madeT k).length < 100000 := by simp [madeT]; (first|lia|omega)
    unfold d_law_courses_b3
    simp [Dn.alloc, most, a1, l1, srcOf, tn, litems, a2, mAppend, lm, a3]) (List.range e.toNat) 0 ⟨by simp [List.range_eq_range'], by (first|lia|omega)⟩).1
  have fold : ∀ (l : List Nat) (s : Nat), l.foldl (fun s _ => s + 1) s = s + l.length := by
    intro l
    induction l with
    | nil => intro s; rfl
    | cons a l ih => intro s; rw [List.foldl_cons, ih, List.length_cons]; (first|lia|omega)
  rw [fold, Nat.zero_add, List.length_range] at outer
  obtain ⟨t, src, q1, q2, q3, q4⟩ := made_at ws e.toNat [] (Nat.le_refl _)
  rw [show ((e.toNat : Nat) : Int) = e by (first|lia|omega)] at q1
  have fe := few e.toNat (by (first|lia|omega))
  have cmp := compD_mapG (src := src) (sc := scD [] [some (.int e), some (.lst (ws.map .int)), some (.cel 0), none, none, none, none]) (te := d_law_courses_e4) encR (fun r => encR (L2.jts r)) (L2.comps ws e.toNat) [] (mS ws e.toNat []) (q4 []) (fun r hr => by
    have := short e.toNat (by (first|lia|omega)) r hr
    unfold d_law_courses_e4 scD
    simp [r_law_marks r (by (first|lia|omega))]) (by simp [most]; (first|lia|omega))
  rw [← q3, List.nil_append] at cmp
  have srt : ∀ m, bSorted false m [.lst ((L2.comps ws e.toNat).map fun r => encR (L2.jts r))] = .ok (.lst ((O.map L2.jts).map encR)) m := fun m => by
    have e0 : ((L2.comps ws e.toNat).map fun r => encR (L2.jts r)) = ((L2.comps ws e.toNat).map L2.jts).map encR := by rw [List.map_map]; rfl
    have sm := sorted_marks h h1 h12 c
    have lo : O.length ≤ 100000 := by have := c.few; (first|lia|omega)
    rw [e0]
    cases hc : (L2.comps ws e.toNat).map L2.jts with
    | nil =>
      rw [hc] at sm
      have : O.map L2.jts = [] := by rw [← sm]; rfl
      simp [bSorted, litems, intsOf, isort, Dn.alloc, most, this]
    | cons r rs =>
      rw [hc] at sm
      have hl : (r :: rs).length ≤ 60 := by rw [← hc, List.length_map]; exact fe
      have hi : intsOf ((r :: rs).map encR) = none := rfl
      have hr : rowsOf ((r :: rs).map encR) = some (r :: rs) := rof_rows (r :: rs)
      have hl2 : ((r :: rs).map encR).length < 64 := by rw [List.length_map]; (first|lia|omega)
      unfold bSorted
      simp only [litems, hl2, if_true, hi, hr, sm]
      unfold Dn.alloc
      rw [if_pos (by simp [most]; (first|lia|omega)), if_neg (by decide)]
      rfl
  have run : F_law_courses [.int e, .lst (ws.map .int)] [] = .ok (.lst ((O.map L2.jts).map encR)) (mS ws e.toNat []) := by
    unfold F_law_courses runD d_law_courses
    have er : (1 + e - 1 : Int).toNat = e.toNat := by (first|lia|omega)
    have er' : (e + 1 - 1 : Int).toNat = e.toNat := by (first|lia|omega)
    have m0 : [MO.lst [.lst [.lst []]]] = mS ws 0 [] := rfl
    have bg : -big ≤ e + 1 ∧ e + 1 ≤ big := by unfold big; (first|lia|omega)
    have bg1 : -big ≤ (1 : Int) ∧ (1 : Int) ≤ big := by unfold big; (first|lia|omega)
    have la : (((L2.comps ws e.toNat).map fun r => encR (L2.jts r)).length ≤ most) := by simp [most]; (first|lia|omega)
    have al : Dn.alloc false ((L2.comps ws e.toNat).map fun r => encR (L2.jts r)) (mS ws e.toNat []) = .ok (.lst ((L2.comps ws e.toNat).map fun r => encR (L2.jts r))) (mS ws e.toNat []) := by
      unfold Dn.alloc; rw [if_pos la, if_neg (by decide)]
    have rg : rngT 1 e.toNat = (List.range e.toNat).map fun k : Nat => T.int (1 + (k : Int)) := rfl
    rw [← rg] at outer
    simp [Dn.alloc, most, bg, bg1, m0, outer, q1, q2]
    have la' : ((L2.comps ws e.toNat).map fun r => encR (L2.jts r)).length ≤ 100000 := la
    simp only [cmp, R.bind_ok, if_pos la', srt, sOf_ok, List.map_map]
  refine callP_of (by simp [T.cleans, T.clean]) run (reify_clean ?_)
  simp only [T.clean]
  exact cl_enc _
noncomputable def d_law_row_e1 : DE := (dOp oSub (dOp oIx (dVar 1) (dOp (oAdd false) (dVar 0) (dC (.int 1)))) (dOp oIx (dVar 1) (dVar 0)))
noncomputable def d_law_row : DS := (sSeq (sAsg (dOp (oAdd false) (dOp (oAdd false) (dLst false (dCons (dC (.int 0)) dNil)) (dVar 1)) (dLst false (dCons (dVar 0) dNil))) (gName 2))
    (sRet (dComp false [2] (iRng1 (dCons (dOp oSub (dCB bLen (dCons (dVar 2) dNil)) (dC (.int 1))) dNil)) dTrue (d_law_row_e1))))
noncomputable def F_law_row : Fn := runD 3 d_law_row
theorem r_law_row {r : List Int} {e : Int} (h : r ≠ []) (hs : r.sum = e) (hl : r.length ≤ 5000) (m : List MO) : callP F_law_row m [.int e, encR (L2.jts r)] = .ok (encR r) m := by
  refine callP_of (t := encR r) (m' := []) (by simp [T.cleans, T.clean, encR]) ?_ (reify_clean (by simp [encR, T.clean]))
  have jl := L2.jts_length r
  have r0 : 0 < r.length := List.length_pos_iff.mpr h
  let E := [0] ++ L2.jts r ++ [e]
  have hE : E.length = r.length + 1 := by simp [E, jl]; (first|lia|omega)
  have cmp := compD_map (src := ⟨none, rngT 0 r.length⟩) (sc := scD [2] [some (.int e), some (encR (L2.jts r)), some (encR E)]) (te := d_law_row_e1) rfl (fun k : Nat => T.int (k : Int)) (fun k : Nat => T.int (r[k]?.getD 0)) (List.range r.length) [] [] (fun k hk => by
    have hk := List.mem_range.mp hk
    have e1 := List.getElem?_eq_getElem (l := E) (i := k) (by (first|lia|omega))
    have e2 := List.getElem?_eq_getElem (l := E) (i := k + 1) (by (first|lia|omega))
    have i1 := fun m => ix_at T.int e1 m
    have i2 := fun m => ix_at T.int e2 m
    have rb := row_back h hs k hk
    have rb' : E[k + 1] - E[k] = r[k] := by
      have a1 : (([0] ++ L2.jts r ++ [e])[k]?) = some E[k] := e1
      have a2 : (([0] ++ L2.jts r ++ [e])[k + 1]?) = some E[k + 1] := e2
      rw [a1, a2] at rb
      exact rb
    rw [show ((k + 1 : Nat) : Int) = (k : Int) + 1 by (first|lia|omega)] at i2
    have en : encR E = .lst (E.map .int) := rfl
    unfold d_law_row_e1 scD
    simp [en, i1, i2, rb', hk]) (by simp [most]; (first|lia|omega))
  rw [← rng_map] at cmp
  have fin : ((List.range r.length).map fun k : Nat => T.int (r[k]?.getD 0)) = r.map .int := by
    refine List.ext_getElem (by simp) fun k h1 h2 => ?_
    have : k < r.length := by simpa using h1
    simp [this]
  rw [fin, List.nil_append] at cmp
  have a1 : ∀ m, oAdd false m (.lst [.int 0]) (encR (L2.jts r)) = .ok (encR (0 :: L2.jts r)) m := fun m => by
    simp [oAdd, encR, litems, Dn.alloc, most, jl, show r.length - 1 + 1 ≤ 100000 by (first|lia|omega)]
  have a2 : ∀ m, oAdd false m (encR (0 :: L2.jts r)) (.lst [.int e]) = .ok (encR E) m := fun m => by
    simp [oAdd, encR, litems, Dn.alloc, most, jl, E, show r.length - 1 + 1 + 1 ≤ 100000 by (first|lia|omega)]
  have ln : ∀ m, bLen m [encR E] = .ok (.int ((r.length : Int) + 1)) m := fun m => by
    simp [bLen, encR, items, hE]
  have bg := big_ok (n := r.length) (by (first|lia|omega))
  unfold F_law_row runD d_law_row
  have al : ∀ m, Dn.alloc false (r.map .int) m = .ok (encR r) m := fun m => by simp [Dn.alloc, most, encR, show r.length ≤ 100000 by (first|lia|omega)]
  simp only [e_lst, e_cons, e_nil, e_C, R.bind_ok, e_var, s_seq, s_asg, s_ret, e_op, g_name, e_comp, e_rng1, e_CB, List.getElem?_cons_succ, List.getElem?_cons_zero, List.map, List.replicate, List.length, List.cons_append, List.nil_append, Nat.reduceSub, Nat.reduceAdd]
  have al0 : ∀ (i : Int) m, Dn.alloc false [.int i] m = .ok (.lst [.int i]) m := fun i m => rfl
  simp [al0, a1, a2, ln, bg, cmp, al]
noncomputable def d_Plan_is_course : DS := (sRet (dChain oLe oLt (dC (.int 0)) (dVar 1) (dCB bLen (dCons (dFld [(0, 4)] (dVar 0)) dNil))))
noncomputable def F_Plan_is_course : Fn := runD 2 d_Plan_is_course
theorem r_is_course (e : Int) (S : List Int) (n f : Int) (O : List (List Int)) (i : Int) (m : List MO) : callP F_Plan_is_course m [planT e S n f O, .int i] = .ok (.bl (decide (0 ≤ i ∧ i < (O.length : Int)))) m := by
  refine callP_of (t := .bl (decide (0 ≤ i ∧ i < (O.length : Int)))) (m' := []) (by simp [T.cleans, T.clean, planT_clean]) ?_ (reify_clean rfl)
  unfold F_Plan_is_course runD d_Plan_is_course planT
  by_cases h : 0 ≤ i
  · simp [h, oFld, fieldsOf, List.lookup, bLen, items]
  · simp [h]
noncomputable def d_Plan_check_course : DS := (sIf (dNot (dTest (dMethO 0 (callP F_Plan_is_course) (dVar 0) (dCons (dVar 1) dNil)))) (sRaise 52 [1]) sNext)
noncomputable def F_Plan_check_course : Fn := runD 2 d_Plan_check_course
theorem r_check_course (e : Int) (S : List Int) (n f : Int) (O : List (List Int)) {i : Nat} (h : i < O.length) (m : List MO) : callP F_Plan_check_course m [planT e S n f O, .int (i : Int)] = .ok .non m := by
  refine callP_of (t := .non) (m' := []) (by simp [T.cleans, T.clean, planT_clean]) ?_ (reify_clean rfl)
  have c := fun m => r_is_course e S n f O (i : Int) m
  unfold F_Plan_check_course runD d_Plan_check_course
  simp [c, h]
theorem x_check_course (e : Int) (S : List Int) (n f : Int) (O : List (List Int)) {i : Int} (h : ¬ (0 ≤ i ∧ i < (O.length : Int))) (ht : i.natAbs < tame) (m : List MO) : callP F_Plan_check_course m [planT e S n f O, .int i] = .exc 52 m := by
  refine exc_of (m' := []) (by simp [T.cleans, T.clean, planT_clean]) ?_
  have c := fun m => r_is_course e S n f O i m
  unfold F_Plan_check_course runD d_Plan_check_course
  rw [decide_eq_false h] at c
  simp [c, msgD, ht]
noncomputable def d_Plan_row : DS := (sSeq (sExpr (dMethO 0 (callP F_Plan_check_course) (dVar 0) (dCons (dVar 1) dNil)))
    (sRet (dCB (bList true) (dCons (dOp oIx (dFld [(0, 4)] (dVar 0)) (dVar 1)) dNil))))
noncomputable def F_Plan_row : Fn := runD 2 d_Plan_row
theorem f_row (e : Int) (S : List Int) (n f : Int) (O : List (List Int)) {i : Nat} {r : List Int} (h : O[i]? = some r) (hl : r.length ≤ 100000) : F_Plan_row [planT e S n f O, .int (i : Int)] [] = .ok (.cel 0) [.lst (r.map .int)] := by
  have li := (List.getElem?_eq_some_iff.mp h).1
  have c := fun m => r_check_course e S n f O li m
  have ix := fun m => ix_at encR h m
  have bl : ∀ m, bList true m [encR r] = .ok (.cel m.length) (m ++ [.lst (r.map .int)]) := fun m => by
    simp [bList, encR, items, Dn.alloc, most, hl]
  unfold F_Plan_row runD d_Plan_row
  simp [oFld, List.lookup, c, ix, bl]
theorem r_row (e : Int) (S : List Int) (n f : Int) (O : List (List Int)) {i : Nat} {r : List Int} (h : O[i]? = some r) (hl : r.length ≤ 100000) (m : List MO) : callP F_Plan_row m [planT e S n f O, .int (i : Int)] = .ok (encR r) m :=
  callP_of (by simp [T.cleans, T.clean, planT_clean]) (f_row e S n f O h hl) (reify_ints 3 rfl)
theorem t_row (e : Int) (S : List Int) (n f : Int) (O : List (List Int)) {i : Nat} {r : List Int} (h : O[i]? = some r) (hl : r.length ≤ 100000) (m : List MO) : callT F_Plan_row m [planT e S n f O, .int (i : Int)] = .ok (.cel m.length) (m ++ [.lst (r.map .int)]) := by
  unfold callT
  rw [if_pos (by simp [T.cleans, T.clean, planT_clean]), f_row e S n f O h hl]
  simp [T.shift, MO.shift, shifts_ints]
theorem x_row_ (e : Int) (S : List Int) (n f : Int) (O : List (List Int)) {i : Int} (h : ¬ (0 ≤ i ∧ i < (O.length : Int))) (ht : i.natAbs < tame) : ∃ m', F_Plan_row [planT e S n f O, .int i] [] = .exc 52 m' := by
  have c := fun m => x_check_course e S n f O h ht m
  refine ⟨[], ?_⟩
  unfold F_Plan_row runD d_Plan_row
  simp [c]
theorem x_row (e : Int) (S : List Int) (n f : Int) (O : List (List Int)) {i : Int} (h : ¬ (0 ≤ i ∧ i < (O.length : Int))) (ht : i.natAbs < tame) (m : List MO) : callP F_Plan_row m [planT e S n f O, .int i] = .exc 52 m := by
  obtain ⟨m', q⟩ := x_row_ e S n f O h ht
  exact exc_of (by simp [T.cleans, T.clean, planT_clean]) q
theorem xt_row (e : Int) (S : List Int) (n f : Int) (O : List (List Int)) {i : Int} (h : ¬ (0 ≤ i ∧ i < (O.length : Int))) (ht : i.natAbs < tame) (m : List MO) : callT F_Plan_row m [planT e S n f O, .int i] = .exc 52 m := by
  obtain ⟨m', q⟩ := x_row_ e S n f O h ht
  unfold callT
  rw [if_pos (by simp [T.cleans, T.clean, planT_clean]), q]
noncomputable def d_law_row_told_b1 : DS := (sAsg (dMethO 0 (callT F_Plan_row) (dVar 0) (dCons (dVar 1) dNil)) (gName 3))
noncomputable def d_law_row_told_b2 : DS := (sAsg (dLst false (dCons (dIsX 4 is_UnknownCourse) (dCons (dIsX 4 is_ValueError) (dCons (dIsX 4 is_NotFilled) dNil)))) (gName 2))
noncomputable def d_law_row_told : DS := (sSeq (sAsg (dLst false dNil) (gName 2))
    (sSeq (sAsg (dC .non) (gName 3))
    (sSeq (sTry [51, 52, 53] 4 (d_law_row_told_b1) (d_law_row_told_b2))
    (sRet (dTup (dCons (dVar 3) (dCons (dVar 2) dNil)))))))
noncomputable def F_law_row_told : Fn := runD 5 d_law_row_told
theorem f_row_told (e : Int) (S : List Int) (n f : Int) (O : List (List Int)) {i : Nat} {r : List Int} (h : O[i]? = some r) (hl : r.length ≤ 100000) : F_law_row_told [planT e S n f O, .int (i : Int)] [] = .ok (.tup [.cel 0, .lst []]) [.lst (r.map .int)] := by
  have t := fun m => t_row e S n f O h hl m
  unfold F_law_row_told runD d_law_row_told
  simp [s_try, d_law_row_told_b1, t, Dn.alloc, most]
theorem t_row_told (e : Int) (S : List Int) (n f : Int) (O : List (List Int)) {i : Nat} {r : List Int} (h : O[i]? = some r) (hl : r.length ≤ 100000) (m : List MO) : callT F_law_row_told m [planT e S n f O, .int (i : Int)] = .ok (.tup [.cel m.length, .lst []]) (m ++ [.lst (r.map .int)]) := by
  unfold callT
  rw [if_pos (by simp [T.cleans, T.clean, planT_clean]), f_row_told e S n f O h hl]
  simp [T.shift, T.shifts, MO.shift, shifts_ints]
theorem x_row_told (e : Int) (S : List Int) (n f : Int) (O : List (List Int)) {i : Int} (h : ¬ (0 ≤ i ∧ i < (O.length : Int))) (ht : i.natAbs < tame) (m : List MO) : callP F_law_row_told m [planT e S n f O, .int i] = .ok (.tup [.non, .lst [.bl true, .bl true, .bl false]]) m := by
  refine callP_of (t := .tup [.non, .lst [.bl true, .bl true, .bl false]]) (m' := []) (by simp [T.cleans, T.clean, planT_clean]) ?_ (reify_clean rfl)
  have t := fun m => xt_row e S n f O h ht m
  unfold F_law_row_told runD d_law_row_told
  simp [s_try, d_law_row_told_b1, d_law_row_told_b2, t, Dn.alloc, most, is_UnknownCourse, is_ValueError, is_NotFilled, List.lookup]
noncomputable def d_law_whole : DS := (sRet (dAndV (dCB bIs (dCons (dVar 0) (dCons (dC (.ty "int")) dNil))) (dNotV (dCB bIs (dCons (dVar 0) (dCons (dC (.ty "bool")) dNil))))))
noncomputable def F_law_whole : Fn := runD 1 d_law_whole
theorem r_law_whole (i : Int) (m : List MO) : callP F_law_whole m [.int i] = .ok (.bl true) m := by
  refine callP_of (t := .bl true) (m' := []) (by simp [T.cleans, T.clean]) ?_ (reify_clean rfl)
  unfold F_law_whole runD d_law_whole
  simp [bIs, isT, deref]
noncomputable def d_law_same_b1 : DS := (sIf (dOr (dNot (dTest (dCB (callP F_law_whole) (dCons (dOp oIx (dVar 0) (dVar 2)) dNil)))) (dTest (dOp (oEq true) (dOp oIx (dVar 0) (dVar 2)) (dOp oIx (dVar 1) (dVar 2))))) (sRet (dC (.bl false))) sNext)
noncomputable def d_law_same : DS := (sSeq (sIf (dOr (dNot (dTest (dCB bIs (dCons (dVar 0) (dCons (dC (.ty "list")) dNil))))) (dTest (dOp (oEq true) (dCB bLen (dCons (dVar 0) dNil)) (dCB bLen (dCons (dVar 1) dNil))))) (sRet (dC (.bl false))) sNext)
    (sSeq (sFor (iRng1 (dCons (dCB bLen (dCons (dVar 1) dNil)) dNil)) [2] (gName 2) (d_law_same_b1))
    (sRet (dC (.bl true)))))
noncomputable def F_law_same : Fn := runD 3 d_law_same
theorem f_law_same (a b : List Int) (hl : b.length < 50000) : F_law_same [encR a, encR b] [] = .ok (.bl (decide (a = b))) [] := by
  unfold F_law_same runD d_law_same encR
  by_cases h : a.length = b.length
  · have loop := forD_find (src := ⟨none, rngT 0 b.length⟩) (ks := [2]) (g := gName 2) (b := d_law_same_b1) (ρ := ⟨[some (.lst (a.map .int)), some (.lst (b.map .int)), none], []⟩) (t := .bl false) (m := []) rfl (fun k : Nat => T.int (k : Int)) (fun k => decide (a[k]? ≠ b[k]?)) (List.range b.length) (fun k hk => by
      have hk := List.mem_range.mp hk
      have ea := List.getElem?_eq_getElem (l := a) (i := k) (by (first|lia|omega))
      have eb := List.getElem?_eq_getElem (l := b) (i := k) hk
      have ia := fun m => ix_at T.int ea m
      have ib := fun m => ix_at T.int eb m
      unfold d_law_same_b1
      by_cases e : a[k] = b[k]
      · rw [if_neg (by simp [ea, eb, e])]
        refine ⟨⟨[some (.lst (a.map .int)), some (.lst (b.map .int)), some (.int k)], []⟩, ?_, rfl⟩
        simp [ia, ib, r_law_whole, e]
      · rw [if_pos (by simp [ea, eb, e])]
        simp [ia, ib, r_law_whole, e])
    rw [← rng_map] at loop
    simp [bIs, isT, deref, bLen, items, h, big_ok (n := b.length) (by (first|lia|omega))]
    rw [loop]
    by_cases e : a = b
    · subst e
      simp
    · have : (List.range b.length).any (fun k => decide (a[k]? ≠ b[k]?)) = true := by
        rw [List.any_eq_true]
        apply Decidable.byContradiction
        intro hn
        refine e (List.ext_getElem? fun i => ?_)
        by_cases hi : i < b.length
        · apply Decidable.byContradiction
          intro hne
          exact hn ⟨i, List.mem_range.mpr hi, by simpa using hne⟩
        · rw [List.getElem?_eq_none (by (first|lia|omega)), List.getElem?_eq_none (by (first|lia|omega))]
      rw [this]
      simp [e]
  · have e : a ≠ b := fun z => h (by rw [z])
    have h' : ¬ ((a.length : Int) = (b.length : Int)) := by (first|lia|omega)
    simp [bIs, isT, deref, bLen, items, h', e]
theorem r_law_same (a b : List Int) (hl : b.length < 50000) (m : List MO) : callP F_law_same m [encR a, encR b] = .ok (.bl (decide (a = b))) m :=
  callP_of (t := .bl (decide (a = b))) (m' := []) (by simp [T.cleans, T.clean, encR]) (f_law_same a b hl) (reify_clean rfl)
theorem c_law_same {a : List Int} (b : List Int) (hl : b.length < 50000) {mm : List MO} {k : Nat} (hk : mm[k]? = some (.lst (a.map .int))) : callC F_law_same mm [.cel k, encR b] = .ok (.bl (decide (a = b))) mm := by
  refine callC_of (us := [encR a, encR b]) ?_ (f_law_same a b hl) rfl
  have a1 := reify_ints (m := mm) (k := k) (ns := a) 3 hk
  have a2 : reify mm 4 (encR b) = some (encR b) := reify_clean (by simp [encR, T.clean])
  simp only [List.mapM_cons, List.mapM_nil, a1, a2]
  rfl
noncomputable def d_fills_b1 : DS := (sIf (dTest (dOp (oIn true) (dVar 3) (dVar 1))) (sRet (dC (.bl false))) sNext)
noncomputable def d_fills : DS := (sSeq (sIf (dTest (dOp (oEq false) (dCB bLen (dCons (dVar 2) dNil)) (dC (.int 0)))) (sRet (dC (.bl false))) sNext)
    (sSeq (sFor (iSeq (dVar 2)) [3] (gName 3) (d_fills_b1))
    (sRet (dOp (oEq false) (dCB bSum (dCons (dVar 2) dNil)) (dVar 0)))))
noncomputable def F_fills : Fn := runD 4 d_fills
theorem r_fills (e : Int) (S r : List Int) {x : T} (hx : SqI x r) (h1 : 1 ≤ e) (m : List MO) : callP F_fills m [.int e, .lst (S.map .int), x] = .ok (.bl (flr e S r)) m := by
  refine callP_of (t := .bl (flr e S r)) (m' := []) (by simp [T.cleans, T.clean, hx.cl]) ?_ (reify_clean rfl)
  have loop : forD ⟨none, r.map .int⟩ [3] (gName 3) d_fills_b1 (r.map .int) ⟨[some (.int e), some (.lst (S.map .int)), some x, none], []⟩ = if r.any (fun w => decide (w ∉ S)) then .ret (.bl false) [] else .go ⟨[some (.int e), some (.lst (S.map .int)), some x, none], []⟩ :=
    forD_find rfl T.int (fun w => decide (w ∉ S)) r (fun w hw => by
      have hin := o_inI true [] w (.lst (S.map .int)) S rfl
      unfold d_fills_b1
      by_cases h : w ∈ S
      · rw [if_neg (by simpa using h)]
        refine ⟨⟨[some (.int e), some (.lst (S.map .int)), some x, some (.int w)], []⟩, ?_, rfl⟩
        simp [hin, h]
      · rw [if_pos (by simpa using h)]
        simp [hin, h])
  unfold F_fills runD d_fills flr
  by_cases hr : r = []
  · subst hr
    have : ¬ ((0 : Int) = e) := by (first|lia|omega)
    simp [hx.len, this]
  · by_cases h : r.any (fun w => decide (w ∉ S)) = true
    · rw [if_pos h] at loop
      have : ¬ ((∀ w ∈ r, w ∈ S) ∧ r.sum = e) := fun z => by
        rw [List.any_eq_true] at h
        obtain ⟨w, hw, q⟩ := h
        exact (by simpa using q : w ∉ S) (z.1 w hw)
      rw [decide_eq_false this]
      simp [hr, hx.len, hx.so, loop]
    · rw [if_neg h] at loop
      have hall : ∀ w ∈ r, w ∈ S := fun w hw => by
        apply Decidable.byContradiction
        intro hn
        exact h (List.any_eq_true.mpr ⟨w, hw, by simpa using hn⟩)
      have e1 : decide ((∀ w ∈ r, w ∈ S) ∧ r.sum = e) = decide (r.sum = e) := by
        congr 1
        exact propext ⟨fun z => z.2, fun z => ⟨hall, z⟩⟩
      rw [e1]
      simp [hr, hx.len, hx.so, hx.sum, loop]
noncomputable def d_Plan_number : DS := (sSeq (sIf (dNot (dTest (dCB (callP F_fills) (dCons (dFld [(0, 0)] (dVar 0)) (dCons (dFld [(0, 1)] (dVar 0)) (dCons (dVar 1) dNil)))))) (sRaise 53 []) sNext)
    (sRet (dMethL mIndex (dFld [(0, 4)] (dVar 0)) (dCons (dCB (bList false) (dCons (dVar 1) dNil)) dNil))))
noncomputable def F_Plan_number : Fn := runD 2 d_Plan_number
theorem flr_perm {e : Int} {S ws r : List Int} (p : S.Perm ws) : flr e S r = flr e ws r := by
  unfold flr
  congr 1
  exact propext ⟨fun z => ⟨fun w hw => p.mem_iff.mp (z.1 w hw), z.2⟩, fun z => ⟨fun w hw => p.mem_iff.mpr (z.1 w hw), z.2⟩⟩
theorem r_number {e : Int} {ws S : List Int} {n f : Int} {O : List (List Int)} (p : S.Perm ws) (h1 : 1 ≤ e) {r : List Int} {x : T} (hx : SqI x r) (hl : r.length ≤ 100000) {k : Nat} (hf : flr e ws r = true) (hk : O.findIdx? (fun x => decide (x = r)) = some k) (m : List MO) : callP F_Plan_number m [planT e S n f O, x] = .ok (.int (k : Int)) m := by
  refine callP_of (t := .int (k : Int)) (m' := []) (by simp [T.cleans, T.clean, planT_clean, hx.cl]) ?_ (reify_clean rfl)
  have fi := fun m => r_fills e S r hx h1 m
  rw [flr_perm p, hf] at fi
  have ix := fun m => index_rows hk m
  have li := fun m => hx.list hl m
  have it : ∀ m, litems m (.lst (O.map encR)) = some (O.map encR) := fun m => rfl
  unfold F_Plan_number runD d_Plan_number
  simp [oFld, List.lookup, fi, li, ix, it]
theorem x_number {e : Int} {ws S : List Int} {n f : Int} {O : List (List Int)} (p : S.Perm ws) (h1 : 1 ≤ e) {r : List Int} {x : T} (hx : SqI x r) (hf : flr e ws r = false) (m : List MO) : callP F_Plan_number m [planT e S n f O, x] = .exc 53 m := by
  refine exc_of (m' := []) (by simp [T.cleans, T.clean, planT_clean, hx.cl]) ?_
  have fi := fun m => r_fills e S r hx h1 m
  rw [flr_perm p, hf] at fi
  unfold F_Plan_number runD d_Plan_number
  simp [oFld, List.lookup, fi]
noncomputable def d_law_number_told_b1 : DS := (sAsg (dMethO 0 (callP F_Plan_number) (dVar 0) (dCons (dVar 1) dNil)) (gName 3))
noncomputable def d_law_number_told_b2 : DS := (sAsg (dLst false (dCons (dIsX 4 is_NotFilled) (dCons (dIsX 4 is_ValueError) (dCons (dIsX 4 is_UnknownCourse) dNil)))) (gName 2))
noncomputable def d_law_number_told : DS := (sSeq (sAsg (dLst false dNil) (gName 2))
    (sSeq (sAsg (dC .non) (gName 3))
    (sSeq (sTry [51, 52, 53] 4 (d_law_number_told_b1) (d_law_number_told_b2))
    (sRet (dTup (dCons (dVar 3) (dCons (dVar 2) dNil)))))))
noncomputable def F_law_number_told : Fn := runD 5 d_law_number_told
theorem r_number_told {e : Int} {ws S : List Int} {n f : Int} {O : List (List Int)} (p : S.Perm ws) (h1 : 1 ≤ e) {r : List Int} {x : T} (hx : SqI x r) (hl : r.length ≤ 100000) {k : Nat} (hf : flr e ws r = true) (hk : O.findIdx? (fun x => decide (x = r)) = some k) (m : List MO) : callP F_law_number_told m [planT e S n f O, x] = .ok (.tup [.int (k : Int), .lst []]) m := by
  refine callP_of (t := .tup [.int (k : Int), .lst []]) (m' := []) (by simp [T.cleans, T.clean, planT_clean, hx.cl]) ?_ (reify_clean rfl)
  have t := fun m => r_number (n := n) (f := f) p h1 hx hl hf hk m
  unfold F_law_number_told runD d_law_number_told
  simp [s_try, d_law_number_told_b1, t, Dn.alloc, most]
theorem x_number_told {e : Int} {ws S : List Int} {n f : Int} {O : List (List Int)} (p : S.Perm ws) (h1 : 1 ≤ e) {r : List Int} {x : T} (hx : SqI x r) (hf : flr e ws r = false) (m : List MO) : callP F_law_number_told m [planT e S n f O, x] = .ok (.tup [.non, .lst [.bl true, .bl true, .bl false]]) m := by
  refine callP_of (t := .tup [.non, .lst [.bl true, .bl true, .bl false]]) (m' := []) (by simp [T.cleans, T.clean, planT_clean, hx.cl]) ?_ (reify_clean rfl)
  have t := fun m => x_number (n := n) (f := f) (O := O) p h1 hx hf m
  unfold F_law_number_told runD d_law_number_told
  simp [s_try, d_law_number_told_b1, d_law_number_told_b2, t, Dn.alloc, most, is_UnknownCourse, is_ValueError, is_NotFilled, List.lookup]
noncomputable def d_law_kept_b1 : DS := (sIf (dOr (dNot (dTest (dCB (callP F_law_whole) (dCons (dOp oIx (dVar 0) (dVar 2)) dNil)))) (dTest (dOp (oEq true) (dOp oIx (dVar 0) (dVar 2)) (dOp oIx (dVar 1) (dVar 2))))) (sRet (dC (.bl false))) sNext)
noncomputable def d_law_kept : DS := (sSeq (sIf (dTest (dOp (oEq true) (dCB bLen (dCons (dVar 0) dNil)) (dCB bLen (dCons (dVar 1) dNil)))) (sRet (dC (.bl false))) sNext)
    (sSeq (sFor (iRng1 (dCons (dCB bLen (dCons (dVar 1) dNil)) dNil)) [2] (gName 2) (d_law_kept_b1))
    (sRet (dC (.bl true)))))
noncomputable def F_law_kept : Fn := runD 3 d_law_kept
theorem r_law_kept (a b : List Int) {x : T} (hx : SqI x a) (hl : b.length < 50000) (m : List MO) : callP F_law_kept m [x, encR b] = .ok (.bl (decide (a = b))) m := by
  refine callP_of (t := .bl (decide (a = b))) (m' := []) (by simp [T.cleans, T.clean, encR, hx.cl]) ?_ (reify_clean rfl)
  unfold F_law_kept runD d_law_kept
  have lb := fun m => (sq_enc b).len m
  by_cases h : a.length = b.length
  · have loop := forD_find (src := ⟨none, rngT 0 b.length⟩) (ks := [2]) (g := gName 2) (b := d_law_kept_b1) (ρ := ⟨[some x, some (encR b), none], []⟩) (t := .bl false) (m := []) rfl (fun k : Nat => T.int (k : Int)) (fun k => decide (a[k]? ≠ b[k]?)) (List.range b.length) (fun k hk => by
      have hk := List.mem_range.mp hk
      have ea := List.getElem?_eq_getElem (l := a) (i := k) (by (first|lia|omega))
      have eb := List.getElem?_eq_getElem (l := b) (i := k) hk
      have ia := fun m => hx.ix ea m
      have ib := fun m => (sq_enc b).ix eb m
      unfold d_law_kept_b1
      by_cases e : a[k] = b[k]
      · rw [if_neg (by simp [ea, eb, e])]
        refine ⟨⟨[some x, some (encR b), some (.int k)], []⟩, ?_, rfl⟩
        simp [ia, ib, r_law_whole, e]
      · rw [if_pos (by simp [ea, eb, e])]
        simp [ia, ib, r_law_whole, e])
    rw [← rng_map] at loop
    simp [hx.len, lb, h, big_ok (n := b.length) (by (first|lia|omega))]
    rw [loop]
    by_cases e : a = b
    · subst e
      simp
    · have : (List.range b.length).any (fun k => decide (a[k]? ≠ b[k]?)) = true := by
        rw [List.any_eq_true]
        apply Decidable.byContradiction
        intro hn
        refine e (List.ext_getElem? fun i => ?_)
        by_cases hi : i < b.length
        · apply Decidable.byContradiction
          intro hne
          exact hn ⟨i, List.mem_range.mpr hi, by simpa using hne⟩
        · rw [List.getElem?_eq_none (by (first|lia|omega)), List.getElem?_eq_none (by (first|lia|omega))]
      rw [this]
      simp [e]
  · have e : a ≠ b := fun z => h (by rw [z])
    have h' : ¬ ((a.length : Int) = (b.length : Int)) := by (first|lia|omega)
    simp [hx.len, lb, h', e]
noncomputable def d_law_one : DS := (sSeq (sAsg (dCB (callP F_law_row) (dCons (dVar 2) (dCons (dOp oIx (dVar 1) (dVar 3)) dNil))) (gName 5))
    (sSeq (sAsg (dCB (callT F_law_row_told) (dCons (dVar 0) (dCons (dVar 3) dNil))) (gTup [(gName 6), (gName 7)]))
    (sSeq (sIf (dOr (dTest (dOp (oEq true) (dVar 7) (dLst false dNil))) (dNot (dTest (dCB (callC F_law_same) (dCons (dVar 6) (dCons (dVar 5) dNil)))))) (sRet (dC (.bl false))) sNext)
    (sSeq (sExpr (dMethL mAppend (dVar 6) (dCons (dC (.int 3)) dNil)))
    (sSeq (sAsg (dOp oIx (dLst false (dCons (dCB (bList false) (dCons (dVar 5) dNil)) (dCons (dCB bTuple (dCons (dVar 5) dNil)) dNil))) (dVar 4)) (gName 8))
    (sSeq (sAsg (dCB (callP F_law_number_told) (dCons (dVar 0) (dCons (dVar 8) dNil))) (gTup [(gName 9), (gName 7)]))
    (sSeq (sIf (dOr (dTest (dOp (oEq true) (dVar 7) (dLst false dNil))) (dOr (dNot (dTest (dCB (callP F_law_whole) (dCons (dVar 9) dNil)))) (dOr (dTest (dOp (oEq true) (dVar 9) (dVar 3))) (dNot (dTest (dCB (callP F_law_kept) (dCons (dVar 8) (dCons (dVar 5) dNil)))))))) (sRet (dC (.bl false))) sNext)
    (sSeq (sAsg (dCB (callT F_law_row_told) (dCons (dVar 0) (dCons (dVar 3) dNil))) (gTup [(gName 6), (gName 7)]))
    (sRet (dAndV (dOp (oEq false) (dVar 7) (dLst false dNil)) (dCB (callC F_law_same) (dCons (dVar 6) (dCons (dVar 5) dNil)))))))))))))
noncomputable def F_law_one : Fn := runD 10 d_law_one
theorem r_law_one {e : Int} {ws S : List Int} {n f : Int} {O : List (List Int)} (p : S.Perm ws) (w : L2.WOk ws) (h1 : 1 ≤ e) (h12 : e ≤ 12) (c : Crs e ws O) {i : Nat} (hi : i < O.length) (b : Int) (hb : b = 0 ∨ b = 1) (m : List MO) : callP F_law_one m [planT e S n f O, mksT O, .int e, .int (i : Int), .int b] = .ok (.bl true) m := by
  have ei := List.getElem?_eq_getElem hi
  have hm := (c.mem O[i]).mp (List.getElem_mem hi)
  have hs := c.short w h12 O[i] (List.getElem_mem hi)
  have hne : O[i] ≠ [] := fun z => by rw [z] at hm; have := hm.2; simp at this; (first|lia|omega)
  have hf : flr e ws O[i] = true := by unfold flr; exact decide_eq_true hm
  have hk := find_at c.nd ei
  have ix := fun m => mks_ix ei m
  have lr := fun m => r_law_row hne hm.2 (by (first|lia|omega)) m
  generalize O[i] = r at *
  have t := fun m => t_row_told e S n f O ei (by (first|lia|omega)) m
  have sm := fun {mm : List MO} {k : Nat} (hk : mm[k]? = some (.lst (r.map .int))) => c_law_same r (by (first|lia|omega)) hk
  simp only [decide_true] at sm
  have nt := fun {x : T} (hx : SqI x r) m => r_number_told (n := n) (f := f) p h1 hx (by (first|lia|omega)) hf hk m
  have kp := fun {x : T} (hx : SqI x r) m => r_law_kept r r hx (by (first|lia|omega)) m
  simp only [decide_true] at kp
  have bl := fun m => (sq_enc r).list (by (first|lia|omega)) m
  have bt : ∀ m, bTuple m [encR r] = .ok (tupR r) m := fun m => rfl
  have ne1 : ∀ m : List MO, oEq true m (.lst []) (.lst []) = .ok (.bl false) m := fun m => by simp [oEq, deref, T.akin, T.beq]
  have ne2 : ∀ m : List MO, oEq false m (.lst []) (.lst []) = .ok (.bl true) m := fun m => by simp [oEq, deref, T.akin, T.beq]
  refine callP_of (t := .bl true) (m' := [.lst (r.map .int ++ [.int 3]), .lst (r.map .int)]) (by simp [T.cleans, T.clean, planT_clean, mksT_clean]) ?_ (reify_clean rfl)
  have sm0 := sm (mm := [.lst (r.map .int)]) (k := 0) rfl
  have sm1 := sm (mm := [.lst (r.map .int ++ [.int 3]), .lst (r.map .int)]) (k := 1) rfl
  unfold F_law_one runD d_law_one
  rcases hb with rfl | rfl
  · have i0 : ∀ m, oIx m (.lst [encR r, tupR r]) (.int 0) = .ok (encR r) m := fun m => rfl
    have n0 := fun m => nt (sq_enc r) m
    have k0 := fun m => kp (sq_enc r) m
    simp [ix, lr, t, ne1, ne2, sm0, sm1, litems, mAppend, most, show r.length < 100000 by (first|lia|omega), bl, bt, Dn.alloc, i0, n0, r_law_whole, k0]
  · have i0 : ∀ m, oIx m (.lst [encR r, tupR r]) (.int 1) = .ok (tupR r) m := fun m => rfl
    have n0 := fun m => nt (sq_tup r) m
    have k0 := fun m => kp (sq_tup r) m
    simp [ix, lr, t, ne1, ne2, sm0, sm1, litems, mAppend, most, show r.length < 100000 by (first|lia|omega), bl, bt, Dn.alloc, i0, n0, r_law_whole, k0]
noncomputable def d_law_spoiled_row : DS := (sSeq (sAsg (dOp oMod (dVar 3) (dC (.int 8))) (gName 4))
    (sSeq (sAsg (dOp oMod (dOp oDiv (dVar 3) (dC (.int 8))) (dCB bLen (dCons (dVar 0) dNil))) (gName 5))
    (sSeq (sAsg (dSl false (dVar 0) pNone (pSome (dVar 5))) (gName 6))
    (sSeq (sAsg (dOp oIx (dVar 0) (dVar 5)) (gName 7))
    (sSeq (sAsg (dSl false (dVar 0) (pSome (dOp (oAdd false) (dVar 5) (dC (.int 1)))) pNone) (gName 8))
    (sSeq (sIf (dTest (dOp (oEq false) (dVar 4) (dC (.int 0)))) (sRet (dOp (oAdd false) (dVar 6) (dVar 8))) sNext)
    (sSeq (sIf (dTest (dOp (oEq false) (dVar 4) (dC (.int 1)))) (sRet (dOp (oAdd false) (dOp (oAdd false) (dVar 6) (dLst false (dCons (dVar 7) (dCons (dOp oIx (dVar 1) (dOp oMod (dOp oDiv (dVar 3) (dC (.int 64))) (dCB bLen (dCons (dVar 1) dNil)))) dNil)))) (dVar 8))) sNext)
    (sSeq (sIf (dTest (dOp (oEq false) (dVar 4) (dC (.int 2)))) (sRet (dOp (oAdd false) (dOp (oAdd false) (dVar 6) (dLst false (dCons (dOp (oAdd false) (dVar 7) (dC (.int 1))) dNil))) (dVar 8))) sNext)
    (sSeq (sIf (dTest (dOp (oEq false) (dVar 4) (dC (.int 3)))) (sRet (dOp (oAdd false) (dOp (oAdd false) (dVar 6) (dLst false (dCons (dOp oSub (dVar 7) (dC (.int 1))) (dCons (dC (.int 1)) dNil)))) (dVar 8))) sNext)
    (sSeq (sIf (dTest (dOp (oEq false) (dVar 4) (dC (.int 4)))) (sRet (dOp (oAdd false) (dOp (oAdd false) (dVar 6) (dLst false (dCons (dC (.int 0)) (dCons (dVar 7) dNil)))) (dVar 8))) sNext)
    (sSeq (sIf (dTest (dOp (oEq false) (dVar 4) (dC (.int 5)))) (sRet (dOp (oAdd false) (dOp (oAdd false) (dVar 6) (dLst false (dCons (dUn oNeg (dVar 7)) (dCons (dVar 7) (dCons (dVar 7) dNil))))) (dVar 8))) sNext)
    (sSeq (sIf (dTest (dOp (oEq false) (dVar 4) (dC (.int 6)))) (sSeq (sAsg (dOp oPow (dC (.int 10)) (dC (.int 29))) (gName 9))
    (sSeq (sAsg (dLst false (dCons (dLst false dNil) (dCons (dLst false (dCons (dVar 2) dNil)) (dCons (dLst false (dCons (dOp oSub (dVar 2) (dC (.int 2))) (dCons (dC (.int 2)) dNil))) (dCons (dLst false (dCons (dVar 9) (dCons (dOp oSub (dVar 2) (dVar 9)) dNil))) (dCons (dOp (oAdd false) (dVar 0) (dLst false (dCons (dC (.int 100)) dNil))) (dCons (dOp (oMul false) (dLst false (dCons (dVar 7) dNil)) (dC (.int 40))) dNil))))))) (gName 10))
    (sRet (dOp oIx (dVar 10) (dOp oMod (dOp oDiv (dVar 3) (dC (.int 8))) (dC (.int 6))))))) sNext)
    (sRet (dOp (oAdd false) (dVar 0) (dLst false (dCons (dOp oIx (dVar 0) (dC (.int 0))) dNil))))))))))))))))
noncomputable def F_law_spoiled_row : Fn := runD 11 d_law_spoiled_row
theorem cutA {r : List Int} {k : Int} (h0 : 0 ≤ k) (h1 : k ≤ r.length) : cut (r.map T.int) none (some k) = (r.take k.toNat).map .int := by
  unfold cut sIx
  simp only [show ¬ (k < 0) by (first|lia|omega), if_false, List.drop_zero, Nat.sub_zero, List.length_map]
  rw [Nat.min_eq_left (by (first|lia|omega)), List.map_take]
theorem cutB {r : List Int} {k : Int} (h0 : 0 ≤ k) (h1 : k ≤ r.length) : cut (r.map T.int) (some k) none = (r.drop k.toNat).map .int := by
  unfold cut sIx
  simp only [show ¬ (k < 0) by (first|lia|omega), if_false, List.length_map]
  rw [Nat.min_eq_left (by (first|lia|omega)), ← List.map_drop, List.take_of_length_le (by simp)]
noncomputable def rep40 (x : Int) : List Int := List.replicate 40 x
theorem rep40_len (x : Int) : (rep40 x).length = 40 := by simp [rep40]
theorem r_law_spoiled_row (r ws : List Int) (e c : Int) (h0 : 0 < r.length) (h1 : r.length ≤ 40) (w0 : 0 < ws.length) (w1 : ws.length ≤ 40) : ∃ r' : List Int, r'.length ≤ 100 ∧ ∀ m, callP F_law_spoiled_row m [encR r, .lst (ws.map .int), .int e, .int c] = .ok (encR r') m := by
  have key : ∀ r' : List Int, (∃ m', F_law_spoiled_row [encR r, .lst (ws.map .int), .int e, .int c] [] = .ok (encR r') m') → ∀ m, callP F_law_spoiled_row m [encR r, .lst (ws.map .int), .int e, .int c] = .ok (encR r') m := fun r' ⟨m', h⟩ m =>
    callP_of (by simp [T.cleans, T.clean, encR]) h (reify_clean (by simp [encR, T.clean]))
  let s := c / 8 % (r.length : Int)
  have s0 : 0 ≤ s := Int.emod_nonneg _ (by (first|lia|omega))
  have s1 : s < r.length := Int.emod_lt_of_pos _ (by (first|lia|omega))
  let k := s.toNat
  have hk : k < r.length := by (first|lia|omega)
  have ks : ((k : Nat) : Int) = s := by (first|lia|omega)
  let q := c / 64 % (ws.length : Int)
  have q0 : 0 ≤ q := Int.emod_nonneg _ (by (first|lia|omega))
  have q1 : q < ws.length := Int.emod_lt_of_pos _ (by (first|lia|omega))
  have er := List.getElem?_eq_getElem hk
  have ix := fun m => (sq_enc r).ix er m
  rw [ks] at ix
  have eq' := List.getElem?_eq_getElem (l := ws) (i := q.toNat) (by (first|lia|omega))
  have iw := fun m => (sq_lst ws).ix eq' m
  rw [show ((q.toNat : Nat) : Int) = q by (first|lia|omega)] at iw
  have ez := List.getElem?_eq_getElem (l := r) (i := 0) h0
  have iz := fun m => (sq_enc r).ix ez m
  have ln := fun m => (sq_enc r).len m
  have lw := fun m => (sq_lst ws).len m
  have ca : ∀ m, oCut false m (encR r) none (some s) = .ok (encR (r.take k)) m := fun m => by
    simp only [oCut, encR, litems, cutA s0 (Int.le_of_lt s1)]
    simp [Dn.alloc, most, k]; (first|lia|omega)
  have cb : ∀ m, oCut false m (encR r) (some (s + 1)) none = .ok (encR (r.drop (k + 1))) m := fun m => by
    simp only [oCut, encR, litems, cutB (show 0 ≤ s + 1 by (first|lia|omega)) (show s + 1 ≤ r.length by (first|lia|omega)), show (s + 1).toNat = k + 1 by (first|lia|omega)]
    simp [Dn.alloc, most]; (first|lia|omega)
  have ad : ∀ (a b : List Int) m, a.length + b.length ≤ 1000 → oAdd false m (encR a) (encR b) = .ok (encR (a ++ b)) m := fun a b m h => by
    simp [oAdd, encR, litems, Dn.alloc, most, show a.length + b.length ≤ 100000 by (first|lia|omega)]
  have al : ∀ (a : List Int) m, a.length ≤ 1000 → Dn.alloc false (a.map .int) m = .ok (encR a) m := fun a m h => by simp [Dn.alloc, most, encR, show a.length ≤ 100000 by (first|lia|omega)]
  have lt : (r.take k).length ≤ 40 := by simp; (first|lia|omega)
  have ld : (r.drop (k + 1)).length ≤ 40 := by simp; (first|lia|omega)
  have rp : (0 : Int) < (r.length : Int) := by (first|lia|omega)
  have wp : (0 : Int) < (ws.length : Int) := by (first|lia|omega)
  have rb : (r.length : Int) < 1073741824 := by (first|lia|omega)
  have rn : ¬ ((r.length : Int) = 0) := by (first|lia|omega)
  have rnil : r ≠ [] := fun z => by rw [z] at h0; simp at h0
  have wnil : ws ≠ [] := fun z => by rw [z] at w0; simp at w0
  have ad1 : ∀ (a : List Int) (x : Int) m, a.length ≤ 100 → oAdd false m (encR a) (.lst [.int x]) = .ok (encR (a ++ [x])) m := fun a x m h => ad a [x] m (by simp; (first|lia|omega))
  have ad2 : ∀ (a : List Int) (x y : Int) m, a.length ≤ 100 → oAdd false m (encR a) (.lst [.int x, .int y]) = .ok (encR (a ++ [x, y])) m := fun a x y m h => ad a [x, y] m (by simp; (first|lia|omega))
  have ad3 : ∀ (a : List Int) (x y z : Int) m, a.length ≤ 100 → oAdd false m (encR a) (.lst [.int x, .int y, .int z]) = .ok (encR (a ++ [x, y, z])) m := fun a x y z m h => ad a [x, y, z] m (by simp; (first|lia|omega))
  have h8 : c % 8 = 0 ∨ c % 8 = 1 ∨ c % 8 = 2 ∨ c % 8 = 3 ∨ c % 8 = 4 ∨ c % 8 = 5 ∨ c % 8 = 6 ∨ c % 8 = 7 := by (first|lia|omega)
  have pre : ∀ (F : DS), (sSeq (sAsg (dOp oMod (dVar 3) (dC (.int 8))) (gName 4)) (sSeq (sAsg (dOp oMod (dOp oDiv (dVar 3) (dC (.int 8))) (dCB bLen (dCons (dVar 0) dNil))) (gName 5)) (sSeq (sAsg (dSl false (dVar 0) pNone (pSome (dVar 5))) (gName 6)) (sSeq (sAsg (dOp oIx (dVar 0) (dVar 5)) (gName 7)) (sSeq (sAsg (dSl false (dVar 0) (pSome (dOp (oAdd false) (dVar 5) (dC (.int 1)))) pNone) (gName 8)) F))))) ⟨[some (encR r), some (.lst (ws.map .int)), some (.int e), some (.int c), none, none, none, none, none, none, none], []⟩ = F ⟨[some (encR r), some (.lst (ws.map .int)), some (.int e), some (.int c), some (.int (c % 8)), some (.int s), some (encR (r.take k)), some (.int r[k]), some (encR (r.drop (k + 1))), none, none], []⟩ := fun F => by
    simp [ln, h0, ca, cb, ix, s]
  rcases h8 with h | h | h | h | h | h | h | h
  · refine ⟨r.take k ++ r.drop (k + 1), by simp; (first|lia|omega), key _ ⟨[], ?_⟩⟩
    unfold F_law_spoiled_row runD d_law_spoiled_row
    rw [show ([encR r, .lst (ws.map .int), T.int e, .int c].map some ++ List.replicate (11 - [encR r, .lst (ws.map .int), T.int e, .int c].length) none) = [some (encR r), some (.lst (ws.map .int)), some (.int e), some (.int c), none, none, none, none, none, none, none] from rfl, pre, h]
    simp [ad _ _ _ (show (r.take k).length + (r.drop (k + 1)).length ≤ 1000 by (first|lia|omega))]
  · refine ⟨r.take k ++ [r[k], ws[q.toNat]] ++ r.drop (k + 1), by simp; (first|lia|omega), key _ ⟨[], ?_⟩⟩
    have a1 := fun x y m => ad2 (r.take k) x y m (by (first|lia|omega))
    have a2 := fun x y m => ad (r.take k ++ [x, y]) (r.drop (k + 1)) m (by rw [List.length_append]; simp; (first|lia|omega))
    unfold F_law_spoiled_row runD d_law_spoiled_row
    rw [show ([encR r, .lst (ws.map .int), T.int e, .int c].map some ++ List.replicate (11 - [encR r, .lst (ws.map .int), T.int e, .int c].length) none) = [some (encR r), some (.lst (ws.map .int)), some (.int e), some (.int c), none, none, none, none, none, none, none] from rfl, pre, h]
    simp [a1, a2, lw, w0, iw, Dn.alloc, most, q] at *
  · refine ⟨r.take k ++ [r[k] + 1] ++ r.drop (k + 1), by simp; (first|lia|omega), key _ ⟨[], ?_⟩⟩
    have a1 := fun x m => ad1 (r.take k) x m (by (first|lia|omega))
    have a2 := fun x m => ad (r.take k ++ [x]) (r.drop (k + 1)) m (by rw [List.length_append]; simp; (first|lia|omega))
    unfold F_law_spoiled_row runD d_law_spoiled_row
    rw [show ([encR r, .lst (ws.map .int), T.int e, .int c].map some ++ List.replicate (11 - [encR r, .lst (ws.map .int), T.int e, .int c].length) none) = [some (encR r), some (.lst (ws.map .int)), some (.int e), some (.int c), none, none, none, none, none, none, none] from rfl, pre, h]
    simp [a1, a2, Dn.alloc, most]
  · refine ⟨r.take k ++ [r[k] - 1, 1] ++ r.drop (k + 1), by simp; (first|lia|omega), key _ ⟨[], ?_⟩⟩
    have a1 := fun x y m => ad2 (r.take k) x y m (by (first|lia|omega))
    have a2 := fun x y m => ad (r.take k ++ [x, y]) (r.drop (k + 1)) m (by rw [List.length_append]; simp; (first|lia|omega))
    unfold F_law_spoiled_row runD d_law_spoiled_row
    rw [show ([encR r, .lst (ws.map .int), T.int e, .int c].map some ++ List.replicate (11 - [encR r, .lst (ws.map .int), T.int e, .int c].length) none) = [some (encR r), some (.lst (ws.map .int)), some (.int e), some (.int c), none, none, none, none, none, none, none] from rfl, pre, h]
    simp [a1, a2, Dn.alloc, most]
  · refine ⟨r.take k ++ [0, r[k]] ++ r.drop (k + 1), by simp; (first|lia|omega), key _ ⟨[], ?_⟩⟩
    have a1 := fun x y m => ad2 (r.take k) x y m (by (first|lia|omega))
    have a2 := fun x y m => ad (r.take k ++ [x, y]) (r.drop (k + 1)) m (by rw [List.length_append]; simp; (first|lia|omega))
    unfold F_law_spoiled_row runD d_law_spoiled_row
    rw [show ([encR r, .lst (ws.map .int), T.int e, .int c].map some ++ List.replicate (11 - [encR r, .lst (ws.map .int), T.int e, .int c].length) none) = [some (encR r), some (.lst (ws.map .int)), some (.int e), some (.int c), none, none, none, none, none, none, none] from rfl, pre, h]
    simp [a1, a2, Dn.alloc, most]
  · refine ⟨r.take k ++ [-r[k], r[k], r[k]] ++ r.drop (k + 1), by simp; (first|lia|omega), key _ ⟨[], ?_⟩⟩
    have a1 := fun x y z m => ad3 (r.take k) x y z m (by (first|lia|omega))
    have a2 := fun x y z m => ad (r.take k ++ [x, y, z]) (r.drop (k + 1)) m (by rw [List.length_append]; simp; (first|lia|omega))
    unfold F_law_spoiled_row runD d_law_spoiled_row
    rw [show ([encR r, .lst (ws.map .int), T.int e, .int c].map some ++ List.replicate (11 - [encR r, .lst (ws.map .int), T.int e, .int c].length) none) = [some (encR r), some (.lst (ws.map .int)), some (.int e), some (.int c), none, none, none, none, none, none, none] from rfl, pre, h]
    simp [a1, a2, Dn.alloc, most]
  · have h6 : c / 8 % 6 = 0 ∨ c / 8 % 6 = 1 ∨ c / 8 % 6 = 2 ∨ c / 8 % 6 = 3 ∨ c / 8 % 6 = 4 ∨ c / 8 % 6 = 5 := by (first|lia|omega)
    have a1 := fun x m => ad1 r x m (by (first|lia|omega))
    have mu : ∀ (x : Int) m, oMul false m (.lst [.int x]) (.int 40) = .ok (encR (rep40 x)) m := fun x m => rfl
    let pick : List (List Int) := [[], [e], [e - 2, 2], [100000000000000000000000000000, e - 100000000000000000000000000000], r ++ [100], rep40 r[k]]
    have hp : ∀ j : Nat, j < 6 → ∀ m, oIx m (.lst [.lst [], .lst [.int e], .lst [.int (e - 2), .int 2], .lst [.int 100000000000000000000000000000, .int (e - 100000000000000000000000000000)], encR (r ++ [100]), encR (rep40 r[k])]) (.int (j : Int)) = .ok (encR (pick.getD j [])) m := fun j hj m => by
      have := ix_at encR (l := pick) (k := j) (a := pick.getD j []) (by
        rw [List.getD_eq_getElem?_getD, List.getElem?_eq_getElem (by simpa [pick] using hj)]; rfl) m
      exact this
    have hlen : ∀ j : Nat, j < 6 → (pick.getD j []).length ≤ 100 := fun j hj => by
      have : j = 0 ∨ j = 1 ∨ j = 2 ∨ j = 3 ∨ j = 4 ∨ j = 5 := by (first|lia|omega)
      rcases this with rfl | rfl | rfl | rfl | rfl | rfl <;> simp [pick, rep40_len] <;> (first|lia|omega)
    have j0 : 0 ≤ c / 8 % 6 := by (first|lia|omega)
    have j6 : c / 8 % 6 < 6 := by (first|lia|omega)
    refine ⟨pick.getD (c / 8 % 6).toNat [], hlen _ (by (first|lia|omega)), key _ ⟨[], ?_⟩⟩
    have px := hp (c / 8 % 6).toNat (by (first|lia|omega)) []
    generalize pick.getD (c / 8 % 6).toNat [] = res at px
    rw [show (((c / 8 % 6).toNat : Nat) : Int) = c / 8 % 6 by (first|lia|omega)] at px
    unfold F_law_spoiled_row runD d_law_spoiled_row
    rw [show ([encR r, .lst (ws.map .int), T.int e, .int c].map some ++ List.replicate (11 - [encR r, .lst (ws.map .int), T.int e, .int c].length) none) = [some (encR r), some (.lst (ws.map .int)), some (.int e), some (.int c), none, none, none, none, none, none, none] from rfl, pre, h]
    simp [Dn.alloc, most, a1, mu, px]
  · refine ⟨r ++ [r[0]], by simp; (first|lia|omega), key _ ⟨[], ?_⟩⟩
    have a1 := fun x m => ad1 r x m (by (first|lia|omega))
    have iz' : ∀ m, oIx m (encR r) (.int 0) = .ok (.int r[0]) m := iz
    unfold F_law_spoiled_row runD d_law_spoiled_row
    rw [show ([encR r, .lst (ws.map .int), T.int e, .int c].map some ++ List.replicate (11 - [encR r, .lst (ws.map .int), T.int e, .int c].length) none) = [some (encR r), some (.lst (ws.map .int)), some (.int e), some (.int c), none, none, none, none, none, none, none] from rfl, pre, h]
    simp [a1, Dn.alloc, most, iz']
noncomputable def d_law_fits_b1 : DS := (sSeq (sIf (dTest (dOp (oIn true) (dVar 4) (dVar 1))) (sRet (dC (.bl false))) sNext)
    (sAsg (dOp oSub (dVar 3) (dVar 4)) (gName 3)))
noncomputable def d_law_fits : DS := (sSeq (sAsg (dVar 0) (gName 3))
    (sSeq (sFor (iSeq (dVar 2)) [4] (gName 4) (d_law_fits_b1))
    (sRet (dOp (oEq false) (dVar 3) (dC (.int 0))))))
noncomputable def F_law_fits : Fn := runD 5 d_law_fits
theorem fold_rest : ∀ (l : List Int) (s : Int), l.foldl (fun s a => s - a) s = s - l.sum
  | [], s => by simp
  | a :: r, s => by rw [List.foldl_cons, fold_rest r, List.sum_cons]; (first|lia|omega)
theorem r_law_fits {e : Int} {ws r : List Int} (hm : ∀ w ∈ r, w ∈ ws) (hs : r.sum = e) (m : List MO) : callP F_law_fits m [.int e, .lst (ws.map .int), encR r] = .ok (.bl true) m := by
  refine callP_of (t := .bl true) (m' := []) (by simp [T.cleans, T.clean, encR]) ?_ (reify_clean rfl)
  have loop := (forD_fold (src := ⟨none, r.map .int⟩) (ks := [4]) (g := gName 4) (b := d_law_fits_b1) rfl T.int (fun s : Int => ⟨[some (.int e), some (.lst (ws.map .int)), some (.lst (r.map .int)), some (.int s), none], []⟩) (fun s a => s - a) (fun l _ => ∀ w ∈ l, w ∈ ws) (fun s a t i => by
    have hin := o_inI true [] a (.lst (ws.map .int)) ws rfl
    have ha := i a (List.mem_cons_self ..)
    refine ⟨fun x hx => i x (List.mem_cons_of_mem _ hx), ⟨[some (.int e), some (.lst (ws.map .int)), some (.lst (r.map .int)), some (.int (s - a)), some (.int a)], []⟩, ?_, rfl⟩
    unfold d_law_fits_b1
    simp [hin, ha]) r e hm).1
  rw [fold_rest, hs] at loop
  unfold F_law_fits runD d_law_fits encR
  simp at loop
  simp [srcOf, loop]
theorem r_law_fitsG (e : Int) (ws r : List Int) (m : List MO) : callP F_law_fits m [.int e, .lst (ws.map .int), encR r] = .ok (.bl (flr e ws r)) m := by
  refine callP_of (t := .bl (flr e ws r)) (m' := []) (by simp [T.cleans, T.clean, encR]) ?_ (reify_clean rfl)
  have loop := forD_until (src := ⟨none, r.map .int⟩) (ks := [4]) (g := gName 4) (b := d_law_fits_b1) (t := .bl false) (m := []) rfl T.int (fun w => decide (w ∉ ws)) (fun s : Int => ⟨[some (.int e), some (.lst (ws.map .int)), some (.lst (r.map .int)), some (.int s), none], []⟩) (fun s a => s - a) (fun s a => by
    have hin := o_inI true [] a (.lst (ws.map .int)) ws rfl
    unfold d_law_fits_b1
    by_cases h : a ∈ ws
    · rw [if_neg (by simpa using h)]
      refine ⟨⟨[some (.int e), some (.lst (ws.map .int)), some (.lst (r.map .int)), some (.int (s - a)), some (.int a)], []⟩, ?_, rfl⟩
      simp [hin, h]
    · rw [if_pos (by simpa using h)]
      simp [hin, h]) r e
  rw [fold_rest] at loop
  unfold F_law_fits runD d_law_fits encR flr
  by_cases h : r.any (fun w => decide (w ∉ ws)) = true
  · rw [if_pos h] at loop
    have : ¬ ((∀ w ∈ r, w ∈ ws) ∧ r.sum = e) := fun z => by
      rw [List.any_eq_true] at h
      obtain ⟨w, hw, q⟩ := h
      exact (by simpa using q : w ∉ ws) (z.1 w hw)
    rw [decide_eq_false this]
    simp [srcOf, loop]
  · rw [if_neg h] at loop
    have hall : ∀ w ∈ r, w ∈ ws := fun w hw => by
      apply Decidable.byContradiction
      intro hn
      exact h (List.any_eq_true.mpr ⟨w, hw, by simpa using hn⟩)
    have e1 : decide ((∀ w ∈ r, w ∈ ws) ∧ r.sum = e) = decide (e - r.sum = 0) := by
      congr 1
      exact propext ⟨fun z => by have := z.2; (first|lia|omega), fun z => ⟨hall, by (first|lia|omega)⟩⟩
    rw [e1]
    simp [srcOf, loop]
noncomputable def d_law_b1 : DS := (sSeq (sAsg (dCB (callP F_law_row_told) (dCons (dVar 5) (dCons (dVar 10) dNil))) (gTup [(gName 11), (gName 12)]))
    (sIf (dTest (dOp (oEq true) (dVar 12) (dLst false (dCons (dC (.bl true)) (dCons (dC (.bl true)) (dCons (dC (.bl false)) dNil)))))) (sRet (dC (.bl false))) sNext))
noncomputable def d_law_s10 : DS := (sSeq (sAsg (dCB (callP F_law_number_told) (dCons (dVar 5) (dCons (dCB (bList false) (dCons (dVar 13) dNil)) dNil))) (gTup [(gName 14), (gName 12)]))
    (sSeq (sIf (dTest (dCB (callP F_law_fits) (dCons (dVar 1) (dCons (dVar 2) (dCons (dVar 13) dNil))))) (sRet (dAndV (dOp (oEq false) (dVar 12) (dLst false dNil)) (dAndV (dCB (callP F_law_whole) (dCons (dVar 14) dNil)) (dOp (oEq false) (dVar 14) (dMethL mIndex (dVar 6) (dCons (dCB (callP F_law_marks) (dCons (dVar 13) dNil)) dNil)))))) sNext)
    (sRet (dOp (oEq false) (dVar 12) (dLst false (dCons (dC (.bl true)) (dCons (dC (.bl true)) (dCons (dC (.bl false)) dNil))))))))
noncomputable def d_law_s9 : DS := (sSeq (sIf (dAnd (dTest (dOp (oEq false) (dOp oMod (dCB (callP F_law_at) (dCons (dVar 0) (dCons (dC (.int 10)) dNil))) (dC (.int 4))) (dC (.int 3)))) (dTest (dOp (oEq true) (dVar 6) (dLst false dNil)))) (sAsg (dCB (callP F_law_row) (dCons (dVar 1) (dCons (dOp oIx (dVar 6) (dOp oMod (dOp oDiv (dCB (callP F_law_at) (dCons (dVar 0) (dCons (dC (.int 10)) dNil))) (dC (.int 4))) (dCB bLen (dCons (dVar 6) dNil)))) dNil))) (gName 13)) sNext)
    (d_law_s10))
noncomputable def d_law_s6 : DS := (sSeq (sAsg (dOp oMod (dCB (callP F_law_at) (dCons (dVar 0) (dCons (dC (.int 9)) dNil))) (dOp oPow (dC (.int 10)) (dC (.int 29)))) (gName 9))
    (sSeq (sFor (iSeq (dLst false (dCons (dUn oNeg (dC (.int 1))) (dCons (dCB bLen (dCons (dVar 6) dNil)) (dCons (dOp (oAdd false) (dOp (oAdd false) (dCB bLen (dCons (dVar 6) dNil)) (dC (.int 1))) (dVar 9)) (dCons (dOp oSub (dUn oNeg (dC (.int 2))) (dVar 9)) dNil)))))) [10, 11, 12] (gName 10) (d_law_b1))
    (sSeq (sAsg (dCB (callP F_law_spoiled_row) (dCons (dVar 8) (dCons (dVar 2) (dCons (dVar 1) (dCons (dOp oDiv (dCB (callP F_law_at) (dCons (dVar 0) (dCons (dC (.int 10)) dNil))) (dC (.int 4))) dNil))))) (gName 13))
    (d_law_s9))))
noncomputable def d_law_s4 : DS := (sSeq (sAsg (dCB (bList false) (dCons (dVar 2) dNil)) (gName 8))
    (sSeq (sIf (dTest (dOp (oEq true) (dVar 6) (dLst false dNil))) (sSeq (sAsg (dCB (callP F_law_row) (dCons (dVar 1) (dCons (dOp oIx (dVar 6) (dOp oMod (dVar 7) (dCB bLen (dCons (dVar 6) dNil)))) dNil))) (gName 8))
    (sIf (dNot (dTest (dCB (callP F_law_one) (dCons (dVar 5) (dCons (dVar 6) (dCons (dVar 1) (dCons (dOp oMod (dVar 7) (dCB bLen (dCons (dVar 6) dNil))) (dCons (dOp oMod (dCB (callP F_law_at) (dCons (dVar 0) (dCons (dC (.int 8)) dNil))) (dC (.int 2))) dNil)))))))) (sRet (dC (.bl false))) sNext)) sNext)
    (d_law_s6)))
noncomputable def d_law : DS := (sSeq (sAsg (dCB (callP F_law_measures) (dCons (dVar 0) dNil)) (gTup [(gName 1), (gName 2), (gName 3), (gName 4)]))
    (sSeq (sAsg (dCB (makeP 0 F_Plan___init__) (dCons (dVar 1) (dCons (dCB (bList false) (dCons (dVar 2) dNil)) (dCons (dVar 3) (dCons (dVar 4) dNil))))) (gName 5))
    (sSeq (sAsg (dCB (callP F_law_courses) (dCons (dVar 1) (dCons (dVar 2) dNil))) (gName 6))
    (sSeq (sAsg (dCB (callP F_law_at) (dCons (dVar 0) (dCons (dC (.int 7)) dNil))) (gName 7))
    (d_law_s4)))))
noncomputable def F_law : Fn := runD 15 d_law
theorem law_true (ns : List Int) (hns : ns.length ≤ 63) : ∃ m, F_law [.scr (ns.map .int)] [] = .ok (.bl true) m := by
  obtain ⟨e, ws, n, f, ok, me⟩ := r_law_measures ns []
  obtain ⟨S, O, p, c, pl⟩ := r_PlanS ok []
  have h1 := ok.e1
  have h12 := ok.e12
  have few := c.few
  have w3 := ok.w.three
  have w1 := ok.w.one
  have hs := c.short ok.w h12
  have crs := fun m => r_law_courses ok.w h1 h12 c m
  have bl := fun m => bl_ws (ws := ws) (by (first|lia|omega)) m
  have at_ := fun (k : Int) (hk : 0 ≤ k) (m : List MO) => r_law_at ns k hk m
  let L := fun x7 x8 x9 x10 x11 x12 x13 x14 => [some (T.scr (ns.map .int)), some (.int e), some (.lst (ws.map .int)), some (.int n), some (.int f), some (planT e S n f O), some (mksT O), x7, x8, x9, x10, x11, x12, x13, x14]
  have eqS : ∀ m : List MO, oEq true m (.lst [.bl true, .bl true, .bl false]) (.lst [.bl true, .bl true, .bl false]) = .ok (.bl false) m := fun m => by simp [oEq, deref, T.akin, T.beq]
  have eqS' : ∀ m : List MO, oEq false m (.lst [.bl true, .bl true, .bl false]) (.lst [.bl true, .bl true, .bl false]) = .ok (.bl true) m := fun m => by simp [oEq, deref, T.akin, T.beq]
  have eqE : ∀ m : List MO, oEq false m (.lst []) (.lst []) = .ok (.bl true) m := fun m => by simp [oEq, deref, T.akin, T.beq]
  have g1 := Int.emod_nonneg (L2.cell ns 9) (show (100000000000000000000000000000 : Int) ≠ 0 by decide)
  have g2 := Int.emod_lt_of_pos (L2.cell ns 9) (show (0 : Int) < 100000000000000000000000000000 by decide)
  have lp : ∀ x7 x8 x9, forD ⟨none, [.int (-1), .int (O.length : Int), .int ((O.length : Int) + 1 + L2.cell ns 9 % 100000000000000000000000000000), .int (-2 - L2.cell ns 9 % 100000000000000000000000000000)]⟩ [10, 11, 12] (gName 10) d_law_b1 [.int (-1), .int (O.length : Int), .int ((O.length : Int) + 1 + L2.cell ns 9 % 100000000000000000000000000000), .int (-2 - L2.cell ns 9 % 100000000000000000000000000000)] ⟨L x7 x8 x9 none none none none none, []⟩ = .go ⟨L x7 x8 x9 none none none none none, []⟩ := fun x7 x8 x9 => by
    generalize L2.cell ns 9 % 100000000000000000000000000000 = G at g1 g2
    have := forD_same (src := ⟨none, [.int (-1), .int (O.length : Int), .int ((O.length : Int) + 1 + G), .int (-2 - G)]⟩) (ks := [10, 11, 12]) (g := gName 10) (b := d_law_b1) (ρ := ⟨L x7 x8 x9 none none none none none, []⟩) rfl T.int [-1, (O.length : Int), (O.length : Int) + 1 + G, -2 - G] (fun x hx => by
      have hx' : ¬ (0 ≤ x ∧ x < (O.length : Int)) ∧ (-(10 ^ 30) < x ∧ x < 10 ^ 30) := by
        simp only [List.mem_cons, List.not_mem_nil, or_false] at hx
        rcases hx with rfl | rfl | rfl | rfl <;> constructor <;> (first|lia|omega)
      have t := fun m => x_row_told e S n f O hx'.1 (tame_small hx'.2) m
      refine ⟨⟨L x7 x8 x9 (some (.int x)) (some .non) (some (.lst [.bl true, .bl true, .bl false])) none none, []⟩, ?_, rfl⟩
      unfold d_law_b1
      simp [L, t, Dn.alloc, most, eqS])
    simpa using this
  have qE : O = [] → ∀ m : List MO, oEq true m (mksT O) (.lst []) = .ok (.bl false) m := fun hO m => by rw [hO]; simp [mksT, oEq, deref, T.akin, T.beq]
  have qN : O ≠ [] → ∀ m : List MO, oEq true m (mksT O) (.lst []) = .ok (.bl true) m := fun hO m => by
    obtain ⟨r0, O0, rfl⟩ := List.exists_cons_of_ne_nil hO
    simp [mksT, oEq, deref, T.akin, T.beq]
  obtain ⟨base, bl0, bl1, hb⟩ : ∃ base : List Int, 0 < base.length ∧ base.length ≤ 40 ∧ d_law_s4 ⟨L (some (.int (L2.cell ns 7))) none none none none none none none, []⟩ = d_law_s6 ⟨L (some (.int (L2.cell ns 7))) (some (encR base)) none none none none none none, []⟩ := by
    by_cases hO : O = []
    · have q := qE hO
      exact ⟨ws, w1, by (first|lia|omega), by unfold d_law_s4; simp [L, bl, Dn.alloc, most, q, encR]⟩
    · have pn : 0 < O.length := List.length_pos_iff.mpr hO
      have q := qN hO
      have i0 := Int.emod_nonneg (L2.cell ns 7) (show (O.length : Int) ≠ 0 by (first|lia|omega))
      have i1 := Int.emod_lt_of_pos (L2.cell ns 7) (show 0 < (O.length : Int) by (first|lia|omega))
      have hi : (L2.cell ns 7 % (O.length : Int)).toNat < O.length := by (first|lia|omega)
      have ic : (((L2.cell ns 7 % (O.length : Int)).toNat : Nat) : Int) = L2.cell ns 7 % (O.length : Int) := by (first|lia|omega)
      have ei := List.getElem?_eq_getElem hi
      have hm := (c.mem _).mp (List.getElem_mem hi)
      have hsh := hs _ (List.getElem_mem hi)
      have ix := fun m => mks_ix ei m
      have b8 : L2.cell ns 8 % 2 = 0 ∨ L2.cell ns 8 % 2 = 1 := by (first|lia|omega)
      have on := fun m => r_law_one (n := n) (f := f) p ok.w h1 h12 c hi (L2.cell ns 8 % 2) b8 m
      have hne : O[(L2.cell ns 7 % (O.length : Int)).toNat] ≠ [] := fun z => by rw [z] at hm; have := hm.2; simp at this; (first|lia|omega)
      have lr := fun m => r_law_row hne hm.2 (by (first|lia|omega)) m
      rw [ic] at ix on
      refine ⟨O[(L2.cell ns 7 % (O.length : Int)).toNat], List.length_pos_iff.mpr hne, by (first|lia|omega), ?_⟩
      unfold d_law_s4
      simp [L, bl, Dn.alloc, most, q, pn, ix, lr, at_ 8, on]
  obtain ⟨sp, spl, spr⟩ := r_law_spoiled_row base ws e (L2.cell ns 10 / 4) bl0 bl1 w1 (by (first|lia|omega))
  obtain ⟨R, Rl, hR⟩ : ∃ R : List Int, R.length ≤ 100 ∧ ∀ x10, d_law_s9 ⟨L (some (.int (L2.cell ns 7))) (some (encR base)) x10 none none none (some (encR sp)) none, []⟩ = d_law_s10 ⟨L (some (.int (L2.cell ns 7))) (some (encR base)) x10 none none none (some (encR R)) none, []⟩ := by
    by_cases h3 : L2.cell ns 10 % 4 = 3
    · by_cases hO : O = []
      · have q := qE hO
        exact ⟨sp, spl, fun x10 => by unfold d_law_s9; simp [L, at_ 10, h3, q, Dn.alloc, most]⟩
      · have q := qN hO
        have pn : 0 < O.length := List.length_pos_iff.mpr hO
        have i0 := Int.emod_nonneg (L2.cell ns 10 / 4) (show (O.length : Int) ≠ 0 by (first|lia|omega))
        have i1 := Int.emod_lt_of_pos (L2.cell ns 10 / 4) (show 0 < (O.length : Int) by (first|lia|omega))
        have hi : (L2.cell ns 10 / 4 % (O.length : Int)).toNat < O.length := by (first|lia|omega)
        have ei := List.getElem?_eq_getElem hi
        have hm := (c.mem _).mp (List.getElem_mem hi)
        have hsh := hs _ (List.getElem_mem hi)
        have ix := fun m => mks_ix ei m
        have hne : O[(L2.cell ns 10 / 4 % (O.length : Int)).toNat] ≠ [] := fun z => by rw [z] at hm; have := hm.2; simp at this; (first|lia|omega)
        have lr := fun m => r_law_row hne hm.2 (by (first|lia|omega)) m
        rw [show (((L2.cell ns 10 / 4 % (O.length : Int)).toNat : Nat) : Int) = L2.cell ns 10 / 4 % (O.length : Int) by (first|lia|omega)] at ix
        exact ⟨O[(L2.cell ns 10 / 4 % (O.length : Int)).toNat], by (first|lia|omega), fun x10 => by unfold d_law_s9; simp [L, at_ 10, h3, q, Dn.alloc, most, pn, ix, lr]⟩
    · exact ⟨sp, spl, fun x10 => by unfold d_law_s9; simp [L, at_ 10, h3]⟩
  have lsR := fun m => (sq_enc R).list (by (first|lia|omega)) m
  have fit := fun m => r_law_fitsG e ws R m
  have mid : d_law_s6 ⟨L (some (.int (L2.cell ns 7))) (some (encR base)) none none none none none none, []⟩ = d_law_s9 ⟨L (some (.int (L2.cell ns 7))) (some (encR base)) (some (.int (L2.cell ns 9 % 100000000000000000000000000000))) none none none (some (encR sp)) none, []⟩ := by
    have lp' := lp (some (.int (L2.cell ns 7))) (some (encR base)) (some (.int (L2.cell ns 9 % 100000000000000000000000000000)))
    unfold d_law_s6
    simp only [L] at lp' ⊢
    simp [at_ 9, at_ 10, Dn.alloc, most, srcOf, lp', spr]
  have hR' := hR (some (.int (L2.cell ns 9 % 100000000000000000000000000000)))
  have fin : ∃ m, d_law_s10 ⟨L (some (.int (L2.cell ns 7))) (some (encR base)) (some (.int (L2.cell ns 9 % 100000000000000000000000000000))) none none none (some (encR R)) none, []⟩ = .ret (.bl true) m := by
    refine ⟨[], ?_⟩
    unfold d_law_s10
    by_cases hf : flr e ws R = true
    · have mem := (c.mem R).mpr (of_decide_eq_true (show decide _ = true from hf))
      obtain ⟨k, k1, k2⟩ := find_of_mem mem
      have nt := fun m => r_number_told (n := n) (f := f) p h1 (sq_enc R) (by (first|lia|omega)) hf k1 m
      have mk := fun m => r_law_marks R (by (first|lia|omega)) m
      have ixm := fun m => index_rows (find_at c.nd_jts (show (O.map L2.jts)[k]? = some (L2.jts R) by rw [List.getElem?_map, k2]; rfl)) m
      have ixm' : ∀ m, mIndex m (mksT O) [encR (L2.jts R)] = .ok (.int (k : Int)) m := ixm
      have lm : ∀ m, litems m (mksT O) = some ((O.map L2.jts).map encR) := fun m => rfl
      rw [hf] at fit
      simp [L, lsR, nt, fit, Dn.alloc, most, eqE, r_law_whole, mk, lm, ixm']
    · have hf : flr e ws R = false := by simpa using hf
      have nt := fun m => x_number_told (n := n) (f := f) (O := O) p h1 (sq_enc R) hf m
      rw [hf] at fit
      simp [L, lsR, nt, fit, Dn.alloc, most, eqS']
  obtain ⟨m, fin⟩ := fin
  refine ⟨m, ?_⟩
  unfold F_law runD d_law
  rw [mid, hR', fin] at hb
  simp only [L] at hb
  simp [me, bl, pl, crs, at_ 7, hb]
end Tx
namespace Tx
open PySem L2 Dn
noncomputable def top (i : Nat) : Stmt := PySem.Challenge.pw_shinglelap_k10_course_and_its_number.main.body.getD i (.Pass ⟨0, 0, 0, 0⟩)
noncomputable abbrev s_law_at : Stmt := top 21
noncomputable abbrev s_law_menu : Stmt := top 25
noncomputable abbrev s_law_measures : Stmt := top 26
noncomputable abbrev s_check_eaves : Stmt := top 15
noncomputable abbrev s_check_widths : Stmt := top 16
noncomputable abbrev s_check_distance : Stmt := top 17
noncomputable abbrev s_rows_of_length : Stmt := top 18
noncomputable abbrev s_joints : Stmt := top 7
noncomputable abbrev s_Plan___init__ : Stmt := inClass (top 19) 0
noncomputable abbrev s_law_marks : Stmt := top 27
noncomputable abbrev s_law_courses : Stmt := top 29
noncomputable abbrev s_law_row : Stmt := top 28
noncomputable abbrev s_Plan_is_course : Stmt := inClass (top 19) 7
noncomputable abbrev s_Plan_check_course : Stmt := inClass (top 19) 8
noncomputable abbrev s_Plan_row : Stmt := inClass (top 19) 2
noncomputable abbrev s_law_row_told : Stmt := top 32
noncomputable abbrev s_law_whole : Stmt := top 22
noncomputable abbrev s_law_same : Stmt := top 23
noncomputable abbrev s_fills : Stmt := top 8
noncomputable abbrev s_Plan_number : Stmt := inClass (top 19) 3
noncomputable abbrev s_law_number_told : Stmt := top 33
noncomputable abbrev s_law_kept : Stmt := top 24
noncomputable abbrev s_law_one : Stmt := top 34
noncomputable abbrev s_law_spoiled_row : Stmt := top 31
noncomputable abbrev s_law_fits : Stmt := top 30
noncomputable abbrev s_law : Stmt := top 35
noncomputable abbrev nmW : Nat → List Str
  | 0 => ["eaves", "widths", "near", "far", "order", "marks"]
  | _ => []
noncomputable abbrev clW (C_Plan C_RoofError C_BadMeasure C_UnknownCourse C_NotFilled : Addr) : Nat → Addr
  | 0 => C_Plan
  | 50 => C_RoofError
  | 51 => C_BadMeasure
  | 52 => C_UnknownCourse
  | 53 => C_NotFilled
  | _ => 0
noncomputable abbrev Wk (K : PySem.W.Frag) (C_Plan C_RoofError C_BadMeasure C_UnknownCourse C_NotFilled : Addr) : Wd := ⟨K, clW C_Plan C_RoofError C_BadMeasure C_UnknownCourse C_NotFilled, nmW⟩
section
variable {P : Program} {w : World} {K : PySem.W.Frag} {mg : Str → Option Value} {base : Heap} {C_Plan C_RoofError C_BadMeasure C_UnknownCourse C_NotFilled : Addr}
theorem fldD_eaves (K_Plan : ClsD K mg C_Plan "Plan" ["eaves", "widths", "near", "far", "order", "marks"]) : FldD (Wk K C_Plan C_RoofError C_BadMeasure C_UnknownCourse C_NotFilled) "eaves" [(0, 0)] := (fld_cons (c := 0) (i := 0) rfl (show (nmW 0).Nodup by decide +kernel) K_Plan.cls (K_Plan.no _ (by decide +kernel)) (show (nmW 0).length < 1000 by decide +kernel) fld_nil)
theorem fldD_far (K_Plan : ClsD K mg C_Plan "Plan" ["eaves", "widths", "near", "far", "order", "marks"]) : FldD (Wk K C_Plan C_RoofError C_BadMeasure C_UnknownCourse C_NotFilled) "far" [(0, 3)] := (fld_cons (c := 0) (i := 3) rfl (show (nmW 0).Nodup by decide +kernel) K_Plan.cls (K_Plan.no _ (by decide +kernel)) (show (nmW 0).length < 1000 by decide +kernel) fld_nil)
theorem fldD_marks (K_Plan : ClsD K mg C_Plan "Plan" ["eaves", "widths", "near", "far", "order", "marks"]) : FldD (Wk K C_Plan C_RoofError C_BadMeasure C_UnknownCourse C_NotFilled) "marks" [(0, 5)] := (fld_cons (c := 0) (i := 5) rfl (show (nmW 0).Nodup by decide +kernel) K_Plan.cls (K_Plan.no _ (by decide +kernel)) (show (nmW 0).length < 1000 by decide +kernel) fld_nil)
theorem fldD_near (K_Plan : ClsD K mg C_Plan "Plan" ["eaves", "widths", "near", "far", "order", "marks"]) : FldD (Wk K C_Plan C_RoofError C_BadMeasure C_UnknownCourse C_NotFilled) "near" [(0, 2)] := (fld_cons (c := 0) (i := 2) rfl (show (nmW 0).Nodup by decide +kernel) K_Plan.cls (K_Plan.no _ (by decide +kernel)) (show (nmW 0).length < 1000 by decide +kernel) fld_nil)
theorem fldD_order (K_Plan : ClsD K mg C_Plan "Plan" ["eaves", "widths", "near", "far", "order", "marks"]) : FldD (Wk K C_Plan C_RoofError C_BadMeasure C_UnknownCourse C_NotFilled) "order" [(0, 4)] := (fld_cons (c := 0) (i := 4) rfl (show (nmW 0).Nodup by decide +kernel) K_Plan.cls (K_Plan.no _ (by decide +kernel)) (show (nmW 0).length < 1000 by decide +kernel) fld_nil)
theorem fldD_widths (K_Plan : ClsD K mg C_Plan "Plan" ["eaves", "widths", "near", "far", "order", "marks"]) : FldD (Wk K C_Plan C_RoofError C_BadMeasure C_UnknownCourse C_NotFilled) "widths" [(0, 1)] := (fld_cons (c := 0) (i := 1) rfl (show (nmW 0).Nodup by decide +kernel) K_Plan.cls (K_Plan.no _ (by decide +kernel)) (show (nmW 0).length < 1000 by decide +kernel) fld_nil)
theorem sc_law_at : FnScope ["_law_script", "_law_k"] ["_law_script", "_law_k"] (defScope s_law_at) := ⟨rfl, rfl, rfl, by decide +kernel, rfl, by decide +kernel, by decide +kernel⟩
theorem ok_law_at (F : Fd K mg "_law_at" s_law_at ["_law_script", "_law_k"]) (B : My.Blt mg) : CalD P w K mg base (CXr P w base) 1 "_law_at" ["_law_script", "_law_k"] (spD (Wk K C_Plan C_RoofError C_BadMeasure C_UnknownCourse C_NotFilled) 2 F_law_at) :=
  have SC := sc_law_at
  fd_den F SC fun f cdv A outer s H E hr => show PSs _ _ (tDs _ _ d_law_at) from
    (dss_cons (ds_if (dt_cmp (op_ltT hr.units) os_lt (de_var (pv 1)) (de_callB call_lenQ cs_len rfl B.len_ My.boot_len (da_cons (de_var (pv 0)) da_nil)) (nomark _)) (dss_one (ds_ret (de_ix rfl (de_var (pv 0)) (de_var (pv 1)) (fun _ _ => rfl)))) dss_nil)
    (dss_one (ds_ret de_int)))
theorem sc_law_menu : FnScope ["_law_k", "_law_rows"] ["_law_k"] (defScope s_law_menu) := ⟨rfl, rfl, rfl, by decide +kernel, rfl, by decide +kernel, by decide +kernel⟩
theorem menu_shape : ∃ e1 e2 e3 e4 e5 e6 P, MenuShape s_law_menu "_law_rows" "_law_k" e1 e2 e3 e4 e5 e6 P :=
  ⟨menuL s_law_menu 0, menuL s_law_menu 1, menuL s_law_menu 2, menuL s_law_menu 3, menuL s_law_menu 4, menuL s_law_menu 5, menuP s_law_menu, rfl, rfl, rfl, rfl, rfl, rfl, rfl, fun _ => rfl⟩
theorem ok_law_menu (F : Fd K mg "_law_menu" s_law_menu ["_law_k"]) (B : My.Blt mg) : CalD P w K mg base (CXr P w base) 1 "_law_menu" ["_law_k"] (spD (Wk K C_Plan C_RoofError C_BadMeasure C_UnknownCourse C_NotFilled) 1 F_law_menu) :=
  by
  have SC := sc_law_menu
  obtain ⟨e1, e2, e3, e4, e5, e6, P, M⟩ := menu_shape
  refine fd_den F SC fun f cdv A outer s H E hr => ?_
  rw [M.eq]
  exact show PSs _ _ (tDs _ _ d_law_menu) from
    (dss_cons (ds_set (i := 1) SC.nd rfl (Or.inl rfl) (de_lst (da_intss M.c1 rfl)) (M.w1 _))
    (dss_cons (ds_set (i := 1) SC.nd rfl (Or.inl rfl) (de_op op_addT os_add (de_var (pv 1)) (de_lst (da_intss M.c2 rfl))))
    (dss_cons (ds_set (i := 1) SC.nd rfl (Or.inl rfl) (de_op op_addT os_add (de_var (pv 1)) (de_lst (da_intss M.c3 rfl))))
    (dss_cons (ds_set (i := 1) SC.nd rfl (Or.inl rfl) (de_op op_addT os_add (de_var (pv 1)) (de_lst (da_intss M.c4 rfl))))
    (dss_cons (ds_set (i := 1) SC.nd rfl (Or.inl rfl) (de_op op_addT os_add (de_var (pv 1)) (de_lst (da_intss M.c5 rfl))))
    (dss_cons (ds_set (i := 1) SC.nd rfl (Or.inl rfl) (de_op op_addT os_add (de_var (pv 1)) (de_lst (da_intss M.c6 rfl))))
    (dss_one (ds_ret (de_ix rfl (de_var (pv 1)) (de_op op_mod os_mod (de_var (pv 0)) de_int) (fun _ _ => rfl))))))))))
theorem sc_law_measures : FnScope ["_law_script", "_law_pick", "_law_row_here", "_law_widths", "_law_k", "_law_cell", "_law_eaves"] ["_law_script"] (defScope s_law_measures) := ⟨rfl, rfl, rfl, by decide +kernel, rfl, by decide +kernel, by decide +kernel⟩
theorem ok_law_measures (F : Fd K mg "_law_measures" s_law_measures ["_law_script"]) (B : My.Blt mg) (C_law_at : CalD P w K mg base (CXr P w base) 1 "_law_at" ["_law_script", "_law_k"] (spD (Wk K C_Plan C_RoofError C_BadMeasure C_UnknownCourse C_NotFilled) 2 F_law_at)) (C_law_menu : CalD P w K mg base (CXr P w base) 1 "_law_menu" ["_law_k"] (spD (Wk K C_Plan C_RoofError C_BadMeasure C_UnknownCourse C_NotFilled) 1 F_law_menu)) : CalD P w K mg base (CXr P w base) 2 "_law_measures" ["_law_script"] (spD (Wk K C_Plan C_RoofError C_BadMeasure C_UnknownCourse C_NotFilled) 1 F_law_measures) :=
  have SC := sc_law_measures
  fd_den F SC fun f cdv A outer s H E hr => show PSs _ _ (tDs _ _ d_law_measures) from
    (dss_cons (ds_set (i := 1) SC.nd rfl (Or.inl rfl) (de_fnP C_law_at zpr (hr.mono (by decide)) rfl (da_cons (de_var (pv 0)) (da_cons de_int da_nil)) (len_cons (len_cons len_nil))))
    (dss_cons (ds_set (i := 2) SC.nd rfl (Or.inl rfl) (de_fnP C_law_menu zpr (hr.mono (by decide)) rfl (da_cons (de_op op_fdiv os_div (de_var (pv 1)) de_int) da_nil) (len_cons len_nil)))
    (dss_cons (ds_if (dt_cmp (op_eqT hr.units) os_eq (de_op op_mod os_mod (de_var (pv 1)) de_int) de_int (nomark _)) (dss_one (ds_ret (de_tup (da_cons (de_ix rfl (de_var (pv 2)) de_int (fun _ _ => rfl)) (da_cons (de_sl (de_var (pv 2)) (do_some de_int) (do_some de_int)) (da_cons (de_ix rfl (de_var (pv 2)) de_int (fun _ _ => rfl)) (da_cons (de_ix rfl (de_var (pv 2)) de_int (fun _ _ => rfl)) da_nil))))))) dss_nil)
    (dss_cons (ds_set (i := 3) SC.nd rfl (Or.inl rfl) (de_lst (da_cons (de_op op_addT os_add de_int (de_op op_mod os_mod (de_fnP C_law_at zpr (hr.mono (by decide)) rfl (da_cons (de_var (pv 0)) (da_cons de_int da_nil)) (len_cons (len_cons len_nil))) de_int)) da_nil)))
    (dss_cons (ds_for PassesOwn.leaving rfl (di_seq rfl (de_lst (da_cons de_int (da_cons de_int da_nil)))) (dg_name (pg_name (i := 4) SC.nd rfl (Or.inl rfl))) (tg_name _) (dss_cons (ds_set (i := 5) SC.nd rfl (Or.inl rfl) (de_fnP C_law_at zpr (hr.mono (by decide)) rfl (da_cons (de_var (pv 0)) (da_cons (de_var (pv 4)) da_nil)) (len_cons (len_cons len_nil))))
    (dss_one (ds_if (dt_w (dw_and (dt_cmp op_gt os_gt (de_op op_mod os_mod (de_var (pv 5)) de_int) de_int (nomark _)) (dw_and1 (dt_cmp (op_notInT hr.units rfl) os_in (de_op op_addT os_add de_int (de_op op_mod os_mod (de_op op_fdiv os_div (de_var (pv 5)) de_int) de_int)) (de_var (pv 3)) (by with_unfolding_all rfl))))) (dss_one (ds_expr (de_methL PySem.F.slot_list_append PySem.F.type_list_append mt_appendQ ms_append (de_var (pv 3)) (da_cons (de_op op_addT os_add de_int (de_op op_mod os_mod (de_op op_fdiv os_div (de_var (pv 5)) de_int) de_int)) da_nil)))) dss_nil))))
    (dss_cons (ds_set (i := 6) SC.nd rfl (Or.inl rfl) (de_op op_addT os_add de_int (de_op op_mod os_mod (de_fnP C_law_at zpr (hr.mono (by decide)) rfl (da_cons (de_var (pv 0)) (da_cons de_int da_nil)) (len_cons (len_cons len_nil))) de_int)))
    (dss_cons (ds_if (dt_w (dw_and (dt_cmp (op_eqT hr.units) os_eq (de_op op_mod os_mod (de_var (pv 1)) de_int) de_int (nomark _)) (dw_and (dt_cmp (op_eqT hr.units) os_eq (de_op op_mod os_mod (de_op op_fdiv os_div (de_var (pv 1)) de_int) de_int) de_int (nomark _)) (dw_and (dt_cmp (op_ltT hr.units) os_lt de_int (de_op op_sub os_sub (de_var (pv 6)) (de_ix rfl (de_var (pv 3)) de_int (fun _ _ => rfl))) (nomark _)) (dw_and1 (dt_cmp (op_ltT hr.units) os_lt (de_op op_sub os_sub (de_var (pv 6)) (de_ix rfl (de_var (pv 3)) de_int (fun _ _ => rfl))) de_int (nomark _))))))) (dss_one (ds_set (i := 3) SC.nd rfl (Or.inl rfl) (de_sortSet2 rfl B.sorted_ rfl B.set_ rfl (da_cons (de_lst (da_cons (de_ix rfl (de_var (pv 3)) de_int (fun _ _ => rfl)) (da_cons (de_op op_sub os_sub (de_var (pv 6)) (de_ix rfl (de_var (pv 3)) de_int (fun _ _ => rfl))) da_nil))) da_nil)))) (dss_one (ds_if (dt_cmp (op_eqT hr.units) os_eq (de_op op_mod os_mod (de_var (pv 1)) de_int) de_int (nomark _)) (dss_one (ds_ret (de_tup (da_cons (de_var (pv 6)) (da_cons (de_var (pv 3)) (da_cons (de_op op_addT os_add de_int (de_op op_mod os_mod (de_fnP C_law_at zpr (hr.mono (by decide)) rfl (da_cons (de_var (pv 0)) (da_cons de_int da_nil)) (len_cons (len_cons len_nil))) de_int)) (da_cons (de_op op_addT os_add de_int (de_op op_mod os_mod (de_fnP C_law_at zpr (hr.mono (by decide)) rfl (da_cons (de_var (pv 0)) (da_cons de_int da_nil)) (len_cons (len_cons len_nil))) de_int)) da_nil))))))) (dss_one (ds_set (i := 6) SC.nd rfl (Or.inl rfl) (de_op op_addT os_add de_int (de_op op_mod os_mod (de_fnP C_law_at zpr (hr.mono (by decide)) rfl (da_cons (de_var (pv 0)) (da_cons de_int da_nil)) (len_cons (len_cons len_nil))) de_int)))))))
    (dss_one (ds_ret (de_tup (da_cons (de_var (pv 6)) (da_cons (de_var (pv 3)) (da_cons (de_op op_addT os_add de_int (de_op op_mod os_mod (de_fnP C_law_at zpr (hr.mono (by decide)) rfl (da_cons (de_var (pv 0)) (da_cons de_int da_nil)) (len_cons (len_cons len_nil))) de_int)) (da_cons (de_op op_addT os_add de_int (de_op op_mod os_mod (de_fnP C_law_at zpr (hr.mono (by decide)) rfl (da_cons (de_var (pv 0)) (da_cons de_int da_nil)) (len_cons (len_cons len_nil))) de_int)) da_nil))))))))))))))
theorem sc_check_eaves : FnScope ["eaves"] ["eaves"] (defScope s_check_eaves) := ⟨rfl, rfl, rfl, by decide +kernel, rfl, by decide +kernel, by decide +kernel⟩
theorem ok_check_eaves (F : Fd K mg "check_eaves" s_check_eaves ["eaves"]) (B : My.Blt mg) (G_GREATEST_EAVES : ∃ t, mg "GREATEST_EAVES" = some (.int 12 t)) (X_BadMeasure : ExcD K mg C_BadMeasure "BadMeasure") : CalD P w K mg base (CXr P w base) 1 "check_eaves" ["eaves"] (spD (Wk K C_Plan C_RoofError C_BadMeasure C_UnknownCourse C_NotFilled) 1 F_check_eaves) :=
  have SC := sc_check_eaves
  fd_den F SC fun f cdv A outer s H E hr => show PSs _ _ (tDs _ _ d_check_eaves) from
    (dss_one (ds_if (dt_not (dt_chain op_le op_le os_le os_le de_int (de_var (pv 0)) (de_glob rfl G_GREATEST_EAVES))) (dss_one (ds_raise X_BadMeasure zmr rfl rfl (pm_join (pj_str (by decide +kernel) (by decide) (pj_int (pv 0) (by decide) pj_nil))))) dss_nil))
theorem sc_check_widths : FnScope ["widths", "width"] ["widths"] (defScope s_check_widths) := ⟨rfl, rfl, rfl, by decide +kernel, rfl, by decide +kernel, by decide +kernel⟩
theorem ok_check_widths (F : Fd K mg "check_widths" s_check_widths ["widths"]) (B : My.Blt mg) (G_MOST_WIDTHS : ∃ t, mg "MOST_WIDTHS" = some (.int 3 t)) (G_LEAST_WIDTH : ∃ t, mg "LEAST_WIDTH" = some (.int 2 t)) (G_GREATEST_WIDTH : ∃ t, mg "GREATEST_WIDTH" = some (.int 8 t)) (X_BadMeasure : ExcD K mg C_BadMeasure "BadMeasure") : CalD P w K mg base (CXr P w base) 1 "check_widths" ["widths"] (spD (Wk K C_Plan C_RoofError C_BadMeasure C_UnknownCourse C_NotFilled) 1 F_check_widths) :=
  have SC := sc_check_widths
  fd_den F SC fun f cdv A outer s H E hr => show PSs _ _ (tDs _ _ d_check_widths) from
    (dss_cons (ds_if (dt_not (dt_chain op_le op_le os_le os_le de_int (de_callB call_lenQ cs_len rfl B.len_ My.boot_len (da_cons (de_var (pv 0)) da_nil)) (de_glob rfl G_MOST_WIDTHS))) (dss_one (ds_raise X_BadMeasure zmr rfl rfl pm_str)) dss_nil)
    (dss_cons (ds_for PassesOwn.leaving rfl (di_seq rfl (de_var (pv 0))) (dg_name (pg_name (i := 1) SC.nd rfl (Or.inl rfl))) (tg_name _) (dss_one (ds_if (dt_not (dt_chain op_le op_le os_le os_le (de_glob rfl G_LEAST_WIDTH) (de_var (pv 1)) (de_glob rfl G_GREATEST_WIDTH))) (dss_one (ds_raise X_BadMeasure zmr rfl rfl (pm_join (pj_str (by decide +kernel) (by decide) (pj_int (pv 1) (by decide) pj_nil))))) dss_nil)))
    (dss_one (ds_if (dt_cmp (op_ltT hr.units) os_lt (de_lenSet rfl B.len_ rfl B.set_ rfl (da_cons (de_var (pv 0)) da_nil)) (de_callB call_lenQ cs_len rfl B.len_ My.boot_len (da_cons (de_var (pv 0)) da_nil)) (nomark _)) (dss_one (ds_raise X_BadMeasure zmr rfl rfl pm_str)) dss_nil))))
theorem sc_check_distance : FnScope ["distance"] ["distance"] (defScope s_check_distance) := ⟨rfl, rfl, rfl, by decide +kernel, rfl, by decide +kernel, by decide +kernel⟩
theorem ok_check_distance (F : Fd K mg "check_distance" s_check_distance ["distance"]) (B : My.Blt mg) (G_GREATEST_DISTANCE : ∃ t, mg "GREATEST_DISTANCE" = some (.int 6 t)) (X_BadMeasure : ExcD K mg C_BadMeasure "BadMeasure") : CalD P w K mg base (CXr P w base) 1 "check_distance" ["distance"] (spD (Wk K C_Plan C_RoofError C_BadMeasure C_UnknownCourse C_NotFilled) 1 F_check_distance) :=
  have SC := sc_check_distance
  fd_den F SC fun f cdv A outer s H E hr => show PSs _ _ (tDs _ _ d_check_distance) from
    (dss_one (ds_if (dt_not (dt_chain op_le op_le os_le os_le de_int (de_var (pv 0)) (de_glob rfl G_GREATEST_DISTANCE))) (dss_one (ds_raise X_BadMeasure zmr rfl rfl (pm_join (pj_str (by decide +kernel) (by decide) (pj_int (pv 0) (by decide) pj_nil))))) dss_nil))
theorem sc_rows_of_length : FnScope ["length", "widths", "found", "width", "rest"] ["length", "widths"] (defScope s_rows_of_length) := ⟨rfl, rfl, rfl, by decide +kernel, rfl, by decide +kernel, by decide +kernel⟩
theorem okr_rows_of_length (F : Fd K mg "rows_of_length" s_rows_of_length ["length", "widths"]) (B : My.Blt mg) : ∀ n, CalD P w K mg base (CXr P w base) (1 + n) "rows_of_length" ["length", "widths"] (spD (Wk K C_Plan C_RoofError C_BadMeasure C_UnknownCourse C_NotFilled) 2 (Fr_rows_of_length n))
  | 0 => fd_bad F
  | n + 1 => by
    have Crec := okr_rows_of_length F B n
    have SC := sc_rows_of_length
    exact fd_den (k := 1 + n) F SC fun f cdv A outer s H E hr => show PSs _ _ (tDs _ _ (d_rows_of_length (Fr_rows_of_length n))) from
    (dss_cons (ds_if (dt_cmp (op_eqT hr.units) os_eq (de_var (pv 0)) de_int (nomark _)) (dss_one (ds_ret (de_lst (da_cons (de_lst da_nil) da_nil)))) dss_nil)
    (dss_cons (ds_set (i := 2) SC.nd rfl (Or.inl rfl) (de_lst da_nil))
    (dss_cons (ds_for PassesOwn.leaving rfl (di_seq rfl (de_var (pv 1))) (dg_name (pg_name (i := 3) SC.nd rfl (Or.inl rfl))) (tg_name _) (dss_one (ds_if (dt_cmp op_le os_le (de_var (pv 3)) (de_var (pv 0)) (nomark _)) (dss_one (ds_for PassesOwn.leaving rfl (di_seq rfl (de_fnP Crec zpr (hr.mono (by (first|lia|omega))) rfl (da_cons (de_op op_sub os_sub (de_var (pv 0)) (de_var (pv 3))) (da_cons (de_var (pv 1)) da_nil)) (len_cons (len_cons len_nil)))) (dg_name (pg_name (i := 4) SC.nd rfl (Or.inl rfl))) (tg_name _) (dss_one (ds_expr (de_methL PySem.F.slot_list_append PySem.F.type_list_append mt_appendQ ms_append (de_var (pv 2)) (da_cons (de_op op_addT os_add (de_lst (da_cons (de_var (pv 3)) da_nil)) (de_var (pv 4))) da_nil)))))) dss_nil)))
    (dss_one (ds_ret (de_var (pv 2)))))))
theorem ok_rows_of_length (F : Fd K mg "rows_of_length" s_rows_of_length ["length", "widths"]) (B : My.Blt mg) : CalD P w K mg base (CXr P w base) 9 "rows_of_length" ["length", "widths"] (spD (Wk K C_Plan C_RoofError C_BadMeasure C_UnknownCourse C_NotFilled) 2 F_rows_of_length) := okr_rows_of_length F B 8
theorem sc_joints : FnScope ["row", "found", "place", "width"] ["row"] (defScope s_joints) := ⟨rfl, rfl, rfl, by decide +kernel, rfl, by decide +kernel, by decide +kernel⟩
theorem ok_joints (F : Fd K mg "joints" s_joints ["row"]) (B : My.Blt mg) : CalD P w K mg base (CXr P w base) 1 "joints" ["row"] (spD (Wk K C_Plan C_RoofError C_BadMeasure C_UnknownCourse C_NotFilled) 1 F_joints) :=
  have SC := sc_joints
  fd_den F SC fun f cdv A outer s H E hr => show PSs _ _ (tDs _ _ d_joints) from
    (dss_cons (ds_set (i := 1) SC.nd rfl (Or.inl rfl) (de_lst da_nil))
    (dss_cons (ds_set (i := 2) SC.nd rfl (Or.inl rfl) de_int)
    (dss_cons (ds_for PassesOwn.leaving rfl (di_seq rfl (de_sl (de_var (pv 0)) do_none (do_some (de_un un_neg us_neg de_int)))) (dg_name (pg_name (i := 3) SC.nd rfl (Or.inl rfl))) (tg_name _) (dss_cons (ds_set (i := 2) SC.nd rfl (Or.inl rfl) (de_op op_addT os_add (de_var (pv 2)) (de_var (pv 3))))
    (dss_one (ds_expr (de_methL PySem.F.slot_list_append PySem.F.type_list_append mt_appendQ ms_append (de_var (pv 1)) (da_cons (de_var (pv 2)) da_nil))))))
    (dss_one (ds_ret (de_var (pv 1)))))))
theorem sc_Plan___init__ : FnScope ["self", "eaves", "widths", "near", "far"] ["self", "eaves", "widths", "near", "far"] (defScope s_Plan___init__) := ⟨rfl, rfl, rfl, by decide +kernel, rfl, by decide +kernel, by decide +kernel⟩
theorem ok_Plan___init__ (F : InitD K C_Plan "Plan.__init__" s_Plan___init__ ["self", "eaves", "widths", "near", "far"]) (B : My.Blt mg) (K_Plan : ClsD K mg C_Plan "Plan" ["eaves", "widths", "near", "far", "order", "marks"]) (C_check_eaves : CalD P w K mg base (CXr P w base) 1 "check_eaves" ["eaves"] (spD (Wk K C_Plan C_RoofError C_BadMeasure C_UnknownCourse C_NotFilled) 1 F_check_eaves)) (C_check_widths : CalD P w K mg base (CXr P w base) 1 "check_widths" ["widths"] (spD (Wk K C_Plan C_RoofError C_BadMeasure C_UnknownCourse C_NotFilled) 1 F_check_widths)) (C_check_distance : CalD P w K mg base (CXr P w base) 1 "check_distance" ["distance"] (spD (Wk K C_Plan C_RoofError C_BadMeasure C_UnknownCourse C_NotFilled) 1 F_check_distance)) (C_rows_of_length : CalD P w K mg base (CXr P w base) 9 "rows_of_length" ["length", "widths"] (spD (Wk K C_Plan C_RoofError C_BadMeasure C_UnknownCourse C_NotFilled) 2 F_rows_of_length)) (C_joints : CalD P w K mg base (CXr P w base) 1 "joints" ["row"] (spD (Wk K C_Plan C_RoofError C_BadMeasure C_UnknownCourse C_NotFilled) 1 F_joints)) : CalI P w K mg base (CXr P w base) 10 C_Plan ["self", "eaves", "widths", "near", "far"] (spD (Wk K C_Plan C_RoofError C_BadMeasure C_UnknownCourse C_NotFilled) 5 F_Plan___init__) :=
  have SC := sc_Plan___init__
  have fld_eaves := fldD_eaves (K := K) (mg := mg) (C_Plan := C_Plan) (C_RoofError := C_RoofError) (C_BadMeasure := C_BadMeasure) (C_UnknownCourse := C_UnknownCourse) (C_NotFilled := C_NotFilled) K_Plan
  have fld_widths := fldD_widths (K := K) (mg := mg) (C_Plan := C_Plan) (C_RoofError := C_RoofError) (C_BadMeasure := C_BadMeasure) (C_UnknownCourse := C_UnknownCourse) (C_NotFilled := C_NotFilled) K_Plan
  have fld_near := fldD_near (K := K) (mg := mg) (C_Plan := C_Plan) (C_RoofError := C_RoofError) (C_BadMeasure := C_BadMeasure) (C_UnknownCourse := C_UnknownCourse) (C_NotFilled := C_NotFilled) K_Plan
  have fld_far := fldD_far (K := K) (mg := mg) (C_Plan := C_Plan) (C_RoofError := C_RoofError) (C_BadMeasure := C_BadMeasure) (C_UnknownCourse := C_UnknownCourse) (C_NotFilled := C_NotFilled) K_Plan
  have fld_order := fldD_order (K := K) (mg := mg) (C_Plan := C_Plan) (C_RoofError := C_RoofError) (C_BadMeasure := C_BadMeasure) (C_UnknownCourse := C_UnknownCourse) (C_NotFilled := C_NotFilled) K_Plan
  have fld_marks := fldD_marks (K := K) (mg := mg) (C_Plan := C_Plan) (C_RoofError := C_RoofError) (C_BadMeasure := C_BadMeasure) (C_UnknownCourse := C_UnknownCourse) (C_NotFilled := C_NotFilled) K_Plan
  init_den F SC fun f cdv A outer s H E hr => show PSs _ _ (tDs _ _ d_Plan___init__) from
    (dss_cons (ds_expr (de_fnP C_check_eaves zpr (hr.mono (by decide)) rfl (da_cons (de_var (pv 1)) da_nil) (len_cons len_nil)))
    (dss_cons (ds_expr (de_fnP C_check_widths zpr (hr.mono (by decide)) rfl (da_cons (de_var (pv 2)) da_nil) (len_cons len_nil)))
    (dss_cons (ds_expr (de_fnP C_check_distance zpr (hr.mono (by decide)) rfl (da_cons (de_var (pv 3)) da_nil) (len_cons len_nil)))
    (dss_cons (ds_expr (de_fnP C_check_distance zpr (hr.mono (by decide)) rfl (da_cons (de_var (pv 4)) da_nil) (len_cons len_nil)))
    (dss_cons (ds_fld rfl fld_eaves (de_var (pv 0)) (de_var (pv 1)))
    (dss_cons (ds_fld rfl fld_widths (de_var (pv 0)) (de_callB (call_sortT hr.units) cs_sorted rfl B.sorted_ My.boot_sorted (da_cons (de_var (pv 2)) da_nil)))
    (dss_cons (ds_fld rfl fld_near (de_var (pv 0)) (de_var (pv 3)))
    (dss_cons (ds_fld rfl fld_far (de_var (pv 0)) (de_var (pv 4)))
    (dss_cons (ds_fld rfl fld_order (de_var (pv 0)) (de_sortK noxr C_joints (hr.mono (by decide)) (by simp [cxOf]) rfl B.sorted_ rfl (da_cons (de_fnP C_rows_of_length zpr (hr.mono (by decide)) rfl (da_cons (de_var (pv 1)) (da_cons (de_fld rfl fld_widths (de_var (pv 0))) da_nil)) (len_cons (len_cons len_nil))) da_nil)))
    (dss_one (ds_fld rfl fld_marks (de_var (pv 0)) (de_comp0 (blk_mk (js := []) (ys := []) rfl rfl rfl rfl rfl rfl rfl (by decide +kernel)) rfl (di_seq rfl (de_fld rfl fld_order (de_var (pv 0)))) (fun _ _ _ _ _ _ => (de_fnP C_joints zpF (hr.mono (by decide)) rfl (da_cons (de_var (pv 0)) da_nil) (len_cons len_nil)))))))))))))))
theorem sc_law_marks : FnScope ["_law_row_here", "_law_found", "_law_k"] ["_law_row_here"] (defScope s_law_marks) := ⟨rfl, rfl, rfl, by decide +kernel, rfl, by decide +kernel, by decide +kernel⟩
theorem ok_law_marks (F : Fd K mg "_law_marks" s_law_marks ["_law_row_here"]) (B : My.Blt mg) : CalD P w K mg base (CXr P w base) 1 "_law_marks" ["_law_row_here"] (spD (Wk K C_Plan C_RoofError C_BadMeasure C_UnknownCourse C_NotFilled) 1 F_law_marks) :=
  have SC := sc_law_marks
  fd_den F SC fun f cdv A outer s H E hr => show PSs _ _ (tDs _ _ d_law_marks) from
    (dss_cons (ds_set (i := 1) SC.nd rfl (Or.inl rfl) (de_lst da_nil))
    (dss_cons (ds_for PassesOwn.leaving rfl (di_rng2 rfl B.range_ (da_cons de_int (da_cons (de_callB call_lenQ cs_len rfl B.len_ My.boot_len (da_cons (de_var (pv 0)) da_nil)) da_nil))) (dg_name (pg_name (i := 2) SC.nd rfl (Or.inl rfl))) (tg_name _) (dss_one (ds_expr (de_methL PySem.F.slot_list_append PySem.F.type_list_append mt_appendQ ms_append (de_var (pv 1)) (da_cons (de_callB (call_sumQ rfl) cs_sum rfl B.sum_ My.boot_sum (da_cons (de_sl (de_var (pv 0)) do_none (do_some (de_var (pv 2)))) da_nil)) da_nil)))))
    (dss_one (ds_ret (de_var (pv 1))))))
theorem sc_law_courses : FnScope ["_law_eaves", "_law_widths", "_law_made", "_law_size", "_law_here", "_law_width", "_law_row_here"] ["_law_eaves", "_law_widths"] (defScope s_law_courses) := ⟨rfl, rfl, rfl, by decide +kernel, rfl, by decide +kernel, by decide +kernel⟩
theorem ok_law_courses (F : Fd K mg "_law_courses" s_law_courses ["_law_eaves", "_law_widths"]) (B : My.Blt mg) (C_law_marks : CalD P w K mg base (CXr P w base) 1 "_law_marks" ["_law_row_here"] (spD (Wk K C_Plan C_RoofError C_BadMeasure C_UnknownCourse C_NotFilled) 1 F_law_marks)) : CalD P w K mg base (CXr P w base) 2 "_law_courses" ["_law_eaves", "_law_widths"] (spD (Wk K C_Plan C_RoofError C_BadMeasure C_UnknownCourse C_NotFilled) 2 F_law_courses) :=
  have SC := sc_law_courses
  fd_den F SC fun f cdv A outer s H E hr => show PSs _ _ (tDs _ _ d_law_courses) from
    (dss_cons (ds_set (i := 2) SC.nd rfl (Or.inl rfl) (de_lst (da_cons (de_lst (da_cons (de_lst da_nil) da_nil)) da_nil)))
    (dss_cons (ds_for PassesOwn.leaving rfl (di_rng2 rfl B.range_ (da_cons de_int (da_cons (de_op op_addT os_add (de_var (pv 0)) de_int) da_nil))) (dg_name (pg_name (i := 3) SC.nd rfl (Or.inl rfl))) (tg_name _) (dss_cons (ds_set (i := 4) SC.nd rfl (Or.inl rfl) (de_lst da_nil))
    (dss_cons (ds_for PassesOwn.leaving rfl (di_seq rfl (de_var (pv 1))) (dg_name (pg_name (i := 5) SC.nd rfl (Or.inl rfl))) (tg_name _) (dss_one (ds_if (dt_cmp op_le os_le (de_var (pv 5)) (de_var (pv 3)) (nomark _)) (dss_one (ds_for PassesOwn.leaving rfl (di_seq rfl (de_ix rfl (de_var (pv 2)) (de_op op_sub os_sub (de_var (pv 3)) (de_var (pv 5))) (fun _ _ => rfl))) (dg_name (pg_name (i := 6) SC.nd rfl (Or.inl rfl))) (tg_name _) (dss_one (ds_expr (de_methL PySem.F.slot_list_append PySem.F.type_list_append mt_appendQ ms_append (de_var (pv 4)) (da_cons (de_op op_addT os_add (de_var (pv 6)) (de_lst (da_cons (de_var (pv 5)) da_nil))) da_nil)))))) dss_nil)))
    (dss_one (ds_expr (de_methL PySem.F.slot_list_append PySem.F.type_list_append mt_appendQ ms_append (de_var (pv 2)) (da_cons (de_var (pv 4)) da_nil)))))))
    (dss_one (ds_ret (de_callB (call_sortT hr.units) cs_sorted rfl B.sorted_ My.boot_sorted (da_cons (de_comp0 (blk_mk (js := []) (ys := []) rfl rfl rfl rfl rfl rfl rfl (by decide +kernel)) rfl (di_seq rfl (de_ix rfl (de_var (pv 2)) (de_var (pv 0)) (fun _ _ => rfl))) (fun _ _ _ _ _ _ => (de_fnP C_law_marks zpF (hr.mono (by decide)) rfl (da_cons (de_var (pv 0)) da_nil) (len_cons len_nil)))) da_nil))))))
theorem sc_law_row : FnScope ["_law_eaves", "_law_marks_here", "_law_ends"] ["_law_eaves", "_law_marks_here"] (defScope s_law_row) := ⟨rfl, rfl, rfl, by decide +kernel, rfl, by decide +kernel, by decide +kernel⟩
theorem ok_law_row (F : Fd K mg "_law_row" s_law_row ["_law_eaves", "_law_marks_here"]) (B : My.Blt mg) : CalD P w K mg base (CXr P w base) 1 "_law_row" ["_law_eaves", "_law_marks_here"] (spD (Wk K C_Plan C_RoofError C_BadMeasure C_UnknownCourse C_NotFilled) 2 F_law_row) :=
  have SC := sc_law_row
  fd_den F SC fun f cdv A outer s H E hr => show PSs _ _ (tDs _ _ d_law_row) from
    (dss_cons (ds_set (i := 2) SC.nd rfl (Or.inr rfl) (de_op op_addT os_add (de_op op_addT os_add (de_lst (da_cons de_int da_nil)) (de_var (pv 1))) (de_lst (da_cons (de_var (pv 0)) da_nil))))
    (dss_one (ds_ret (de_comp0 (blk_mk (js := [2]) (ys := ["_law_ends"]) rfl rfl rfl rfl rfl rfl rfl (by decide +kernel)) rfl (di_rng1 rfl B.range_ (da_cons (de_op op_sub os_sub (de_callB call_lenQ cs_len rfl B.len_ My.boot_len (da_cons (de_var (pv 2)) da_nil)) de_int) da_nil)) (fun _ _ _ _ _ _ => (de_op op_sub os_sub (de_ix rfl (de_var (pv 1)) (de_op op_addT os_add (de_var (pv 0)) de_int) (fun _ _ => rfl)) (de_ix rfl (de_var (pv 1)) (de_var (pv 0)) (fun _ _ => rfl))))))))
theorem sc_Plan_is_course : FnScope ["self", "number"] ["self", "number"] (defScope s_Plan_is_course) := ⟨rfl, rfl, rfl, by decide +kernel, rfl, by decide +kernel, by decide +kernel⟩
theorem ok_Plan_is_course (F : MethD K C_Plan "is_course" "Plan.is_course" s_Plan_is_course ["self", "number"]) (B : My.Blt mg) (K_Plan : ClsD K mg C_Plan "Plan" ["eaves", "widths", "near", "far", "order", "marks"]) : CalM P w K mg base (CXr P w base) 1 C_Plan "is_course" ["self", "number"] (spD (Wk K C_Plan C_RoofError C_BadMeasure C_UnknownCourse C_NotFilled) 2 F_Plan_is_course) :=
  have SC := sc_Plan_is_course
  have fld_order := fldD_order (K := K) (mg := mg) (C_Plan := C_Plan) (C_RoofError := C_RoofError) (C_BadMeasure := C_BadMeasure) (C_UnknownCourse := C_UnknownCourse) (C_NotFilled := C_NotFilled) K_Plan
  meth_den F SC fun f cdv A outer s H E hr => show PSs _ _ (tDs _ _ d_Plan_is_course) from
    (dss_one (ds_ret (de_chain op_le (op_ltT hr.units) os_le os_lt de_int (de_var (pv 1)) (de_callB call_lenQ cs_len rfl B.len_ My.boot_len (da_cons (de_fld rfl fld_order (de_var (pv 0))) da_nil)))))
theorem sc_Plan_check_course : FnScope ["self", "number"] ["self", "number"] (defScope s_Plan_check_course) := ⟨rfl, rfl, rfl, by decide +kernel, rfl, by decide +kernel, by decide +kernel⟩
theorem ok_Plan_check_course (F : MethD K C_Plan "check_course" "Plan.check_course" s_Plan_check_course ["self", "number"]) (B : My.Blt mg) (K_Plan : ClsD K mg C_Plan "Plan" ["eaves", "widths", "near", "far", "order", "marks"]) (X_UnknownCourse : ExcD K mg C_UnknownCourse "UnknownCourse") (C_Plan_is_course : CalM P w K mg base (CXr P w base) 1 C_Plan "is_course" ["self", "number"] (spD (Wk K C_Plan C_RoofError C_BadMeasure C_UnknownCourse C_NotFilled) 2 F_Plan_is_course)) : CalM P w K mg base (CXr P w base) 2 C_Plan "check_course" ["self", "number"] (spD (Wk K C_Plan C_RoofError C_BadMeasure C_UnknownCourse C_NotFilled) 2 F_Plan_check_course) :=
  have SC := sc_Plan_check_course
  meth_den F SC fun f cdv A outer s H E hr => show PSs _ _ (tDs _ _ d_Plan_check_course) from
    (dss_one (ds_if (dt_not (dt_val (de_methO (hcallP zpr) C_Plan_is_course K_Plan.cls (show (_ : Str) ∉ nmW 0 by decide +kernel) (hr.mono (by decide)) (de_var (pv 0)) (da_cons (de_var (pv 1)) da_nil) (len_cons len_nil) (by decide)))) (dss_one (ds_raise X_UnknownCourse zmr rfl rfl (pm_join (pj_str (by decide +kernel) (by decide) (pj_int (pv 1) (by decide) pj_nil))))) dss_nil))
theorem sc_Plan_row : FnScope ["self", "number"] ["self", "number"] (defScope s_Plan_row) := ⟨rfl, rfl, rfl, by decide +kernel, rfl, by decide +kernel, by decide +kernel⟩
theorem ok_Plan_row (F : MethD K C_Plan "row" "Plan.row" s_Plan_row ["self", "number"]) (B : My.Blt mg) (K_Plan : ClsD K mg C_Plan "Plan" ["eaves", "widths", "near", "far", "order", "marks"]) (C_Plan_check_course : CalM P w K mg base (CXr P w base) 2 C_Plan "check_course" ["self", "number"] (spD (Wk K C_Plan C_RoofError C_BadMeasure C_UnknownCourse C_NotFilled) 2 F_Plan_check_course)) : CalM P w K mg base (CXr P w base) 3 C_Plan "row" ["self", "number"] (spD (Wk K C_Plan C_RoofError C_BadMeasure C_UnknownCourse C_NotFilled) 2 F_Plan_row) :=
  have SC := sc_Plan_row
  have fld_order := fldD_order (K := K) (mg := mg) (C_Plan := C_Plan) (C_RoofError := C_RoofError) (C_BadMeasure := C_BadMeasure) (C_UnknownCourse := C_UnknownCourse) (C_NotFilled := C_NotFilled) K_Plan
  meth_den F SC fun f cdv A outer s H E hr => show PSs _ _ (tDs _ _ d_Plan_row) from
    (dss_cons (ds_expr (de_methO (hcallP zpr) C_Plan_check_course K_Plan.cls (show (_ : Str) ∉ nmW 0 by decide +kernel) (hr.mono (by decide)) (de_var (pv 0)) (da_cons (de_var (pv 1)) da_nil) (len_cons len_nil) (by decide)))
    (dss_one (ds_ret (de_callTy call_listQ cs_list rfl B.list_ My.boot_list (da_cons (de_ix rfl (de_fld rfl fld_order (de_var (pv 0))) (de_var (pv 1)) (fun _ _ => rfl)) da_nil)))))
theorem sc_law_row_told : FnScope ["_law_plan", "_law_number", "_law_signs", "_law_told", "e"] ["_law_plan", "_law_number"] (defScope s_law_row_told) := ⟨rfl, rfl, rfl, by decide +kernel, rfl, by decide +kernel, by decide +kernel⟩
theorem ok_law_row_told (F : Fd K mg "_law_row_told" s_law_row_told ["_law_plan", "_law_number"]) (B : My.Blt mg) (K_Plan : ClsD K mg C_Plan "Plan" ["eaves", "widths", "near", "far", "order", "marks"]) (X_RoofError : ExcD K mg C_RoofError "RoofError") (X_NotFilled : ExcD K mg C_NotFilled "NotFilled") (X_UnknownCourse : ExcD K mg C_UnknownCourse "UnknownCourse") (Q_catch : ∀ c ∈ [51, 52, 53], PySem.W.exmOne K (.ref ((Wk K C_Plan C_RoofError C_BadMeasure C_UnknownCourse C_NotFilled).cl c)) (.ref C_RoofError) = some true) (J_NotFilled : IsF (Wk K C_Plan C_RoofError C_BadMeasure C_UnknownCourse C_NotFilled) [.ref C_NotFilled] is_NotFilled) (J_ValueError : IsF (Wk K C_Plan C_RoofError C_BadMeasure C_UnknownCourse C_NotFilled) [.type "ValueError"] is_ValueError) (J_UnknownCourse : IsF (Wk K C_Plan C_RoofError C_BadMeasure C_UnknownCourse C_NotFilled) [.ref C_UnknownCourse] is_UnknownCourse) (B2 : Blt2 mg) (C_Plan_row : CalM P w K mg base (CXr P w base) 3 C_Plan "row" ["self", "number"] (spD (Wk K C_Plan C_RoofError C_BadMeasure C_UnknownCourse C_NotFilled) 2 F_Plan_row)) : CalD P w K mg base (CXr P w base) 4 "_law_row_told" ["_law_plan", "_law_number"] (spD (Wk K C_Plan C_RoofError C_BadMeasure C_UnknownCourse C_NotFilled) 2 F_law_row_told) :=
  have SC := sc_law_row_told
  fd_den F SC fun f cdv A outer s H E hr => show PSs _ _ (tDs _ _ d_law_row_told) from
    (dss_cons (ds_set (i := 2) SC.nd rfl (Or.inl rfl) (de_lst da_nil))
    (dss_cons (ds_set (i := 3) SC.nd rfl (Or.inl rfl) de_non)
    (dss_cons (ds_try (i := 4) SC.nd rfl rfl rfl rfl rfl rfl X_RoofError.mgC Q_catch (fun _ _ _ hz => (dss_one (ds_set (i := 3) SC.nd rfl (Or.inl rfl) (de_methO (hcallT hz) C_Plan_row K_Plan.cls (show (_ : Str) ∉ nmW 0 by decide +kernel) (hr.mono (by decide)) (de_var (pv 0)) (da_cons (de_var (pv 1)) da_nil) (len_cons len_nil) (by decide))))) (fun _ _ => (dss_one (ds_set (i := 2) SC.nd rfl (Or.inl rfl) (de_lst (da_cons (de_isX rfl (pv 4) (pcl_own rfl X_UnknownCourse.mgC) J_UnknownCourse rfl B.isinstance_) (da_cons (de_isX rfl (pv 4) (pcl_blt rfl B2.ValueError_ boot_ValueError) J_ValueError rfl B.isinstance_) (da_cons (de_isX rfl (pv 4) (pcl_own rfl X_NotFilled.mgC) J_NotFilled rfl B.isinstance_) da_nil))))))))
    (dss_one (ds_ret (de_tup (da_cons (de_var (pv 3)) (da_cons (de_var (pv 2)) da_nil))))))))
theorem sc_law_whole : FnScope ["_law_found"] ["_law_found"] (defScope s_law_whole) := ⟨rfl, rfl, rfl, by decide +kernel, rfl, by decide +kernel, by decide +kernel⟩
theorem ok_law_whole (F : Fd K mg "_law_whole" s_law_whole ["_law_found"]) (B : My.Blt mg) : CalD P w K mg base (CXr P w base) 1 "_law_whole" ["_law_found"] (spD (Wk K C_Plan C_RoofError C_BadMeasure C_UnknownCourse C_NotFilled) 1 F_law_whole) :=
  have SC := sc_law_whole
  fd_den F SC fun f cdv A outer s H E hr => show PSs _ _ (tDs _ _ d_law_whole) from
    (dss_one (ds_ret (de_and (de_callB call_isT cs_is rfl B.isinstance_ My.boot_isinstance (da_cons (de_var (pv 0)) (da_cons (de_ty (pe_bltn (v := .ty "int") rfl B.int_ My.boot_int rfl)) da_nil))) (de_one (de_not (de_callB call_isT cs_is rfl B.isinstance_ My.boot_isinstance (da_cons (de_var (pv 0)) (da_cons (de_ty (pe_bltn (v := .ty "bool") rfl B.bool_ My.boot_bool rfl)) da_nil))))))))
theorem sc_law_same : FnScope ["_law_found", "_law_due", "_law_k"] ["_law_found", "_law_due"] (defScope s_law_same) := ⟨rfl, rfl, rfl, by decide +kernel, rfl, by decide +kernel, by decide +kernel⟩
theorem ok_law_same (F : Fd K mg "_law_same" s_law_same ["_law_found", "_law_due"]) (B : My.Blt mg) (C_law_whole : CalD P w K mg base (CXr P w base) 1 "_law_whole" ["_law_found"] (spD (Wk K C_Plan C_RoofError C_BadMeasure C_UnknownCourse C_NotFilled) 1 F_law_whole)) : CalD P w K mg base (CXr P w base) 2 "_law_same" ["_law_found", "_law_due"] (spD (Wk K C_Plan C_RoofError C_BadMeasure C_UnknownCourse C_NotFilled) 2 F_law_same) :=
  have SC := sc_law_same
  fd_den F SC fun f cdv A outer s H E hr => show PSs _ _ (tDs _ _ d_law_same) from
    (dss_cons (ds_if (dt_w (dw_or (dt_not (dt_val (de_callB call_isT cs_is rfl B.isinstance_ My.boot_isinstance (da_cons (de_var (pv 0)) (da_cons (de_ty (pe_bltn (v := .ty "list") rfl B.list_ My.boot_list rfl)) da_nil))))) (dw_or1 (dt_cmp (op_neT hr.units) os_eq (de_callB call_lenQ cs_len rfl B.len_ My.boot_len (da_cons (de_var (pv 0)) da_nil)) (de_callB call_lenQ cs_len rfl B.len_ My.boot_len (da_cons (de_var (pv 1)) da_nil)) (nomark _))))) (dss_one (ds_ret de_bl)) dss_nil)
    (dss_cons (ds_for PassesOwn.leaving rfl (di_rng1 rfl B.range_ (da_cons (de_callB call_lenQ cs_len rfl B.len_ My.boot_len (da_cons (de_var (pv 1)) da_nil)) da_nil)) (dg_name (pg_name (i := 2) SC.nd rfl (Or.inl rfl))) (tg_name _) (dss_one (ds_if (dt_w (dw_or (dt_not (dt_val (de_fnP C_law_whole zpr (hr.mono (by decide)) rfl (da_cons (de_ix rfl (de_var (pv 0)) (de_var (pv 2)) (fun _ _ => rfl)) da_nil) (len_cons len_nil)))) (dw_or1 (dt_cmp (op_neT hr.units) os_eq (de_ix rfl (de_var (pv 0)) (de_var (pv 2)) (fun _ _ => rfl)) (de_ix rfl (de_var (pv 1)) (de_var (pv 2)) (fun _ _ => rfl)) (nomark _))))) (dss_one (ds_ret de_bl)) dss_nil)))
    (dss_one (ds_ret de_bl))))
theorem sc_fills : FnScope ["eaves", "widths", "row", "number"] ["eaves", "widths", "row"] (defScope s_fills) := ⟨rfl, rfl, rfl, by decide +kernel, rfl, by decide +kernel, by decide +kernel⟩
theorem ok_fills (F : Fd K mg "fills" s_fills ["eaves", "widths", "row"]) (B : My.Blt mg) : CalD P w K mg base (CXr P w base) 1 "fills" ["eaves", "widths", "row"] (spD (Wk K C_Plan C_RoofError C_BadMeasure C_UnknownCourse C_NotFilled) 3 F_fills) :=
  have SC := sc_fills
  fd_den F SC fun f cdv A outer s H E hr => show PSs _ _ (tDs _ _ d_fills) from
    (dss_cons (ds_if (dt_cmp (op_eqT hr.units) os_eq (de_callB call_lenQ cs_len rfl B.len_ My.boot_len (da_cons (de_var (pv 2)) da_nil)) de_int (nomark _)) (dss_one (ds_ret de_bl)) dss_nil)
    (dss_cons (ds_for PassesOwn.leaving rfl (di_seq rfl (de_var (pv 2))) (dg_name (pg_name (i := 3) SC.nd rfl (Or.inl rfl))) (tg_name _) (dss_one (ds_if (dt_cmp (op_notInT hr.units rfl) os_in (de_var (pv 3)) (de_var (pv 1)) (by with_unfolding_all rfl)) (dss_one (ds_ret de_bl)) dss_nil)))
    (dss_one (ds_ret (de_cmp (op_eqT hr.units) os_eq (de_callB (call_sumQ rfl) cs_sum rfl B.sum_ My.boot_sum (da_cons (de_var (pv 2)) da_nil)) (de_var (pv 0)) (nomark _))))))
theorem sc_Plan_number : FnScope ["self", "row"] ["self", "row"] (defScope s_Plan_number) := ⟨rfl, rfl, rfl, by decide +kernel, rfl, by decide +kernel, by decide +kernel⟩
theorem ok_Plan_number (F : MethD K C_Plan "number" "Plan.number" s_Plan_number ["self", "row"]) (B : My.Blt mg) (K_Plan : ClsD K mg C_Plan "Plan" ["eaves", "widths", "near", "far", "order", "marks"]) (X_NotFilled : ExcD K mg C_NotFilled "NotFilled") (C_fills : CalD P w K mg base (CXr P w base) 1 "fills" ["eaves", "widths", "row"] (spD (Wk K C_Plan C_RoofError C_BadMeasure C_UnknownCourse C_NotFilled) 3 F_fills)) : CalM P w K mg base (CXr P w base) 2 C_Plan "number" ["self", "row"] (spD (Wk K C_Plan C_RoofError C_BadMeasure C_UnknownCourse C_NotFilled) 2 F_Plan_number) :=
  have SC := sc_Plan_number
  have fld_widths := fldD_widths (K := K) (mg := mg) (C_Plan := C_Plan) (C_RoofError := C_RoofError) (C_BadMeasure := C_BadMeasure) (C_UnknownCourse := C_UnknownCourse) (C_NotFilled := C_NotFilled) K_Plan
  have fld_eaves := fldD_eaves (K := K) (mg := mg) (C_Plan := C_Plan) (C_RoofError := C_RoofError) (C_BadMeasure := C_BadMeasure) (C_UnknownCourse := C_UnknownCourse) (C_NotFilled := C_NotFilled) K_Plan
  have fld_order := fldD_order (K := K) (mg := mg) (C_Plan := C_Plan) (C_RoofError := C_RoofError) (C_BadMeasure := C_BadMeasure) (C_UnknownCourse := C_UnknownCourse) (C_NotFilled := C_NotFilled) K_Plan
  meth_den F SC fun f cdv A outer s H E hr => show PSs _ _ (tDs _ _ d_Plan_number) from
    (dss_cons (ds_if (dt_not (dt_val (de_fnP C_fills zpr (hr.mono (by decide)) rfl (da_cons (de_fld rfl fld_eaves (de_var (pv 0))) (da_cons (de_fld rfl fld_widths (de_var (pv 0))) (da_cons (de_var (pv 1)) da_nil))) (len_cons (len_cons (len_cons len_nil)))))) (dss_one (ds_raise X_NotFilled zmr rfl rfl pm_str)) dss_nil)
    (dss_one (ds_ret (de_methL PySem.F.slot_list_index PySem.F.type_list_index (mt_index hr.units) ms_index (de_fld rfl fld_order (de_var (pv 0))) (da_cons (de_callTy call_listQ cs_list rfl B.list_ My.boot_list (da_cons (de_var (pv 1)) da_nil)) da_nil)))))
theorem sc_law_number_told : FnScope ["_law_plan", "_law_row_here", "_law_signs", "_law_told", "e"] ["_law_plan", "_law_row_here"] (defScope s_law_number_told) := ⟨rfl, rfl, rfl, by decide +kernel, rfl, by decide +kernel, by decide +kernel⟩
theorem ok_law_number_told (F : Fd K mg "_law_number_told" s_law_number_told ["_law_plan", "_law_row_here"]) (B : My.Blt mg) (K_Plan : ClsD K mg C_Plan "Plan" ["eaves", "widths", "near", "far", "order", "marks"]) (X_RoofError : ExcD K mg C_RoofError "RoofError") (X_UnknownCourse : ExcD K mg C_UnknownCourse "UnknownCourse") (X_NotFilled : ExcD K mg C_NotFilled "NotFilled") (Q_catch : ∀ c ∈ [51, 52, 53], PySem.W.exmOne K (.ref ((Wk K C_Plan C_RoofError C_BadMeasure C_UnknownCourse C_NotFilled).cl c)) (.ref C_RoofError) = some true) (J_UnknownCourse : IsF (Wk K C_Plan C_RoofError C_BadMeasure C_UnknownCourse C_NotFilled) [.ref C_UnknownCourse] is_UnknownCourse) (J_ValueError : IsF (Wk K C_Plan C_RoofError C_BadMeasure C_UnknownCourse C_NotFilled) [.type "ValueError"] is_ValueError) (J_NotFilled : IsF (Wk K C_Plan C_RoofError C_BadMeasure C_UnknownCourse C_NotFilled) [.ref C_NotFilled] is_NotFilled) (B2 : Blt2 mg) (C_Plan_number : CalM P w K mg base (CXr P w base) 2 C_Plan "number" ["self", "row"] (spD (Wk K C_Plan C_RoofError C_BadMeasure C_UnknownCourse C_NotFilled) 2 F_Plan_number)) : CalD P w K mg base (CXr P w base) 3 "_law_number_told" ["_law_plan", "_law_row_here"] (spD (Wk K C_Plan C_RoofError C_BadMeasure C_UnknownCourse C_NotFilled) 2 F_law_number_told) :=
  have SC := sc_law_number_told
  fd_den F SC fun f cdv A outer s H E hr => show PSs _ _ (tDs _ _ d_law_number_told) from
    (dss_cons (ds_set (i := 2) SC.nd rfl (Or.inl rfl) (de_lst da_nil))
    (dss_cons (ds_set (i := 3) SC.nd rfl (Or.inl rfl) de_non)
    (dss_cons (ds_try (i := 4) SC.nd rfl rfl rfl rfl rfl rfl X_RoofError.mgC Q_catch (fun _ _ _ hz => (dss_one (ds_set (i := 3) SC.nd rfl (Or.inl rfl) (de_methO (hcallP hz) C_Plan_number K_Plan.cls (show (_ : Str) ∉ nmW 0 by decide +kernel) (hr.mono (by decide)) (de_var (pv 0)) (da_cons (de_var (pv 1)) da_nil) (len_cons len_nil) (by decide))))) (fun _ _ => (dss_one (ds_set (i := 2) SC.nd rfl (Or.inl rfl) (de_lst (da_cons (de_isX rfl (pv 4) (pcl_own rfl X_NotFilled.mgC) J_NotFilled rfl B.isinstance_) (da_cons (de_isX rfl (pv 4) (pcl_blt rfl B2.ValueError_ boot_ValueError) J_ValueError rfl B.isinstance_) (da_cons (de_isX rfl (pv 4) (pcl_own rfl X_UnknownCourse.mgC) J_UnknownCourse rfl B.isinstance_) da_nil))))))))
    (dss_one (ds_ret (de_tup (da_cons (de_var (pv 3)) (da_cons (de_var (pv 2)) da_nil))))))))
theorem sc_law_kept : FnScope ["_law_handed", "_law_kept_here", "_law_k"] ["_law_handed", "_law_kept_here"] (defScope s_law_kept) := ⟨rfl, rfl, rfl, by decide +kernel, rfl, by decide +kernel, by decide +kernel⟩
theorem ok_law_kept (F : Fd K mg "_law_kept" s_law_kept ["_law_handed", "_law_kept_here"]) (B : My.Blt mg) (C_law_whole : CalD P w K mg base (CXr P w base) 1 "_law_whole" ["_law_found"] (spD (Wk K C_Plan C_RoofError C_BadMeasure C_UnknownCourse C_NotFilled) 1 F_law_whole)) : CalD P w K mg base (CXr P w base) 2 "_law_kept" ["_law_handed", "_law_kept_here"] (spD (Wk K C_Plan C_RoofError C_BadMeasure C_UnknownCourse C_NotFilled) 2 F_law_kept) :=
  have SC := sc_law_kept
  fd_den F SC fun f cdv A outer s H E hr => show PSs _ _ (tDs _ _ d_law_kept) from
    (dss_cons (ds_if (dt_cmp (op_neT hr.units) os_eq (de_callB call_lenQ cs_len rfl B.len_ My.boot_len (da_cons (de_var (pv 0)) da_nil)) (de_callB call_lenQ cs_len rfl B.len_ My.boot_len (da_cons (de_var (pv 1)) da_nil)) (nomark _)) (dss_one (ds_ret de_bl)) dss_nil)
    (dss_cons (ds_for PassesOwn.leaving rfl (di_rng1 rfl B.range_ (da_cons (de_callB call_lenQ cs_len rfl B.len_ My.boot_len (da_cons (de_var (pv 1)) da_nil)) da_nil)) (dg_name (pg_name (i := 2) SC.nd rfl (Or.inl rfl))) (tg_name _) (dss_one (ds_if (dt_w (dw_or (dt_not (dt_val (de_fnP C_law_whole zpr (hr.mono (by decide)) rfl (da_cons (de_ix rfl (de_var (pv 0)) (de_var (pv 2)) (fun _ _ => rfl)) da_nil) (len_cons len_nil)))) (dw_or1 (dt_cmp (op_neT hr.units) os_eq (de_ix rfl (de_var (pv 0)) (de_var (pv 2)) (fun _ _ => rfl)) (de_ix rfl (de_var (pv 1)) (de_var (pv 2)) (fun _ _ => rfl)) (nomark _))))) (dss_one (ds_ret de_bl)) dss_nil)))
    (dss_one (ds_ret de_bl))))
theorem sc_law_one : FnScope ["_law_plan", "_law_marks_here", "_law_eaves", "_law_number", "_law_flat", "_law_row_here", "_law_told", "_law_signs", "_law_handed", "_law_place"] ["_law_plan", "_law_marks_here", "_law_eaves", "_law_number", "_law_flat"] (defScope s_law_one) := ⟨rfl, rfl, rfl, by decide +kernel, rfl, by decide +kernel, by decide +kernel⟩
theorem ok_law_one (F : Fd K mg "_law_one" s_law_one ["_law_plan", "_law_marks_here", "_law_eaves", "_law_number", "_law_flat"]) (B : My.Blt mg) (C_law_row : CalD P w K mg base (CXr P w base) 1 "_law_row" ["_law_eaves", "_law_marks_here"] (spD (Wk K C_Plan C_RoofError C_BadMeasure C_UnknownCourse C_NotFilled) 2 F_law_row)) (C_law_row_told : CalD P w K mg base (CXr P w base) 4 "_law_row_told" ["_law_plan", "_law_number"] (spD (Wk K C_Plan C_RoofError C_BadMeasure C_UnknownCourse C_NotFilled) 2 F_law_row_told)) (C_law_same : CalD P w K mg base (CXr P w base) 2 "_law_same" ["_law_found", "_law_due"] (spD (Wk K C_Plan C_RoofError C_BadMeasure C_UnknownCourse C_NotFilled) 2 F_law_same)) (C_law_number_told : CalD P w K mg base (CXr P w base) 3 "_law_number_told" ["_law_plan", "_law_row_here"] (spD (Wk K C_Plan C_RoofError C_BadMeasure C_UnknownCourse C_NotFilled) 2 F_law_number_told)) (C_law_whole : CalD P w K mg base (CXr P w base) 1 "_law_whole" ["_law_found"] (spD (Wk K C_Plan C_RoofError C_BadMeasure C_UnknownCourse C_NotFilled) 1 F_law_whole)) (C_law_kept : CalD P w K mg base (CXr P w base) 2 "_law_kept" ["_law_handed", "_law_kept_here"] (spD (Wk K C_Plan C_RoofError C_BadMeasure C_UnknownCourse C_NotFilled) 2 F_law_kept)) : CalD P w K mg base (CXr P w base) 5 "_law_one" ["_law_plan", "_law_marks_here", "_law_eaves", "_law_number", "_law_flat"] (spD (Wk K C_Plan C_RoofError C_BadMeasure C_UnknownCourse C_NotFilled) 5 F_law_one) :=
  have SC := sc_law_one
  fd_den F SC fun f cdv A outer s H E hr => show PSs _ _ (tDs _ _ d_law_one) from
    (dss_cons (ds_set (i := 5) SC.nd rfl (Or.inl rfl) (de_fnP C_law_row zpr (hr.mono (by decide)) rfl (da_cons (de_var (pv 2)) (da_cons (de_ix rfl (de_var (pv 1)) (de_var (pv 3)) (fun _ _ => rfl)) da_nil)) (len_cons (len_cons len_nil))))
    (dss_cons (ds_asg (de_fnT C_law_row_told zpr (hr.mono (by decide)) rfl (da_cons (de_var (pv 0)) (da_cons (de_var (pv 3)) da_nil)) (len_cons (len_cons len_nil))) (dg_tup rfl (dgs_cons (dg_name (pg_name (i := 6) SC.nd rfl (Or.inl rfl))) (dgs_cons (dg_name (pg_name (i := 7) SC.nd rfl (Or.inl rfl))) dgs_nil))) (tg_tup (tgs_cons (tg_name _) (tgs_cons (tg_name _) tgs_nil))))
    (dss_cons (ds_if (dt_w (dw_or (dt_cmp (op_neT hr.units) os_eq (de_var (pv 7)) (de_lst da_nil) (nomark _)) (dw_or1 (dt_not (dt_val (de_fnC C_law_same zpr (hr.mono (by decide)) rfl (da_cons (de_var (pv 6)) (da_cons (de_var (pv 5)) da_nil)) (len_cons (len_cons len_nil)))))))) (dss_one (ds_ret de_bl)) dss_nil)
    (dss_cons (ds_expr (de_methL PySem.F.slot_list_append PySem.F.type_list_append mt_appendQ ms_append (de_var (pv 6)) (da_cons de_int da_nil)))
    (dss_cons (ds_set (i := 8) SC.nd rfl (Or.inl rfl) (de_ix rfl (de_lst (da_cons (de_callTy call_listQ cs_list rfl B.list_ My.boot_list (da_cons (de_var (pv 5)) da_nil)) (da_cons (de_callTy call_tupT cs_tuple rfl B.tuple_ My.boot_tuple (da_cons (de_var (pv 5)) da_nil)) da_nil))) (de_var (pv 4)) (fun _ _ => rfl)))
    (dss_cons (ds_asg (de_fnP C_law_number_told zpr (hr.mono (by decide)) rfl (da_cons (de_var (pv 0)) (da_cons (de_var (pv 8)) da_nil)) (len_cons (len_cons len_nil))) (dg_tup rfl (dgs_cons (dg_name (pg_name (i := 9) SC.nd rfl (Or.inl rfl))) (dgs_cons (dg_name (pg_name (i := 7) SC.nd rfl (Or.inl rfl))) dgs_nil))) (tg_tup (tgs_cons (tg_name _) (tgs_cons (tg_name _) tgs_nil))))
    (dss_cons (ds_if (dt_w (dw_or (dt_cmp (op_neT hr.units) os_eq (de_var (pv 7)) (de_lst da_nil) (nomark _)) (dw_or (dt_not (dt_val (de_fnP C_law_whole zpr (hr.mono (by decide)) rfl (da_cons (de_var (pv 9)) da_nil) (len_cons len_nil)))) (dw_or (dt_cmp (op_neT hr.units) os_eq (de_var (pv 9)) (de_var (pv 3)) (nomark _)) (dw_or1 (dt_not (dt_val (de_fnP C_law_kept zpr (hr.mono (by decide)) rfl (da_cons (de_var (pv 8)) (da_cons (de_var (pv 5)) da_nil)) (len_cons (len_cons len_nil)))))))))) (dss_one (ds_ret de_bl)) dss_nil)
    (dss_cons (ds_asg (de_fnT C_law_row_told zpr (hr.mono (by decide)) rfl (da_cons (de_var (pv 0)) (da_cons (de_var (pv 3)) da_nil)) (len_cons (len_cons len_nil))) (dg_tup rfl (dgs_cons (dg_name (pg_name (i := 6) SC.nd rfl (Or.inl rfl))) (dgs_cons (dg_name (pg_name (i := 7) SC.nd rfl (Or.inl rfl))) dgs_nil))) (tg_tup (tgs_cons (tg_name _) (tgs_cons (tg_name _) tgs_nil))))
    (dss_one (ds_ret (de_and (de_cmp (op_eqT hr.units) os_eq (de_var (pv 7)) (de_lst da_nil) (nomark _)) (de_one (de_fnC C_law_same zpr (hr.mono (by decide)) rfl (da_cons (de_var (pv 6)) (da_cons (de_var (pv 5)) da_nil)) (len_cons (len_cons len_nil)))))))))))))))
theorem sc_law_spoiled_row : FnScope ["_law_row_here", "_law_widths", "_law_eaves", "_law_cell", "_law_kind", "_law_spot", "_law_head", "_law_own", "_law_tail", "_law_great", "_law_others"] ["_law_row_here", "_law_widths", "_law_eaves", "_law_cell"] (defScope s_law_spoiled_row) := ⟨rfl, rfl, rfl, by decide +kernel, rfl, by decide +kernel, by decide +kernel⟩
theorem ok_law_spoiled_row (F : Fd K mg "_law_spoiled_row" s_law_spoiled_row ["_law_row_here", "_law_widths", "_law_eaves", "_law_cell"]) (B : My.Blt mg) : CalD P w K mg base (CXr P w base) 1 "_law_spoiled_row" ["_law_row_here", "_law_widths", "_law_eaves", "_law_cell"] (spD (Wk K C_Plan C_RoofError C_BadMeasure C_UnknownCourse C_NotFilled) 4 F_law_spoiled_row) :=
  have SC := sc_law_spoiled_row
  fd_den F SC fun f cdv A outer s H E hr => show PSs _ _ (tDs _ _ d_law_spoiled_row) from
    (dss_cons (ds_set (i := 4) SC.nd rfl (Or.inl rfl) (de_op op_mod os_mod (de_var (pv 3)) de_int))
    (dss_cons (ds_set (i := 5) SC.nd rfl (Or.inl rfl) (de_op op_mod os_mod (de_op op_fdiv os_div (de_var (pv 3)) de_int) (de_callB call_lenQ cs_len rfl B.len_ My.boot_len (da_cons (de_var (pv 0)) da_nil))))
    (dss_cons (ds_set (i := 6) SC.nd rfl (Or.inl rfl) (de_sl (de_var (pv 0)) do_none (do_some (de_var (pv 5)))))
    (dss_cons (ds_set (i := 7) SC.nd rfl (Or.inl rfl) (de_ix rfl (de_var (pv 0)) (de_var (pv 5)) (fun _ _ => rfl)))
    (dss_cons (ds_set (i := 8) SC.nd rfl (Or.inl rfl) (de_sl (de_var (pv 0)) (do_some (de_op op_addT os_add (de_var (pv 5)) de_int)) do_none))
    (dss_cons (ds_if (dt_cmp (op_eqT hr.units) os_eq (de_var (pv 4)) de_int (nomark _)) (dss_one (ds_ret (de_op op_addT os_add (de_var (pv 6)) (de_var (pv 8))))) dss_nil)
    (dss_cons (ds_if (dt_cmp (op_eqT hr.units) os_eq (de_var (pv 4)) de_int (nomark _)) (dss_one (ds_ret (de_op op_addT os_add (de_op op_addT os_add (de_var (pv 6)) (de_lst (da_cons (de_var (pv 7)) (da_cons (de_ix rfl (de_var (pv 1)) (de_op op_mod os_mod (de_op op_fdiv os_div (de_var (pv 3)) de_int) (de_callB call_lenQ cs_len rfl B.len_ My.boot_len (da_cons (de_var (pv 1)) da_nil))) (fun _ _ => rfl)) da_nil)))) (de_var (pv 8))))) dss_nil)
    (dss_cons (ds_if (dt_cmp (op_eqT hr.units) os_eq (de_var (pv 4)) de_int (nomark _)) (dss_one (ds_ret (de_op op_addT os_add (de_op op_addT os_add (de_var (pv 6)) (de_lst (da_cons (de_op op_addT os_add (de_var (pv 7)) de_int) da_nil))) (de_var (pv 8))))) dss_nil)
    (dss_cons (ds_if (dt_cmp (op_eqT hr.units) os_eq (de_var (pv 4)) de_int (nomark _)) (dss_one (ds_ret (de_op op_addT os_add (de_op op_addT os_add (de_var (pv 6)) (de_lst (da_cons (de_op op_sub os_sub (de_var (pv 7)) de_int) (da_cons de_int da_nil)))) (de_var (pv 8))))) dss_nil)
    (dss_cons (ds_if (dt_cmp (op_eqT hr.units) os_eq (de_var (pv 4)) de_int (nomark _)) (dss_one (ds_ret (de_op op_addT os_add (de_op op_addT os_add (de_var (pv 6)) (de_lst (da_cons de_int (da_cons (de_var (pv 7)) da_nil)))) (de_var (pv 8))))) dss_nil)
    (dss_cons (ds_if (dt_cmp (op_eqT hr.units) os_eq (de_var (pv 4)) de_int (nomark _)) (dss_one (ds_ret (de_op op_addT os_add (de_op op_addT os_add (de_var (pv 6)) (de_lst (da_cons (de_un un_neg us_neg (de_var (pv 7))) (da_cons (de_var (pv 7)) (da_cons (de_var (pv 7)) da_nil))))) (de_var (pv 8))))) dss_nil)
    (dss_cons (ds_if (dt_cmp (op_eqT hr.units) os_eq (de_var (pv 4)) de_int (nomark _)) (dss_cons (ds_set (i := 9) SC.nd rfl (Or.inl rfl) (de_op op_pow os_pow de_int de_int))
    (dss_cons (ds_set (i := 10) SC.nd rfl (Or.inl rfl) (de_lst (da_cons (de_lst da_nil) (da_cons (de_lst (da_cons (de_var (pv 2)) da_nil)) (da_cons (de_lst (da_cons (de_op op_sub os_sub (de_var (pv 2)) de_int) (da_cons de_int da_nil))) (da_cons (de_lst (da_cons (de_var (pv 9)) (da_cons (de_op op_sub os_sub (de_var (pv 2)) (de_var (pv 9))) da_nil))) (da_cons (de_op op_addT os_add (de_var (pv 0)) (de_lst (da_cons de_int da_nil))) (da_cons (de_op op_mulT os_mul (de_lst (da_cons (de_var (pv 7)) da_nil)) de_int) da_nil))))))))
    (dss_one (ds_ret (de_ix rfl (de_var (pv 10)) (de_op op_mod os_mod (de_op op_fdiv os_div (de_var (pv 3)) de_int) de_int) (fun _ _ => rfl)))))) dss_nil)
    (dss_one (ds_ret (de_op op_addT os_add (de_var (pv 0)) (de_lst (da_cons (de_ix rfl (de_var (pv 0)) de_int (fun _ _ => rfl)) da_nil)))))))))))))))))
theorem sc_law_fits : FnScope ["_law_eaves", "_law_widths", "_law_row_here", "_law_rest", "_law_width"] ["_law_eaves", "_law_widths", "_law_row_here"] (defScope s_law_fits) := ⟨rfl, rfl, rfl, by decide +kernel, rfl, by decide +kernel, by decide +kernel⟩
theorem ok_law_fits (F : Fd K mg "_law_fits" s_law_fits ["_law_eaves", "_law_widths", "_law_row_here"]) (B : My.Blt mg) : CalD P w K mg base (CXr P w base) 1 "_law_fits" ["_law_eaves", "_law_widths", "_law_row_here"] (spD (Wk K C_Plan C_RoofError C_BadMeasure C_UnknownCourse C_NotFilled) 3 F_law_fits) :=
  have SC := sc_law_fits
  fd_den F SC fun f cdv A outer s H E hr => show PSs _ _ (tDs _ _ d_law_fits) from
    (dss_cons (ds_set (i := 3) SC.nd rfl (Or.inl rfl) (de_var (pv 0)))
    (dss_cons (ds_for PassesOwn.leaving rfl (di_seq rfl (de_var (pv 2))) (dg_name (pg_name (i := 4) SC.nd rfl (Or.inl rfl))) (tg_name _) (dss_cons (ds_if (dt_cmp (op_notInT hr.units rfl) os_in (de_var (pv 4)) (de_var (pv 1)) (by with_unfolding_all rfl)) (dss_one (ds_ret de_bl)) dss_nil)
    (dss_one (ds_set (i := 3) SC.nd rfl (Or.inl rfl) (de_op op_sub os_sub (de_var (pv 3)) (de_var (pv 4)))))))
    (dss_one (ds_ret (de_cmp (op_eqT hr.units) os_eq (de_var (pv 3)) de_int (nomark _))))))
theorem sc_law : FnScope ["_law_script", "_law_eaves", "_law_widths", "_law_near", "_law_far", "_law_plan", "_law_marks_here", "_law_cell", "_law_base", "_law_great", "_law_number", "_law_told", "_law_signs", "_law_row_here", "_law_place"] ["_law_script"] (defScope s_law) := ⟨rfl, rfl, rfl, by decide +kernel, rfl, by decide +kernel, by decide +kernel⟩
theorem ok_law {fl : Addr} {fd : FuncData} (F : Fun K "law" "law" s_law fl fd) (B : My.Blt mg) (K_Plan : ClsD K mg C_Plan "Plan" ["eaves", "widths", "near", "far", "order", "marks"]) (C_law_measures : CalD P w K mg base (CXr P w base) 2 "_law_measures" ["_law_script"] (spD (Wk K C_Plan C_RoofError C_BadMeasure C_UnknownCourse C_NotFilled) 1 F_law_measures)) (C_Plan___init__ : CalI P w K mg base (CXr P w base) 10 C_Plan ["self", "eaves", "widths", "near", "far"] (spD (Wk K C_Plan C_RoofError C_BadMeasure C_UnknownCourse C_NotFilled) 5 F_Plan___init__)) (C_law_courses : CalD P w K mg base (CXr P w base) 2 "_law_courses" ["_law_eaves", "_law_widths"] (spD (Wk K C_Plan C_RoofError C_BadMeasure C_UnknownCourse C_NotFilled) 2 F_law_courses)) (C_law_at : CalD P w K mg base (CXr P w base) 1 "_law_at" ["_law_script", "_law_k"] (spD (Wk K C_Plan C_RoofError C_BadMeasure C_UnknownCourse C_NotFilled) 2 F_law_at)) (C_law_row : CalD P w K mg base (CXr P w base) 1 "_law_row" ["_law_eaves", "_law_marks_here"] (spD (Wk K C_Plan C_RoofError C_BadMeasure C_UnknownCourse C_NotFilled) 2 F_law_row)) (C_law_one : CalD P w K mg base (CXr P w base) 5 "_law_one" ["_law_plan", "_law_marks_here", "_law_eaves", "_law_number", "_law_flat"] (spD (Wk K C_Plan C_RoofError C_BadMeasure C_UnknownCourse C_NotFilled) 5 F_law_one)) (C_law_row_told : CalD P w K mg base (CXr P w base) 4 "_law_row_told" ["_law_plan", "_law_number"] (spD (Wk K C_Plan C_RoofError C_BadMeasure C_UnknownCourse C_NotFilled) 2 F_law_row_told)) (C_law_spoiled_row : CalD P w K mg base (CXr P w base) 1 "_law_spoiled_row" ["_law_row_here", "_law_widths", "_law_eaves", "_law_cell"] (spD (Wk K C_Plan C_RoofError C_BadMeasure C_UnknownCourse C_NotFilled) 4 F_law_spoiled_row)) (C_law_number_told : CalD P w K mg base (CXr P w base) 3 "_law_number_told" ["_law_plan", "_law_row_here"] (spD (Wk K C_Plan C_RoofError C_BadMeasure C_UnknownCourse C_NotFilled) 2 F_law_number_told)) (C_law_fits : CalD P w K mg base (CXr P w base) 1 "_law_fits" ["_law_eaves", "_law_widths", "_law_row_here"] (spD (Wk K C_Plan C_RoofError C_BadMeasure C_UnknownCourse C_NotFilled) 3 F_law_fits)) (C_law_whole : CalD P w K mg base (CXr P w base) 1 "_law_whole" ["_law_found"] (spD (Wk K C_Plan C_RoofError C_BadMeasure C_UnknownCourse C_NotFilled) 1 F_law_whole)) (C_law_marks : CalD P w K mg base (CXr P w base) 1 "_law_marks" ["_law_row_here"] (spD (Wk K C_Plan C_RoofError C_BadMeasure C_UnknownCourse C_NotFilled) 1 F_law_marks)) : FnOk P w K mg base (CXr P w base) 12 fl fd ["_law_script"] (spD (Wk K C_Plan C_RoofError C_BadMeasure C_UnknownCourse C_NotFilled) 1 F_law) :=
  have SC := sc_law
  fun_den F SC fun f cdv A outer s H E hr => show PSs _ _ (tDs _ _ d_law) from
    (dss_cons (ds_asg (de_fnP C_law_measures zpr (hr.mono (by decide)) rfl (da_cons (de_var (pv 0)) da_nil) (len_cons len_nil)) (dg_tup rfl (dgs_cons (dg_name (pg_name (i := 1) SC.nd rfl (Or.inl rfl))) (dgs_cons (dg_name (pg_name (i := 2) SC.nd rfl (Or.inl rfl))) (dgs_cons (dg_name (pg_name (i := 3) SC.nd rfl (Or.inl rfl))) (dgs_cons (dg_name (pg_name (i := 4) SC.nd rfl (Or.inl rfl))) dgs_nil))))) (tg_tup (tgs_cons (tg_name _) (tgs_cons (tg_name _) (tgs_cons (tg_name _) (tgs_cons (tg_name _) tgs_nil))))))
    (dss_cons (ds_set (i := 5) SC.nd rfl (Or.inl rfl) (de_makeP C_Plan___init__ zpr (hr.mono (by decide)) rfl K_Plan.mgC (da_cons (de_var (pv 1)) (da_cons (de_callTy call_listQ cs_list rfl B.list_ My.boot_list (da_cons (de_var (pv 2)) da_nil)) (da_cons (de_var (pv 3)) (da_cons (de_var (pv 4)) da_nil)))) (len_cons (len_cons (len_cons (len_cons len_nil)))) (by decide)))
    (dss_cons (ds_set (i := 6) SC.nd rfl (Or.inl rfl) (de_fnP C_law_courses zpr (hr.mono (by decide)) rfl (da_cons (de_var (pv 1)) (da_cons (de_var (pv 2)) da_nil)) (len_cons (len_cons len_nil))))
    (dss_cons (ds_set (i := 7) SC.nd rfl (Or.inl rfl) (de_fnP C_law_at zpr (hr.mono (by decide)) rfl (da_cons (de_var (pv 0)) (da_cons de_int da_nil)) (len_cons (len_cons len_nil))))
    (dss_cons (ds_set (i := 8) SC.nd rfl (Or.inl rfl) (de_callTy call_listQ cs_list rfl B.list_ My.boot_list (da_cons (de_var (pv 2)) da_nil)))
    (dss_cons (ds_if (dt_cmp (op_neT hr.units) os_eq (de_var (pv 6)) (de_lst da_nil) (nomark _)) (dss_cons (ds_set (i := 8) SC.nd rfl (Or.inl rfl) (de_fnP C_law_row zpr (hr.mono (by decide)) rfl (da_cons (de_var (pv 1)) (da_cons (de_ix rfl (de_var (pv 6)) (de_op op_mod os_mod (de_var (pv 7)) (de_callB call_lenQ cs_len rfl B.len_ My.boot_len (da_cons (de_var (pv 6)) da_nil))) (fun _ _ => rfl)) da_nil)) (len_cons (len_cons len_nil))))
    (dss_one (ds_if (dt_not (dt_val (de_fnP C_law_one zpr (hr.mono (by decide)) rfl (da_cons (de_var (pv 5)) (da_cons (de_var (pv 6)) (da_cons (de_var (pv 1)) (da_cons (de_op op_mod os_mod (de_var (pv 7)) (de_callB call_lenQ cs_len rfl B.len_ My.boot_len (da_cons (de_var (pv 6)) da_nil))) (da_cons (de_op op_mod os_mod (de_fnP C_law_at zpr (hr.mono (by decide)) rfl (da_cons (de_var (pv 0)) (da_cons de_int da_nil)) (len_cons (len_cons len_nil))) de_int) da_nil))))) (len_cons (len_cons (len_cons (len_cons (len_cons len_nil)))))))) (dss_one (ds_ret de_bl)) dss_nil))) dss_nil)
    (dss_cons (ds_set (i := 9) SC.nd rfl (Or.inl rfl) (de_op op_mod os_mod (de_fnP C_law_at zpr (hr.mono (by decide)) rfl (da_cons (de_var (pv 0)) (da_cons de_int da_nil)) (len_cons (len_cons len_nil))) (de_op op_pow os_pow de_int de_int)))
    (dss_cons (ds_for PassesOwn.leaving rfl (di_seq rfl (de_lst (da_cons (de_un un_neg us_neg de_int) (da_cons (de_callB call_lenQ cs_len rfl B.len_ My.boot_len (da_cons (de_var (pv 6)) da_nil)) (da_cons (de_op op_addT os_add (de_op op_addT os_add (de_callB call_lenQ cs_len rfl B.len_ My.boot_len (da_cons (de_var (pv 6)) da_nil)) de_int) (de_var (pv 9))) (da_cons (de_op op_sub os_sub (de_un un_neg us_neg de_int) (de_var (pv 9))) da_nil)))))) (dg_name (pg_name (i := 10) SC.nd rfl (Or.inl rfl))) (tg_name _) (dss_cons (ds_asg (de_fnP C_law_row_told zpr (hr.mono (by decide)) rfl (da_cons (de_var (pv 5)) (da_cons (de_var (pv 10)) da_nil)) (len_cons (len_cons len_nil))) (dg_tup rfl (dgs_cons (dg_name (pg_name (i := 11) SC.nd rfl (Or.inl rfl))) (dgs_cons (dg_name (pg_name (i := 12) SC.nd rfl (Or.inl rfl))) dgs_nil))) (tg_tup (tgs_cons (tg_name _) (tgs_cons (tg_name _) tgs_nil))))
    (dss_one (ds_if (dt_cmp (op_neT hr.units) os_eq (de_var (pv 12)) (de_lst (da_cons de_bl (da_cons de_bl (da_cons de_bl da_nil)))) (nomark _)) (dss_one (ds_ret de_bl)) dss_nil))))
    (dss_cons (ds_set (i := 13) SC.nd rfl (Or.inl rfl) (de_fnP C_law_spoiled_row zpr (hr.mono (by decide)) rfl (da_cons (de_var (pv 8)) (da_cons (de_var (pv 2)) (da_cons (de_var (pv 1)) (da_cons (de_op op_fdiv os_div (de_fnP C_law_at zpr (hr.mono (by decide)) rfl (da_cons (de_var (pv 0)) (da_cons de_int da_nil)) (len_cons (len_cons len_nil))) de_int) da_nil)))) (len_cons (len_cons (len_cons (len_cons len_nil))))))
    (dss_cons (ds_if (dt_w (dw_and (dt_cmp (op_eqT hr.units) os_eq (de_op op_mod os_mod (de_fnP C_law_at zpr (hr.mono (by decide)) rfl (da_cons (de_var (pv 0)) (da_cons de_int da_nil)) (len_cons (len_cons len_nil))) de_int) de_int (nomark _)) (dw_and1 (dt_cmp (op_neT hr.units) os_eq (de_var (pv 6)) (de_lst da_nil) (nomark _))))) (dss_one (ds_set (i := 13) SC.nd rfl (Or.inl rfl) (de_fnP C_law_row zpr (hr.mono (by decide)) rfl (da_cons (de_var (pv 1)) (da_cons (de_ix rfl (de_var (pv 6)) (de_op op_mod os_mod (de_op op_fdiv os_div (de_fnP C_law_at zpr (hr.mono (by decide)) rfl (da_cons (de_var (pv 0)) (da_cons de_int da_nil)) (len_cons (len_cons len_nil))) de_int) (de_callB call_lenQ cs_len rfl B.len_ My.boot_len (da_cons (de_var (pv 6)) da_nil))) (fun _ _ => rfl)) da_nil)) (len_cons (len_cons len_nil))))) dss_nil)
    (dss_cons (ds_asg (de_fnP C_law_number_told zpr (hr.mono (by decide)) rfl (da_cons (de_var (pv 5)) (da_cons (de_callTy call_listQ cs_list rfl B.list_ My.boot_list (da_cons (de_var (pv 13)) da_nil)) da_nil)) (len_cons (len_cons len_nil))) (dg_tup rfl (dgs_cons (dg_name (pg_name (i := 14) SC.nd rfl (Or.inl rfl))) (dgs_cons (dg_name (pg_name (i := 12) SC.nd rfl (Or.inl rfl))) dgs_nil))) (tg_tup (tgs_cons (tg_name _) (tgs_cons (tg_name _) tgs_nil))))
    (dss_cons (ds_if (dt_val (de_fnP C_law_fits zpr (hr.mono (by decide)) rfl (da_cons (de_var (pv 1)) (da_cons (de_var (pv 2)) (da_cons (de_var (pv 13)) da_nil))) (len_cons (len_cons (len_cons len_nil))))) (dss_one (ds_ret (de_and (de_cmp (op_eqT hr.units) os_eq (de_var (pv 12)) (de_lst da_nil) (nomark _)) (de_and (de_fnP C_law_whole zpr (hr.mono (by decide)) rfl (da_cons (de_var (pv 14)) da_nil) (len_cons len_nil)) (de_one (de_cmp (op_eqT hr.units) os_eq (de_var (pv 14)) (de_methL PySem.F.slot_list_index PySem.F.type_list_index (mt_index hr.units) ms_index (de_var (pv 6)) (da_cons (de_fnP C_law_marks zpr (hr.mono (by decide)) rfl (da_cons (de_var (pv 13)) da_nil) (len_cons len_nil)) da_nil)) (nomark _))))))) dss_nil)
    (dss_one (ds_ret (de_cmp (op_eqT hr.units) os_eq (de_var (pv 12)) (de_lst (da_cons de_bl (da_cons de_bl (da_cons de_bl da_nil)))) (nomark _))))))))))))))))
end
theorem all_mk {l : PySem.W.OpenLaw} {w : World} {K : PySem.W.Frag} {h : Heap} {mg : Str → Option Value} {fa : Addr} {C_Plan C_RoofError C_BadMeasure C_UnknownCourse C_NotFilled : Addr} (X : K.In h) (G : h.Ns mainGlobals mg) (hfa : mg "law" = some (.ref fa)) (B : My.Blt mg)
    (G_GREATEST_DISTANCE : ∃ t, mg "GREATEST_DISTANCE" = some (.int 6 t))
    (G_GREATEST_EAVES : ∃ t, mg "GREATEST_EAVES" = some (.int 12 t))
    (G_GREATEST_WIDTH : ∃ t, mg "GREATEST_WIDTH" = some (.int 8 t))
    (G_LEAST_WIDTH : ∃ t, mg "LEAST_WIDTH" = some (.int 2 t))
    (G_MOST_WIDTHS : ∃ t, mg "MOST_WIDTHS" = some (.int 3 t))
    (K_Plan : ClsD K mg C_Plan "Plan" ["eaves", "widths", "near", "far", "order", "marks"])
    (X_RoofError : ExcD K mg C_RoofError "RoofError")
    (X_BadMeasure : ExcD K mg C_BadMeasure "BadMeasure")
    (X_UnknownCourse : ExcD K mg C_UnknownCourse "UnknownCourse")
    (X_NotFilled : ExcD K mg C_NotFilled "NotFilled")
    (E_BadMeasure : PySem.W.exmOne K (.ref C_BadMeasure) (.ref C_RoofError) = some true)
    (E_UnknownCourse : PySem.W.exmOne K (.ref C_UnknownCourse) (.ref C_RoofError) = some true)
    (E_NotFilled : PySem.W.exmOne K (.ref C_NotFilled) (.ref C_RoofError) = some true)
    (D_BadMeasure : KxD K C_BadMeasure)
    (D_UnknownCourse : KxD K C_UnknownCourse)
    (D_NotFilled : KxD K C_NotFilled)
    (J_NotFilled__BadMeasure : PySem.W.kitAny K (.ref C_BadMeasure) [.ref C_NotFilled] = some false)
    (J_NotFilled__UnknownCourse : PySem.W.kitAny K (.ref C_UnknownCourse) [.ref C_NotFilled] = some false)
    (J_NotFilled__NotFilled : PySem.W.kitAny K (.ref C_NotFilled) [.ref C_NotFilled] = some true)
    (J_ValueError__BadMeasure : PySem.W.kitAny K (.ref C_BadMeasure) [.type "ValueError"] = some true)
    (J_ValueError__UnknownCourse : PySem.W.kitAny K (.ref C_UnknownCourse) [.type "ValueError"] = some true)
    (J_ValueError__NotFilled : PySem.W.kitAny K (.ref C_NotFilled) [.type "ValueError"] = some true)
    (J_UnknownCourse__BadMeasure : PySem.W.kitAny K (.ref C_BadMeasure) [.ref C_UnknownCourse] = some false)
    (J_UnknownCourse__UnknownCourse : PySem.W.kitAny K (.ref C_UnknownCourse) [.ref C_UnknownCourse] = some true)
    (J_UnknownCourse__NotFilled : PySem.W.kitAny K (.ref C_NotFilled) [.ref C_UnknownCourse] = some false)
    (B2 : Blt2 mg)
    (T_law_at : Fd K mg "_law_at" s_law_at ["_law_script", "_law_k"])
    (T_law_menu : Fd K mg "_law_menu" s_law_menu ["_law_k"])
    (T_law_measures : Fd K mg "_law_measures" s_law_measures ["_law_script"])
    (T_check_eaves : Fd K mg "check_eaves" s_check_eaves ["eaves"])
    (T_check_widths : Fd K mg "check_widths" s_check_widths ["widths"])
    (T_check_distance : Fd K mg "check_distance" s_check_distance ["distance"])
    (T_rows_of_length : Fd K mg "rows_of_length" s_rows_of_length ["length", "widths"])
    (T_joints : Fd K mg "joints" s_joints ["row"])
    (T_Plan___init__ : InitD K C_Plan "Plan.__init__" s_Plan___init__ ["self", "eaves", "widths", "near", "far"])
    (T_law_marks : Fd K mg "_law_marks" s_law_marks ["_law_row_here"])
    (T_law_courses : Fd K mg "_law_courses" s_law_courses ["_law_eaves", "_law_widths"])
    (T_law_row : Fd K mg "_law_row" s_law_row ["_law_eaves", "_law_marks_here"])
    (T_Plan_is_course : MethD K C_Plan "is_course" "Plan.is_course" s_Plan_is_course ["self", "number"])
    (T_Plan_check_course : MethD K C_Plan "check_course" "Plan.check_course" s_Plan_check_course ["self", "number"])
    (T_Plan_row : MethD K C_Plan "row" "Plan.row" s_Plan_row ["self", "number"])
    (T_law_row_told : Fd K mg "_law_row_told" s_law_row_told ["_law_plan", "_law_number"])
    (T_law_whole : Fd K mg "_law_whole" s_law_whole ["_law_found"])
    (T_law_same : Fd K mg "_law_same" s_law_same ["_law_found", "_law_due"])
    (T_fills : Fd K mg "fills" s_fills ["eaves", "widths", "row"])
    (T_Plan_number : MethD K C_Plan "number" "Plan.number" s_Plan_number ["self", "row"])
    (T_law_number_told : Fd K mg "_law_number_told" s_law_number_told ["_law_plan", "_law_row_here"])
    (T_law_kept : Fd K mg "_law_kept" s_law_kept ["_law_handed", "_law_kept_here"])
    (T_law_one : Fd K mg "_law_one" s_law_one ["_law_plan", "_law_marks_here", "_law_eaves", "_law_number", "_law_flat"])
    (T_law_spoiled_row : Fd K mg "_law_spoiled_row" s_law_spoiled_row ["_law_row_here", "_law_widths", "_law_eaves", "_law_cell"])
    (T_law_fits : Fd K mg "_law_fits" s_law_fits ["_law_eaves", "_law_widths", "_law_row_here"])
    (T_law : Fd K mg "law" s_law ["_law_script"])
    : ∃ fd : FuncData, (∀ (s : Shared) (v : Value), BindsTo s fd ⟨[v], []⟩ [("_law_script", v)]) ∧ ∀ base : Heap, K.In base → base.Ns mainGlobals mg → FnOk l.prog w K mg base CX0 12 fa fd ["_law_script"] (spL K F_law) := by
  obtain ⟨f, fd, G4, a, b⟩ := T_law.ex
  have e := hfa.symm.trans a
  cases e
  refine ⟨fd, fun s v => .of_eq (b [v] rfl), fun base _ _ => fn_cx0 (FnOk.imp ?_ fun vs H Q E => spL_spD (W := (Wk K C_Plan C_RoofError C_BadMeasure C_UnknownCourse C_NotFilled)))⟩
  have Q_catch : ∀ c ∈ [51, 52, 53], PySem.W.exmOne K (.ref ((Wk K C_Plan C_RoofError C_BadMeasure C_UnknownCourse C_NotFilled).cl c)) (.ref C_RoofError) = some true := by
    intro c hc
    simp only [List.mem_cons, List.not_mem_nil, or_false] at hc
    rcases hc with rfl | rfl | rfl
    · exact E_BadMeasure
    · exact E_UnknownCourse
    · exact E_NotFilled
  have J_NotFilled : IsF (Wk K C_Plan C_RoofError C_BadMeasure C_UnknownCourse C_NotFilled) [.ref C_NotFilled] is_NotFilled := (isf_cons D_BadMeasure J_NotFilled__BadMeasure (isf_cons D_UnknownCourse J_NotFilled__UnknownCourse (isf_cons D_NotFilled J_NotFilled__NotFilled isf_nil)))
  have J_ValueError : IsF (Wk K C_Plan C_RoofError C_BadMeasure C_UnknownCourse C_NotFilled) [.type "ValueError"] is_ValueError := (isf_cons D_BadMeasure J_ValueError__BadMeasure (isf_cons D_UnknownCourse J_ValueError__UnknownCourse (isf_cons D_NotFilled J_ValueError__NotFilled isf_nil)))
  have J_UnknownCourse : IsF (Wk K C_Plan C_RoofError C_BadMeasure C_UnknownCourse C_NotFilled) [.ref C_UnknownCourse] is_UnknownCourse := (isf_cons D_BadMeasure J_UnknownCourse__BadMeasure (isf_cons D_UnknownCourse J_UnknownCourse__UnknownCourse (isf_cons D_NotFilled J_UnknownCourse__NotFilled isf_nil)))
  have C_law_at := ok_law_at (P := l.prog) (w := w) (base := base) (C_Plan := C_Plan) (C_RoofError := C_RoofError) (C_BadMeasure := C_BadMeasure) (C_UnknownCourse := C_UnknownCourse) (C_NotFilled := C_NotFilled) T_law_at B
  have C_law_menu := ok_law_menu (P := l.prog) (w := w) (base := base) (C_Plan := C_Plan) (C_RoofError := C_RoofError) (C_BadMeasure := C_BadMeasure) (C_UnknownCourse := C_UnknownCourse) (C_NotFilled := C_NotFilled) T_law_menu B
  have C_law_measures := ok_law_measures (P := l.prog) (w := w) (base := base) (C_Plan := C_Plan) (C_RoofError := C_RoofError) (C_BadMeasure := C_BadMeasure) (C_UnknownCourse := C_UnknownCourse) (C_NotFilled := C_NotFilled) T_law_measures B C_law_at C_law_menu
  have C_check_eaves := ok_check_eaves (P := l.prog) (w := w) (base := base) (C_Plan := C_Plan) (C_RoofError := C_RoofError) (C_BadMeasure := C_BadMeasure) (C_UnknownCourse := C_UnknownCourse) (C_NotFilled := C_NotFilled) T_check_eaves B G_GREATEST_EAVES X_BadMeasure
  have C_check_widths := ok_check_widths (P := l.prog) (w := w) (base := base) (C_Plan := C_Plan) (C_RoofError := C_RoofError) (C_BadMeasure := C_BadMeasure) (C_UnknownCourse := C_UnknownCourse) (C_NotFilled := C_NotFilled) T_check_widths B G_MOST_WIDTHS G_LEAST_WIDTH G_GREATEST_WIDTH X_BadMeasure
  have C_check_distance := ok_check_distance (P := l.prog) (w := w) (base := base) (C_Plan := C_Plan) (C_RoofError := C_RoofError) (C_BadMeasure := C_BadMeasure) (C_UnknownCourse := C_UnknownCourse) (C_NotFilled := C_NotFilled) T_check_distance B G_GREATEST_DISTANCE X_BadMeasure
  have C_rows_of_length := ok_rows_of_length (P := l.prog) (w := w) (base := base) (C_Plan := C_Plan) (C_RoofError := C_RoofError) (C_BadMeasure := C_BadMeasure) (C_UnknownCourse := C_UnknownCourse) (C_NotFilled := C_NotFilled) T_rows_of_length B
  have C_joints := ok_joints (P := l.prog) (w := w) (base := base) (C_Plan := C_Plan) (C_RoofError := C_RoofError) (C_BadMeasure := C_BadMeasure) (C_UnknownCourse := C_UnknownCourse) (C_NotFilled := C_NotFilled) T_joints B
  have C_Plan___init__ := ok_Plan___init__ (P := l.prog) (w := w) (base := base) (C_Plan := C_Plan) (C_RoofError := C_RoofError) (C_BadMeasure := C_BadMeasure) (C_UnknownCourse := C_UnknownCourse) (C_NotFilled := C_NotFilled) T_Plan___init__ B K_Plan C_check_eaves C_check_widths C_check_distance C_rows_of_length C_joints
  have C_law_marks := ok_law_marks (P := l.prog) (w := w) (base := base) (C_Plan := C_Plan) (C_RoofError := C_RoofError) (C_BadMeasure := C_BadMeasure) (C_UnknownCourse := C_UnknownCourse) (C_NotFilled := C_NotFilled) T_law_marks B
  have C_law_courses := ok_law_courses (P := l.prog) (w := w) (base := base) (C_Plan := C_Plan) (C_RoofError := C_RoofError) (C_BadMeasure := C_BadMeasure) (C_UnknownCourse := C_UnknownCourse) (C_NotFilled := C_NotFilled) T_law_courses B C_law_marks
  have C_law_row := ok_law_row (P := l.prog) (w := w) (base := base) (C_Plan := C_Plan) (C_RoofError := C_RoofError) (C_BadMeasure := C_BadMeasure) (C_UnknownCourse := C_UnknownCourse) (C_NotFilled := C_NotFilled) T_law_row B
  have C_Plan_is_course := ok_Plan_is_course (P := l.prog) (w := w) (base := base) (C_Plan := C_Plan) (C_RoofError := C_RoofError) (C_BadMeasure := C_BadMeasure) (C_UnknownCourse := C_UnknownCourse) (C_NotFilled := C_NotFilled) T_Plan_is_course B K_Plan
  have C_Plan_check_course := ok_Plan_check_course (P := l.prog) (w := w) (base := base) (C_Plan := C_Plan) (C_RoofError := C_RoofError) (C_BadMeasure := C_BadMeasure) (C_UnknownCourse := C_UnknownCourse) (C_NotFilled := C_NotFilled) T_Plan_check_course B K_Plan X_UnknownCourse C_Plan_is_course
  have C_Plan_row := ok_Plan_row (P := l.prog) (w := w) (base := base) (C_Plan := C_Plan) (C_RoofError := C_RoofError) (C_BadMeasure := C_BadMeasure) (C_UnknownCourse := C_UnknownCourse) (C_NotFilled := C_NotFilled) T_Plan_row B K_Plan C_Plan_check_course
  have C_law_row_told := ok_law_row_told (P := l.prog) (w := w) (base := base) (C_Plan := C_Plan) (C_RoofError := C_RoofError) (C_BadMeasure := C_BadMeasure) (C_UnknownCourse := C_UnknownCourse) (C_NotFilled := C_NotFilled) T_law_row_told B K_Plan X_RoofError X_NotFilled X_UnknownCourse Q_catch J_NotFilled J_ValueError J_UnknownCourse B2 C_Plan_row
  have C_law_whole := ok_law_whole (P := l.prog) (w := w) (base := base) (C_Plan := C_Plan) (C_RoofError := C_RoofError) (C_BadMeasure := C_BadMeasure) (C_UnknownCourse := C_UnknownCourse) (C_NotFilled := C_NotFilled) T_law_whole B
  have C_law_same := ok_law_same (P := l.prog) (w := w) (base := base) (C_Plan := C_Plan) (C_RoofError := C_RoofError) (C_BadMeasure := C_BadMeasure) (C_UnknownCourse := C_UnknownCourse) (C_NotFilled := C_NotFilled) T_law_same B C_law_whole
  have C_fills := ok_fills (P := l.prog) (w := w) (base := base) (C_Plan := C_Plan) (C_RoofError := C_RoofError) (C_BadMeasure := C_BadMeasure) (C_UnknownCourse := C_UnknownCourse) (C_NotFilled := C_NotFilled) T_fills B
  have C_Plan_number := ok_Plan_number (P := l.prog) (w := w) (base := base) (C_Plan := C_Plan) (C_RoofError := C_RoofError) (C_BadMeasure := C_BadMeasure) (C_UnknownCourse := C_UnknownCourse) (C_NotFilled := C_NotFilled) T_Plan_number B K_Plan X_NotFilled C_fills
  have C_law_number_told := ok_law_number_told (P := l.prog) (w := w) (base := base) (C_Plan := C_Plan) (C_RoofError := C_RoofError) (C_BadMeasure := C_BadMeasure) (C_UnknownCourse := C_UnknownCourse) (C_NotFilled := C_NotFilled) T_law_number_told B K_Plan X_RoofError X_UnknownCourse X_NotFilled Q_catch J_UnknownCourse J_ValueError J_NotFilled B2 C_Plan_number
  have C_law_kept := ok_law_kept (P := l.prog) (w := w) (base := base) (C_Plan := C_Plan) (C_RoofError := C_RoofError) (C_BadMeasure := C_BadMeasure) (C_UnknownCourse := C_UnknownCourse) (C_NotFilled := C_NotFilled) T_law_kept B C_law_whole
  have C_law_one := ok_law_one (P := l.prog) (w := w) (base := base) (C_Plan := C_Plan) (C_RoofError := C_RoofError) (C_BadMeasure := C_BadMeasure) (C_UnknownCourse := C_UnknownCourse) (C_NotFilled := C_NotFilled) T_law_one B C_law_row C_law_row_told C_law_same C_law_number_told C_law_whole C_law_kept
  have C_law_spoiled_row := ok_law_spoiled_row (P := l.prog) (w := w) (base := base) (C_Plan := C_Plan) (C_RoofError := C_RoofError) (C_BadMeasure := C_BadMeasure) (C_UnknownCourse := C_UnknownCourse) (C_NotFilled := C_NotFilled) T_law_spoiled_row B
  have C_law_fits := ok_law_fits (P := l.prog) (w := w) (base := base) (C_Plan := C_Plan) (C_RoofError := C_RoofError) (C_BadMeasure := C_BadMeasure) (C_UnknownCourse := C_UnknownCourse) (C_NotFilled := C_NotFilled) T_law_fits B
  exact ok_law (C_Plan := C_Plan) (C_RoofError := C_RoofError) (C_BadMeasure := C_BadMeasure) (C_UnknownCourse := C_UnknownCourse) (C_NotFilled := C_NotFilled) G4 B K_Plan C_law_measures C_Plan___init__ C_law_courses C_law_at C_law_row C_law_one C_law_row_told C_law_spoiled_row C_law_number_told C_law_fits C_law_whole C_law_marks
theorem len1 {α : Type} {us : List α} (h : us.length = 1) : ∃ a0, us = [a0] := match us, h with | [a0], _ => ⟨a0, rfl⟩
theorem len2 {α : Type} {us : List α} (h : us.length = 2) : ∃ a0 a1, us = [a0, a1] := match us, h with | [a0, a1], _ => ⟨a0, a1, rfl⟩
theorem len3 {α : Type} {us : List α} (h : us.length = 3) : ∃ a0 a1 a2, us = [a0, a1, a2] := match us, h with | [a0, a1, a2], _ => ⟨a0, a1, a2, rfl⟩
theorem len4 {α : Type} {us : List α} (h : us.length = 4) : ∃ a0 a1 a2 a3, us = [a0, a1, a2, a3] := match us, h with | [a0, a1, a2, a3], _ => ⟨a0, a1, a2, a3, rfl⟩
theorem len5 {α : Type} {us : List α} (h : us.length = 5) : ∃ a0 a1 a2 a3 a4, us = [a0, a1, a2, a3, a4] := match us, h with | [a0, a1, a2, a3, a4], _ => ⟨a0, a1, a2, a3, a4, rfl⟩
theorem walk {l : PySem.W.OpenLaw} {q : Program} {loose : List Str} {XP : (Str → Option Value) → Heap → Prop} {YP : World → Heap → Prop} {d : DefRec} {K : Params → PySem.W.Frag} (hn : l.most = some 63) (hdf : d.params.defaults = [])
    (hY : ∀ (w : World) (h : Heap), YP w h → (K w.params).In h)
    (F : ∀ (w : World) (mg : Str → Option Value) (fa : Addr) (h : Heap), (K w.params).In h → h.Ns mainGlobals mg → mg d.name = some (.ref fa) →
      ∃ fd : FuncData, (∀ (s : Shared) (u : Value), BindsTo s fd ⟨[u], []⟩ [("_law_script", u)]) ∧ ∀ base : Heap, (K w.params).In base → base.Ns mainGlobals mg → FnOk l.prog w (K w.params) mg base CX0 12 fa fd ["_law_script"] (spL (K w.params) F_law)) :
    PySem.W.WalkO q loose XP YP l.row.toRowW d [] (fun f vs => PySem.call f vs) :=
  L2.walk_of (n := 63) (k := 12) (x := "_law_script") (CX := fun _ => CX0) (sp := fun w => spL (K w.params) F_law) hn (by decide) hdf ⟨rfl, by decide, by decide⟩ hY F (fun w H a ns hl _ hS => spL_law hS (law_true ns hl)) fun _ _ _ _ _ z => z
theorem walkZ {l : PySem.W.OpenLaw} {q : Program} {loose : List Str} {XP : (Str → Option Value) → Heap → Prop} {α : Type} {Yf : Shared → α} {Ya : World → α} {d : DefRec} {K : Params → PySem.W.Frag} (hn : l.most = some 63) (hdf : d.params.defaults = [])
    (hK : ∀ (w : World) (s₀ s₁ : Shared) (args : List PySem.W.WData) (vals : List Value) (as : List Addr), Yf s₀ = Ya w → PySem.W.Laid l.row.toRowW.records w s₀ s₁ args vals as → (K w.params).In s₁.heap)
    (F : ∀ (w : World) (mg : Str → Option Value) (fa : Addr) (h : Heap), (K w.params).In h → h.Ns mainGlobals mg → mg d.name = some (.ref fa) →
      ∃ fd : FuncData, (∀ (s : Shared) (u : Value), BindsTo s fd ⟨[u], []⟩ [("_law_script", u)]) ∧ ∀ base : Heap, (K w.params).In base → base.Ns mainGlobals mg → FnOk l.prog w (K w.params) mg base CX0 12 fa fd ["_law_script"] (spL (K w.params) F_law)) :
    PySem.W.WalkX q loose XP Yf Ya l.row.toRowW d [] (fun f vs => PySem.call f vs) :=
  fun w s₀ s₁ mg mb G y a o pm cd doc dV kV ho hd hcd hD hmg hg args vals as L => walk (YP := fun w h => (K w.params).In h) hn hdf (fun _ _ z => z) F w s₀ s₁ mg mb G (hK w s₀ s₁ args vals as y L) a o pm cd doc dV kV ho hd hcd hD hmg hg args vals as
end Tx
open PySem PySem.W PyProof.Rows
set_option maxRecDepth 100000 in
set_option maxHeartbeats 0 in
theorem PySem.Challenge.cw_shinglelap_k10_course_and_its_number_holds : PySem.Challenge.rw_shinglelap_k10_course_and_its_number.Holds := by
  w_on; o_law; z_head; (case hw => w_witness2)
  k_fill
  refine' Tx.walkZ (l := PySem.Challenge.rw_shinglelap_k10_course_and_its_number) rfl rfl ?hK ?F
  case hK => (intro w s₀ s₁ args vals as y L; z_open y L KX ZH ZN ZT; exact KX)
  case F =>
    intro w mg fa h KX G hmg
    have B : My.Blt mg := My.blt_mk KX G (by
      intro x hx
      simp only [List.mem_cons, List.not_mem_nil, or_false] at hx
      rcases hx with rfl | rfl | rfl | rfl | rfl | rfl | rfl | rfl | rfl | rfl | rfl | rfl | rfl | rfl
      all_goals k_is)
    refine' Tx.all_mk KX G hmg B ?g_GREATEST_DISTANCE ?g_GREATEST_EAVES ?g_GREATEST_WIDTH ?g_LEAST_WIDTH ?g_MOST_WIDTHS ?k_Plan ?x_RoofError ?x_BadMeasure ?x_UnknownCourse ?x_NotFilled ?e_BadMeasure ?e_UnknownCourse ?e_NotFilled ?d_BadMeasure ?d_UnknownCourse ?d_NotFilled ?j_NotFilled__BadMeasure ?j_NotFilled__UnknownCourse ?j_NotFilled__NotFilled ?j_ValueError__BadMeasure ?j_ValueError__UnknownCourse ?j_ValueError__NotFilled ?j_UnknownCourse__BadMeasure ?j_UnknownCourse__UnknownCourse ?j_UnknownCourse__NotFilled ?b2 ?f_law_at ?f_law_menu ?f_law_measures ?f_check_eaves ?f_check_widths ?f_check_distance ?f_rows_of_length ?f_joints ?f_Plan___init__ ?f_law_marks ?f_law_courses ?f_law_row ?f_Plan_is_course ?f_Plan_check_course ?f_Plan_row ?f_law_row_told ?f_law_whole ?f_law_same ?f_fills ?f_Plan_number ?f_law_number_told ?f_law_kept ?f_law_one ?f_law_spoiled_row ?f_law_fits ?f_law
    (case g_GREATEST_DISTANCE => (refine' Dn.glob_mk KX G ?a; (case a => k_is)))
    (case g_GREATEST_EAVES => (refine' Dn.glob_mk KX G ?a; (case a => k_is)))
    (case g_GREATEST_WIDTH => (refine' Dn.glob_mk KX G ?a; (case a => k_is)))
    (case g_LEAST_WIDTH => (refine' Dn.glob_mk KX G ?a; (case a => k_is)))
    (case g_MOST_WIDTHS => (refine' Dn.glob_mk KX G ?a; (case a => k_is)))
    (case x_RoofError => (refine' L2.exc_mk KX G ?aa ?qq; (case aa => k_is); (case qq => kernel_rfl)))
    (case x_BadMeasure => (refine' L2.exc_mk KX G ?aa ?qq; (case aa => k_is); (case qq => kernel_rfl)))
    (case x_UnknownCourse => (refine' L2.exc_mk KX G ?aa ?qq; (case aa => k_is); (case qq => kernel_rfl)))
    (case x_NotFilled => (refine' L2.exc_mk KX G ?aa ?qq; (case aa => k_is); (case qq => kernel_rfl)))
    (case e_BadMeasure => kts_exm)
    (case e_UnknownCourse => kts_exm)
    (case e_NotFilled => kts_exm)
    (case d_BadMeasure => (refine' ⟨?_, ?_, ?_, ?_, ?_, ?_, ?_, ?cc⟩; (case cc => kernel_rfl); all_goals k_is))
    (case d_UnknownCourse => (refine' ⟨?_, ?_, ?_, ?_, ?_, ?_, ?_, ?cc⟩; (case cc => kernel_rfl); all_goals k_is))
    (case d_NotFilled => (refine' ⟨?_, ?_, ?_, ?_, ?_, ?_, ?_, ?cc⟩; (case cc => kernel_rfl); all_goals k_is))
    (case j_NotFilled__BadMeasure => kit_is)
    (case j_NotFilled__UnknownCourse => kit_is)
    (case j_NotFilled__NotFilled => kit_is)
    (case j_ValueError__BadMeasure => kit_is)
    (case j_ValueError__UnknownCourse => kit_is)
    (case j_ValueError__NotFilled => kit_is)
    (case j_UnknownCourse__BadMeasure => kit_is)
    (case j_UnknownCourse__UnknownCourse => kit_is)
    (case j_UnknownCourse__NotFilled => kit_is)
    (case b2 => (refine' Dn.blt2_mk KX G ?_ ?_ ?_; all_goals k_is))
    (case k_Plan => (refine' L2.cls_mk KX G ?aC ?pg ?hd ?po ?sa ?no; (case aC => k_is); (case pg => k_is); (case hd => k_is); (case po => k_is); (case sa => k_is); (case no => (intro f hf; simp only [List.mem_cons, List.not_mem_nil, or_false] at hf; rcases hf with rfl | rfl | rfl | rfl | rfl | rfl; all_goals k_is))))
    (case f_law_at => (refine' L2.fd_mk KX G ?a ?l ?c ?kp ?b; (case a => k_is); (case l => k_is); (case c => k_is); (case kp => k_is); (case b => (intro _ _ _ _ _ _ us hl; obtain ⟨_, _, rfl⟩ := Tx.len2 (us := us) hl; rfl))))
    (case f_law_menu => (refine' L2.fd_mk KX G ?a ?l ?c ?kp ?b; (case a => k_is); (case l => k_is); (case c => k_is); (case kp => k_is); (case b => (intro _ _ _ _ _ _ us hl; obtain ⟨_, rfl⟩ := Tx.len1 (us := us) hl; rfl))))
    (case f_law_measures => (refine' L2.fd_mk KX G ?a ?l ?c ?kp ?b; (case a => k_is); (case l => k_is); (case c => k_is); (case kp => k_is); (case b => (intro _ _ _ _ _ _ us hl; obtain ⟨_, rfl⟩ := Tx.len1 (us := us) hl; rfl))))
    (case f_check_eaves => (refine' L2.fd_mk KX G ?a ?l ?c ?kp ?b; (case a => k_is); (case l => k_is); (case c => k_is); (case kp => k_is); (case b => (intro _ _ _ _ _ _ us hl; obtain ⟨_, rfl⟩ := Tx.len1 (us := us) hl; rfl))))
    (case f_check_widths => (refine' L2.fd_mk KX G ?a ?l ?c ?kp ?b; (case a => k_is); (case l => k_is); (case c => k_is); (case kp => k_is); (case b => (intro _ _ _ _ _ _ us hl; obtain ⟨_, rfl⟩ := Tx.len1 (us := us) hl; rfl))))
    (case f_check_distance => (refine' L2.fd_mk KX G ?a ?l ?c ?kp ?b; (case a => k_is); (case l => k_is); (case c => k_is); (case kp => k_is); (case b => (intro _ _ _ _ _ _ us hl; obtain ⟨_, rfl⟩ := Tx.len1 (us := us) hl; rfl))))
    (case f_rows_of_length => (refine' L2.fd_mk KX G ?a ?l ?c ?kp ?b; (case a => k_is); (case l => k_is); (case c => k_is); (case kp => k_is); (case b => (intro _ _ _ _ _ _ us hl; obtain ⟨_, _, rfl⟩ := Tx.len2 (us := us) hl; rfl))))
    (case f_joints => (refine' L2.fd_mk KX G ?a ?l ?c ?kp ?b; (case a => k_is); (case l => k_is); (case c => k_is); (case kp => k_is); (case b => (intro _ _ _ _ _ _ us hl; obtain ⟨_, rfl⟩ := Tx.len1 (us := us) hl; rfl))))
    (case f_Plan___init__ => (refine' L2.init_mk ?mk ?kc ?a ?i ?l ?c ?kp ?b; (case mk => k_is); (case kc => k_is); (case a => k_is); (case i => k_is); (case l => k_is); (case c => k_is); (case kp => k_is); (case b => (intro _ _ _ _ _ _ us hl; obtain ⟨_, _, _, _, _, rfl⟩ := Tx.len5 (us := us) hl; rfl))))
    (case f_law_marks => (refine' L2.fd_mk KX G ?a ?l ?c ?kp ?b; (case a => k_is); (case l => k_is); (case c => k_is); (case kp => k_is); (case b => (intro _ _ _ _ _ _ us hl; obtain ⟨_, rfl⟩ := Tx.len1 (us := us) hl; rfl))))
    (case f_law_courses => (refine' L2.fd_mk KX G ?a ?l ?c ?kp ?b; (case a => k_is); (case l => k_is); (case c => k_is); (case kp => k_is); (case b => (intro _ _ _ _ _ _ us hl; obtain ⟨_, _, rfl⟩ := Tx.len2 (us := us) hl; rfl))))
    (case f_law_row => (refine' L2.fd_mk KX G ?a ?l ?c ?kp ?b; (case a => k_is); (case l => k_is); (case c => k_is); (case kp => k_is); (case b => (intro _ _ _ _ _ _ us hl; obtain ⟨_, _, rfl⟩ := Tx.len2 (us := us) hl; rfl))))
    (case f_Plan_is_course => (refine' L2.meth_mk ?a ?i ?l ?c ?kp ?b; (case a => k_is); (case i => k_is); (case l => k_is); (case c => k_is); (case kp => k_is); (case b => (intro _ _ _ _ _ _ us hl; obtain ⟨_, _, rfl⟩ := Tx.len2 (us := us) hl; rfl))))
    (case f_Plan_check_course => (refine' L2.meth_mk ?a ?i ?l ?c ?kp ?b; (case a => k_is); (case i => k_is); (case l => k_is); (case c => k_is); (case kp => k_is); (case b => (intro _ _ _ _ _ _ us hl; obtain ⟨_, _, rfl⟩ := Tx.len2 (us := us) hl; rfl))))
    (case f_Plan_row => (refine' L2.meth_mk ?a ?i ?l ?c ?kp ?b; (case a => k_is); (case i => k_is); (case l => k_is); (case c => k_is); (case kp => k_is); (case b => (intro _ _ _ _ _ _ us hl; obtain ⟨_, _, rfl⟩ := Tx.len2 (us := us) hl; rfl))))
    (case f_law_row_told => (refine' L2.fd_mk KX G ?a ?l ?c ?kp ?b; (case a => k_is); (case l => k_is); (case c => k_is); (case kp => k_is); (case b => (intro _ _ _ _ _ _ us hl; obtain ⟨_, _, rfl⟩ := Tx.len2 (us := us) hl; rfl))))
    (case f_law_whole => (refine' L2.fd_mk KX G ?a ?l ?c ?kp ?b; (case a => k_is); (case l => k_is); (case c => k_is); (case kp => k_is); (case b => (intro _ _ _ _ _ _ us hl; obtain ⟨_, rfl⟩ := Tx.len1 (us := us) hl; rfl))))
    (case f_law_same => (refine' L2.fd_mk KX G ?a ?l ?c ?kp ?b; (case a => k_is); (case l => k_is); (case c => k_is); (case kp => k_is); (case b => (intro _ _ _ _ _ _ us hl; obtain ⟨_, _, rfl⟩ := Tx.len2 (us := us) hl; rfl))))
    (case f_fills => (refine' L2.fd_mk KX G ?a ?l ?c ?kp ?b; (case a => k_is); (case l => k_is); (case c => k_is); (case kp => k_is); (case b => (intro _ _ _ _ _ _ us hl; obtain ⟨_, _, _, rfl⟩ := Tx.len3 (us := us) hl; rfl))))
    (case f_Plan_number => (refine' L2.meth_mk ?a ?i ?l ?c ?kp ?b; (case a => k_is); (case i => k_is); (case l => k_is); (case c => k_is); (case kp => k_is); (case b => (intro _ _ _ _ _ _ us hl; obtain ⟨_, _, rfl⟩ := Tx.len2 (us := us) hl; rfl))))
    (case f_law_number_told => (refine' L2.fd_mk KX G ?a ?l ?c ?kp ?b; (case a => k_is); (case l => k_is); (case c => k_is); (case kp => k_is); (case b => (intro _ _ _ _ _ _ us hl; obtain ⟨_, _, rfl⟩ := Tx.len2 (us := us) hl; rfl))))
    (case f_law_kept => (refine' L2.fd_mk KX G ?a ?l ?c ?kp ?b; (case a => k_is); (case l => k_is); (case c => k_is); (case kp => k_is); (case b => (intro _ _ _ _ _ _ us hl; obtain ⟨_, _, rfl⟩ := Tx.len2 (us := us) hl; rfl))))
    (case f_law_one => (refine' L2.fd_mk KX G ?a ?l ?c ?kp ?b; (case a => k_is); (case l => k_is); (case c => k_is); (case kp => k_is); (case b => (intro _ _ _ _ _ _ us hl; obtain ⟨_, _, _, _, _, rfl⟩ := Tx.len5 (us := us) hl; rfl))))
    (case f_law_spoiled_row => (refine' L2.fd_mk KX G ?a ?l ?c ?kp ?b; (case a => k_is); (case l => k_is); (case c => k_is); (case kp => k_is); (case b => (intro _ _ _ _ _ _ us hl; obtain ⟨_, _, _, _, rfl⟩ := Tx.len4 (us := us) hl; rfl))))
    (case f_law_fits => (refine' L2.fd_mk KX G ?a ?l ?c ?kp ?b; (case a => k_is); (case l => k_is); (case c => k_is); (case kp => k_is); (case b => (intro _ _ _ _ _ _ us hl; obtain ⟨_, _, _, rfl⟩ := Tx.len3 (us := us) hl; rfl))))
    (case f_law => (refine' L2.fd_mk KX G ?a ?l ?c ?kp ?b; (case a => k_is); (case l => k_is); (case c => k_is); (case kp => k_is); (case b => (intro _ _ _ _ _ _ us hl; obtain ⟨_, rfl⟩ := Tx.len1 (us := us) hl; rfl))))
