import PyProof.Rows.All
import Wide.All
import OpenK.AllK
import Wide.FinOn
import PyProof.EqAt
import PyProof.EqKinds
import PyProof.TupleCall
import KE.BitLaws
import Open.SpecLaws
import KE.OsHead
import KE.OsGo
import Sf13Spec
import PySf13
import PyFlatLaws
import PySem.Challenge.RW_netflows_s01_answers
section
local macro_rules | `(tactic| omega) => `(tactic| lia)
section
set_option Elab.async false
set_option linter.all false
set_option maxRecDepth 100000
namespace L2
open PySem PySem.Spec PyProof.Rows
noncomputable abbrev Key := Sum Int Str
noncomputable def keyIs : Key → Value → Bool
  | .inl k, v => Value.isInt k v
  | .inr x, v => Value.isStrOf x v
noncomputable def keyH (w : World) : Key → Int
  | .inl k => hashInt k
  | .inr x => hashStr w x
theorem keyIs_shape : ∀ {k : Key} {v : Value}, keyIs k v = true → (∃ i t, k = Sum.inl i ∧ v = Value.int i t) ∨ (∃ x t, k = Sum.inr x ∧ v = Value.str x t)
  | .inl i, v, h => by
    obtain ⟨t, e⟩ := Value.isInt_shape (k := i) (v := v) h
    exact .inl ⟨i, t, rfl, e⟩
  | .inr x, v, h => by
    obtain ⟨t, e⟩ := Value.isStrOf_shape (x := x) (v := v) h
    exact .inr ⟨x, t, rfl, e⟩
theorem keyIs_int (i : Int) (t : Tok) : keyIs (.inl i) (.int i t) = true := by simp [keyIs, Value.isInt]
theorem keyIs_str (x : Str) (t : Tok) : keyIs (.inr x) (.str x t) = true := by simp [keyIs, Value.isStrOf]
theorem key_ll (a b : Int) : decide ((Sum.inl a : Key) = Sum.inl b) = (a == b) := by
  by_cases e : a = b
  · subst e; simp
  · have h : ¬ (Sum.inl a : Key) = Sum.inl b := fun q => e (Sum.inl.inj q)
    rw [decide_eq_false h]
    exact (beq_eq_false_iff_ne.mpr e).symm
theorem key_rr (a b : Str) : decide ((Sum.inr a : Key) = Sum.inr b) = decide (a = b) := by
  by_cases e : a = b
  · subst e; simp
  · have h : ¬ (Sum.inr a : Key) = Sum.inr b := fun q => e (Sum.inr.inj q)
    rw [decide_eq_false h, decide_eq_false e]
theorem key_lr (a : Int) (b : Str) : decide ((Sum.inl a : Key) = Sum.inr b) = false := decide_eq_false (fun q => nomatch q)
theorem key_rl (a : Str) (b : Int) : decide ((Sum.inr a : Key) = Sum.inl b) = false := decide_eq_false (fun q => nomatch q)
noncomputable def mixKind (prog : Program) (w : World) : PySem.KeyKind prog w Key where
  is := keyIs
  hash := keyH w
  inj := fun v a b ha hb => by
    rcases keyIs_shape ha with ⟨i, t, rfl, rfl⟩ | ⟨x, t, rfl, rfl⟩
    · rcases keyIs_shape hb with ⟨j, u, rfl, e⟩ | ⟨y, u, rfl, e⟩
      · injection e with e1 _; rw [e1]
      · exact nomatch e
    · rcases keyIs_shape hb with ⟨j, u, rfl, e⟩ | ⟨y, u, rfl, e⟩
      · exact nomatch e
      · injection e with e1 _; rw [e1]
  byValue := fun k v h => by
    rcases keyIs_shape h with ⟨i, t, rfl, rfl⟩ | ⟨x, t, rfl, rfl⟩ <;> rfl
  pyHash := fun hv h => by
    rcases keyIs_shape hv with ⟨i, t, rfl, rfl⟩ | ⟨x, t, rfl, rfl⟩
    · exact wpAny_pyHash_int h
    · exact wpAny_pyHash_str h
  eqBool := fun hu hv h => by
    rcases keyIs_shape hu with ⟨i, t, rfl, rfl⟩ | ⟨x, t, rfl, rfl⟩
    · rcases keyIs_shape hv with ⟨j, u, rfl, rfl⟩ | ⟨y, u, rfl, rfl⟩
      · rw [key_ll] at h; exact wpAny_eqBool_int h
      · rw [key_lr] at h; exact SeqAt.EqAt.int_str i t y u _ _ _ _ h
    · rcases keyIs_shape hv with ⟨j, u, rfl, rfl⟩ | ⟨y, u, rfl, rfl⟩
      · rw [key_rl] at h; exact SeqAt.EqAt.str_int x t j u _ _ _ _ h
      · rw [key_rr] at h; exact wpAny_eqBool_str h
  «strs» := fun k x t v h => by
    rcases keyIs_shape h with ⟨i, u, rfl, e⟩ | ⟨y, u, rfl, e⟩
    · exact nomatch e
    · injection e with e1 _
      subst e1
      cases v <;> rfl
theorem mixKind_int (prog : Program) (w : World) (i : Int) (t : Tok) : (mixKind prog w).is (.inl i) (.int i t) = true := keyIs_int i t
theorem mixKind_str (prog : Program) (w : World) (x : Str) (t : Tok) : (mixKind prog w).is (.inr x) (.str x t) = true := keyIs_str x t
end L2
namespace L2
open PySem PySem.Spec PyProof.Rows
inductive V where
  | non | bl (b : Bool) | int (i : Int) | str (x : Str) | byt (b : Array UInt8) | flt (b : UInt64) | ref (a : Addr) | ty (n : String)
  deriving DecidableEq
noncomputable def RelV : V → Value → Prop
  | .non, u => u = Value.none
  | .bl b, u => u = Value.bool b
  | .int i, u => ∃ t, u = Value.int i t
  | .str x, u => ∃ t, u = Value.str x t
  | .byt b, u => ∃ t, u = Value.bytes b t
  | .flt b, u => ∃ t, u = Value.float b t
  | .ref a, u => u = Value.ref a
  | .ty n, u => u = Value.type n
noncomputable abbrev Vals : List V → List Value → Prop := Paired RelV
theorem Vals.length {xs : List V} {us : List Value} (r : Vals xs us) : xs.length = us.length := Paired.length r
theorem Vals.get : ∀ {xs : List V} {us : List Value} {i : Nat} {x : V}, Vals xs us → xs[i]? = some x → ∃ u, us[i]? = some u ∧ RelV x u
  | _, _, _, _, .nil, e => by simp at e
  | _, _, 0, _, .cons r _, e => by simp at e; subst e; exact ⟨_, rfl, r⟩
  | _, _, i + 1, x, .cons _ t, e => by
    obtain ⟨u, h1, h2⟩ := Vals.get (i := i) (x := x) t (by simpa using e)
    exact ⟨u, by simpa using h1, h2⟩
theorem Vals.set {x : V} {u : Value} (r : RelV x u) : ∀ {xs : List V} {us : List Value} (i : Nat), Vals xs us → Vals (xs.set i x) (us.set i u)
  | _, _, _, .nil => .nil
  | _, _, 0, .cons _ t => .cons r t
  | _, _, i + 1, .cons q t => .cons q (Vals.set r i t)
theorem Vals.append : ∀ {xs ys : List V} {us ws : List Value}, Vals xs us → Vals ys ws → Vals (xs ++ ys) (us ++ ws)
  | _, _, _, _, .nil, s => s
  | _, _, _, _, .cons r t, s => .cons r (Vals.append t s)
theorem Vals.take : ∀ {xs : List V} {us : List Value} (n : Nat), Vals xs us → Vals (xs.take n) (us.take n)
  | _, _, 0, _ => .nil
  | _, _, _ + 1, .nil => .nil
  | _, _, n + 1, .cons r t => .cons r (Vals.take n t)
theorem Vals.drop : ∀ {xs : List V} {us : List Value} (n : Nat), Vals xs us → Vals (xs.drop n) (us.drop n)
  | _, _, 0, r => r
  | _, _, _ + 1, .nil => .nil
  | _, _, n + 1, .cons _ t => Vals.drop n t
noncomputable def RelO : Option V → Option Value → Prop
  | some v, some u => RelV v u
  | none, none => True
  | _, _ => False
noncomputable def KV {κ : Type} : List (κ × V) → List (κ × Value) → Prop := Paired fun (p : κ × V) (q : κ × Value) => p.1 = q.1 ∧ RelV p.2 q.2
noncomputable def kV : Key → V
  | .inl i => .int i
  | .inr x => .str x
inductive HO where
  /-- a list -/
  | lst (xs : List V)
  /-- a tuple (never changes) -/
  | tup (xs : List V)
  /-- a dict whose keys are ints and texts; one whose keys are tuples of ints and texts (the empty one is both) -/
  | dK (kvs : List (Key × V)) | dT (kvs : List (List Key × V))
  /-- a set of ints: its members, its size -/
  | set (S : Int → Bool) (n : Nat)
  /-- an instance of the class at C, its dict at dx, its attributes -/
  | ins (C dx : Addr) (fs : List (Str × V))
  /-- the dict of the instance at x -/
  | own (x : Addr)
  /-- the dict of an exception -/
  | xd (fs : List (Str × V))
  /-- a bound method, f of x -/
  | met (f x : Addr)
  /-- a range object lo, lo + 1, .. below hi -/
  | rng (lo hi : Int)
  /-- a thing that is known to the object (the script; a dict while a loop walks it): read, never written while it is so -/
  | frz (o : Obj) (u : HO)
  /-- a code object's table -/
  | tbl (ps : Array Value)
  /-- any other thing, by what is true of its one object (a def of one's own: SetO a S n := HO.ext fun h => ..) -/
  | ext (φ : Heap → Prop)
noncomputable abbrev Hp := Addr → Option HO
noncomputable def upd (H : Hp) (a : Addr) (o : HO) : Hp := fun b => if b = a then some o else H b
theorem upd_same {H : Hp} {a : Addr} {o : HO} : upd H a o a = some o := by unfold upd; rw [if_pos rfl]
theorem upd_ne {H : Hp} {a b : Addr} {o : HO} (h : b ≠ a) : upd H a o b = H b := by unfold upd; rw [if_neg h]
theorem upd_upd {H : Hp} {a : Addr} {o u : HO} : upd (upd H a o) a u = upd H a u := by
  funext b; unfold upd; split <;> rfl
theorem ne_of {H : Hp} {a b : Addr} {o u : HO} (h : H a = some o) (h' : H b = some u) (d : o ≠ u) : a ≠ b := by
  intro e; subst e; rw [h] at h'; exact d (Option.some.inj h')
theorem ne_of_none {H : Hp} {a b : Addr} {o : HO} (h : H a = some o) (h' : H b = none) : a ≠ b := by
  intro e; subst e; rw [h] at h'; cases h'
section
variable (P : Program) (w : World)
noncomputable def ObjOk (H : Hp) (h : Heap) (a : Addr) : HO → Prop
  | .lst xs => xs.length ≤ sizeLine ∧ ∃ (its : List Value) (n : Nat), Vals xs its ∧ h.get? a = some { cls := .type "list", data := .seq its.toArray n }
  | .tup xs => xs.length ≤ sizeLine ∧ ∃ its : List Value, Vals xs its ∧ IsTup h a its.toArray
  | .dK kvs => kvs.length ≤ sizeLine ∧ (a == sysModules) = false ∧ ∃ vs, KV kvs vs ∧ h.DictOf (mixKind P w) a vs
  | .dT kvs => kvs.length ≤ sizeLine ∧ (a == sysModules) = false ∧ ∃ xs : List (List Key × Addr × Value),
      Paired (fun (p : List Key × V) (q : List Key × Addr × Value) => p.1 = q.1 ∧ H q.2.1 = some (.tup (p.1.map kV)) ∧ RelV p.2 q.2.2) kvs xs ∧
      ∃ o es ep, h.get? a = some o ∧ o.ExactDict ∧ o.data = .dict es ep ∧ es.toList = xs.map (entryOfKey (tupleKind (mixKind P w))) ∧ (xs.map (·.1)).Nodup
  | .set S n => h.SetOf (intKind P w) a S n
  | .ins C dx fs => H dx = some (.own a) ∧ fs.length ≤ 1000 ∧ dx ≠ a ∧ h.get? a = some (PySem.W.instObj C dx) ∧
      ∃ mA, h.Ns1 dx mA ∧ (∀ f, RelO (fs.lookup f) (mA f)) ∧ PySem.Within mA (fs.map (·.1))
  | .own _ => ∃ o, h.get? a = some o
  | .xd fs => ∃ mA, h.Ns1 a mA ∧ ∀ f, RelO (fs.lookup f) (mA f)
  | .rng lo hi => ∃ t u v, h.get? a = some { cls := .type "range", data := .fields #[.int lo t, .int hi u, .int 1 v] }
  | .frz o u => h.get? a = some o ∧ ObjOk H h a u
  | .tbl ps => h.get? a = some { cls := .none, data := .fields ps }
  | .met f x => h.get? a = some (PySem.W.methodObj (.ref f) (.ref x))
  | .ext φ => φ h ∧ (∃ o, h.get? a = some o) ∧ ∀ h1 h2 : Heap, φ h1 → (∀ o, h1.get? a = some o → h2.get? a = some o) → φ h2
noncomputable def HOk (H : Hp) (h : Heap) : Prop := ∀ a o, H a = some o → ObjOk P w H h a o
end
section
variable {P : Program} {w : World} {H H' : Hp} {h h' : Heap} {a : Addr} {o : HO}
theorem ObjOk.lt (x : ObjOk P w H h a o) : a < h.objs.size := by
  cases o with
  | lst xs => obtain ⟨_, _, _, _, e⟩ := x; exact Heap.lt_size e
  | tup xs => obtain ⟨_, _, _, p⟩ := x; exact p.lt
  | dK kvs => obtain ⟨_, _, _, _, o, _, _, e, _⟩ := x; exact Heap.lt_size e
  | dT kvs => obtain ⟨_, _, _, _, o, _, _, e, _⟩ := x; exact Heap.lt_size e
  | set S n => obtain ⟨o, _, _, _, e, _⟩ := x; exact Heap.lt_size e
  | ins C dx fs => obtain ⟨_, _, _, e, _⟩ := x; exact Heap.lt_size e
  | own y => obtain ⟨_, e⟩ := x; exact Heap.lt_size e
  | xd fs => obtain ⟨_, ⟨_, _, _, e, _⟩, _⟩ := x; exact Heap.lt_size e
  | rng lo hi => obtain ⟨_, _, _, e⟩ := x; exact Heap.lt_size e
  | frz ob u => obtain ⟨e, _⟩ := x; exact Heap.lt_size e
  | tbl ps => exact Heap.lt_size (show h.get? a = some _ from x)
  | met f y => exact Heap.lt_size (show h.get? a = some _ from x)
  | ext φ => obtain ⟨_, ⟨_, e⟩, _⟩ := x; exact Heap.lt_size e
theorem Paired.mapP {α β : Type} {F G : α → β → Prop} : ∀ {l₁ : List α} {l₂ : List β}, Paired F l₁ l₂ → (∀ a b, F a b → G a b) → Paired G l₁ l₂
  | _, _, .nil, _ => .nil
  | _, _, .cons r t, f => .cons (f _ _ r) (Paired.mapP t f)
theorem ObjOk.stay (x : ObjOk P w H h a o) (k : ∀ b u, (b = a ∨ H b = some (.own a)) → h.get? b = some u → h'.get? b = some u)
    (ho : ∀ b, H b = some (.own a) → H' b = some (.own a)) (ht : ∀ b xs, H b = some (.tup xs) → H' b = some (.tup xs)) : ObjOk P w H' h' a o := by
  induction o with
  | lst xs => obtain ⟨z, its, n, r, e⟩ := x; exact ⟨z, its, n, r, k _ _ (.inl rfl) e⟩
  | tup xs => obtain ⟨z, its, r, ob, e, c⟩ := x; exact ⟨z, its, r, ob, k _ _ (.inl rfl) e, c⟩
  | dK kvs => obtain ⟨z, y, vs, r, ob, es, ep, e, c⟩ := x; exact ⟨z, y, vs, r, ob, es, ep, k _ _ (.inl rfl) e, c⟩
  | dT kvs =>
    obtain ⟨z, y, xs, r, ob, es, ep, e, c⟩ := x
    exact ⟨z, y, xs, Paired.mapP r fun p q z => ⟨z.1, ht _ _ z.2.1, z.2.2⟩, ob, es, ep, k _ _ (.inl rfl) e, c⟩
  | set S n => obtain ⟨ob, es, ep, t, e, c⟩ := x; exact ⟨ob, es, ep, t, k _ _ (.inl rfl) e, c⟩
  | ins C dx fs =>
    obtain ⟨d, z, ne, e, mA, ⟨od, es, ep, e2, c⟩, r⟩ := x
    exact ⟨ho _ d, z, ne, k _ _ (.inl rfl) e, mA, ⟨od, es, ep, k _ _ (.inr d) e2, c⟩, r⟩
  | own y => obtain ⟨ob, e⟩ := x; exact ⟨ob, k _ _ (.inl rfl) e⟩
  | xd fs => obtain ⟨mA, ⟨od, es, ep, e, c⟩, r⟩ := x; exact ⟨mA, ⟨od, es, ep, k _ _ (.inl rfl) e, c⟩, r⟩
  | rng lo hi => obtain ⟨t, u, v, e⟩ := x; exact ⟨t, u, v, k _ _ (.inl rfl) e⟩
  | frz ob u ih => obtain ⟨e, q⟩ := x; exact ⟨k _ _ (.inl rfl) e, ih q⟩
  | tbl ps =>
    have e : h.get? a = some { cls := .none, data := .fields ps } := x
    show h'.get? a = some { cls := .none, data := .fields ps }
    exact k a _ (.inl rfl) e
  | met f y =>
    have e : h.get? a = some (PySem.W.methodObj (.ref f) (.ref y)) := x
    show h'.get? a = some (PySem.W.methodObj (.ref f) (.ref y))
    exact k a _ (.inl rfl) e
  | ext φ => obtain ⟨p, ⟨o, e⟩, st⟩ := x; exact ⟨st _ _ p fun o q => k _ _ (.inl rfl) q, ⟨o, k _ _ (.inl rfl) e⟩, st⟩
theorem HOk.lt (x : HOk P w H h) (e : H a = some o) : a < h.objs.size := (x a o e).lt
theorem HOk.fresh (x : HOk P w H h) (e : h.objs.size ≤ a) : H a = none := by
  cases q : H a with
  | none => rfl
  | some u => exact absurd (Nat.lt_of_lt_of_le (x.lt q) e) (Nat.lt_irrefl _)
theorem HOk.kept (x : HOk P w H h) (k : ∀ b u, h.get? b = some u → h'.get? b = some u) : HOk P w H h' := fun a o e =>
  (x a o e).stay (fun b u _ q => k b u q) (fun _ q => q) fun _ _ q => q
theorem HOk.laid (x : HOk P w H h) (k : ∀ b u, h.get? b = some u → h'.get? b = some u) (hp : h.objs.size ≤ a) (new : ObjOk P w (upd H a o) h' a o) : HOk P w (upd H a o) h' := fun b u e => by
  have hn := x.fresh hp
  by_cases hb : b = a
  · subst hb; rw [upd_same] at e; cases e; exact new
  · rw [upd_ne hb] at e
    exact (x b u e).stay (fun c v _ q => k c v q) (fun c q => by rw [upd_ne (ne_of_none q hn)]; exact q) fun c xs q => by rw [upd_ne (ne_of_none q hn)]; exact q
end
noncomputable def Rd (H : Hp) (a : Addr) (u : HO) : Prop := H a = some u ∨ ∃ o, H a = some (.frz o u)
theorem Rd.ok {P : Program} {w : World} {H : Hp} {h : Heap} {a : Addr} {u : HO} (r : Rd H a u) (x : HOk P w H h) : ObjOk P w H h a u := by
  rcases r with r | ⟨o, r⟩
  · exact x a u r
  · obtain ⟨_, q⟩ := x a _ r
    exact q
noncomputable def Mut : Option HO → Prop
  | some (.lst _) => True
  | some (.dK _) => True
  | some (.dT _) => True
  | some (.set _ _) => True
  | some (.ins _ _ _) => True
  | some (.ext _) => True
  | _ => False
section
variable {P : Program} {w : World} {H : Hp} {h h' : Heap} {x e : Addr} {o' : HO}
theorem HOk.write (ok : HOk P w H h) (mu : Mut (H x)) (he : e = x ∨ H e = some (.own x)) (k : ∀ b u, b ≠ e → h.get? b = some u → h'.get? b = some u) (heo : ∃ u, h'.get? e = some u)
    (new : ObjOk P w (upd H x o') h' x o') : HOk P w (upd H x o') h' := fun b u q => by
  have nown : ∀ c y, H c = some (.own y) → c ≠ x := fun c y r z => by subst z; rw [r] at mu; exact mu
  have ntup : ∀ c xs, H c = some (.tup xs) → c ≠ x := fun c xs r z => by subst z; rw [r] at mu; exact mu
  by_cases hb : b = x
  · subst hb; rw [upd_same] at q; cases q; exact new
  · rw [upd_ne hb] at q
    by_cases hbe : b = e
    · have q' : H b = some (.own x) := by
        rcases he with z | z
        · exact absurd (hbe.trans z) hb
        · rw [hbe]; exact z
      rw [q] at q'; cases q'
      obtain ⟨v, hv⟩ := heo
      exact ⟨v, by rw [hbe]; exact hv⟩
    · refine (ok b u q).stay (fun c v hc r => k c v ?_ r) (fun c r => by rw [upd_ne (nown c b r)]; exact r) fun c xs r => by rw [upd_ne (ntup c xs r)]; exact r
      rcases hc with rfl | hc
      · exact hbe
      · rintro rfl
        rcases he with z | z
        · exact nown c b hc z
        · rw [hc] at z; cases z; exact hb rfl
end
structure Un (fs ex : List Addr) (H H' : Hp) (h h' : Heap) : Prop where
  keep : ∀ b o, h.get? b = some o → H b = none → b ∉ fs → b ∉ ex → h'.get? b = some o
  slot : ∀ b o, h.get? b = some o → H b = none → b ∈ fs → b ∉ ex → ∃ sl, h'.get? b = some { o with slots := sl }
  free : ∀ b o, h.get? b = some o → H b = none → b ∉ ex → H' b = none
  there : ∀ b o, h.get? b = some o → b ∉ ex → ∃ o', h'.get? b = some o'
  tups : ∀ b xs, H b = some (.tup xs) → H' b = some (.tup xs)
  frzs : ∀ b o u, H b = some (.frz o u) → H' b = some (.frz o u)
  tbls : ∀ b ps, H b = some (.tbl ps) → ∃ more, H' b = some (.tbl (ps ++ more))
section
variable {fs fs' ex ex' : List Addr} {H H1 H2 : Hp} {h h1 h2 h' : Heap} {a x e : Addr} {o : HO}
theorem Un.any (u : Un fs ex H H1 h h1) {b : Addr} {ob : Obj} (q : h.get? b = some ob) (n : H b = none) (hx : b ∉ ex) : ∃ sl, h1.get? b = some { ob with slots := sl } := by
  by_cases hb : b ∈ fs
  · exact u.slot b ob q n hb hx
  · exact ⟨ob.slots, u.keep b ob q n hb hx⟩
theorem Un.kept (k : ∀ b u, h.get? b = some u → h'.get? b = some u) : Un fs ex H H h h' :=
  ⟨fun b ob q _ _ _ => k b ob q, fun b ob q _ _ _ => ⟨ob.slots, k b ob q⟩, fun _ _ _ n _ => n, fun b ob q _ => ⟨ob, k b ob q⟩, fun _ _ q => q, fun _ _ _ q => q, fun _ ps q => ⟨#[], by rw [q]; simp⟩⟩
theorem Un.refl : Un fs ex H H h h := Un.kept fun _ _ q => q
theorem Un.laid (k : ∀ b u, h.get? b = some u → h'.get? b = some u) (hp : h.objs.size ≤ a) (hn : H a = none) : Un fs ex H (upd H a o) h h' where
  keep := fun b u q _ _ _ => k b u q
  slot := fun b u q _ _ _ => ⟨u.slots, k b u q⟩
  free := fun b u q n _ => by rw [upd_ne (Nat.ne_of_lt (Nat.lt_of_lt_of_le (Heap.lt_size q) hp))]; exact n
  there := fun b u q _ => ⟨u, k b u q⟩
  tups := fun b xs q => by rw [upd_ne (ne_of_none q hn)]; exact q
  frzs := fun b u xs q => by rw [upd_ne (ne_of_none q hn)]; exact q
  tbls := fun b ps q => ⟨#[], by rw [upd_ne (ne_of_none q hn), q]; simp⟩
theorem Un.write (mu : Mut (H x)) (he : e = x ∨ H e = some (.own x)) (k : ∀ b u, b ≠ e → h.get? b = some u → h'.get? b = some u) (heo : ∃ u, h'.get? e = some u) : Un fs ex H (upd H x o) h h' := by
  have hx : ∀ b, H b = none → b ≠ x := fun b n z => by subst z; rw [n] at mu; exact mu
  have hb : ∀ b, H b = none → b ≠ e := fun b n z => by
    subst z
    rcases he with r | r
    · exact hx b n r
    · rw [n] at r; cases r
  have hm : ∀ b u, H b = some u → ¬ Mut (some u) → b ≠ x := fun b u q nm z => by subst z; rw [q] at mu; exact nm mu
  refine ⟨fun b u q n _ _ => k b u (hb b n) q, fun b u q n _ _ => ⟨u.slots, k b u (hb b n) q⟩, fun b u q n _ => by rw [upd_ne (hx b n)]; exact n, fun b u q _ => ?_,
    fun b xs q => by rw [upd_ne (hm b _ q fun z => z)]; exact q, fun b u xs q => by rw [upd_ne (hm b _ q fun z => z)]; exact q, fun b ps q => ⟨#[], by rw [upd_ne (hm b _ q fun z => z), q]; simp⟩⟩
  by_cases hbe : b = e
  · subst hbe; exact heo
  · exact ⟨u, k b u hbe q⟩
end
noncomputable def trk (h : Heap) (H : Hp) : List Addr := (List.range h.objs.size).filter fun a => (H a).isSome
noncomputable def hidT (h : Heap) (H : Hp) : Heap := PySem.W.hideAll h (trk h H)
theorem hidT_size (h : Heap) (H : Hp) : (hidT h H).objs.size = h.objs.size := PySem.W.hideAll_size _ _
theorem hidT_get {h : Heap} {H : Hp} {b : Addr} {o : Obj} (e : h.get? b = some o) (n : H b = none) : (hidT h H).get? b = some o :=
  PySem.W.hideAll_get _ e fun hm => by
    have q : (H b).isSome = true := (List.mem_filter.mp hm).2
    rw [n] at q; simp at q
theorem of_hidT {h : Heap} {H : Hp} {b : Addr} {o : Obj} (e : (hidT h H).get? b = some o) : h.get? b = some o ∧ H b = none := by
  have e' : h.get? b = some o := PySem.W.of_hideAll (trk h H) e
  refine ⟨e', ?_⟩
  cases q : H b with
  | none => rfl
  | some x =>
    have hm : b ∈ trk h H := List.mem_filter.mpr ⟨List.mem_range.mpr (Heap.lt_size e'), by simp [q]⟩
    have z : (hidT h H).get? b = none := PySem.W.hideAll_none (trk h H) hm
    rw [z] at e; cases e
end L2
namespace L2
open PySem PySem.Spec PyProof.Rows
structure Mod (K : PySem.W.Frag) (mg : Str → Option Value) (base : Heap) : Prop where
  kin : K.In base
  glob : base.Ns mainGlobals mg
  blt : ∃ mb, base.Ns builtinsNs mb ∧ ∀ x : Str, x ≠ "__name__" → mb x = bootBuiltins x
  nolimit : base.NoLimit
set_option genInjectivity false in
set_option genSizeOf false in
structure Cx where
  prog : Program
  w : World
  K : PySem.W.Frag
  mg : Str → Option Value
  base : Heap
  A : Around
  N : List Str
  s_0 : Shared
  H_0 : Hp
  env : Env
  outer : List Env
  stack : List Env
  ex : List Addr
  fn : Str → Bool
  calm : Bool
  pn : List (Addr × Obj)
  xe : Value → Shared → Prop
noncomputable def frs (l : List Env) : List Addr := l.filterMap (·.frame)
noncomputable abbrev Cx.fs (X : Cx) : List Addr := frs X.outer
noncomputable def Vis (sc : Scope) (x : Str) : Prop := sc.names.lookup x = some .local ∨ sc.names.lookup x = some .cell ∨ sc.names.lookup x = some .free
noncomputable def Loc (sc : Scope) (x : Str) : Prop := sc.names.lookup x = some .local ∨ sc.names.lookup x = some .cell
noncomputable def Look (env : Env) (h : Heap) (m : Str → Option Value) (x : Str) (u : Value) : Prop :=
  (env.kindOf x = some .local ∧ m x = some u) ∨ ((env.kindOf x = some .cell ∨ env.kindOf x = some .free) ∧ ∃ c, env.cells.lookup x = some c ∧ h.IsCell c (some u))
set_option genInjectivity false in
set_option genSizeOf false in
structure Cx.Ok (X : Cx) : Prop where
  mod : Mod X.K X.mg X.base
  kind : X.env.scope.kind = .function
  glob : X.env.globals = mainGlobals
  blt : X.env.builtins = builtinsNs
  above : X.s_0.heap.objs.size ≤ X.env.locals
  inj : ∀ x y c, X.env.cells.lookup x = some c → X.env.cells.lookup y = some c → x = y
  has : ∀ x, (X.env.kindOf x = some .cell ∨ X.env.kindOf x = some .free) → ∃ c, X.env.cells.lookup x = some c
  cab : ∀ x c, X.fn x = true → X.env.cells.lookup x = some c → X.s_0.heap.objs.size ≤ c
  hd : X.calm = true → X.A.handled = none
  frames : X.A.frames = some X.stack
  stk : X.stack = X.outer ∨ (X.stack = X.env :: X.outer ∧ X.env.frame = some X.env.locals)
  exf : ∀ b ∈ X.ex, b ≠ X.env.locals ∧ ∀ x c, X.env.cells.lookup x = some c → c ≠ b
  bs : ∀ b o, X.base.get? b = some o → X.s_0.heap.get? b = some o ∧ X.H_0 b = none
  bsz : X.base.objs.size ≤ X.s_0.heap.objs.size
  noex : ∀ b o, X.base.get? b = some o → b ∉ X.ex
  exfs : ∀ b ∈ X.ex, b ∉ X.fs
  funs : X.s_0.heap.FunFrames X.base X.outer
  frf : ∀ b ∈ X.fs, X.H_0 b = none
structure Inv (X : Cx) (pins : List (Addr × Obj)) (σ : List (Option V)) (H : Hp) (s : Shared) : Prop where
  ok : X.Ok
  os : s.os = X.s_0.os
  bare : AllBare s.gens
  base : Un X.fs X.ex X.H_0 H X.s_0.heap s.heap
  loc : ∃ m, s.heap.Ns X.env.locals m ∧ ∀ (i : Nat) (x : Str) (v : V), X.N[i]? = some x → σ[i]? = some (some v) → Vis X.env.scope x → ∃ u, RelV v u ∧ Look X.env s.heap m x u
  cell : ∀ x c, X.env.cells.lookup x = some c → ∃ v, s.heap.IsCell c v
  free : H X.env.locals = none
  freeC : ∀ x c, X.env.cells.lookup x = some c → H c = none
  pin : ∀ p ∈ X.pn ++ pins, s.heap.get? p.1 = some p.2 ∧ H p.1 = none ∧ p.1 ≠ X.env.locals ∧ p.1 ∉ X.fs ∧ ∀ v, p.2.data ≠ .cell v
  hok : HOk X.prog X.w H s.heap
  len : σ.length = X.N.length
section
variable {X : Cx} {pins : List (Addr × Obj)} {σ : List (Option V)} {H H' : Hp} {s : Shared} {h' : Heap}
theorem Cx.Ok.nofr (ok : X.Ok) {b : Addr} {o : Obj} (e : X.base.get? b = some o) : b ∉ X.fs := fun hb => by
  have := (ok.funs.mem hb).1
  rw [e] at this; cases this
theorem Inv.bs (I : Inv X pins σ H s) : ∀ b o, X.base.get? b = some o → s.heap.get? b = some o ∧ H b = none := fun b o e =>
  ⟨I.base.keep b o (I.ok.bs b o e).1 (I.ok.bs b o e).2 (I.ok.nofr e) (I.ok.noex b o e), I.base.free b o (I.ok.bs b o e).1 (I.ok.bs b o e).2 (I.ok.noex b o e)⟩
theorem Inv.bk (I : Inv X pins σ H s) : ∀ b o, X.base.get? b = some o → s.heap.get? b = some o := fun b o e => (I.bs b o e).1
theorem Inv.mod (I : Inv X pins σ H s) : Mod X.K X.mg X.base := I.ok.mod
theorem Inv.kIn (I : Inv X pins σ H s) : X.K.In s.heap := I.ok.mod.kin.keeps I.bk
theorem Inv.lt (I : Inv X pins σ H s) : X.env.locals < s.heap.objs.size := let ⟨_, hn, _⟩ := I.loc; hn.lt
theorem Inv.sz (I : Inv X pins σ H s) : X.s_0.heap.objs.size ≤ s.heap.objs.size := Nat.le_trans I.ok.above (Nat.le_of_lt I.lt)
theorem Inv.nofs (I : Inv X pins σ H s) {a : Addr} (h : s.heap.objs.size ≤ a) : a ∉ X.fs := fun hb => by
  obtain ⟨_, o, ho, _⟩ := I.ok.funs.mem hb
  exact absurd (Nat.lt_of_lt_of_le (Heap.lt_size ho) (Nat.le_trans I.sz h)) (Nat.lt_irrefl _)
theorem Inv.cne (I : Inv X pins σ H s) : ∀ x c, X.env.cells.lookup x = some c → c ≠ X.env.locals := fun x c e z => by
  obtain ⟨v, o, ho, hd⟩ := I.cell x c e
  obtain ⟨m, ⟨o', es, ep, ho', hd', _⟩, _⟩ := I.loc
  rw [z, ho'] at ho; cases ho; rw [hd'] at hd; cases hd
theorem Inv.funs (I : Inv X pins σ H s) : s.heap.FunFrames X.base X.outer := by
  have all : ∀ (l : List Env), (∀ b ∈ frs l, b ∈ X.fs) → X.s_0.heap.FunFrames X.base l → s.heap.FunFrames X.base l := by
    intro l
    induction l with
    | nil => intro _ _; trivial
    | cons env r ih =>
      intro hs hl
      obtain ⟨hk, ⟨L, o, hf, hn, ho, hd⟩, hr⟩ := hl
      have hL : L ∈ X.fs := hs L (by unfold frs; rw [List.filterMap_cons, hf]; exact List.mem_cons_self)
      obtain ⟨sl, e⟩ := I.base.slot L o ho (I.ok.frf L hL) hL fun z => I.ok.exfs L z hL
      exact ⟨hk, ⟨L, _, hf, hn, e, hd⟩, ih (fun b hb => hs b (by unfold frs; rw [List.filterMap_cons, hf]; exact List.mem_cons_of_mem _ hb)) hr⟩
  exact all X.outer (fun _ hb => hb) I.ok.funs
theorem Inv.stack (I : Inv X pins σ H s) : s.heap.FunFrames X.base X.stack := by
  rcases I.ok.stk with e | ⟨e, hf⟩
  · rw [e]; exact I.funs
  · rw [e]
    obtain ⟨m, hn, _⟩ := I.loc
    refine .cons (by rw [I.ok.kind]; decide) hf hn ?_ I.funs
    exact Heap.get?_none_of_le (Nat.le_trans I.ok.bsz I.ok.above)
theorem Inv.stkSub (I : Inv X pins σ H s) : ∀ b ∈ frs X.stack, b ∈ X.env.locals :: X.fs := fun b hb => by
  rcases I.ok.stk with e | ⟨e, hf⟩
  · rw [e] at hb; exact List.mem_cons_of_mem _ hb
  · rw [e] at hb
    unfold frs at hb
    rw [List.filterMap_cons, hf] at hb
    exact hb
theorem Inv.stkFree (I : Inv X pins σ H s) : ∀ b ∈ frs X.stack, H b = none := fun b hb => by
  rcases List.mem_cons.mp (I.stkSub b hb) with e | hb
  · rw [e]; exact I.free
  · obtain ⟨_, o, ho, _⟩ := I.ok.funs.mem hb
    exact I.base.free b o ho (I.ok.frf b hb) fun z => I.ok.exfs b z hb
theorem Inv.step {g' : Array GenState} {t' : Nat} {d' : Drawn} {ch : List Addr} (I : Inv X pins σ H s)
    (hch : ∀ b ∈ ch, (b ∈ X.ex ∨ X.s_0.heap.objs.size ≤ b) ∧ b ≠ X.env.locals ∧ (∀ x c, X.env.cells.lookup x = some c → c ≠ b) ∧ ∀ p ∈ X.pn ++ pins, p.1 ≠ b)
    (keep : ∀ b o, b ≠ X.env.locals → b ∉ X.fs → b ∉ ch → s.heap.get? b = some o → H b = none → h'.get? b = some o)
    (slot : ∀ b o, b ≠ X.env.locals → b ∈ X.fs → b ∉ ch → s.heap.get? b = some o → H b = none → ∃ sl, h'.get? b = some { o with slots := sl }) (free : ∀ b o, b ∉ ch → s.heap.get? b = some o → H b = none → H' b = none)
    (there : ∀ b o, b ∉ ch → s.heap.get? b = some o → ∃ o', h'.get? b = some o')
    (tups : ∀ b xs, H b = some (.tup xs) → H' b = some (.tup xs)) (frzs : ∀ b o u, H b = some (.frz o u) → H' b = some (.frz o u)) (tbls : ∀ b ps, H b = some (.tbl ps) → ∃ more, H' b = some (.tbl (ps ++ more)))
    (ns : ∀ m, s.heap.Ns X.env.locals m → h'.Ns X.env.locals m) (hok : HOk X.prog X.w H' h') (hg : AllBare g') :
    Inv X pins σ H' { s with heap := h', gens := g', drawn := d', toks := t' } := by
  have neL : ∀ b o, X.s_0.heap.get? b = some o → b ≠ X.env.locals := fun b o e => Nat.ne_of_lt (Nat.lt_of_lt_of_le (Heap.lt_size e) I.ok.above)
  have neC : ∀ b o, X.s_0.heap.get? b = some o → b ∉ X.ex → b ∉ ch := fun b o e hx hb => by
    rcases (hch b hb).1 with z | z
    · exact hx z
    · exact absurd (Nat.lt_of_lt_of_le (Heap.lt_size e) z) (Nat.lt_irrefl _)
  have cellK : ∀ x c, X.env.cells.lookup x = some c → ∀ v, s.heap.IsCell c v → h'.IsCell c v := fun x c e v ⟨o, ho, hd⟩ => by
    have nch : c ∉ ch := fun z => (hch c z).2.2.1 x c e rfl
    by_cases hc : c ∈ X.fs
    · obtain ⟨sl, q⟩ := slot c o (I.cne x c e) hc nch ho (I.freeC x c e)
      exact ⟨_, q, hd⟩
    · exact ⟨o, keep c o (I.cne x c e) hc nch ho (I.freeC x c e), hd⟩
  refine ⟨I.ok, I.os, hg, ⟨fun b o e n hb hx => ?_, fun b o e n hb hx => ?_, fun b o e n hx => ?_, fun b o e hx => ?_, fun b xs e => tups b xs (I.base.tups b xs e), fun b o xs e => frzs b o xs (I.base.frzs b o xs e), fun b ps e => ?_⟩, ?_, fun x c e => ?_, ?_, fun x c e => ?_, fun p hp => ?_, hok, I.len⟩
  · exact keep b o (neL b o e) hb (neC b o e hx) (I.base.keep b o e n hb hx) (I.base.free b o e n hx)
  · obtain ⟨sl, e1⟩ := I.base.slot b o e n hb hx
    obtain ⟨sl', e2⟩ := slot b _ (neL b o e) hb (neC b o e hx) e1 (I.base.free b o e n hx)
    exact ⟨sl', e2⟩
  · obtain ⟨o', e1⟩ := I.base.there b o e hx
    exact free b o' (neC b o e hx) e1 (I.base.free b o e n hx)
  · obtain ⟨o', e1⟩ := I.base.there b o e hx
    exact there b o' (neC b o e hx) e1
  · obtain ⟨m1, e1⟩ := I.base.tbls b ps e
    obtain ⟨m2, e2⟩ := tbls b _ e1
    exact ⟨m1 ++ m2, by rw [e2, Array.append_assoc]⟩
  · obtain ⟨m, hn, hl⟩ := I.loc
    refine ⟨m, ns m hn, fun i x v e1 e2 e3 => ?_⟩
    obtain ⟨u, r, l⟩ := hl i x v e1 e2 e3
    refine ⟨u, r, ?_⟩
    rcases l with l | ⟨k, c, e, z⟩
    · exact .inl l
    · exact .inr ⟨k, c, e, cellK x c e _ z⟩
  · obtain ⟨v, z⟩ := I.cell x c e
    exact ⟨v, cellK x c e v z⟩
  · obtain ⟨m, ⟨o, _, _, ho, _⟩, _⟩ := I.loc
    exact free _ o (fun z => (hch _ z).2.1 rfl) ho I.free
  · obtain ⟨v, o, ho, hd⟩ := I.cell x c e
    exact free c o (fun z => (hch c z).2.2.1 x c e rfl) ho (I.freeC x c e)
  · obtain ⟨e, n, ne, nf, d⟩ := I.pin p hp
    have nch : p.1 ∉ ch := fun z => (hch p.1 z).2.2.2 p hp rfl
    exact ⟨keep p.1 p.2 ne nf nch e n, free p.1 p.2 nch e n, ne, nf, d⟩
theorem Inv.un {t' : Nat} (I : Inv X pins σ H s) (u : Un X.fs [] H H' s.heap h') (hok : HOk X.prog X.w H' h') : Inv X pins σ H' { s with heap := h', toks := t' } := by
  obtain ⟨m, ⟨o, es, ep, ho, r⟩, _⟩ := id I.loc
  obtain ⟨sl, hL⟩ := u.any ho I.free (by simp)
  exact I.step (g' := s.gens) (d' := s.drawn) (ch := []) (fun _ z => nomatch z) (fun b o _ hb _ e n => u.keep b o e n hb (by simp)) (fun b o _ hb _ e n => u.slot b o e n hb (by simp)) (fun b o _ e n => u.free b o e n (by simp)) (fun b o _ e => u.there b o e (by simp)) u.tups u.frzs u.tbls (fun m' hm => by
    obtain ⟨o', es', ep', ho', r'⟩ := hm
    rw [ho] at ho'; cases ho'
    exact ⟨_, es', ep', hL, r'⟩) hok I.bare
theorem Inv.call {g' : Array GenState} {t' : Nat} {d' : Drawn} {ch : List Addr} (I : Inv X pins σ H s) (u : Un (frs X.stack) ch H H' s.heap h') (hok : HOk X.prog X.w H' h') (hg : AllBare g')
    (hch : ∀ b ∈ ch, (b ∈ X.ex ∨ X.s_0.heap.objs.size ≤ b) ∧ b ≠ X.env.locals ∧ (∀ x c, X.env.cells.lookup x = some c → c ≠ b) ∧ ∀ p ∈ X.pn ++ pins, p.1 ≠ b) :
    Inv X pins σ H' { s with heap := h', gens := g', drawn := d', toks := t' } := by
  obtain ⟨m, ⟨o, es, ep, ho, r⟩, _⟩ := id I.loc
  obtain ⟨sl, hL⟩ := u.any ho I.free fun z => (hch _ z).2.1 rfl
  exact I.step (ch := ch) hch (fun b o hL hb hc e n => u.keep b o e n (fun z => (List.mem_cons.mp (I.stkSub b z)).elim hL hb) hc) (fun b o _ _ hc e n => u.any e n hc) (fun b o hc e n => u.free b o e n hc) (fun b o hc e => u.there b o e hc) u.tups u.frzs u.tbls (fun m' hm => by
    obtain ⟨o', es', ep', ho', r'⟩ := hm
    rw [ho] at ho'; cases ho'
    exact ⟨_, es', ep', hL, r'⟩) hok hg
theorem Inv.turned {t' : Nat} {it : Addr} (I : Inv X pins σ H s) (k : ∀ b o, b ≠ it → s.heap.get? b = some o → h'.get? b = some o) (hn : H it = none) (hL : it ≠ X.env.locals)
    (h1 : it ∈ X.ex ∨ X.s_0.heap.objs.size ≤ it) (h2 : ∀ x c, X.env.cells.lookup x = some c → c ≠ it) (h3 : ∀ p ∈ X.pn ++ pins, p.1 ≠ it) : Inv X pins σ H { s with heap := h', toks := t' } := by
  have nit : ∀ b u, H b = some u → b ≠ it := fun b u e z => by rw [z, hn] at e; cases e
  refine I.step (g' := s.gens) (d' := s.drawn) (ch := [it]) (fun b hb => ?_) (fun b o _ _ hc e _ => k b o (fun z => hc (by simp [z])) e) (fun b o _ _ hc e _ => ⟨o.slots, k b o (fun z => hc (by simp [z])) e⟩) (fun _ _ _ _ n => n)
    (fun b o hc e => ⟨o, k b o (fun z => hc (by simp [z])) e⟩) (fun _ _ e => e) (fun _ _ _ e => e) (fun b ps e => ⟨#[], by rw [e]; simp⟩) (fun m hm => ?_) (fun b u e => ?_) I.bare
  · have e : b = it := by simpa using hb
    subst e
    exact ⟨h1, hL, h2, h3⟩
  · obtain ⟨o, es, ep, ho, r⟩ := hm
    exact ⟨o, es, ep, k _ o (Ne.symm hL) ho, r⟩
  · refine (I.hok b u e).stay (fun c v hc q => k c v ?_ q) (fun _ q => q) fun _ _ q => q
    rcases hc with z | z
    · rw [z]; exact nit b u e
    · exact nit c _ z
theorem Inv.tok (I : Inv X pins σ H s) (t : Nat) : Inv X pins σ H { s with toks := t } := I.un (h' := s.heap) (t' := t) Un.refl I.hok
theorem Inv.kept {t' : Nat} (I : Inv X pins σ H s) (k : ∀ b u, s.heap.get? b = some u → h'.get? b = some u) : Inv X pins σ H { s with heap := h', toks := t' } := I.un (Un.kept k) (I.hok.kept k)
theorem Inv.laid {a : Addr} {o : HO} {t' : Nat} (I : Inv X pins σ H s) (k : ∀ b u, s.heap.get? b = some u → h'.get? b = some u) (hp : s.heap.objs.size ≤ a) (new : ObjOk X.prog X.w (upd H a o) h' a o) :
    Inv X pins σ (upd H a o) { s with heap := h', toks := t' } := I.un (Un.laid k hp (I.hok.fresh hp)) (I.hok.laid k hp new)
theorem Inv.write {x e : Addr} {o : HO} {t' : Nat} (I : Inv X pins σ H s) (mu : Mut (H x)) (he : e = x ∨ H e = some (.own x)) (k : ∀ b u, b ≠ e → s.heap.get? b = some u → h'.get? b = some u) (heo : ∃ u, h'.get? e = some u)
    (new : ObjOk X.prog X.w (upd H x o) h' x o) : Inv X pins σ (upd H x o) { s with heap := h', toks := t' } := I.un (Un.write mu he k heo) (I.hok.write mu he k heo new)
theorem Inv.weak {σ' : List (Option V)} (I : Inv X pins σ H s) (hl : σ'.length = σ.length) (w : ∀ (i : Nat) v, σ'[i]? = some (some v) → σ[i]? = some (some v)) : Inv X pins σ' H s :=
  ⟨I.ok, I.os, I.bare, I.base, let ⟨m, hn, hl'⟩ := I.loc; ⟨m, hn, fun i x v e1 e2 e3 => hl' i x v e1 (w i v e2) e3⟩, I.cell, I.free, I.freeC, I.pin, I.hok, hl.trans I.len⟩
theorem Inv.pins_of {pins' : List (Addr × Obj)} (I : Inv X pins σ H s) (h : ∀ p ∈ pins', s.heap.get? p.1 = some p.2 ∧ H p.1 = none ∧ p.1 ≠ X.env.locals ∧ p.1 ∉ X.fs ∧ ∀ v, p.2.data ≠ .cell v) : Inv X pins' σ H s :=
  ⟨I.ok, I.os, I.bare, I.base, I.loc, I.cell, I.free, I.freeC, fun p hp => (List.mem_append.mp hp).elim (fun z => I.pin p (List.mem_append_left _ z)) (h p), I.hok, I.len⟩
theorem nodup_ix {N : List Str} (hN : N.Nodup) {i j : Nat} {x : Str} (a : N[i]? = some x) (b : N[j]? = some x) : i = j := by
  obtain ⟨h1, e1⟩ := List.getElem?_eq_some_iff.mp a
  obtain ⟨h2, e2⟩ := List.getElem?_eq_some_iff.mp b
  exact (List.getElem_inj hN).mp (e1.trans e2.symm)
theorem store_ok2 {M : Model} {A : Around} {E : Value → Shared → Prop} {i : Nat} {x : Str} {v : V} {u : Value} {Q : Unit → Shared → Prop} (I : Inv X pins σ H s) (hN : X.N.Nodup) (hi : X.N[i]? = some x) (hx : Loc X.env.scope x) (r : RelV v u)
    (h : ∀ s', Inv X pins (σ.set i (some v)) H s' → (∃ a, Heap.SameBut a s.heap s'.heap ∧ (a = X.env.locals ∨ X.env.cells.lookup x = some a)) → Q () s') (hf : X.fn x = true ∨ X.env.scope.names.lookup x = some .local := by first | exact .inl rfl | exact .inr rfl | assumption) : wpAny M A (storeName X.env x u) Q E s := by
  obtain ⟨m, hn, hl⟩ := id I.loc
  have hcls : (X.env.scope.kind == .class || (X.env.scope.kind == .module && X.env.locals != X.env.globals)) = false := by rw [I.ok.kind]; rfl
  have hiσ : i < σ.length := by rw [I.len]; exact (List.getElem?_eq_some_iff.mp hi).1
  have cne := I.cne
  have tracked : ∀ {a : Addr} {h' : Heap}, (∃ o, s.heap.get? a = some o ∧ H a = none) → Heap.SameBut a s.heap h' → HOk X.prog X.w H h' := fun {a h'} ha hs b ob e => by
    obtain ⟨_, _, hfree⟩ := ha
    refine (I.hok b ob e).stay (fun c w' hc q => (hs.2 c ?_).trans q) (fun _ q => q) fun _ _ q => q
    rintro rfl
    rcases hc with rfl | hc
    · rw [hfree] at e; cases e
    · rw [hfree] at hc; cases hc
  rcases hx with hk | hk
  · refine wpAny_storeName_local hk hn (fun h' hn' hs => ?_) hcls
    obtain ⟨oL, _, _, hoL, _⟩ := id hn
    refine h _ ⟨I.ok, I.os, I.bare, ⟨fun b o e n hb hx => ?_, fun b o e n hb hx => ?_, I.base.free, fun b o e hx => ?_, I.base.tups, I.base.frzs, I.base.tbls⟩, ⟨_, hn', fun j y v' e1 e2 e3 => ?_⟩, fun y c e => ?_, I.free, I.freeC, fun p hp => ?_, tracked ⟨oL, hoL, I.free⟩ hs, by simpa using I.len⟩ ⟨_, hs, .inl rfl⟩
    · exact (hs.2 b (Nat.ne_of_lt (Nat.lt_of_lt_of_le (Heap.lt_size e) I.ok.above))).trans (I.base.keep b o e n hb hx)
    · obtain ⟨sl, e1⟩ := I.base.slot b o e n hb hx
      exact ⟨sl, (hs.2 b (Nat.ne_of_lt (Nat.lt_of_lt_of_le (Heap.lt_size e) I.ok.above))).trans e1⟩
    · obtain ⟨o', e1⟩ := I.base.there b o e hx
      exact ⟨o', (hs.2 b (Nat.ne_of_lt (Nat.lt_of_lt_of_le (Heap.lt_size e) I.ok.above))).trans e1⟩
    · by_cases hj : j = i
      · subst hj
        rw [hi] at e1; cases e1
        rw [List.getElem?_set_self hiσ] at e2
        cases e2
        exact ⟨u, r, .inl ⟨hk, by simp⟩⟩
      · rw [List.getElem?_set_ne (Ne.symm hj)] at e2
        obtain ⟨u', r', q⟩ := hl j y v' e1 e2 e3
        refine ⟨u', r', ?_⟩
        rcases q with ⟨k, e⟩ | ⟨k, c, e, z⟩
        · refine .inl ⟨k, ?_⟩
          have : y ≠ x := fun e => hj (nodup_ix hN e1 (e ▸ hi))
          simp [this, e]
        · exact .inr ⟨k, c, e, z.sameBut hs (cne y c e)⟩
    · obtain ⟨w', z⟩ := I.cell y c e
      exact ⟨w', z.sameBut hs (cne y c e)⟩
    · obtain ⟨e, n, ne, nf, d⟩ := I.pin p hp
      exact ⟨(hs.2 p.1 ne).trans e, n, ne, nf, d⟩
  · have hfn : X.fn x = true := by
      rcases hf with z | z
      · exact z
      · rw [z] at hk; cases hk
    obtain ⟨c, hc⟩ := I.ok.has x (.inl hk)
    obtain ⟨w', z⟩ := I.cell x c hc
    refine wpAny_storeName_cell I.ok.kind hk hc z (fun h' hc' hs => ?_)
    obtain ⟨oc, hoc, hocd⟩ := id z
    refine h { s with heap := h' } ⟨I.ok, I.os, I.bare, ⟨fun b o e n hb hx => ?_, fun b o e n hb hx => ?_, I.base.free, fun b o e hx => ?_, I.base.tups, I.base.frzs, I.base.tbls⟩, ⟨m, hn.sameBut hs (Ne.symm (cne x c hc)), fun j y v' e1 e2 e3 => ?_⟩, fun y c' e => ?_, I.free, I.freeC, fun p hp => ?_, tracked ⟨oc, hoc, I.freeC x c hc⟩ hs, by simpa using I.len⟩ ⟨c, hs, .inr hc⟩
    · exact (hs.2 b (Nat.ne_of_lt (Nat.lt_of_lt_of_le (Heap.lt_size e) (I.ok.cab x c hfn hc)))).trans (I.base.keep b o e n hb hx)
    · obtain ⟨sl, e1⟩ := I.base.slot b o e n hb hx
      exact ⟨sl, (hs.2 b (Nat.ne_of_lt (Nat.lt_of_lt_of_le (Heap.lt_size e) (I.ok.cab x c hfn hc)))).trans e1⟩
    · obtain ⟨o', e1⟩ := I.base.there b o e hx
      exact ⟨o', (hs.2 b (Nat.ne_of_lt (Nat.lt_of_lt_of_le (Heap.lt_size e) (I.ok.cab x c hfn hc)))).trans e1⟩
    · by_cases hj : j = i
      · subst hj
        rw [hi] at e1; cases e1
        rw [List.getElem?_set_self hiσ] at e2
        cases e2
        exact ⟨u, r, .inr ⟨.inl hk, c, hc, hc'⟩⟩
      · rw [List.getElem?_set_ne (Ne.symm hj)] at e2
        obtain ⟨u', r', q⟩ := hl j y v' e1 e2 e3
        refine ⟨u', r', ?_⟩
        rcases q with q | ⟨k, c', e, z'⟩
        · exact .inl q
        · refine .inr ⟨k, c', e, z'.sameBut hs ?_⟩
          rintro rfl
          exact hj (nodup_ix hN e1 (I.ok.inj _ _ _ e hc ▸ hi))
    · by_cases hcc : c' = c
      · subst hcc; exact ⟨_, hc'⟩
      · obtain ⟨w2, z2⟩ := I.cell y c' e
        exact ⟨w2, z2.sameBut hs hcc⟩
    · obtain ⟨e, n, ne, nf, d⟩ := I.pin p hp
      refine ⟨(hs.2 p.1 ?_).trans e, n, ne, nf, d⟩
      intro q
      rw [q, hoc] at e
      have q' : oc = p.2 := Option.some.inj e
      exact d w' (by rw [← q']; exact hocd)
theorem store_ok {M : Model} {A : Around} {E : Value → Shared → Prop} {i : Nat} {x : Str} {v : V} {u : Value} {Q : Unit → Shared → Prop} (I : Inv X pins σ H s) (hN : X.N.Nodup) (hi : X.N[i]? = some x) (hx : Loc X.env.scope x) (r : RelV v u)
    (h : ∀ s', Inv X pins (σ.set i (some v)) H s' → Q () s') (hf : X.fn x = true ∨ X.env.scope.names.lookup x = some .local := by first | exact .inl rfl | exact .inr rfl | assumption) : wpAny M A (storeName X.env x u) Q E s :=
  store_ok2 I hN hi hx r (fun s' I' _ => h s' I') hf
theorem Inv.call' {s' : Shared} {ch : List Addr} (I : Inv X pins σ H s) (ho : s'.os = s.os) (u : Un (frs X.stack) ch H H' s.heap s'.heap) (hok : HOk X.prog X.w H' s'.heap) (hg : AllBare s'.gens)
    (hch : ∀ b ∈ ch, (b ∈ X.ex ∨ X.s_0.heap.objs.size ≤ b) ∧ b ≠ X.env.locals ∧ (∀ x c, X.env.cells.lookup x = some c → c ≠ b) ∧ ∀ p ∈ X.pn ++ pins, p.1 ≠ b) : Inv X pins σ H' s' := by
  obtain ⟨h', g', d', t', o'⟩ := s'
  have e : o' = s.os := ho
  subst e
  exact I.call (g' := g') (t' := t') (d' := d') u hok hg hch
end
noncomputable abbrev XK := Value → Option Addr → Hp → Prop
noncomputable abbrev St := List (Option V)
noncomputable abbrev VK := V → Hp → Prop
noncomputable abbrev TE := St → Hp → VK → Prop
noncomputable abbrev TT := St → Hp → (Bool → Hp → Prop) → Prop
noncomputable abbrev TA := St → Hp → (List V → Hp → Prop) → Prop
structure Ends where
  nx : St → Hp → Prop
  rt : VK
  bk : St → Hp → Prop := fun _ _ => False
  ct : St → Hp → Prop := fun _ _ => False
noncomputable abbrev TS := Ends → St → Hp → Prop
inductive EPR (X : Cx) (pins : List (Addr × Obj)) (σ : St) (Q : VK) (u : Value) (s' : Shared) : Prop
  | mk (v H' : _) (h0 : Inv X pins σ H' s') (h1 : RelV v u) (h2 : Q v H') : EPR X pins σ Q u s'
noncomputable def EP (X : Cx) (pins : List (Addr × Obj)) (σ : St) (Q : VK) (u : Value) (s' : Shared) : Prop := EPR X pins σ Q u s'
inductive TPR (X : Cx) (pins : List (Addr × Obj)) (σ : St) (Q : Bool → Hp → Prop) (b : Bool) (s' : Shared) : Prop
  | mk (H' : _) (h0 : Inv X pins σ H' s') (h1 : Q b H') : TPR X pins σ Q b s'
noncomputable def TP (X : Cx) (pins : List (Addr × Obj)) (σ : St) (Q : Bool → Hp → Prop) (b : Bool) (s' : Shared) : Prop := TPR X pins σ Q b s'
inductive APR (X : Cx) (pins : List (Addr × Obj)) (σ : St) (Q : List V → Hp → Prop) (us : List Value) (s' : Shared) : Prop
  | mk (vs H' : _) (h0 : Inv X pins σ H' s') (h1 : Vals vs us) (h2 : Q vs H') : APR X pins σ Q us s'
noncomputable def AP (X : Cx) (pins : List (Addr × Obj)) (σ : St) (Q : List V → Hp → Prop) (us : List Value) (s' : Shared) : Prop := APR X pins σ Q us s'
inductive SPnR (X : Cx) (pins : List (Addr × Obj)) (Q : St → Hp → Prop) (s' : Shared) : Prop
  | mk (σ' H' : _) (h0 : Inv X pins σ' H' s') (h1 : Q σ' H') : SPnR X pins Q s'
inductive SPrR (X : Cx) (pins : List (Addr × Obj)) (Q : VK) (u : Value) (s' : Shared) : Prop
  | mk (v σ' H' : _) (h0 : Inv X pins σ' H' s') (h1 : RelV v u) (h2 : Q v H') : SPrR X pins Q u s'
noncomputable def SP (X : Cx) (pins : List (Addr × Obj)) (D : Ends) (f : Flow) (s' : Shared) : Prop :=
  match f with
  | .next => SPnR X pins D.nx s'
  | .brk => SPnR X pins D.bk s'
  | .cont => SPnR X pins D.ct s'
  | .ret u => SPrR X pins D.rt u s'
noncomputable def PE (X : Cx) (e : Expr) (t : TE) : Prop :=
  ∀ (pins : List (Addr × Obj)) (s : Shared) (σ : St) (H : Hp) (Q : VK), Inv X pins σ H s → t σ H Q → wpAny (model X.prog X.w) X.A (eval e X.env) (EP X pins σ Q) X.xe s
noncomputable def PT (X : Cx) (e : Expr) (t : TT) : Prop :=
  ∀ (pins : List (Addr × Obj)) (s : Shared) (σ : St) (H : Hp) (Q : Bool → Hp → Prop), Inv X pins σ H s → t σ H Q → wpAny (model X.prog X.w) X.A (isTrue e X.env (eval e X.env)) (TP X pins σ Q) X.xe s
noncomputable def PW (X : Cx) (e : Expr) (t : TT) : Prop :=
  ∀ (whole : Sem Value) (pins : List (Addr × Obj)) (s : Shared) (σ : St) (H : Hp) (Q : Bool → Hp → Prop), Inv X pins σ H s → t σ H Q → wpAny (model X.prog X.w) X.A (isTrue e X.env whole) (TP X pins σ Q) X.xe s
theorem PW.pt {X : Cx} {e : Expr} {t : TT} (h : PW X e t) : PT X e t := h _
noncomputable def PA (X : Cx) (es : List Expr) (t : TA) : Prop :=
  ∀ (pos : Pos) (pins : List (Addr × Obj)) (s : Shared) (σ : St) (H : Hp) (Q : List V → Hp → Prop), Inv X pins σ H s → t σ H Q → wpAny (model X.prog X.w) X.A (spliced (backTo pos (starEach es X.env))) (AP X pins σ Q) X.xe s
noncomputable def PS (X : Cx) (st : Stmt) (t : TS) : Prop :=
  ∀ (pins : List (Addr × Obj)) (s : Shared) (σ : St) (H : Hp) (D : Ends), Inv X pins σ H s → t D σ H → wpAny (model X.prog X.w) X.A (exec st X.env) (SP X pins D) X.xe s
noncomputable def PSs (X : Cx) (st : List Stmt) (t : TS) : Prop :=
  ∀ (pins : List (Addr × Obj)) (s : Shared) (σ : St) (H : Hp) (D : Ends), Inv X pins σ H s → t D σ H → wpAny (model X.prog X.w) X.A (execs st X.env) (SP X pins D) X.xe s
theorem thn {α : Type} {t : Sem α} {Q Q' : α → Shared → Prop} {M : Model} {A : Around} {E : Value → Shared → Prop} {s : Shared} (h : wpAny M A t Q E s) (hQ : ∀ a s, Q a s → Q' a s) : wpAny M A t Q' E s := wpAny_mono h hQ fun _ _ x => x
end L2
namespace L2
open PySem PySem.Spec PyProof.Rows
section
variable {X : Cx}
inductive TVarR (i : Nat) (σ : St) (H : Hp) (Q : VK) : Prop
  | mk (v : _) (h0 : σ[i]? = some (some v)) (h1 : Q v H) : TVarR i σ H Q
noncomputable def tVar (i : Nat) : TE := fun σ H Q => TVarR i σ H Q
noncomputable def tC (v : V) : TE := fun _ H Q => Q v H
theorem pe_var {i : Nat} {x : Str} {pos : Pos} (hN : X.N[i]? = some x) (hv : Vis X.env.scope x) (hd : (x == ("__debug__" : Str)) = false := by decide) (hcd : (x == ("__classdict__" : Str)) = false := by decide) : PE X (.Name x pos) (tVar i) := by
  intro pins s σ H Q I h
  obtain ⟨v, e, h⟩ := h
  obtain ⟨m, hn, hl⟩ := I.loc
  obtain ⟨u, r, l⟩ := hl i x v hN e hv
  have fin : EP X pins σ Q u s := ⟨v, H, I, r, h⟩
  rcases l with ⟨hk, hm⟩ | ⟨hk, c, hc, hcell⟩
  · exact wpAny_Name (wpAny_loadName_local I.ok.kind hk hn hm fin) hd
  · rcases hk with hk | hk
    · exact wpAny_Name (wpAny_loadName_cell I.ok.kind hk hc hcell fin) hd
    · exact wpAny_Name (wpAny_loadName_free I.ok.kind hk hc hcell fin hcd) hd
theorem pe_int {i j pos} : PE X (.Constant (.int i) j pos) (tC (.int i)) := fun _ _ _ H _ I h => wpAny_Constant_int ⟨.int i, H, I.tok _, ⟨_, rfl⟩, h⟩
theorem pe_bl {b j pos} : PE X (.Constant (.bool b) j pos) (tC (.bl b)) := fun _ _ _ H _ I h => Constant_bool ⟨.bl b, H, I, rfl, h⟩
theorem pe_non {j pos} : PE X (.Constant .none j pos) (tC .non) := fun _ _ _ H _ I h => Constant_none ⟨.non, H, I, rfl, h⟩
noncomputable def Gl (X : Cx) (x : Str) : Prop := X.env.kindOf x = some .globalImplicit
theorem ld_glob {E : Value → Shared → Prop} {pins : List (Addr × Obj)} {s : Shared} {σ : St} {H : Hp} {x : Str} {u : Value} {pos : Pos} {Q : Value → Shared → Prop} (I : Inv X pins σ H s) (hg : Gl X x) (hm : X.mg x = some u) (h : Q u s)
    (hd : (x == ("__debug__" : Str)) = false := by decide) : wpAny (model X.prog X.w) X.A (eval (.Name x pos) X.env) Q E s :=
  Calls.Name_function_global I.ok.kind hg (Calls.loadGlobal_global (by rw [I.ok.glob]; exact I.mod.glob.keeps I.bk) hm h) hd
theorem ld_blt {E : Value → Shared → Prop} {pins : List (Addr × Obj)} {s : Shared} {σ : St} {H : Hp} {x : Str} {u : Value} {pos : Pos} {Q : Value → Shared → Prop} (I : Inv X pins σ H s) (hg : Gl X x) (hm : X.mg x = none) (hv : bootBuiltins x = some u) (h : Q u s)
    (hn : x ≠ "__name__" := by decide) (hd : (x == ("__debug__" : Str)) = false := by decide) : wpAny (model X.prog X.w) X.A (eval (.Name x pos) X.env) Q E s := by
  obtain ⟨mb, h1, h2⟩ := I.mod.blt
  exact Calls.Name_function_global I.ok.kind hg (Calls.loadGlobal_builtin (by rw [I.ok.glob]; exact I.mod.glob.keeps I.bk) hm (by rw [I.ok.blt]; exact h1.keeps I.bk) ((h2 x hn).trans hv) h) hd
theorem pe_glob {x : Str} {v : V} {u : Value} {pos : Pos} (hg : Gl X x) (hm : X.mg x = some u) (r : RelV v u) (hd : (x == ("__debug__" : Str)) = false := by decide) : PE X (.Name x pos) (tC v) :=
  fun _ _ _ H _ I h => ld_glob I hg hm ⟨v, H, I, r, h⟩ hd
variable {a b : Expr} {ta tb : TE} {pos : Pos}
noncomputable def PC (X : Cx) (op : CmpOp) (a b : Expr) (t : TE) : Prop :=
  ∀ (pins : List (Addr × Obj)) (s : Shared) (σ : St) (H : Hp) (Q : VK), Inv X pins σ H s → t σ H Q →
    wpAny (model X.prog X.w) X.A (eval a X.env) (fun v s₁ => wpAny (model X.prog X.w) X.A (eval b X.env) (fun u s₂ => wpAny (model X.prog X.w) X.A (compareOp op v u) (EP X pins σ Q) X.xe s₂) X.xe s₁) X.xe s
inductive TBR (Q : Bool → Hp → Prop) (x : V) (H1 : Hp) : Prop
  | mk (c : _) (h0 : x = .bl c) (h1 : Q c H1) : TBR Q x H1
noncomputable def tB (t : TE) : TT := fun σ H Q => t σ H (TBR Q)
theorem pt_cmp {op : CmpOp} {t : TE} (h : PC X op a b t) (h1 : behindInMarks op b = false := by first | exact nobehind _ (by decide) (by decide) | rfl) : PT X (.Compare a [op] [b] pos) (tB t) := by
  intro pins s σ H Q I hw
  refine wpAny_isTrue_Compare1 (thn (h pins s σ H _ I hw) fun v s1 h1 => thn h1 fun u s2 h2 => thn h2 fun c s3 ⟨x, H1, I1, r1, q1⟩ => ?_) h1
  obtain ⟨d, rfl, q⟩ := q1
  cases r1
  exact wpAny_truthy_bool ⟨H1, I1, q⟩
theorem pt_val {e : Expr} {t : TE} (h : PE X e t) (he : ∀ whole, isTrue e X.env whole = (do let v ← whole; standAt e.pos; holding [v] (truthy v)) := by intro _; rfl) : PT X e (tB t) := by
  intro pins s σ H Q I hw
  refine isTrue_plain (thn (h pins s σ H _ I hw) fun v s1 ⟨x, H1, I1, r1, q1⟩ => ?_) (he _)
  obtain ⟨d, rfl, q⟩ := q1
  cases r1
  exact wpAny_truthy_bool ⟨H1, I1, q⟩
variable {tA tB' : TT} {rest : List Expr}
noncomputable def tAnd (t u : TT) : TT := fun σ H Q => t σ H fun c H1 => if c = true then u σ H1 Q else Q false H1
noncomputable def tOr (t u : TT) : TT := fun σ H Q => t σ H fun c H1 => if c = true then Q true H1 else u σ H1 Q
noncomputable def tNot (t : TT) : TT := fun σ H Q => t σ H fun c H1 => Q (!c) H1
theorem pw_and1 (ha : PT X a tA) : PW X (.BoolOp .And [a] pos) tA := by
  intro wh pins s σ H Q I h
  refine isTrue_and (thn (ha pins s σ H Q I h) fun c s1 e => ?_)
  cases c with
  | true => exact isTrue_and_nil e
  | false => exact e
theorem pw_or1 (ha : PT X a tA) : PW X (.BoolOp .Or [a] pos) tA := by
  intro wh pins s σ H Q I h
  refine isTrue_or (thn (ha pins s σ H Q I h) fun c s1 e => ?_)
  cases c with
  | false => exact isTrue_or_nil e
  | true => exact e
theorem pw_and (ha : PT X a tA) (hb : PW X (.BoolOp .And (b :: rest) pos) tB') : PW X (.BoolOp .And (a :: b :: rest) pos) (tAnd tA tB') := by
  intro wh pins s σ H Q I h
  refine isTrue_and (thn (ha pins s σ H _ I h) fun c s1 ⟨H1, I1, q1⟩ => ?_)
  cases c with
  | true => exact hb wh pins s1 σ H1 Q I1 q1
  | false => exact ⟨H1, I1, q1⟩
theorem pw_or (ha : PT X a tA) (hb : PW X (.BoolOp .Or (b :: rest) pos) tB') : PW X (.BoolOp .Or (a :: b :: rest) pos) (tOr tA tB') := by
  intro wh pins s σ H Q I h
  refine isTrue_or (thn (ha pins s σ H _ I h) fun c s1 ⟨H1, I1, q1⟩ => ?_)
  cases c with
  | true => exact ⟨H1, I1, q1⟩
  | false => exact hb wh pins s1 σ H1 Q I1 q1
theorem pt_not (ha : PT X a tA) : PT X (.UnaryOp .Not a pos) (tNot tA) := by
  intro pins s σ H Q I h
  exact isTrue_not (thn (ha pins s σ H (fun c H1 => Q (!c) H1) I h) fun c s1 ⟨H1, I1, q1⟩ => ⟨H1, I1, q1⟩)
inductive TAndVR (tb : TE) (σ : St) (Q : VK) (x : V) (H1 : Hp) : Prop
  | mk (c : _) (h0 : x = .bl c) (h1 : if c = true then tb σ H1 Q else Q (.bl false) H1) : TAndVR tb σ Q x H1
noncomputable def tAndV (ta tb : TE) : TE := fun σ H Q => ta σ H (TAndVR tb σ Q)
inductive TOrVR (tb : TE) (σ : St) (Q : VK) (x : V) (H1 : Hp) : Prop
  | mk (c : _) (h0 : x = .bl c) (h1 : if c = true then Q (.bl true) H1 else tb σ H1 Q) : TOrVR tb σ Q x H1
noncomputable def tOrV (ta tb : TE) : TE := fun σ H Q => ta σ H (TOrVR tb σ Q)
theorem pe_one {op} {t : TE} (h : PE X a t) : PE X (.BoolOp op [a] pos) t := fun pins s σ H Q I hw => BoolOp_one (h pins s σ H Q I hw)
theorem pe_and (ha : PE X a ta) (hb : PE X (.BoolOp .And (b :: rest) pos) tb) : PE X (.BoolOp .And (a :: b :: rest) pos) (tAndV ta tb) := by
  intro pins s σ H Q I h
  refine BoolOp_and (thn (ha pins s σ H _ I h) fun v s1 ⟨x, H1, I1, r1, q1⟩ => ?_)
  obtain ⟨c, rfl, q1⟩ := q1
  cases r1
  refine wpAny_truthy_bool ?_
  cases c with
  | true => exact hb pins s1 σ H1 Q I1 q1
  | false => exact ⟨.bl false, H1, I1, rfl, q1⟩
theorem pe_or (ha : PE X a ta) (hb : PE X (.BoolOp .Or (b :: rest) pos) tb) : PE X (.BoolOp .Or (a :: b :: rest) pos) (tOrV ta tb) := by
  intro pins s σ H Q I h
  refine BoolOp_or (thn (ha pins s σ H _ I h) fun v s1 ⟨x, H1, I1, r1, q1⟩ => ?_)
  obtain ⟨c, rfl, q1⟩ := q1
  cases r1
  refine wpAny_truthy_bool ?_
  cases c with
  | false => exact hb pins s1 σ H1 Q I1 q1
  | true => exact ⟨.bl true, H1, I1, rfl, q1⟩
noncomputable def tIf (t : TT) (ta tb : TE) : TE := fun σ H Q => t σ H fun c H1 => if c = true then ta σ H1 Q else tb σ H1 Q
theorem pe_ifExp {c : Expr} (hc : PT X c tA) (ha : PE X a ta) (hb : PE X b tb) : PE X (.IfExp c a b pos) (tIf tA ta tb) := by
  intro pins s σ H Q I h
  refine wpAny_IfExp (thn (hc pins s σ H _ I h) fun d s1 ⟨H1, I1, q1⟩ => ?_)
  cases d with
  | true => exact ha pins s1 σ H1 Q I1 q1
  | false => exact hb pins s1 σ H1 Q I1 q1
end
end L2
namespace L2
open PySem PySem.Spec PyProof.Rows
noncomputable def SqL (K : PySem.W.Frag) (H : Hp) (a : Addr) (xs : List V) : Prop :=
  Rd H a (.lst xs) ∨
    ∃ (o : Obj) (its : Array Value) (n : Nat), K.lookup a = some o ∧ o.cls = .type "list" ∧ o.dict = none ∧ o.data = .seq its n ∧ its.size ≤ sizeLine ∧ Vals xs its.toList
noncomputable def SqT (K : PySem.W.Frag) (H : Hp) (a : Addr) (xs : List V) : Prop :=
  Rd H a (.tup xs) ∨
    ∃ (o : Obj) (its : Array Value) (n : Nat), K.lookup a = some o ∧ o.cls = .type "tuple" ∧ o.data = .seq its n ∧ its.size ≤ sizeLine ∧ Vals xs its.toList
noncomputable def absV : Value → Option V
  | .none => some .non
  | .bool b => some (.bl b)
  | .int i _ => some (.int i)
  | .str x _ => some (.str x)
  | .bytes b _ => some (.byt b)
  | .float b _ => some (.flt b)
  | .ref a => some (.ref a)
  | .type n => some (.ty n)
  | _ => none
theorem RelV.abs {x : V} {u : Value} (r : RelV x u) : absV u = some x := by
  cases x with
  | non => cases r; rfl
  | bl _ => cases r; rfl
  | int _ => obtain ⟨t, rfl⟩ := r; rfl
  | str _ => obtain ⟨t, rfl⟩ := r; rfl
  | byt _ => obtain ⟨t, rfl⟩ := r; rfl
  | flt _ => obtain ⟨t, rfl⟩ := r; rfl
  | ref _ => cases r; rfl
  | ty _ => cases r; rfl
theorem RelV.inj {x y : V} {u : Value} (r : RelV x u) (q : RelV y u) : x = y := Option.some.inj (r.abs.symm.trans q.abs)
theorem Vals.inj : ∀ {xs ys : List V} {us : List Value}, Vals xs us → Vals ys us → xs = ys
  | _, _, _, .nil, .nil => rfl
  | _, _, _, .cons r t, .cons r' t' => by rw [r.inj r', Vals.inj t t']
section
variable {X : Cx} {pins : List (Addr × Obj)} {σ : St} {H : Hp} {s : Shared} {a : Addr} {xs ys : List V}
theorem SqL.of {K : PySem.W.Frag} (h : H a = some (.lst xs)) : SqL K H a xs := .inl (.inl h)
theorem SqT.of {K : PySem.W.Frag} (h : H a = some (.tup xs)) : SqT K H a xs := .inl (.inl h)
theorem Inv.list (I : Inv X pins σ H s) (h : SqL X.K H a xs) : ∃ its : List Value, Vals xs its ∧ PlainL s.heap a its.toArray ∧ xs.length ≤ sizeLine := by
  rcases h with h | ⟨o, its, n, hk, hc, hd, hs, hz, r⟩
  · obtain ⟨z, its, n, r, e⟩ := h.ok I.hok
    exact ⟨its, r, ⟨_, n, e, rfl, rfl, rfl⟩, z⟩
  · refine ⟨its.toList, r, ⟨o, n, I.kIn a o hk, hc, hd, by simpa using hs⟩, ?_⟩
    have e := r.length
    simp only [Array.length_toList] at e
    omega
theorem Inv.tuple (I : Inv X pins σ H s) (h : SqT X.K H a xs) : ∃ its : List Value, Vals xs its ∧ IsTup s.heap a its.toArray ∧ xs.length ≤ sizeLine := by
  rcases h with h | ⟨o, its, n, hk, hc, hs, hz, r⟩
  · obtain ⟨z, its, r, p⟩ := h.ok I.hok
    exact ⟨its, r, p, z⟩
  · refine ⟨its.toList, r, ⟨o, I.kIn a o hk, hc, n, by simpa using hs⟩, ?_⟩
    have e := r.length
    simp only [Array.length_toList] at e
    omega
theorem Inv.list_inj (I : Inv X pins σ H s) (h : SqL X.K H a xs) (h' : SqL X.K H a ys) : xs = ys := by
  obtain ⟨its, r, ⟨o, n, e, _, _, d⟩, _⟩ := I.list h
  obtain ⟨its', r', ⟨o', n', e', _, _, d'⟩, _⟩ := I.list h'
  rw [e] at e'; cases e'
  rw [d] at d'
  injection d' with d1 _
  have : its = its' := by simpa using congrArg Array.toList d1
  subst this
  exact r.inj r'
end
noncomputable abbrev Cx.wish (X : Cx) (E : Value → Shared → Prop) : Cx := { X with xe := E }
noncomputable abbrev Cx.nox (X : Cx) : Cx := X.wish fun _ _ => False
theorem Cx.Ok.wish {X : Cx} (ok : X.Ok) (E : Value → Shared → Prop) : (X.wish E).Ok :=
  ⟨ok.mod, ok.kind, ok.glob, ok.blt, ok.above, ok.inj, ok.has, ok.cab, ok.hd, ok.frames, ok.stk, ok.exf, ok.bs, ok.bsz, ok.noex, ok.exfs, ok.funs, ok.frf⟩
theorem Cx.Ok.unwish {X : Cx} {E : Value → Shared → Prop} (ok : (X.wish E).Ok) : X.Ok :=
  ⟨ok.mod, ok.kind, ok.glob, ok.blt, ok.above, ok.inj, ok.has, ok.cab, ok.hd, ok.frames, ok.stk, ok.exf, ok.bs, ok.bsz, ok.noex, ok.exfs, ok.funs, ok.frf⟩
section
variable {X : Cx} {pins : List (Addr × Obj)} {σ : St} {H : Hp} {s : Shared} {E : Value → Shared → Prop}
theorem Inv.wish (I : Inv X pins σ H s) (E : Value → Shared → Prop) : Inv (X.wish E) pins σ H s := ⟨I.ok.wish E, I.os, I.bare, I.base, I.loc, I.cell, I.free, I.freeC, I.pin, I.hok, I.len⟩
theorem Inv.unwish (I : Inv (X.wish E) pins σ H s) : Inv X pins σ H s := ⟨I.ok.unwish, I.os, I.bare, I.base, I.loc, I.cell, I.free, I.freeC, I.pin, I.hok, I.len⟩
theorem SP.unwish {D : Ends} {f : Flow} {s' : Shared} (h : SP (X.wish E) pins D f s') : SP X pins D f s' := by
  cases f with
  | next => obtain ⟨σ', H', I, q⟩ := h; exact ⟨σ', H', I.unwish, q⟩
  | brk => obtain ⟨σ', H', I, q⟩ := h; exact ⟨σ', H', I.unwish, q⟩
  | cont => obtain ⟨σ', H', I, q⟩ := h; exact ⟨σ', H', I.unwish, q⟩
  | ret u => obtain ⟨v, σ', H', I, r, q⟩ := h; exact ⟨v, σ', H', I.unwish, r, q⟩
theorem PSs.nox {st : List Stmt} {t : TS} (h : PSs X.nox st t) : PSs X st t := fun pins s σ H D I hw =>
  wpAny_mono (h pins s σ H D (I.wish _) hw) (fun _ _ q => q.unwish) fun _ _ z => False.elim z
end
section
variable {X : Cx} {st : Stmt} {rest : List Stmt} {t u : TS} {e : Expr} {te : TE} {pos : Pos}
noncomputable def tNext : TS := fun D σ H => D.nx σ H
noncomputable def tSeq (t u : TS) : TS := fun D σ H => t { D with nx := u D } σ H
theorem pss_nil : PSs X [] tNext := fun _ _ σ H _ I h => wpAny_execs_nil ⟨σ, H, I, h⟩
theorem pss_cons (h1 : PS X st t) (h2 : PSs X rest u) : PSs X (st :: rest) (tSeq t u) := by
  intro pins s σ H D I h
  refine wpAny_execs_cons (thn (h1 pins s σ H { D with nx := u D } I h) fun f s1 q => ?_)
  cases f with
  | next =>
    obtain ⟨σ', H', I', q⟩ := q
    exact h2 pins s1 σ' H' D I' q
  | ret v => exact q
  | brk => exact q
  | cont => exact q
theorem pss_one (h1 : PS X st t) : PSs X [st] t := by
  intro pins s σ H D I h
  refine wpAny_execs_cons (thn (h1 pins s σ H D I h) fun f s1 q => ?_)
  cases f with
  | next => exact wpAny_execs_nil q
  | ret v => exact q
  | brk => exact q
  | cont => exact q
noncomputable def tCont : TS := fun D σ H => D.ct σ H
theorem ps_continue : PS X (.Continue pos) tCont := fun _ _ σ H _ I h => wpAny_Continue ⟨σ, H, I, h⟩
theorem Inv.quiet {pins : List (Addr × Obj)} {σ : St} {H : Hp} {s : Shared} (I : Inv X pins σ H s) : interactive X.env = false := by simp [interactive, I.ok.kind]
noncomputable def tDrop (te : TE) : TS := fun D σ H => te σ H fun _ H1 => D.nx σ H1
theorem ps_expr (he : PE X e te) (hs : swapsWith e none pos.line X.env = pure false := by rfl) : PS X (.Expr e pos) (tDrop te) := by
  intro pins s σ H D I h
  exact wpAny_Expr_any (thn (he pins s σ H _ I h) fun v s1 ⟨x, H1, I1, r1, q1⟩ => ⟨σ, H1, I1, q1⟩) I.quiet hs
noncomputable def tRet (te : TE) : TS := fun D σ H => te σ H D.rt
theorem ps_ret (he : PE X e te) : PS X (.Return (some e) pos) (tRet te) := by
  intro pins s σ H D I h
  exact wpAny_Return_some (thn (he pins s σ H _ I h) fun v s1 ⟨x, H1, I1, r1, q1⟩ => ⟨x, σ, H1, I1, r1, q1⟩)
noncomputable def tIfS (c : TT) (t u : TS) : TS := fun D σ H => c σ H fun b H1 => if b = true then t D σ H1 else u D σ H1
theorem ps_if {c : Expr} {a b : List Stmt} {tc : TT} (hc : PT X c tc) (ha : PSs X a t) (hb : PSs X b u) : PS X (.If c a b pos) (tIfS tc t u) := by
  intro pins s σ H D I h
  refine wpAny_If (thn (hc pins s σ H _ I h) fun d s1 ⟨H1, I1, q1⟩ => ?_)
  cases d with
  | true => exact ha pins s1 σ H1 D I1 q1
  | false => exact hb pins s1 σ H1 D I1 q1
noncomputable def tNever : TS := fun _ _ _ => False
theorem pss_never {sts : List Stmt} : PSs X sts tNever := fun _ _ _ _ _ _ h => h.elim
end
noncomputable abbrev TG := V → St → Hp → (St → Hp → Prop) → Prop
noncomputable abbrev TGs := List V → St → Hp → (St → Hp → Prop) → Prop
noncomputable def PG (X : Cx) (target : Expr) (t : TG) : Prop :=
  ∀ (pins : List (Addr × Obj)) (s : Shared) (σ : St) (H : Hp) (v : V) (u : Value) (Q : St → Hp → Prop), Inv X pins σ H s → RelV v u → t v σ H Q →
    wpAny (model X.prog X.w) X.A (assign target X.env u) (fun _ s' => SPnR X pins Q s') X.xe s
noncomputable def PGs (X : Cx) (ts : List Expr) (t : TGs) : Prop :=
  ∀ (pins : List (Addr × Obj)) (s : Shared) (σ : St) (H : Hp) (vs : List V) (us : List Value) (Q : St → Hp → Prop), Inv X pins σ H s → Vals vs us → t vs σ H Q →
    wpAny (model X.prog X.w) X.A (assignInOrder ((assignEach ts X.env).map (·.2)) us) (fun _ s' => SPnR X pins Q s') X.xe s
noncomputable abbrev TSet := V → V → V → Hp → (Hp → Prop) → Prop
noncomputable def PSet (X : Cx) (t : TSet) : Prop :=
  ∀ (pins : List (Addr × Obj)) (s : Shared) (σ : St) (H : Hp) (o i v : V) (ov iv u : Value) (Q : Hp → Prop), Inv X pins σ H s → RelV o ov → RelV i iv → RelV v u → t o i v H Q →
    wpAny (model X.prog X.w) X.A (setItem ov iv u) (fun _ s' => ∃ H', Inv X pins σ H' s' ∧ Q H') X.xe s
section
variable {X : Cx} {pos : Pos}
noncomputable def gName (i : Nat) : TG := fun v σ H Q => Q (σ.set i (some v)) H
theorem pg_name {i : Nat} {x : Str} (hN : X.N.Nodup) (hi : X.N[i]? = some x) (hx : Loc X.env.scope x) (hf : X.fn x = true ∨ X.env.scope.names.lookup x = some .local := by first | exact .inl rfl | exact .inr rfl | assumption) : PG X (.Name x pos) (gName i) := by
  intro pins s σ H v u Q I r h
  exact wpAny_assign_Name (store_ok I hN hi hx r (fun s' I' => ⟨_, H, I', h⟩) hf)
noncomputable def gNil : TGs := fun vs σ H Q => vs = [] ∧ Q σ H
inductive GConsR (t : TG) (u : TGs) (vs : List V) (σ : St) (H : Hp) (Q : St → Hp → Prop) : Prop
  | mk (v r : _) (h0 : vs = v :: r) (h1 : t v σ H fun σ' H' => u r σ' H' Q) : GConsR t u vs σ H Q
noncomputable def gCons (t : TG) (u : TGs) : TGs := fun vs σ H Q => GConsR t u vs σ H Q
theorem pgs_nil : PGs X [] gNil := by
  intro pins s σ H vs us Q I r h
  obtain ⟨e, h⟩ := h
  subst e
  cases r
  exact assignInOrder_nil ⟨σ, H, I, h⟩
theorem pgs_cons {e : Expr} {es : List Expr} {t : TG} {u : TGs} (h1 : PG X e t) (h2 : PGs X es u)
    (hs : (assignEach (e :: es) X.env).map (·.2) = assign e X.env :: (assignEach es X.env).map (·.2) := by rfl) : PGs X (e :: es) (gCons t u) := by
  intro pins s σ H vs us Q I r h
  obtain ⟨v, vr, e1, h⟩ := h
  subst e1
  cases r with
  | cons r rr =>
    rw [hs]
    refine assignInOrder_cons (thn (h1 pins s σ H _ _ _ I r h) fun _ s1 ⟨σ1, H1, I1, q1⟩ => ?_)
    exact h2 pins s1 σ1 H1 _ _ Q I1 rr q1
inductive GTupR (K : PySem.W.Frag) (n : Nat) (t : TGs) (v : V) (σ : St) (H : Hp) (Q : St → Hp → Prop) : Prop
  | mk (a xs : _) (h0 : v = .ref a) (h1 : SqT K H a xs) (h2 : xs.length = n) (h3 : t xs σ H Q) : GTupR K n t v σ H Q
noncomputable def gTup (K : PySem.W.Frag) (n : Nat) (t : TGs) : TG := fun v σ H Q => GTupR K n t v σ H Q
theorem pg_tup {es : List Expr} {k : Nat} {t : TGs} {n : Nat} (hc : X.calm = true) (h : PGs X es t)
    (hn : (assignEach es X.env).length = n := by rfl) (hst : (assignEach es X.env).findIdx? (·.1) = none := by rfl) : PG X (.Tuple es k pos) (gTup X.K n t) := by
  intro pins s σ H v u Q I r hw
  obtain ⟨a, xs, e1, hq, hl, hw⟩ := hw
  subst e1
  cases r
  obtain ⟨its, rv, ht, hz⟩ := I.tuple hq
  refine assign_Tuple_tuple (I.ok.hd hc) ht (by simp [hn, ← hl, rv.length]) hst fun h' hx => ?_
  have I1 : Inv X pins σ H { s with heap := h' } := I.kept (t' := s.toks) fun b o e => hx b o (Nat.ne_of_lt (Heap.lt_size e)) e
  exact h pins _ σ H xs _ Q I1 (by simpa using rv) hw
noncomputable def gSub (to ti : TE) (t : TSet) : TG := fun v σ H Q => to σ H fun o H1 => ti σ H1 fun i H2 => t o i v H2 fun H3 => Q σ H3
theorem pg_sub {o i : Expr} {to ti : TE} {t : TSet} (ho : PE X o to) (hi : PE X i ti) (hs : PSet X t)
    (ha : ∀ v, assign (.Subscript o i pos) X.env v = (do
      let ov ← holding [v] (eval o X.env)
      let iv ← holding [v, ov] (eval i X.env)
      standAt pos
      holding [v, ov, iv] (setItem ov iv v)
      release [v, ov, iv] []) := by intro _; rfl) : PG X (.Subscript o i pos) (gSub to ti t) := by
  intro pins s σ H v u Q I r h
  rw [ha]
  refine wpAny_bind (wpAny_holding (thn (ho pins s σ H _ I h) fun ov s1 ⟨x, H1, I1, r1, q1⟩ => ?_))
  refine wpAny_bind (wpAny_holding (thn (hi pins s1 σ H1 _ I1 q1) fun iv s2 ⟨y, H2, I2, r2, q2⟩ => ?_))
  refine wpAny_bind (wpAny_standAt (wpAny_bind (wpAny_holding (thn (hs pins s2 σ H2 x y v ov iv u _ I2 r1 r2 r q2) fun _ s3 ⟨H3, I3, q3⟩ => ?_))))
  exact wpAny_release ⟨σ, H3, I3, q3⟩
noncomputable def tAsg2 (g : TG) (σ : St) (N : St → Hp → Prop) : VK := fun x H1 => g x σ H1 N
noncomputable def tAsg (te : TE) (g : TG) : TS := fun D σ H => te σ H (tAsg2 g σ D.nx)
theorem ps_asg {tg e : Expr} {te : TE} {g : TG} (he : PE X e te) (hg : PG X tg g) (hs : swapsWithSole [tg] e pos.line X.env = pure false := by rfl) (hw : swappedStores [tg] e X.env = pure none := by rfl)
    (h1 : (assignEach [tg] X.env).map (·.2) = [assign tg X.env] := by rfl) : PS X (.Assign [tg] e pos) (tAsg te g) := by
  intro pins s σ H D I h
  refine wpAny_Assign_stores (thn (he pins s σ H _ I h) fun v s1 ⟨x, H1, I1, r1, q1⟩ => ?_) hs hw
  rw [h1]
  exact thn (hg pins s1 σ H1 x v _ I1 r1 q1) fun _ s2 q => q
theorem ps_set {i : Nat} {x : Str} {e : Expr} {te : TE} {pos' : Pos} (hN : X.N.Nodup) (hi : X.N[i]? = some x) (hx : Loc X.env.scope x) (he : PE X e te) (hs : swapsWith e (some (.Name x pos')) pos.line X.env = pure false := by rfl) (hf : X.fn x = true ∨ X.env.scope.names.lookup x = some .local := by first | exact .inl rfl | exact .inr rfl | assumption) :
    PS X (.Assign [.Name x pos'] e pos) (tAsg te (gName i)) := by
  intro pins s σ H D I h
  refine wpAny_Assign_Name (thn (he pins s σ H _ I h) fun v s1 ⟨y, H1, I1, r1, q1⟩ => ?_) hs
  exact store_ok I1 hN hi hx r1 (fun s2 I2 => ⟨_, H1, I2, q1⟩) hf
end
section
variable {X : Cx} {pos : Pos}
noncomputable def tWhile (c : TT) (tb : TS) : TS := fun D σ H => ∃ W : Nat → St → Hp → Prop, (∃ m, W m σ H) ∧ ∀ m σ H, W m σ H →
  c σ H fun b H1 => if b = true then ∃ N : St → Hp → Prop, (∀ σ' H', N σ' H' → ∃ m', m' < m ∧ W m' σ' H') ∧ tb { D with nx := N, ct := N, bk := D.nx } σ H1 else D.nx σ H1
theorem ps_while {c : Expr} {body : List Stmt} {tc : TT} {tb : TS} (hp : PassesOwn (model X.prog X.w) X.A X.env X.xe) (hc : PT X c tc) (hb : PSs X body tb) : PS X (.While c body [] pos) (tWhile tc tb) := by
  intro pins s σ H D I h
  obtain ⟨W, ⟨m0, w0⟩, turn⟩ := h
  refine wpAny_While (codeAny_whileLoop (fun n s' => ∃ σ' H', Inv X pins σ' H' s' ∧ W n σ' H') ?_ m0 ⟨σ, H, I, w0⟩)
  rintro n s1 ⟨σ1, H1, I1, w1⟩
  refine wpAny_passesOwn hp (thn (hc pins s1 σ1 H1 _ I1 (turn n σ1 H1 w1)) fun b s2 ⟨H2, I2, q2⟩ => ?_)
  cases b with
  | true =>
    obtain ⟨N, hN, q2⟩ := q2
    rw [if_pos rfl]
    refine wpAny_passesOwn hp (thn (hb pins s2 σ1 H2 _ I2 q2) fun f s3 q3 => ?_)
    cases f with
    | next =>
      obtain ⟨σ3, H3, I3, n3⟩ := q3
      obtain ⟨m', hm, w3⟩ := hN σ3 H3 n3
      exact ⟨m', hm, σ3, H3, I3, w3⟩
    | cont =>
      obtain ⟨σ3, H3, I3, n3⟩ := q3
      obtain ⟨m', hm, w3⟩ := hN σ3 H3 n3
      exact ⟨m', hm, σ3, H3, I3, w3⟩
    | brk => exact q3
    | ret v => exact q3
  | false =>
    rw [if_neg Bool.false_ne_true]
    exact wpAny_execs_nil ⟨σ1, H2, I2, q2⟩
end
structure It where
  go : Nat → Hp → Prop
  yld : Nat → Hp → V → Hp → Prop
  stop : Nat → Hp → Prop
noncomputable def FpOk (X : Cx) (pins : List (Addr × Obj)) (H : Hp) (b : Addr) : Prop :=
  H b = none ∧ b ≠ X.env.locals ∧ b ∉ X.fs ∧ (b ∈ X.ex ∨ X.s_0.heap.objs.size ≤ b) ∧ (∀ x c, X.env.cells.lookup x = some c → c ≠ b) ∧ ∀ p ∈ X.pn ++ pins, p.1 ≠ b
theorem Inv.fpOk {X : Cx} {pins : List (Addr × Obj)} {σ : St} {H H' : Hp} {s : Shared} {b : Addr} (I : Inv X pins σ H s) (hb : s.heap.objs.size ≤ b) (hn : H' b = none) : FpOk X pins H' b := by
  refine ⟨hn, Nat.ne_of_gt (Nat.lt_of_lt_of_le I.lt hb), I.nofs hb, .inr (Nat.le_trans I.sz hb), fun x c e z => ?_, fun p hp z => ?_⟩
  · obtain ⟨v, q⟩ := I.cell x c e
    exact absurd (Nat.lt_of_lt_of_le q.lt (by rw [z]; exact hb)) (Nat.lt_irrefl _)
  · exact absurd (Nat.lt_of_lt_of_le (Heap.lt_size (I.pin p hp).1) (by rw [z]; exact hb)) (Nat.lt_irrefl _)
structure Turn (P : Program) (w : World) (K : PySem.W.Frag) (tg : Expr) (J : It) (fp : List Addr) (it : Addr) (tn : Nat → Heap → Prop) : Prop where
  mem : it ∈ fp
  obj : ∀ i h, tn i h → ∀ b ∈ fp, ∃ o, h.get? b = some o ∧ ∀ v, o.data ≠ .cell v
  keep : ∀ i h h', tn i h → (∀ b ∈ fp, ∀ o, h.get? b = some o → h'.get? b = some o) → tn i h'
  item : ∀ (X : Cx), X.prog = P → X.w = w → X.K = K → X.calm = true → ∀ (i : Nat) (pins : List (Addr × Obj)) (s : Shared) (σ : St) (H : Hp) (E : Value → Shared → Prop), Inv X pins σ H s → (∀ b ∈ fp, FpOk X pins H b) → tn i s.heap → J.go i H →
    wpAny (model P w) X.A (pyNext (.ref it)) (fun r s1 => ∃ u, r = some u ∧
      wpAny (model P w) X.A (letOwnedTupleGo tg (.ref it) u) (fun _ s2 => ∃ x H', Inv X pins σ H' s2 ∧ RelV x u ∧ J.yld i H x H' ∧ tn (i + 1) s2.heap ∧ ∀ b ∈ fp, H' b = none) E s1) E s
  done : ∀ (X : Cx), X.prog = P → X.w = w → X.K = K → X.calm = true → ∀ (i : Nat) (pins : List (Addr × Obj)) (s : Shared) (σ : St) (H : Hp) (E : Value → Shared → Prop), Inv X pins σ H s → (∀ b ∈ fp, FpOk X pins H b) → tn i s.heap → J.stop i H →
    wpAny (model P w) X.A (pyNext (.ref it)) (fun r s1 => r = none ∧ Inv X pins σ H s1) E s
  self : ∀ (A : Around) (i : Nat) (s : Shared) (Q : Value → Shared → Prop) (E : Value → Shared → Prop), tn i s.heap → Q (.ref it) s → wpAny (model P w) A (pyIter (.ref it)) Q E s
noncomputable abbrev TI := St → Hp → (It → Hp → Prop) → Prop
noncomputable def PIE (X : Cx) (pins : List (Addr × Obj)) (σ : St) (tg : Expr) (R : It → Hp → Prop) (itv : Value) (s2 : Shared) : Prop :=
  ∃ (it : Addr) (fp : List Addr) (tn : Nat → Heap → Prop) (J : It) (H' : Hp), itv = .ref it ∧ Inv X pins σ H' s2 ∧ Turn X.prog X.w X.K tg J fp it tn ∧ tn 0 s2.heap ∧ (∀ b ∈ fp, FpOk X pins H' b) ∧ R J H'
noncomputable def PI (X : Cx) (tg iter : Expr) (wi : TI) : Prop :=
  ∀ (pins : List (Addr × Obj)) (s : Shared) (σ : St) (H : Hp) (R : It → Hp → Prop), Inv X pins σ H s → wi σ H R →
    wpAny (model X.prog X.w) X.A (eval iter X.env) (fun v s1 => wpAny (model X.prog X.w) X.A (pyIter v) (PIE X pins σ tg R) X.xe s1) X.xe s
theorem go_of {M : Model} {A : Around} {E : Value → Shared → Prop} {s : Shared} {tg : Expr} {it : Addr} {u : Value} {o : Obj} {n : String} {vs : Array Value} {Q : Unit → Shared → Prop} (ho : s.heap.get? it = some o) (hc : o.cls = .type n) (hd : o.data = .fields vs)
    (hn : ["enumerate", "zip", "dict_itemiterator", "dict_reverseitemiterator", "odict_iterator", "itertools.zip_longest", "itertools.pairwise"].contains n = false) (hQ : Q () s) : wpAny M A (letOwnedTupleGo tg (.ref it) u) Q E s := by
  unfold letOwnedTupleGo
  cases tg <;> first
    | exact wpAny_pure hQ
    | (cases u <;> first
        | exact wpAny_pure hQ
        | (refine wpAny_bind (wpAny_load ho ?_)
           rw [hc, hd]
           show wpAny M A (if (["enumerate", "zip", "dict_itemiterator", "dict_reverseitemiterator", "odict_iterator", "itertools.zip_longest", "itertools.pairwise"].contains n && vs[0]? == some (rawInt _)) = true then _ else _) Q E s
           rw [if_neg (by intro h; rw [hn, Bool.false_and] at h; cases h)]
           exact wpAny_pure hQ))
noncomputable def Itl (K : PySem.W.Frag) (a : Addr) : It :=
  ⟨fun i H => ∃ xs x, SqL K H a xs ∧ xs[i]? = some x, fun i H x H' => H' = H ∧ ∀ xs, SqL K H a xs → xs[i]? = some x, fun i H => ∃ xs, SqL K H a xs ∧ xs.length ≤ i⟩
noncomputable def Itr (lo : Int) (n : Nat) : It := ⟨fun i _ => i < n, fun i H x H' => H' = H ∧ x = .int (lo + i), fun i _ => n ≤ i⟩
theorem turn_list {P : Program} {w : World} {K : PySem.W.Frag} {tg : Expr} (a it : Addr) : Turn P w K tg (Itl K a) [it] it (fun i h => h.IsListIter it a i) where
  mem := by simp
  obj := fun i h st b hb => by
    have e : b = it := by simpa using hb
    subst e
    obtain ⟨o, e, c, d⟩ := st
    exact ⟨o, e, fun v z => by rw [d] at z; cases z⟩
  keep := fun i h h' st k => st.at fun o e => k it (by simp) o e
  item := by
    intro X hP hw hK hc i pins s σ H E I hf st hg
    subst hP hw hK
    obtain ⟨xs, x, hq, hx⟩ := hg
    obtain ⟨its, rv, p, hz⟩ := I.list hq
    obtain ⟨u, hu, ru⟩ := rv.get hx
    obtain ⟨f0, f1, f2, f3, f4, f5⟩ := hf it (by simp)
    refine wpAny_pyNext_list_item st p.isList (x := u) (by simpa using hu) fun h' st' sb => ?_
    have I1 : Inv X pins σ H { s with heap := h' } := I.turned (t' := s.toks) (fun b o hb e => (sb.2 b hb).trans e) f0 f1 f3 f4 f5
    obtain ⟨o, e, c, d⟩ := id st'
    exact ⟨u, rfl, go_of (s := { s with heap := h' }) e c d (by decide) ⟨x, H, I1, ru, ⟨rfl, fun ys hy => by rw [I.list_inj hy hq]; exact hx⟩, st', fun b hb => (hf b hb).1⟩⟩
  done := by
    intro X hP hw hK hc i pins s σ H E I hf st hg
    subst hP hw hK
    obtain ⟨xs, hq, hx⟩ := hg
    obtain ⟨its, rv, p, hz⟩ := I.list hq
    obtain ⟨f0, f1, f2, f3, f4, f5⟩ := hf it (by simp)
    have hl := rv.length
    exact wpAny_pyNext_list_end (I.ok.hd hc) st p.isList (by simp; omega) fun h' eb => ⟨rfl, I.turned (t' := s.toks) (fun b o hb e => eb b o hb e) f0 f1 f3 f4 f5⟩
  self := fun _ _ _ _ _ st h => wpAny_pyIter_listiter st h
theorem turn_range {P : Program} {w : World} {K : PySem.W.Frag} {tg : Expr} (it : Addr) (lo : Int) (n : Nat) : Turn P w K tg (Itr lo n) [it] it (fun i h => IsRangeIter h it (lo + (i : Nat) * 1) ((n : Int) - (i : Nat)) 1) where
  mem := by simp
  obj := fun i h st b hb => by
    have e : b = it := by simpa using hb
    subst e
    exact ⟨_, st, fun v z => by
      have z' : Data.fields _ = Data.cell v := z
      cases z'⟩
  keep := fun i h h' st k => k it (by simp) _ st
  item := by
    intro X hP hw hK hc i pins s σ H E I hf st hg
    subst hP hw hK
    obtain ⟨f0, f1, f2, f3, f4, f5⟩ := hf it (by simp)
    have W := Walks.range (prog := X.prog) (w := X.w) (I.ok.hd hc) it lo 1 n
    refine W.item i s _ _ hg st fun v h' tk hv st' kk => ?_
    obtain ⟨t, rfl⟩ := hv
    have I1 : Inv X pins σ H { s with heap := h', toks := tk } := I.turned (fun b o hb e => kk b o (by simpa using hb) e) f0 f1 f3 f4 f5
    refine ⟨_, rfl, go_of (s := { s with heap := h', toks := tk }) (n := "range_iterator") st' rfl rfl (by decide) ⟨.int (lo + i), H, I1, ⟨t, ?_⟩, ⟨rfl, rfl⟩, st', fun b hb => (hf b hb).1⟩⟩
    rw [Int.mul_one]
  done := by
    intro X hP hw hK hc i pins s σ H E I hf st hg
    subst hP hw hK
    obtain ⟨f0, f1, f2, f3, f4, f5⟩ := hf it (by simp)
    exact wpAny_pyNext_range_end (I.ok.hd hc) st (by have : n ≤ i := hg; omega) fun h' eb => ⟨rfl, I.turned (t' := s.toks) (fun b o hb e => eb b o hb e) f0 f1 f3 f4 f5⟩
  self := fun _ _ _ _ _ st h => wpAny_pyIter_rangeiter st h
end L2
namespace L2
open PySem PySem.Spec PyProof.Rows
section
variable {X : Cx} {tg : Expr}
inductive IListR (K : PySem.W.Frag) (R : It → Hp → Prop) (x : V) (H1 : Hp) : Prop
  | mk (a : _) (h0 : x = .ref a) (h1 : (∃ xs, SqL K H1 a xs)) (h2 : R (Itl K a) H1) : IListR K R x H1
noncomputable def iList (K : PySem.W.Frag) (tl : TE) : TI := fun σ H R => tl σ H (IListR K R)
theorem pi_list {l : Expr} {tl : TE} (hl : PE X l tl) : PI X tg l (iList X.K tl) := by
  intro pins s σ H R I h
  refine thn (hl pins s σ H _ I h) fun v s1 ⟨x, H1, I1, r1, q1⟩ => ?_
  obtain ⟨a, e, ⟨xs, hq⟩, q⟩ := q1
  subst e
  cases r1
  obtain ⟨its, rv, p, hz⟩ := I1.list hq
  refine wpAny_pyIter_list p.isList ?_
  refine ⟨s1.heap.objs.size, [s1.heap.objs.size], _, _, H1, rfl, I1.kept (t' := s1.toks) fun b o e => Heap.get?_push_of_some _ e, turn_list a _, ⟨_, Heap.get?_push_size _ rfl, rfl, rfl⟩, fun b hb => ?_, q⟩
  have e : b = s1.heap.objs.size := by simpa using hb
  subst e
  exact I1.fpOk (Nat.le_refl _) (I1.hok.fresh (Nat.le_refl _))
theorem range_it {pins : List (Addr × Obj)} {σ : St} {H : Hp} {s : Shared} {R : It → Hp → Prop} {E : Value → Shared → Prop} {lo hi : Int} {t u v : Tok} {tk : Nat} (I : Inv X pins σ H s) (h1 : -(2 ^ 62) ≤ lo) (h2 : lo < 2 ^ 62) (h3 : -(2 ^ 62) ≤ hi) (h4 : hi < 2 ^ 62)
    (q : R (Itr lo (hi - lo).toNat) H) : wpAny (model X.prog X.w) X.A (pyIter (.ref s.heap.objs.size)) (PIE X pins σ tg R) E { s with heap := s.heap.push { cls := .type "range", data := .fields #[.int lo t, .int hi u, .int 1 v] }, toks := tk } := by
  refine wpAny_pyIter_range (IsRange.new ..) (small_one h1 h2 h3 h4) ?_
  have I1 : Inv X pins σ H { s with heap := s.heap.push { cls := .type "range", data := .fields #[.int lo t, .int hi u, .int 1 v] }, toks := tk } := I.kept fun b o e => Heap.get?_push_of_some _ e
  refine ⟨(s.heap.push { cls := .type "range", data := .fields #[.int lo t, .int hi u, .int 1 v] }).objs.size, [(s.heap.push { cls := .type "range", data := .fields #[.int lo t, .int hi u, .int 1 v] }).objs.size], _, _, H, rfl,
    I1.kept (t' := tk) fun b o e => Heap.get?_push_of_some _ e, turn_range _ lo (hi - lo).toNat, ?_, fun b hb => ?_, q⟩
  · have e1 : lo + ((0 : Nat) : Int) * 1 = lo := by simp
    have e2 : (((hi - lo).toNat : Nat) : Int) - ((0 : Nat) : Int) = Builtin.Range.rangeSize lo hi 1 := by rw [rangeSize_one]; split <;> omega
    show IsRangeIter _ _ (lo + ((0 : Nat) : Int) * 1) ((((hi - lo).toNat : Nat) : Int) - ((0 : Nat) : Int)) 1
    rw [e1, e2]
    exact Heap.get?_push_size _ rfl
  · have e : b = (s.heap.push { cls := .type "range", data := .fields #[.int lo t, .int hi u, .int 1 v] }).objs.size := by simpa using hb
    subst e
    exact I1.fpOk (Nat.le_refl _) (I1.hok.fresh (Nat.le_refl _))
inductive IRng1R (R : It → Hp → Prop) (vs : List V) (H1 : Hp) : Prop
  | mk (j : Int) (h0 : vs = [.int j]) (h1 : -(2 ^ 62) ≤ j) (h2 : j < 2 ^ 62) (h3 : R (Itr 0 j.toNat) H1) : IRng1R R vs H1
noncomputable def iRng1 (ta : TA) : TI := fun σ H R => ta σ H (IRng1R R)
inductive IRng2R (R : It → Hp → Prop) (vs : List V) (H1 : Hp) : Prop
  | mk (i j : Int) (h0 : vs = [.int i, .int j]) (h1 : (-(2 ^ 62) ≤ i ∧ i < 2 ^ 62 ∧ -(2 ^ 62) ≤ j ∧ j < 2 ^ 62)) (h2 : R (Itr i (j - i).toNat) H1) : IRng2R R vs H1
noncomputable def iRng2 (ta : TA) : TI := fun σ H R => ta σ H (IRng2R R)
theorem pi_range1 {a : Expr} {ta : TA} {p pos : Pos} (hg : Gl X "range") (hm : X.mg "range" = none) (ha : PA X [a] ta) (hs : starEach [a] X.env = [(false, eval a X.env)] := by rfl) : PI X tg (.Call (.Name "range" p) [a] [] pos) (iRng1 ta) := by
  intro pins s σ H R I h
  refine Call_ (ld_blt I hg hm boot_range (PyProof.Rows.callWith_type1 (thn (ha pos pins s σ H _ I h) fun us s1 ⟨vs, H1, I1, r1, q1⟩ => ?_) hs rfl))
  obtain ⟨j, e, q1, q2, q⟩ := q1
  subst e
  cases r1 with
  | cons r rr =>
    cases rr
    obtain ⟨t, rfl⟩ := r
    exact call_range_1 (range_it I1 (by omega) (by omega) q1 q2 (by simpa using q))
theorem pi_range2 {a b : Expr} {ta : TA} {p pos : Pos} (hg : Gl X "range") (hm : X.mg "range" = none) (ha : PA X [a, b] ta) (hs : starEach [a, b] X.env = [(false, eval a X.env), (false, eval b X.env)] := by rfl) (hs2 : starEach [b] X.env = [(false, eval b X.env)] := by rfl) :
    PI X tg (.Call (.Name "range" p) [a, b] [] pos) (iRng2 ta) := by
  intro pins s σ H R I h
  refine Call_ (ld_blt I hg hm boot_range (PyProof.Rows.callWith_type1 (thn (ha pos pins s σ H _ I h) fun us s1 ⟨vs, H1, I1, r1, q1⟩ => ?_) (by rw [hs, hs2]) (by rw [hs2]; rfl)))
  obtain ⟨i, j, e, ⟨q1, q2, q3, q4⟩, q⟩ := q1
  subst e
  cases r1 with
  | cons r rr =>
    cases rr with
    | cons r' rr =>
      cases rr
      obtain ⟨t, rfl⟩ := r
      obtain ⟨t', rfl⟩ := r'
      exact call_range_2 (range_it I1 q1 q2 q3 q4 q)
noncomputable def tFor (wi : TI) (g : TG) (tb : TS) : TS := fun D σ H => wi σ H fun J H1 => ∃ W : Nat → Nat → St → Hp → Prop, (∃ m, W 0 m σ H1) ∧ ∀ i m σ H, W i m σ H →
  (J.stop i H ∧ D.nx σ H) ∨ (J.go i H ∧ ∃ N : St → Hp → Prop, (∀ σ' H', N σ' H' → ∃ m', m' < m ∧ W (i + 1) m' σ' H') ∧ ∀ x H', J.yld i H x H' → g x σ H' fun σ2 H2 => tb { D with nx := N, ct := N, bk := D.nx } σ2 H2)
noncomputable def pinsAt (fp : List Addr) (h : Heap) : List (Addr × Obj) := fp.filterMap fun b => (h.get? b).map fun o => (b, o)
theorem mem_pinsAt {fp : List Addr} {h : Heap} {b : Addr} {o : Obj} (hb : b ∈ fp) (e : h.get? b = some o) : (b, o) ∈ pinsAt fp h := List.mem_filterMap.mpr ⟨b, hb, by rw [e]; rfl⟩
theorem of_pinsAt {fp : List Addr} {h : Heap} {p : Addr × Obj} (hp : p ∈ pinsAt fp h) : p.1 ∈ fp ∧ h.get? p.1 = some p.2 := by
  obtain ⟨b, hb, e⟩ := List.mem_filterMap.mp hp
  cases q : h.get? b with
  | none => rw [q] at e; cases e
  | some o =>
    rw [q] at e
    have e' : (b, o) = p := Option.some.inj e
    subst e'
    exact ⟨hb, q⟩
theorem Inv.pinned {pins : List (Addr × Obj)} {σ : St} {H : Hp} {s : Shared} {fp : List Addr} (I : Inv X pins σ H s) (hf : ∀ b ∈ fp, FpOk X pins H b) (ho : ∀ b ∈ fp, ∃ o, s.heap.get? b = some o ∧ ∀ v, o.data ≠ .cell v) : Inv X (pins ++ pinsAt fp s.heap) σ H s :=
  I.pins_of fun p hp => (List.mem_append.mp hp).elim (fun z => I.pin p (List.mem_append_right _ z)) fun z => by
    obtain ⟨hb, e⟩ := of_pinsAt z
    obtain ⟨f0, f1, f2, _⟩ := hf p.1 hb
    obtain ⟨o, e', d⟩ := ho p.1 hb
    rw [e] at e'; cases e'
    exact ⟨e, f0, f1, f2, d⟩
theorem Inv.unpinned {pins pl : List (Addr × Obj)} {σ : St} {H : Hp} {s : Shared} (I : Inv X (pins ++ pl) σ H s) : Inv X pins σ H s := I.pins_of fun p hp => I.pin p (List.mem_append_right _ (List.mem_append_left _ hp))
theorem ps_for {iter : Expr} {body : List Stmt} {wi : TI} {g : TG} {tb : TS} {pos : Pos} (hp : PassesOwn (model X.prog X.w) X.A X.env X.xe) (hc : X.calm = true) (hi : PI X tg iter wi) (hg : PG X tg g) (hb : PSs X body tb)
    (hs : ∀ x, foldedSetIterable iter X.env x = pure x := by intro _; rfl) : PS X (.For tg iter body [] pos) (tFor wi g tb) := by
  intro pins s σ H D I h
  refine wpAny_For (thn (hi pins s σ H _ I h) fun v s1 h1 => thn h1 fun itv s2 h2 => ?_) hs
  obtain ⟨it, fp, tn, J, H2, e, I2, T, st2, f2, W, ⟨m0, w0⟩, turn⟩ := h2
  subst e
  -- what stays true of the iterator's objects through the loop
  have stat : ∀ {H' : Hp}, (∀ b ∈ fp, H' b = none) → ∀ b ∈ fp, FpOk X pins H' b := fun hn b hb => ⟨hn b hb, (f2 b hb).2⟩
  refine codeAny_forLoop_any (fun n s' => ∃ i σ' H', Inv X pins σ' H' s' ∧ tn i s'.heap ∧ (∀ b ∈ fp, H' b = none) ∧ W i n σ' H') ?_ m0 ⟨0, σ, H2, I2, st2, fun b hb => (f2 b hb).1, w0⟩
  rintro n s3 ⟨i, σ3, H3, I3, st3, fr3, w3⟩
  rcases turn i n σ3 H3 w3 with ⟨stop, qn⟩ | ⟨go, N, hN, step⟩
  · refine wpAny_passesOwn hp (thn (T.done X rfl rfl rfl hc i pins s3 σ3 H3 X.xe I3 (stat fr3) st3 stop) fun r s4 ⟨hr, I4⟩ => ?_)
    subst hr
    exact wpAny_execs_nil ⟨σ3, H3, I4, qn⟩
  · refine wpAny_passesOwn hp (thn (T.item X rfl rfl rfl hc i pins s3 σ3 H3 X.xe I3 (stat fr3) st3 go) fun r s4 ⟨u, hr, h4⟩ => ?_)
    subst hr
    refine wpAny_passesOwn hp (thn h4 fun _ s5 ⟨x, H5, I5, r5, y5, st5, fr5⟩ => ?_)
    have I5' := I5.pinned (stat fr5) (T.obj _ _ st5)
    refine wpAny_passesOwn hp (thn (hg _ s5 σ3 H5 x u _ I5' r5 (step x H5 y5)) fun _ s6 ⟨σ6, H6, I6, q6⟩ => ?_)
    refine wpAny_passesOwn hp (thn (hb _ s6 σ6 H6 _ I6 q6) fun f s7 q7 => ?_)
    have again : ∀ {σ7 : St} {H7 : Hp}, Inv X (pins ++ pinsAt fp s5.heap) σ7 H7 s7 → N σ7 H7 → ∃ m, m < n ∧ ∃ i σ' H', Inv X pins σ' H' s7 ∧ tn i s7.heap ∧ (∀ b ∈ fp, H' b = none) ∧ W i m σ' H' := fun {σ7 H7} I7 n7 => by
      obtain ⟨m', hm, w7⟩ := hN σ7 H7 n7
      refine ⟨m', hm, i + 1, σ7, H7, I7.unpinned, T.keep _ _ _ st5 fun b hb o e => (I7.pin (b, o) (List.mem_append_right _ (List.mem_append_right _ (mem_pinsAt hb e)))).1, fun b hb => ?_, w7⟩
      obtain ⟨o, e, d⟩ := T.obj _ _ st5 b hb
      exact (I7.pin (b, o) (List.mem_append_right _ (List.mem_append_right _ (mem_pinsAt hb e)))).2.1
    cases f with
    | next => obtain ⟨σ7, H7, I7, n7⟩ := q7; exact again I7 n7
    | cont => obtain ⟨σ7, H7, I7, n7⟩ := q7; exact again I7 n7
    | brk => obtain ⟨σ7, H7, I7, q7⟩ := q7; exact ⟨σ7, H7, I7.unpinned, q7⟩
    | ret v => obtain ⟨x7, σ7, H7, I7, r7, q7⟩ := q7; exact ⟨x7, σ7, H7, I7.unpinned, r7, q7⟩
end
theorem for_list {K : PySem.W.Frag} {a : Addr} {xs : List V} {g : TG} {tb : TS} {D : Ends} {σ : St} {H : Hp} (Pv : Nat → St → Hp → Prop) (h0 : Pv 0 σ H) (hl : ∀ i σ H, i ≤ xs.length → Pv i σ H → SqL K H a xs)
    (hs : ∀ i x σ H, xs[i]? = some x → Pv i σ H → g x σ H fun σ2 H2 => tb { D with nx := Pv (i + 1), ct := Pv (i + 1), bk := D.nx } σ2 H2) (hd : ∀ σ H, Pv xs.length σ H → D.nx σ H) :
    ∃ W : Nat → Nat → St → Hp → Prop, (∃ m, W 0 m σ H) ∧ ∀ i m σ H, W i m σ H →
      ((Itl K a).stop i H ∧ D.nx σ H) ∨ ((Itl K a).go i H ∧ ∃ N : St → Hp → Prop, (∀ σ' H', N σ' H' → ∃ m', m' < m ∧ W (i + 1) m' σ' H') ∧ ∀ x H', (Itl K a).yld i H x H' → g x σ H' fun σ2 H2 => tb { D with nx := N, ct := N, bk := D.nx } σ2 H2) := by
  refine ⟨fun i m σ H => m = xs.length - i ∧ i ≤ xs.length ∧ Pv i σ H, ⟨xs.length, by simp, Nat.zero_le _, h0⟩, ?_⟩
  rintro i m σ H ⟨rfl, hi, p⟩
  have q := hl i σ H hi p
  by_cases hlt : i < xs.length
  · refine .inr ⟨⟨xs, xs[i], q, by simp [hlt]⟩, Pv (i + 1), fun σ' H' p' => ⟨xs.length - (i + 1), by omega, rfl, hlt, p'⟩, fun x H' y => ?_⟩
    obtain ⟨e, y⟩ := y
    subst e
    exact hs i x σ _ (y xs q) p
  · have e : i = xs.length := by omega
    subst e
    exact .inl ⟨⟨xs, q, Nat.le_refl _⟩, hd σ H p⟩
theorem for_range {lo : Int} {n : Nat} {g : TG} {tb : TS} {D : Ends} {σ : St} {H : Hp} (Pv : Nat → St → Hp → Prop) (h0 : Pv 0 σ H)
    (hs : ∀ i σ H, i < n → Pv i σ H → g (.int (lo + i)) σ H fun σ2 H2 => tb { D with nx := Pv (i + 1), ct := Pv (i + 1), bk := D.nx } σ2 H2) (hd : ∀ σ H, Pv n σ H → D.nx σ H) :
    ∃ W : Nat → Nat → St → Hp → Prop, (∃ m, W 0 m σ H) ∧ ∀ i m σ H, W i m σ H →
      ((Itr lo n).stop i H ∧ D.nx σ H) ∨ ((Itr lo n).go i H ∧ ∃ N : St → Hp → Prop, (∀ σ' H', N σ' H' → ∃ m', m' < m ∧ W (i + 1) m' σ' H') ∧ ∀ x H', (Itr lo n).yld i H x H' → g x σ H' fun σ2 H2 => tb { D with nx := N, ct := N, bk := D.nx } σ2 H2) := by
  refine ⟨fun i m σ H => m = n - i ∧ i ≤ n ∧ Pv i σ H, ⟨n, by simp, Nat.zero_le _, h0⟩, ?_⟩
  rintro i m σ H ⟨rfl, hi, p⟩
  by_cases hlt : i < n
  · refine .inr ⟨hlt, Pv (i + 1), fun σ' H' p' => ⟨n - (i + 1), by omega, rfl, hlt, p'⟩, fun x H' y => ?_⟩
    obtain ⟨e, y⟩ := y
    subst e y
    exact hs i σ _ hlt p
  · have e : i = n := by omega
    subst e
    exact .inl ⟨Nat.le_refl _, hd σ H p⟩
end L2
namespace L2
open PySem PySem.Spec PyProof.Rows
noncomputable abbrev R2 := V → V → Hp → VK → Prop
noncomputable def OpR (X : Cx) (f : Value → Value → Sem Value) (r : R2) : Prop :=
  ∀ (pins : List (Addr × Obj)) (s : Shared) (σ : St) (H : Hp) (x y : V) (v u : Value) (Q : VK), Inv X pins σ H s → RelV x v → RelV y u → r x y H Q →
    wpAny (model X.prog X.w) X.A (f v u) (EP X pins σ Q) X.xe s
noncomputable def UnR (X : Cx) (f : Value → Sem Value) (r : V → Hp → VK → Prop) : Prop :=
  ∀ (pins : List (Addr × Obj)) (s : Shared) (σ : St) (H : Hp) (x : V) (v : Value) (Q : VK), Inv X pins σ H s → RelV x v → r x H Q →
    wpAny (model X.prog X.w) X.A (f v) (EP X pins σ Q) X.xe s
noncomputable def CallR (X : Cx) (f : Value) (r : List V → Hp → VK → Prop) : Prop :=
  ∀ (pins : List (Addr × Obj)) (s : Shared) (σ : St) (H : Hp) (xs : List V) (us : List Value) (Q : VK), Inv X pins σ H s → Vals xs us → r xs H Q →
    wpAny (model X.prog X.w) X.A (call f us) (EP X pins σ Q) X.xe s
noncomputable def tOp3 (r : R2) (x : V) (Q : VK) : VK := fun y H2 => r x y H2 Q
noncomputable def tOp2 (r : R2) (tb : TE) (σ : St) (Q : VK) : VK := fun x H1 => tb σ H1 (tOp3 r x Q)
noncomputable def tOp (r : R2) (ta tb : TE) : TE := fun σ H Q => ta σ H (tOp2 r tb σ Q)
noncomputable def tUn2 (r : V → Hp → VK → Prop) (Q : VK) : VK := fun x H1 => r x H1 Q
noncomputable def tUn (r : V → Hp → VK → Prop) (ta : TE) : TE := fun σ H Q => ta σ H (tUn2 r Q)
inductive RIR (C : Int → Int → Prop) (g : Int → Int → V) (x : V) (y : V) (H : Hp) (Q : VK) : Prop
  | mk (i j : _) (h0 : x = .int i) (h1 : y = .int j) (h2 : C i j) (h3 : Q (g i j) H) : RIR C g x y H Q
noncomputable def rI (C : Int → Int → Prop) (g : Int → Int → V) : R2 := fun x y H Q => RIR C g x y H Q
inductive RI0R (g : Int → Int → V) (x : V) (y : V) (H : Hp) (Q : VK) : Prop
  | mk (i j : _) (h0 : x = .int i) (h1 : y = .int j) (h2 : Q (g i j) H) : RI0R g x y H Q
noncomputable def rI0 (g : Int → Int → V) : R2 := fun x y H Q => RI0R g x y H Q
inductive RUR (g : Int → V) (x : V) (H : Hp) (Q : VK) : Prop
  | mk (i : _) (h0 : x = .int i) (h1 : Q (g i) H) : RUR g x H Q
noncomputable def rU (g : Int → V) : V → Hp → VK → Prop := fun x H Q => RUR g x H Q
section
variable {X : Cx} {a b c : Expr} {ta tb tc : TE} {pos : Pos}
theorem binT (ha : PE X a ta) (hb : PE X b tb) {pins : List (Addr × Obj)} {s : Shared} {σ : St} {H : Hp} {R : V → V → Hp → Prop} (I : Inv X pins σ H s)
    (h : ta σ H fun x H1 => tb σ H1 fun y H2 => R x y H2) {Q : Value → Shared → Prop} {f : Value → Value → Sem Value}
    (hf : ∀ v u s2 x y H2, Inv X pins σ H2 s2 → RelV x v → RelV y u → R x y H2 → wpAny (model X.prog X.w) X.A (f v u) Q X.xe s2) :
    wpAny (model X.prog X.w) X.A (eval a X.env) (fun v s₁ => wpAny (model X.prog X.w) X.A (eval b X.env) (fun u s₂ => wpAny (model X.prog X.w) X.A (f v u) Q X.xe s₂) X.xe s₁) X.xe s := by
  refine thn (ha pins s σ H _ I h) fun v s1 ⟨x, H1, I1, r1, q1⟩ => ?_
  refine thn (hb pins s1 σ H1 _ I1 q1) fun u s2 ⟨y, H2, I2, r2, q2⟩ => ?_
  exact hf v u s2 x y H2 I2 r1 r2 q2
theorem pe_op {op : Operator} {r : R2} (ho : OpR X (binaryOp op) r) (ha : PE X a ta) (hb : PE X b tb) : PE X (.BinOp a op b pos) (tOp r ta tb) := by
  intro pins s σ H Q I h
  exact wpAny_BinOp (binT ha hb I h fun v u s2 x y H2 I2 rx ry q => ho pins s2 σ H2 x y v u Q I2 rx ry q)
theorem pe_un {op : UnaryOp} {r : V → Hp → VK → Prop} (ho : UnR X (unaryOp op) r) (ha : PE X a ta) : PE X (.UnaryOp op a pos) (tUn r ta) := by
  intro pins s σ H Q I h
  exact UnaryOp_ (thn (ha pins s σ H _ I h) fun v s1 ⟨x, H1, I1, r1, q1⟩ => ho pins s1 σ H1 x v Q I1 r1 q1)
theorem opI {f : Value → Value → Sem Value} {C : Int → Int → Prop} {g : Int → Int → Int}
    (rule : ∀ (i j : Int) (t u : Tok) (s : Shared) (Q : Value → Shared → Prop) (E : Value → Shared → Prop), C i j → Q (.int (g i j) s.toks) { s with toks := s.toks + 1 } → wpAny (model X.prog X.w) X.A (f (.int i t) (.int j u)) Q E s) :
    OpR X f (rI C fun i j => .int (g i j)) := by
  intro pins s σ H x y v u Q I rx ry h
  obtain ⟨i, j, rfl, rfl, hc, q⟩ := h
  obtain ⟨t, rfl⟩ := rx
  obtain ⟨t', rfl⟩ := ry
  exact rule i j t t' s _ _ hc ⟨.int (g i j), H, I.tok _, ⟨_, rfl⟩, q⟩
theorem opI0 {f : Value → Value → Sem Value} {g : Int → Int → Int}
    (rule : ∀ (i j : Int) (t u : Tok) (s : Shared) (Q : Value → Shared → Prop) (E : Value → Shared → Prop), Q (.int (g i j) s.toks) { s with toks := s.toks + 1 } → wpAny (model X.prog X.w) X.A (f (.int i t) (.int j u)) Q E s) :
    OpR X f (rI0 fun i j => .int (g i j)) := by
  intro pins s σ H x y v u Q I rx ry h
  obtain ⟨i, j, rfl, rfl, q⟩ := h
  obtain ⟨t, rfl⟩ := rx
  obtain ⟨t', rfl⟩ := ry
  exact rule i j t t' s _ _ ⟨.int (g i j), H, I.tok _, ⟨_, rfl⟩, q⟩
theorem opB0 {f : Value → Value → Sem Value} {g : Int → Int → Bool}
    (rule : ∀ (i j : Int) (t u : Tok) (s : Shared) (Q : Value → Shared → Prop) (E : Value → Shared → Prop), Q (.bool (g i j)) s → wpAny (model X.prog X.w) X.A (f (.int i t) (.int j u)) Q E s) :
    OpR X f (rI0 fun i j => .bl (g i j)) := by
  intro pins s σ H x y v u Q I rx ry h
  obtain ⟨i, j, rfl, rfl, q⟩ := h
  obtain ⟨t, rfl⟩ := rx
  obtain ⟨t', rfl⟩ := ry
  exact rule i j t t' s _ _ ⟨.bl (g i j), H, I, rfl, q⟩
noncomputable def CPow (i j : Int) : Prop := 0 ≤ j ∧ j ≤ 1000000 ∧ i.natAbs < 2 ^ 64
noncomputable def CMul (i j : Int) : Prop := (-(2 ^ 64) < i ∧ i < 2 ^ 64) ∨ (-(2 ^ 64) < j ∧ j < 2 ^ 64)
theorem CMul.ok {i j : Int} (h : CMul i j) : IntMulOk i j := by
  rcases h with ⟨h1, h2⟩ | ⟨h1, h2⟩
  · exact .of_left (intBits_le_64 h1 h2)
  · exact .of_right (intBits_le_64 h1 h2)
theorem op_add : OpR X (binaryOp .Add) (rI0 fun i j => .int (i + j)) := opI0 fun _ _ _ _ _ _ _ q => add_int q
theorem op_sub : OpR X (binaryOp .Sub) (rI0 fun i j => .int (i - j)) := opI0 fun _ _ _ _ _ _ _ q => sub_int q
theorem op_mul : OpR X (binaryOp .Mult) (rI CMul fun i j => .int (i * j)) := opI fun _ _ _ _ _ _ _ hc q => mul_int q hc.ok
theorem op_shl : OpR X (binaryOp .LShift) (rI CPow fun i j => .int (i * 2 ^ j.toNat)) := opI fun _ _ _ _ _ _ _ hc q => lshift_int_small hc.1 hc.2.1 hc.2.2 q
theorem op_or : OpR X (binaryOp .BitOr) (rI0 fun i j => .int (Builtin.bitOr i j)) := opI0 fun _ _ _ _ _ _ _ q => or_int q
theorem unI {f : Value → Sem Value} {g : Int → Int}
    (rule : ∀ (i : Int) (t : Tok) (s : Shared) (Q : Value → Shared → Prop) (E : Value → Shared → Prop), Q (.int (g i) s.toks) { s with toks := s.toks + 1 } → wpAny (model X.prog X.w) X.A (f (.int i t)) Q E s) :
    UnR X f (rU fun i => .int (g i)) := by
  intro pins s σ H x v Q I rx h
  obtain ⟨i, rfl, q⟩ := h
  obtain ⟨t, rfl⟩ := rx
  exact rule i t s _ _ ⟨.int (g i), H, I.tok _, ⟨_, rfl⟩, q⟩
theorem un_neg : UnR X (unaryOp .USub) (rU fun i => .int (-i)) := unI fun _ _ _ _ _ q => neg_int q
end
noncomputable def scal : V → V → Bool
  | .int _, .int _ => true
  | _, _ => false
theorem scal_int {x y : V} (h : scal x y = true) : ∃ i j, x = .int i ∧ y = .int j := by
  cases x with
  | int i =>
    cases y with
    | int j => exact ⟨i, j, rfl, rfl⟩
    | _ => exact absurd h Bool.false_ne_true
  | _ => exact absurd h Bool.false_ne_true
noncomputable def rEq : R2 := fun x y H Q => scal x y = true ∧ Q (.bl (decide (x = y))) H
noncomputable def rNe : R2 := fun x y H Q => scal x y = true ∧ Q (.bl (!decide (x = y))) H
theorem dec_int {i j : Int} : decide (V.int i = V.int j) = (i == j) := by
  rw [Bool.eq_iff_iff]
  simp
section
variable {X : Cx} {a b c : Expr} {ta tb tc : TE} {pos : Pos}
theorem fin_bl {pins : List (Addr × Obj)} {σ : St} {H : Hp} {s : Shared} {Q : VK} {k k' : Bool} (I : Inv X pins σ H s) (q : Q (.bl k) H) (e : k = k') : EP X pins σ Q (.bool k') s := by
  subst e
  exact ⟨.bl k, H, I, rfl, q⟩
theorem op_eq : OpR X (compareOp .Eq) rEq := by
  intro pins s σ H x y v u Q I rx ry h
  obtain ⟨hs, q⟩ := h
  obtain ⟨i, j, rfl, rfl⟩ := scal_int hs
  obtain ⟨t, rfl⟩ := rx
  obtain ⟨t', rfl⟩ := ry
  exact eq_int (fin_bl I q dec_int)
theorem op_ne : OpR X (compareOp .NotEq) rNe := by
  intro pins s σ H x y v u Q I rx ry h
  obtain ⟨hs, q⟩ := h
  obtain ⟨i, j, rfl, rfl⟩ := scal_int hs
  obtain ⟨t, rfl⟩ := rx
  obtain ⟨t', rfl⟩ := ry
  exact ne_int (fin_bl I q (congrArg not dec_int))
theorem op_lt : OpR X (compareOp .Lt) (rI0 fun i j => .bl (decide (i < j))) := opB0 fun _ _ _ _ _ _ _ q => lt_int q
theorem op_le : OpR X (compareOp .LtE) (rI0 fun i j => .bl (decide (i ≤ j))) := opB0 fun _ _ _ _ _ _ _ q => le_int q
theorem op_gt : OpR X (compareOp .Gt) (rI0 fun i j => .bl (decide (j < i))) := opB0 fun _ _ _ _ _ _ _ q => gt_int q
theorem op_ge : OpR X (compareOp .GtE) (rI0 fun i j => .bl (decide (j ≤ i))) := opB0 fun _ _ _ _ _ _ _ q => ge_int q
theorem op_notN : OpR X (compareOp .IsNot) (fun x y H Q => y = .non ∧ Q (.bl (!decide (x = .non))) H) := by
  intro pins s σ H x y v u Q I rx ry h
  obtain ⟨rfl, q⟩ := h
  cases ry
  refine isnot_none_gen (fin_bl I q ?_)
  cases x <;> first
    | (cases rx; rfl)
    | (obtain ⟨t, rfl⟩ := rx; rfl)
theorem nomark (b : Expr) {op : CmpOp} (h : op ≠ .In := by decide) (h2 : op ≠ .NotIn := by decide) : behindInMarks op b = false := by
  have e1 : (op == CmpOp.In) = false := by cases op <;> first | rfl | exact absurd rfl h
  have e2 : (op == CmpOp.NotIn) = false := by cases op <;> first | rfl | exact absurd rfl h2
  cases b <;> simp [behindInMarks, e1, e2]
theorem pe_cmpR {op : CmpOp} {r : R2} (ho : OpR X (compareOp op) r) (ha : PE X a ta) (hb : PE X b tb) (hm : behindInMarks op b = false) : PE X (.Compare a [op] [b] pos) (tOp r ta tb) := by
  intro pins s σ H Q I h
  exact wpAny_Compare1 (binT ha hb I h fun v u s2 x y H2 I2 rx ry q => ho pins s2 σ H2 x y v u Q I2 rx ry q) hm
inductive TTestR (Q : Bool → Hp → Prop) (x : V) (H' : Hp) : Prop
  | mk (k : _) (h0 : x = .bl k) (h1 : Q k H') : TTestR Q x H'
noncomputable def tTest (t : TE) : TT := fun σ H Q => t σ H (TTestR Q)
theorem pt_cmpR {op : CmpOp} {r : R2} (ho : OpR X (compareOp op) r) (ha : PE X a ta) (hb : PE X b tb) (hm : behindInMarks op b = false) : PT X (.Compare a [op] [b] pos) (tTest (tOp r ta tb)) := by
  intro pins s σ H Q I h
  refine wpAny_isTrue_Compare1 (thn (ha pins s σ H _ I h) fun v s1 ⟨x, H1, I1, r1, q1⟩ => thn (hb pins s1 σ H1 _ I1 q1) fun u s2 ⟨y, H2, I2, r2, q2⟩ =>
    thn (ho pins s2 σ H2 x y v u _ I2 r1 r2 q2) fun c s3 ⟨z, H3, I3, r3, k, e, q3⟩ => ?_) hm
  subst e
  cases r3
  exact wpAny_truthy_bool ⟨H3, I3, q3⟩
inductive TChainR (r' : R2) (tc : TE) (σ : St) (y : V) (Q : VK) (z : V) (H3 : Hp) : Prop
  | mk (k : _) (h0 : z = .bl k) (h1 : (if k = true then tc σ H3 fun w' H4 => r' y w' H4 Q else Q (.bl false) H3)) : TChainR r' tc σ y Q z H3
noncomputable def tChain (r r' : R2) (ta tb tc : TE) : TE := fun σ H Q => ta σ H fun x H1 => tb σ H1 fun y H2 => r x y H2 (TChainR r' tc σ y Q)
theorem pe_chain {op op' : CmpOp} {r r' : R2} (ho : OpR X (compareOp op) r) (ho' : OpR X (compareOp op') r') (ha : PE X a ta) (hb : PE X b tb) (hc : PE X c tc)
    (hm : lastMarks [op, op'] [b, c] = false := by with_unfolding_all rfl) : PE X (.Compare a [op, op'] [b, c] pos) (tChain r r' ta tb tc) := by
  intro pins s σ H Q I h
  refine Compare_chain (thn (ha pins s σ H _ I h) fun v s1 ⟨x, H1, I1, r1, q1⟩ => chain_link (thn (hb pins s1 σ H1 _ I1 q1) fun u s2 ⟨y, H2, I2, r2, q2⟩ =>
    thn (ho pins s2 σ H2 x y v u _ I2 r1 r2 q2) fun d s3 ⟨z, H3, I3, r3, k, e, q3⟩ => ?_)) hm
  subst e
  cases r3
  refine wpAny_truthy_bool ?_
  cases k with
  | false => exact ite_ff ⟨.bl false, H3, I3, rfl, q3⟩
  | true => exact ite_tt (chain_last (thn (hc pins s3 σ H3 _ I3 q3) fun w' s4 ⟨z', H4, I4, r4, q4⟩ => ho' pins s4 σ H4 y z' u w' Q I4 r2 r4 q4))
theorem line63 : (sizeLine : Nat) < 2 ^ 63 := by rw [sizeLine_eq]; decide
theorem vals1 {x : V} {us : List Value} (r : Vals [x] us) : ∃ u, us = [u] ∧ RelV x u := by
  cases r with
  | cons r1 r2 => cases r2; exact ⟨_, rfl, r1⟩
theorem vals2 {x y : V} {us : List Value} (r : Vals [x, y] us) : ∃ u w', us = [u, w'] ∧ RelV x u ∧ RelV y w' := by
  cases r with
  | cons r1 r2 =>
    cases r2 with
    | cons r3 r4 => cases r4; exact ⟨_, _, rfl, r1, r3⟩
inductive Call_min2R (xs : List V) (H : Hp) (Q : VK) : Prop
  | mk (i j : _) (h0 : xs = [.int i, .int j]) (h1 : Q (.int (if j < i then j else i)) H) : Call_min2R xs H Q
theorem call_min2 (hc : X.calm = true) : CallR X (.builtin "min") (Call_min2R) := by
  intro pins s σ H xs us Q I r h
  obtain ⟨i, j, rfl, q⟩ := h
  obtain ⟨u, w', rfl, ⟨t, rfl⟩, ⟨t', rfl⟩⟩ := vals2 r
  refine min_two_ints (I.ok.hd hc) fun h' tk k => ⟨_, H, I.kept k, ?_, q⟩
  by_cases hj : j < i
  · rw [if_pos hj, if_pos hj]; exact ⟨_, rfl⟩
  · rw [if_neg hj, if_neg hj]; exact ⟨_, rfl⟩
end
end L2
namespace L2
open PySem PySem.Spec PyProof.Rows
structure ObjM (h : Heap) (x dx C : Addr) (mA : Str → Option Value) : Prop where
  obj : h.get? x = some (PySem.W.instObj C dx)
  ns : h.Ns1 dx mA
  ne : dx ≠ x
theorem lookIn_ns {h : Heap} {dx : Addr} {mA : Str → Option Value} (n : h.Ns1 dx mA) : ∃ od, h.get? dx = some od ∧ ∀ name, PySem.W.lookIn name od = some (mA name) := by
  obtain ⟨o, es, ep, ho, hd, hk, _, hm⟩ := n
  refine ⟨o, ho, fun name => ?_⟩
  have e := hm name
  unfold nsFind findBy at e
  rw [← Array.find?_toList] at e
  unfold PySem.W.lookIn
  rw [hd]
  dsimp only
  split
  · rename_i y q
    rw [q] at e
    exact congrArg some e
  · rename_i q
    rw [q] at e
    have a : es.toList.any (·.refKey) = false := by
      rw [List.any_eq_false]
      intro y hy
      obtain ⟨z, t, hkey⟩ := hk y (Array.mem_toList_iff.mp hy)
      simp [DictEntry.refKey, hkey]
    have a' : ¬ es.toList.any (·.refKey) = true := by rw [a]; exact Bool.false_ne_true
    rw [if_neg a']
    exact congrArg some e
theorem ObjM.look {h : Heap} {x dx C : Addr} {mA : Str → Option Value} (I : ObjM h x dx C mA) : ∃ od, PySem.W.InstAt h x (PySem.W.instObj C dx) C (some od) ∧ ∀ name, PySem.W.lookIn name od = some (mA name) :=
  let ⟨od, ho, hl⟩ := lookIn_ns I.ns
  ⟨od, ⟨I.obj, rfl, rfl, ho⟩, hl⟩
section
variable {prog : Program} {w : World} {A : Around} {E : Value → Shared → Prop} {s : Shared} {K : PySem.W.Frag} {x dx C f : Addr} {mA : Str → Option Value} {name : Str} {v : Value}
theorem get_map {expr : Bool} {Q : Value → Shared → Prop} (X : K.In s.heap) (I : ObjM s.heap x dx C mA) (hg : PySem.W.plainGet K C name = true) (hh : PySem.W.hasDictIn K C = true)
    (ha : PySem.W.findIn K (.ref C) name = some none) (hv : mA name = some v) (hv' : PySem.W.handedIn v = true) (h : Q v { s with toks := s.toks + 1 }) :
    wpAny (model prog w) A (getAttr (.ref x) name expr) Q E s := by
  obtain ⟨od, J, hl⟩ := I.look
  exact PySem.W.get_value X J (PySem.W.plainGet_of hg).1 (PySem.W.findObj_own hh ha rfl (by rw [hl, hv])) hv' h
theorem get_meth {pl : Sem Bool} {Q : Value × List Value → Shared → Prop} (X : K.In s.heap) (I : ObjM s.heap x dx C mA) (hg : PySem.W.plainGet K C name = true)
    (hf : PySem.W.findIn K (.ref C) name = some (some (.ref f))) (ht : PySem.W.isFn K (.ref f) = true) (hv : mA name = none) (h : Q (.ref f, [.ref x]) s) :
    wpAny (model prog w) A (getMethod (.ref x) name pl) Q E s := by
  obtain ⟨od, J, hl⟩ := I.look
  exact PySem.W.method_fn X J (PySem.W.plainGet_of hg).1 (PySem.W.plainGet_of hg).2 hf (beq_iff_eq.mp ht) (by show (PySem.W.lookIn name od).map (·.isSome) = some false; rw [hl, hv]; rfl) h
theorem set_map {ns : List Str} {Q : Unit → Shared → Prop} (X : K.In s.heap) (I : ObjM s.heap x dx C mA)
    (hs : PySem.W.findIn K (.ref C) "__setattr__" = some (some (.builtin "object.__setattr__"))) (hp : PySem.W.plainOver K C = true) (ht : PySem.W.takerIn K C name = some none) (hh : PySem.W.hasDictIn K C = true)
    (hw : PySem.Within mA ns) (hsz : ns.length ≤ sizeLine)
    (h : ∀ h', ObjM h' x dx C (fun y => if y = name then some v else mA y) → Heap.SameBut dx s.heap h' → Q () { s with heap := h', toks := s.toks + 2 }) :
    wpAny (model prog w) A (setAttr (.ref x) name v) Q E s := by
  obtain ⟨od, J, hl⟩ := I.look
  refine PySem.W.set_plain X J hs (PySem.W.osa_open (s := { s with toks := s.toks + 1 }) (r := none) X J hp ht fun b => ?_)
  obtain ⟨cd, hc, hd'⟩ := PySem.W.any_some hh
  have hx : s.heap.get? x = some ⟨.ref C, some dx, .plain, #[]⟩ := I.obj
  refine wpAny_bind (wpAny_pure (wpAny_bind (wpAny_bind (wpAny_loadPart hx (wpAny_bind (PySem.W.Looks.here (s := { s with toks := s.toks + 1 }) (PySem.W.looks_clsIn X hc) ?_))))))
  rw [hd']
  refine wpAny_pure (a := some dx) (wpAny_bind (wpAny_pure (wpAny_bind ?_)))
  refine wpAny_nsSet1 (s := { s with toks := s.toks + 1 }) I.ns fun h' hn2 hs2 => ?_
  obtain ⟨oD, esD, epD, hoD, hdD, hcD⟩ := hn2.count (PySem.Within.cons name v hw)
  refine wpAny_bind (wpAny_lookBehind hoD (by rw [hdD]; exact pastItsLine_dict (Nat.le_trans hcD (by rw [List.length_cons]; omega))) ?_)
  exact wpAny_pure (h _ ⟨(hs2.2 _ (Ne.symm I.ne)).trans I.obj, hn2, I.ne⟩ hs2)
theorem make_map {R : Result → Shared → Prop} {vs : List Value} {kw : List (Str × Value)} (X : K.In s.heap) (hm : PySem.W.makesIn K C = true)
    (hi : PySem.W.findIn K (.ref C) "__init__" = some (some (.ref f))) (hf : PySem.W.typeIn K (.ref f) = some (.type "function"))
    (h : codeAny (model prog w) (A.under (.builtin "type.__call__" ⟨.ref C :: vs, kw⟩)) (.call (.ref f) ⟨.ref (s.heap.objs.size + 1) :: vs, kw⟩) (PySem.W.InitBack (s.heap.objs.size + 1) R)
      { s with heap := (s.heap.push PySem.W.emptyDict).push (PySem.W.instObj C s.heap.objs.size) }) :
    codeAny (model prog w) A (.call (.ref C) ⟨vs, kw⟩) R s := by
  obtain ⟨hh, g, d, t, os⟩ := s
  exact PySem.W.make_core (PySem.W.makes_of X hm) (PySem.W.looks_findIn X hi) (fun self => PySem.W.bind_fn X self hf) (.inl rfl) h
end
noncomputable def putF (f : Str) (v : V) : List (Str × V) → List (Str × V)
  | [] => [(f, v)]
  | (g, x) :: r => if g = f then (g, v) :: r else (g, x) :: putF f v r
theorem lookup_putF (f g : Str) (v : V) : ∀ fs : List (Str × V), (putF f v fs).lookup g = if g = f then some v else fs.lookup g
  | [] => by
    show List.lookup g [(f, v)] = _
    by_cases h : g = f
    · have hb : (g == f) = true := beq_iff_eq.mpr h
      simp only [List.lookup, hb, if_pos h]
    · have hb : (g == f) = false := beq_eq_false_iff_ne.mpr h
      simp only [List.lookup, hb, if_neg h]
  | (k, x) :: r => by
    have ih := lookup_putF f g v r
    rw [show putF f v ((k, x) :: r) = (if k = f then (k, v) :: r else (k, x) :: putF f v r) from rfl]
    by_cases hk : k = f
    · rw [if_pos hk]
      by_cases h : g = k
      · have hb : (g == k) = true := beq_iff_eq.mpr h
        simp only [List.lookup, hb, if_pos (h.trans hk)]
      · have hb : (g == k) = false := beq_eq_false_iff_ne.mpr h
        simp only [List.lookup, hb, if_neg (fun e : g = f => h (e.trans hk.symm))]
    · rw [if_neg hk]
      by_cases h : g = k
      · have hb : (g == k) = true := beq_iff_eq.mpr h
        simp only [List.lookup, hb, if_neg (fun e : g = f => hk (h.symm.trans e))]
      · have hb : (g == k) = false := beq_eq_false_iff_ne.mpr h
        simp only [List.lookup, hb]
        exact ih
theorem keys_putF (f : Str) (v : V) : ∀ fs : List (Str × V), f ∈ (putF f v fs).map (·.1) ∧ ∀ g, g ∈ fs.map (·.1) → g ∈ (putF f v fs).map (·.1)
  | [] => ⟨by simp [putF], fun g h => by simp at h⟩
  | (k, x) :: r => by
    obtain ⟨i1, i2⟩ := keys_putF f v r
    rw [show putF f v ((k, x) :: r) = (if k = f then (k, v) :: r else (k, x) :: putF f v r) from rfl]
    by_cases hk : k = f
    · rw [if_pos hk]
      subst hk
      exact ⟨by simp, fun g h => by simpa using h⟩
    · rw [if_neg hk]
      refine ⟨?_, fun g h => ?_⟩
      · rw [List.map_cons]
        exact List.mem_cons_of_mem _ i1
      · rw [List.map_cons] at h ⊢
        rcases List.mem_cons.mp h with e | e
        · exact List.mem_cons.mpr (.inl e)
        · exact List.mem_cons_of_mem _ (i2 g e)
theorem length_putF (f : Str) (v : V) : ∀ fs : List (Str × V), (putF f v fs).length ≤ fs.length + 1
  | [] => by simp [putF]
  | (k, x) :: r => by
    have ih := length_putF f v r
    rw [show putF f v ((k, x) :: r) = (if k = f then (k, v) :: r else (k, x) :: putF f v r) from rfl]
    by_cases hk : k = f
    · rw [if_pos hk, List.length_cons, List.length_cons]; omega
    · rw [if_neg hk, List.length_cons, List.length_cons]; omega
theorem RelO.some_of {v : V} {o : Option Value} (r : RelO (some v) o) : ∃ u, o = some u ∧ RelV v u := by
  cases o with
  | none => exact (show False from r).elim
  | some u => exact ⟨u, rfl, r⟩
theorem RelO.none_of {o : Option Value} (r : RelO none o) : o = none := by
  cases o with
  | none => rfl
  | some u => exact (show False from r).elim
theorem handed_of {v : V} {u : Value} (r : RelV v u) : PySem.W.handedIn u = true := by
  cases v with
  | non => cases (show u = Value.none from r); rfl
  | bl b => cases (show u = Value.bool b from r); rfl
  | int i => obtain ⟨t, e⟩ := (show ∃ t, u = Value.int i t from r); cases e; rfl
  | str x => obtain ⟨t, e⟩ := (show ∃ t, u = Value.str x t from r); cases e; rfl
  | byt b => obtain ⟨t, e⟩ := (show ∃ t, u = Value.bytes b t from r); cases e; rfl
  | flt b => obtain ⟨t, e⟩ := (show ∃ t, u = Value.float b t from r); cases e; rfl
  | ref a => cases (show u = Value.ref a from r); rfl
  | ty n => cases (show u = Value.type n from r); rfl
section
variable {P : Program} {w : World} {H H' : Hp} {h h' : Heap} {a C dx : Addr} {fs fs' : List (Str × V)}
theorem ins_get (hok : HOk P w H h) (e : H a = some (.ins C dx fs)) : ∃ mA, ObjM h a dx C mA ∧ (∀ f, RelO (fs.lookup f) (mA f)) ∧ PySem.Within mA (fs.map (·.1)) ∧ fs.length ≤ 1000 ∧ H dx = some (.own a) := by
  obtain ⟨d, z, ne, ob, mA, n, r, q⟩ := (show ObjOk P w H h a (.ins C dx fs) from hok a _ e)
  exact ⟨mA, ⟨ob, n, ne⟩, r, q, z, d⟩
end
structure Cls (K : PySem.W.Frag) (C : Addr) : Prop where
  pg : PySem.W.plainGet K C Str.empty = true
  hd : PySem.W.hasDictIn K C = true
  po : PySem.W.plainOver K C = true
  sa : PySem.W.findIn K (.ref C) "__setattr__" = some (some (.builtin "object.__setattr__"))
theorem Cls.get {K : PySem.W.Frag} {C : Addr} (c : Cls K C) (f : Str) : PySem.W.plainGet K C f = true := c.pg
noncomputable def NoAttr (K : PySem.W.Frag) (C : Addr) (f : Str) : Prop := PySem.W.findIn K (.ref C) f = some none
theorem NoAttr.taker {K : PySem.W.Frag} {C : Addr} {f : Str} (n : NoAttr K C f) : PySem.W.takerIn K C f = some none := by
  unfold PySem.W.takerIn
  rw [show PySem.W.findIn K (.ref C) f = some none from n]
  rfl
structure Meth (K : PySem.W.Frag) (C : Addr) (m : Str) (f : Addr) : Prop where
  at_ : PySem.W.findIn K (.ref C) m = some (some (.ref f))
  fn : PySem.W.isFn K (.ref f) = true
  kp : PySem.W.keepIn K (.ref f) = true
section
variable {X : Cx} {pins : List (Addr × Obj)} {σ : St} {H : Hp} {s : Shared} {a C dx : Addr} {fs : List (Str × V)} {f : Str} {v : V} {A : Around} {E : Value → Shared → Prop}
theorem getattr_ok {b : Bool} {Q : Value → Shared → Prop} (I : Inv X pins σ H s) (e : H a = some (.ins C dx fs)) (c : Cls X.K C) (n : NoAttr X.K C f) (l : fs.lookup f = some v)
    (h : ∀ u s', Inv X pins σ H s' → RelV v u → Q u s') : wpAny (model X.prog X.w) A (getAttr (.ref a) f b) Q E s := by
  obtain ⟨mA, O, r, _, _, _⟩ := ins_get I.hok e
  obtain ⟨u, hu, ru⟩ := RelO.some_of (v := v) (o := mA f) (by rw [← l]; exact r f)
  exact get_map I.kIn O (c.get f) c.hd n hu (handed_of ru) (h u _ (I.tok _) ru)
theorem getmeth_ok {m : Str} {g : Addr} {pl : Sem Bool} {Q : Value × List Value → Shared → Prop} (I : Inv X pins σ H s) (e : H a = some (.ins C dx fs)) (c : Cls X.K C) (k : Meth X.K C m g) (l : fs.lookup m = none)
    (h : Q (.ref g, [.ref a]) s) : wpAny (model X.prog X.w) A (getMethod (.ref a) m pl) Q E s := by
  obtain ⟨mA, O, r, _, _, _⟩ := ins_get I.hok e
  have hn : mA m = none := RelO.none_of (by rw [← l]; exact r m)
  exact get_meth I.kIn O (c.get m) k.at_ k.fn hn h
theorem setattr_ok {y : V} {u : Value} {Q : Unit → Shared → Prop} (I : Inv X pins σ H s) (e : H a = some (.ins C dx fs)) (c : Cls X.K C) (n : NoAttr X.K C f) (hl : fs.length < 1000) (ry : RelV y u)
    (h : ∀ s', Inv X pins σ (upd H a (.ins C dx (putF f y fs))) s' → Q () s') : wpAny (model X.prog X.w) A (setAttr (.ref a) f u) Q E s := by
  obtain ⟨mA, O, r, wi, _, ho⟩ := ins_get I.hok e
  have hz : (fs.map (·.1)).length ≤ sizeLine := by rw [List.length_map, sizeLine_eq]; omega
  refine set_map I.kIn O c.sa c.po n.taker c.hd wi hz fun h' O' sb => h _ ?_
  have hd : ∃ o, h'.get? dx = some o := let ⟨o, _, _, e', _⟩ := O'.ns; ⟨o, e'⟩
  refine I.write (x := a) (e := dx) (by rw [e]; exact True.intro) (.inr ho) (fun b q hb z => (sb.2 b hb).trans z) hd ?_
  refine ⟨by rw [upd_ne O.ne]; exact ho, ?_, O.ne, O'.obj, _, O'.ns, fun g => ?_, fun g hg => ?_⟩
  · have := length_putF f y fs; omega
  · show RelO ((putF f y fs).lookup g) (if g = f then some u else mA g)
    rw [lookup_putF]
    by_cases q : g = f
    · rw [if_pos q, if_pos q]; exact ry
    · rw [if_neg q, if_neg q]; exact r g
  · by_cases q : g = f
    · rw [q]; exact (keys_putF f y fs).1
    · refine (keys_putF f y fs).2 g (wi g fun z => hg ?_)
      show (if g = f then some u else mA g) = none
      rw [if_neg q]; exact z
theorem Inv.made (I : Inv X pins σ H s) : Inv X pins σ (upd (upd H s.heap.objs.size (.own (s.heap.objs.size + 1))) (s.heap.objs.size + 1) (.ins C s.heap.objs.size []))
    { s with heap := (s.heap.push PySem.W.emptyDict).push (PySem.W.instObj C s.heap.objs.size) } := by
  have e1 : (s.heap.push PySem.W.emptyDict).get? s.heap.objs.size = some PySem.W.emptyDict := Heap.get?_push_size s.heap rfl
  have e2 : ((s.heap.push PySem.W.emptyDict).push (PySem.W.instObj C s.heap.objs.size)).get? (s.heap.objs.size + 1) = some (PySem.W.instObj C s.heap.objs.size) := by
    have := Heap.get?_push_size (s.heap.push PySem.W.emptyDict) (o := PySem.W.instObj C s.heap.objs.size) rfl
    rwa [Heap.size_push] at this
  have e3 : (s.heap.push PySem.W.emptyDict).Ns s.heap.objs.size (fun _ => none) := ⟨PySem.W.emptyDict, #[], _, e1, rfl, (fun e he => absurd he (by simp)), fun _ => rfl⟩
  have I1 := I.laid (a := s.heap.objs.size) (o := .own (s.heap.objs.size + 1)) (h' := s.heap.push PySem.W.emptyDict) (t' := s.toks) (fun b u q => Heap.get?_push_of_some _ q) (Nat.le_refl _) ⟨_, e1⟩
  refine I1.laid (a := s.heap.objs.size + 1) (o := .ins C s.heap.objs.size []) (t' := s.toks) (fun b u q => Heap.get?_push_of_some _ q) (Nat.le_of_eq (Heap.size_push _ _)) ?_
  have ne : s.heap.objs.size ≠ s.heap.objs.size + 1 := Nat.ne_of_lt (Nat.lt_succ_self _)
  refine ⟨by rw [upd_ne ne, upd_same], Nat.zero_le _, ne, e2, fun _ => none, (Heap.Ns1.of_empty e3).at fun o q => Heap.get?_push_of_some _ q, fun _ => True.intro, fun y hy => absurd rfl hy⟩
theorem attr_of {prog : Program} {w : World} {env : Env} {e : Expr} {f : Str} {pos : Pos} {s : Shared} {Q : Value → Shared → Prop} (hb : attributeBase e f env (eval e env) = eval e env)
    (h : wpAny (model prog w) A (eval e env) (fun o s₁ => wpAny (model prog w) A (getAttr o f true) Q E s₁) E s) : wpAny (model prog w) A (eval (.Attribute e f pos) env) Q E s :=
  Attribute_any_ h (by rw [arm_eval_Attribute, hb])
end
inductive TFldR (K : PySem.W.Frag) (f : Str) (Q : VK) (x : V) (H1 : Hp) : Prop
  | mk (a C dx fs v : _) (h0 : x = .ref a) (h1 : H1 a = some (.ins C dx fs)) (h2 : Cls K C) (h3 : NoAttr K C f) (h4 : fs.lookup f = some v) (h5 : Q v H1) : TFldR K f Q x H1
noncomputable def tFld (K : PySem.W.Frag) (ta : TE) (f : Str) : TE := fun σ H Q => ta σ H (TFldR K f Q)
inductive SFldR (K : PySem.W.Frag) (f : Str) (D : Ends) (σ : St) (y : V) (x : V) (H2 : Hp) : Prop
  | mk (a C dx fs : _) (h0 : x = .ref a) (h1 : H2 a = some (.ins C dx fs)) (h2 : Cls K C) (h3 : NoAttr K C f) (h4 : fs.length < 1000) (h5 : D.nx σ (upd H2 a (.ins C dx (putF f y fs)))) : SFldR K f D σ y x H2
noncomputable def sFld (K : PySem.W.Frag) (ta tv : TE) (f : Str) : TS := fun D σ H => tv σ H fun y H1 => ta σ H1 (SFldR K f D σ y)
section
variable {X : Cx} {o e value : Expr} {f : Str} {pos pos' tpos : Pos} {ta tv : TE}
theorem pe_fld (he : PE X e ta) (hb : attributeBase e f X.env (eval e X.env) = eval e X.env) : PE X (.Attribute e f pos) (tFld X.K ta f) := by
  intro pins s σ H Q I h
  refine attr_of hb (thn (he pins s σ H _ I h) fun u s1 ⟨x, H1, I1, rx, a, C, dx, fs, v, ex, ea, c, n, l, q⟩ => ?_)
  subst ex
  obtain rfl : u = Value.ref a := rx
  exact getattr_ok I1 ea c n l fun u' s2 I2 ru => ⟨v, H1, I2, ru, q⟩
theorem ps_fld (ha : PE X o ta) (hv : PE X value tv) (hs : swapsWith value (some (.Attribute o f pos')) pos.line X.env = pure false) : PS X (.Assign [.Attribute o f pos'] value pos) (sFld X.K ta tv f) := by
  intro pins s σ H D I h
  refine plainObj_wpAny_Assign_Attribute (thn (hv pins s σ H _ I h) fun u s1 ⟨y, H1, I1, ry, q⟩ => thn (ha pins s1 σ H1 _ I1 q) fun ov s2 ⟨x, H2, I2, rx, a, C, dx, fs, ex, ea, c, n, l, q2⟩ => ?_) hs
  subst ex
  obtain rfl : ov = Value.ref a := rx
  exact setattr_ok I2 ea c n l ry fun s3 I3 => ⟨σ, _, I3, q2⟩
end
section
variable {X : Cx} {pins : List (Addr × Obj)} {σ : St} {H : Hp} {s : Shared} {A : Around} {E : Value → Shared → Prop} {Q : Value → Shared → Prop} {c : Value} {b : Bool}
end
end L2
namespace L2
open PySem PySem.Spec PyProof.Rows
structure Room (k : Nat) (A : Around) : Prop where
  hd : A.handled = none
  dp : A.depth + 3 * k + 5 < recursionLimit
  un : A.units + 16 * k + 200 < cLine
theorem Room.mono {j k : Nat} {A : Around} (r : Room k A) (h : j ≤ k) : Room j A := ⟨r.hd, by have := r.dp; omega, by have := r.un; omega⟩
theorem Room.deeper {k : Nat} {A : Around} (r : Room (k + 1) A) (env : Env) : Room k (A.deeper env) :=
  ⟨r.hd, by have := r.dp; show A.depth + 1 + 3 * k + 5 < _; omega, by have := r.un; show A.units + 3 + 16 * k + 200 < _; omega⟩
theorem make_depth {A : Around} {C : Addr} {us : List Value} {kw : List (Str × Value)} : (A.under (.builtin "type.__call__" ⟨.ref C :: us, kw⟩)).depth = A.depth + 1 := by
  first | rfl | simp [Around.under, Code.weight, Code.isCreation, Code.isGuard, Code.isCaller, Code.frames, Code.isFrame, guardIds]
theorem make_units {A : Around} {C : Addr} {us : List Value} {kw : List (Str × Value)} : (A.under (.builtin "type.__call__" ⟨.ref C :: us, kw⟩)).units = A.units + 1 := by
  first | rfl | simp [Around.under, Code.cUnits, Code.frames, Code.isFrame]
theorem Room.make {k : Nat} {A : Around} (r : Room (k + 1) A) (C : Addr) (us : List Value) (kw : List (Str × Value)) : Room k (A.under (.builtin "type.__call__" ⟨.ref C :: us, kw⟩)) :=
  ⟨r.hd, by have := r.dp; rw [make_depth]; omega, by have := r.un; rw [make_units]; omega⟩
theorem Room.depth {k : Nat} {A : Around} (r : Room k A) : A.depth < recursionLimit := by have := r.dp; omega
theorem Room.units {k : Nat} {A : Around} (r : Room k A) : A.units + 64 < cLine := by have := r.un; omega
noncomputable def tNil : TA := fun _ H Q => Q [] H
noncomputable def tCons3 (x : V) (Q : List V → Hp → Prop) : List V → Hp → Prop := fun xs H2 => Q (x :: xs) H2
noncomputable def tCons2 (tr : TA) (σ : St) (Q : List V → Hp → Prop) : VK := fun x H1 => tr σ H1 (tCons3 x Q)
noncomputable def tCons (ta : TE) (tr : TA) : TA := fun σ H Q => ta σ H (tCons2 tr σ Q)
section
variable {X : Cx} {e : Expr} {es : List Expr} {te : TE} {t : TA} {pos : Pos}
theorem pa_nil : PA X [] tNil := fun _ _ _ _ H Q I h => Calls.spliced_nil ⟨[], H, I, .nil, h⟩
theorem pa_cons (ha : PE X e te) (hr : PA X es t) (hs : starEach (e :: es) X.env = (false, eval e X.env) :: starEach es X.env := by rfl) : PA X (e :: es) (tCons te t) := by
  intro pos pins s σ H Q I h
  rw [hs]
  show wpAny _ _ (spliced ((false, eval e X.env) :: backTo pos (starEach es X.env))) _ _ s
  refine Calls.spliced_cons (thn (ha pins s σ H _ I h) fun u s1 ⟨x, H1, I1, r1, q1⟩ => ?_)
  exact thn (hr pos pins s1 σ H1 _ I1 q1) fun us s2 ⟨xs, H2, I2, r2, q2⟩ => ⟨x :: xs, H2, I2, .cons r1 r2, q2⟩
noncomputable def tTup (t : TA) : TE := fun σ H Q => t σ H fun xs H1 => xs.length ≤ sizeLine ∧ ∀ p, H1 p = none → Q (.ref p) (upd H1 p (.tup xs))
noncomputable def tLst (t : TA) : TE := fun σ H Q => t σ H fun xs H1 => xs.length ≤ sizeLine ∧ ∀ p, H1 p = none → Q (.ref p) (upd H1 p (.lst xs))
theorem pe_tup {x1} (h : PA X es t) : PE X (.Tuple es x1 pos) (tTup t) := by
  intro pins s σ H Q I hq
  refine wpAny_Tuple_spliced (thn (h pos pins s σ H _ I hq) fun us s1 ⟨xs, H1, I1, r, z, q⟩ => ⟨by rw [← r.length]; exact z, ?_⟩)
  have hf : H1 s1.heap.objs.size = none := I1.hok.fresh (Nat.le_refl _)
  refine ⟨.ref s1.heap.objs.size, upd H1 s1.heap.objs.size (.tup xs), I1.laid (t' := s1.toks) (fun b u e => Heap.get?_push_of_some _ e) (Nat.le_refl _) ?_, rfl, q _ hf⟩
  exact ⟨z, us, r, ⟨_, Heap.get?_push_size _ rfl, rfl, _, rfl⟩⟩
theorem pe_lst (h : PA X es t) : PE X (.List es pos) (tLst t) := by
  intro pins s σ H Q I hq
  refine wpAny_List_spliced (thn (h pos pins s σ H _ I hq) fun us s1 ⟨xs, H1, I1, r, z, q⟩ => ⟨by rw [← r.length]; exact z, ?_⟩)
  have hf : H1 s1.heap.objs.size = none := I1.hok.fresh (Nat.le_refl _)
  refine ⟨.ref s1.heap.objs.size, upd H1 s1.heap.objs.size (.lst xs), I1.laid (t' := s1.toks) (fun b u e => Heap.get?_push_of_some _ e) (Nat.le_refl _) ?_, rfl, q _ hf⟩
  exact ⟨z, us, 0, r, Heap.get?_push_size _ rfl⟩
end
noncomputable abbrev Sp := List V → Hp → VK → XK → Prop
noncomputable abbrev CXT := List Env → Hp → Shared → XK → Value → Shared → Prop
structure Env0 (P : Program) (w : World) (K : PySem.W.Frag) (mg : Str → Option Value) (base : Heap) (A : Around) (outer : List Env) (s : Shared) (H : Hp) : Prop where
  frames : A.frames = some outer
  mod : Mod K mg base
  bs : ∀ b o, base.get? b = some o → s.heap.get? b = some o ∧ H b = none
  bsz : base.objs.size ≤ s.heap.objs.size
  funs : s.heap.FunFrames base outer
  frf : ∀ b ∈ frs outer, H b = none
  hok : HOk P w H s.heap
  bare : AllBare s.gens
noncomputable def CE (outer : List Env) (P : Program) (w : World) (H : Hp) (s : Shared) (Q : VK) (u : Value) (s' : Shared) : Prop :=
  ∃ v H', s'.os = s.os ∧ AllBare s'.gens ∧ Un (frs outer) [] H H' s.heap s'.heap ∧ HOk P w H' s'.heap ∧ RelV v u ∧ Q v H'
noncomputable def CR (CX : CXT) (outer : List Env) (P : Program) (w : World) (H : Hp) (s : Shared) (Q : VK) (E : XK) (r : Result) (s' : Shared) : Prop :=
  match r with
  | .ok (.ret u) => CE outer P w H s Q u s'
  | .ok _ => False
  | .error e => CX outer H s E e s'
structure FnOk (P : Program) (w : World) (K : PySem.W.Frag) (mg : Str → Option Value) (base : Heap) (CX : CXT) (k : Nat) (f : Addr) (fd : FuncData) (ps : List Str) (sp : Sp) : Prop where
  len : ∀ vs H Q E, sp vs H Q E → vs.length = ps.length
  run : ∀ (A : Around) (outer : List Env) (s : Shared) (H : Hp) (args : Args) (us : List Value) (vs : List V) (Q : VK) (E : XK), Room k A → Env0 P w K mg base A outer s H → BindsTo s fd args (ps.zip us) → Vals vs us → sp vs H Q E →
    codeAny (model P w) A (.call (.ref f) args) (CR CX outer P w H s Q E) s
theorem FnOk.mono {P : Program} {w : World} {K : PySem.W.Frag} {mg : Str → Option Value} {base : Heap} {CX : CXT} {j k : Nat} {f : Addr} {fd : FuncData} {ps : List Str} {sp : Sp} (F : FnOk P w K mg base CX j f fd ps sp) (h : j ≤ k) :
    FnOk P w K mg base CX k f fd ps sp := ⟨F.len, fun A outer s H args us vs Q E hr => F.run A outer s H args us vs Q E (hr.mono h)⟩
theorem Env0.make {P : Program} {w : World} {K : PySem.W.Frag} {mg : Str → Option Value} {base : Heap} {A : Around} {outer : List Env} {s : Shared} {H : Hp} (e : Env0 P w K mg base A outer s H) (C : Addr) (us : List Value) (kw : List (Str × Value)) :
    Env0 P w K mg base (A.under (.builtin "type.__call__" ⟨.ref C :: us, kw⟩)) outer s H := ⟨by first | exact e.frames | (simpa [Around.under, Code.envs, Code.isFrame, pushEnvs] using e.frames), e.mod, e.bs, e.bsz, e.funs, e.frf, e.hok, e.bare⟩
section
variable {X : Cx} {pins : List (Addr × Obj)} {σ : St} {H : Hp} {s s' : Shared}
theorem Inv.env0 (I : Inv X pins σ H s) : Env0 X.prog X.w X.K X.mg X.base X.A X.stack s H :=
  ⟨I.ok.frames, I.ok.mod, I.bs, Nat.le_trans I.ok.bsz I.sz, I.stack, I.stkFree, I.hok, I.bare⟩
theorem Inv.after {Q : VK} {u : Value} (I : Inv X pins σ H s) (h : CE X.stack X.prog X.w H s Q u s') : EP X pins σ Q u s' := by
  obtain ⟨v, H', os, bare, un, hok, r, q⟩ := h
  obtain ⟨hh, g, d, t, os'⟩ := s'
  obtain rfl : os' = s.os := os
  exact ⟨v, H', I.call (h' := hh) (g' := g) (d' := d) (t' := t) (ch := []) un hok bare (fun b z => absurd z (by simp)), r, q⟩
end
noncomputable def tCall2 (sp : Sp) (dvs : List V) (E : XK) (Q : VK) : List V → Hp → Prop := fun vs H1 => sp (vs ++ dvs) H1 Q E
noncomputable def tCall (sp : Sp) (dvs : List V) (E : XK) (t : TA) : TE := fun σ H Q => t σ H (tCall2 sp dvs E Q)
inductive TMethR (C : Addr) (m : Str) (sp : Sp) (dvs : List V) (E : XK) (t : TA) (σ : St) (Q : VK) (x : V) (H1 : Hp) : Prop
  | mk (a dx fs : _) (h0 : x = .ref a) (h1 : H1 a = some (.ins C dx fs)) (h2 : fs.lookup m = none) (h3 : t σ H1 fun vs H2 => sp (x :: (vs ++ dvs)) H2 Q E) : TMethR C m sp dvs E t σ Q x H1
noncomputable def tMeth (C : Addr) (m : Str) (sp : Sp) (dvs : List V) (E : XK) (ta : TE) (t : TA) : TE := fun σ H Q => ta σ H (TMethR C m sp dvs E t σ Q)
noncomputable def tMake (C : Addr) (sp : Sp) (dvs : List V) (E : XK) (t : TA) : TE := fun σ H Q => t σ H fun vs H1 => ∀ x dx, H1 x = none → H1 dx = none → dx ≠ x →
  sp (.ref x :: (vs ++ dvs)) (upd (upd H1 dx (.own x)) x (.ins C dx [])) (fun v H2 => v = .non ∧ Q (.ref x) H2) E
noncomputable def Binds (K : PySem.W.Frag) (fd : FuncData) (ps : List Str) (ds : List Value) : Prop :=
  ∀ (s : Shared) (us : List Value), K.In s.heap → (us ++ ds).length = ps.length → BindsTo s fd ⟨us, []⟩ (ps.zip (us ++ ds))
theorem Binds.all {K : PySem.W.Frag} {fd : FuncData} {ps : List Str} (h : ∀ us : List Value, us.length = ps.length → bindArgs fd ⟨us, []⟩ = pure (ps.zip us)) : Binds K fd ps [] := fun s us _ hl => by
  rw [List.append_nil] at hl ⊢
  exact .of_eq (h us hl)
noncomputable def Passes (CX : CXT) (X : Cx) (E : XK) : Prop := ∀ (pins : List (Addr × Obj)) (σ : St) (H : Hp) (s : Shared) (e : Value) (s' : Shared), Inv X pins σ H s → CX X.stack H s E e s' → X.xe e s'
section
variable {X : Cx} {CX : CXT} {k : Nat} {f C : Addr} {fd : FuncData} {ps : List Str} {sp : Sp} {dvs : List V} {ds : List Value} {E : XK} {x m : Str} {p pos apos : Pos} {e o : Expr} {es : List Expr} {ta : TE} {t : TA}
theorem run_fn {pins : List (Addr × Obj)} {σ : St} {H : Hp} {s : Shared} {Q : VK} {us : List Value} {vs : List V} (F : FnOk X.prog X.w X.K X.mg X.base CX k f fd ps sp) (hr : Room k X.A) (hb : Binds X.K fd ps ds) (hd : Vals dvs ds) (hx : Passes CX X E)
    (I : Inv X pins σ H s) (r : Vals vs us) (h : sp (vs ++ dvs) H Q E) : wpAny (model X.prog X.w) X.A (call (.ref f) us) (EP X pins σ Q) X.xe s := by
  have r2 : Vals (vs ++ dvs) (us ++ ds) := r.append hd
  have hl : (us ++ ds).length = ps.length := by rw [← r2.length]; exact F.len _ _ _ _ h
  refine wpAny_call (codeAny_mono (F.run X.A X.stack s H ⟨us, []⟩ (us ++ ds) (vs ++ dvs) Q E hr I.env0 (hb s us I.kIn hl) r2 h) fun r s' hq => ?_)
  cases r with
  | error e => exact hx pins σ H s e s' I hq
  | ok fl =>
    cases fl with
    | ret u => exact I.after hq
    | next => exact False.elim hq
    | brk => exact False.elim hq
    | cont => exact False.elim hq
theorem pe_call (F : FnOk X.prog X.w X.K X.mg X.base CX k f fd ps sp) (hr : Room k X.A) (hg : Gl X x) (hm : X.mg x = some (.ref f)) (hk : PySem.W.keepIn X.K (.ref f) = true) (hb : Binds X.K fd ps ds) (hd : Vals dvs ds) (hx : Passes CX X E)
    (ha : PA X (e :: es) t) (hdb : (x == ("__debug__" : Str)) = false := by decide) (he : starEach (e :: es) X.env = (false, eval e X.env) :: starEach es X.env := by rfl) (hpl : (backTo pos (starEach es X.env)).any (·.1) = false := by rfl) :
    PE X (.Call (.Name x p) (e :: es) [] pos) (tCall sp dvs E t) := by
  intro pins s σ H Q I h
  refine wpAny_Call_Name_kw (ld_glob I hg hm ?_ hdb)
  refine PySem.W.callWith_K (h₀ := X.base) I.ok.mod.kin hk (thn (ha pos pins s σ H _ I h) fun us s1 ⟨vs, H1, I1, r, q⟩ => ⟨I1.kIn, ?_⟩) he hpl
  exact run_fn F hr hb hd hx I1 r q
theorem pe_meth {pl : Sem Bool} (he : PE X o ta) (c : Cls X.K C) (hm : Meth X.K C m f) (F : FnOk X.prog X.w X.K X.mg X.base CX k f fd ps sp) (hr : Room k X.A) (hb : Binds X.K fd ps ds) (hd : Vals dvs ds) (hx : Passes CX X E) (ha : PA X (e :: es) t)
    (hst : starEach (e :: es) X.env = (false, eval e X.env) :: starEach es X.env := by rfl) (hpl : (backTo pos (starEach es X.env)).any (·.1) = false := by rfl)
    (ht : eval (.Call (.Attribute o m apos) (e :: es) [] pos) X.env = (do
      let ov ← eval o X.env
      standAt apos.atName
      let (f, first) ← holding [ov] (getMethod ov m pl)
      callWith pos f first (backTo pos (starEach (e :: es) X.env)) (backToKw pos (keywordEach [] X.env))) := by rfl) :
    PE X (.Call (.Attribute o m apos) (e :: es) [] pos) (tMeth C m sp dvs E ta t) := by
  intro pins s σ H Q I h
  refine PySem.W.methodCall_KW (pl := pl) (thn (he pins s σ H _ I h) fun u s1 ⟨x, H1, I1, rx, a, dx, fs, ex, ea, l, q⟩ => ?_) ht
  subst ex
  obtain rfl : u = Value.ref a := rx
  refine getmeth_ok I1 ea c hm l ?_
  refine PySem.W.callWith_K (first := [.ref a]) (h₀ := X.base) I.ok.mod.kin hm.kp (thn (ha pos pins s1 σ H1 _ I1 q) fun us s2 ⟨vs, H2, I2, r, q2⟩ => ⟨I2.kIn, ?_⟩) hst hpl
  exact run_fn (us := .ref a :: us) (vs := .ref a :: vs) F hr hb hd hx I2 (.cons rfl r) q2
theorem pe_meth0 {pl : Sem Bool} (he : PE X o ta) (c : Cls X.K C) (hm : Meth X.K C m f) (F : FnOk X.prog X.w X.K X.mg X.base CX k f fd ps sp) (hr : Room k X.A) (hb : Binds X.K fd ps ds) (hd : Vals dvs ds) (hx : Passes CX X E)
    (ht : eval (.Call (.Attribute o m apos) [] [] pos) X.env = (do
      let ov ← eval o X.env
      standAt apos.atName
      let (f, first) ← holding [ov] (getMethod ov m pl)
      callWith pos f first (backTo pos (starEach [] X.env)) (backToKw pos (keywordEach [] X.env))) := by rfl) :
    PE X (.Call (.Attribute o m apos) [] [] pos) (tMeth C m sp dvs E ta tNil) := by
  intro pins s σ H Q I h
  refine PySem.W.methodCall_KW (pl := pl) (thn (he pins s σ H _ I h) fun u s1 ⟨x, H1, I1, rx, a, dx, fs, ex, ea, l, q⟩ => ?_) ht
  subst ex
  obtain rfl : u = Value.ref a := rx
  refine getmeth_ok I1 ea c hm l ?_
  exact PySem.W.callWith_K0 (first := [.ref a]) I1.kIn hm.kp (run_fn (us := [.ref a]) (vs := [.ref a]) F hr hb hd hx I1 (.cons rfl .nil) q)
structure Mk (K : PySem.W.Frag) (C f : Addr) : Prop where
  makes : PySem.W.makesIn K C = true
  init : PySem.W.findIn K (.ref C) "__init__" = some (some (.ref f))
  fn : PySem.W.isFn K (.ref f) = true
  kp : PySem.W.keepIn K (.ref C) = true
theorem run_make {pins : List (Addr × Obj)} {σ : St} {H : Hp} {s : Shared} {Q : VK} {us : List Value} {vs : List V} (M : Mk X.K C f) (F : FnOk X.prog X.w X.K X.mg X.base CX k f fd ps sp) (hr : Room (k + 1) X.A) (hb : Binds X.K fd ps ds) (hd : Vals dvs ds)
    (hx : Passes CX X E) (I : Inv X pins σ H s) (r : Vals vs us)
    (h : ∀ x dx, H x = none → H dx = none → dx ≠ x → sp (.ref x :: (vs ++ dvs)) (upd (upd H dx (.own x)) x (.ins C dx [])) (fun v H2 => v = .non ∧ Q (.ref x) H2) E) :
    wpAny (model X.prog X.w) X.A (call (.ref C) us) (EP X pins σ Q) X.xe s := by
  have hq := h (s.heap.objs.size + 1) s.heap.objs.size (I.hok.fresh (Nat.le_succ _)) (I.hok.fresh (Nat.le_refl _)) (Nat.ne_of_lt (Nat.lt_succ_self _))
  have I2 := Inv.made (C := C) I
  have r2 : Vals (V.ref (s.heap.objs.size + 1) :: (vs ++ dvs)) (Value.ref (s.heap.objs.size + 1) :: (us ++ ds)) := .cons rfl (r.append hd)
  have hl : (Value.ref (s.heap.objs.size + 1) :: us ++ ds).length = ps.length := by
    have e := r2.length
    rw [F.len _ _ _ _ hq] at e
    exact e.symm
  refine wpAny_call (make_map (f := f) I.kIn M.makes M.init (beq_iff_eq.mp M.fn) (codeAny_mono (F.run _ X.stack _ _ ⟨Value.ref (s.heap.objs.size + 1) :: us, []⟩ (Value.ref (s.heap.objs.size + 1) :: (us ++ ds)) _ _ E (hr.make C us [])
    (I2.env0.make C us []) (hb _ (Value.ref (s.heap.objs.size + 1) :: us) I2.kIn hl) r2 hq) fun r s' hq' => ?_))
  cases r with
  | error e => exact hx pins σ _ _ e s' I2 hq'
  | ok fl =>
    cases fl with
    | ret u =>
      obtain ⟨v, H', I3, rv, ev, q3⟩ := I2.after hq'
      subst ev
      exact ⟨rv, ⟨V.ref (s.heap.objs.size + 1), H', I3, rfl, q3⟩⟩
    | next => exact False.elim hq'
    | brk => exact False.elim hq'
    | cont => exact False.elim hq'
theorem pe_make (M : Mk X.K C f) (F : FnOk X.prog X.w X.K X.mg X.base CX k f fd ps sp) (hr : Room (k + 1) X.A) (hg : Gl X x) (hm : X.mg x = some (.ref C)) (hb : Binds X.K fd ps ds) (hd : Vals dvs ds) (hx : Passes CX X E)
    (ha : PA X (e :: es) t) (hdb : (x == ("__debug__" : Str)) = false := by decide) (he : starEach (e :: es) X.env = (false, eval e X.env) :: starEach es X.env := by rfl) (hpl : (backTo pos (starEach es X.env)).any (·.1) = false := by rfl) :
    PE X (.Call (.Name x p) (e :: es) [] pos) (tMake C sp dvs E t) := by
  intro pins s σ H Q I h
  refine wpAny_Call_Name_kw (ld_glob I hg hm ?_ hdb)
  refine PySem.W.callWith_K (h₀ := X.base) I.ok.mod.kin M.kp (thn (ha pos pins s σ H _ I h) fun us s1 ⟨vs, H1, I1, r, q⟩ => ⟨I1.kIn, ?_⟩) he hpl
  exact run_make M F hr hb hd hx I1 r q
theorem pe_make0 (M : Mk X.K C f) (F : FnOk X.prog X.w X.K X.mg X.base CX k f fd ps sp) (hr : Room (k + 1) X.A) (hg : Gl X x) (hm : X.mg x = some (.ref C)) (hb : Binds X.K fd ps ds) (hd : Vals dvs ds) (hx : Passes CX X E)
    (hdb : (x == ("__debug__" : Str)) = false := by decide) : PE X (.Call (.Name x p) [] [] pos) (tMake C sp dvs E tNil) := by
  intro pins s σ H Q I h
  refine wpAny_Call_Name_kw (ld_glob I hg hm ?_ hdb)
  exact PySem.W.callWith_K0 I.kIn M.kp (run_make (us := []) M F hr hb hd hx I .nil h)
end
section
variable {X : Cx} {CX : CXT} {k : Nat} {f C : Addr} {fd : FuncData} {ps ks : List Str} {sp : Sp} {E : XK} {x m : Str} {p pos apos kpos : Pos} {e o : Expr} {es : List Expr} {kws : List Keyword} {te ta : TE} {t tk : TA} {nm : Option Str}
variable {g : List Value → List Value → List Value} {gV : List V → List V → List V}
end
structure FnScope (N P : List Str) (sc : Scope) : Prop where
  kind : sc.kind = .function
  co : sc.isCoroutine = false
  gen : sc.isGenerator = false
  nd : N.Nodup
  pre : N.take P.length = P
  par : ∀ x ∈ P, sc.names.lookup x = some .local ∨ sc.names.lookup x = some .cell
  nofree : ∀ y ∈ sc.names, y.2 ≠ .free
theorem bindL_out {kindOf : Str → Option NameKind} {x : Str} : ∀ {binds : List (Str × Value)} {m : Str → Option Value}, (∀ v, (x, v) ∉ binds) → bindL kindOf binds m x = m x
  | [], _, _ => rfl
  | (n, v) :: r, m, h => by
    unfold bindL
    rw [bindL_out fun w hw => h w (List.mem_cons_of_mem _ hw)]
    split
    · have : x ≠ n := by rintro rfl; exact h v List.mem_cons_self
      simp [this]
    · rfl
theorem bindC_out {kindOf : Str → Option NameKind} {x : Str} : ∀ {binds : List (Str × Value)} {m : Str → Option Value}, (∀ v, (x, v) ∉ binds) → bindC kindOf binds m x = m x
  | [], _, _ => rfl
  | (n, v) :: r, m, h => by
    unfold bindC
    rw [bindC_out fun w hw => h w (List.mem_cons_of_mem _ hw)]
    split
    · rfl
    · have : x ≠ n := by rintro rfl; exact h v List.mem_cons_self
      simp [this]
theorem bindL_get {kindOf : Str → Option NameKind} {x : Str} {v : Value} : ∀ {P : List Str} {vs : List Value} {i : Nat} {m : Str → Option Value}, P.Nodup → P[i]? = some x → vs[i]? = some v → kindOf x = some .local →
    bindL kindOf (P.zip vs) m x = some v
  | [], _, _, _, _, h, _, _ => by simp at h
  | _ :: _, [], _, _, _, _, h, _ => by simp at h
  | p :: P, w :: vs, 0, m, nd, h1, h2, hk => by
    simp at h1 h2; subst h1; subst h2
    show bindL kindOf ((p, w) :: P.zip vs) m p = _
    unfold bindL
    rw [bindL_out fun v hv => (List.nodup_cons.mp nd).1 (List.of_mem_zip hv).1, if_pos hk]
    simp
  | p :: P, w :: vs, i + 1, m, nd, h1, h2, hk => by
    show bindL kindOf ((p, w) :: P.zip vs) m x = _
    unfold bindL
    exact bindL_get (i := i) (List.nodup_cons.mp nd).2 (by simpa using h1) (by simpa using h2) hk
theorem bindC_get {kindOf : Str → Option NameKind} {x : Str} {v : Value} : ∀ {P : List Str} {vs : List Value} {i : Nat} {m : Str → Option Value}, P.Nodup → P[i]? = some x → vs[i]? = some v → kindOf x ≠ some .local →
    bindC kindOf (P.zip vs) m x = some v
  | [], _, _, _, _, h, _, _ => by simp at h
  | _ :: _, [], _, _, _, _, h, _ => by simp at h
  | p :: P, w :: vs, 0, m, nd, h1, h2, hk => by
    simp at h1 h2; subst h1; subst h2
    show bindC kindOf ((p, w) :: P.zip vs) m p = _
    unfold bindC
    rw [bindC_out fun v hv => (List.nodup_cons.mp nd).1 (List.of_mem_zip hv).1, if_neg hk]
    simp
  | p :: P, w :: vs, i + 1, m, nd, h1, h2, hk => by
    show bindC kindOf ((p, w) :: P.zip vs) m x = _
    unfold bindC
    exact bindC_get (i := i) (List.nodup_cons.mp nd).2 (by simpa using h1) (by simpa using h2) hk
noncomputable def start (N : List Str) (vs : List V) : St := vs.map some ++ List.replicate (N.length - vs.length) none
noncomputable def cxOf (CX : CXT) (P : Program) (w : World) (K : PySem.W.Frag) (mg : Str → Option Value) (base : Heap) (N : List Str) (qual : Str) (scope : Scope) (f : Addr) (cd : Value) (A : Around) (outer : List Env) (s : Shared) (H : Hp) (E : XK) : Cx where
  prog := P
  w := w
  K := K
  mg := mg
  base := base
  A := A.deeper (envOfC qual scope s.heap.objs.size f cd)
  N := N
  s_0 := s
  H_0 := H
  env := envOfC qual scope s.heap.objs.size f cd
  outer := outer
  stack := envOfC qual scope s.heap.objs.size f cd :: outer
  ex := []
  calm := true
  fn := fun _ => true
  pn := []
  xe := fun e s' => wpAny (model P w) (A.deeper (envOfC qual scope s.heap.objs.size f cd)) (leaving (envOfC qual scope s.heap.objs.size f cd) e) (fun _ s'' => CX outer H s E e s'') (fun e' s'' => CX outer H s E e' s'') s'
theorem cell_has {sc : Scope} {n : Nat} {x : Str} (h : sc.names.lookup x = some .cell) : ∃ c, (cellsFrom n sc.names []).lookup x = some c := by
  have q := PySem.W.cellsFrom_some sc.names n [] (.inl h)
  exact Option.isSome_iff_exists.mp q
theorem inv_start {CX : CXT} {P : Program} {w : World} {K : PySem.W.Frag} {mg : Str → Option Value} {base : Heap} {N ps : List Str} {qual : Str} {scope : Scope} {f : Addr} {cd : Value} {A : Around} {outer : List Env} {s s1 : Shared} {H : Hp} {E : XK} {us : List Value} {vs : List V}
    (S : FnScope N ps scope) (hd : A.handled = none) (e0 : Env0 P w K mg base A outer s H) (hl : vs.length = ps.length) (r : Vals vs us)
    (x : InCallC s s.heap.objs.size (bindL (envOfC qual scope s.heap.objs.size f cd).kindOf (ps.zip us) fun _ => none) (cellsFrom (s.heap.objs.size + 1) scope.names []) (bindC (envOfC qual scope s.heap.objs.size f cd).kindOf (ps.zip us) fun _ => none) s1) :
    Inv (cxOf CX P w K mg base N qual scope f cd A outer s H E) [] (start N vs) H s1 := by
  have hpl : ps.length ≤ N.length := by have := congrArg List.length S.pre; rw [List.length_take] at this; omega
  obtain ⟨h1, tk, rfl, hk⟩ := x.done
  have noA : ∀ b : Addr, b ∉ (cxOf CX P w K mg base N qual scope f cd A outer s H E).ex := fun b z => absurd (show b ∈ ([] : List Addr) from z) (by simp)
  refine ⟨⟨e0.mod, S.kind, rfl, rfl, Nat.le_refl _, fun y z c h1 h2 => ?_, fun y hy => ?_, fun y c _ h => ?_, fun _ => hd, Around.frames_deeper e0.frames, .inr ⟨rfl, rfl⟩, fun b z => absurd z (noA b), e0.bs, e0.bsz, fun b _ _ => noA b, fun b z => absurd z (noA b), e0.funs, e0.frf⟩,
    rfl, e0.bare, Un.kept hk, ⟨_, x.toInCall.ns, fun i y v h1 h2 h3 => ?_⟩, fun y c h => ⟨_, x.cell y c h⟩, e0.hok.fresh (Nat.le_refl _), fun y c h => ?_, fun p hp => absurd (show p ∈ ([] : List (Addr × Obj)) from hp) (by simp), e0.hok.kept hk, ?_⟩
  · exact name_of_addr x.apart (PySem.mem_of_lookup h1) (PySem.mem_of_lookup h2)
  · have hy : scope.names.lookup y = some .cell ∨ scope.names.lookup y = some .free := hy
    rcases hy with hy | hy
    · exact cell_has hy
    · exact absurd rfl (S.nofree _ (PySem.mem_of_lookup hy))
  · exact Nat.le_of_lt (x.above y c (PySem.mem_of_lookup h))
  · have hi : i < vs.length := by
      unfold start at h2
      by_cases hi : i < vs.length
      · exact hi
      · rw [List.getElem?_append_right (by simpa using hi)] at h2
        rw [List.getElem?_replicate] at h2
        split at h2 <;> cases h2
    have ha : vs[i]? = some v := by
      unfold start at h2
      rw [List.getElem?_append_left (by simpa using hi), List.getElem?_map] at h2
      cases e : vs[i]? with
      | none => rw [e] at h2; cases h2
      | some a => rw [e] at h2; cases h2; rfl
    obtain ⟨u, hu, rv⟩ := r.get ha
    have hp : ps[i]? = some y := by
      rw [← S.pre, List.getElem?_take_of_lt (by omega)]; exact h1
    have ndP : ps.Nodup := by rw [← S.pre]; exact S.nd.sublist (List.take_sublist _ _)
    refine ⟨u, rv, ?_⟩
    rcases S.par y (List.mem_of_getElem? hp) with k | k
    · exact .inl ⟨k, bindL_get ndP hp hu k⟩
    · obtain ⟨c, e⟩ := cell_has (n := s.heap.objs.size + 1) k
      refine .inr ⟨.inl k, c, e, ?_⟩
      have q := x.cell y c e
      rw [bindC_get ndP hp hu (by show scope.names.lookup y ≠ _; rw [k]; decide)] at q
      exact q
  · exact e0.hok.fresh (Nat.le_of_lt (x.above y c (PySem.mem_of_lookup h)))
  · unfold start
    show _ = N.length
    rw [List.length_append, List.length_map, List.length_replicate]
    omega
theorem fn_of {CX : CXT} {P : Program} {w : World} {K : PySem.W.Frag} {mg : Str → Option Value} {base : Heap} {k : Nat} {f : Addr} {name qual : Str} {params : Arguments} {body : List Stmt} {scope : Scope} {dV kV doc pm cdv ct oc : Value} {an od : Option Addr}
    {osl : Array (Option Value)} {N ps : List Str} {sp : Sp} (lk : K.lookup f = some ⟨oc, od, .func (PySem.W.fnOf name qual params body scope dV kV doc pm an cdv ct), osl⟩) (hcd : PySem.W.codeIn K cdv qual = true) (S : FnScope N ps scope)
    (len : ∀ vs H Q E, sp vs H Q E → vs.length = ps.length)
    (hbody : ∀ (A : Around) (outer : List Env) (s : Shared) (H : Hp) (vs : List V) (Q : VK) (E : XK), Room k (A.deeper (envOfC qual scope s.heap.objs.size f cdv)) → sp vs H Q E →
      ∃ t, PSs (cxOf CX P w K mg base N qual scope f cdv A outer s H E) body t ∧ t { nx := fun _ H' => Q .non H', rt := Q } (start N vs) H) :
    FnOk P w K mg base CX (k + 1) f (PySem.W.fnOf name qual params body scope dV kV doc pm an cdv ct) ps sp := by
  refine ⟨len, fun A outer s H args us vs Q E hr e0 hb r hsp => ?_⟩
  have hl := len _ _ _ _ hsp
  have KX : K.In s.heap := e0.mod.kin.keeps fun b o e => (e0.bs b o e).1
  have lim : s.heap.NoLimit := e0.mod.nolimit.keeps fun b o e => (e0.bs b o e).1
  have hkind : ∀ y ∈ ps.zip us, scope.names.lookup y.1 = some .local ∨ (scope.names.lookup y.1 = some .cell ∧ ((cellsFrom (s.heap.objs.size + 1) scope.names []).lookup y.1).isSome = true) := fun ⟨n, v⟩ hy => by
    rcases S.par n (List.of_mem_zip hy).1 with q | q
    · exact .inl q
    · exact .inr ⟨q, PySem.W.cellsFrom_some _ _ _ (.inl q)⟩
  refine codeAny_call_function hr.depth (KX _ _ lk) rfl S.co S.gen rfl (PySem.W.codeRec_of KX hcd) (hb _ _ _ _ ?_)
  refine wpAny_newFunctionEnv_cells S.kind hkind fun env he s1 x => ?_
  subst he
  refine ⟨lim.keeps x.toInCall.keep, codeAny_func ?_⟩
  obtain ⟨t, ht, hq⟩ := hbody A outer s H vs Q E (hr.deeper _) hsp
  have I : Inv (cxOf CX P w K mg base N qual scope f cdv A outer s H E) [] (start N vs) H s1 := inv_start S hr.hd e0 hl r x
  refine wpAny_mono (ht [] s1 (start N vs) H _ I hq) (fun fl s' hs => ?_) fun e s' hs => hs
  have fin : ∀ {σ' : St} {H' : Hp} {v : V} {u : Value}, Inv (cxOf CX P w K mg base N qual scope f cdv A outer s H E) [] σ' H' s' → RelV v u → Q v H' → CE outer P w H s Q u s' :=
    fun {σ' H' v u} J rv q => ⟨v, H', J.os, J.bare, J.base, J.hok, rv, q⟩
  cases fl with
  | ret u =>
    obtain ⟨v, σ', H', J, rv, q⟩ := hs
    exact fin J rv q
  | next =>
    obtain ⟨σ', H', J, q⟩ := hs
    exact fin (v := V.non) (u := Value.none) J rfl q
  | brk =>
    obtain ⟨_, _, _, q⟩ := hs
    exact False.elim q
  | cont =>
    obtain ⟨_, _, _, q⟩ := hs
    exact False.elim q
end L2
namespace L2
open PySem PySem.Spec PyProof.Rows
section
variable {X : Cx} {x : Str} {p pos : Pos} {e : Expr} {es : List Expr} {t : TA} {id T : String} {r : List V → Hp → VK → Prop}
noncomputable def tCB2 (r : List V → Hp → VK → Prop) (Q : VK) : List V → Hp → Prop := fun vs H1 => r vs H1 Q
noncomputable def tCB (r : List V → Hp → VK → Prop) (t : TA) : TE := fun σ H Q => t σ H (tCB2 r Q)
theorem pe_callB (hc : CallR X (.builtin id) r) (hg : Gl X x) (hm : X.mg x = none) (hv : bootBuiltins x = some (.builtin id)) (ha : PA X (e :: es) t) (hn : x ≠ "__name__" := by decide) (hdb : (x == ("__debug__" : Str)) = false := by decide)
    (he : starEach (e :: es) X.env = (false, eval e X.env) :: starEach es X.env := by rfl) (hpl : (backTo pos (starEach es X.env)).any (·.1) = false := by rfl) : PE X (.Call (.Name x p) (e :: es) [] pos) (tCB r t) := by
  intro pins s σ H Q I h
  refine wpAny_Call_Name_kw (ld_blt I hg hm hv ?_ hn hdb)
  exact PyProof.Rows.callWith_builtin1 (thn (ha pos pins s σ H _ I h) fun us s1 ⟨vs, H1, I1, r1, q1⟩ => hc pins s1 σ H1 vs us Q I1 r1 q1) he hpl
theorem pe_callTy (hc : CallR X (.type T) r) (hg : Gl X x) (hm : X.mg x = none) (hv : bootBuiltins x = some (.type T)) (ha : PA X (e :: es) t) (hn : x ≠ "__name__" := by decide) (hdb : (x == ("__debug__" : Str)) = false := by decide)
    (he : starEach (e :: es) X.env = (false, eval e X.env) :: starEach es X.env := by rfl) (hpl : (backTo pos (starEach es X.env)).any (·.1) = false := by rfl) : PE X (.Call (.Name x p) (e :: es) [] pos) (tCB r t) := by
  intro pins s σ H Q I h
  refine wpAny_Call_Name_kw (ld_blt I hg hm hv ?_ hn hdb)
  exact PyProof.Rows.callWith_type1 (thn (ha pos pins s σ H _ I h) fun us s1 ⟨vs, H1, I1, r1, q1⟩ => hc pins s1 σ H1 vs us Q I1 r1 q1) he hpl
end
end L2
namespace HT
open PySem PyProof.Rows
noncomputable def lexLt : List Int → List Int → Bool
  | [], [] => false
  | [], _ :: _ => true
  | _ :: _, [] => false
  | x :: xs, y :: ys => if x = y then lexLt xs ys else decide (x < y)
theorem lexLt_cons (x y : Int) (xs ys : List Int) : lexLt (x :: xs) (y :: ys) = if x = y then lexLt xs ys else decide (x < y) := rfl
theorem lexLt_nil_nil : lexLt [] [] = false := rfl
theorem lexLt_nil_cons (y : Int) (ys : List Int) : lexLt [] (y :: ys) = true := rfl
theorem lexLt_cons_nil (x : Int) (xs : List Int) : lexLt (x :: xs) [] = false := rfl
theorem eqAt_int (A : Around) (s : Shared) (a : Int) (t : Tok) (c : Int) (u : Tok) : ∃ e, SeqAt.EqAt A s (.int a t) (.int c u) e ∧ (e = true ↔ a = c) :=
  ⟨(a == c), SeqAt.EqAt.int_int a t c u, by simp⟩
theorem rcLt_int (A : Around) (s : Shared) (a : Int) (t : Tok) (c : Int) (u : Tok) (prog : Program) (w : World) (E : Value → Shared → Prop) (Q : Value → Shared → Prop) (h : Q (.bool (decide (a < c))) s) :
    wpAny (model prog w) A (richCompare .Lt (.int a t) (.int c u)) Q E s :=
  (PyProof.Rows.lt_int h : wpAny (model prog w) A (compareOp .Lt (.int a t) (.int c u)) Q E s)
section
open PySem.SeqAt
open PySem.AutoSeq1 (wpAny_loadPart')
open PySem.MeetsSeq PySem.MeetsSeq2 PySem.MeetsSeq3
theorem tuple_lt_ints (l b : Addr) (items items2 : Array Value) (n n2 : Nat) (dd dd2 : Option Addr) (sl sl2 : Array (Option Value)) (ns ms : List Int) (hi : IntsAre items.toList ns) (hj : IntsAre items2.toList ms) :
    Meets (Builtin.«tuple.__lt__» ⟨[.ref l, .ref b], []⟩)
      (fun _ R s => s.heap.get? l = some { cls := .type "tuple", dict := dd, data := .seq items n, slots := sl } ∧ s.heap.get? b = some { cls := .type "tuple", dict := dd2, data := .seq items2 n2, slots := sl2 } ∧
        R (.ok (.ret (.bool (lexLt ns ms)))) s) :=
  .of_wp fun prog w A R s h => by
    obtain ⟨hp, g, d, tk, os⟩ := s; obtain ⟨hl, hb, h⟩ := h
    have f2 := AutoSeq1.sub_tuple_tuple
    have z1 : items.size = ns.length := by rw [← hi.length]; simp
    have z2 : items2.size = ms.length := by rw [← hj.length]; simp
    wp_walk using wpAny_loadPart' hl, wpAny_loadPart' hb, wpAny_forIn_list _ (fun rest b s' => b.1 = none ∧ s' = ⟨hp, g, d, tk, os⟩ ∧ ∃ (vs ws : List Value) (ns' ms' : List Int), rest = vs.zip ws ∧
      IntsAre vs ns' ∧ IntsAre ws ms' ∧ ns'.length + items2.size = ms'.length + items.size ∧ R (.ok (.ret (.bool (lexLt ns' ms')))) ⟨hp, g, d, tk, os⟩) _
    case turn =>
      rintro ⟨y, x⟩ rest b s' ⟨hb', rfl, vs, ws, ns', ms', hz, hvi, hwi, hlen, hR⟩
      cases hvi with
      | nil => rw [List.zip_nil_left] at hz; cases hz
      | cons a t hvi' =>
        cases hwi with
        | nil => rw [List.zip_nil_right] at hz; cases hz
        | cons c u hwi' =>
          rw [List.zip_cons_cons] at hz
          injection hz with hyx hrest
          injection hyx with hy hx
          subst hy hx
          rw [lexLt_cons] at hR
          simp only [List.length_cons] at hlen
          obtain ⟨e, he, hiff⟩ := eqAt_int A.in1 ⟨hp, g, d, tk, os⟩ a t c u
          refine wpAny_bind (he prog w _ _ ?_)
          cases e with
          | true =>
            rw [if_pos (hiff.mp rfl)] at hR
            wp_walk
            exact ⟨rfl, rfl, _, _, _, _, hrest, hvi', hwi', by omega, hR⟩
          | false =>
            rw [if_neg (fun q => absurd (hiff.mpr q) Bool.false_ne_true)] at hR
            have hri := rcLt_int A.in1 ⟨hp, g, d, tk, os⟩ a t c u prog w
            wp_walk using hri
            exact ⟨_, rfl, by simpa using hR⟩
    case fin =>
      rintro ⟨b1, b2⟩ s' ⟨hb', rfl, vs, ws, ns', ms', hz, hvi, hwi, hlen, hR⟩
      simp only at hb'
      subst hb'
      have hv : lexLt ns' ms' = decide (items.size < items2.size) := by
        cases hvi with
        | nil =>
          cases hwi with
          | nil =>
            simp only [List.length_nil] at hlen
            rw [lexLt_nil_nil]
            exact (decide_eq_false (by omega)).symm
          | cons c u hw =>
            simp only [List.length_nil, List.length_cons] at hlen
            rw [lexLt_nil_cons]
            exact (decide_eq_true (by omega)).symm
        | cons a t hv =>
          cases hwi with
          | nil =>
            simp only [List.length_nil, List.length_cons] at hlen
            rw [lexLt_cons_nil]
            exact (decide_eq_false (by omega)).symm
          | cons c u hw =>
            rw [List.zip_cons_cons] at hz
            cases hz
      rw [hv] at hR
      wp_walk
      exact ⟨_, rfl, by simpa [Builtin.Tuple.tupleCompareSizes] using hR⟩
    case h =>
      exact ⟨rfl, rfl, items.toList, items2.toList, ns, ms, rfl, hi, hj, by omega, h⟩
end
section
variable {prog : Program} {w : World} {A : Around} {E : Value → Shared → Prop} {s : Shared}
theorem lt_tupInts {l b : Addr} {items items2 : Array Value} {ns ms : List Int} {Q : Value → Shared → Prop} (hl : IsTup s.heap l items) (hb : IsTup s.heap b items2) (hi : IntsAre items.toList ns) (hj : IntsAre items2.toList ms)
    (hu : A.units < cLine) (h : Q (.bool (lexLt ns ms)) s) : wpAny (model prog w) A (compareOp .Lt (.ref l) (.ref b)) Q E s := by
  obtain ⟨⟨cls, dd, data, sl⟩, ho, hc, n, hd⟩ := id hl
  obtain ⟨⟨cls2, dd2, data2, sl2⟩, ho2, hc2, n2, hd2⟩ := id hb
  simp only at hc hd hc2 hd2
  subst hc hd hc2 hd2
  exact richCompare_meets_room (op := .Lt) ⟨_, ho, rfl⟩ ⟨_, ho2, rfl⟩ PySem.F.slot_tuple_lt PySem.F.entry_tuple_lt (PySem.F.args_tuple_lt_2 _ _) (tuple_lt_ints l b items items2 n n2 dd dd2 sl sl2 ns ms hi hj)
    ⟨ho, ho2, show Value.bool (lexLt ns ms) ≠ Value.notImplemented ∧ Q (.bool (lexLt ns ms)) s from ⟨(fun x => nomatch x), h⟩⟩ hu
noncomputable def sIx (n d : Nat) : Option Int → Nat
  | none => d
  | some v => if v < 0 then (v + (n : Int)).toNat else min v.toNat n
theorem sIx_none (n d : Nat) : sIx n d none = d := rfl
theorem sIx_nat (n d k : Nat) : sIx n d (some (k : Int)) = min k n := by
  show (if (k : Int) < 0 then ((k : Int) + (n : Int)).toNat else min (k : Int).toNat n) = min k n
  rw [if_neg (by omega), Int.toNat_natCast]
end
end HT
namespace L2
open PySem PySem.Spec PyProof.Rows
noncomputable abbrev TO := St → Hp → (Option Int → Hp → Prop) → Prop
noncomputable def PO (X : Cx) (e : Option Expr) (t : TO) : Prop :=
  ∀ (pins : List (Addr × Obj)) (s : Shared) (σ : St) (H : Hp) (Q : Option Int → Hp → Prop), Inv X pins σ H s → t σ H Q →
    wpAny (model X.prog X.w) X.A (evalPart e X.env) (fun u s' => ∃ o H', Inv X pins σ H' s' ∧ IsPart u o ∧ Q o H') X.xe s
noncomputable def tNoPart : TO := fun _ H Q => Q none H
inductive TPartR (Q : Option Int → Hp → Prop) (x : V) (H1 : Hp) : Prop
  | mk (i : _) (h0 : x = .int i) (h1 : Q (some i) H1) : TPartR Q x H1
noncomputable def tPart (t : TE) : TO := fun σ H Q => t σ H (TPartR Q)
theorem intsAre_of {ns : List Int} : ∀ {us : List Value}, Vals (ns.map V.int) us → IntsAre us ns := by
  induction ns with
  | nil => intro us r; rw [List.map_nil] at r; cases r; exact .nil
  | cons n ns ih =>
    intro us r
    rw [List.map_cons] at r
    cases r with
    | cons r1 r2 =>
      obtain ⟨t, e⟩ := r1
      subst e
      exact .cons n t (ih r2)
section
variable {X : Cx} {e : Expr} {te : TE} {lo hi : Option Expr} {tl th : TO} {pos p2 : Pos}
theorem po_none : PO X none tNoPart := by
  intro pins s σ H Q I h
  rw [evalPart_none]
  exact wpAny_pure ⟨none, H, I, .none, h⟩
theorem po_some (h : PE X e te) : PO X (some e) (tPart te) := by
  intro pins s σ H Q I hw
  rw [evalPart_some]
  refine thn (h pins s σ H _ I hw) fun u s1 ⟨x, H1, I1, r1, q1⟩ => ?_
  obtain ⟨i, rfl, q⟩ := q1
  obtain ⟨t, rfl⟩ := r1
  exact ⟨some i, H1, I1, .int i t, q⟩
noncomputable def SlR (X : Cx) (r : V → Option Int → Option Int → Hp → VK → Prop) : Prop :=
  ∀ (pins : List (Addr × Obj)) (s : Shared) (σ : St) (H : Hp) (x : V) (v vl vu : Value) (lo hi : Option Int) (sl : Addr) (Q : VK), Inv X pins σ H s → RelV x v → s.heap.IsSliceOf sl vl vu .none → IsPart vl lo → IsPart vu hi → r x lo hi H Q →
    ∃ T id, typeLookup (.type T) "__getitem__" = pure (some (.builtin id)) ∧ s.TypeIs v T ∧ wpAny (model X.prog X.w) X.A (getItem v (.ref sl)) (EP X pins σ Q) X.xe s
noncomputable def tSl (r : V → Option Int → Option Int → Hp → VK → Prop) (te : TE) (tl th : TO) : TE := fun σ H Q => te σ H fun x H1 => tl σ H1 fun l H2 => th σ H2 fun u H3 => r x l u H3 Q
theorem pe_slice {r : V → Option Int → Option Int → Hp → VK → Prop} (hr : SlR X r) (he : PE X e te) (hl : PO X lo tl) (hu : PO X hi th) : PE X (.Subscript e (.Slice lo hi none p2) pos) (tSl r te tl th) := by
  intro pins s σ H Q I h
  refine Subscript_ (thn (he pins s σ H _ I h) fun v s1 ⟨x, H1, I1, r1, q1⟩ => ?_)
  refine wpAny_Slice (thn (hl pins s1 σ H1 _ I1 q1) fun vl s2 ⟨l, H2, I2, pl, q2⟩ => thn (hu pins s2 σ H2 _ I2 q2) fun vu s3 ⟨u, H3, I3, pu, q3⟩ => ?_)
  rw [evalPart_none]
  refine wpAny_pure ?_
  have I4 : Inv X pins σ H3 { s3 with heap := s3.heap.push { cls := .type "slice", data := .fields #[vl, vu, .none] } } := I3.kept (t' := s3.toks) fun b ob q => Heap.get?_push_of_some _ q
  obtain ⟨T, id, hT, ht, hg⟩ := hr pins { s3 with heap := s3.heap.push { cls := .type "slice", data := .fields #[vl, vu, .none] } } σ H3 x v vl vu l u s3.heap.objs.size Q I4 r1 (Heap.IsSliceOf.new ..) pl pu q3
  show wpAny (model X.prog X.w) X.A (subscriptTail e (.Slice lo hi none p2) v (.ref s3.heap.objs.size)) (EP X pins σ Q) X.xe { s3 with heap := s3.heap.push { cls := .type "slice", data := .fields #[vl, vu, .none] } }
  exact tail_any (ops := [.ref s3.heap.objs.size, v]) ht hT hg (by with_unfolding_all rfl)
noncomputable def cutV (xs : List V) (lo hi : Option Int) : List V := (xs.drop (HT.sIx xs.length 0 lo)).take (HT.sIx xs.length xs.length hi - HT.sIx xs.length 0 lo)
theorem cutV_length (xs : List V) (lo hi : Option Int) : (cutV xs lo hi).length ≤ xs.length := by
  unfold cutV
  rw [List.length_take, List.length_drop]
  omega
inductive RLtTR (K : PySem.W.Frag) (x : V) (y : V) (H : Hp) (Q : VK) : Prop
  | mk (a b ns ms : _) (h0 : x = .ref a) (h1 : y = .ref b) (h2 : SqT K H a (ns.map V.int)) (h3 : SqT K H b (ms.map V.int)) (h4 : Q (.bl (HT.lexLt ns ms)) H) : RLtTR K x y H Q
noncomputable def rLtT (K : PySem.W.Frag) : R2 := fun x y H Q => RLtTR K x y H Q
theorem op_ltT (hu : X.A.units < cLine) : OpR X (compareOp .Lt) (rLtT X.K) := by
  intro pins s σ H x y v u Q I rx ry h
  obtain ⟨a, b, ns, ms, rfl, rfl, ha, hb, q⟩ := h
  cases rx
  cases ry
  obtain ⟨its, r1, p1, _⟩ := I.tuple ha
  obtain ⟨its2, r2, p2, _⟩ := I.tuple hb
  have i1 : IntsAre its.toArray.toList ns := intsAre_of r1
  have i2 : IntsAre its2.toArray.toList ms := intsAre_of r2
  exact HT.lt_tupInts p1 p2 i1 i2 hu ⟨.bl (HT.lexLt ns ms), H, I, rfl, q⟩
end
end L2
namespace L2
open PySem PySem.Spec PyProof.Rows
noncomputable def ixN (n : Nat) (i : Int) : Option Nat := if 0 ≤ i then (if i < n then some i.toNat else none) else if -(n : Int) ≤ i then some (i + n).toNat else none
noncomputable def atI {α : Type} (xs : List α) (i : Int) : Option α := (ixN xs.length i).bind fun j => xs[j]?
theorem ixN_seq {n : Nat} {i : Int} {j : Nat} (h : ixN n i = some j) : seqIndex? i n = some j ∧ j < n ∧ -(n : Int) ≤ i ∧ i < n := by
  unfold ixN at h
  by_cases h0 : 0 ≤ i
  · rw [if_pos h0] at h
    by_cases h1 : i < n
    · rw [if_pos h1] at h
      have e : i.toNat = j := Option.some.inj h
      exact ⟨by rw [seqIndex_of h0 h1, e], by omega, by omega, h1⟩
    · rw [if_neg h1] at h; cases h
  · rw [if_neg h0] at h
    by_cases h1 : -(n : Int) ≤ i
    · rw [if_pos h1] at h
      have e : (i + n).toNat = j := Option.some.inj h
      exact ⟨by rw [seqIndex_neg (by omega) h1, e], by omega, h1, by omega⟩
    · rw [if_neg h1] at h; cases h
theorem atI_get {α : Type} {xs : List α} {i : Int} {v : α} (h : atI xs i = some v) : ∃ j, seqIndex? i xs.length = some j ∧ xs[j]? = some v ∧ j < xs.length ∧ -(xs.length : Int) ≤ i ∧ i < xs.length := by
  unfold atI at h
  cases e : ixN xs.length i with
  | none => rw [e] at h; cases h
  | some j =>
    rw [e] at h
    obtain ⟨h1, h2, h3, h4⟩ := ixN_seq e
    exact ⟨j, h1, h, h2, h3, h4⟩
theorem atI_nat {α : Type} {xs : List α} {j : Nat} {v : α} (h : xs[j]? = some v) : atI xs (j : Int) = some v := by
  have hj : j < xs.length := (List.getElem?_eq_some_iff.mp h).1
  have e : ixN xs.length (j : Int) = some j := by
    unfold ixN
    rw [if_pos (by omega), if_pos (by omega)]; simp
  unfold atI; rw [e]; exact h
noncomputable def PlainIx (b : Expr) : Prop := ∀ o i, subscripted b false o i = operate [o, i] (getItem o i)
noncomputable def IxR (X : Cx) (r : R2) : Prop :=
  ∀ (value slice : Expr) (pins : List (Addr × Obj)) (s : Shared) (σ : St) (H : Hp) (x y : V) (v u : Value) (Q : VK), Inv X pins σ H s → RelV x v → RelV y u → r x y H Q →
    subscripted slice false v u = operate [v, u] (getItem v u) → wpAny (model X.prog X.w) X.A (subscriptTail value slice v u) (EP X pins σ Q) X.xe s
noncomputable def MtR (X : Cx) (id : String) (r : V → List V → Hp → VK → Prop) : Prop :=
  ∀ (pins : List (Addr × Obj)) (s : Shared) (σ : St) (H : Hp) (x : V) (xs : List V) (v : Value) (us : List Value) (Q : VK), Inv X pins σ H s → RelV x v → Vals xs us → r x xs H Q →
    wpAny (model X.prog X.w) X.A (call (.builtin id) (v :: us)) (EP X pins σ Q) X.xe s
section
variable {X : Cx} {a b : Expr} {ta tb : TE} {pos : Pos}
theorem pe_ix {r : R2} (hr : IxR X r) (ha : PE X a ta) (hb : PE X b tb) (hs : PlainIx b) : PE X (.Subscript a b pos) (tOp r ta tb) := by
  intro pins s σ H Q I h
  exact Subscript_ (binT ha hb I h fun v u s2 x y H2 I2 rx ry q => hr a b pins s2 σ H2 x y v u Q I2 rx ry q (hs _ _))
inductive RIxLR (K : PySem.W.Frag) (x : V) (y : V) (H : Hp) (Q : VK) : Prop
  | mk (p xs i v : _) (h0 : x = .ref p) (h1 : y = .int i) (h2 : SqL K H p xs) (h3 : atI xs i = some v) (h4 : Q v H) : RIxLR K x y H Q
noncomputable def rIxL (K : PySem.W.Frag) : R2 := fun x y H Q => RIxLR K x y H Q
inductive RIxTR (K : PySem.W.Frag) (x : V) (y : V) (H : Hp) (Q : VK) : Prop
  | mk (p xs i v : _) (h0 : x = .ref p) (h1 : y = .int i) (h2 : SqT K H p xs) (h3 : atI xs i = some v) (h4 : Q v H) : RIxTR K x y H Q
noncomputable def rIxT (K : PySem.W.Frag) : R2 := fun x y H Q => RIxTR K x y H Q
theorem ix_list : IxR X (rIxL X.K) := by
  intro value slice pins s σ H x y v u Q I rx ry h hs
  obtain ⟨p, xs, i, z, rfl, rfl, hq, he, q⟩ := h
  cases rx
  obtain ⟨t, rfl⟩ := ry
  obtain ⟨its, r, pl, hz⟩ := I.list hq
  obtain ⟨j, h1, h2, h3, h4, h5⟩ := atI_get he
  obtain ⟨w, ew, rw'⟩ := r.get h2
  have hl := r.length
  have hn := line63
  have fin : EP X pins σ Q w s := ⟨z, H, I, rw', q⟩
  by_cases h0 : 0 ≤ i
  · have hj : i.toNat = j := by
      rw [seqIndex_of h0 h5] at h1
      exact Option.some.inj h1
    exact item_listR pl.isList h0 (by omega) (by rw [hj]; simpa using ew) fin hs
  · have hj : (i + (its.toArray.size : Int)).toNat = j := by
      rw [seqIndex_neg (by omega) h4] at h1
      rw [List.size_toArray, ← hl]
      exact Option.some.inj h1
    exact subscriptTail_builtinR (x := w) pl.isList.typeIs slot_list_getitem.lookup
      (wpAny_getItem_list_neg (Q := fun r s' => r = w ∧ EP X pins σ Q r s') pl.isList (by omega) (by rw [List.size_toArray] <;> omega) (by omega) (by rw [hj]; simpa using ew) ⟨rfl, fin⟩) hs
theorem ix_tup : IxR X (rIxT X.K) := by
  intro value slice pins s σ H x y v u Q I rx ry h hs
  obtain ⟨p, xs, i, z, rfl, rfl, hq, he, q⟩ := h
  cases rx
  obtain ⟨t, rfl⟩ := ry
  obtain ⟨its, r, pl, hz⟩ := I.tuple hq
  obtain ⟨j, h1, h2, h3, h4, h5⟩ := atI_get he
  obtain ⟨w, ew, rw'⟩ := r.get h2
  have hl := r.length
  have hn := line63
  have fin : EP X pins σ Q w s := ⟨z, H, I, rw', q⟩
  exact subscriptTail_builtinR (x := w) pl.typeIs slot_tuple_getitem.lookup
    (getItem_tuple (j := j) (Q := fun r s' => r = w ∧ EP X pins σ Q r s') pl (by omega) (by omega) (by rw [List.size_toArray, ← hl]; exact h1) (by simpa using ew) ⟨rfl, fin⟩) hs
theorem mapSeq_set (its : List Value) (n j : Nat) (u : Value) : Obj.mapSeq (·.setIfInBounds j u) { cls := .type "list", data := .seq its.toArray n } = { cls := .type "list", data := .seq (its.set j u).toArray n } := by
  simp [Obj.mapSeq]
theorem Inv.lst {pins : List (Addr × Obj)} {σ : St} {H : Hp} {s : Shared} {p : Addr} {xs : List V} (I : Inv X pins σ H s) (h : H p = some (.lst xs)) :
    ∃ (its : List Value) (n : Nat), Vals xs its ∧ s.heap.get? p = some { cls := .type "list", data := .seq its.toArray n } ∧ xs.length ≤ sizeLine := by
  obtain ⟨z, its, n, r, e⟩ := I.hok p _ h
  exact ⟨its, n, r, e, z⟩
theorem Inv.lstUpd {pins : List (Addr × Obj)} {σ : St} {H : Hp} {s : Shared} {p : Addr} {xs ys : List V} {its its' : List Value} {n n' : Nat} {f : Obj → Obj} (I : Inv X pins σ H s) (h : H p = some (.lst xs))
    (ho : s.heap.get? p = some { cls := .type "list", data := .seq its.toArray n }) (hf : f { cls := .type "list", data := .seq its.toArray n } = { cls := .type "list", data := .seq its'.toArray n' }) (r : Vals ys its') (hz : ys.length ≤ sizeLine) (t : Nat) :
    Inv X pins σ (upd H p (.lst ys)) { s with heap := s.heap.update p f, toks := t } := by
  have e : (s.heap.update p f).get? p = some { cls := .type "list", data := .seq its'.toArray n' } := by
    rw [Heap.get?_update_self f ho (by rw [hf] <;> rfl), hf]
  refine I.write (x := p) (e := p) (by rw [h]; trivial) (.inl rfl) (fun b u hb q => (Heap.get?_update_other _ _ (Ne.symm hb)).trans q) ⟨_, e⟩ ?_
  exact ⟨hz, its', n', r, e⟩
inductive RSetLR (o : V) (i : V) (v : V) (H : Hp) (Q : Hp → Prop) : Prop
  | mk (p xs k j : _) (h0 : o = .ref p) (h1 : i = .int k) (h2 : H p = some (.lst xs)) (h3 : ixN xs.length k = some j) (h4 : Q (upd H p (.lst (xs.set j v)))) : RSetLR o i v H Q
noncomputable def rSetL : V → V → V → Hp → (Hp → Prop) → Prop := fun o i v H Q => RSetLR o i v H Q
theorem set_list : PSet X rSetL := by
  intro pins s σ H o i v ov iv u Q I ro ri rv h
  obtain ⟨p, xs, k, j, rfl, rfl, hp, hj, q⟩ := h
  cases ro
  obtain ⟨t, rfl⟩ := ri
  obtain ⟨its, n, r, ho, hz⟩ := I.lst hp
  obtain ⟨h1, h2, h3, h4⟩ := ixN_seq hj
  have hl := r.length
  have hn := line63
  have I' : Inv X pins σ (upd H p (.lst (xs.set j v))) { s with heap := s.heap.update p (Obj.mapSeq (·.setIfInBounds j u)) } :=
    I.lstUpd hp ho (mapSeq_set its n j u) (r.set rv j) (by rw [List.length_set]; exact hz) s.toks
  by_cases h0 : 0 ≤ k
  · have hk : k.toNat = j := by
      rw [seqIndex_of h0 h4] at h1
      exact Option.some.inj h1
    exact PySem.W.ki_setAt ho h0 (by omega) (by rw [List.size_toArray, ← hl]; exact h4) (by rw [hk]; exact ⟨_, I', q⟩)
  · have hk : (k + (its.toArray.size : Int)).toNat = j := by
      rw [seqIndex_neg (by omega) h3] at h1
      rw [List.size_toArray, ← hl]
      exact Option.some.inj h1
    exact PySem.W.ki_setBack ho (by omega) (by rw [List.size_toArray, ← hl]; exact h3) (by omega) (by rw [hk]; exact ⟨_, I', q⟩)
theorem slice_bounds (lo hi : Option Int) (n : Nat) : (sliceBounds lo hi none n).1 = ((HT.sIx n 0 lo : Nat) : Int) ∧ (sliceBounds lo hi none n).2.1 = ((HT.sIx n n hi : Nat) : Int) ∧ (sliceBounds lo hi none n).2.2 = 1 := by
  refine ⟨?_, ?_, rfl⟩
  · cases lo with
    | none => simp [sliceBounds, HT.sIx]
    | some i =>
      simp only [sliceBounds, HT.sIx, Option.getD_none, show (1 : Int) > 0 by decide, if_true]
      by_cases h : i < 0
      · simp only [h, if_true] <;> omega
      · simp only [h, if_false] <;> omega
  · cases hi with
    | none => simp [sliceBounds, HT.sIx]
    | some i =>
      simp only [sliceBounds, HT.sIx, Option.getD_none, show (1 : Int) > 0 by decide, if_true]
      by_cases h : i < 0
      · simp only [h, if_true] <;> omega
      · simp only [h, if_false] <;> omega
theorem slicePick_cut (its : List Value) (lo hi : Option Int) : slicePick its.toArray lo hi none = ((its.drop (HT.sIx its.length 0 lo)).take (HT.sIx its.length its.length hi - HT.sIx its.length 0 lo)).toArray := by
  obtain ⟨h1, h2, h3⟩ := slice_bounds lo hi its.toArray.size
  unfold slicePick
  rw [h1, h2, h3]
  simp only [sliceRange_one, pick_run, List.size_toArray] <;> rfl
inductive RSlLR (K : PySem.W.Frag) (x : V) (lo : Option Int) (hi : Option Int) (H : Hp) (Q : VK) : Prop
  | mk (a xs : _) (h0 : x = .ref a) (h1 : SqL K H a xs) (h2 : ∀ p, H p = none → Q (.ref p) (upd H p (.lst (cutV xs lo hi)))) : RSlLR K x lo hi H Q
noncomputable def rSlL (K : PySem.W.Frag) : V → Option Int → Option Int → Hp → VK → Prop := fun x lo hi H Q => RSlLR K x lo hi H Q
theorem sl_list : SlR X (rSlL X.K) := by
  intro pins s σ H x v vl vu lo hi sl Q I rx hs pl pu h
  obtain ⟨a, xs, rfl, hx, q⟩ := h
  cases rx
  obtain ⟨its, r, ht, hz⟩ := I.list hx
  have hlen := r.length
  refine ⟨"list", _, slot_list_getitem.lookup, ht.isList.typeIs, ?_⟩
  refine wpAny_getItem_list_slice ht.isList hs pl pu .none (by simp) ?_ (by rw [List.size_toArray] <;> omega)
  rw [slicePick_cut, ← hlen]
  refine ⟨.ref s.heap.objs.size, _, I.laid (t' := s.toks) (o := .lst (cutV xs lo hi)) (fun b ob q => Heap.get?_push_of_some _ q) (Nat.le_refl _) ?_, rfl, q _ (I.hok.fresh (Nat.le_refl _))⟩
  exact ⟨Nat.le_trans (cutV_length xs lo hi) hz, _, 0, (r.drop (HT.sIx xs.length 0 lo)).take (HT.sIx xs.length xs.length hi - HT.sIx xs.length 0 lo), Heap.get?_push_size _ rfl⟩
inductive Call_len_seqR (K : PySem.W.Frag) (xs : List V) (H : Hp) (Q : VK) : Prop
  | mk (p ys : _) (h0 : xs = [.ref p]) (h1 : (SqL K H p ys ∨ SqT K H p ys)) (h2 : Q (.int ys.length) H) : Call_len_seqR K xs H Q
theorem call_len_seq : CallR X (.builtin "len") (Call_len_seqR X.K) := by
  intro pins s σ H xs us Q I r h
  obtain ⟨p, ys, rfl, hq, q⟩ := h
  obtain ⟨u, rfl, rx⟩ := vals1 r
  cases rx
  have hn := line63
  rcases hq with hq | hq
  · obtain ⟨its, r', pl, hz⟩ := I.list hq
    have hlen := r'.length
    exact Calls.call_len_list pl.isList (by simp only [List.size_toArray] <;> omega) ⟨.int ys.length, H, I.tok _, ⟨s.toks + 1, by rw [List.size_toArray, hlen]⟩, q⟩
  · obtain ⟨its, r', pl, hz⟩ := I.tuple hq
    have hlen := r'.length
    exact len_tuple pl (by simp only [List.size_toArray] <;> omega) ⟨.int ys.length, H, I.tok _, ⟨s.toks + 1, by rw [List.size_toArray, hlen]⟩, q⟩
inductive Call_list_ofR (K : PySem.W.Frag) (xs : List V) (H : Hp) (Q : VK) : Prop
  | mk (p ys : _) (h0 : xs = [.ref p]) (h1 : (SqL K H p ys ∨ SqT K H p ys)) (h2 : ∀ l, H l = none → Q (.ref l) (upd H l (.lst ys))) : Call_list_ofR K xs H Q
theorem call_list_of : CallR X (.type "list") (Call_list_ofR X.K) := by
  intro pins s σ H xs us Q I r h
  obtain ⟨p, ys, rfl, hq, q⟩ := h
  obtain ⟨u, rfl, rx⟩ := vals1 r
  cases rx
  have fin : ∀ (its : List Value), Vals ys its → ys.length ≤ sizeLine → ∀ (h' : Heap) (c' : Nat), (∀ b o', s.heap.get? b = some o' → h'.get? b = some o') →
      h'.get? s.heap.objs.size = some { cls := .type "list", dict := none, data := .seq its.toArray c', slots := #[] } → EP X pins σ Q (.ref s.heap.objs.size) { s with heap := h' } := fun its r' hz h' c' kp e =>
    ⟨.ref s.heap.objs.size, _, I.laid (t' := s.toks) kp (Nat.le_refl _) (show ObjOk X.prog X.w _ h' _ (.lst ys) from ⟨hz, its, c', r', e⟩), rfl, q _ (I.hok.fresh (Nat.le_refl _))⟩
  rcases hq with hq | hq
  · obtain ⟨its, r', pl, hz⟩ := I.list hq
    have hlen := r'.length
    obtain ⟨o, ho, hc, n, hd⟩ := pl.isList
    exact call_list_seq p (.inl rfl) ho hc hd (fun h' c' kp e => fin its r' hz h' c' kp e) (by simp only [List.size_toArray] <;> omega)
  · obtain ⟨its, r', pl, hz⟩ := I.tuple hq
    have hlen := r'.length
    obtain ⟨o, ho, hc, n, hd⟩ := pl
    exact call_list_seq p (.inr rfl) ho hc hd (fun h' c' kp e => fin its r' hz h' c' kp e) (by simp only [List.size_toArray] <;> omega)
noncomputable def tyV (K : PySem.W.Frag) (T : String) (x : V) (H : Hp) : Prop := match x with
  | .ref p => (T = "list" ∧ ∃ xs, SqL K H p xs) ∨ False
  | _ => False
theorem tyV_is {pins : List (Addr × Obj)} {σ : St} {H : Hp} {s : Shared} {T : String} {x : V} {v : Value} (I : Inv X pins σ H s) (r : RelV x v) (ty : tyV X.K T x H) :
    s.TypeIs v T ∧ ∀ a, v = .ref a → ∃ ob, s.heap.get? a = some ob ∧ ob.dict = none := by
  cases x with
  | ref p =>
    cases r
    rcases ty with ⟨rfl, xs, hq⟩ | ty
    · obtain ⟨its, _, pl, _⟩ := I.list hq
      refine ⟨pl.isList.typeIs, fun a e => ?_⟩
      cases e
      obtain ⟨o, n, e, c, hd, _⟩ := pl
      exact ⟨o, e, hd⟩
    · exact ty.elim
  | _ => exact absurd ty id
noncomputable def tBM0 (K : PySem.W.Frag) (T : String) (r : V → List V → Hp → VK → Prop) (to : TE) : TE := fun σ H Q => to σ H fun x H1 => tyV K T x H1 ∧ r x [] H1 Q
noncomputable def tBM (K : PySem.W.Frag) (T : String) (r : V → List V → Hp → VK → Prop) (to : TE) (t : TA) : TE := fun σ H Q => to σ H fun x H1 => tyV K T x H1 ∧ t σ H1 fun xs H2 => r x xs H2 Q
variable {o e : Expr} {es : List Expr} {to : TE} {t : TA} {name : Str} {apos cpos : Pos} {T id : String} {r : V → List V → Hp → VK → Prop}
theorem pe_bm0 (pa : PlainAttrs T) (slot : Slot T name id) (hty : typeOf (.builtin id) = pure (.type "method_descriptor")) (hm : MtR X id r) (ho : PE X o to)
    (hbase : attributeBase o name X.env (eval o X.env) = eval o X.env := by rfl) (hline : (apos.endLine == cpos.line) = true := by rfl) : PE X (.Call (.Attribute o name apos) [] [] cpos) (tBM0 X.K T r to) := by
  intro pins s σ H Q I h
  refine wpAny_Call_method0_late hbase hline (thn (ho pins s σ H _ I h) fun v s1 ⟨x, H1, I1, r1, ty, q1⟩ => ?_)
  obtain ⟨h1, h2⟩ := tyV_is I1 r1 ty
  exact ⟨T, id, pa, slot, hty, h1, h2, Calls.callWith_builtin rfl (PySem.evalArgs_none (hm pins s1 σ H1 x [] v [] Q I1 r1 .nil q1))⟩
theorem pe_bm (pa : PlainAttrs T) (slot : Slot T name id) (hty : typeOf (.builtin id) = pure (.type "method_descriptor")) (hm : MtR X id r) (ho : PE X o to) (ha : PA X (e :: es) t)
    (hbase : attributeBase o name X.env (eval o X.env) = eval o X.env := by rfl)
    (hfew : ((backTo cpos (starEach (e :: es) X.env)).all (fun x => !x.1) && (backToKw cpos (keywordEach [] X.env)).all (fun x => x.1.isSome)
      && decide ((e :: es).length + ([] : List Keyword).length + (if ([] : List Keyword).isEmpty then 0 else 1) < 30)) = true := by rfl)
    (hline : (apos.endLine == cpos.line) = true := by rfl) (hs : starEach (e :: es) X.env = (false, eval e X.env) :: starEach es X.env := by rfl) (hplain : (backTo cpos (starEach es X.env)).any (·.1) = false := by rfl) :
    PE X (.Call (.Attribute o name apos) (e :: es) [] cpos) (tBM X.K T r to t) := by
  intro pins s σ H Q I h
  refine wpAny_Call_method_late hbase hfew hline rfl (thn (ho pins s σ H _ I h) fun v s1 ⟨x, H1, I1, r1, ty, q1⟩ => ?_)
  obtain ⟨h1, h2⟩ := tyV_is I1 r1 ty
  refine ⟨T, id, pa, slot, hty, h1, h2, ?_⟩
  have hA := ha cpos pins s1 σ H1 _ I1 q1
  rw [hs] at hA ⊢
  refine Calls.callWith_builtin (by show (false || (backTo cpos (starEach es X.env)).any (·.1)) = false; rw [hplain] <;> rfl) (Calls.evalArgs_plain ?_)
  exact thn hA fun us s2 ⟨vs, H2, I2, r2, q2⟩ => hm pins s2 σ H2 x vs v us Q I2 r1 r2 q2
/- xs.append(e), list.index on a module's tuple .. are MtR facts of 06m -/
end
end L2
namespace L2
open PySem PySem.Spec PyProof.Rows
noncomputable def MtM (X : Cx) (id : String) (r : V → List V → Hp → VK → Prop) : Prop :=
  ∀ (pins : List (Addr × Obj)) (s : Shared) (σ : St) (H : Hp) (x : V) (xs : List V) (v : Value) (us : List Value) (Q : VK), Inv X pins σ H s → RelV x v → Vals xs us → r x xs H Q →
    wpAny (model X.prog X.w) X.A (call (.builtin id) (v :: us)) (EP X pins σ Q) X.xe s
theorem Vals.one : ∀ {x : V} {us : List Value}, Vals [x] us → ∃ u, us = [u] ∧ RelV x u
  | _, _, .cons r .nil => ⟨_, rfl, r⟩
theorem Vals.zero : ∀ {us : List Value}, Vals [] us → us = []
  | _, .nil => rfl
theorem Vals.dropLast {xs : List V} {us : List Value} (h : Vals xs us) : Vals xs.dropLast us.dropLast := by
  induction h with
  | nil => exact .nil
  | cons r t ih =>
    cases t with
    | nil => exact .nil
    | cons q t' => exact .cons r ih
theorem erase_last {α : Type} (l : List α) : l.eraseIdx (l.length - 1) = l.dropLast := by
  induction l with
  | nil => rfl
  | cons a r ih =>
    cases r with
    | nil => rfl
    | cons b r =>
      have e : (a :: b :: r).length - 1 = ((b :: r).length - 1) + 1 := by
        have h1 : (a :: b :: r).length = r.length + 2 := rfl
        have h2 : (b :: r).length = r.length + 1 := rfl
        omega
      rw [e, List.eraseIdx_cons_succ, ih]
      all_goals rfl
section
variable {X : Cx} {pins : List (Addr × Obj)} {σ : St} {H : Hp} {s : Shared} {l b : Addr} {xs ys zs : List V}
theorem Inv.lset {its its' : List Value} {n : Nat} {f : Array Value → Array Value} {t' : Nat} (I : Inv X pins σ H s) (hH : H l = some (.lst xs))
    (e : s.heap.get? l = some { cls := .type "list", data := .seq its.toArray n }) (hf : f its.toArray = its'.toArray) (hv : Vals ys its') (hz : ys.length ≤ sizeLine) :
    Inv X pins σ (upd H l (.lst ys)) { s with heap := s.heap.update l (Obj.mapSeq f), toks := t' } := by
  have q := PySem.IsL.update e f
  rw [hf] at q
  refine I.write (x := l) (e := l) (by rw [hH]; exact trivial) (.inl rfl) (fun b' u hb hu => (Heap.get?_update_other s.heap (Obj.mapSeq f) (Ne.symm hb)).trans hu) ⟨_, q⟩ ?_
  exact ⟨hz, its', _, hv, q⟩
theorem Inv.lnew {its : List Value} {t' : Nat} (I : Inv X pins σ H s) (hv : Vals ys its) (hz : ys.length ≤ sizeLine) :
    Inv X pins σ (upd H s.heap.objs.size (.lst ys)) { s with heap := s.heap.push { cls := .type "list", data := .seq its.toArray }, toks := t' } :=
  I.laid (fun _ _ q => Heap.get?_push_of_some _ q) (Nat.le_refl _) ⟨hz, its, 0, hv, Heap.get?_push_size _ rfl⟩
theorem Inv.fresh (I : Inv X pins σ H s) : H s.heap.objs.size = none := I.hok.fresh (Nat.le_refl _)
theorem Inv.lstM (I : Inv X pins σ H s) (hH : H l = some (.lst xs)) : xs.length ≤ sizeLine ∧ ∃ (its : List Value) (n : Nat), Vals xs its ∧ xs.length = its.length ∧ s.heap.get? l = some { cls := .type "list", data := .seq its.toArray n } := by
  obtain ⟨z, its, n, r, e⟩ := I.hok l _ hH
  exact ⟨z, its, n, r, r.length, e⟩
theorem notLongL {n : Nat} (h : n ≤ sizeLine) : Builtin.List.listTooLong n = false := by
  unfold Builtin.List.listTooLong
  exact decide_eq_false (by omega)
end
section
variable {X : Cx}
inductive RAppendR (x : V) (vs : List V) (H : Hp) (Q : VK) : Prop
  | mk (l xs y : _) (h0 : x = .ref l) (h1 : vs = [y]) (h2 : H l = some (.lst xs)) (h3 : xs.length < sizeLine) (h4 : Q .non (upd H l (.lst (xs ++ [y])))) : RAppendR x vs H Q
noncomputable def rAppend : V → List V → Hp → VK → Prop := fun x vs H Q => RAppendR x vs H Q
theorem mt_append : MtM X "list.append" rAppend := by
  intro pins s σ H x vs v us Q I rx rv h
  obtain ⟨l, xs, y, rfl, rfl, hH, hz, q⟩ := h
  cases rx
  obtain ⟨u, rfl, ru⟩ := rv.one
  obtain ⟨z, its, n, r, hl, e⟩ := I.lstM hH
  refine call_meets F.slot_list_append ⟨_, e, rfl⟩ F.entry_list_append (F.args_list_append_2 _ _) (PySem.list_append l its.toArray n u (by rw [List.size_toArray]; omega)) ⟨e, ?_⟩
  refine ⟨.non, _, I.lset (its' := its ++ [u]) hH e (by simp) (r.append (.cons ru .nil)) ?_, rfl, q⟩
  rw [List.length_append, List.length_singleton]
  omega
inductive RExtendR (x : V) (vs : List V) (H : Hp) (Q : VK) : Prop
  | mk (l b xs zs : _) (h0 : x = .ref l) (h1 : vs = [.ref b]) (h2 : H l = some (.lst xs)) (h3 : H b = some (.lst zs)) (h4 : xs.length + zs.length ≤ sizeLine) (h5 : Q .non (upd H l (.lst (xs ++ zs)))) : RExtendR x vs H Q
noncomputable def rExtend : V → List V → Hp → VK → Prop := fun x vs H Q => RExtendR x vs H Q
theorem mt_extend : MtM X "list.extend" rExtend := by
  intro pins s σ H x vs v us Q I rx rv h
  obtain ⟨l, b, xs, zs, rfl, rfl, hH, hB, hz, q⟩ := h
  cases rx
  obtain ⟨u, rfl, ru⟩ := rv.one
  cases ru
  obtain ⟨z, its, n, r, hl, e⟩ := I.lstM hH
  obtain ⟨z2, its2, n2, r2, hl2, e2⟩ := I.lstM hB
  have hsz : its.toArray.size + its2.toArray.size ≤ sizeLine := by rw [List.size_toArray, List.size_toArray]; omega
  have hlong : ¬ (!its.toArray.isEmpty && Builtin.List.listTooLong (its.toArray.size + its2.toArray.size)) = true := by
    rw [notLongL hsz, Bool.and_false]
    exact Bool.false_ne_true
  refine call_meets F.slot_list_extend ⟨_, e, rfl⟩ F.entry_list_extend (F.args_list_extend_2 _ _)
    (AutoSeq1.list_extend_list_list_0 l its.toArray n b its2.toArray n2 hlong (by rw [List.size_toArray]; omega) (by omega)) ⟨e, e2, ?_⟩
  refine ⟨.non, _, I.lset (its' := its ++ its2) hH e (by simp) (r.append r2) ?_, rfl, q⟩
  rw [List.length_append]
  omega
inductive RPopR (x : V) (vs : List V) (H : Hp) (Q : VK) : Prop
  | mk (l xs y : _) (h0 : x = .ref l) (h1 : vs = []) (h2 : H l = some (.lst xs)) (h3 : xs[xs.length - 1]? = some y) (h4 : Q y (upd H l (.lst xs.dropLast))) : RPopR x vs H Q
noncomputable def rPop : V → List V → Hp → VK → Prop := fun x vs H Q => RPopR x vs H Q
theorem mt_pop : MtM X "list.pop" rPop := by
  intro pins s σ H x vs v us Q I rx rv h
  obtain ⟨l, xs, y, rfl, rfl, hH, hy, q⟩ := h
  cases rx
  have hus := rv.zero
  subst hus
  obtain ⟨z, its, n, r, hl, e⟩ := I.lstM hH
  obtain ⟨u, hu, ru⟩ := r.get hy
  have hy' : its.toArray[its.toArray.size - 1]? = some u := by
    show its.toArray[its.length - 1]? = some u
    rw [← Array.getElem?_toList, ← hl]
    exact hu
  refine call_meets F.slot_list_pop ⟨_, e, rfl⟩ F.entry_list_pop (F.args_list_pop_1 _) (MeetsSeq.list_pop_last l its.toArray n u hy' (by rw [List.size_toArray]; omega)) ⟨e, ?_⟩
  refine ⟨y, _, I.lset (its' := its.dropLast) hH e ?_ r.dropLast ?_, ru, q⟩
  · show its.toArray.eraseIdxIfInBounds (its.toArray.size - 1) = its.dropLast.toArray
    rw [List.size_toArray, List.eraseIdxIfInBounds_toArray, erase_last]
  · rw [List.length_dropLast]
    omega
inductive RCatR (x : V) (y : V) (H : Hp) (Q : VK) : Prop
  | mk (l b xs zs : _) (h0 : x = .ref l) (h1 : y = .ref b) (h2 : H l = some (.lst xs)) (h3 : H b = some (.lst zs)) (h4 : xs.length + zs.length ≤ sizeLine) (h5 : ∀ p, H p = none → Q (.ref p) (upd H p (.lst (xs ++ zs)))) : RCatR x y H Q
noncomputable def rCat : R2 := fun x y H Q => RCatR x y H Q
theorem op_cat : OpR X (binaryOp .Add) rCat := by
  intro pins s σ H x y v u Q I rx ry h
  obtain ⟨l, b, xs, zs, rfl, rfl, hH, hB, hz, q⟩ := h
  cases rx
  cases ry
  obtain ⟨z, its, n, r, hl, e⟩ := I.lstM hH
  obtain ⟨z2, its2, n2, r2, hl2, e2⟩ := I.lstM hB
  refine PySem.P.add_list e e2 ?_ (by rw [List.size_toArray, List.size_toArray]; omega)
  have ea : its.toArray ++ its2.toArray = (its ++ its2).toArray := by simp
  rw [ea]
  exact ⟨.ref _, _, I.lnew (t' := s.toks) (r.append r2) (by rw [List.length_append]; omega), rfl, q _ I.fresh⟩
end
section
variable {prog : Program} {w : World} {A : Around} {E : Value → Shared → Prop} {s : Shared}
end
section
variable {X : Cx}
end
end L2
namespace L2
open PySem PySem.Spec PyProof.Rows
theorem Vals.ints : ∀ {ns : List Int} {us : List Value}, Vals (ns.map V.int) us → IntsAre us ns
  | [], us, h => by
    rw [List.map_nil] at h
    cases h
    exact IntsAre.nil
  | n :: ns, us, h => by
    rw [List.map_cons] at h
    cases h with
    | cons r t =>
      obtain ⟨k, rfl⟩ := r
      exact IntsAre.cons n k (Vals.ints t)
theorem Vals.bls : ∀ {bs : List Bool} {us : List Value}, Vals (bs.map V.bl) us → us = bs.map Value.bool
  | [], us, h => by
    rw [List.map_nil] at h
    cases h
    rfl
  | b :: bs, us, h => by
    rw [List.map_cons] at h
    cases h with
    | cons r t =>
      cases r
      rw [Vals.bls t, List.map_cons]
theorem Vals.ref1 {a : Addr} {us : List Value} (r : Vals [V.ref a] us) : us = [Value.ref a] := by
  cases r with
  | cons r t =>
    cases t
    cases r
    rfl
section
variable {prog : Program} {w : World} {A : Around} {E : Value → Shared → Prop} {s : Shared} {l : Addr} {its : List Value} {ns : List Int} {Q : Value → Shared → Prop}
theorem sum_raw (hh : A.handled = none) (hl : s.heap.IsList l its.toArray) (hi : IntsAre its ns)
    (h : ∀ h' tk t', (∀ b o, s.heap.get? b = some o → h'.get? b = some o) → Q (.int ns.sum t') { s with heap := h', toks := tk }) : wpAny (model prog w) A (call (.builtin "sum") [.ref l]) Q E s := by
  obtain ⟨xs, e⟩ := hi.allInts.items
  have hn : numsOf (intItems xs).toList = ns := by rw [← e]; exact hi.numsOf
  rw [nums_intItems] at hn
  rw [e] at hl
  refine PySem.sum_intListG hh hl fun h' tk t' hk => ?_
  have := h h' tk t' hk
  rw [preSum_eq, List.take_of_length_le (by simp), hn]; exact this
theorem min_raw (hh : A.handled = none) (hl : s.heap.IsList l its.toArray) (hi : IntsAre its ns) (hne : 0 < ns.length)
    (h : ∀ h' tk M t', (∀ b o, s.heap.get? b = some o → h'.get? b = some o) → M ∈ ns → (∀ a, a ∈ ns → M ≤ a) → Q (.int M t') { s with heap := h', toks := tk }) : wpAny (model prog w) A (call (.builtin "min") [.ref l]) Q E s := by
  obtain ⟨xs, e⟩ := hi.allInts.items
  have hn : numsOf (intItems xs).toList = ns := by rw [← e]; exact hi.numsOf
  rw [nums_intItems] at hn
  subst hn
  rw [e] at hl
  have hsz : 0 < xs.size := by simpa using hne
  refine PySem.min_intList hh hl hsz fun v h' tk hv hk => ?_
  obtain ⟨t, rfl⟩ := intItems_at hv
  obtain ⟨h1, h2⟩ := argBest_lt (numAt xs) (xs.size - 1)
  refine h h' tk _ t hk ?_ fun a ha => ?_
  · rw [numAt_eq]; exact PySem.getD_mem (by rw [List.length_map, Array.length_toList]; omega)
  · obtain ⟨j, hj, rfl⟩ := mem_getD ha
    rw [List.length_map, Array.length_toList] at hj
    rw [← numAt_eq]; exact h2 j (by omega)
end
section
variable {X : Cx}
inductive RSumR (K : PySem.W.Frag) (vs : List V) (H : Hp) (Q : VK) : Prop
  | mk (a : Addr) (ns : List Int) (h0 : vs = [V.ref a]) (h1 : SqL K H a (ns.map V.int)) (h2 : Q (.int ns.sum) H) : RSumR K vs H Q
noncomputable def rSum (K : PySem.W.Frag) : List V → Hp → VK → Prop := fun vs H Q => RSumR K vs H Q
inductive RMinR (K : PySem.W.Frag) (vs : List V) (H : Hp) (Q : VK) : Prop
  | mk (a : Addr) (ns : List Int) (h0 : vs = [V.ref a]) (h1 : SqL K H a (ns.map V.int)) (h2 : 0 < ns.length) (h3 : ∀ m, m ∈ ns → (∀ y, y ∈ ns → m ≤ y) → Q (.int m) H) : RMinR K vs H Q
noncomputable def rMin (K : PySem.W.Frag) : List V → Hp → VK → Prop := fun vs H Q => RMinR K vs H Q
theorem cr_sum (hc : X.calm = true) : CallR X (.builtin "sum") (rSum X.K) := by
  intro pins s σ H vs us Q I r h
  obtain ⟨a, ns, rfl, hs, q⟩ := h
  obtain ⟨its, rv, hl, _⟩ := I.list hs
  rw [Vals.ref1 r]
  exact sum_raw (I.ok.hd hc) hl.isList rv.ints fun h' tk t' hk => ⟨.int _, H, I.kept hk, ⟨_, rfl⟩, q⟩
theorem cr_min (hc : X.calm = true) : CallR X (.builtin "min") (rMin X.K) := by
  intro pins s σ H vs us Q I r h
  obtain ⟨a, ns, rfl, hs, hne, q⟩ := h
  obtain ⟨its, rv, hl, _⟩ := I.list hs
  rw [Vals.ref1 r]
  exact min_raw (I.ok.hd hc) hl.isList rv.ints hne fun h' tk m t' hk h1 h2 => ⟨.int _, H, I.kept hk, ⟨_, rfl⟩, q m h1 h2⟩
end
section
variable {X : Cx}
end
section
variable {X : Cx}
end
theorem iter_any {prog : Program} {w : World} {A : Around} {E : Value → Shared → Prop} {s : Shared} {l : Addr} {items : Array Value} {Q : Value → Shared → Prop} (hl : s.heap.IsList l items)
    (h : ∀ s₂ : Shared, s₂ = { s with heap := s.heap.push { cls := .type "list_iterator", data := .fields #[.ref l, .int 0 0] } } →
      (s₂.heap.IsListIter s.heap.objs.size l 0 ∧ s₂.heap.IsList l items) → l ≠ s.heap.objs.size → Q (.ref s.heap.objs.size) s₂) : wpAny (model prog w) A (pyIter (.ref l)) Q E s := by
  have hlt : l < s.heap.objs.size := by obtain ⟨_, e, _⟩ := hl; exact Heap.lt_size e
  exact wpAny_pyIter_list hl (h _ rfl ⟨⟨_, Heap.get?_push_size _ rfl, rfl, rfl⟩, hl.push _⟩ (Nat.ne_of_lt hlt))
theorem truth_bools {prog : Program} {w : World} {A : Around} {bs : List Bool} {its : List Value} (e : its = bs.map Value.bool) :
    TruthOf prog w A (fun i v => its.toArray[i]? = some v) (fun i => bs.getD i false) := fun i v s Q E hv hq => by
  have hv' : its[i]? = some v := by simpa using hv
  rw [e, List.getElem?_map] at hv'
  obtain ⟨b, hb, rfl⟩ := Option.map_eq_some_iff.mp hv'
  have hg : bs.getD i false = b := by rw [List.getD_eq_getElem?_getD, hb] <;> rfl
  have hq' : Q (bs.getD i false) s := hq
  rw [hg] at hq'
  exact wpAny_truthy_bool hq'
theorem all_range : ∀ bs : List Bool, (List.range bs.length).all (fun i => bs.getD i false) = bs.all id
  | [] => rfl
  | b :: bs => by
    rw [List.length_cons, List.range_succ_eq_map, List.all_cons, List.all_map, List.all_cons, ← all_range bs]
    all_goals rfl
section
variable {X : Cx}
inductive RAllR (K : PySem.W.Frag) (vs : List V) (H : Hp) (Q : VK) : Prop
  | mk (a : Addr) (bs : List Bool) (h0 : vs = [V.ref a]) (h1 : SqL K H a (bs.map V.bl)) (h2 : Q (.bl (bs.all id)) H) : RAllR K vs H Q
noncomputable def rAll (K : PySem.W.Frag) : List V → Hp → VK → Prop := fun vs H Q => RAllR K vs H Q
theorem cr_all (hc : X.calm = true) : CallR X (.builtin "all") (rAll X.K) := by
  intro pins s σ H vs us Q I r h
  obtain ⟨a, bs, rfl, hs, q⟩ := h
  obtain ⟨its, rv, hl, _⟩ := I.list hs
  rw [Vals.ref1 r]
  have hb := rv.bls
  refine call_all_walk (iter_any hl.isList fun s₂ e2 st hne => ?_)
  subst e2
  refine ⟨_, _, _, _, _, _, _, rfl, Walks.list (A := X.A.in1) (I.ok.hd hc) _ a hne its.toArray, st, truth_bools hb, fun h' tk hk => ?_⟩
  refine ⟨.bl _, H, I.kept fun b o eo => hk b o (fun hmem => ?_) (Heap.get?_push_of_some _ eo), ?_, q⟩
  · rcases List.mem_cons.mp hmem with e1 | hmem
    · exact absurd (e1 ▸ Heap.lt_size eo) (Nat.lt_irrefl _)
    · cases hmem
  · show Value.bool _ = Value.bool _
    rw [← all_range, hb, List.size_toArray, List.length_map]
end
section
variable {X : Cx} {pins : List (Addr × Obj)} {σ : St} {H : Hp} {s : Shared}
end
section
variable {X : Cx}
end
end L2
namespace L2
open PySem PySem.Spec PyProof.Rows
noncomputable abbrev CellAt (h : Heap) (c : Addr) (v : Option Value) : Prop := h.IsCell c v
noncomputable def relS (scope sc : Scope) : Scope :=
  { scope with names := scope.names.map fun (n, k) => if (k == .free && sc.kind == .function && sc.names.lookup n == some .cell) then (n, .cell) else (n, k) }
noncomputable def cloFrom (cells : List (Str × Addr)) : List (Str × NameKind) → List (Str × Addr) → List (Str × Addr)
  | [], acc => acc
  | (n, k) :: r, acc => if k == .free then cloFrom cells r ((n, (cells.lookup n).getD 0) :: acc) else cloFrom cells r acc
theorem closure_loop (env : Env) (f : Str × NameKind → List (Str × Addr) → Sem (ForInStep (List (Str × Addr))))
    (hf : ∀ n k c, f (n, k) c = if k == .free then (do let a ← cellOf env n; pure (.yield ((n, a) :: c))) else pure (.yield c)) :
    ∀ (names : List (Str × NameKind)) (acc : List (Str × Addr)), (∀ y ∈ names, y.2 = .free → ∃ c, env.cells.lookup y.1 = some c) → forIn names acc f = pure (cloFrom env.cells names acc)
  | [], acc, _ => by rw [List.forIn_nil]; rfl
  | (n, k) :: r, acc, h => by
    rw [List.forIn_cons, hf]
    have ih := fun acc => closure_loop env f hf r acc fun y hy => h y (List.mem_cons_of_mem _ hy)
    unfold cloFrom
    by_cases hk : (k == NameKind.free) = true
    · rw [if_pos hk, if_pos hk]
      obtain ⟨c, hc⟩ := h (n, k) List.mem_cons_self (by simpa using hk)
      have e : cellOf env n = pure c := by unfold cellOf; rw [hc]
      rw [e]
      have e2 : (env.cells.lookup n).getD 0 = c := by rw [hc]; rfl
      rw [e2]
      exact ih _
    · rw [if_neg hk, if_neg hk]
      exact ih _
theorem closure_ok {scope : Scope} {env : Env} (h : ∀ y ∈ scope.names, y.2 = .free → ∃ c, env.cells.lookup y.1 = some c) : closureFor scope env = pure (cloFrom env.cells scope.names []) := by
  simp only [closureFor]
  rw [closure_loop env _ (fun n k c => rfl) scope.names [] h]
  rfl
theorem mem_lookup {α : Type} : ∀ {l : List (Str × α)} {n : Str} {c : α}, (n, c) ∈ l → ∃ c', l.lookup n = some c'
  | (k, v) :: r, n, c, h => by
    rw [List.lookup_cons]
    cases hb : n == k with
    | true => exact ⟨_, rfl⟩
    | false =>
      rcases List.mem_cons.mp h with e | h
      · cases e; simp at hb
      · exact mem_lookup h
theorem cloFrom_mem {cells : List (Str × Addr)} : ∀ {names : List (Str × NameKind)} {acc : List (Str × Addr)} {n : Str} {c : Addr}, (n, c) ∈ cloFrom cells names acc → (n, c) ∈ acc ∨ ((n, .free) ∈ names ∧ c = (cells.lookup n).getD 0)
  | [], _, _, _, h => .inl h
  | (m, k) :: r, acc, n, c, h => by
    unfold cloFrom at h
    split at h
    · rename_i hk
      have hk : k = .free := by simpa using hk
      rcases cloFrom_mem h with h | ⟨h1, h2⟩
      · rcases List.mem_cons.mp h with e | h
        · cases e; exact .inr ⟨hk ▸ List.mem_cons_self, rfl⟩
        · exact .inl h
      · exact .inr ⟨List.mem_cons_of_mem _ h1, h2⟩
    · rcases cloFrom_mem h with h | ⟨h1, h2⟩
      · exact .inl h
      · exact .inr ⟨List.mem_cons_of_mem _ h1, h2⟩
theorem cloFrom_acc {cells : List (Str × Addr)} : ∀ {names : List (Str × NameKind)} {acc : List (Str × Addr)} {p : Str × Addr}, p ∈ acc → p ∈ cloFrom cells names acc
  | [], _, _, h => h
  | (m, k) :: r, acc, p, h => by
    unfold cloFrom
    split
    · exact cloFrom_acc (List.mem_cons_of_mem _ h)
    · exact cloFrom_acc h
theorem cloFrom_has {cells : List (Str × Addr)} : ∀ {names : List (Str × NameKind)} {acc : List (Str × Addr)} {n : Str}, (n, .free) ∈ names → (n, (cells.lookup n).getD 0) ∈ cloFrom cells names acc
  | (m, k) :: r, acc, n, h => by
    unfold cloFrom
    rcases List.mem_cons.mp h with e | h
    · cases e
      exact cloFrom_acc List.mem_cons_self
    · split
      · exact cloFrom_has h
      · exact cloFrom_has h
theorem cells_mem : ∀ {names : List (Str × NameKind)} {h : Heap} {acc : List (Str × Addr)} {x : Str} {c : Addr}, (x, c) ∈ cellsFrom h.objs.size names acc →
    (x, c) ∈ acc ∨ ((x, .cell) ∈ names ∧ h.objs.size ≤ c ∧ CellAt (pushCells h names) c none)
  | [], _, _, _, _, h => .inl h
  | (n, k) :: r, h, acc, x, c, hm => by
    unfold cellsFrom at hm
    unfold pushCells
    split at hm
    · rename_i hk
      rw [if_pos hk]
      have hk : k = .cell := by simpa using hk
      rw [← Heap.size_push h { cls := .type "cell", data := .cell none }] at hm
      rcases cells_mem hm with hm | ⟨h1, h2, h3⟩
      · rcases List.mem_cons.mp hm with e | hm
        · cases e
          exact .inr ⟨hk ▸ List.mem_cons_self, Nat.le_refl _, _, pushCells_keeps r _ _ _ (Heap.get?_push_size _ rfl), rfl⟩
        · exact .inl hm
      · rw [Heap.size_push] at h2
        exact .inr ⟨List.mem_cons_of_mem _ h1, Nat.le_of_succ_le h2, h3⟩
    · rename_i hk
      rw [if_neg hk]
      rcases cells_mem hm with hm | ⟨h1, h2, h3⟩
      · exact .inl hm
      · exact .inr ⟨List.mem_cons_of_mem _ h1, h2, h3⟩
theorem cells_acc : ∀ {names : List (Str × NameKind)} {n : Nat} {acc : List (Str × Addr)} {p : Str × Addr}, p ∈ acc → p ∈ cellsFrom n names acc
  | [], _, _, _, h => h
  | (m, k) :: r, n, acc, p, h => by
    unfold cellsFrom
    split
    · exact cells_acc (List.mem_cons_of_mem _ h)
    · exact cells_acc h
theorem cells_has : ∀ {names : List (Str × NameKind)} {n : Nat} {acc : List (Str × Addr)} {x : Str}, (x, .cell) ∈ names → ∃ c, (x, c) ∈ cellsFrom n names acc
  | (m, k) :: r, n, acc, x, h => by
    unfold cellsFrom
    rcases List.mem_cons.mp h with e | h
    · cases e
      exact ⟨n, cells_acc List.mem_cons_self⟩
    · split
      · exact cells_has h
      · exact cells_has h
theorem cells_inj : ∀ {names : List (Str × NameKind)} {h : Heap} {acc : List (Str × Addr)} {x y : Str} {c : Addr}, (∀ p ∈ acc, p.2 < h.objs.size) → (∀ x y c, (x, c) ∈ acc → (y, c) ∈ acc → x = y) →
    (x, c) ∈ cellsFrom h.objs.size names acc → (y, c) ∈ cellsFrom h.objs.size names acc → x = y
  | [], _, _, _, _, _, _, hi, h1, h2 => hi _ _ _ h1 h2
  | (n, k) :: r, h, acc, x, y, c, hl, hi, h1, h2 => by
    unfold cellsFrom at h1 h2
    split at h1
    · rename_i hk
      rw [if_pos hk] at h2
      rw [← Heap.size_push h { cls := .type "cell", data := .cell none }] at h1 h2
      refine cells_inj (h := h.push _) (fun p hp => ?_) (fun x y c a b => ?_) h1 h2
      · rw [Heap.size_push]
        rcases List.mem_cons.mp hp with rfl | hp
        · exact Nat.lt_succ_self _
        · exact Nat.lt_succ_of_lt (hl p hp)
      · rcases List.mem_cons.mp a with e | a <;> rcases List.mem_cons.mp b with e' | b
        · cases e; cases e'; rfl
        · cases e; exact absurd (hl _ b) (Nat.lt_irrefl _)
        · cases e'; exact absurd (hl _ a) (Nat.lt_irrefl _)
        · exact hi _ _ _ a b
    · rename_i hk
      rw [if_neg hk] at h2
      exact cells_inj hl hi h1 h2
theorem newEnv_comp {M : Model} {A : Around} {E : Value → Shared → Prop} {s : Shared} {scope : Scope} {globals : Addr} {closure : List (Str × Addr)} {qual : Str} {func : Option Addr} {code : Value} {around : Env} {builtins : Addr} {Q : Env → Shared → Prop}
    (h : Q (newEnv scope s.heap.objs.size globals (cellsFrom (s.heap.objs.size + 1) scope.names closure) qual func code (some around) builtins)
      { s with heap := pushCells (s.heap.push { cls := .type "dict", data := .dict #[] }) scope.names }) :
    wpAny M A (newFunctionEnv scope globals closure [] qual func code (some around) builtins) Q E s := by
  simp only [newFunctionEnv, Option.isSome_some, if_true]
  refine wpAny_bind (wpAny_alloc ?_)
  refine wpAny_bind (wpAny_layCells _ (fun n k c => rfl) scope.names closure _ _ ?_)
  rw [show ({ s with heap := s.heap.push { cls := .type "dict", data := .dict #[] } } : Shared).heap.objs.size = s.heap.objs.size + 1 from Heap.size_push ..]
  rw [List.forIn_nil]
  exact wpAny_bind (wpAny_pure (wpAny_pure h))
theorem lookup_relS {sc : Scope} : ∀ {names : List (Str × NameKind)} {x : Str} {k : NameKind},
    (names.map fun (n, k) => if (k == NameKind.free && sc.kind == .function && sc.names.lookup n == some .cell) then (n, NameKind.cell) else (n, k)).lookup x = some k →
    ∃ k', names.lookup x = some k' ∧ (k = k' ∨ (k' = .free ∧ k = .cell))
  | [], _, _, h => by simp at h
  | (n, k₀) :: r, x, k, h => by
    have ih := @lookup_relS sc r x k
    have h' : List.lookup x ((if (k₀ == NameKind.free && sc.kind == .function && sc.names.lookup n == some .cell) = true then (n, NameKind.cell) else (n, k₀)) :: (r.map _)) = some k := h
    cases hx : x == n with
    | true =>
      simp only [List.lookup_cons, hx]
      by_cases hc : (k₀ == NameKind.free && sc.kind == .function && sc.names.lookup n == some .cell) = true
      · rw [if_pos hc] at h'
        simp only [List.lookup_cons, hx] at h'
        cases h'
        simp only [Bool.and_eq_true, beq_iff_eq] at hc
        exact ⟨k₀, rfl, .inr ⟨hc.1.1, rfl⟩⟩
      · rw [if_neg hc] at h'
        simp only [List.lookup_cons, hx] at h'
        cases h'
        exact ⟨_, rfl, .inl rfl⟩
    | false =>
      simp only [List.lookup_cons, hx]
      by_cases hc : (k₀ == NameKind.free && sc.kind == .function && sc.names.lookup n == some .cell) = true
      · rw [if_pos hc] at h'
        simp only [List.lookup_cons, hx] at h'
        exact ih h'
      · rw [if_neg hc] at h'
        simp only [List.lookup_cons, hx] at h'
        exact ih h'
structure BlkOk (N : List Str) (sc scope : Scope) (own : List (Str × Nat)) : Prop where
  kind : scope.kind = .function
  uniq : ∀ y ∈ scope.names, scope.names.lookup y.1 = some y.2
  ix : ∀ p ∈ own, N[p.2]? = some p.1
  free : ∀ y ∈ scope.names, y.2 = .free → sc.names.lookup y.1 = some .cell ∨ sc.names.lookup y.1 = some .free
  own : ∀ y ∈ scope.names, y.2 = .local ∨ y.2 = .cell → y.1 ∈ own.map (·.1) ∨ y.1 ∉ N
noncomputable def wipe (σ : St) : List Nat → St
  | [] => σ
  | v :: vs => (wipe σ vs).set v none
theorem wipe_length (σ : St) : ∀ vs : List Nat, (wipe σ vs).length = σ.length
  | [] => rfl
  | v :: vs => by unfold wipe; rw [List.length_set, wipe_length σ vs]
theorem wipe_some {σ : St} {i : Nat} {x : V} : ∀ {vs : List Nat}, (wipe σ vs)[i]? = some (some x) → σ[i]? = some (some x) ∧ i ∉ vs
  | [], h => ⟨h, by simp⟩
  | v :: vs, h => by
    unfold wipe at h
    by_cases hi : v = i
    · subst hi
      by_cases hv : v < (wipe σ vs).length
      · rw [List.getElem?_set_self hv] at h; cases h
      · rw [List.getElem?_eq_none (by simpa using hv)] at h; cases h
    · rw [List.getElem?_set_ne hi] at h
      obtain ⟨h1, h2⟩ := wipe_some h
      exact ⟨h1, by simp only [List.mem_cons, not_or]; exact ⟨fun e => hi e.symm, h2⟩⟩
noncomputable abbrev Cx.blk (X : Cx) (s : Shared) (H : Hp) (scope : Scope) (cenv : Env) (fp : List Addr) : Cx := { X with s_0 := s, H_0 := H, env := cenv, outer := X.stack, ex := fp, fn := fun x => scope.names.lookup x == some .cell, pn := [], xe := fun _ _ => False }
section
variable {X : Cx} {pins : List (Addr × Obj)} {σ : St} {H : Hp} {s : Shared}
theorem block_start {scope : Scope} {own : List (Str × Nat)} {fp : List Addr} (I : Inv X pins σ H s) (ok : BlkOk X.N X.env.scope scope own) (hN : X.N.Nodup) (hfp : ∀ b ∈ fp, FpOk X pins H b ∧ b < s.heap.objs.size) :
    Inv (X.blk s H scope (compEnvC scope (cellsFrom (s.heap.objs.size + 1) scope.names (cloFrom X.env.cells scope.names [])) s.heap.objs.size X.env) fp) [] (wipe σ (own.map (·.2))) H { s with heap := pushCells (s.heap.push { cls := .type "dict", data := .dict #[] }) scope.names } := by
  have hfree : ∀ y ∈ scope.names, y.2 = .free → ∃ c, X.env.cells.lookup y.1 = some c := fun y hy e => by
    rcases ok.free y hy e with k | k
    · exact I.ok.has _ (.inl k)
    · exact I.ok.has _ (.inr k)
  generalize hcenv : compEnvC scope (cellsFrom (s.heap.objs.size + 1) scope.names (cloFrom X.env.cells scope.names [])) s.heap.objs.size X.env = cenv
  have kp : ∀ b o, s.heap.get? b = some o → (pushCells (s.heap.push { cls := .type "dict", data := .dict #[] }) scope.names).get? b = some o := fun b o e => pushCells_keeps _ _ _ _ (Heap.get?_push_of_some _ e)
  have hL : cenv.locals = s.heap.objs.size := by rw [← hcenv]; rfl
  have hcl : cenv.cells = cellsFrom (s.heap.objs.size + 1) scope.names (cloFrom X.env.cells scope.names []) := by rw [← hcenv]; rfl
  have hsc : cenv.scope = relS scope X.env.scope := by rw [← hcenv]; rfl
  rw [← Heap.size_push s.heap { cls := .type "dict", data := .dict #[] }] at hcl
  have cm : ∀ {y c}, (y, c) ∈ cloFrom X.env.cells scope.names [] → X.env.cells.lookup y = some c ∧ c < s.heap.objs.size := fun {y c} hm => by
    rcases cloFrom_mem hm with hm | ⟨h1, rfl⟩
    · cases hm
    · obtain ⟨c, hc⟩ := hfree _ h1 rfl
      rw [hc]
      obtain ⟨w, z⟩ := I.cell _ _ hc
      exact ⟨rfl, z.lt⟩
  have mem : ∀ {y c}, cenv.cells.lookup y = some c → (X.env.cells.lookup y = some c ∧ c < s.heap.objs.size) ∨ (s.heap.objs.size + 1 ≤ c ∧ CellAt (pushCells (s.heap.push { cls := .type "dict", data := .dict #[] }) scope.names) c none) := fun {y c} e => by
    rw [hcl] at e
    rcases cells_mem (PySem.mem_of_lookup e) with hm | ⟨_, h2, h3⟩
    · exact .inl (cm hm)
    · rw [Heap.size_push] at h2; exact .inr ⟨h2, h3⟩
  have look : ∀ {y}, scope.names.lookup y = some .free → ∃ c, cenv.cells.lookup y = some c ∧ X.env.cells.lookup y = some c := fun {y} hl => by
    have hy : (y, NameKind.free) ∈ scope.names := PySem.mem_of_lookup hl
    obtain ⟨c', e'⟩ := mem_lookup (cells_acc (names := scope.names) (n := (s.heap.push { cls := .type "dict", data := .dict #[] }).objs.size) (cloFrom_has (cells := X.env.cells) (acc := []) hy))
    rw [← hcl] at e'
    refine ⟨c', e', ?_⟩
    rw [hcl] at e'
    rcases cells_mem (PySem.mem_of_lookup e') with hm | ⟨h1, _, _⟩
    · exact (cm hm).1
    · have := ok.uniq _ h1
      rw [hl] at this; cases this
  have okB : (X.blk s H scope cenv fp).Ok := by
    refine ⟨I.ok.mod, by show cenv.scope.kind = _; rw [hsc]; exact ok.kind, by show cenv.globals = _; rw [← hcenv]; exact I.ok.glob, by show cenv.builtins = _; rw [← hcenv]; exact I.ok.blt, by show s.heap.objs.size ≤ cenv.locals; rw [hL]; exact Nat.le_refl _,
      fun y z c e1 e2 => ?_, fun y hy => ?_, fun y c z e => ?_, I.ok.hd, I.ok.frames, .inl rfl, fun b hb => ⟨?_, fun y c e z => ?_⟩, I.bs, Nat.le_trans I.ok.bsz I.sz, fun b o e hb => ?_, fun b hb z => ?_, I.stack, I.stkFree⟩
    · have e1 : cenv.cells.lookup y = some c := e1
      have e2 : cenv.cells.lookup z = some c := e2
      rw [hcl] at e1 e2
      refine cells_inj (fun p hp => ?_) (fun y z c a b => I.ok.inj y z c (cm a).1 (cm b).1) (PySem.mem_of_lookup e1) (PySem.mem_of_lookup e2)
      rw [Heap.size_push]
      exact Nat.lt_succ_of_lt (cm (y := p.1) (c := p.2) hp).2
    · show ∃ c, cenv.cells.lookup y = some c
      have key : ∀ k, cenv.kindOf y = some k → (k = .cell ∨ k = .free) → ∃ c, cenv.cells.lookup y = some c := fun k hk hk' => by
        unfold Env.kindOf at hk
        rw [hsc] at hk
        obtain ⟨k', e, r⟩ := lookup_relS hk
        have : k' = .cell ∨ k' = .free := by
          rcases r with rfl | ⟨rfl, _⟩
          · exact hk'
          · exact .inr rfl
        rcases this with rfl | rfl
        · obtain ⟨c, hm⟩ := cells_has (n := (s.heap.push { cls := .type "dict", data := .dict #[] }).objs.size) (acc := cloFrom X.env.cells scope.names []) (PySem.mem_of_lookup e)
          obtain ⟨c', e'⟩ := mem_lookup hm
          exact ⟨c', by rw [hcl]; exact e'⟩
        · obtain ⟨c, h1, _⟩ := look e
          exact ⟨c, h1⟩
      rcases hy with hy | hy
      · exact key _ hy (.inl rfl)
      · exact key _ hy (.inr rfl)
    · have z : (scope.names.lookup y == some NameKind.cell) = true := z
      have z : scope.names.lookup y = some .cell := by simpa using z
      have e : cenv.cells.lookup y = some c := e
      rw [hcl] at e
      rcases cells_mem (PySem.mem_of_lookup e) with hm | ⟨_, h2, _⟩
      · rcases cloFrom_mem hm with hm | ⟨h1, _⟩
        · cases hm
        · have q := ok.uniq _ h1
          rw [z] at q; cases q
      · rw [Heap.size_push] at h2
        exact Nat.le_of_succ_le h2
    · show b ≠ cenv.locals
      rw [hL]; exact Nat.ne_of_lt (hfp b hb).2
    · have e : cenv.cells.lookup y = some c := e
      rcases mem e with ⟨h1, _⟩ | ⟨h1, _⟩
      · exact (hfp b hb).1.2.2.2.2.1 y c h1 z
      · have h2 : s.heap.objs.size + 1 ≤ b := by rw [← z]; exact h1
        exact absurd (Nat.lt_of_lt_of_le (hfp b hb).2 (Nat.le_of_succ_le h2)) (Nat.lt_irrefl _)
    · rcases (hfp b hb).1.2.2.2.1 with z | z
      · exact I.ok.noex b o e z
      · exact absurd (Nat.lt_of_lt_of_le (Heap.lt_size e) (Nat.le_trans I.ok.bsz z)) (Nat.lt_irrefl _)
    · rcases List.mem_cons.mp (I.stkSub b z) with z | z
      · exact (hfp b hb).1.2.1 z
      · exact (hfp b hb).1.2.2.1 z
  refine ⟨okB, rfl, I.bare, Un.kept kp, ⟨fun _ => none, ?_, fun i y av e1 e2 e3 => ?_⟩, fun y c e => ?_, ?_, fun y c e => ?_, fun p hp => ?_, I.hok.kept kp, by rw [wipe_length]; exact I.len⟩
  · show Heap.Ns _ cenv.locals _
    rw [hL]
    exact Heap.Ns.keeps (Heap.Ns.new ..) fun b o e => pushCells_keeps _ _ _ _ e
  · obtain ⟨e2, hne⟩ := wipe_some e2
    have hfr : scope.names.lookup y = some .free ∧ (cenv.kindOf y = some .cell ∨ cenv.kindOf y = some .free) := by
      have key : ∀ k, cenv.scope.names.lookup y = some k → k = .local ∨ k = .cell ∨ k = .free → scope.names.lookup y = some .free ∧ (cenv.kindOf y = some .cell ∨ cenv.kindOf y = some .free) := fun k hk hk' => by
        have hk0 := hk
        rw [hsc] at hk
        obtain ⟨k', e, r⟩ := lookup_relS hk
        have no : ¬ (k' = .local ∨ k' = .cell) := fun hh => by
          rcases ok.own _ (PySem.mem_of_lookup e) hh with e' | e'
          · obtain ⟨p, hp, hpy⟩ := List.mem_map.mp e'
            have e3 := ok.ix p hp
            have : p.1 = y := hpy
            rw [this] at e3
            exact hne (List.mem_map.mpr ⟨p, hp, nodup_ix hN e3 e1⟩)
          · exact e' (List.mem_of_getElem? e1)
        rcases r with rfl | ⟨rfl, rfl⟩
        · rcases hk' with rfl | rfl | rfl
          · exact absurd (.inl rfl) no
          · exact absurd (.inr rfl) no
          · exact ⟨e, .inr hk0⟩
        · exact ⟨e, .inl hk0⟩
      have e3 : Vis cenv.scope y := e3
      rcases e3 with e3 | e3 | e3
      · exact key _ e3 (.inl rfl)
      · exact key _ e3 (.inr (.inl rfl))
      · exact key _ e3 (.inr (.inr rfl))
    obtain ⟨m, hn, hl⟩ := I.loc
    have hvis : Vis X.env.scope y := (ok.free _ (PySem.mem_of_lookup hfr.1) rfl).elim (fun k => .inr (.inl k)) (fun k => .inr (.inr k))
    obtain ⟨w, r, q⟩ := hl i y av e1 e2 hvis
    refine ⟨w, r, .inr ⟨hfr.2, ?_⟩⟩
    obtain ⟨c, h1, h2⟩ := look hfr.1
    rcases q with ⟨k, _⟩ | ⟨_, c', e', z⟩
    · have k : X.env.scope.names.lookup y = some .local := k
      rcases ok.free _ (PySem.mem_of_lookup hfr.1) rfl with k' | k' <;> rw [show X.env.scope.names.lookup y = _ from k'] at k <;> cases k
    · rw [h2] at e'; cases e'
      exact ⟨c, h1, z.keeps kp⟩
  · have e : cenv.cells.lookup y = some c := e
    rcases mem e with ⟨h1, _⟩ | ⟨_, z⟩
    · obtain ⟨w, z⟩ := I.cell y c h1
      exact ⟨w, z.keeps kp⟩
    · exact ⟨_, z⟩
  · show H cenv.locals = none
    rw [hL]; exact I.hok.fresh (Nat.le_refl _)
  · have e : cenv.cells.lookup y = some c := e
    rcases mem e with ⟨h1, _⟩ | ⟨h1, _⟩
    · exact I.freeC y c h1
    · exact I.hok.fresh (Nat.le_of_succ_le h1)
  · exact absurd (show p ∈ ([] : List (Addr × Obj)) ++ [] from hp) (by simp)
theorem app_ok {E : Value → Shared → Prop} {D : Addr} {xs : List V} {y : V} {v : Value} {Q : Value → Shared → Prop} (I : Inv X pins σ H s) (hD : H D = some (.lst xs)) (hz : xs.length < sizeLine) (r : RelV y v)
    (h : ∀ s', Inv X pins σ (upd H D (.lst (xs ++ [y]))) s' → Q .none s') : wpAny (model X.prog X.w) X.A (call (.builtin "list.append") [.ref D, v]) Q E s := by
  obtain ⟨hz', its, n, ri, e⟩ := I.hok D _ hD
  have hl := ri.length
  refine append_at (hsz := by rw [List.size_toArray]; omega) e fun h' sb ho' => ?_
  refine h { s with heap := h' } (I.write (t' := s.toks) (by rw [hD]; trivial) (.inl rfl) (fun b u hb q => (sb.2 b hb).trans q) ⟨_, ho'⟩ ⟨by rw [List.length_append]; exact hz, its ++ [v], n + 1, ri.append (.cons r .nil), ?_⟩)
  rw [ho']
  simp
noncomputable def PTs (X : Cx) (ifs : List Expr) (t : TT) : Prop :=
  ∀ (pins : List (Addr × Obj)) (s : Shared) (σ : St) (H : Hp) (Q : Bool → Hp → Prop), Inv X pins σ H s → t σ H Q →
    wpAny (model X.prog X.w) X.A (forIn ifs true fun c r => if r = true then do let ok ← isTrue c X.env (eval c X.env); pure (ForInStep.yield ok) else pure (ForInStep.yield r)) (TP X pins σ Q) X.xe s
noncomputable def tYes : TT := fun _ H Q => Q true H
theorem pts_nil : PTs X [] tYes := fun _ _ _ H _ I h => wpAny_tests_nil ⟨H, I, h⟩
theorem pts_one {c : Expr} {t : TT} (h : PT X c t) : PTs X [c] t := fun pins s σ H Q I hw => wpAny_tests_one (h pins s σ H Q I hw)
end
theorem thnF {α : Type} {t : Sem α} {Q Q' : α → Shared → Prop} {M : Model} {A : Around} {E : Value → Shared → Prop} {s : Shared} (h : wpAny M A t Q (fun _ _ => False) s) (hQ : ∀ a s, Q a s → Q' a s) : wpAny M A t Q' E s := wpAny_mono h hQ fun _ _ z => False.elim z
theorem compLoop_any {prog : Program} {w : World} {A : Around} {R : Result → Shared → Prop} {s : Shared} {elt target iter : Expr} {ifs : List Expr} {scope : Scope} {pos : Pos} {it acc : Value} {env : Env} (I : Nat → Shared → Prop)
    (turn : ∀ n s, I n s → wpAny (model prog w) A (pyNext it) (fun r s₁ => match r with
      | none => R (.ok .next) s₁
      | some v => wpAny (model prog w) A (letOwnedTupleGo target it v) (fun _ s₁' => wpAny (model prog w) A (assign target env v) (fun _ s₂ =>
          wpAny (model prog w) A (forIn ifs true fun c r => if r = true then do let ok ← isTrue c env (eval c env); pure (ForInStep.yield ok) else pure (ForInStep.yield r)) (fun ok s₃ =>
            if ok = true then wpAny (model prog w) A (eval elt env) (fun x s₄ =>
              wpAny (model prog w) A (call (.builtin "list.append") [acc, x]) (fun _ s₅ => ∃ m, m < n ∧ I m s₅) (notedBy (model prog w) A env fun e s' => R (.error e) s') s₄) (notedBy (model prog w) A env fun e s' => R (.error e) s') s₃
            else ∃ m, m < n ∧ I m s₃) (notedBy (model prog w) A env fun e s' => R (.error e) s') s₂) (notedBy (model prog w) A env fun e s' => R (.error e) s') s₁') (notedBy (model prog w) A env fun e s' => R (.error e) s') s₁) (notedBy (model prog w) A env fun e s' => R (.error e) s') s)
    (n : Nat) (h : I n s) :
    codeAny (model prog w) A (.compLoop (.ListComp elt [⟨target, iter, ifs, 0⟩] scope pos) 0 it acc env) R s := by
  refine codeAny_loop rfl I (fun n s hI => ?_) n h
  show wpAny _ A ((compTurn (.ListComp elt [⟨target, iter, ifs, 0⟩] scope pos) 0 it acc env).onRaise (fun x => do noteFrame x env; theTreesLotGoes x)) _ _ s
  refine wpAny_noted ?_
  rw [compTurn_list]
  refine wpAny_bind (wpAny_standAt (wpAny_bind (wpAny_mono (turn n s hI) (fun r s₁ h₁ => ?_) fun _ _ h' => h')))
  cases r with
  | none => exact wpAny_pure h₁
  | some v =>
    refine wpAny_bind (wpAny_mono h₁ (fun _ s₁' h₁' => ?_) fun _ _ h' => h')
    refine wpAny_bind (wpAny_mono h₁' (fun _ s₂ h₂ => wpAny_bind (wpAny_mono h₂ (fun ok s₃ h₃ => ?_) fun _ _ h' => h')) fun _ _ h' => h')
    cases ok with
    | false => exact wpAny_pure ⟨rfl, h₃⟩
    | true =>
      exact wpAny_bind (wpAny_bind (wpAny_mono h₃ (fun x s₄ h₄ => wpAny_bind (wpAny_mono h₄ (fun _ s₅ h₅ => wpAny_pure (wpAny_pure ⟨rfl, h₅⟩)) fun _ _ h' => h')) fun _ _ h' => h'))
section
variable {X : Cx}
noncomputable def tLc (wi : TI) (g : TG) (tt : TT) (te : TE) (vs : List Nat) : TE := fun σ H Q => wi σ H fun J H1 => ∀ D, H1 D = none → ∃ W : Nat → Nat → Hp → Prop, (∃ m, W 0 m (upd H1 D (.lst []))) ∧ ∀ i m H, W i m H →
  (J.stop i H ∧ Q (.ref D) H) ∨ (J.go i H ∧ ∃ Nx : Hp → Prop, (∀ H', Nx H' → ∃ m', m' < m ∧ W (i + 1) m' H') ∧ ∀ x H', J.yld i H x H' → g x (wipe σ vs) H' fun σ2 H2 => wipe σ2 vs = wipe σ vs ∧ tt σ2 H2 fun b H3 =>
    if b = true then te σ2 H3 fun y H4 => ∃ acc, H4 D = some (.lst acc) ∧ acc.length < sizeLine ∧ Nx (upd H4 D (.lst (acc ++ [y]))) else Nx H3)
theorem lc_core {pins : List (Addr × Obj)} {s : Shared} {σ : St} {H : Hp} {Q : VK} {elt tg iter : Expr} {ifs : List Expr} {scope : Scope} {own : List (Str × Nat)} {pos pos' : Pos} {wi : TI} {g : TG} {tt : TT} {te : TE} {use : Option (Value → Sem Unit)} {Qf : Value → Shared → Prop}
    (hc : X.calm = true) (hN : X.N.Nodup) (I : Inv X pins σ H s) (hi : PI X tg iter wi) (ok : BlkOk X.N X.env.scope scope own)
    (hg : ∀ (s : Shared) (H : Hp) (C : Addr) (cl : List (Str × Addr)) (fp : List Addr), PG (X.blk s H scope (compEnvC scope cl C X.env) fp) tg g) (ht : ∀ (s : Shared) (H : Hp) (C : Addr) (cl : List (Str × Addr)) (fp : List Addr), PTs (X.blk s H scope (compEnvC scope cl C X.env) fp) ifs tt)
    (he : ∀ (s : Shared) (H : Hp) (C : Addr) (cl : List (Str × Addr)) (fp : List Addr), PE (X.blk s H scope (compEnvC scope cl C X.env) fp) elt te) (hs : ∀ x, foldedSetIterable iter X.env x = pure x)
    (h : tLc wi g tt te (own.map (·.2)) σ H Q)
    (hRR : ∀ D C s' m H', Inv X pins σ H' s' → Q (.ref D) H' → s'.heap.Ns C m → FpOk X pins H' C → compPost (model X.prog X.w) X.A X.xe use Qf (.ref D) C (.ok .next) s') :
    wpAny (model X.prog X.w) X.A (comprehension (.ListComp elt [⟨tg, iter, ifs, 0⟩] scope pos) scope X.env pos' (newList []) false (eval iter X.env) use) Qf X.xe s := by
  have hfree : ∀ y ∈ scope.names, y.2 = .free → ∃ c, X.env.cells.lookup y.1 = some c := fun y hy e => by
    rcases ok.free y hy e with k | k
    · exact I.ok.has _ (.inl k)
    · exact I.ok.has _ (.inr k)
  refine wpAny_comprehension_free (use := use) rfl hs (closure_ok hfree) ok.kind (fun y hy e => by rw [ok.uniq y hy, e])
    (thn (hi pins s σ H _ I h) fun xv s1 hx => thn hx fun itv s2 h2 => ?_)
  obtain ⟨it, fp, tn, J, H2, e, I2, T, st2, f2, q⟩ := h2
  subst e
  refine wpAny_newObj_type (newEnv_comp ?_) (by show 0 ≤ sizeLine; decide)
  generalize hD : s2.heap.objs.size = D
  have hDn : H2 D = none := I2.hok.fresh (Nat.le_of_eq hD)
  obtain ⟨W, ⟨m0, w0⟩, turn⟩ := q D hDn
  -- the new list
  generalize hs3 : ({ s2 with heap := s2.heap.push { cls := .type "list", data := .seq ([] : List Value).toArray } } : Shared) = s3
  have I3 : Inv X pins σ (upd H2 D (.lst [])) s3 := by
    rw [← hs3]
    refine I2.laid (t' := s2.toks) (fun b o e => Heap.get?_push_of_some _ e) (Nat.le_of_eq hD) ⟨Nat.zero_le _, [], 0, .nil, ?_⟩
    rw [← hD]
    exact Heap.get?_push_size _ rfl
  have h3 : s3.heap = s2.heap.push { cls := .type "list", data := .seq ([] : List Value).toArray } := by rw [← hs3]
  have sz : ∀ b ∈ fp, b < s2.heap.objs.size := fun b hb => by
    obtain ⟨o, e, _⟩ := T.obj _ _ st2 b hb
    exact Heap.lt_size e
  have f3 : ∀ b ∈ fp, FpOk X pins (upd H2 D (.lst [])) b ∧ b < s3.heap.objs.size := fun b hb => by
    have hlt := sz b hb
    refine ⟨⟨?_, (f2 b hb).2⟩, by rw [h3, Heap.size_push]; exact Nat.lt_succ_of_lt hlt⟩
    rw [upd_ne (by rw [← hD]; exact Nat.ne_of_lt hlt)]
    exact (f2 b hb).1
  have st3 : tn 0 s3.heap := T.keep _ _ _ st2 fun b _ o e => by rw [h3]; exact Heap.get?_push_of_some _ e
  have I4 := block_start I3 ok hN f3
  have pg := hg s3 (upd H2 D (.lst [])) s3.heap.objs.size (cellsFrom (s3.heap.objs.size + 1) scope.names (cloFrom X.env.cells scope.names [])) fp
  have pt := ht s3 (upd H2 D (.lst [])) s3.heap.objs.size (cellsFrom (s3.heap.objs.size + 1) scope.names (cloFrom X.env.cells scope.names [])) fp
  have pe := he s3 (upd H2 D (.lst [])) s3.heap.objs.size (cellsFrom (s3.heap.objs.size + 1) scope.names (cloFrom X.env.cells scope.names [])) fp
  show codeAny _ _ (.compStart (.ListComp elt [⟨tg, iter, ifs, 0⟩] scope pos) 0 (.ref it) (.ref D) (compEnvC scope (cellsFrom (s3.heap.objs.size + 1) scope.names (cloFrom X.env.cells scope.names [])) s3.heap.objs.size X.env)) (compPost (model X.prog X.w) X.A X.xe use Qf (.ref D) s3.heap.objs.size) { s3 with heap := pushCells (s3.heap.push { cls := .type "dict", data := .dict #[] }) scope.names }
  have nfp : ∀ b ∈ fp, (upd H2 D (.lst [])) b = none := fun b hb => (f3 b hb).1.1
  generalize hce : compEnvC scope (cellsFrom (s3.heap.objs.size + 1) scope.names (cloFrom X.env.cells scope.names [])) s3.heap.objs.size X.env = ce at I4 pg pt pe ⊢
  have cL : ce.locals = s3.heap.objs.size := by subst hce; rfl
  generalize hH3 : upd H2 D (.lst []) = H3 at I3 I4 pg pt pe w0 nfp f3
  generalize hs4 : ({ s3 with heap := pushCells (s3.heap.push { cls := .type "dict", data := .dict #[] }) scope.names } : Shared) = s4 at I4 ⊢
  have st4 : tn 0 s4.heap := T.keep _ _ _ st3 fun b _ o e => by rw [← hs4]; exact pushCells_keeps _ _ _ _ (Heap.get?_push_of_some _ e)
  have stat : ∀ {σ' : St} {H' : Hp} {s' : Shared}, Inv (X.blk s3 H3 scope ce fp) [] σ' H' s' → (∀ b ∈ fp, H' b = none) → ∀ b ∈ fp, FpOk (X.blk s3 H3 scope ce fp) [] H' b := fun {σ' H' s'} I' hn b hb =>
    ⟨hn b hb, (I'.ok.exf b hb).1, I'.ok.exfs b hb, .inl hb, fun x c e => (I'.ok.exf b hb).2 x c e, fun p hp => absurd (show p ∈ ([] : List (Addr × Obj)) ++ [] from hp) (by simp)⟩
  have loop : codeAny (model X.prog X.w) X.A (.compLoop (.ListComp elt [⟨tg, iter, ifs, 0⟩] scope pos) 0 (.ref it) (.ref D) ce) (compPost (model X.prog X.w) X.A X.xe use Qf (.ref D) s3.heap.objs.size) s4 := by
    refine compLoop_any (fun n s' => ∃ i H', Inv (X.blk s3 H3 scope ce fp) [] (wipe σ (own.map (·.2))) H' s' ∧ tn i s'.heap ∧ (∀ b ∈ fp, H' b = none) ∧ W i n H') ?_ m0 ⟨0, H3, I4, st4, nfp, w0⟩
    rintro n s5 ⟨i, H5, I5, st5, n5, w5⟩
    rcases turn i n H5 w5 with ⟨stop, qq⟩ | ⟨go, Nx, hNx, step⟩
    · have td := T.done (X.blk s3 H3 scope ce fp) rfl rfl rfl hc i [] s5 _ H5 (fun _ _ => False) I5 (stat I5 n5) st5 stop
      refine thnF td fun r s6 ⟨hr, I6⟩ => ?_
      subst hr
      -- back in the def's context
      have I7 : Inv X pins σ H5 s6 := I3.call' (ch := fp) I6.os I6.base I6.hok I6.bare fun b hb => ⟨(f3 b hb).1.2.2.2.1, (f3 b hb).1.2.1, (f3 b hb).1.2.2.2.2.1, (f3 b hb).1.2.2.2.2.2⟩
      have nC : H5 s3.heap.objs.size = none := by
        have z : H5 ce.locals = none := I6.free
        rw [cL] at z
        exact z
      obtain ⟨m, hn, _⟩ := I6.loc
      have hn : s6.heap.Ns ce.locals m := hn
      rw [cL] at hn
      exact hRR D s3.heap.objs.size s6 m H5 I7 qq hn (I3.fpOk (Nat.le_refl _) nC)
    · have ti := T.item (X.blk s3 H3 scope ce fp) rfl rfl rfl hc i [] s5 _ H5 (fun _ _ => False) I5 (stat I5 n5) st5 go
      refine thnF ti fun r s6 ⟨u, hr, h6⟩ => ?_
      subst hr
      refine thnF h6 fun _ s7 ⟨x, H7, I7, r7, y7, st7, n7⟩ => ?_
      have I7' := I7.pinned (stat I7 n7) (T.obj _ _ st7)
      refine thnF (pg _ s7 _ H7 x u _ I7' r7 (step x H7 y7)) fun _ s8 ⟨σ8, H8, I8, hw8, q8⟩ => ?_
      refine thnF (pt _ s8 σ8 H8 _ I8 q8) fun b s9 ⟨H9, I9, q9⟩ => ?_
      -- the turn's end
      have fin : ∀ {s' : Shared} {H' : Hp}, Inv (X.blk s3 H3 scope ce fp) ([] ++ pinsAt fp s7.heap) σ8 H' s' → Nx H' → ∃ m, m < n ∧ ∃ i H', Inv (X.blk s3 H3 scope ce fp) [] (wipe σ (own.map (·.2))) H' s' ∧ tn i s'.heap ∧ (∀ b ∈ fp, H' b = none) ∧ W i m H' := fun {s' H'} I' nx => by
        obtain ⟨m', hm, w'⟩ := hNx H' nx
        have pin' : ∀ b ∈ fp, ∀ o, s7.heap.get? b = some o → s'.heap.get? b = some o ∧ H' b = none := fun b hb o e =>
          let z := I'.pin (b, o) (List.mem_append_right _ (List.mem_append_right _ (mem_pinsAt hb e)))
          ⟨z.1, z.2.1⟩
        have hl : (wipe σ (own.map (·.2))).length = σ8.length := by rw [← hw8, wipe_length]
        refine ⟨m', hm, i + 1, H', (I'.unpinned (pins := [])).weak hl (fun j v e => ?_), T.keep _ _ _ st7 fun b hb o e => (pin' b hb o e).1, fun b hb => ?_, w'⟩
        · rw [← hw8] at e
          exact (wipe_some e).1
        · obtain ⟨o, e, _⟩ := T.obj _ _ st7 b hb
          exact (pin' b hb o e).2
      cases b with
      | false =>
        simp only [Bool.false_eq_true, if_false] at q9 ⊢
        exact fin I9 q9
      | true =>
        simp only [if_true] at q9 ⊢
        refine thnF (pe _ s9 σ8 H9 _ I9 q9) fun z s10 ⟨yv, H10, I10, r10, acc, hD10, hz10, nx⟩ => ?_
        exact app_ok (X := X.blk s3 H3 scope ce fp) I10 hD10 hz10 r10 fun s11 I11 => fin I11 nx
  exact codeAny_compStart_list loop (T.self X.A 0 _ _ _ st4 loop)
theorem pe_lc {elt tg iter : Expr} {ifs : List Expr} {scope : Scope} {own : List (Str × Nat)} {pos : Pos} {wi : TI} {g : TG} {tt : TT} {te : TE} (hc : X.calm = true) (hN : X.N.Nodup) (hi : PI X tg iter wi) (ok : BlkOk X.N X.env.scope scope own)
    (hg : ∀ (s : Shared) (H : Hp) (C : Addr) (cl : List (Str × Addr)) (fp : List Addr), PG (X.blk s H scope (compEnvC scope cl C X.env) fp) tg g) (ht : ∀ (s : Shared) (H : Hp) (C : Addr) (cl : List (Str × Addr)) (fp : List Addr), PTs (X.blk s H scope (compEnvC scope cl C X.env) fp) ifs tt)
    (he : ∀ (s : Shared) (H : Hp) (C : Addr) (cl : List (Str × Addr)) (fp : List Addr), PE (X.blk s H scope (compEnvC scope cl C X.env) fp) elt te) (hs : ∀ x, foldedSetIterable iter X.env x = pure x := by intro _; rfl) :
    PE X (.ListComp elt [⟨tg, iter, ifs, 0⟩] scope pos) (tLc wi g tt te (own.map (·.2))) := by
  intro pins s σ H Q I h
  rw [eval_ListComp]
  refine lc_core hc hN I hi ok hg ht he hs h fun D C s' m H' I' q hn f => ⟨m, hn, fun h'' sb => ?_⟩
  obtain ⟨f0, f1, f2, f3, f4, f5⟩ := f
  exact ⟨.ref D, H', I'.turned (t' := s'.toks) (fun b o hb e => (sb.2 b hb).trans e) f0 f1 f3 f4 f5, rfl, q⟩
theorem ps_setLc {i : Nat} {y : Str} {py : Pos} {elt tg iter : Expr} {ifs : List Expr} {scope : Scope} {own : List (Str × Nat)} {pos spos : Pos} {wi : TI} {g : TG} {tt : TT} {te : TE} (hc : X.calm = true) (hN : X.N.Nodup) (hy : X.N[i]? = some y) (hyl : X.env.scope.names.lookup y = some .local)
    (hsw : swapsWith (.ListComp elt [⟨tg, iter, ifs, 0⟩] scope pos) (some (.Name y py)) spos.line X.env = pure true) (hi : PI X tg iter wi) (ok : BlkOk X.N X.env.scope scope own)
    (hg : ∀ (s : Shared) (H : Hp) (C : Addr) (cl : List (Str × Addr)) (fp : List Addr), PG (X.blk s H scope (compEnvC scope cl C X.env) fp) tg g) (ht : ∀ (s : Shared) (H : Hp) (C : Addr) (cl : List (Str × Addr)) (fp : List Addr), PTs (X.blk s H scope (compEnvC scope cl C X.env) fp) ifs tt)
    (he : ∀ (s : Shared) (H : Hp) (C : Addr) (cl : List (Str × Addr)) (fp : List Addr), PE (X.blk s H scope (compEnvC scope cl C X.env) fp) elt te) (hs : ∀ x, foldedSetIterable iter X.env x = pure x := by intro _; rfl) :
    PS X (.Assign [.Name y py] (.ListComp elt [⟨tg, iter, ifs, 0⟩] scope pos) spos) (tAsg (tLc wi g tt te (own.map (·.2))) (gName i)) := by
  intro pins s σ H D I h
  rw [exec_Assign_Name_used _ _ _ _ hsw]
  refine wpAny_bind (wpAny_standAt (wpAny_bind ?_))
  show wpAny _ X.A (do let _ ← comprehension (.ListComp elt [⟨tg, iter, ifs, 0⟩] scope pos) scope X.env (firstIterPos [⟨tg, iter, ifs, 0⟩] pos) (newList []) false (eval iter X.env) (some (assign (.Name y py) X.env))) _ _ s
  have h : tLc wi g tt te (own.map (·.2)) σ H (fun x H1 => gName i x σ H1 D.nx) := h
  refine wpAny_bind (thn (lc_core (Qf := fun _ s' => SP X pins D .next s') hc hN I hi ok hg ht he hs h fun L C s' m H' I' q hn f => ?_) fun _ s' hq => wpAny_pure (wpAny_pure hq))
  show wpAny _ _ (assign (.Name y py) X.env (.ref L)) _ _ _
  refine wpAny_assign_Name (store_ok2 (v := V.ref L) I' hN hy (.inl hyl) rfl (fun s2 I2 ⟨a, sb, ha⟩ => ?_) (.inr hyl))
  obtain ⟨f0, f1, f2, f3, f4, f5⟩ := f
  have haC : C ≠ a := by
    rcases ha with z | z
    · rw [z]; exact f1
    · exact fun e => f4 y a z e.symm
  refine ⟨m, hn.sameBut sb haC, fun h3 sb3 => ?_⟩
  exact ⟨_, H', I2.turned (t' := s2.toks) (fun b o hb e => (sb3.2 b hb).trans e) f0 f1 f3 f4 f5, q⟩
theorem sw_true {elt : Expr} {gs : List Comprehension} {scope : Scope} {pos py : Pos} {y : Str} {l : Nat} {env : Env} (hk : env.scope.kind = .function) (hy : env.scope.names.lookup y = some .local) (hl : (py.line == pos.line) = true)
    (ha : (scope.names.any fun (n, k) => n == y && (k == .local || k == .cell)) = false) : swapsWith (.ListComp elt gs scope pos) (some (.Name y py)) l env = pure true := by
  have ky : env.kindOf y = some .local := hy
  have hb : env.blockKind = .function := by unfold Env.blockKind; rw [hk]; rfl
  unfold swapsWith
  simp only [hb, ky, ha, Expr.pos, hl]
  rfl
end
theorem lc_range {lo : Int} {n : Nat} {g : TG} {tt : TT} {te : TE} {vs : List Nat} {σ : St} {H1 : Hp} {D : Addr} {Qd : Hp → Prop} (Pv : Nat → Hp → Prop) (h0 : Pv 0 (upd H1 D (.lst [])))
    (hs : ∀ i H, i < n → Pv i H → g (.int (lo + i)) (wipe σ vs) H fun σ2 H2 => wipe σ2 vs = wipe σ vs ∧ tt σ2 H2 fun b H3 =>
      if b = true then te σ2 H3 fun y H4 => ∃ acc, H4 D = some (.lst acc) ∧ acc.length < sizeLine ∧ Pv (i + 1) (upd H4 D (.lst (acc ++ [y]))) else Pv (i + 1) H3) (hd : ∀ H, Pv n H → Qd H) :
    ∃ W : Nat → Nat → Hp → Prop, (∃ m, W 0 m (upd H1 D (.lst []))) ∧ ∀ i m H, W i m H →
      ((Itr lo n).stop i H ∧ Qd H) ∨ ((Itr lo n).go i H ∧ ∃ Nx : Hp → Prop, (∀ H', Nx H' → ∃ m', m' < m ∧ W (i + 1) m' H') ∧ ∀ x H', (Itr lo n).yld i H x H' → g x (wipe σ vs) H' fun σ2 H2 => wipe σ2 vs = wipe σ vs ∧ tt σ2 H2 fun b H3 =>
        if b = true then te σ2 H3 fun y H4 => ∃ acc, H4 D = some (.lst acc) ∧ acc.length < sizeLine ∧ Nx (upd H4 D (.lst (acc ++ [y]))) else Nx H3) := by
  refine ⟨fun i m H => m = n - i ∧ i ≤ n ∧ Pv i H, ⟨n, by simp, Nat.zero_le _, h0⟩, ?_⟩
  rintro i m H ⟨rfl, hi, p⟩
  by_cases hlt : i < n
  · refine .inr ⟨hlt, Pv (i + 1), fun H' p' => ⟨n - (i + 1), by omega, rfl, hlt, p'⟩, fun x H' y => ?_⟩
    obtain ⟨e, y⟩ := y
    subst e y
    exact hs i _ hlt p
  · have e : i = n := by omega
    subst e
    exact .inl ⟨Nat.le_refl _, hd H p⟩
theorem lc_list {K : PySem.W.Frag} {a : Addr} {xs : List V} {g : TG} {tt : TT} {te : TE} {vs : List Nat} {σ : St} {H1 : Hp} {D : Addr} {Qd : Hp → Prop} (Pv : Nat → Hp → Prop) (h0 : Pv 0 (upd H1 D (.lst []))) (hl : ∀ i H, i ≤ xs.length → Pv i H → SqL K H a xs)
    (hs : ∀ i x H, xs[i]? = some x → Pv i H → g x (wipe σ vs) H fun σ2 H2 => wipe σ2 vs = wipe σ vs ∧ tt σ2 H2 fun b H3 =>
      if b = true then te σ2 H3 fun y H4 => ∃ acc, H4 D = some (.lst acc) ∧ acc.length < sizeLine ∧ Pv (i + 1) (upd H4 D (.lst (acc ++ [y]))) else Pv (i + 1) H3) (hd : ∀ H, Pv xs.length H → Qd H) :
    ∃ W : Nat → Nat → Hp → Prop, (∃ m, W 0 m (upd H1 D (.lst []))) ∧ ∀ i m H, W i m H →
      ((Itl K a).stop i H ∧ Qd H) ∨ ((Itl K a).go i H ∧ ∃ Nx : Hp → Prop, (∀ H', Nx H' → ∃ m', m' < m ∧ W (i + 1) m' H') ∧ ∀ x H', (Itl K a).yld i H x H' → g x (wipe σ vs) H' fun σ2 H2 => wipe σ2 vs = wipe σ vs ∧ tt σ2 H2 fun b H3 =>
        if b = true then te σ2 H3 fun y H4 => ∃ acc, H4 D = some (.lst acc) ∧ acc.length < sizeLine ∧ Nx (upd H4 D (.lst (acc ++ [y]))) else Nx H3) := by
  refine ⟨fun i m H => m = xs.length - i ∧ i ≤ xs.length ∧ Pv i H, ⟨xs.length, by simp, Nat.zero_le _, h0⟩, ?_⟩
  rintro i m H ⟨rfl, hi, p⟩
  have q := hl i H hi p
  by_cases hlt : i < xs.length
  · refine .inr ⟨⟨xs, xs[i], q, by simp [hlt]⟩, Pv (i + 1), fun H' p' => ⟨xs.length - (i + 1), by omega, rfl, hlt, p'⟩, fun x H' y => ?_⟩
    obtain ⟨e, y⟩ := y
    subst e
    exact hs i x _ (y xs q) p
  · have e : i = xs.length := by omega
    subst e
    exact .inl ⟨⟨xs, q, Nat.le_refl _⟩, hd H p⟩
noncomputable def blkC (N : List Str) (sc scope : Scope) (own : List (Str × Nat)) : Bool :=
  (match scope.kind with | .function => true | _ => false) && (scope.names.all fun y => decide (scope.names.lookup y.1 = some y.2)) && (own.all fun p => decide (N[p.2]? = some p.1)) &&
    (scope.names.all fun y => match y.2 with
      | .free => (match sc.names.lookup y.1 with | some .cell => true | some .free => true | _ => false)
      | .local => decide (y.1 ∈ own.map (·.1)) || decide (y.1 ∉ N)
      | .cell => decide (y.1 ∈ own.map (·.1)) || decide (y.1 ∉ N)
      | _ => true)
theorem blkOk_by {N : List Str} {sc scope : Scope} {own : List (Str × Nat)} (h : blkC N sc scope own = true) : BlkOk N sc scope own := by
  unfold blkC at h
  simp only [Bool.and_eq_true, List.all_eq_true, decide_eq_true_eq] at h
  obtain ⟨⟨⟨h1, h2⟩, h3⟩, h4⟩ := h
  refine ⟨?_, h2, h3, fun y hy e => ?_, fun y hy e => ?_⟩
  · split at h1
    · assumption
    · cases h1
  · have q := h4 y hy
    simp only [e] at q
    split at q <;> first | exact .inl (by assumption) | exact .inr (by assumption) | cases q
  · have q := h4 y hy
    rcases e with e | e <;> (simp only [e, Bool.or_eq_true, decide_eq_true_eq] at q; exact q)
end L2
namespace L2
open PySem PySem.Spec PyProof.Rows
section
variable {prog : Program} {w : World} {A : Around} {R : Result → Shared → Prop} {s : Shared} {elt t0 i0 t1 i1 : Expr} {ifs0 ifs1 : List Expr} {scope : Scope} {pos : Pos} {it acc : Value} {env : Env}
end
section
variable {X : Cx}
end
end L2
namespace L2
open PySem PySem.Spec PyProof.Rows
section
variable {κ : Type} [DecidableEq κ]
noncomputable def valV (kvs : List (κ × V)) (k : κ) : Option V := (kvs.find? fun kv => decide (kv.1 = k)).map (·.2)
noncomputable def putK (kvs : List (κ × V)) (k : κ) (v : V) : List (κ × V) :=
  if (kvs.any fun kv => decide (kv.1 = k)) = true then kvs.map (fun kv => if kv.1 = k then (kv.1, v) else kv) else kvs ++ [(k, v)]
theorem valV_pos {p : κ × V} {r : List (κ × V)} {k : κ} (e : p.1 = k) : valV (p :: r) k = some p.2 := by simp [valV, List.find?_cons, e]
theorem valV_neg {p : κ × V} {r : List (κ × V)} {k : κ} (e : ¬ p.1 = k) : valV (p :: r) k = valV r k := by simp [valV, List.find?_cons, e]
theorem valV_any (k : κ) : ∀ kvs : List (κ × V), (kvs.any fun kv => decide (kv.1 = k)) = (valV kvs k).isSome
  | [] => rfl
  | p :: r => by
    rw [List.any_cons]
    by_cases e : p.1 = k
    · simp only [valV_pos e, decide_eq_true e, Bool.true_or, Option.isSome_some]
    · rw [valV_neg e, decide_eq_false e, Bool.false_or]; exact valV_any k r
theorem length_putK (kvs : List (κ × V)) (k : κ) (v : V) : (putK kvs k v).length ≤ kvs.length + 1 := by
  unfold putK
  split
  · rw [List.length_map]; omega
  · rw [List.length_append, List.length_cons, List.length_nil]; omega
theorem putK_new {kvs : List (κ × V)} {k : κ} (v : V) (h : valV kvs k = none) : putK kvs k v = kvs ++ [(k, v)] := by
  unfold putK
  rw [valV_any, h]
  exact if_neg (by decide)
theorem RelO.isSome_eq {o : Option V} {u : Option Value} (r : RelO o u) : o.isSome = u.isSome := by
  cases o with
  | none => cases u with
    | none => rfl
    | some _ => exact (show False from r).elim
  | some _ => cases u with
    | none => exact (show False from r).elim
    | some _ => rfl
theorem KV.val {kvs : List (κ × V)} {vs : List (κ × Value)} (r : KV kvs vs) (k : κ) : RelO (valV kvs k) (valueAt vs k) := by
  unfold KV at r
  induction r with
  | nil => exact True.intro
  | @cons p q ps qs h t ih =>
    obtain ⟨h1, h2⟩ := h
    by_cases e : p.1 = k
    · have e' : q.1 = k := h1.symm.trans e
      have b : valueAt (q :: qs) k = some q.2 := by simp [valueAt, List.find?_cons, e']
      rw [valV_pos e, b]; exact h2
    · have e' : ¬ q.1 = k := fun z => e (h1.trans z)
      have b : valueAt (q :: qs) k = valueAt qs k := by simp [valueAt, List.find?_cons, e']
      rw [valV_neg e, b]; exact ih
theorem KV.any {kvs : List (κ × V)} {vs : List (κ × Value)} (r : KV kvs vs) (k : κ) : (kvs.any fun kv => decide (kv.1 = k)) = vs.any fun kv => decide (kv.1 = k) := by
  unfold KV at r
  induction r with
  | nil => rfl
  | cons h t ih => rw [List.any_cons, List.any_cons, ih, h.1]
theorem KV.repl {kvs : List (κ × V)} {vs : List (κ × Value)} (r : KV kvs vs) (k : κ) {y : V} {u : Value} (ry : RelV y u) :
    KV (kvs.map fun kv => if kv.1 = k then (kv.1, y) else kv) (vs.map fun kv => if kv.1 = k then (kv.1, u) else kv) := by
  unfold KV at r ⊢
  induction r with
  | nil => exact .nil
  | @cons p q ps qs h t ih =>
    rw [List.map_cons, List.map_cons]
    refine .cons ?_ ih
    obtain ⟨h1, h2⟩ := h
    by_cases e : p.1 = k
    · rw [if_pos e, if_pos (h1.symm.trans e)]; exact ⟨h1, ry⟩
    · rw [if_neg e, if_neg (fun z => e (h1.trans z))]; exact ⟨h1, h2⟩
theorem KV.put {kvs : List (κ × V)} {vs : List (κ × Value)} (r : KV kvs vs) (k : κ) {y : V} {u : Value} (ry : RelV y u) : KV (putK kvs k y) (stored vs k u) := by
  unfold putK stored
  rw [r.any k]
  by_cases e : (vs.any fun kv => decide (kv.1 = k)) = true
  · rw [if_pos e, if_pos e]; exact r.repl k ry
  · rw [if_neg e, if_neg e]; exact Paired.snoc r ⟨rfl, ry⟩
theorem KV.length {kvs : List (κ × V)} {vs : List (κ × Value)} (r : KV kvs vs) : kvs.length = vs.length := Paired.length r
end
theorem kV_is {P : Program} {w : World} {k : Key} {u : Value} (r : RelV (kV k) u) : (mixKind P w).is k u = true := by
  cases k with
  | inl i => obtain ⟨t, e⟩ := (show ∃ t, u = Value.int i t from r); subst e; exact mixKind_int P w i t
  | inr x => obtain ⟨t, e⟩ := (show ∃ t, u = Value.str x t from r); subst e; exact mixKind_str P w x t
theorem items_are {P : Program} {w : World} : ∀ {ks : List Key} {us : List Value}, Vals (ks.map kV) us → ItemsAre (mixKind P w) ks us
  | [], _, r => by rw [List.map_nil] at r; cases r; exact .nil
  | k :: ks, _, r => by
    rw [List.map_cons] at r
    cases r with
    | cons h t => exact .cons (kV_is h) (items_are t)
noncomputable abbrev KT (H : Hp) : List (List Key × V) → List (List Key × Addr × Value) → Prop := Paired fun p q => p.1 = q.1 ∧ H q.2.1 = some (.tup (p.1.map kV)) ∧ RelV p.2 q.2.2
theorem KT.val {H : Hp} {kvs : List (List Key × V)} {xs : List (List Key × Addr × Value)} (r : KT H kvs xs) (k : List Key) : RelO (valV kvs k) ((atKey xs k).map (·.2)) := by
  induction r with
  | nil => exact True.intro
  | @cons p q ps qs h t ih =>
    obtain ⟨h1, _, h2⟩ := h
    by_cases e : p.1 = k
    · have e' : q.1 = k := h1.symm.trans e
      have b : atKey (q :: qs) k = some q.2 := by simp [atKey, List.find?_cons, e']
      rw [valV_pos e, b]; exact h2
    · have e' : ¬ q.1 = k := fun z => e (h1.trans z)
      have b : atKey (q :: qs) k = atKey qs k := by simp [atKey, List.find?_cons, e']
      rw [valV_neg e, b]; exact ih
theorem KT.repl {H : Hp} {kvs : List (List Key × V)} {xs : List (List Key × Addr × Value)} (r : KT H kvs xs) (k : List Key) {y : V} {u : Value} (ry : RelV y u) :
    KT H (kvs.map fun kv => if kv.1 = k then (kv.1, y) else kv) (xs.map (putAt k u)) := by
  induction r with
  | nil => exact .nil
  | @cons p q ps qs h t ih =>
    rw [List.map_cons, List.map_cons]
    refine .cons ?_ ih
    obtain ⟨h1, h2, h3⟩ := h
    unfold putAt
    by_cases e : p.1 = k
    · rw [if_pos e, if_pos (h1.symm.trans e)]; exact ⟨h1, h2, ry⟩
    · rw [if_neg e, if_neg (fun z => e (h1.trans z))]; exact ⟨h1, h2, h3⟩
theorem KT.put {H : Hp} {kvs : List (List Key × V)} {xs : List (List Key × Addr × Value)} (r : KT H kvs xs) (k : List Key) {b : Addr} {y : V} {u : Value} (hb : H b = some (.tup (k.map kV))) (ry : RelV y u) :
    KT H (putK kvs k y) (storedH xs k b u) := by
  have e : (kvs.any fun kv => decide (kv.1 = k)) = (atKey xs k).isSome := by
    rw [valV_any, (r.val k).isSome_eq, Option.isSome_map]
  unfold putK storedH
  rw [e]
  by_cases q : (atKey xs k).isSome = true
  · rw [if_pos q, if_pos q]; exact r.repl k ry
  · rw [if_neg q, if_neg q]; exact Paired.snoc r ⟨rfl, hb, ry⟩
theorem KT.keeps {H H' : Hp} {kvs : List (List Key × V)} {xs : List (List Key × Addr × Value)} (r : KT H kvs xs) (ht : ∀ b ys, H b = some (.tup ys) → H' b = some (.tup ys)) : KT H' kvs xs :=
  Paired.mapP r fun _ _ z => ⟨z.1, ht _ _ z.2.1, z.2.2⟩
section
variable {P : Program} {w : World} {H : Hp} {h : Heap} {a : Addr}
theorem rd_of {u : HO} (ok : HOk P w H h) (e : Rd H a u) : ObjOk P w H h a u := e.ok ok
theorem dk_rd {kvs : List (Key × V)} (ok : HOk P w H h) (e : Rd H a (.dK kvs)) : kvs.length ≤ sizeLine ∧ (a == sysModules) = false ∧ ∃ vs, KV kvs vs ∧ h.DictOf (mixKind P w) a vs :=
  show ObjOk P w H h a (.dK kvs) from rd_of ok e
theorem dk_of {kvs : List (Key × V)} (ok : HOk P w H h) (e : H a = some (.dK kvs)) : kvs.length ≤ sizeLine ∧ (a == sysModules) = false ∧ ∃ vs, KV kvs vs ∧ h.DictOf (mixKind P w) a vs := dk_rd ok (.inl e)
theorem key_of {ks : List Key} (ok : HOk P w H h) (e : H a = some (.tup (ks.map kV))) : (tupleKind (mixKind P w)).is h ks a := by
  obtain ⟨_, its, r, o, h1, h2, n, h3⟩ := (show ObjOk P w H h a (.tup (ks.map kV)) from ok a _ e)
  exact ⟨o, its.toArray, n, h1, h2, h3, by simpa using items_are r⟩
theorem dt_rd {kvs : List (List Key × V)} (ok : HOk P w H h) (e : Rd H a (.dT kvs)) : kvs.length ≤ sizeLine ∧ (a == sysModules) = false ∧
    ∃ xs, KT H kvs xs ∧ h.DictOfH (tupleKind (mixKind P w)) a xs := by
  obtain ⟨z, y, xs, r, o, es, ep, h1, h2, h3, h4, h5⟩ := (show ObjOk P w H h a (.dT kvs) from rd_of ok e)
  refine ⟨z, y, xs, r, o, es, ep, h1, h2, h3, h4, fun x hx => ?_, h5⟩
  have all : ∀ {l : List (List Key × V)} {m : List (List Key × Addr × Value)}, KT H l m → ∀ x ∈ m, (tupleKind (mixKind P w)).is h x.1 x.2.1 := by
    intro l m q
    induction q with
    | nil => intro x hx; exact nomatch hx
    | @cons p q ps qs hq t ih =>
      intro x hx
      rcases List.mem_cons.mp hx with e | hx
      · subst e
        exact key_of ok (by rw [← hq.1]; exact hq.2.1)
      · exact ih x hx
  exact all r x hx
theorem dt_of {kvs : List (List Key × V)} (ok : HOk P w H h) (e : H a = some (.dT kvs)) : kvs.length ≤ sizeLine ∧ (a == sysModules) = false ∧
    ∃ xs, KT H kvs xs ∧ h.DictOfH (tupleKind (mixKind P w)) a xs := dt_rd ok (.inl e)
end
noncomputable def DGet (H : Hp) (a : Addr) (y : V) (r : Option V) : Prop :=
  (∃ kvs k, Rd H a (.dK kvs) ∧ y = kV k ∧ r = valV kvs k) ∨ ∃ kvs k b, Rd H a (.dT kvs) ∧ y = .ref b ∧ H b = some (.tup (k.map kV)) ∧ r = valV kvs k
noncomputable def DPut (H : Hp) (a : Addr) (y v : V) (H' : Hp) : Prop :=
  (∃ kvs k, H a = some (.dK kvs) ∧ y = kV k ∧ kvs.length < sizeLine ∧ H' = upd H a (.dK (putK kvs k v))) ∨
  ∃ kvs k b, H a = some (.dT kvs) ∧ y = .ref b ∧ H b = some (.tup (k.map kV)) ∧ kvs.length < sizeLine ∧ H' = upd H a (.dT (putK kvs k v))
theorem DGet.k {H : Hp} {a : Addr} {kvs : List (Key × V)} {k : Key} (e : H a = some (.dK kvs)) : DGet H a (kV k) (valV kvs k) := .inl ⟨kvs, k, .inl e, rfl, rfl⟩
theorem DPut.k {H : Hp} {a : Addr} {kvs : List (Key × V)} {k : Key} {v : V} (e : H a = some (.dK kvs)) (hl : kvs.length < sizeLine) : DPut H a (kV k) v (upd H a (.dK (putK kvs k v))) := .inl ⟨kvs, k, e, rfl, hl, rfl⟩
section
variable {X : Cx} {pins : List (Addr × Obj)} {σ : St} {H : Hp} {s : Shared} {a : Addr} {y v : V} {u r : Value} {o : Option V} {A : Around} {E : Value → Shared → Prop}
theorem Inv.big (I : Inv X pins σ H s) : sysModules < s.heap.objs.size := by
  have h : mainGlobals < s.heap.objs.size := (I.mod.glob.keeps I.bk).lt
  exact Nat.lt_trans (by decide) h
theorem d_getItem {Q : Value → Shared → Prop} (hu : A.units + 1 < cLine) (I : Inv X pins σ H s) (g : DGet H a y (some v)) (ry : RelV y u) (h : ∀ w' s', Inv X pins σ H s' → RelV v w' → Q w' s') :
    wpAny (model X.prog X.w) A (getItem (.ref a) u) Q E s := by
  rcases g with ⟨kvs, k, e, ey, l⟩ | ⟨kvs, k, b, e, ey, eb, l⟩
  · subst ey
    obtain ⟨z, hd, vs, rel, dd⟩ := dk_rd I.hok e
    obtain ⟨w', hw, rw'⟩ := RelO.some_of (v := v) (o := valueAt vs k) (by rw [l]; exact rel.val k)
    exact wpAny_getItem_of (kV_is ry) dd.mapOf hw (h w' _ (I.tok _) rw')
  · subst ey
    cases (show u = Value.ref b from ry)
    obtain ⟨z, hd, xs, rel, dd⟩ := dt_rd I.hok e
    obtain ⟨w', hw, rw'⟩ := RelO.some_of (v := v) (o := (atKey xs k).map (·.2)) (by rw [l]; exact rel.val k)
    obtain ⟨p, hp, hp2⟩ := Option.map_eq_some_iff.mp hw
    refine wpAny_getItem_heap (tupleKind_room_in1 hu) (key_of I.hok eb) dd hp ?_
    rw [hp2]
    exact h w' _ (I.tok _) rw'
theorem d_in {Q : Value → Shared → Prop} (hu : A.units + 1 < cLine) (I : Inv X pins σ H s) (g : DGet H a y o) (ry : RelV y u) (h : ∀ s', Inv X pins σ H s' → Q (.bool o.isSome) s') :
    wpAny (model X.prog X.w) A (compareOp .In u (.ref a)) Q E s := by
  rcases g with ⟨kvs, k, e, ey, l⟩ | ⟨kvs, k, b, e, ey, eb, l⟩
  · subst ey
    obtain ⟨z, hd, vs, rel, dd⟩ := dk_rd I.hok e
    refine wpAny_in_of (kV_is ry) hd dd.mapOf ?_
    rw [← (rel.val k).isSome_eq, ← l]
    exact h _ (I.tok _)
  · subst ey
    cases (show u = Value.ref b from ry)
    obtain ⟨z, hd, xs, rel, dd⟩ := dt_rd I.hok e
    refine wpAny_in_heap (tupleKind_room_in1 hu) (key_of I.hok eb) hd dd ?_
    have q := (rel.val k).isSome_eq
    rw [Option.isSome_map] at q
    rw [← q, ← l]
    exact h _ (I.tok _)
theorem d_notIn {Q : Value → Shared → Prop} (hu : A.units + 1 < cLine) (I : Inv X pins σ H s) (g : DGet H a y o) (ry : RelV y u) (h : ∀ s', Inv X pins σ H s' → Q (.bool (!o.isSome)) s') :
    wpAny (model X.prog X.w) A (compareOp .NotIn u (.ref a)) Q E s := by
  rcases g with ⟨kvs, k, e, ey, l⟩ | ⟨kvs, k, b, e, ey, eb, l⟩
  · subst ey
    obtain ⟨z, hd, vs, rel, dd⟩ := dk_rd I.hok e
    refine wpAny_notIn_of (kV_is ry) hd dd.mapOf ?_
    rw [← (rel.val k).isSome_eq, ← l]
    exact h _ (I.tok _)
  · subst ey
    cases (show u = Value.ref b from ry)
    obtain ⟨z, hd, xs, rel, dd⟩ := dt_rd I.hok e
    refine wpAny_notIn_heap (tupleKind_room_in1 hu) (key_of I.hok eb) hd dd ?_
    have q := (rel.val k).isSome_eq
    rw [Option.isSome_map] at q
    rw [← q, ← l]
    exact h _ (I.tok _)
theorem d_write {h' : Heap} {t' : Nat} {ob : HO} (I : Inv X pins σ H s) (mu : Mut (H a)) (hs : Heap.SameBut a s.heap h') (he : ∃ q, h'.get? a = some q) (new : ObjOk X.prog X.w (upd H a ob) h' a ob) :
    Inv X pins σ (upd H a ob) { s with heap := h', toks := t' } :=
  I.write (x := a) (e := a) mu (.inl rfl) (fun b q hb z => (hs.2 b hb).trans z) he new
theorem dk_new {P : Program} {w : World} {H' : Hp} {h' : Heap} {kvs : List (Key × V)} {vs : List (Key × Value)} (z : kvs.length ≤ sizeLine) (hd : (a == sysModules) = false) (rel : KV kvs vs) (dd : h'.DictOf (mixKind P w) a vs) :
    ObjOk P w H' h' a (.dK kvs) := ⟨z, hd, vs, rel, dd⟩
theorem d_setItem {H' : Hp} {Q : Unit → Shared → Prop} (hu : A.units + 1 < cLine) (I : Inv X pins σ H s) (g : DPut H a y v H') (ry : RelV y u) (rv : RelV v r) (h : ∀ s', Inv X pins σ H' s' → Q () s') :
    wpAny (model X.prog X.w) A (setItem (.ref a) u r) Q E s := by
  rcases g with ⟨kvs, k, e, ey, l, eH⟩ | ⟨kvs, k, b, e, ey, eb, l, eH⟩
  · subst ey eH
    obtain ⟨z, hd, vs, rel, dd⟩ := dk_of I.hok e
    have hz : vs.length ≤ sizeLine := by rw [← rel.length]; exact z
    have hl : (putK kvs k v).length ≤ sizeLine := by have := length_putK kvs k v; omega
    refine wpAny_setItem_pairs (hsz := hz) (kV_is ry) dd fun h' dd' hs => h _ ?_
    have he : ∃ q, h'.get? a = some q := let ⟨q, _, _, hq, _⟩ := dd'; ⟨q, hq⟩
    exact d_write I (by rw [e]; exact True.intro) hs he (dk_new hl hd (rel.put k rv) dd')
  · subst ey eH
    cases (show u = Value.ref b from ry)
    obtain ⟨z, hd, xs, rel, dd⟩ := dt_of I.hok e
    have hz : xs.length ≤ sizeLine := by rw [← Paired.length rel]; exact z
    have hl : (putK kvs k v).length ≤ sizeLine := by have := length_putK kvs k v; omega
    refine wpAny_setItem_heap (hsz := hz) (tupleKind_room_in1 hu) (key_of I.hok eb) dd fun h' dd' hs => h _ ?_
    obtain ⟨q, es, ep, hq, h2, h3, h4, _, h5⟩ := dd'
    refine d_write I (by rw [e]; exact True.intro) hs ⟨q, hq⟩ ⟨hl, hd, _, (rel.put k eb rv).keeps fun c ys ec => ?_, q, es, ep, hq, h2, h3, h4, h5⟩
    rw [upd_ne (ne_of ec e (fun z => nomatch z))]
    exact ec
end
section
variable {X : Cx} {pins : List (Addr × Obj)} {σ : St} {H : Hp} {s : Shared} {a : Addr} {kvs : List (Key × V)} {k : Key} {u : Value} {A : Around} {E : Value → Shared → Prop}
end
noncomputable def NoSl (i : Expr) : Prop := ∀ ov iv, subscripted i false ov iv = operate [ov, iv] (getItem ov iv)
theorem subD_of {prog : Program} {w : World} {A : Around} {E : Value → Shared → Prop} {s : Shared} {env : Env} {value slice : Expr} {pos : Pos} {T id : String} {Q : Value → Shared → Prop}
    (hl : typeLookup (.type T) "__getitem__" = pure (some (.builtin id))) (hs : NoSl slice)
    (h : wpAny (model prog w) A (eval value env) (fun o s₁ => wpAny (model prog w) A (eval slice env) (fun i s₂ => s₂.TypeIs o T ∧ wpAny (model prog w) A (getItem o i) Q E s₂) E s₁) E s) :
    wpAny (model prog w) A (eval (.Subscript value slice pos) env) Q E s := by
  refine Subscript_ (wpAny_mono h (fun o s₁ h₁ => wpAny_mono h₁ (fun i s₂ h₂ => ?_) fun _ _ x => x) fun _ _ x => x)
  obtain ⟨hT, h₂⟩ := h₂
  unfold subscriptTail
  refine wpAny_bind ?_
  rw [getitemInPython_of_ne hT.not_modules]
  refine wpAny_bind (wpAny_specialOf hT hl ?_)
  have fin : wpAny (model prog w) A (subscripted slice false o i) (fun r s₃ => wpAny (model prog w) A (letTemporaryGo value o r >>= fun _ => pure r) Q E s₃) E s₂ := by
    rw [hs o i]
    exact wpAny_operating (wpAny_mono h₂ (fun r s₃ h₃ => wpAny_bind (wpAny_letTemporaryGo (wpAny_pure h₃))) fun _ _ x => x)
  first
    | exact wpAny_pure (wpAny_bind fin)
    | exact wpAny_bind (wpAny_pure (wpAny_bind fin))
    | exact wpAny_bind fin
theorem dict_typeIs {X : Cx} {pins : List (Addr × Obj)} {σ : St} {H : Hp} {s : Shared} {a : Addr} {y : V} {o : Option V} (I : Inv X pins σ H s) (g : DGet H a y o) : s.TypeIs (.ref a) "dict" := by
  rcases g with ⟨kvs, k, e, _, _⟩ | ⟨kvs, k, b, e, _, _, _⟩
  · obtain ⟨_, _, vs, _, dd⟩ := dk_rd I.hok e
    exact dd.typeIs
  · obtain ⟨_, _, xs, _, dd⟩ := dt_rd I.hok e
    exact dd.typeIs
inductive TDGetR (x : V) (Q : VK) (y : V) (H2 : Hp) : Prop
  | mk (a v : _) (h0 : x = .ref a) (h1 : DGet H2 a y (some v)) (h2 : Q v H2) : TDGetR x Q y H2
noncomputable def tDGet (td ty : TE) : TE := fun σ H Q => td σ H fun x H1 => ty σ H1 (TDGetR x Q)
inductive TDInR (y : V) (Q : VK) (x : V) (H2 : Hp) : Prop
  | mk (a o : _) (h0 : x = .ref a) (h1 : DGet H2 a y o) (h2 : Q (.bl o.isSome) H2) : TDInR y Q x H2
noncomputable def tDIn (ty td : TE) : TE := fun σ H Q => ty σ H fun y H1 => td σ H1 (TDInR y Q)
inductive TDNotInR (y : V) (Q : VK) (x : V) (H2 : Hp) : Prop
  | mk (a o : _) (h0 : x = .ref a) (h1 : DGet H2 a y o) (h2 : Q (.bl (!o.isSome)) H2) : TDNotInR y Q x H2
noncomputable def tDNotIn (ty td : TE) : TE := fun σ H Q => ty σ H fun y H1 => td σ H1 (TDNotInR y Q)
inductive SDPutR (D : Ends) (σ : St) (v : V) (x : V) (y : V) (H3 : Hp) : Prop
  | mk (a H4 : _) (h0 : x = .ref a) (h1 : DPut H3 a y v H4) (h2 : D.nx σ H4) : SDPutR D σ v x y H3
noncomputable def sDPut (td ty tv : TE) : TS := fun D σ H => tv σ H fun v H1 => td σ H1 fun x H2 => ty σ H2 (SDPutR D σ v x)
section
variable {X : Cx} {o i e value : Expr} {pos pos' tpos : Pos} {td ty tv : TE}
theorem pe_dget (hu : X.A.units + 1 < cLine) (ho : PE X o td) (hi : PE X i ty) (hs : NoSl i) : PE X (.Subscript o i pos) (tDGet td ty) := by
  intro pins s σ H Q I h
  refine subD_of PySem.F.slot_dict_getitem.lookup hs (thn (ho pins s σ H _ I h) fun u s1 ⟨x, H1, I1, rx, q1⟩ => thn (hi pins s1 σ H1 _ I1 q1) fun iv s2 ⟨y, H2, I2, ry, a, v, ex, g, q2⟩ => ?_)
  subst ex
  obtain rfl : u = Value.ref a := rx
  exact ⟨dict_typeIs I2 g, d_getItem hu I2 g ry fun w' s3 I3 rw' => ⟨v, H2, I3, rw', q2⟩⟩
theorem pc_din (hu : X.A.units + 1 < cLine) (hi : PE X i ty) (ho : PE X o td) : PC X .In i o (tDIn ty td) := by
  intro pins s σ H Q I h
  refine thn (hi pins s σ H _ I h) fun iv s1 ⟨y, H1, I1, ry, q1⟩ => thn (ho pins s1 σ H1 _ I1 q1) fun u s2 ⟨x, H2, I2, rx, a, ov, ex, g, q2⟩ => ?_
  subst ex
  obtain rfl : u = Value.ref a := rx
  exact d_in hu I2 g ry fun s3 I3 => ⟨.bl ov.isSome, H2, I3, rfl, q2⟩
theorem pc_dnotin (hu : X.A.units + 1 < cLine) (hi : PE X i ty) (ho : PE X o td) : PC X .NotIn i o (tDNotIn ty td) := by
  intro pins s σ H Q I h
  refine thn (hi pins s σ H _ I h) fun iv s1 ⟨y, H1, I1, ry, q1⟩ => thn (ho pins s1 σ H1 _ I1 q1) fun u s2 ⟨x, H2, I2, rx, a, ov, ex, g, q2⟩ => ?_
  subst ex
  obtain rfl : u = Value.ref a := rx
  exact d_notIn hu I2 g ry fun s3 I3 => ⟨.bl (!ov.isSome), H2, I3, rfl, q2⟩
theorem ps_dput (hu : X.A.units + 1 < cLine) (ho : PE X o td) (hi : PE X i ty) (hv : PE X value tv) (hs : swapsWith value (some (.Subscript o i pos')) pos.line X.env = pure false) :
    PS X (.Assign [.Subscript o i pos'] value pos) (sDPut td ty tv) := by
  intro pins s σ H D I h
  refine wpAny_Assign_Subscript (thn (hv pins s σ H _ I h) fun r s1 ⟨v, H1, I1, rv, q1⟩ => thn (ho pins s1 σ H1 _ I1 q1) fun u s2 ⟨x, H2, I2, rx, q2⟩ => thn (hi pins s2 σ H2 _ I2 q2) fun iv s3 ⟨y, H3, I3, ry, a, H4, ex, g, q3⟩ => ?_) hs
  subst ex
  obtain rfl : u = Value.ref a := rx
  exact d_setItem hu I3 g ry rv fun s4 I4 => ⟨σ, H4, I4, q3⟩
end
theorem dk_empty {P : Program} {w : World} {H : Hp} (h : Heap) (hb : sysModules < h.objs.size) : ObjOk P w H (h.push { cls := .type "dict", data := .dict #[] }) h.objs.size (.dK []) :=
  ⟨Nat.zero_le _, beq_eq_false_iff_ne.mpr (Ne.symm (Nat.ne_of_lt hb)), [], .nil, Heap.DictOf.new h⟩
section
variable {X : Cx} {pos : Pos}
end
noncomputable def tPairs : List (TE × TE) → St → Hp → (List (V × V) → Hp → Prop) → Prop
  | [], _, H, Q => Q [] H
  | (tk, tv) :: r, σ, H, Q => tk σ H fun x H1 => tv σ H1 fun y H2 => tPairs r σ H2 fun ps H3 => Q ((x, y) :: ps) H3
noncomputable abbrev VV : List (V × V) → List (Value × Value) → Prop := Paired fun p q => RelV p.1 q.1 ∧ RelV p.2 q.2
noncomputable def PPs (X : Cx) (pos : Pos) (keys : List (Option Expr)) (values : List Expr) (trs : List (TE × TE)) : Prop :=
  ∀ (pins : List (Addr × Obj)) (s : Shared) (σ : St) (H : Hp) (Q : List (V × V) → Hp → Prop), Inv X pins σ H s → tPairs trs σ H Q →
    wpAny (model X.prog X.w) X.A (evalPairs (pairTrees keys values X.env pos)) (fun vs s' => ∃ ps H', Inv X pins σ H' s' ∧ VV ps vs ∧ Q ps H') X.xe s
theorem pps_nil {X : Cx} {pos : Pos} : PPs X pos [] [] [] := fun pins s σ H Q I h => pairTrees_nil_walk ⟨[], H, I, .nil, h⟩
theorem pps_cons {X : Cx} {pos : Pos} {k v : Expr} {ks : List (Option Expr)} {vs : List Expr} {tk tv : TE} {trs : List (TE × TE)} (hk : PE X k tk) (hv : PE X v tv) (hr : PPs X pos ks vs trs) :
    PPs X pos (some k :: ks) (v :: vs) ((tk, tv) :: trs) := fun pins s σ H Q I h =>
  pairTrees_cons_walk (thn (hk pins s σ H _ I h) fun u s1 ⟨x, H1, I1, rx, q1⟩ => thn (hv pins s1 σ H1 _ I1 q1) fun w2 s2 ⟨y, H2, I2, ry, q2⟩ =>
    thn (hr pins s2 σ H2 _ I2 q2) fun ws s3 ⟨ps, H3, I3, rel, q3⟩ => ⟨(x, y) :: ps, H3, I3, .cons ⟨rx, ry⟩ rel, q3⟩)
noncomputable def mergeK (kvs more : List (Key × V)) : List (Key × V) := more.foldl (fun acc kv => putK acc kv.1 kv.2) kvs
theorem KV.merge : ∀ {more : List (Key × V)} {rs : List (Key × Value)} {kvs : List (Key × V)} {vs : List (Key × Value)}, KV more rs → KV kvs vs → KV (mergeK kvs more) (merged vs rs) := by
  intro more rs kvs vs r
  unfold KV at r
  induction r generalizing kvs vs with
  | nil => intro q; exact q
  | @cons p q ps qs h t ih =>
    intro r0
    have e : KV (putK kvs p.1 p.2) (stored vs q.1 q.2) := by
      have := r0.put p.1 h.2
      rw [← h.1]; exact this
    exact ih e
theorem length_mergeK : ∀ (more kvs : List (Key × V)), (mergeK kvs more).length ≤ kvs.length + more.length
  | [], kvs => by show kvs.length ≤ kvs.length + 0; omega
  | p :: r, kvs => by
    have h1 := length_mergeK r (putK kvs p.1 p.2)
    have h2 := length_putK kvs p.1 p.2
    show (mergeK (putK kvs p.1 p.2) r).length ≤ _
    rw [List.length_cons]; omega
theorem carries_of {P : Program} {w : World} : ∀ {kvs : List (Key × V)} {ws : List (Value × Value)}, VV (kvs.map fun kv => (kV kv.1, kv.2)) ws → ∃ rs, Carries (mixKind P w) ws rs ∧ KV kvs rs
  | [], _, r => by rw [List.map_nil] at r; cases r; exact ⟨[], True.intro, .nil⟩
  | p :: kvs, _, r => by
    rw [List.map_cons] at r
    cases r with
    | @cons a b as bs h t =>
      obtain ⟨rs, c, q⟩ := carries_of (P := P) (w := w) t
      obtain ⟨b1, b2⟩ := b
      exact ⟨(p.1, b2) :: rs, ⟨kV_is h.1, rfl, c⟩, .cons ⟨rfl, h.2⟩ q⟩
noncomputable def tDisp (trs : List (TE × TE)) : TE := fun σ H Q => ∀ p, H p = none → tPairs trs σ (upd H p (.dK [])) fun ps H2 => H2 p = some (.dK []) ∧ ∃ kvs : List (Key × V), ps = kvs.map (fun kv => (kV kv.1, kv.2)) ∧ kvs.length ≤ 15 ∧ Q (.ref p) (upd H2 p (.dK (mergeK [] kvs)))
theorem pe_disp {X : Cx} {pos : Pos} {keys : List (Option Expr)} {values : List Expr} {trs : List (TE × TE)} (h : PPs X pos keys values trs) (hall : keys.all (·.isSome) = true) (hl : keys.length = values.length) (h0 : keys ≠ [])
    (h15 : keys.length ≤ 15) : PE X (.Dict keys values pos) (tDisp trs) := by
  intro pins s σ H Q I q
  have hn := I.hok.fresh (Nat.le_refl s.heap.objs.size)
  have I1 := I.laid (a := s.heap.objs.size) (o := .dK []) (h' := s.heap.push { cls := .type "dict", data := .dict #[] }) (t' := s.toks) (fun _ _ q => Heap.get?_push_of_some _ q) (Nat.le_refl _) (dk_empty s.heap I.big)
  refine wpAny_Dict_walk (knd := mixKind X.prog X.w) hall hl h0 h15 (thn (h pins _ σ _ _ I1 (q _ hn)) fun ws s2 ⟨ps, H2, I2, rel, e, kvs, ep, lk, q2⟩ => ?_)
  subst ep
  obtain ⟨rs, c, rk⟩ := carries_of (P := X.prog) (w := X.w) rel
  obtain ⟨z, hd, vs0, r0, dd⟩ := dk_of I2.hok e
  cases r0
  refine ⟨rs, c, dd, fun h' dd' hs => ⟨.ref s.heap.objs.size, _, ?_, rfl, q2⟩⟩
  have hz : (mergeK [] kvs).length ≤ sizeLine := by
    have h1 := length_mergeK kvs []
    rw [List.length_nil] at h1
    rw [sizeLine_eq]; omega
  have he : ∃ q, h'.get? s.heap.objs.size = some q := let ⟨q, _, _, hq, _⟩ := dd'; ⟨q, hq⟩
  exact d_write I2 (by rw [e]; exact True.intro) hs he (dk_new hz hd (rk.merge .nil) dd')
section
variable {X : Cx} {pins : List (Addr × Obj)} {σ : St} {H : Hp} {s : Shared} {a : Addr} {y d : V} {u r : Value} {o : Option V} {A : Around} {E : Value → Shared → Prop}
end
section
variable {X : Cx} {o e f : Expr} {apos cpos : Pos} {td ty tx : TE}
end
section
variable {X : Cx} {pins : List (Addr × Obj)} {σ : St} {H : Hp} {s : Shared} {a : Addr} {kvs : List (Key × V)} {A : Around} {E : Value → Shared → Prop}
end
section
variable {X : Cx} {pins : List (Addr × Obj)} {σ : St} {H : Hp} {s : Shared} {a : Addr} {y : V} {u : Value} {A : Around} {E : Value → Shared → Prop}
end
end L2
namespace L2
open PySem PySem.Spec PyProof.Rows
section
variable {prog : Program} {w : World} {A : Around} {E : Value → Shared → Prop}
end
section
variable {X : Cx}
end
end L2
namespace L2
open PySem PySem.Spec PyProof.Rows
section
variable {X : Cx} {pins : List (Addr × Obj)} {σ : St} {H : Hp} {s : Shared} {h' : Heap}
theorem Inv.turnedL {t' : Nat} {ch : List Addr} (I : Inv X pins σ H s) (k : ∀ b o, b ∉ ch → s.heap.get? b = some o → h'.get? b = some o) (hf : ∀ b ∈ ch, FpOk X pins H b) : Inv X pins σ H { s with heap := h', toks := t' } := by
  have nit : ∀ b u, H b = some u → b ∉ ch := fun b u e z => by
    have q := (hf b z).1
    rw [q] at e; cases e
  refine I.step (g' := s.gens) (d' := s.drawn) (ch := ch) (fun b hb => ⟨(hf b hb).2.2.2.1, (hf b hb).2.1, (hf b hb).2.2.2.2.1, (hf b hb).2.2.2.2.2⟩) (fun b o _ _ hc e _ => k b o hc e) (fun b o _ _ hc e _ => ⟨o.slots, k b o hc e⟩)
    (fun _ _ _ _ n => n) (fun b o hc e => ⟨o, k b o hc e⟩) (fun _ _ e => e) (fun _ _ _ e => e) (fun b ps e => ⟨#[], by rw [e]; simp⟩) (fun m hm => ?_) (fun b u e => ?_) I.bare
  · obtain ⟨o, es, ep, ho, r⟩ := hm
    exact ⟨o, es, ep, k _ o (fun z => (hf _ z).2.1 rfl) ho, r⟩
  · refine (I.hok b u e).stay (fun c v hc q => k c v ?_ q) (fun _ q => q) fun _ _ q => q
    rcases hc with z | z
    · rw [z]; exact nit b u e
    · exact nit c _ z
theorem Inv.turnedNew {t' : Nat} {ch : List Addr} {T : Addr} {ob : HO} (I : Inv X pins σ H s) (k : ∀ b o, b ∉ ch → s.heap.get? b = some o → h'.get? b = some o) (hf : ∀ b ∈ ch, FpOk X pins H b) (hT : s.heap.objs.size ≤ T)
    (new : ObjOk X.prog X.w (upd H T ob) h' T ob) : Inv X pins σ (upd H T ob) { s with heap := h', toks := t' } := by
  have hn : H T = none := I.hok.fresh hT
  have nit : ∀ b u, H b = some u → b ∉ ch := fun b u e z => by
    have q := (hf b z).1
    rw [q] at e; cases e
  refine I.step (g' := s.gens) (d' := s.drawn) (ch := ch) (fun b hb => ⟨(hf b hb).2.2.2.1, (hf b hb).2.1, (hf b hb).2.2.2.2.1, (hf b hb).2.2.2.2.2⟩) (fun b o _ _ hc e _ => k b o hc e) (fun b o _ _ hc e _ => ⟨o.slots, k b o hc e⟩)
    (fun b o _ e n => ?_) (fun b o hc e => ⟨o, k b o hc e⟩) (fun b xs e => ?_) (fun b o u e => ?_) (fun b ps e => ⟨#[], ?_⟩) (fun m hm => ?_) (fun b u e => ?_) I.bare
  · rw [upd_ne (Nat.ne_of_lt (Nat.lt_of_lt_of_le (Heap.lt_size e) hT))]; exact n
  · rw [upd_ne (ne_of_none e hn)]; exact e
  · rw [upd_ne (ne_of_none e hn)]; exact e
  · rw [upd_ne (ne_of_none e hn), e]; simp
  · obtain ⟨o, es, ep, ho, r⟩ := hm
    exact ⟨o, es, ep, k _ o (fun z => (hf _ z).2.1 rfl) ho, r⟩
  · by_cases hb : b = T
    · subst hb
      rw [upd_same] at e
      cases e
      exact new
    · rw [upd_ne hb] at e
      refine (I.hok b u e).stay (fun c v hc q => k c v ?_ q) (fun c q => by rw [upd_ne (ne_of_none q hn)]; exact q) fun c xs q => by rw [upd_ne (ne_of_none q hn)]; exact q
      rcases hc with z | z
      · rw [z]; exact nit b u e
      · exact nit c _ z
theorem Inv.lock {d : Addr} {u : HO} (I : Inv X pins σ H s) (h : H d = some u) (mu : Mut (some u)) : ∃ od, Inv X pins σ (upd H d (.frz od u)) s := by
  have x := I.hok d u h
  have ex : ∃ od, s.heap.get? d = some od := by
    cases u with
    | lst xs => obtain ⟨_, _, _, _, e⟩ := x; exact ⟨_, e⟩
    | dK kvs => obtain ⟨_, _, _, _, o, _, _, e, _⟩ := x; exact ⟨o, e⟩
    | dT kvs => obtain ⟨_, _, _, _, o, _, _, e, _⟩ := x; exact ⟨o, e⟩
    | set S n => obtain ⟨o, _, _, _, e, _⟩ := x; exact ⟨o, e⟩
    | ins C dx fs => obtain ⟨_, _, _, e, _⟩ := x; exact ⟨_, e⟩
    | ext φ => obtain ⟨_, ⟨_, e⟩, _⟩ := x; exact ⟨_, e⟩
    | _ => exact False.elim mu
  obtain ⟨od, e⟩ := ex
  have new : ObjOk X.prog X.w (upd H d (.frz od u)) s.heap d (.frz od u) := by
    refine ⟨e, x.stay (fun b v _ q => q) (fun b q => ?_) fun b xs q => ?_⟩
    · rw [upd_ne (fun z => by rw [z, h] at q; cases q; exact mu)]; exact q
    · rw [upd_ne (fun z => by rw [z, h] at q; cases q; exact mu)]; exact q
  exact ⟨od, I.write (x := d) (e := d) (t' := s.toks) (h' := s.heap) (by rw [h]; exact mu) (.inl rfl) (fun b v _ q => q) ⟨od, e⟩ new⟩
end
section
variable {X : Cx}
theorem pi_one {tg : Expr} {pins : List (Addr × Obj)} {σ : St} {H : Hp} {s : Shared} {R : It → Hp → Prop} {J : It} {tn : Nat → Heap → Prop} {tk : Nat} (I : Inv X pins σ H s) (o : Obj)
    (T : Turn X.prog X.w X.K tg J [s.heap.objs.size] s.heap.objs.size tn) (st : tn 0 (s.heap.push o)) (q : R J H) : PIE X pins σ tg R (.ref s.heap.objs.size) { s with heap := s.heap.push o, toks := tk } := by
  refine ⟨s.heap.objs.size, [s.heap.objs.size], tn, J, H, rfl, I.kept fun b ob e => Heap.get?_push_of_some _ e, T, st, fun b hb => ?_, q⟩
  have e : b = s.heap.objs.size := by simpa using hb
  subst e
  exact I.fpOk (Nat.le_refl _) (I.hok.fresh (Nat.le_refl _))
end
section
variable {X : Cx} {tg : Expr}
end
section
variable {X : Cx} {tg : Expr}
end
section
variable {prog : Program} {w : World} {A : Around} {E : Value → Shared → Prop} {s : Shared}
theorem iter_keys {d : Addr} {o : Obj} {es : Array DictEntry} {ep : Nat} {Q : Value → Shared → Prop} (hd : (d == sysModules) = false) (ho : s.heap.get? d = some o) (hc : o.ExactDict) (hdat : o.data = .dict es ep)
    (hQ : Q (.ref s.heap.objs.size) { s with heap := s.heap.push { cls := .type "dict_keyiterator", data := .fields #[.ref d, .int 0 0, .int es.size 0, .int ep 0] } }) :
    wpAny (model prog w) A (pyIter (.ref d)) Q E s := by
  have hT : s.TypeIs (.ref d) "dict" := ⟨o, ho, hc.1⟩
  refine wpAny_pyIter_slot hT F.slot_dict_iter (wpAny_call_entry F.slot_dict_iter hT F.entry_dict_iter ?_ (F.args_dict_iter_1 _))
  unfold Builtin.«dict.__iter__»
  refine wpAny_bind ?_
  unfold Builtin.Dict.dictSlotNone
  refine wpAny_bind (wpAny_notOrdered_dict hT ?_)
  show wpAny _ _ (pure (Value.ref d)) _ _ s
  refine wpAny_pure ?_
  show wpAny _ _ (Builtin.Dict.showsAll d >>= _) _ _ s
  unfold Builtin.Dict.showsAll
  rw [if_neg (by rw [hd]; exact Bool.false_ne_true)]
  refine wpAny_bind (wpAny_pure ?_)
  refine wpAny_bind (wpAny_dictEntries ho hdat ?_)
  refine wpAny_bind (wpAny_dictEpoch ho hdat ?_)
  refine wpAny_bind (wpAny_newObj_type (wpAny_pure ⟨_, rfl, "dict_keyiterator", _, ⟨_, Heap.get?_push_size _ rfl, rfl⟩, F.slot_dict_keyiterator_next.lookup, ?_⟩))
  simpa [rawInt] using hQ
theorem next_key_end {it d : Addr} {i n ep : Nat} {od : Obj} {es : Array DictEntry} {Q : Option Value → Shared → Prop} (hh : A.handled = none) (hit : s.heap.IsKeyIter it d i n ep) (hod : s.heap.get? d = some od) (hdd : od.data = .dict es ep)
    (hsz : es.size = n) (hge : n ≤ i) (hQ : ∀ h', Heap.ExtBut it s.heap h' → Q none { s with heap := h' }) : wpAny (model prog w) A (pyNext (.ref it)) Q E s := by
  obtain ⟨o, ho, hc, hd⟩ := id hit
  unfold pyNext
  refine wpAny_bind (wpAny_attempt (wpAny_callSpecial?_slot (name := Str.ofString "__next__") hit.typeIs F.slot_dict_keyiterator_next
    (wpAny_call_entry F.slot_dict_keyiterator_next hit.typeIs F.entry_dict_keyiterator_next ?_ (F.args_dict_keyiterator_next_1 _))))
  refine wpAny_bind (wpAny_pure ?_)
  refine wpAny_bind ?_
  refine wpAny_bind ?_
  first | refine wpAny_bind (wpAny_typeNameOfWhole_keyiter hit.typeIs (wpAny_pure ?_)) | refine wpAny_bind (wpAny_typeNameOf_keyiter hit.typeIs (wpAny_pure ?_))
  refine wpAny_bind (wpAny_fieldsOf ho hd ?_)
  have hown : Builtin.Dict_items.ownsTuple "dict_keyiterator" = false := by decide
  simp only [hown, Bool.false_eq_true, if_false]
  show wpAny _ _ (if (Value.ref d == Value.none) = true then _ else _) _ _ s
  rw [if_neg (show ¬ ((Value.ref d == Value.none) = true) from Bool.false_ne_true)]
  refine wpAny_bind (wpAny_pure ?_)
  refine wpAny_bind (wpAny_dictEntries hod hdd ?_)
  rw [if_neg (by rw [hsz]; simp)]
  refine wpAny_bind (wpAny_pure ?_)
  refine wpAny_bind (wpAny_dictEpoch hod hdd ?_)
  rw [if_neg (by simp)]
  refine wpAny_pure ?_
  have hge' : es.size ≤ i := by rw [hsz]; exact hge
  simp only [show ¬ ((i : Int) < 0) from by omega, if_false, Int.toNat_natCast, Array.getElem?_eq_none hge']
  refine wpAny_bind ?_
  first | refine wpAny_bind (wpAny_typeNameOfWhole_keyiter hit.typeIs (wpAny_pure ?_)) | refine wpAny_bind (wpAny_typeNameOf_keyiter hit.typeIs (wpAny_pure ?_))
  show wpAny _ _ (setField (.ref it) 0 .none >>= _) _ _ s
  refine wpAny_bind (wpAny_setField ho hd (by simp) ?_)
  show wpAny _ _ (newExc (.type "StopIteration") [] >>= _) _ _ _
  refine wpAny_bind ?_
  simp only [newExc, newTuple]
  refine wpAny_bind (wpAny_newObj_type ?_ (by size_fits))
  refine wpAny_bind (m := firstArgMember _ _) (wpAny_of_eq (a := Value.none) (by first | rfl | (simp only [firstArgMember]; rfl)) ?_)
  refine wpAny_newObj_type ?_ (by size_fits)
  simp only [raiseNew]
  refine wpAny_bind (wpAny_handled ?_)
  rw [show A.in1.handled = none from hh]
  refine wpAny_bind (wpAny_pure (wpAny_throw ?_))
  refine wpAny_bind (wpAny_isInstance (T := "StopIteration") (b := true) ⟨_, Heap.get?_push_size _ rfl, rfl⟩ isSubtype_stop ?_)
  exact wpAny_pure (hQ _ (((Heap.SameBut.update ..).extBut.push _).push _))
end
theorem kv_get {κ : Type} {kvs : List (κ × V)} {vs : List (κ × Value)} (h : KV kvs vs) : ∀ {i : Nat} {k : κ} {v : V}, kvs[i]? = some (k, v) → ∃ u, vs[i]? = some (k, u) ∧ RelV v u := by
  unfold KV at h
  induction h with
  | nil => intro i k v e; simp at e
  | @cons a b l₁ l₂ r t ih =>
    intro i k v e
    cases i with
    | zero =>
      simp only [List.getElem?_cons_zero, Option.some.injEq] at e
      subst e
      refine ⟨b.2, ?_, r.2⟩
      simp only [List.getElem?_cons_zero]
      exact congrArg some (Prod.ext r.1.symm rfl)
    | succ j =>
      simp only [List.getElem?_cons_succ] at e ⊢
      exact ih e
theorem relV_key {k : Key} {u : Value} (h : keyIs k u = true) : RelV (kV k) u := by
  rcases keyIs_shape h with ⟨i, t, rfl, rfl⟩ | ⟨x, t, rfl, rfl⟩
  · exact ⟨t, rfl⟩
  · exact ⟨t, rfl⟩
section
variable {X : Cx} {pins : List (Addr × Obj)} {σ : St} {H : Hp} {s : Shared} {d : Addr} {o : Obj}
theorem Inv.frzK {kvs : List (Key × V)} (I : Inv X pins σ H s) (h : H d = some (.frz o (.dK kvs))) :
    (d == sysModules) = false ∧ s.heap.get? d = some o ∧ o.ExactDict ∧ ∃ (es : Array DictEntry) (ep : Nat) (vs : List (Key × Value)), o.data = .dict es ep ∧ es.size = kvs.length ∧ KV kvs vs ∧ s.heap.DictAt (mixKind X.prog X.w) d vs ep := by
  obtain ⟨hd, z, hs, vs, kv, o', es, ep, ho, hx, hdt, r⟩ := I.hok d _ h
  rw [hd] at ho
  cases ho
  refine ⟨hs, hd, hx, es, ep, vs, hdt, ?_, kv, o, es, hd, hx, hdt, r⟩
  have l1 := r.2.1.length
  have l2 : kvs.length = vs.length := Paired.length kv
  rw [Array.length_toList] at l1
  omega
end
noncomputable def Itk (d : Addr) (o : Obj) (kvs : List (Key × V)) : It :=
  ⟨fun i H => H d = some (.frz o (.dK kvs)) ∧ i < kvs.length, fun i H x H' => H' = H ∧ ∃ k v, kvs[i]? = some (k, v) ∧ x = kV k, fun i H => H d = some (.frz o (.dK kvs)) ∧ kvs.length ≤ i⟩
theorem dict_ep {o : Obj} {es es' : Array DictEntry} {ep ep' : Nat} (h : o.data = .dict es ep) (h' : o.data = .dict es' ep') : es' = es ∧ ep' = ep := by
  rw [h] at h'
  cases h'
  exact ⟨rfl, rfl⟩
section
variable {P : Program} {w : World} {K : PySem.W.Frag} {tg : Expr} {d : Addr} {o : Obj} {es : Array DictEntry} {ep : Nat}
theorem turn_keys {kvs : List (Key × V)} (it : Addr) (hod : o.data = .dict es ep) : Turn P w K tg (Itk d o kvs) [it] it (fun i h => h.IsKeyIter it d i kvs.length ep) where
  mem := by simp
  obj := fun i h st b hb => by
    have e : b = it := by simpa using hb
    subst e
    obtain ⟨oi, e, c, dd⟩ := st
    exact ⟨oi, e, fun v z => by rw [dd] at z; cases z⟩
  keep := fun i h h' st k => st.at fun oi e => k it (by simp) oi e
  item := by
    intro X hP hw hK hc i pins s σ H E I hf st hg
    subst hP hw hK
    obtain ⟨hd, hi⟩ := hg
    obtain ⟨f0, f1, f2, f3, f4, f5⟩ := hf it (by simp)
    obtain ⟨hs, hgd, hx, es', ep', vs, hdt, hsz, kv, hm⟩ := I.frzK hd
    obtain ⟨rfl, rfl⟩ := dict_ep hod hdt
    obtain ⟨⟨k, v⟩, hkv⟩ : ∃ p, kvs[i]? = some p := ⟨kvs[i], List.getElem?_eq_getElem hi⟩
    obtain ⟨u, hu, ru⟩ := kv_get kv hkv
    have hl : kvs.length = vs.length := Paired.length kv
    rw [hl] at st
    refine wpAny_pyNext_dict_item st hm hu fun key h' hkey st' sb => ?_
    have I1 : Inv X pins σ H { s with heap := h' } := I.turned (t' := s.toks) (fun b ob hb e => (sb.2 b hb).trans e) f0 f1 f3 f4 f5
    obtain ⟨oi, e, c, dd⟩ := id st'
    refine ⟨key, rfl, go_of (s := { s with heap := h' }) e c dd (by decide) ⟨kV k, H, I1, relV_key (show keyIs k key = true from hkey), ⟨rfl, k, v, hkv, rfl⟩, ?_, fun b hb => (hf b hb).1⟩⟩
    show h'.IsKeyIter it d (i + 1) kvs.length _
    rw [hl]
    exact st'
  done := by
    intro X hP hw hK hc i pins s σ H E I hf st hg
    subst hP hw hK
    obtain ⟨hd, hi⟩ := hg
    obtain ⟨f0, f1, f2, f3, f4, f5⟩ := hf it (by simp)
    obtain ⟨hs, hgd, hx, es', ep', vs, hdt, hsz, kv, hm⟩ := I.frzK hd
    obtain ⟨rfl, rfl⟩ := dict_ep hod hdt
    exact next_key_end (I.ok.hd hc) st hgd hdt hsz hi fun h' eb => ⟨rfl, I.turned (t' := s.toks) (fun b ob hb e => eb b ob hb e) f0 f1 f3 f4 f5⟩
  self := fun A i s Q E st h => wpAny_pyIter_keyiter st h
end
section
variable {X : Cx} {tg e : Expr} {td : TE} {apos cpos : Pos}
end
noncomputable def Ite (K : PySem.W.Frag) (a : Addr) : It :=
  ⟨fun i H => ∃ (xs : List V) (x : V), SqL K H a xs ∧ xs[i]? = some x, fun i H v H' => ∃ T x, v = .ref T ∧ H T = none ∧ H' = upd H T (.tup [.int (i : Nat), x]) ∧ ∀ xs, SqL K H a xs → xs[i]? = some x, fun i H => ∃ xs : List V, SqL K H a xs ∧ xs.length ≤ i⟩
theorem turn_enum {P : Program} {w : World} {K : PySem.W.Frag} {elts : List Expr} {kk : Nat} {tpos : Pos} (a e it : Addr) :
    Turn P w K (.Tuple elts kk tpos) (Ite K a) [e, it] e (fun i h => (∃ old, IsEnum h e it ((i : Nat) : Int) old) ∧ h.IsListIter it a i ∧ e ≠ it) where
  mem := by simp
  obj := fun i h st b hb => by
    obtain ⟨⟨old, he⟩, ⟨o, ho, hc, hd⟩, _⟩ := st
    have e' : b = e ∨ b = it := by simpa using hb
    rcases e' with z | z
    · rw [z]; exact ⟨_, he, fun v q => nomatch q⟩
    · rw [z]; exact ⟨o, ho, fun v q => by rw [hd] at q; cases q⟩
  keep := fun i h h' st k => let ⟨⟨old, he⟩, hi, hne⟩ := st; ⟨⟨old, k e (by simp) _ he⟩, hi.at fun o q => k it (by simp) o q, hne⟩
  item := by
    intro X hP hw hK hc i pins s σ H E I hf st hg
    subst hP hw hK
    obtain ⟨⟨old, he⟩, hit, hne⟩ := st
    obtain ⟨xs, x, hq, hx⟩ := hg
    obtain ⟨its, rv, p, hz⟩ := I.list hq
    obtain ⟨u, hu, ru⟩ := rv.get hx
    have hel : e < s.heap.objs.size := Heap.lt_size he
    have hil : it < s.heap.objs.size := by obtain ⟨_, q, _⟩ := hit; exact Heap.lt_size q
    refine wpAny_pyNext_enum_item he hit p.isList (x := u) (by simpa using hu) hne fun h' ho hit' hT hsz hk => ?_
    refine ⟨_, rfl, wpAny_letOwnedTupleGo_enum (s := { s with heap := h', toks := s.toks + 1 }) ho fun h'' he' sb => ?_⟩
    have hT2 : h''.get? s.heap.objs.size = some { cls := .type "tuple", data := .seq #[.int i s.toks, u] } := (sb.2 _ (Nat.ne_of_gt hel)).trans hT
    have new : ObjOk X.prog X.w (upd H s.heap.objs.size (.tup [.int (i : Nat), x])) h'' s.heap.objs.size (.tup [.int (i : Nat), x]) :=
      ⟨by show 2 ≤ sizeLine; decide, [.int i s.toks, u], .cons ⟨_, rfl⟩ (.cons ru .nil), ⟨_, hT2, rfl, _, rfl⟩⟩
    have I1 : Inv X pins σ (upd H s.heap.objs.size (.tup [.int (i : Nat), x])) { s with heap := h'', toks := s.toks + 1 } :=
      I.turnedNew (ch := [e, it]) (fun b ob hb q => (sb.2 b (fun z => hb (by simp [z]))).trans (hk b ob (fun z => hb (by simp [z])) (fun z => hb (by simp [z])) q)) hf (Nat.le_refl _) new
    refine ⟨.ref s.heap.objs.size, _, I1, rfl, ⟨_, x, rfl, I.hok.fresh (Nat.le_refl _), rfl, fun ys hy => by rw [I.list_inj hy hq]; exact hx⟩, ⟨⟨u, ?_⟩, hit'.at fun o q => (sb.2 it (Ne.symm hne)).trans q, hne⟩, fun b hb => ?_⟩
    · have e1 : ((i + 1 : Nat) : Int) = (i : Int) + 1 := by omega
      rw [e1]; exact he'
    · have hb' : b < s.heap.objs.size := by
        have e' : b = e ∨ b = it := by simpa using hb
        rcases e' with z | z
        · rw [z]; exact hel
        · rw [z]; exact hil
      rw [upd_ne (Nat.ne_of_lt hb')]
      exact (hf b hb).1
  done := by
    intro X hP hw hK hc i pins s σ H E I hf st hg
    subst hP hw hK
    obtain ⟨⟨old, he⟩, hit, hne⟩ := st
    obtain ⟨xs, hq, hx⟩ := hg
    obtain ⟨its, rv, p, hz⟩ := I.list hq
    obtain ⟨f0, f1, f2, f3, f4, f5⟩ := hf it (by simp)
    have hl := rv.length
    exact wpAny_pyNext_enum_end (I.ok.hd hc) he hit p.isList (by simp; omega) fun h' eb => ⟨rfl, I.turned (t' := s.toks) (fun b o hb q => eb b o hb q) f0 f1 f3 f4 f5⟩
  self := fun A i s Q E st h => let ⟨⟨_, he⟩, _⟩ := st; wpAny_pyIter_enum he h
inductive IEnumR (K : PySem.W.Frag) (R : It → Hp → Prop) (vs : List V) (H1 : Hp) : Prop
  | mk (a xs : _) (h0 : vs = [.ref a]) (h1 : SqL K H1 a xs) (h2 : R (Ite K a) H1) : IEnumR K R vs H1
noncomputable def iEnum (K : PySem.W.Frag) (ta : TA) : TI := fun σ H R => ta σ H (IEnumR K R)
theorem pi_enum {X : Cx} {e : Expr} {ta : TA} {p pos tpos : Pos} {elts : List Expr} {kk : Nat} (hg : Gl X "enumerate") (hm : X.mg "enumerate" = none) (ha : PA X [e] ta) (hs : starEach [e] X.env = [(false, eval e X.env)] := by rfl) :
    PI X (.Tuple elts kk tpos) (.Call (.Name "enumerate" p) [e] [] pos) (iEnum X.K ta) := by
  intro pins s σ H R I h
  refine Call_ (ld_blt I hg hm boot_enumerate (PyProof.Rows.callWith_type1 (thn (ha pos pins s σ H _ I h) fun us s1 ⟨vs, H1, I1, r1, q1⟩ => ?_) hs rfl))
  obtain ⟨a, xs, ex, hq, q⟩ := q1
  subst ex
  cases r1 with
  | cons r rr =>
    cases rr
    cases r
    obtain ⟨its, rv, p', hz⟩ := I1.list hq
    refine call_enumerate_list p'.isList fun h' he hit hsz hk => wpAny_pyIter_enum he ?_
    have I2 : Inv X pins σ H1 { s1 with heap := h' } := I1.kept (t' := s1.toks) hk
    refine ⟨s1.heap.objs.size + 1, [s1.heap.objs.size + 1, s1.heap.objs.size], _, _, H1, rfl, I2, turn_enum a (s1.heap.objs.size + 1) s1.heap.objs.size, ⟨⟨.none, he⟩, hit, Nat.succ_ne_self _⟩, fun b hb => ?_, q⟩
    have e' : b = s1.heap.objs.size + 1 ∨ b = s1.heap.objs.size := by simpa using hb
    have hle : s1.heap.objs.size ≤ b := by
      rcases e' with z | z
      · rw [z]; exact Nat.le_add_right _ _
      · rw [z]; exact Nat.le_refl _
    exact I1.fpOk hle (I1.hok.fresh hle)
theorem boot_zip5 : bootBuiltins "zip" = some (.type "zip") := by decide +kernel
noncomputable def Itz (K : PySem.W.Frag) (a b : Addr) : It :=
  ⟨fun i H => ∃ (xs ys : List V) (x y : V), SqL K H a xs ∧ SqL K H b ys ∧ xs[i]? = some x ∧ ys[i]? = some y,
    fun i H v H' => ∃ T x y, v = .ref T ∧ H T = none ∧ H' = upd H T (.tup [x, y]) ∧ (∀ xs, SqL K H a xs → xs[i]? = some x) ∧ ∀ ys, SqL K H b ys → ys[i]? = some y,
    fun i H => ∃ xs ys : List V, SqL K H a xs ∧ SqL K H b ys ∧ (xs.length ≤ i ∨ ys.length ≤ i)⟩
theorem turn_zip {P : Program} {w : World} {K : PySem.W.Frag} {elts : List Expr} {kk : Nat} {tpos : Pos} {a b z TI TO i1 i2 : Addr} (D : ZipApart z TI TO i1 i2 a b) :
    Turn P w K (.Tuple elts kk tpos) (Itz K a b) [z, TI, TO, i1, i2] z (fun i h => IsZip h z TI TO .none ∧ IsPair h TI (.ref i1) (.ref i2) ∧ (∃ x y, IsPair h TO x y) ∧ h.IsListIter i1 a i ∧ h.IsListIter i2 b i) where
  mem := by simp
  obj := fun i h st c hc => by
    obtain ⟨hz, hTI, ⟨x, y, hTO⟩, ⟨o1, e1, _, d1⟩, ⟨o2, e2, _, d2⟩⟩ := st
    have e' : c = z ∨ c = TI ∨ c = TO ∨ c = i1 ∨ c = i2 := by simpa using hc
    rcases e' with q | q | q | q | q
    · rw [q]; exact ⟨_, hz, fun v q => nomatch q⟩
    · rw [q]; exact ⟨_, hTI, fun v q => nomatch q⟩
    · rw [q]; exact ⟨_, hTO, fun v q => nomatch q⟩
    · rw [q]; exact ⟨o1, e1, fun v q => by rw [d1] at q; cases q⟩
    · rw [q]; exact ⟨o2, e2, fun v q => by rw [d2] at q; cases q⟩
  keep := fun i h h' st k => by
    obtain ⟨hz, hTI, ⟨x, y, hTO⟩, h1, h2⟩ := st
    exact ⟨k z (by simp) _ hz, k TI (by simp) _ hTI, ⟨x, y, k TO (by simp) _ hTO⟩, h1.at fun o q => k i1 (by simp) o q, h2.at fun o q => k i2 (by simp) o q⟩
  item := by
    intro X hP hw hK hc i pins s σ H E I hf st hg
    subst hP hw hK
    obtain ⟨hz, hTI, ⟨x0, y0, hTO⟩, h1, h2⟩ := st
    obtain ⟨xs, ys, x, y, hqx, hqy, hx, hy⟩ := hg
    obtain ⟨its, rv, p, _⟩ := I.list hqx
    obtain ⟨its2, rv2, p2, _⟩ := I.list hqy
    obtain ⟨u, hu, ru⟩ := rv.get hx
    obtain ⟨u2, hu2, ru2⟩ := rv2.get hy
    have hzl : z < s.heap.objs.size := Heap.lt_size hz
    refine wpAny_pyNext_zip_item D hz hTI hTO h1 h2 p.isList p2.isList (x := u) (y := u2) (by simpa using hu) (by simpa using hu2) fun h' z' TO' h1' h2' hT hsz hk => ?_
    refine ⟨_, rfl, wpAny_letOwnedTupleGo_zip (s := { s with heap := h' }) z' fun h'' z'' sb => ?_⟩
    have hT2 : h''.get? s.heap.objs.size = some { cls := .type "tuple", data := .seq #[u, u2] } := (sb.2 _ (Nat.ne_of_gt hzl)).trans hT
    have new : ObjOk X.prog X.w (upd H s.heap.objs.size (.tup [x, y])) h'' s.heap.objs.size (.tup [x, y]) :=
      ⟨by show 2 ≤ sizeLine; decide, [u, u2], .cons ru (.cons ru2 .nil), ⟨_, hT2, rfl, _, rfl⟩⟩
    have I1 : Inv X pins σ (upd H s.heap.objs.size (.tup [x, y])) { s with heap := h'' } :=
      I.turnedNew (t' := s.toks) (ch := [z, TI, TO, i1, i2]) (fun c o hb q => (sb.2 c (fun q' => hb (by simp [q']))).trans (hk c o (fun q' => hb (by simp [q'])) (fun q' => hb (by simp [q'])) (fun q' => hb (by simp [q'])) (fun q' => hb (by simp [q'])) q)) hf (Nat.le_refl _) new
    refine ⟨.ref s.heap.objs.size, _, I1, rfl, ⟨_, x, y, rfl, I.hok.fresh (Nat.le_refl _), rfl, fun l hl => by rw [I.list_inj hl hqx]; exact hx, fun l hl => by rw [I.list_inj hl hqy]; exact hy⟩, ⟨z'', ?_, ⟨u, u2, ?_⟩, ?_, ?_⟩, fun c hcm => ?_⟩
    · exact (sb.2 _ D.TIz).trans (hk _ _ D.TIz D.TITO D.TIi1 D.TIi2 hTI)
    · exact (sb.2 _ D.TOz).trans TO'
    · exact h1'.at fun o q => (sb.2 _ D.i1z).trans q
    · exact h2'.at fun o q => (sb.2 _ D.i2z).trans q
    · have hlt : c < s.heap.objs.size := by
        have e' : c = z ∨ c = TI ∨ c = TO ∨ c = i1 ∨ c = i2 := by simpa using hcm
        rcases e' with q | q | q | q | q
        · rw [q]; exact hzl
        · rw [q]; exact Heap.lt_size hTI
        · rw [q]; exact Heap.lt_size hTO
        · rw [q]; obtain ⟨_, e1, _⟩ := h1; exact Heap.lt_size e1
        · rw [q]; obtain ⟨_, e2, _⟩ := h2; exact Heap.lt_size e2
      rw [upd_ne (Nat.ne_of_lt hlt)]
      exact (hf c hcm).1
  done := by
    intro X hP hw hK hc i pins s σ H E I hf st hg
    subst hP hw hK
    obtain ⟨hz, hTI, ⟨x0, y0, hTO⟩, h1, h2⟩ := st
    obtain ⟨xs, ys, hqx, hqy, hend⟩ := hg
    obtain ⟨its, rv, p, _⟩ := I.list hqx
    obtain ⟨its2, rv2, p2, _⟩ := I.list hqy
    have l1 := rv.length
    have l2 := rv2.length
    have he : its.toArray[i]? = none ∨ its2.toArray[i]? = none := by
      rcases hend with q | q
      · exact .inl (by simp; omega)
      · exact .inr (by simp; omega)
    exact wpAny_pyNext_zip_end (I.ok.hd hc) D hz hTI hTO h1 h2 p.isList p2.isList he fun h' hk => ⟨rfl, I.turnedL (t' := s.toks) (ch := [z, TI, TO, i1, i2]) (fun c o hb q =>
      hk c o (fun q' => hb (by simp [q'])) (fun q' => hb (by simp [q'])) (fun q' => hb (by simp [q'])) (fun q' => hb (by simp [q'])) q) hf⟩
  self := fun A i s Q E st h => wpAny_pyIter_zip st.1 h
inductive IZipR (K : PySem.W.Frag) (R : It → Hp → Prop) (vs : List V) (H1 : Hp) : Prop
  | mk (a b xs ys : _) (h0 : vs = [.ref a, .ref b]) (h1 : SqL K H1 a xs) (h2 : SqL K H1 b ys) (h3 : R (Itz K a b) H1) : IZipR K R vs H1
noncomputable def iZip (K : PySem.W.Frag) (ta : TA) : TI := fun σ H R => ta σ H (IZipR K R)
theorem pi_zip {X : Cx} {e e2 : Expr} {ta : TA} {p pos tpos : Pos} {elts : List Expr} {kk : Nat} (hg : Gl X "zip") (hm : X.mg "zip" = none) (ha : PA X [e, e2] ta)
    (hs : starEach [e, e2] X.env = (false, eval e X.env) :: starEach [e2] X.env := by rfl) (hpl : (backTo pos (starEach [e2] X.env)).any (·.1) = false := by rfl) :
    PI X (.Tuple elts kk tpos) (.Call (.Name "zip" p) [e, e2] [] pos) (iZip X.K ta) := by
  intro pins s σ H R I h
  refine Call_ (ld_blt I hg hm boot_zip5 (PyProof.Rows.callWith_type1 (thn (ha pos pins s σ H _ I h) fun us s1 ⟨vs, H1, I1, r1, q1⟩ => ?_) hs hpl))
  obtain ⟨a, b, xs, ys, ex, hqx, hqy, q⟩ := q1
  subst ex
  cases r1 with
  | cons r rr =>
    cases rr with
    | cons r' rr =>
      cases rr
      cases r
      cases r'
      obtain ⟨its, rv, p1, _⟩ := I1.list hqx
      obtain ⟨its2, rv2, p2, _⟩ := I1.list hqy
      have la : a < s1.heap.objs.size := p1.lt
      have lb : b < s1.heap.objs.size := p2.lt
      refine call_zip_2 p1.isList p2.isList fun h' hz hTI hTO h1 h2 hsz hk => wpAny_pyIter_zip hz ?_
      have I2 : Inv X pins σ H1 { s1 with heap := h' } := I1.kept (t' := s1.toks) hk
      refine ⟨s1.heap.objs.size + 4, [s1.heap.objs.size + 4, s1.heap.objs.size + 2, s1.heap.objs.size + 3, s1.heap.objs.size, s1.heap.objs.size + 1], _, _, H1, rfl, I2, turn_zip (PySem.W.ktu_apart s1.heap.objs.size a b la lb), ⟨hz, hTI, ⟨_, _, hTO⟩, h1, h2⟩, fun c hcm => ?_, q⟩
      have e' : c = s1.heap.objs.size + 4 ∨ c = s1.heap.objs.size + 2 ∨ c = s1.heap.objs.size + 3 ∨ c = s1.heap.objs.size ∨ c = s1.heap.objs.size + 1 := by simpa using hcm
      have hle : s1.heap.objs.size ≤ c := by
        rcases e' with z | z | z | z | z
        · rw [z]; exact Nat.le_add_right _ _
        · rw [z]; exact Nat.le_add_right _ _
        · rw [z]; exact Nat.le_add_right _ _
        · rw [z]; exact Nat.le_refl _
        · rw [z]; exact Nat.le_add_right _ _
      exact I1.fpOk hle (I1.hok.fresh hle)
end L2
section 
namespace Bits
open PySem PyProof.Rows
theorem bitOr_pp {x y : Int} (hx : 0 ≤ x) (hy : 0 ≤ y) : Builtin.bitOr x y = ((x.toNat ||| y.toNat : Nat) : Int) := by
  have e := nat_or_add_and x.toNat y.toNat
  rw [bitOr_and, bitAnd_pp hx hy]
  omega
end Bits
end 
section 
namespace TL
open PySem PySem.Builtin PySem.Builtin.Str PySem.StrLaws
end TL
end 
namespace L2
open PySem PySem.Spec PyProof.Rows
section
variable {X : Cx} {pins : List (Addr × Obj)} {σ : St} {H : Hp} {s : Shared} {Q : VK}
end
section
variable {X : Cx}
end
section
variable {X : Cx} {o e : Expr} {to te : TE}
end
end L2
namespace L2
open PySem PySem.Spec PyProof.Rows
section
variable {X : Cx}
end
end L2
namespace Att
open PySem PySem.W PySem.Calls PyProof.Rows
section
variable {prog : Program} {w : World} {A : Around} {E : Value → Shared → Prop} {s : Shared} {K : Frag}
end
end Att
namespace L2
open PySem PySem.Spec PyProof.Rows
end L2
namespace L2
open PySem PySem.Spec PyProof.Rows
end L2
/- THE LAST THEOREM (shape; LID, My.* are yours):
   My.Adr: a structure of the addresses that your layer names (classes, functions); My.Txt K t: a structure (Prop) of the equations over K;
   My.txt_mk : {K} {implicit addresses ..} (e1 : nsIn K mainGlobals "law" = some (some (.ref f))) (e2 : K.lookup f = some ⟨oc, od, .func (fnOf "law" "law" params body scope dV kV doc pm an cdv ct), sl⟩) (e3 : codeIn K cdv "law" = true) .. : ∃ t, My.Txt K t
set_option maxRecDepth 100000 in
set_option maxHeartbeats 0 in
theorem PySem.Challenge.cw_LID_holds : PySem.Challenge.rw_LID.Holds := by
  w_on; o_law; k_head; (case hw => w_witness2)
  k_fill
  refine L2.walk_of (l := PySem.Challenge.rw_LID) (n := 63) (k := 40) (x := "script") (CX := fun w => ..) (sp := fun _ => My.sp_law) rfl (by decide) rfl ⟨rfl, by decide, by decide⟩ (fun w h Y => PySem.W.kIn_of Y) ?F ?S ?C
  case F =>
    intro w mg fa h KX G hmg
    have T : ∃ t, My.Txt (L2.KOf KX) t := by
      dsimp only [L2.KOf]                          -- K must stand as «<heap const> w.params» for k_is
      refine' My.txt_mk ?e1 ?e2 ?e3 ..
      (case e1 => PySem.W.k_is)                    -- in the order: a name -> its address -> its object -> its parts
      (case e2 => PySem.W.k_is)
      ..
    obtain ⟨t, T⟩ := T
    have e0 := hmg.symm.trans (PySem.W.mg_of KX G T.law)
    cases e0                                       -- fa is the law's own address
    exact ⟨_, fun s u => .of_eq rfl, fun base kb nb => My.law_fn T kb nb⟩     -- if «.of_eq rfl» comes too early: refine' ⟨_, ?b, fun base kb nb => My.law_fn T kb nb⟩; exact fun s u => .of_eq rfl
  case S => exact fun w H a ns hl hO hS => ..
  case C => exact ..
(the tactic k_is has no namespace: write k_is) -/
namespace L2
open PySem PySem.Spec PyProof.Rows
noncomputable def inClass (s : Stmt) (j : Nat) : Stmt := match s with
  | .ClassDef _ _ _ body _ _ _ _ _ _ _ => body.getD j (.Pass ⟨0, 0, 0, 0⟩)
  | _ => .Pass ⟨0, 0, 0, 0⟩
noncomputable def defArgs (s : Stmt) : Arguments := match s with
  | .FunctionDef _ a _ _ _ _ _ _ _ _ => a
  | _ => { posonlyargs := [], args := [], vararg := none, kwonlyargs := [], kw_defaults := [], kwarg := none, defaults := [] }
noncomputable def defBody (s : Stmt) : List Stmt := match s with
  | .FunctionDef _ _ b _ _ _ _ _ _ _ => b
  | _ => []
noncomputable def defScope (s : Stmt) : Scope := match s with
  | .FunctionDef _ _ _ _ _ _ sc _ _ _ => sc
  | _ => { kind := .function, names := [], isGenerator := false, isCoroutine := false }
noncomputable abbrev CX0 : CXT := fun _ _ _ _ _ _ => False
noncomputable abbrev E0 : XK := fun _ _ _ => False
theorem pass0 {X : Cx} : Passes CX0 X E0 := fun _ _ _ _ _ _ _ h => h.elim
structure Fun (K : PySem.W.Frag) (x qual : Str) (st : Stmt) (f : Addr) (fd : FuncData) : Prop where
  ex : ∃ (oc : Value) (od : Option Addr) (kV doc pm : Value) (an : Option Addr) (cdv ct : Value) (osl : Array (Option Value)),
    fd = PySem.W.fnOf x qual (defArgs st) (defBody st) (defScope st) .none kV doc pm an cdv ct ∧ K.lookup f = some ⟨oc, od, .func fd, osl⟩ ∧ PySem.W.codeIn K cdv qual = true
  kp : PySem.W.keepIn K (.ref f) = true
section
variable {P : Program} {w : World} {K : PySem.W.Frag} {mg : Str → Option Value} {base : Heap}
theorem Fun.ok {x qual : Str} {st : Stmt} {f : Addr} {fd : FuncData} {N ps : List Str} {k : Nat} {sp : Sp} (F : Fun K x qual st f fd) (S : FnScope N ps (defScope st)) (len : ∀ vs H Q E, sp vs H Q E → vs.length = ps.length)
    (hbody : ∀ (cdv : Value) (A : Around) (outer : List Env) (s : Shared) (H : Hp) (vs : List V) (Q : VK) (E : XK), Room k (A.deeper (envOfC qual (defScope st) s.heap.objs.size f cdv)) → sp vs H Q E →
      ∃ t, PSs (cxOf CX0 P w K mg base N qual (defScope st) f cdv A outer s H E).nox (defBody st) t ∧ t { nx := fun _ H' => Q .non H', rt := Q } (start N vs) H) : FnOk P w K mg base CX0 (k + 1) f fd ps sp := by
  obtain ⟨oc, od, kV, doc, pm, an, cdv, ct, osl, rfl, lk, hcd⟩ := F.ex
  refine fn_of lk hcd S len fun A outer s H vs Q E hr hsp => ?_
  obtain ⟨t, h, q⟩ := hbody cdv A outer s H vs Q E hr hsp
  exact ⟨t, h.nox, q⟩
theorem Fun.binds {x qual : Str} {st : Stmt} {f : Addr} {fd : FuncData} {ps : List Str} (F : Fun K x qual st f fd)
    (h : ∀ (kV doc pm : Value) (an : Option Addr) (cdv ct : Value) (us : List Value), us.length = ps.length → bindArgs (PySem.W.fnOf x qual (defArgs st) (defBody st) (defScope st) .none kV doc pm an cdv ct) ⟨us, []⟩ = pure (ps.zip us)) : Binds K fd ps [] := by
  obtain ⟨oc, od, kV, doc, pm, an, cdv, ct, osl, rfl, lk, hcd⟩ := F.ex
  exact .all (h kV doc pm an cdv ct)
theorem fun_mk {x qual : Str} {st : Stmt} {f : Addr} {oc : Value} {od an : Option Addr} {osl : Array (Option Value)} {kV doc pm cdv ct : Value} (l : K.lookup f = some ⟨oc, od, .func (PySem.W.fnOf x qual (defArgs st) (defBody st) (defScope st) .none kV doc pm an cdv ct), osl⟩)
    (c : PySem.W.codeIn K cdv qual = true) (k : PySem.W.keepIn K (.ref f) = true) : Fun K x qual st f (PySem.W.fnOf x qual (defArgs st) (defBody st) (defScope st) .none kV doc pm an cdv ct) := ⟨⟨oc, od, kV, doc, pm, an, cdv, ct, osl, rfl, l, c⟩, k⟩
end
theorem hu_of {A : Around} {k : Nat} (hr : Room k A) : A.units + 1 < cLine := Nat.lt_of_le_of_lt (Nat.add_le_add_left (by decide : 1 ≤ 64) _) hr.units
section
variable {X : Cx}
theorem pv (i : Nat) {x : Str} {pos : Pos} (hN : X.N[i]? = some x := by rfl) (hv : Vis X.env.scope x := by first | exact Or.inl rfl | exact Or.inr (Or.inl rfl) | exact Or.inr (Or.inr rfl)) (hd : (x == ("__debug__" : Str)) = false := by decide)
    (hcd : (x == ("__classdict__" : Str)) = false := by decide) : PE X (.Name x pos) (tVar i) := pe_var hN hv hd hcd
end
theorem iteF {A B : Prop} (h : B) : if false = true then A else B := by
  rw [if_neg Bool.false_ne_true]
  exact h
theorem iteT {A B : Prop} (h : A) : if true = true then A else B := by
  rw [if_pos rfl]
  exact h
theorem ite2 {c A B : Prop} [Decidable c] (h1 : c → A) (h2 : ¬ c → B) : if c then A else B := by
  by_cases h : c
  · rw [if_pos h]
    exact h1 h
  · rw [if_neg h]
    exact h2 h
noncomputable def Same (H H' : Hp) : Prop := ∀ b o, H b = some o → H' b = some o
theorem Same.refl (H : Hp) : Same H H := fun _ _ h => h
theorem Same.trans {H H1 H2 : Hp} (a : Same H H1) (b : Same H1 H2) : Same H H2 := fun c o h => b c o (a c o h)
theorem Same.free {H H' : Hp} (e : Same H H') {l : Addr} (h : H' l = Option.none) : H l = Option.none := by
  cases q : H l with
  | none => rfl
  | some o =>
    rw [e l o q] at h
    cases h
theorem Same.seq {K : PySem.W.Frag} {H H' : Hp} {a : Addr} {xs : List V} (e : Same H H') (h : SqL K H a xs) : SqL K H' a xs := by
  rcases h with (h | ⟨o, h⟩) | h
  · exact .inl (.inl (e _ _ h))
  · exact .inl (.inr ⟨o, e _ _ h⟩)
  · exact .inr h
section
variable {κ : Type} [DecidableEq κ]
end
theorem Same.made {H H1 : Hp} {x dx C : Addr} (nx : H x = Option.none) (nd : H dx = Option.none) (k : ∀ b o, (upd (upd H dx (.own x)) x (.ins C dx [])) b = some o → b ≠ x → H1 b = some o) : Same H H1 := fun b o e =>
  k b o (by rw [upd_ne (ne_of_none e nx), upd_ne (ne_of_none e nd)]; exact e) (ne_of_none e nx)
end L2
set_option maxHeartbeats 2000000
namespace L2
open PySem PySem.Spec PyProof.Rows
open PySem.W (WData Codec OpenSpec Well WellAll ReadsW ReadsAllW)
mutual
inductive Dw (K : PySem.W.Frag) (H : Hp) : V → WData → Prop
  | non : Dw K H .non .none
  | bl (b : Bool) : Dw K H (.bl b) (.bool b)
  | int (i : Int) : Dw K H (.int i) (.int i)
  | str (x : Str) : Dw K H (.str x) (.str x)
  | byt (b : Array UInt8) : Dw K H (.byt b) (.bytes b.toList)
  | lst {a : Addr} {xs : List V} {ds : List WData} : SqL K H a xs → DwAll K H xs ds → Dw K H (.ref a) (.list ds)
  | tup {a : Addr} {xs : List V} {ds : List WData} : SqT K H a xs → DwAll K H xs ds → Dw K H (.ref a) (.tuple ds)
inductive DwAll (K : PySem.W.Frag) (H : Hp) : List V → List WData → Prop
  | nil : DwAll K H [] []
  | cons {v : V} {vs : List V} {d : WData} {ds : List WData} : Dw K H v d → DwAll K H vs ds → DwAll K H (v :: vs) (d :: ds)
end
theorem dw_ints {K : PySem.W.Frag} {H : Hp} : ∀ ns : List Int, DwAll K H (ns.map V.int) (ns.map WData.int)
  | [] => .nil
  | n :: r => .cons (.int n) (dw_ints r)
theorem ints_dw {K : PySem.W.Frag} {H : Hp} : ∀ (ns : List Int) (xs : List V), DwAll K H xs (ns.map WData.int) → xs = ns.map V.int
  | [], xs, h => by
    cases h
    rfl
  | n :: r, xs, h => by
    cases h with
    | cons h1 h2 =>
      cases h1
      rw [ints_dw r _ h2] <;> rfl
section
variable {P : Program} {w : World} {K : PySem.W.Frag} {H : Hp} {h : Heap} {R : PySem.W.WRecords} {cl : Str → Option Addr}
theorem sqL_at {a : Addr} {xs : List V} (hok : HOk P w H h) (KX : K.In h) (q : SqL K H a xs) : ∃ (its : List Value) (o : Obj) (n : Nat), Vals xs its ∧ h.get? a = some o ∧ o.cls = .type "list" ∧ o.data = .seq its.toArray n := by
  rcases q with q | ⟨o, its, n, e, hc, _, hd, _, hv⟩
  · obtain ⟨_, its, n, hv, e⟩ := (show ObjOk P w H h a (.lst xs) from q.ok hok)
    exact ⟨its, _, n, hv, e, rfl, rfl⟩
  · exact ⟨its.toList, o, n, hv, KX _ _ e, hc, by simp [hd]⟩
theorem sqT_at {a : Addr} {xs : List V} (hok : HOk P w H h) (KX : K.In h) (q : SqT K H a xs) : ∃ (its : List Value) (o : Obj) (n : Nat), Vals xs its ∧ h.get? a = some o ∧ o.cls = .type "tuple" ∧ o.data = .seq its.toArray n := by
  rcases q with q | ⟨o, its, n, e, hc, hd, _, hv⟩
  · obtain ⟨_, its, hv, o, e, hc, n, hd⟩ := (show ObjOk P w H h a (.tup xs) from q.ok hok)
    exact ⟨its, o, n, hv, e, hc, hd⟩
  · exact ⟨its.toList, o, n, hv, KX _ _ e, hc, by simp [hd]⟩
mutual
theorem Dw.reads (hok : HOk P w H h) (KX : K.In h) : ∀ (d : WData) (v : V) (u : Value), Dw K H v d → RelV v u → ∃ as, ReadsW R cl h u d as
  | .none, _, _, x, r => by
    cases x
    cases r
    exact ⟨_, ReadsW.none⟩
  | .bool b, _, _, x, r => by
    cases x
    cases r
    exact ⟨_, ReadsW.bool b⟩
  | .int i, _, _, x, r => by
    cases x
    obtain ⟨t, rfl⟩ := r
    exact ⟨_, ReadsW.int i t⟩
  | .str s, _, _, x, r => by
    cases x
    obtain ⟨t, rfl⟩ := r
    exact ⟨_, ReadsW.str s t⟩
  | .bytes b, _, _, x, r => by
    cases x
    obtain ⟨t, rfl⟩ := r
    exact ⟨_, ReadsW.bytes _ t⟩
  | .list ds, _, _, x, r => by
    cases x with
    | lst hs ha =>
      cases r
      obtain ⟨its, o, n, rv, ho, hc, hd⟩ := sqL_at hok KX hs
      obtain ⟨as, hr⟩ := Dw.readsAll hok KX ds _ its ha rv
      exact ⟨_, ReadsW.list ho hc hd hr⟩
  | .tuple ds, _, _, x, r => by
    cases x with
    | tup hs ha =>
      cases r
      obtain ⟨its, o, n, rv, ho, hc, hd⟩ := sqT_at hok KX hs
      obtain ⟨as, hr⟩ := Dw.readsAll hok KX ds _ its ha rv
      exact ⟨_, ReadsW.tuple ho hc hd hr⟩
  | .float _, _, _, x, _ => by cases x
  | .dict _, _, _, x, _ => by cases x
  | .bytearray _, _, _, x, _ => by cases x
  | .set _, _, _, x, _ => by cases x
  | .frozenset _, _, _, x, _ => by cases x
  | .obj _ _, _, _, x, _ => by cases x
theorem Dw.readsAll (hok : HOk P w H h) (KX : K.In h) : ∀ (ds : List WData) (vs : List V) (us : List Value), DwAll K H vs ds → Vals vs us → ∃ as, ReadsAllW R cl h us ds as
  | [], _, _, x, r => by
    cases x
    cases r
    exact ⟨_, ReadsAllW.nil⟩
  | d :: ds, _, _, x, r => by
    cases x with
    | cons h1 h2 =>
      cases r with
      | cons r1 r2 =>
        obtain ⟨as, q1⟩ := Dw.reads hok KX d _ _ h1 r1
        obtain ⟨bs, q2⟩ := Dw.readsAll hok KX ds _ _ h2 r2
        exact ⟨_, ReadsAllW.cons q1 q2⟩
end
end
mutual
noncomputable def plW : WData → Bool
  | .none => true
  | .bool _ => true
  | .int _ => true
  | .str _ => true
  | .bytes _ => true
  | .list xs => plWs xs
  | .tuple xs => plWs xs
  | _ => false
noncomputable def plWs : List WData → Bool
  | [] => true
  | x :: r => plW x && plWs r
end
theorem plWs_map {α : Type} {f : α → WData} (h : ∀ a, plW (f a) = true) : ∀ l : List α, plWs (l.map f) = true
  | [] => rfl
  | x :: r => by
    show (plW (f x) && plWs (r.map f)) = true
    rw [h x, plWs_map h r] <;> rfl
theorem pl_enc : ∀ (c : Codec) (a : c.denote), plW (c.enc a) = true
  | .unit, _ => rfl
  | .bool, _ => rfl
  | .int _ _, _ => rfl
  | .nat _ _, _ => rfl
  | .u8, _ => rfl
  | .bytes _ _, _ => rfl
  | .text _ _ _ _, _ => rfl
  | .list _ _ c, a => plWs_map (fun x => pl_enc c x) a
  | .pair c d, a => by
    show (plW (c.enc a.1) && (plW (d.enc a.2) && true)) = true
    rw [pl_enc c a.1, pl_enc d a.2] <;> rfl
  | .triple c d e, a => by
    show (plW (c.enc a.1) && (plW (d.enc a.2.1) && (plW (e.enc a.2.2) && true))) = true
    rw [pl_enc c a.1, pl_enc d a.2.1, pl_enc e a.2.2] <;> rfl
  | .option c, none => rfl
  | .option c, some x => pl_enc c x
theorem pl_encAll : ∀ (cs : List Codec) (a : Codec.denoteAll cs), plWs (Codec.encAll cs a) = true
  | [], _ => rfl
  | c :: cs, a => by
    show (plW (c.enc a.1) && plWs (Codec.encAll cs a.2)) = true
    rw [pl_enc c a.1, pl_encAll cs a.2] <;> rfl
theorem weight_mem : ∀ {xs : List WData} {d : WData}, d ∈ xs → d.weight ≤ WData.weightAll xs
  | [], d, h => absurd h (by simp)
  | x :: r, d, h => by
    show d.weight ≤ x.weight + 1 + WData.weightAll r
    rcases List.mem_cons.mp h with e | m
    · rw [e]
      omega
    · have z := weight_mem m
      omega
noncomputable def toV : Value → V
  | .none => .non
  | .bool b => .bl b
  | .int i _ => .int i
  | .str x _ => .str x
  | .bytes b _ => .byt b
  | .ref a => .ref a
  | _ => .non
noncomputable def OkU (A : List Addr) : Value → Prop
  | .none => True
  | .bool _ => True
  | .int _ _ => True
  | .str _ _ => True
  | .bytes _ _ => True
  | .ref a => a ∈ A
  | _ => False
theorem OkU.mono {A B : List Addr} (h : ∀ a ∈ A, a ∈ B) : ∀ {u : Value}, OkU A u → OkU B u := fun {u} x => by
  cases u with
  | ref a => exact h a x
  | none => trivial
  | bool b => trivial
  | int i t => trivial
  | str s t => trivial
  | bytes b t => trivial
  | _ => exact False.elim x
theorem relV_toV {A : List Addr} {u : Value} (x : OkU A u) : RelV (toV u) u := by
  cases u with
  | ref a => rfl
  | none => rfl
  | bool b => rfl
  | int i t => exact ⟨t, rfl⟩
  | str s t => exact ⟨t, rfl⟩
  | bytes b t => exact ⟨t, rfl⟩
  | _ => exact False.elim x
theorem vals_toV {A : List Addr} : ∀ {vs : List Value}, (∀ u ∈ vs, OkU A u) → Vals (vs.map toV) vs
  | [], _ => .nil
  | u :: r, h => .cons (relV_toV (h u (List.mem_cons_self ..))) (vals_toV fun x hx => h x (List.mem_cons_of_mem _ hx))
noncomputable def ArgOb (h : Heap) (A : List Addr) (a : Addr) : Prop := ∃ vs : List Value, vs.length ≤ sizeLine ∧ (∀ u ∈ vs, OkU A u) ∧
  (h.get? a = some { cls := .type "list", data := .seq vs.toArray } ∨ h.get? a = some { cls := .type "tuple", data := .seq vs.toArray })
theorem ArgOb.mono {h : Heap} {A B : List Addr} {a : Addr} (k : ∀ a ∈ A, a ∈ B) (x : ArgOb h A a) : ArgOb h B a := by
  obtain ⟨vs, h1, h2, h3⟩ := x
  exact ⟨vs, h1, fun u hu => (h2 u hu).mono k, h3⟩
theorem wellAll_len {P : Params} {h : Heap} : ∀ {vs : List Value} {ds : List WData}, WellAll P h vs ds → vs.length = ds.length
  | _, _, .nil => rfl
  | _, _, .cons _ b => by
    show _ + 1 = _ + 1
    rw [wellAll_len b]
theorem well_list {P : Params} {h : Heap} {v : Value} {ds : List WData} (x : Well P h v (.list ds)) : ∃ (a : Addr) (vs : List Value), v = .ref a ∧ h.get? a = some { cls := .type "list", data := .seq vs.toArray } ∧ WellAll P h vs ds := by
  cases x with
  | list ho hall => exact ⟨_, _, rfl, ho, hall⟩
theorem well_tuple {P : Params} {h : Heap} {v : Value} {ds : List WData} (x : Well P h v (.tuple ds)) : ∃ (a : Addr) (vs : List Value), v = .ref a ∧ h.get? a = some { cls := .type "tuple", data := .seq vs.toArray } ∧ WellAll P h vs ds := by
  cases x with
  | tuple ho hall => exact ⟨_, _, rfl, ho, hall⟩
theorem well_cons {P : Params} {h : Heap} {us : List Value} {d : WData} {ds : List WData} (x : WellAll P h us (d :: ds)) : ∃ (v : Value) (vs : List Value), us = v :: vs ∧ Well P h v d ∧ WellAll P h vs ds := by
  cases x with
  | cons a b => exact ⟨_, _, rfl, a, b⟩
theorem line_of {n : Nat} (h : n ≤ 1048576) : n ≤ sizeLine := Nat.le_trans h (by decide)
section
variable {P : Params} {h : Heap}
mutual
theorem area_one : ∀ (d : WData) (v : Value), Well P h v d → plW d = true → d.weight ≤ 1048576 → ∃ A : List Addr, OkU A v ∧ ∀ a ∈ A, ArgOb h A a
  | .none, _, x, _, _ => by
    cases x
    exact ⟨[], trivial, fun a m => absurd m (by simp)⟩
  | .bool b, _, x, _, _ => by
    cases x
    exact ⟨[], trivial, fun a m => absurd m (by simp)⟩
  | .int i, _, x, _, _ => by
    cases x
    exact ⟨[], trivial, fun a m => absurd m (by simp)⟩
  | .str s, _, x, _, _ => by
    cases x
    exact ⟨[], trivial, fun a m => absurd m (by simp)⟩
  | .bytes b, _, x, _, _ => by
    cases x
    exact ⟨[], trivial, fun a m => absurd m (by simp)⟩
  | .list ds, _, x, p, z => by
    obtain ⟨a, vs, rfl, ho, hall⟩ := well_list x
    have z2 : WData.weightAll ds ≤ 1048576 := z
    obtain ⟨A, h1, h2⟩ := area_all ds _ hall p fun d hd => Nat.le_trans (weight_mem hd) z2
    have k : ∀ b ∈ A, b ∈ a :: A := fun b hb => List.mem_cons_of_mem _ hb
    refine ⟨a :: A, List.mem_cons_self .., fun b hb => ?_⟩
    rcases List.mem_cons.mp hb with e | m
    · rw [e]
      exact ⟨vs, line_of (by rw [wellAll_len hall]; exact Nat.le_trans (PySem.W.length_le_weightAllW ds) z2), fun u hu => (h1 u hu).mono k, .inl ho⟩
    · exact (h2 b m).mono k
  | .tuple ds, _, x, p, z => by
    obtain ⟨a, vs, rfl, ho, hall⟩ := well_tuple x
    have z2 : WData.weightAll ds ≤ 1048576 := z
    obtain ⟨A, h1, h2⟩ := area_all ds _ hall p fun d hd => Nat.le_trans (weight_mem hd) z2
    have k : ∀ b ∈ A, b ∈ a :: A := fun b hb => List.mem_cons_of_mem _ hb
    refine ⟨a :: A, List.mem_cons_self .., fun b hb => ?_⟩
    rcases List.mem_cons.mp hb with e | m
    · rw [e]
      exact ⟨vs, line_of (by rw [wellAll_len hall]; exact Nat.le_trans (PySem.W.length_le_weightAllW ds) z2), fun u hu => (h1 u hu).mono k, .inr ho⟩
    · exact (h2 b m).mono k
  | .float _, _, _, p, _ => Bool.noConfusion (show false = true from p)
  | .dict _, _, _, p, _ => Bool.noConfusion (show false = true from p)
  | .bytearray _, _, _, p, _ => Bool.noConfusion (show false = true from p)
  | .set _, _, _, p, _ => Bool.noConfusion (show false = true from p)
  | .frozenset _, _, _, p, _ => Bool.noConfusion (show false = true from p)
  | .obj _ _, _, _, p, _ => Bool.noConfusion (show false = true from p)
theorem area_all : ∀ (ds : List WData) (vs : List Value), WellAll P h vs ds → plWs ds = true → (∀ d ∈ ds, d.weight ≤ 1048576) → ∃ A : List Addr, (∀ u ∈ vs, OkU A u) ∧ ∀ a ∈ A, ArgOb h A a
  | [], _, x, _, _ => by
    cases x
    exact ⟨[], fun u m => absurd m (by simp), fun a m => absurd m (by simp)⟩
  | d :: ds, _, x, p, z => by
    obtain ⟨v, vs, rfl, x1, x2⟩ := well_cons x
    have q : plW d = true ∧ plWs ds = true := Bool.and_eq_true_iff.mp p
    obtain ⟨A, a1, a2⟩ := area_one d v x1 q.1 (z d (List.mem_cons_self ..))
    obtain ⟨B, b1, b2⟩ := area_all ds vs x2 q.2 fun e he => z e (List.mem_cons_of_mem _ he)
    have kA : ∀ b ∈ A, b ∈ A ++ B := fun b hb => List.mem_append.mpr (.inl hb)
    have kB : ∀ b ∈ B, b ∈ A ++ B := fun b hb => List.mem_append.mpr (.inr hb)
    refine ⟨A ++ B, fun u hu => ?_, fun b hb => ?_⟩
    · rcases List.mem_cons.mp hu with e | m
      · rw [e]
        exact a1.mono kA
      · exact (b1 u m).mono kB
    · rcases List.mem_append.mp hb with m | m
      · exact (a2 b m).mono kA
      · exact (b2 b m).mono kB
end
end
noncomputable def hoOf (o : Obj) : Option HO := match o.data with
  | .seq vs _ => if (o.cls == Value.type "list") = true then some (.frz o (.lst (vs.toList.map toV))) else some (.frz o (.tup (vs.toList.map toV)))
  | _ => none
noncomputable def argH (K : PySem.W.Frag) (h : Heap) (A : List Addr) : Hp := fun b => if b ∈ A then (if (K.lookup b).isNone = true then (h.get? b).bind hoOf else none) else none
noncomputable def OnlyF (H : Hp) : Prop := ∀ b, H b = none ∨ ∃ o u, H b = some (.frz o u)
theorem hoOf_lst (vs : List Value) : hoOf { cls := .type "list", data := .seq vs.toArray } = some (.frz { cls := .type "list", data := .seq vs.toArray } (.lst (vs.map toV))) := by
  show (if (Value.type "list" == Value.type "list") = true then some (HO.frz { cls := .type "list", data := .seq vs.toArray } (.lst (vs.toArray.toList.map toV))) else some (HO.frz { cls := .type "list", data := .seq vs.toArray } (.tup (vs.toArray.toList.map toV)))) = _
  rw [if_pos (beq_self_eq_true _)]
theorem hoOf_tup (vs : List Value) : hoOf { cls := .type "tuple", data := .seq vs.toArray } = some (.frz { cls := .type "tuple", data := .seq vs.toArray } (.tup (vs.map toV))) := by
  show (if (Value.type "tuple" == Value.type "list") = true then some (HO.frz { cls := .type "tuple", data := .seq vs.toArray } (.lst (vs.toArray.toList.map toV))) else some (HO.frz { cls := .type "tuple", data := .seq vs.toArray } (.tup (vs.toArray.toList.map toV)))) = _
  rw [if_neg (by decide)]
section
variable {P : Program} {w : World} {K : PySem.W.Frag} {h : Heap} {A : List Addr}
theorem argH_at {b : Addr} {o : Obj} (hb : b ∈ A) (hk : K.lookup b = none) (e : h.get? b = some o) : argH K h A b = hoOf o := by
  unfold argH
  rw [if_pos hb, hk, if_pos (show (none : Option Obj).isNone = true from rfl), e] <;> rfl
theorem of_argH {b : Addr} {u : HO} (q : argH K h A b = some u) : b ∈ A ∧ K.lookup b = none := by
  unfold argH at q
  by_cases hb : b ∈ A
  · rw [if_pos hb] at q
    cases hk : K.lookup b with
    | none => exact ⟨hb, rfl⟩
    | some o =>
      rw [hk, if_neg (by simp)] at q
      cases q
  · rw [if_neg hb] at q
    cases q
theorem argH_is (ar : ∀ a ∈ A, ArgOb h A a) {b : Addr} {u : HO} (q : argH K h A b = some u) : K.lookup b = none ∧ ∃ vs : List Value, vs.length ≤ sizeLine ∧ (∀ u ∈ vs, OkU A u) ∧
    ((h.get? b = some { cls := .type "list", data := .seq vs.toArray } ∧ u = .frz { cls := .type "list", data := .seq vs.toArray } (.lst (vs.map toV))) ∨
     (h.get? b = some { cls := .type "tuple", data := .seq vs.toArray } ∧ u = .frz { cls := .type "tuple", data := .seq vs.toArray } (.tup (vs.map toV)))) := by
  obtain ⟨hb, hk⟩ := of_argH q
  obtain ⟨vs, h1, h2, h3⟩ := ar b hb
  refine ⟨hk, vs, h1, h2, ?_⟩
  rcases h3 with e | e
  · rw [argH_at hb hk e, hoOf_lst] at q
    exact .inl ⟨e, (Option.some.inj q).symm⟩
  · rw [argH_at hb hk e, hoOf_tup] at q
    exact .inr ⟨e, (Option.some.inj q).symm⟩
theorem argH_only (ar : ∀ a ∈ A, ArgOb h A a) : OnlyF (argH K h A) := fun b => by
  cases q : argH K h A b with
  | none => exact .inl rfl
  | some u =>
    obtain ⟨_, vs, _, _, ⟨_, e⟩ | ⟨_, e⟩⟩ := argH_is ar q
    · exact .inr ⟨_, _, by rw [e]⟩
    · exact .inr ⟨_, _, by rw [e]⟩
theorem argH_ok (ar : ∀ a ∈ A, ArgOb h A a) : HOk P w (argH K h A) h := fun b u q => by
  obtain ⟨_, vs, h1, h2, ⟨e, rfl⟩ | ⟨e, rfl⟩⟩ := argH_is ar q
  · exact ⟨e, by rw [List.length_map]; exact h1, vs, _, vals_toV h2, e⟩
  · exact ⟨e, by rw [List.length_map]; exact h1, vs, vals_toV h2, _, e, rfl, _, rfl⟩
theorem seq_inj {c c' : Value} {vs us : List Value} (e : (some { cls := c, data := .seq vs.toArray } : Option Obj) = some { cls := c', data := .seq us.toArray }) : c = c' ∧ vs = us := by
  have e1 := Option.some.inj e
  have e2 : c = c' := congrArg Obj.cls e1
  have e3 : Data.seq vs.toArray = Data.seq us.toArray := congrArg Obj.data e1
  injection e3 with e4
  refine ⟨e2, ?_⟩
  have e5 := congrArg Array.toList e4
  simpa using e5
theorem argL (KX : K.In h) (ar : ∀ a ∈ A, ArgOb h A a) {a : Addr} {vs : List Value} (ha : a ∈ A) (e : h.get? a = some { cls := .type "list", data := .seq vs.toArray }) : (∀ u ∈ vs, OkU A u) ∧ SqL K (argH K h A) a (vs.map toV) := by
  obtain ⟨us, h1, h2, h3⟩ := ar a ha
  have hu : us = vs := by
    rcases h3 with q | q
    · rw [e] at q
      exact (seq_inj q).2.symm
    · rw [e] at q
      exact absurd (Value.type.inj (seq_inj q).1) (by decide)
  subst hu
  refine ⟨h2, ?_⟩
  cases hk : K.lookup a with
  | none => exact .inl (.inr ⟨_, by rw [argH_at ha hk e, hoOf_lst]⟩)
  | some o =>
    have e2 := KX a o hk
    rw [e] at e2
    obtain rfl := Option.some.inj e2
    exact .inr ⟨_, us.toArray, _, hk, rfl, rfl, rfl, by rw [List.size_toArray]; exact h1, by simpa using vals_toV h2⟩
theorem argT (KX : K.In h) (ar : ∀ a ∈ A, ArgOb h A a) {a : Addr} {vs : List Value} (ha : a ∈ A) (e : h.get? a = some { cls := .type "tuple", data := .seq vs.toArray }) : (∀ u ∈ vs, OkU A u) ∧ SqT K (argH K h A) a (vs.map toV) := by
  obtain ⟨us, h1, h2, h3⟩ := ar a ha
  have hu : us = vs := by
    rcases h3 with q | q
    · rw [e] at q
      exact absurd (Value.type.inj (seq_inj q).1) (by decide)
    · rw [e] at q
      exact (seq_inj q).2.symm
  subst hu
  refine ⟨h2, ?_⟩
  cases hk : K.lookup a with
  | none => exact .inl (.inr ⟨_, by rw [argH_at ha hk e, hoOf_tup]⟩)
  | some o =>
    have e2 := KX a o hk
    rw [e] at e2
    obtain rfl := Option.some.inj e2
    exact .inr ⟨_, us.toArray, _, hk, rfl, rfl, by rw [List.size_toArray]; exact h1, by simpa using vals_toV h2⟩
mutual
theorem dw_one {Pm : Params} (KX : K.In h) (ar : ∀ a ∈ A, ArgOb h A a) : ∀ (d : WData) (v : Value), Well Pm h v d → plW d = true → OkU A v → Dw K (argH K h A) (toV v) d
  | .none, _, x, _, _ => by
    cases x
    exact .non
  | .bool b, _, x, _, _ => by
    cases x
    exact .bl b
  | .int i, _, x, _, _ => by
    cases x
    exact .int i
  | .str s, _, x, _, _ => by
    cases x
    exact .str s
  | .bytes b, _, x, _, _ => by
    cases x
    have z := Dw.byt (K := K) (H := argH K h A) b.toArray
    exact z
  | .list ds, _, x, p, hu => by
    obtain ⟨a, vs, rfl, ho, hall⟩ := well_list x
    obtain ⟨h2, hs⟩ := argL KX ar hu ho
    exact .lst hs (dw_all KX ar ds _ hall p h2)
  | .tuple ds, _, x, p, hu => by
    obtain ⟨a, vs, rfl, ho, hall⟩ := well_tuple x
    obtain ⟨h2, hs⟩ := argT KX ar hu ho
    exact .tup hs (dw_all KX ar ds _ hall p h2)
  | .float _, _, _, p, _ => Bool.noConfusion (show false = true from p)
  | .dict _, _, _, p, _ => Bool.noConfusion (show false = true from p)
  | .bytearray _, _, _, p, _ => Bool.noConfusion (show false = true from p)
  | .set _, _, _, p, _ => Bool.noConfusion (show false = true from p)
  | .frozenset _, _, _, p, _ => Bool.noConfusion (show false = true from p)
  | .obj _ _, _, _, p, _ => Bool.noConfusion (show false = true from p)
theorem dw_all {Pm : Params} (KX : K.In h) (ar : ∀ a ∈ A, ArgOb h A a) : ∀ (ds : List WData) (vs : List Value), WellAll Pm h vs ds → plWs ds = true → (∀ u ∈ vs, OkU A u) → DwAll K (argH K h A) (vs.map toV) ds
  | [], _, x, _, _ => by
    cases x
    exact .nil
  | d :: ds, _, x, p, hu => by
    obtain ⟨v, vs, rfl, x1, x2⟩ := well_cons x
    have q : plW d = true ∧ plWs ds = true := Bool.and_eq_true_iff.mp p
    exact .cons (dw_one KX ar d v x1 q.1 (hu _ (List.mem_cons_self ..))) (dw_all KX ar ds vs x2 q.2 fun u m => hu u (List.mem_cons_of_mem _ m))
end
end
theorem spec_call {P : Program} {w : World} {K : PySem.W.Frag} {mg mb : Str → Option Value} {CX : CXT} {k : Nat} {fa : Addr} {fd : FuncData} {ps : List Str} {sp : Sp} {s₁ : Shared} {vals : List Value} {ds : List WData} {R : PySem.W.WRecords} {cl : Str → Option Addr} {d0 : WData}
    (KX : K.In s₁.heap) (hns : s₁.heap.Ns mainGlobals mg) (hb : s₁.heap.Ns builtinsNs mb) (hbb : ∀ x : Str, x ≠ "__name__" → mb x = bootBuiltins x) (hlim : s₁.heap.NoLimit) (hg : s₁.gens = #[])
    (hwl : WellAll w.params s₁.heap vals ds) (hpl : plWs ds = true) (hwt : ∀ d ∈ ds, d.weight ≤ 1048576) (hr : Room k callerA)
    (F : ∀ base : Heap, K.In base → base.Ns mainGlobals mg → FnOk P w K mg base CX k fa fd ps sp) (hbind : ∀ (s : Shared) (us : List Value), us.length = ps.length → BindsTo s fd ⟨us, []⟩ (ps.zip us)) (hlen : ds.length = ps.length)
    (hsp : ∀ (H : Hp) (xs : List V), OnlyF H → DwAll K H xs ds → sp xs H (fun v H' => Dw K H' v d0) fun _ _ _ => False)
    (hCX : ∀ H e s', CX [] H s₁ (fun _ _ _ => False) e s' → False) :
    codeAny (model P w) callerA (.call (.ref fa) ⟨vals, []⟩) (fun r s' => ∃ u as, r = .ok (.ret u) ∧ ReadsW R cl s'.heap u d0 as ∧ OldK s₁.heap s'.heap ∧ s'.os = s₁.os ∧ AllBare s'.gens) s₁ := by
  obtain ⟨A, ho, ar⟩ := area_all ds vals hwl hpl hwt
  have hO : OnlyF (argH K s₁.heap A) := argH_only ar
  have hok : HOk P w (argH K s₁.heap A) s₁.heap := argH_ok ar
  have hS := dw_all KX ar ds vals hwl hpl ho
  have hV := vals_toV ho
  have hK : ∀ b u, argH K s₁.heap A b = some u → K.lookup b = none := fun b u q => (argH_is ar q).1
  have noA : ∀ {b : Addr} {o : Obj} {es : Array DictEntry} {ep : Nat}, s₁.heap.get? b = some o → o.data = .dict es ep → argH K s₁.heap A b = none := fun {b o es ep} e d => by
    cases q : argH K s₁.heap A b with
    | none => rfl
    | some u =>
      obtain ⟨_, vs, _, _, ⟨e2, _⟩ | ⟨e2, _⟩⟩ := argH_is ar q
      · rw [e2] at e
        cases e
        have d' : Data.seq vs.toArray _ = Data.dict es ep := d
        cases d'
      · rw [e2] at e
        cases e
        have d' : Data.seq vs.toArray _ = Data.dict es ep := d
        cases d'
  generalize argH K s₁.heap A = H at hO hok hS hK noA
  have base_of : ∀ {b : Addr} {o : Obj}, s₁.heap.get? b = some o → H b = none → (hidT s₁.heap H).get? b = some o := fun e n => hidT_get e n
  have nsK : ∀ {b : Addr} {m : Str → Option Value}, s₁.heap.Ns b m → (hidT s₁.heap H).Ns b m := fun {b m} ⟨o, es, ep, e, d, r⟩ => ⟨o, es, ep, base_of e (noA e d), d, r⟩
  have nK : ∀ b o, K.lookup b = some o → H b = none := fun b o e => by
    cases q : H b with
    | none => rfl
    | some u =>
      rw [hK b u q] at e
      cases e
  have hKb : K.In (hidT s₁.heap H) := fun b o e => base_of (KX b o e) (nK b o e)
  have hM : Mod K mg (hidT s₁.heap H) := ⟨hKb, nsK hns, ⟨mb, nsK hb, hbb⟩, let ⟨mc, h1, h2⟩ := hlim; ⟨mc, nsK h1, h2⟩⟩
  have e0 : Env0 P w K mg (hidT s₁.heap H) callerA [] s₁ H := ⟨rfl, hM, fun b o e => of_hidT e, Nat.le_of_eq (hidT_size _ _), trivial, fun b hb => absurd (show b ∈ ([] : List Addr) from hb) (by simp), hok, .of_eq hg⟩
  have hl : vals.length = ps.length := by rw [wellAll_len hwl]; exact hlen
  refine codeAny_mono ((F _ hKb (nsK hns)).run callerA [] s₁ H ⟨vals, []⟩ vals (vals.map toV) _ _ hr e0 (hbind s₁ vals hl) hV (hsp H _ hO hS)) fun r s' x => ?_
  cases r with
  | error e => exact (hCX H e s' x).elim
  | ok fl =>
    cases fl with
    | next => exact False.elim x
    | brk => exact False.elim x
    | cont => exact False.elim x
    | ret u =>
      obtain ⟨v, H', os, bare, un, hok', r', q⟩ := x
      have kept : ∀ b o, s₁.heap.get? b = some o → s'.heap.get? b = some o := fun b o e => by
        cases q2 : H b with
        | none => exact un.keep b o e q2 (by intro z; exact absurd (show b ∈ ([] : List Addr) from z) (by simp)) (by simp)
        | some u2 =>
          rcases hO b with z | ⟨ob, u3, z⟩
          · rw [q2] at z
            cases z
          · have z2 := un.frzs b ob _ z
            obtain ⟨e1, _⟩ := hok b _ z
            obtain ⟨e2, _⟩ := hok' b _ z2
            rw [e] at e1
            cases e1
            exact e2
      have KX' : K.In s'.heap := fun b o e => kept b o (KX b o e)
      obtain ⟨as, hrd⟩ := Dw.reads (R := R) (cl := cl) hok' KX' d0 v u q r'
      exact ⟨u, as, rfl, hrd, OldK.of_keep kept, os, bare⟩
theorem layable_weight {ds : List WData} (h : WData.layableAll ds = true) : ∀ d ∈ ds, d.weight ≤ 1048576 := fun d hd =>
  (PySem.W.layableW_iff.mp (List.all_eq_true.mp h d hd)).2.2
theorem encAll_len : ∀ (cs : List Codec) (a : Codec.denoteAll cs), (Codec.encAll cs a).length = cs.length
  | [], _ => rfl
  | c :: cs, a => by
    show (Codec.encAll cs a.2).length + 1 = cs.length + 1
    rw [encAll_len cs a.2]
theorem walk_spec {r : OpenSpec} {k : Nat} {q : Program} {loose : List Str} {XP : (Str → Option Value) → Heap → Prop} {YP : World → Heap → Prop} {d : DefRec} {K : Params → PySem.W.Frag} {CX : World → CXT} {ps : List Str} {sp : World → Sp}
    (hwell : r.wellSaid = true) (hdf : d.params.defaults = []) (hlen : r.args.length = ps.length) (hr : Room k callerA)
    (hY : ∀ (w : World) (h : Heap), YP w h → (K w.params).In h)
    (F : ∀ (w : World) (mg : Str → Option Value) (fa : Addr) (h : Heap), YP w h → (K w.params).In h → h.Ns mainGlobals mg → mg d.name = some (.ref fa) →
      ∃ fd : FuncData, (∀ (s : Shared) (us : List Value), us.length = ps.length → BindsTo s fd ⟨us, []⟩ (ps.zip us)) ∧
        ∀ base : Heap, (K w.params).In base → base.Ns mainGlobals mg → FnOk r.prog w (K w.params) mg base (CX w) k fa fd ps (sp w))
    (hsp : ∀ (w : World) (H : Hp) (xs : List V) (a : Codec.denoteAll r.args), OnlyF H → Codec.withinAll r.args a = true → Codec.app r.args r.asked a = true → DwAll (K w.params) H xs (Codec.encAll r.args a) →
      sp w xs H (fun v H' => Dw (K w.params) H' v (r.ret.enc (Codec.app r.args r.f a))) fun _ _ _ => False)
    (hCX : ∀ (w : World) (H : Hp) (s : Shared) (e : Value) (s' : Shared), CX w [] H s (fun _ _ _ => False) e s' → False) :
    PySem.W.WalkOS q loose XP YP r d [] (fun f vs => PySem.call f vs) := by
  intro w s_0 s₁ mg mb G Y fa o pm cd doc dV kV ho hd hcd hD hmg hg args vals as hpre hlay hrd hwl hlo
  obtain ⟨a, e1, e2⟩ := PySem.W.os_pre_some hpre
  obtain ⟨e3, hwi⟩ := Codec.encAll_of_decAll r.args args a e1
  subst e3
  have KX := hY w _ Y
  obtain ⟨fd, hb, hF⟩ := F w mg fa _ Y KX G.T.g hmg
  refine PySem.W.enter_call (codeAny_mono (spec_call (R := []) (cl := classAt s_0.heap) (d0 := r.ret.enc (Codec.app r.args r.f a)) KX G.T.g G.T.b G.T.builtins G.T.nolimit hg hwl (pl_encAll _ _) (layable_weight hlay) hr hF hb (by rw [encAll_len]; exact hlen)
    (fun H xs hO hS => hsp w H xs a hO hwi e2 hS) fun H e s' => hCX w H s₁ e s') fun r' s' hq => ?_)
  obtain ⟨u, as', rfl, h1, h2, h3, h4⟩ := hq
  exact ⟨.inl ⟨u, _, as', rfl, fun _ => rfl, h1, (OpenSpec.post_iff hwell hwi _ _).mpr rfl, fun z => Bool.noConfusion (show false = true from z)⟩, h2, h3, h4⟩
theorem walk_specK {r : OpenSpec} {k : Nat} {q : Program} {loose : List Str} {XP : (Str → Option Value) → Heap → Prop} {YP : World → Heap → Prop} {d : DefRec} {K : Params → PySem.W.Frag} {CX : CXT} {ps : List Str} {sp : PySem.W.Frag → Sp}
    (hwell : r.wellSaid = true) (hdf : d.params.defaults = []) (hlen : r.args.length = ps.length) (hr : Room k callerA)
    (hY : ∀ (w : World) (h : Heap), YP w h → (K w.params).In h)
    (F : ∀ (w : World) (mg : Str → Option Value) (fa : Addr) (h : Heap), YP w h → (K w.params).In h → h.Ns mainGlobals mg → mg d.name = some (.ref fa) →
      ∃ fd : FuncData, (∀ (s : Shared) (us : List Value), us.length = ps.length → BindsTo s fd ⟨us, []⟩ (ps.zip us)) ∧
        ∀ base : Heap, (K w.params).In base → base.Ns mainGlobals mg → FnOk r.prog w (K w.params) mg base CX k fa fd ps (sp (K w.params)))
    (hsp : ∀ (K : PySem.W.Frag) (H : Hp) (xs : List V) (a : Codec.denoteAll r.args), OnlyF H → Codec.withinAll r.args a = true → Codec.app r.args r.asked a = true → DwAll K H xs (Codec.encAll r.args a) →
      sp K xs H (fun v H' => Dw K H' v (r.ret.enc (Codec.app r.args r.f a))) fun _ _ _ => False)
    (hCX : ∀ (H : Hp) (s : Shared) (e : Value) (s' : Shared), CX [] H s (fun _ _ _ => False) e s' → False) :
    PySem.W.WalkOS q loose XP YP r d [] (fun f vs => PySem.call f vs) :=
  walk_spec (K := K) (CX := fun _ => CX) (sp := fun w => sp (K w.params)) hwell hdf hlen hr hY F (fun w H xs a h1 h2 h3 h4 => hsp (K w.params) H xs a h1 h2 h3 h4) fun _ H s e s' => hCX H s e s'
end L2
end
section
namespace NF
open Sf13
noncomputable def W (n : Abs) (f : List Int) (w : Arc → Int) : Int := ((n.zip f).map fun x => w x.1 * x.2).sum
theorem W_nil (f : List Int) (w : Arc → Int) : W [] f w = 0 := by simp [W]
theorem W_cons (a : Arc) (n : Abs) (x : Int) (f : List Int) (w : Arc → Int) : W (a :: n) (x :: f) w = w a * x + W n f w := by simp [W]
theorem W_nil' (n : Abs) (w : Arc → Int) : W n [] w = 0 := by simp [W]
theorem W_congr : ∀ (n : Abs) (f : List Int) (w v : Arc → Int), (∀ a, a ∈ n → w a = v a) → W n f w = W n f v
  | [], f, w, v, _ => by simp [W_nil]
  | a :: n, [], w, v, _ => by simp [W_nil']
  | a :: n, x :: f, w, v, h => by
    rw [W_cons, W_cons, h a (by simp), W_congr n f w v (fun b hb => h b (by simp [hb]))]
theorem W_add : ∀ (n : Abs) (f : List Int) (w v : Arc → Int), W n f (fun a => w a + v a) = W n f w + W n f v
  | [], f, w, v => by simp [W_nil]
  | a :: n, [], w, v => by simp [W_nil']
  | a :: n, x :: f, w, v => by
    rw [W_cons, W_cons, W_cons, W_add n f w v]; grind
theorem W_mul : ∀ (n : Abs) (f : List Int) (w : Arc → Int) (k : Int), W n f (fun a => k * w a) = k * W n f w
  | [], f, w, k => by simp [W_nil]
  | a :: n, [], w, k => by simp [W_nil']
  | a :: n, x :: f, w, k => by
    rw [W_cons, W_cons, W_mul n f w k]; grind
theorem W_zero (n : Abs) (f : List Int) : W n f (fun _ => 0) = 0 := by
  have := W_mul n f (fun _ => 0) 0
  simpa using this
theorem W_sums (n : Abs) (f : List Int) (g : Nat → Arc → Int) : ∀ (l : List Nat), W n f (fun a => (l.map fun v => g v a).sum) = (l.map fun v => W n f (g v)).sum
  | [] => by simp [W_zero]
  | v :: l => by
    simp only [List.map_cons, List.sum_cons]
    rw [W_add, W_sums n f g l]
theorem W_set : ∀ (n : Abs) (f : List Int) (i : Nat) (a : Arc) (x : Int) (w : Arc → Int), n[i]? = some a → i < f.length → W n (f.set i x) w = W n f w + w a * (x - f.getD i 0)
  | [], f, i, a, x, w, h, _ => by simp at h
  | b :: n, [], i, a, x, w, h, hl => by simp at hl
  | b :: n, y :: f, 0, a, x, w, h, hl => by
    simp at h; subst h
    simp only [List.set_cons_zero, W_cons, List.getD_cons_zero]; grind
  | b :: n, y :: f, i + 1, a, x, w, h, hl => by
    simp at h hl
    simp only [List.set_cons_succ, W_cons, List.getD_cons_succ]
    rw [W_set n f i a x w h hl]; grind
noncomputable def ind (v : Nat) (a : Arc) : Int := (if a.source = v then 1 else 0) - (if a.target = v then 1 else 0)
theorem sum_W : ∀ (n : Abs) (f : List Int) (p : Arc → Bool), sum n f p = W n f (fun a => if p a then 1 else 0)
  | [], f, p => by simp [W_nil, Sf13.sum]
  | a :: n, [], p => by simp [W_nil', Sf13.sum]
  | a :: n, x :: f, p => by
    have := sum_W n f p
    rw [W_cons, ← this]
    simp only [Sf13.sum, List.zip_cons_cons, List.map_cons, List.sum_cons]
    split <;> simp
theorem out_W (n : Abs) (f : List Int) (v : Nat) : out n f v = W n f (ind v) := by
  unfold out
  rw [sum_W, sum_W]
  have e : W n f (ind v) = W n f (fun a => (if (a.source == v) = true then 1 else 0) + (-1) * (if (a.target == v) = true then 1 else 0)) := by
    apply W_congr; intro a _; simp only [ind, beq_iff_eq]; grind
  rw [e, W_add, W_mul]; grind
theorem cost_W (n : Abs) (f : List Int) : cost n f = W n f Arc.cost := rfl
theorem range_pick (p : Nat → Int) (k : Nat) : ∀ N, ((List.range N).map fun v => if k = v then p v else 0).sum = if k < N then p k else 0
  | 0 => by simp
  | N + 1 => by
    rw [List.range_succ, List.map_append, List.sum_append, range_pick p k N]
    simp
    grind
theorem sum_map_sub (l : List Nat) (g h : Nat → Int) : (l.map fun v => g v - h v).sum = (l.map g).sum - (l.map h).sum := by
  induction l with
  | nil => simp
  | cons a l ih => simp only [List.map_cons, List.sum_cons, ih]; omega
noncomputable def Ends (n : Abs) : Prop := ∀ a, a ∈ n → a.source < NODES ∧ a.target < NODES
theorem phi_out (n : Abs) (f : List Int) (h : Ends n) (p : Nat → Int) : W n f (fun a => p a.source - p a.target) = ((List.range NODES).map fun v => p v * out n f v).sum := by
  have e : W n f (fun a => p a.source - p a.target) = W n f (fun a => ((List.range NODES).map fun v => p v * ind v a).sum) := by
    apply W_congr
    intro a ha
    obtain ⟨h1, h2⟩ := h a ha
    have e1 : ((List.range NODES).map fun v => p v * ind v a) = ((List.range NODES).map fun v => (if a.source = v then p v else 0) - (if a.target = v then p v else 0)) := by
      apply List.map_congr_left
      intro v _
      simp only [ind]; split <;> split <;> grind
    rw [e1, sum_map_sub, range_pick, range_pick]; simp [h1, h2]
  rw [e, W_sums]
  congr 1
  apply List.map_congr_left
  intro v _
  rw [W_mul, out_W]
theorem range_two (g : Nat → Int) (s t : Nat) (hst : s ≠ t) : ∀ N, (∀ v, v < N → v ≠ s → v ≠ t → g v = 0) → ((List.range N).map g).sum = (if s < N then g s else 0) + (if t < N then g t else 0)
  | 0, _ => by simp
  | N + 1, h => by
    rw [List.range_succ, List.map_append, List.sum_append, range_two g s t hst N (fun v hv => h v (by omega))]
    have e : ∀ u, u ≠ N → (if u < N + 1 then g u else 0) = if u < N then g u else 0 := by
      intro u hu
      by_cases h1 : u < N
      · rw [if_pos h1, if_pos (Nat.lt_succ_of_lt h1)]
      · rw [if_neg h1, if_neg (fun z => h1 (Nat.lt_of_le_of_ne (Nat.le_of_lt_succ z) hu))]
    simp only [List.map_cons, List.map_nil, List.sum_cons, List.sum_nil]
    by_cases h1 : N = s
    · subst h1
      rw [e t (fun z => hst z.symm), if_neg (Nat.lt_irrefl N), if_pos (Nat.lt_succ_self N)]; omega
    · by_cases h2 : N = t
      · subst h2
        rw [e s hst, if_neg (Nat.lt_irrefl N), if_pos (Nat.lt_succ_self N)]; omega
      · rw [e s (fun z => h1 z.symm), e t (fun z => h2 z.symm), h N (Nat.lt_succ_self N) h1 h2]; omega
theorem flow_phi (n : Abs) (f : List Int) (s t : Nat) (h : Ends n) (hs : s < NODES) (ht : t < NODES) (hst : s ≠ t)
    (hf : ∀ v, v ≠ s → v ≠ t → out n f v = 0) (p : Nat → Int) : W n f (fun a => p a.source - p a.target) = (p s - p t) * out n f s := by
  have key : ∀ p : Nat → Int, W n f (fun a => p a.source - p a.target) = p s * out n f s + p t * out n f t := by
    intro p
    rw [phi_out n f h p, range_two _ s t hst]
    · simp [hs, ht]
    · intro v _ h1 h2; simp [hf v h1 h2]
  have k1 := key (fun _ => 1)
  have k2 := key p
  have z : W n f (fun a => (fun _ => (1:Int)) a.source - (fun _ => (1:Int)) a.target) = 0 := by
    rw [← W_zero n f]; apply W_congr; intro a _; simp
  rw [z] at k1
  rw [k2]
  have : out n f t = - out n f s := by omega
  rw [this]; grind
theorem W_le : ∀ (n : Abs) (f g : List Int) (w : Arc → Int), f.length = n.length → g.length = n.length →
    (∀ (i : Nat) (a : Arc) (x y : Int), n[i]? = some a → f[i]? = some x → g[i]? = some y → w a * x ≤ w a * y) → W n f w ≤ W n g w
  | [], f, g, w, _, _, _ => by simp [W_nil]
  | a :: n, [], g, w, h, _, _ => by simp at h
  | a :: n, x :: f, [], w, _, h, _ => by simp at h
  | a :: n, x :: f, y :: g, w, h1, h2, h => by
    rw [W_cons, W_cons]
    have i0 := h 0 a x y (by simp) (by simp) (by simp)
    have ir := W_le n f g w (by simpa using h1) (by simpa using h2) (fun i b u v hb hu hv => h (i+1) b u v (by simpa using hb) (by simpa using hu) (by simpa using hv))
    omega
end NF
end
section
namespace NF
open Sf13
noncomputable def Along (n : Abs) (y : Way) : Prop := ∃ a, n[y.arc]? = some a ∧ ((y.forth = true ∧ y.here = a.source ∧ y.there = a.target ∧ y.cost = a.cost) ∨ (y.forth = false ∧ y.here = a.target ∧ y.there = a.source ∧ y.cost = -a.cost))
noncomputable def IsWay (n : Abs) (f : List Int) (y : Way) : Prop := ∃ a x, n[y.arc]? = some a ∧ f[y.arc]? = some x ∧
  ((y.forth = true ∧ y.here = a.source ∧ y.there = a.target ∧ y.cost = a.cost ∧ x < a.room ∧ y.room = a.room - x) ∨ (y.forth = false ∧ y.here = a.target ∧ y.there = a.source ∧ y.cost = -a.cost ∧ 0 < x ∧ y.room = x))
theorem zip_get (n : Abs) (f : List Int) (i : Nat) (a : Arc) (x : Int) : (n.zip f)[i]? = some (a, x) ↔ n[i]? = some a ∧ f[i]? = some x := by
  rw [List.getElem?_zip_eq_some]
theorem mem_waysOn (n : Abs) (f : List Int) (y : Way) : y ∈ waysOn n f ↔ IsWay n f y := by
  unfold waysOn IsWay
  simp only [List.mem_flatMap, Prod.exists]
  constructor
  · rintro ⟨a, x, i, hm, hy⟩
    rw [List.mem_zipIdx_iff_getElem?] at hm
    rw [zip_get] at hm
    rw [List.mem_append] at hy
    rcases hy with hy | hy
    · split at hy
      · simp at hy; subst hy
        exact ⟨a, x, hm.1, hm.2, Or.inl ⟨rfl, rfl, rfl, rfl, by assumption, rfl⟩⟩
      · simp at hy
    · split at hy
      · simp at hy; subst hy
        exact ⟨a, x, hm.1, hm.2, Or.inr ⟨rfl, rfl, rfl, rfl, by assumption, rfl⟩⟩
      · simp at hy
  · rintro ⟨a, x, h1, h2, h⟩
    refine ⟨a, x, y.arc, ?_, ?_⟩
    · rw [List.mem_zipIdx_iff_getElem?, zip_get]; exact ⟨h1, h2⟩
    · rw [List.mem_append]
      cases y with
      | mk arc forth here there room cost =>
        simp only at h
        rcases h with ⟨g1, g2, g3, g4, g5, g6⟩ | ⟨g1, g2, g3, g4, g5, g6⟩
        · left; subst g1 g2 g3 g4 g6; simp [g5]
        · right; subst g1 g2 g3 g4 g6; simp [g5]
theorem IsWay.along {n : Abs} {f : List Int} {y : Way} (h : IsWay n f y) : Along n y := by
  obtain ⟨a, x, h1, h2, h3⟩ := h
  refine ⟨a, h1, ?_⟩
  rcases h3 with h | h
  · left; exact ⟨h.1, h.2.1, h.2.2.1, h.2.2.2.1⟩
  · right; exact ⟨h.1, h.2.1, h.2.2.1, h.2.2.2.1⟩
theorem IsWay.room_pos {n : Abs} {f : List Int} {y : Way} (h : IsWay n f y) : 0 < y.room := by
  obtain ⟨a, x, h1, h2, h3⟩ := h
  rcases h3 with h | h <;> omega
theorem mem_of_get {n : Abs} {i : Nat} {a : Arc} (h : n[i]? = some a) : a ∈ n := List.mem_of_getElem? h
theorem Along.ends {n : Abs} {y : Way} (h : Along n y) (e : Ends n) : y.here < NODES ∧ y.there < NODES := by
  obtain ⟨a, h1, h2⟩ := h
  have := e a (mem_of_get h1)
  rcases h2 with h | h
  · rw [h.2.1, h.2.2.1]; exact this
  · rw [h.2.1, h.2.2.1]; exact ⟨this.2, this.1⟩
noncomputable def NoLoop (n : Abs) : Prop := ∀ a, a ∈ n → a.source ≠ a.target
theorem Along.ne {n : Abs} {y : Way} (h : Along n y) (e : NoLoop n) : y.here ≠ y.there := by
  obtain ⟨a, h1, h2⟩ := h
  have := e a (mem_of_get h1)
  rcases h2 with h | h
  · rw [h.2.1, h.2.2.1]; exact this
  · rw [h.2.1, h.2.2.1]; exact fun e => this e.symm
noncomputable def sg (y : Way) : Int := if y.forth = true then 1 else -1
noncomputable def along (n : Abs) (w : Arc → Int) (p : List Way) : Int := (p.map fun y => sg y * (match n[y.arc]? with | some a => w a | none => 0)).sum
theorem moved_nil (f : List Int) (d : Int) : moved f [] d = f := rfl
theorem moved_cons (f : List Int) (y : Way) (p : List Way) (d : Int) : moved f (y :: p) d = moved (f.set y.arc (f.getD y.arc 0 + (if y.forth = true then d else -d))) p d := rfl
theorem moved_length : ∀ (p : List Way) (f : List Int) (d : Int), (moved f p d).length = f.length
  | [], f, d => rfl
  | y :: p, f, d => by rw [moved_cons, moved_length p]; simp
theorem moved_W (n : Abs) (w : Arc → Int) (d : Int) : ∀ (p : List Way) (f : List Int), f.length = n.length → (∀ y, y ∈ p → Along n y) → W n (moved f p d) w = W n f w + d * along n w p
  | [], f, _, _ => by simp [moved_nil, along]
  | y :: p, f, hl, h => by
    obtain ⟨a, ha, _⟩ := h y (by simp)
    have hi : y.arc < n.length := by
      rcases Nat.lt_or_ge y.arc n.length with h | h
      · exact h
      · rw [List.getElem?_eq_none h] at ha; cases ha
    rw [moved_cons, moved_W n w d p _ (by simpa using hl) (fun z hz => h z (by simp [hz]))]
    rw [W_set n f y.arc a _ w ha (by omega)]
    simp only [along, List.map_cons, List.sum_cons, ha, sg]
    split <;> grind
noncomputable def Chain (q : Way → Prop) (s : Nat) : List Way → Nat → Prop
  | [], v => v = s
  | y :: p, v => q y ∧ y.there = v ∧ Chain q s p y.here
theorem Chain.all {q : Way → Prop} {s : Nat} : ∀ {p : List Way} {v : Nat}, Chain q s p v → ∀ y, y ∈ p → q y
  | [], v, _, y, hy => by simp at hy
  | z :: p, v, h, y, hy => by
    rcases List.mem_cons.1 hy with e | e
    · subst e; exact h.1
    · exact Chain.all h.2.2 y e
theorem along_phi (n : Abs) (p : Nat → Int) (s : Nat) {q : Way → Prop} (hq : ∀ y, q y → Along n y) : ∀ (l : List Way) (v : Nat), Chain q s l v → along n (fun a => p a.source - p a.target) l = p s - p v
  | [], v, h => by simp [Chain] at h; simp [along, h]
  | y :: l, v, h => by
    have ih := along_phi n p s hq l y.here h.2.2
    obtain ⟨a, ha, h2⟩ := hq y h.1
    have hv := h.2.1
    simp only [along, List.map_cons, List.sum_cons, ha, sg] at ih ⊢
    rw [ih]
    rcases h2 with h2 | h2
    · rw [h2.1]; rw [← hv, h2.2.1, h2.2.2.1]; simp; grind
    · rw [h2.1]; rw [← hv, h2.2.1, h2.2.2.1]; simp; grind
theorem along_cost (n : Abs) {q : Way → Prop} (hq : ∀ y, q y → Along n y) : ∀ (l : List Way), (∀ y, y ∈ l → q y) → along n Arc.cost l = (l.map Way.cost).sum
  | [], h => by simp [along]
  | y :: l, h => by
    have ih := along_cost n hq l (fun z hz => h z (by simp [hz]))
    obtain ⟨a, ha, h2⟩ := hq y (h y (by simp))
    simp only [along, List.map_cons, List.sum_cons, ha, sg] at ih ⊢
    rw [ih]
    rcases h2 with h2 | h2
    · rw [h2.1, h2.2.2.2]; simp
    · rw [h2.1, h2.2.2.2]; simp
theorem moved_out (n : Abs) (d : Int) (s v x : Nat) (p : List Way) (f : List Int) (hl : f.length = n.length) {q : Way → Prop} (hq : ∀ y, q y → Along n y)
    (hp : Chain q s p v) : out n (moved f p d) x = out n f x + d * ((if s = x then 1 else 0) - (if v = x then 1 else 0)) := by
  rw [out_W, out_W, moved_W n _ d p f hl (fun y hy => hq y (hp.all y hy))]
  have e := along_phi n (fun u => if u = x then 1 else 0) s hq p v hp
  have : ind x = (fun a => (fun u => if u = x then (1:Int) else 0) a.source - (fun u => if u = x then (1:Int) else 0) a.target) := by
    funext a; simp [ind]
  rw [this, e]
noncomputable def Apart (p : List Way) : Prop := p.Pairwise (fun y z => y.arc ≠ z.arc)
theorem moved_other (d : Int) (i : Nat) : ∀ (p : List Way) (f : List Int), (∀ y, y ∈ p → y.arc ≠ i) → (moved f p d)[i]? = f[i]?
  | [], f, _ => rfl
  | y :: p, f, h => by
    rw [moved_cons, moved_other d i p _ (fun z hz => h z (by simp [hz]))]
    rw [List.getElem?_set_ne (h y (by simp))]
theorem moved_at (d : Int) : ∀ (p : List Way) (f : List Int), Apart p → (∀ y, y ∈ p → y.arc < f.length) → ∀ y, y ∈ p → (moved f p d)[y.arc]? = some (f.getD y.arc 0 + (if y.forth = true then d else -d))
  | [], f, _, _, y, hy => by simp at hy
  | z :: p, f, ha, hb, y, hy => by
    rw [moved_cons]
    have ha' := List.pairwise_cons.1 ha
    rcases List.mem_cons.1 hy with e | e
    · subst e
      rw [moved_other d y.arc p _ (fun u hu => fun e => ha'.1 u hu e.symm)]
      rw [List.getElem?_set_self (hb y (by simp))]
    · rw [moved_at d p _ ha'.2 (fun u hu => by simpa using hb u (by simp [hu])) y e]
      have hne : z.arc ≠ y.arc := ha'.1 y e
      simp [List.getD, List.getElem?_set_ne hne]
noncomputable def Fits (n : Abs) (f : List Int) : Prop := f.length = n.length ∧ ∀ (i : Nat) (a : Arc) (x : Int), n[i]? = some a → f[i]? = some x → 0 ≤ x ∧ x ≤ a.room
theorem lt_of_get {α : Type} {l : List α} {i : Nat} {a : α} (h : l[i]? = some a) : i < l.length := by
  rcases Nat.lt_or_ge i l.length with h1 | h1
  · exact h1
  · rw [List.getElem?_eq_none h1] at h; cases h
theorem IsWay.lt {n : Abs} {f : List Int} {y : Way} (h : IsWay n f y) : y.arc < f.length := by
  obtain ⟨a, x, h1, h2, h3⟩ := h
  exact lt_of_get h2
theorem moved_cases {n : Abs} {f : List Int} {p : List Way} (hw : ∀ y, y ∈ p → IsWay n f y) (ha : Apart p) (d : Int) (i : Nat) (x : Int) (h : (moved f p d)[i]? = some x) :
    (f[i]? = some x ∧ ∀ y, y ∈ p → y.arc ≠ i) ∨ ∃ y x0, y ∈ p ∧ y.arc = i ∧ f[i]? = some x0 ∧ x = x0 + (if y.forth = true then d else -d) := by
  by_cases hc : ∃ y, y ∈ p ∧ y.arc = i
  · right
    obtain ⟨y, hy, e⟩ := hc
    have h1 := moved_at d p f ha (fun z hz => (hw z hz).lt) y hy
    obtain ⟨a, x0, h2, h3, _⟩ := hw y hy
    rw [e] at h1 h3
    refine ⟨y, x0, hy, e, h3, ?_⟩
    rw [h] at h1
    simp [List.getD, h3] at h1
    exact h1
  · left
    have : ∀ y, y ∈ p → y.arc ≠ i := fun y hy e => hc ⟨y, hy, e⟩
    rw [moved_other d i p f this] at h
    exact ⟨h, this⟩
theorem moved_fits {n : Abs} {f : List Int} {p : List Way} {d : Int} (hf : Fits n f) (hw : ∀ y, y ∈ p → IsWay n f y) (ha : Apart p) (hd : 0 ≤ d) (hr : ∀ y, y ∈ p → d ≤ y.room) :
    Fits n (moved f p d) := by
  refine ⟨by rw [moved_length, hf.1], ?_⟩
  intro i a x h1 h2
  rcases moved_cases hw ha d i x h2 with ⟨h, _⟩ | ⟨y, x0, hy, e, h3, h4⟩
  · exact hf.2 i a x h1 h
  · obtain ⟨a', x', g1, g2, g3⟩ := hw y hy
    have hr := hr y hy
    rw [e] at g1 g2
    rw [h1] at g1; cases g1
    rw [h3] at g2; cases g2
    have := hf.2 i a x0 h1 h3
    rcases g3 with g | g
    · rw [g.1] at h4; simp at h4; omega
    · rw [g.1] at h4; simp at h4; omega
theorem moved_ways {n : Abs} {f : List Int} {p : List Way} {d : Int} (hw : ∀ y, y ∈ p → IsWay n f y) (ha : Apart p) (hd : 0 ≤ d)
    {z : Way} (hz : IsWay n (moved f p d) z) : (∃ z', IsWay n f z' ∧ z'.arc = z.arc ∧ z'.forth = z.forth ∧ z'.here = z.here ∧ z'.there = z.there) ∨ ∃ y, y ∈ p ∧ y.arc = z.arc ∧ z.forth = !y.forth ∧ z.here = y.there ∧ z.there = y.here := by
  obtain ⟨a, x, h1, h2, h3⟩ := hz
  rcases moved_cases hw ha d z.arc x h2 with ⟨h, _⟩ | ⟨y, x0, hy, e, h5, h4⟩
  · left
    exact ⟨z, ⟨a, x, h1, h, h3⟩, rfl, rfl, rfl, rfl⟩
  · obtain ⟨a', x', g1, g2, g3⟩ := hw y hy
    rw [e] at g1 g2
    rw [h1] at g1; cases g1
    rw [h5] at g2; cases g2
    rcases g3 with g | g
    · rw [g.1] at h4; simp at h4
      rcases h3 with h3 | h3
      · left
        exact ⟨⟨z.arc, true, a.source, a.target, a.room - x0, a.cost⟩, ⟨a, x0, h1, h5, Or.inl ⟨rfl, rfl, rfl, rfl, by omega, rfl⟩⟩, rfl, h3.1.symm, h3.2.1.symm, h3.2.2.1.symm⟩
      · right
        exact ⟨y, hy, e, by rw [h3.1, g.1]; rfl, by rw [h3.2.1, g.2.2.1], by rw [h3.2.2.1, g.2.1]⟩
    · rw [g.1] at h4; simp at h4
      rcases h3 with h3 | h3
      · right
        exact ⟨y, hy, e, by rw [h3.1, g.1]; rfl, by rw [h3.2.1, g.2.2.1], by rw [h3.2.2.1, g.2.1]⟩
      · left
        exact ⟨⟨z.arc, false, a.target, a.source, x0, -a.cost⟩, ⟨a, x0, h1, h5, Or.inr ⟨rfl, rfl, rfl, rfl, by omega, rfl⟩⟩, rfl, h3.1.symm, h3.2.1.symm, h3.2.2.1.symm⟩
theorem leastRoom_le (p : List Way) : ∀ d, leastRoom p d ≤ d ∧ ∀ y, y ∈ p → leastRoom p d ≤ y.room := by
  induction p with
  | nil => intro d; simp [leastRoom]
  | cons y p ih =>
    intro d
    have := ih (min d y.room)
    have e : leastRoom (y :: p) d = leastRoom p (min d y.room) := rfl
    rw [e]
    refine ⟨by omega, ?_⟩
    intro z hz
    rcases List.mem_cons.1 hz with h | h
    · subst h; omega
    · exact this.2 z h
theorem leastRoom_cases (p : List Way) : ∀ d, leastRoom p d = d ∨ ∃ y, y ∈ p ∧ leastRoom p d = y.room := by
  induction p with
  | nil => intro d; simp [leastRoom]
  | cons y p ih =>
    intro d
    have e : leastRoom (y :: p) d = leastRoom p (min d y.room) := rfl
    rw [e]
    rcases ih (min d y.room) with h | ⟨z, hz, h⟩
    · rcases Int.le_total d y.room with h1 | h1
      · left; omega
      · right; exact ⟨y, by simp, by omega⟩
    · right; exact ⟨z, by simp [hz], h⟩
end NF
end
section
namespace NF
open Sf13
theorem nodup_bound : ∀ (N : Nat) (l : List Nat), l.Nodup → (∀ x, x ∈ l → x < N) → l.length ≤ N
  | 0, [], _, _ => by simp
  | 0, x :: l, _, h => by have := h x (by simp); omega
  | N + 1, l, hn, h => by
    have h1 := nodup_bound N (l.erase N) (hn.erase N) (fun x hx => by
      have h2 := (hn.mem_erase_iff).1 hx
      have := h x h2.2
      have := h2.1
      omega)
    by_cases hm : N ∈ l
    · rw [List.length_erase_of_mem hm] at h1; omega
    · rw [List.erase_of_not_mem hm] at h1; omega
noncomputable def turn (l r : Come) (y : Way) : Come := if (r.any fun (x : Nat × List Way) => x.1 == y.there) = true then r else match l.find? fun (x : Nat × List Way) => x.1 == y.here with
      | some x => r ++ [(y.there, y :: x.2)]
      | none => r
theorem spread_succ (w : List Way) (k : Nat) (l : Come) : spread w (k + 1) l = if (w.foldl (turn l) l).length = l.length then l else spread w k (w.foldl (turn l) l) := rfl
noncomputable def Has (l : Come) (v : Nat) : Prop := ∃ p, (v, p) ∈ l
theorem any_has (l : Come) (v : Nat) : (l.any fun (x : Nat × List Way) => x.1 == v) = true ↔ Has l v := by
  simp [Has, List.any_eq_true]
theorem find_has (l : Come) (v : Nat) : (∃ p, l.find? (fun (x : Nat × List Way) => x.1 == v) = some (v, p) ∧ (v, p) ∈ l) ∨ (l.find? (fun (x : Nat × List Way) => x.1 == v) = none ∧ ¬ Has l v) := by
  cases h : l.find? (fun (x : Nat × List Way) => x.1 == v) with
  | none =>
    right
    refine ⟨rfl, ?_⟩
    rintro ⟨p, hp⟩
    have := List.find?_eq_none.1 h (v, p) hp
    simp at this
  | some x =>
    left
    have h1 := List.find?_some h
    have h2 := List.mem_of_find?_eq_some h
    obtain ⟨u, p⟩ := x
    simp at h1
    subst h1
    exact ⟨p, rfl, h2⟩
structure Round (w : List Way) (l r : Come) : Prop where
  keep : ∃ e, r = l ++ e
  nodup : (r.map Prod.fst).Nodup
  from_l : ∀ v p, (v, p) ∈ r → (v, p) ∈ l ∨ ∃ y q, y ∈ w ∧ (y.here, q) ∈ l ∧ v = y.there ∧ p = y :: q ∧ ¬ Has l y.there
  all : ∀ y, y ∈ w → Has l y.here → Has r y.there
theorem round_ok (l : Come) (hn : (l.map Prod.fst).Nodup) (w : List Way) : ∀ (u : List Way) (d : List Way) (r : Come), (∀ y, y ∈ u → y ∈ w) → (∀ y, y ∈ d → y ∈ w) →
    (∃ e, r = l ++ e) → (r.map Prod.fst).Nodup → (∀ v p, (v, p) ∈ r → (v, p) ∈ l ∨ ∃ y q, y ∈ w ∧ (y.here, q) ∈ l ∧ v = y.there ∧ p = y :: q ∧ ¬ Has l y.there) →
    (∀ y, y ∈ d → Has l y.here → Has r y.there) → Round (d ++ u) l (u.foldl (turn l) r) ∨ True → 
    (let r' := u.foldl (turn l) r; (∃ e, r' = l ++ e) ∧ (r'.map Prod.fst).Nodup ∧ (∀ v p, (v, p) ∈ r' → (v, p) ∈ l ∨ ∃ y q, y ∈ w ∧ (y.here, q) ∈ l ∧ v = y.there ∧ p = y :: q ∧ ¬ Has l y.there) ∧
    (∀ y, y ∈ d ++ u → Has l y.here → Has r' y.there))
  | [], d, r, _, _, h1, h2, h3, h4, _ => by
    rw [List.append_nil]
    exact ⟨h1, h2, h3, h4⟩
  | y :: u, d, r, hu, hd, h1, h2, h3, h4, _ => by
    have key : (∃ e, turn l r y = l ++ e) ∧ ((turn l r y).map Prod.fst).Nodup ∧ (∀ v p, (v, p) ∈ turn l r y → (v, p) ∈ l ∨ ∃ y q, y ∈ w ∧ (y.here, q) ∈ l ∧ v = y.there ∧ p = y :: q ∧ ¬ Has l y.there) ∧
       (∀ z, z ∈ d ++ [y] → Has l z.here → Has (turn l r y) z.there) := by
      unfold turn
      by_cases ha : Has r y.there
      · rw [if_pos ((any_has r y.there).2 ha)]
        refine ⟨h1, h2, h3, ?_⟩
        intro z hz hh
        rcases List.mem_append.1 hz with hz | hz
        · exact h4 z hz hh
        · simp at hz; subst hz; exact ha
      · rw [if_neg (fun h => ha ((any_has r y.there).1 h))]
        rcases find_has l y.here with ⟨q, hq, hm⟩ | ⟨hq, hm⟩
        · rw [hq]
          dsimp only
          obtain ⟨e, he⟩ := h1
          refine ⟨⟨e ++ [(y.there, y :: q)], by rw [he, List.append_assoc]⟩, ?_, ?_, ?_⟩
          · rw [List.map_append, List.nodup_append]
            refine ⟨h2, by simp, ?_⟩
            intro a ha' b hb e
            simp at hb
            subst hb; subst e
            rw [List.mem_map] at ha'
            obtain ⟨⟨a1, a2⟩, ha1, ha2⟩ := ha'
            simp at ha2; subst ha2
            exact ha ⟨_, ha1⟩
          · intro v p hvp
            rcases List.mem_append.1 hvp with h | h
            · exact h3 v p h
            · simp at h
              right
              refine ⟨y, q, hu y (by simp), hm, h.1, h.2, ?_⟩
              rintro ⟨p', hp'⟩
              exact ha ⟨p', by rw [he]; simp [hp']⟩
          · intro z hz hh
            rcases List.mem_append.1 hz with hz | hz
            · obtain ⟨p, hp⟩ := h4 z hz hh
              exact ⟨p, by simp [hp]⟩
            · simp at hz; subst hz
              exact ⟨z :: q, by simp⟩
        · rw [hq]
          dsimp only
          refine ⟨h1, h2, h3, ?_⟩
          intro z hz hh
          rcases List.mem_append.1 hz with hz | hz
          · exact h4 z hz hh
          · simp at hz; subst hz; exact absurd hh hm
    obtain ⟨k1, k2, k3, k4⟩ := key
    have := round_ok l hn w u (d ++ [y]) (turn l r y) (fun z hz => hu z (by simp [hz])) (fun z hz => by
      rcases List.mem_append.1 hz with h | h
      · exact hd z h
      · simp at h; subst h; exact hu z (by simp)) k1 k2 k3 k4 (Or.inr trivial)
    simp only [List.append_assoc, List.singleton_append] at this
    rw [List.foldl_cons]
    exact this
theorem round_all (l : Come) (hn : (l.map Prod.fst).Nodup) (w : List Way) : Round w l (w.foldl (turn l) l) := by
  have := round_ok l hn w w [] l (fun _ h => h) (by simp) ⟨[], by simp⟩ hn (fun v p h => Or.inl h) (by simp) (Or.inr trivial)
  simp only [List.nil_append] at this
  exact ⟨this.1, this.2.1, this.2.2.1, this.2.2.2⟩
structure Bfs (w : List Way) (s j : Nat) (l : Come) : Prop where
  nodup : (l.map Prod.fst).Nodup
  start : (s, []) ∈ l
  last : ∀ v p, (v, p) ∈ l → (p = [] ∧ v = s) ∨ ∃ y q, p = y :: q ∧ y ∈ w ∧ y.there = v ∧ (y.here, q) ∈ l
  short : ∀ v p, (v, p) ∈ l → p.length ≤ j
  on : ∀ v p, (v, p) ∈ l → p.length < j → ∀ y, y ∈ w → y.here = v → ∃ q, (y.there, q) ∈ l ∧ q.length ≤ p.length + 1
theorem Bfs.unique {w : List Way} {s j : Nat} {l : Come} (h : Bfs w s j l) {v : Nat} {p q : List Way} (hp : (v, p) ∈ l) (hq : (v, q) ∈ l) : p = q := by
  have hn := h.nodup
  clear h
  induction l with
  | nil => simp at hp
  | cons e l ih =>
    obtain ⟨u, r⟩ := e
    rw [List.map_cons, List.nodup_cons] at hn
    rcases List.mem_cons.1 hp with h1 | h1 <;> rcases List.mem_cons.1 hq with h2 | h2
    · simp at h1 h2; rw [h1.2, h2.2]
    · simp at h1
      exact absurd (List.mem_map.2 ⟨(v, q), h2, by simp [h1.1]⟩) hn.1
    · simp at h2
      exact absurd (List.mem_map.2 ⟨(v, p), h1, by simp [h2.1]⟩) hn.1
    · exact ih h1 h2 hn.2
theorem Bfs.next {w : List Way} {s j : Nat} {l r : Come} (h : Bfs w s j l) (hr : Round w l r) : Bfs w s (j + 1) r := by
  obtain ⟨e, he⟩ := hr.keep
  have hl : ∀ v p, (v, p) ∈ l → (v, p) ∈ r := by intro v p h; rw [he]; simp [h]
  refine ⟨hr.nodup, hl _ _ h.start, ?_, ?_, ?_⟩
  · intro v p hv
    rcases hr.from_l v p hv with h1 | ⟨y, q, h1, h2, h3, h4, h5⟩
    · rcases h.last v p h1 with h2 | ⟨y, q, h2, h3, h4, h5⟩
      · exact Or.inl h2
      · exact Or.inr ⟨y, q, h2, h3, h4, hl _ _ h5⟩
    · exact Or.inr ⟨y, q, h4, h1, h3.symm, hl _ _ h2⟩
  · intro v p hv
    rcases hr.from_l v p hv with h1 | ⟨y, q, h1, h2, h3, h4, h5⟩
    · have := h.short v p h1; omega
    · have := h.short _ _ h2
      rw [h4]; simp; omega
  · intro v p hv hlt y hy hh
    have short' : ∀ v p, (v, p) ∈ r → p.length ≤ j + 1 := by
      intro v p hv
      rcases hr.from_l v p hv with h1 | ⟨y, q, h1, h2, h3, h4, h5⟩
      · have := h.short v p h1; omega
      · have := h.short _ _ h2
        rw [h4]; simp; omega
    rcases hr.from_l v p hv with h1 | ⟨z, q, h1, h2, h3, h4, h5⟩
    · by_cases hj : p.length < j
      · obtain ⟨q, hq, hq2⟩ := h.on v p h1 hj y hy hh
        exact ⟨q, hl _ _ hq, hq2⟩
      · obtain ⟨q, hq⟩ := hr.all y hy (by rw [hh]; exact ⟨p, h1⟩)
        have := short' _ _ hq
        have := h.short _ _ h1
        exact ⟨q, hq, by omega⟩
    · exfalso
      have hs := h.short _ _ h2
      by_cases hj : q.length < j
      · obtain ⟨q', hq', _⟩ := h.on _ _ h2 hj z h1 rfl
        exact h5 ⟨q', hq'⟩
      · rw [h4] at hlt; simp at hlt; omega
structure Reach (w : List Way) (s : Nat) (l : Come) : Prop where
  nodup : (l.map Prod.fst).Nodup
  start : (s, []) ∈ l
  last : ∀ v p, (v, p) ∈ l → (p = [] ∧ v = s) ∨ ∃ y q, p = y :: q ∧ y ∈ w ∧ y.there = v ∧ (y.here, q) ∈ l
  short : ∀ v p, (v, p) ∈ l → p.length ≤ 64
  on : ∀ v p, (v, p) ∈ l → ∀ y, y ∈ w → y.here = v → ∃ q, (y.there, q) ∈ l ∧ q.length ≤ p.length + 1
  unique : ∀ v p q, (v, p) ∈ l → (v, q) ∈ l → p = q
  small : ∀ v p, (v, p) ∈ l → v < 64
theorem Bfs.small {w : List Way} {s j : Nat} {l : Come} (h : Bfs w s j l) (hs : s < 64) (hw : ∀ y, y ∈ w → y.there < 64) : ∀ v p, (v, p) ∈ l → v < 64 := by
  intro v p hv
  rcases h.last v p hv with h1 | ⟨y, q, h1, h2, h3, h4⟩
  · rw [h1.2]; exact hs
  · rw [← h3]; exact hw y h2
theorem spread_reach (w : List Way) (s : Nat) (hs : s < 64) (hw : ∀ y, y ∈ w → y.there < 64) : ∀ (k j : Nat) (l : Come), Bfs w s j l → 65 ≤ l.length + k → j + k ≤ 64 → Reach w s (spread w k l)
  | 0, j, l, h, hk, _ => by
    have := nodup_bound 64 _ h.nodup (fun x hx => by
      obtain ⟨⟨v, p⟩, h1, h2⟩ := List.mem_map.1 hx
      simp at h2; subst h2
      exact h.small hs hw _ _ h1)
    simp at this; omega
  | k + 1, j, l, h, hk, hj => by
    rw [spread_succ]
    have hr := round_all l h.nodup w
    split
    · rename_i he
      obtain ⟨e, hre⟩ := hr.keep
      have : e = [] := by
        rw [hre] at he; simp at he; exact he
      rw [this, List.append_nil] at hre
      rw [hre] at hr
      refine ⟨h.nodup, h.start, h.last, fun v p hv => by have := h.short v p hv; omega, ?_, fun v p q hp hq => h.unique hp hq, h.small hs hw⟩
      intro v p hv y hy hh
      by_cases hp : p.length < j
      · exact h.on v p hv hp y hy hh
      · obtain ⟨q, hq⟩ := hr.all y hy (by rw [hh]; exact ⟨p, hv⟩)
        have := h.short _ _ hq
        exact ⟨q, hq, by omega⟩
    · rename_i he
      obtain ⟨e, hre⟩ := hr.keep
      refine spread_reach w s hs hw k (j + 1) _ (h.next hr) ?_ (by omega)
      rw [hre] at he ⊢
      simp at he ⊢
      have : e.length ≠ 0 := by
        intro h0; exact he (List.length_eq_zero_iff.1 h0)
      omega
theorem reached_reach (n : Abs) (f : List Int) (s : Nat) (hs : s < 64) (he : Ends n) : Reach (waysOn n f) s (reached n f s) := by
  refine spread_reach _ s hs ?_ 64 0 _ ?_ (by simp) (by omega)
  · intro y hy
    exact (((mem_waysOn n f y).1 hy).along.ends he).2
  · refine ⟨by simp, by simp, ?_, ?_, ?_⟩
    · intro v p h; simp at h; left; exact ⟨h.2, h.1⟩
    · intro v p h; simp at h; simp [h.2]
    · intro v p h hl; simp at h hl
theorem Reach.chain {w : List Way} {s : Nat} {l : Come} (h : Reach w s l) : ∀ (p : List Way) (v : Nat), (v, p) ∈ l → Chain (fun y => y ∈ w) s p v
  | [], v, hv => by
    rcases h.last v [] hv with h1 | ⟨y, q, h1, _⟩
    · exact h1.2
    · cases h1
  | y :: p, v, hv => by
    rcases h.last v _ hv with h1 | ⟨z, q, h1, h2, h3, h4⟩
    · cases h1.1
    · cases h1
      exact ⟨h2, h3, h.chain p _ h4⟩
end NF
end
section
namespace NF
open Sf13
noncomputable def Lev (n : Abs) (f : List Int) (s : Nat) (lam : Nat → Nat) : Prop := lam s = 0 ∧ ∀ y, IsWay n f y → lam y.there ≤ lam y.here + 1
noncomputable def lev (l : Come) (v : Nat) : Nat := match l.find? (fun (x : Nat × List Way) => x.1 == v) with
  | some x => x.2.length
  | none => 64
theorem lev_mem {w : List Way} {s : Nat} {l : Come} (h : Reach w s l) {v : Nat} {p : List Way} (hv : (v, p) ∈ l) : lev l v = p.length := by
  unfold lev
  rcases find_has l v with ⟨q, hq, hm⟩ | ⟨hq, hm⟩
  · rw [hq]
    rw [h.unique v p q hv hm]
  · exact absurd ⟨p, hv⟩ hm
theorem lev_le {w : List Way} {s : Nat} {l : Come} (h : Reach w s l) (v : Nat) : lev l v ≤ 64 := by
  unfold lev
  rcases find_has l v with ⟨q, hq, hm⟩ | ⟨hq, hm⟩
  · rw [hq]; exact h.short _ _ hm
  · rw [hq]; exact Nat.le_refl 64
theorem lev_lev (n : Abs) (f : List Int) (s : Nat) (hs : s < 64) (he : Ends n) : Lev n f s (lev (reached n f s)) := by
  have h := reached_reach n f s hs he
  refine ⟨by rw [lev_mem h h.start]; rfl, ?_⟩
  intro y hy
  have hm := (mem_waysOn n f y).2 hy
  rcases find_has (reached n f s) y.here with ⟨q, hq, hq2⟩ | ⟨hq, hq2⟩
  · obtain ⟨r, hr, hr2⟩ := h.on _ _ hq2 y hm rfl
    rw [lev_mem h hr, lev_mem h hq2]; exact hr2
  · have := lev_le h y.there
    have : lev (reached n f s) y.here = 64 := by unfold lev; rw [hq]
    omega
theorem Lev.chain {n : Abs} {f : List Int} {s : Nat} {lam : Nat → Nat} (h : Lev n f s lam) : ∀ (p : List Way) (v : Nat), Chain (IsWay n f) s p v → lam v ≤ p.length
  | [], v, hc => by
    simp [Chain] at hc; rw [hc, h.1]; simp
  | y :: p, v, hc => by
    have := h.chain p _ hc.2.2
    have h2 := h.2 y hc.1
    rw [hc.2.1] at h2
    simp; omega
theorem Lev.tight {n : Abs} {f : List Int} {s : Nat} {lam : Nat → Nat} (h : Lev n f s lam) : ∀ (p : List Way) (v : Nat), Chain (IsWay n f) s p v → lam v = p.length → ∀ y, y ∈ p → lam y.there = lam y.here + 1 ∧ lam y.there ≤ lam v
  | [], v, hc, _, y, hy => by simp at hy
  | z :: p, v, hc, hv, y, hy => by
    have h1 := h.chain p _ hc.2.2
    have h2 := h.2 z hc.1
    have h3 := hc.2.1
    rw [← h3] at hv ⊢
    simp at hv
    have e : lam z.here = p.length := by omega
    rcases List.mem_cons.1 hy with h4 | h4
    · subst h4; omega
    · have := h.tight p _ hc.2.2 e y h4
      omega
theorem tight_apart {n : Abs} {f : List Int} {s : Nat} {lam : Nat → Nat} (h : Lev n f s lam) : ∀ (p : List Way) (v : Nat), Chain (IsWay n f) s p v → lam v = p.length → Apart p
  | [], v, hc, _ => List.Pairwise.nil
  | z :: p, v, hc, hv => by
    have h1 := h.chain p _ hc.2.2
    have h2 := h.2 z hc.1
    have h3 := hc.2.1
    rw [← h3] at hv
    simp at hv
    have e : lam z.here = p.length := by omega
    refine List.Pairwise.cons ?_ (tight_apart h p _ hc.2.2 e)
    intro y hy hne
    have t := h.tight p _ hc.2.2 e y hy
    obtain ⟨a, ha, ha2⟩ := (hc.2.2.all y hy).along
    obtain ⟨b, hb, hb2⟩ := hc.1.along
    rw [hne, ha] at hb
    cases hb
    rcases ha2 with g | g <;> rcases hb2 with k | k
    · rw [g.2.2.1] at t; rw [k.2.1, k.2.2.1] at h2; rw [k.2.1] at e; rw [k.2.2.1] at hv; rw [k.2.1, g.2.1] at t; omega
    · rw [g.2.2.1, g.2.1, k.2.1] at t; rw [k.2.1] at e; rw [k.2.2.1] at hv; omega
    · rw [g.2.2.1, g.2.1, k.2.1] at t; rw [k.2.1] at e; rw [k.2.2.1] at hv; omega
    · rw [g.2.2.1, g.2.1, k.2.1] at t; rw [k.2.1] at e; rw [k.2.2.1] at hv; omega
noncomputable def tc (lam : Nat → Nat) (a : Arc) (x : Int) : Nat := (if x < a.room ∧ lam a.target = lam a.source + 1 then 1 else 0) + (if 0 < x ∧ lam a.source = lam a.target + 1 then 1 else 0)
noncomputable def T (lam : Nat → Nat) : Abs → List Int → Nat
  | a :: n, x :: f => tc lam a x + T lam n f
  | _, _ => 0
theorem tc_le (lam : Nat → Nat) (a : Arc) (x : Int) : tc lam a x ≤ 2 := by unfold tc; split <;> split <;> omega
theorem T_le (lam : Nat → Nat) : ∀ (n : Abs) (f : List Int), T lam n f ≤ 2 * n.length
  | [], f => by simp [T]
  | a :: n, [] => by simp [T]
  | a :: n, x :: f => by
    have := T_le lam n f
    have := tc_le lam a x
    simp [T]; omega
theorem T_mono (lam : Nat → Nat) : ∀ (n : Abs) (f g : List Int), f.length = n.length → g.length = n.length → (∀ (i : Nat) (a : Arc) (x y : Int), n[i]? = some a → f[i]? = some x → g[i]? = some y → tc lam a y ≤ tc lam a x) → T lam n g ≤ T lam n f
  | [], f, g, _, _, _ => by simp [T]
  | a :: n, [], g, h, _, _ => by simp at h
  | a :: n, x :: f, [], _, h, _ => by simp at h
  | a :: n, x :: f, y :: g, h1, h2, h => by
    have i0 := h 0 a x y (by simp) (by simp) (by simp)
    have ir := T_mono lam n f g (by simpa using h1) (by simpa using h2) (fun i b u v hb hu hv => h (i+1) b u v (by simpa using hb) (by simpa using hu) (by simpa using hv))
    simp [T]; omega
theorem T_lt (lam : Nat → Nat) : ∀ (n : Abs) (f g : List Int), f.length = n.length → g.length = n.length → (∀ (i : Nat) (a : Arc) (x y : Int), n[i]? = some a → f[i]? = some x → g[i]? = some y → tc lam a y ≤ tc lam a x) →
    ∀ (i : Nat) (a : Arc) (x y : Int), n[i]? = some a → f[i]? = some x → g[i]? = some y → tc lam a y < tc lam a x → T lam n g < T lam n f
  | [], f, g, _, _, _, i, a, x, y, h1, _, _, _ => by simp at h1
  | b :: n, [], g, h, _, _, _, _, _, _, _, _, _, _ => by simp at h
  | b :: n, u :: f, [], _, h, _, _, _, _, _, _, _, _, _ => by simp at h
  | b :: n, u :: f, v :: g, h1, h2, h, 0, a, x, y, g1, g2, g3, g4 => by
    simp at g1 g2 g3; subst g1 g2 g3
    have ir := T_mono lam n f g (by simpa using h1) (by simpa using h2) (fun i b u v hb hu hv => h (i+1) b u v (by simpa using hb) (by simpa using hu) (by simpa using hv))
    simp [T]; omega
  | b :: n, u :: f, v :: g, h1, h2, h, i + 1, a, x, y, g1, g2, g3, g4 => by
    simp at g1 g2 g3
    have i0 := h 0 b u v (by simp) (by simp) (by simp)
    have ir := T_lt lam n f g (by simpa using h1) (by simpa using h2) (fun i b u v hb hu hv => h (i+1) b u v (by simpa using hb) (by simpa using hu) (by simpa using hv)) i a x y g1 g2 g3 g4
    simp [T]; omega
theorem move_lev {n : Abs} {f : List Int} {s : Nat} {lam : Nat → Nat} (h : Lev n f s lam) {p : List Way} {d : Int} (hw : ∀ y, y ∈ p → IsWay n f y) (ha : Apart p) (hd : 0 ≤ d)
    (ht : ∀ y, y ∈ p → lam y.there = lam y.here + 1) : Lev n (moved f p d) s lam := by
  refine ⟨h.1, ?_⟩
  intro z hz
  rcases moved_ways hw ha hd hz with ⟨y, h1, _, _, h2, h3⟩ | ⟨y, h1, _, _, h2, h3⟩
  · rw [← h2, ← h3]; exact h.2 y h1
  · have := ht y h1
    rw [h2, h3]; omega
theorem tc_up {lam : Nat → Nat} {a : Arc} (h : lam a.target = lam a.source + 1) (x : Int) : tc lam a x = if x < a.room then 1 else 0 := by
  unfold tc
  rw [if_neg (c := 0 < x ∧ lam a.source = lam a.target + 1) (fun z => by omega), Nat.add_zero]
  by_cases hx : x < a.room
  · rw [if_pos ⟨hx, h⟩, if_pos hx]
  · rw [if_neg (fun z => hx z.1), if_neg hx]
theorem tc_down {lam : Nat → Nat} {a : Arc} (h : lam a.source = lam a.target + 1) (x : Int) : tc lam a x = if 0 < x then 1 else 0 := by
  unfold tc
  rw [if_neg (c := x < a.room ∧ lam a.target = lam a.source + 1) (fun z => by omega), Nat.zero_add]
  by_cases hx : 0 < x
  · rw [if_pos ⟨hx, h⟩, if_pos hx]
  · rw [if_neg (fun z => hx z.1), if_neg hx]
theorem ite_one (c : Prop) [Decidable c] : (if c then 1 else 0 : Nat) ≤ 1 := by
  split
  · exact Nat.le_refl 1
  · exact Nat.zero_le 1
theorem move_mono {n : Abs} {f : List Int} {lam : Nat → Nat} {p : List Way} {d : Int} (hw : ∀ y, y ∈ p → IsWay n f y) (ha : Apart p) (hd : 0 ≤ d)
    (ht : ∀ y, y ∈ p → lam y.there = lam y.here + 1) : ∀ (i : Nat) (a : Arc) (x y : Int), n[i]? = some a → f[i]? = some x → (moved f p d)[i]? = some y → tc lam a y ≤ tc lam a x := by
  intro i a x x' h1 h2 h3
  rcases moved_cases hw ha d i x' h3 with ⟨h, _⟩ | ⟨y, x0, hy, e, h4, h5⟩
  · rw [h2] at h; cases h; exact Nat.le_refl _
  · rw [h2] at h4; cases h4
    have t := ht y hy
    obtain ⟨a', x0, g1, g2, g3⟩ := hw y hy
    rw [e, h1] at g1; cases g1
    rw [e, h2] at g2; cases g2
    rcases g3 with g | g
    · rw [g.2.1, g.2.2.1] at t
      rw [g.1] at h5; simp at h5
      rw [tc_up t, tc_up t]
      by_cases hx : x < a.room
      · rw [if_pos hx]; exact ite_one _
      · rw [if_neg hx, if_neg (by omega)]; exact Nat.le_refl 0
    · rw [g.2.1, g.2.2.1] at t
      rw [g.1] at h5; simp at h5
      rw [tc_down t, tc_down t]
      by_cases hx : 0 < x
      · rw [if_pos hx]; exact ite_one _
      · rw [if_neg hx, if_neg (by omega)]; exact Nat.le_refl 0
theorem move_lt {n : Abs} {f : List Int} {lam : Nat → Nat} {p : List Way} (hl : f.length = n.length) (hw : ∀ y, y ∈ p → IsWay n f y) (ha : Apart p) 
    (ht : ∀ y, y ∈ p → lam y.there = lam y.here + 1) {y : Way} (hy : y ∈ p) : T lam n (moved f p y.room) < T lam n f := by
  have hpos := (hw y hy).room_pos
  obtain ⟨a, x, g1, g2, g3⟩ := hw y hy
  have e := moved_at y.room p f ha (fun z hz => (hw z hz).lt) y hy
  refine T_lt lam n f _ hl (by rw [moved_length, hl]) (move_mono hw ha (by omega) ht) y.arc a x _ g1 g2 e ?_
  have t := ht y hy
  simp only [List.getD, g2, Option.getD_some]
  rcases g3 with g | g
  · rw [g.2.1, g.2.2.1] at t
    rw [g.1]; simp only [if_true]
    rw [tc_up t, tc_up t, if_pos g.2.2.2.2.1, if_neg (by have := g.2.2.2.2.2; omega)]; exact Nat.zero_lt_one
  · rw [g.2.1, g.2.2.1] at t
    rw [g.1]; simp only [Bool.false_eq_true, if_false]
    rw [tc_down t, tc_down t, if_pos g.2.2.2.2.1, if_neg (by have := g.2.2.2.2.2; omega)]; exact Nat.zero_lt_one
structure FlowTo (n : Abs) (s t : Nat) (f : List Int) : Prop where
  fits : Fits n f
  even : ∀ v, v ≠ s → v ≠ t → out n f v = 0
theorem flowTo_iff (n : Abs) (s t : Nat) (f : List Int) : FlowTo n s t f ↔ Flow n s t f :=
  ⟨fun h => ⟨h.fits.1, h.fits.2, h.even⟩, fun h => ⟨⟨h.1, h.2.1⟩, h.2.2⟩⟩
theorem move_flow {n : Abs} {s t : Nat} {f : List Int} (hf : FlowTo n s t f) {p : List Way} {d : Int} (hst : s ≠ t) (hc : Chain (IsWay n f) s p t) (ha : Apart p) (hd : 0 ≤ d) (hr : ∀ y, y ∈ p → d ≤ y.room) :
    FlowTo n s t (moved f p d) ∧ out n (moved f p d) s = out n f s + d := by
  have ho := fun x => moved_out n d s t x p f hf.fits.1 (fun y (hy : IsWay n f y) => hy.along) hc
  refine ⟨⟨moved_fits hf.fits hc.all ha hd hr, ?_⟩, ?_⟩
  · intro v h1 h2
    rw [ho v, hf.even v h1 h2]
    simp [Ne.symm h1, Ne.symm h2]
  · rw [ho s]
    simp [Ne.symm hst]
theorem grown_succ (n : Abs) (s t : Nat) (want : Int) (k : Nat) (f : List Int) : grown n s t want (k + 1) f = match (reached n f s).find? (fun (x : Nat × List Way) => x.1 == t) with
    | none => f
    | some x => if leastRoom x.2 (want - out n f s) ≤ 0 then f else grown n s t want k (moved f x.2 (leastRoom x.2 (want - out n f s))) := rfl
theorem grown_stop (n : Abs) (s t : Nat) (want : Int) (f : List Int) (h : out n f s = want) : ∀ k, grown n s t want k f = f
  | 0 => rfl
  | k + 1 => by
    rw [grown_succ]
    split
    · rfl
    · rename_i x _
      have := (leastRoom_le x.2 (want - out n f s)).1
      rw [if_pos (by omega)]
theorem grown_ok (n : Abs) (s t : Nat) (want : Int) (hs : s < 64) (he : Ends n) (hst : s ≠ t) : ∀ (k : Nat) (f : List Int) (lam : Nat → Nat), FlowTo n s t f → out n f s ≤ want → Lev n f s lam →
    (64 - lam t) * (2 * n.length + 1) + T lam n f < k →
    FlowTo n s t (grown n s t want k f) ∧ out n (grown n s t want k f) s ≤ want ∧ (out n (grown n s t want k f) s = want ∨ ¬ Has (reached n (grown n s t want k f) s) t)
  | 0, f, lam, _, _, _, h => by omega
  | k + 1, f, lam, hf, ho, hl, hk => by
    rw [grown_succ]
    have hR := reached_reach n f s hs he
    rcases find_has (reached n f s) t with ⟨p, hp, hm⟩ | ⟨hp, hm⟩
    · rw [hp]
      dsimp only
      have hc : Chain (IsWay n f) s p t := by
        have := hR.chain p t hm
        have conv : ∀ (p : List Way) (v : Nat), Chain (fun y => y ∈ waysOn n f) s p v → Chain (IsWay n f) s p v := by
          intro p
          induction p with
          | nil => intro v h; exact h
          | cons y p ih => intro v h; exact ⟨(mem_waysOn n f y).1 h.1, h.2.1, ih _ h.2.2⟩
        exact conv p t this
      have hwp : ∀ y, y ∈ p → IsWay n f y := hc.all
      by_cases hd : leastRoom p (want - out n f s) ≤ 0
      · rw [if_pos hd]
        refine ⟨hf, ho, Or.inl ?_⟩
        rcases leastRoom_cases p (want - out n f s) with h | ⟨y, hy, h⟩
        · omega
        · have := (hwp y hy).room_pos; omega
      · rw [if_neg hd]
        have hd' : 0 < leastRoom p (want - out n f s) := by omega
        have hle := leastRoom_le p (want - out n f s)
        -- the levels to count by
        have : ∃ mu, Lev n f s mu ∧ mu t = p.length ∧ (64 - mu t) * (2 * n.length + 1) + T mu n f < k + 1 := by
          have hlt := hl.chain p t hc
          rcases Nat.lt_or_ge (lam t) p.length with h | h
          · refine ⟨lev (reached n f s), lev_lev n f s hs he, lev_mem hR hm, ?_⟩
            rw [lev_mem hR hm]
            have h1 := T_le (lev (reached n f s)) n f
            have h2 := hR.short _ _ hm
            have h3 : (64 - p.length + 1) * (2 * n.length + 1) ≤ (64 - lam t) * (2 * n.length + 1) := Nat.mul_le_mul_right _ (by omega)
            rw [Nat.add_mul] at h3
            omega
          · exact ⟨lam, hl, by omega, hk⟩
        obtain ⟨mu, hmu, hmt, hmk⟩ := this
        have hap := tight_apart hmu p t hc hmt
        have htt := fun y hy => (hmu.tight p t hc hmt y hy).1
        have hmf := move_flow hf hst hc hap (Int.le_of_lt hd') hle.2
        rcases leastRoom_cases p (want - out n f s) with h | ⟨y, hy, h⟩
        · have e : out n (moved f p (leastRoom p (want - out n f s))) s = want := by rw [hmf.2]; omega
          rw [grown_stop n s t want _ e]
          exact ⟨hmf.1, by omega, Or.inl e⟩
        · have hlt := move_lt hf.fits.1 hwp hap htt hy
          refine grown_ok n s t want hs he hst k _ mu hmf.1 ?_ (move_lev hmu hwp hap (Int.le_of_lt hd') htt) ?_
          · rw [hmf.2]; omega
          · rw [h]; omega
    · rw [hp]
      exact ⟨hf, ho, Or.inr hm⟩
noncomputable def Rooms (n : Abs) : Prop := ∀ a, a ∈ n → 0 ≤ a.room
theorem nothing_W : ∀ (n : Abs) (w : Arc → Int), W n (nothing n) w = 0
  | [], w => by simp [W_nil]
  | a :: n, w => by
    have := nothing_W n w
    simp only [nothing, List.map_cons] at this ⊢
    rw [W_cons, this]; simp
theorem nothing_flow (n : Abs) (s t : Nat) (h : Rooms n) : FlowTo n s t (nothing n) := by
  refine ⟨⟨by simp [nothing], ?_⟩, ?_⟩
  · intro i a x h1 h2
    simp [nothing, h1] at h2
    subst h2
    exact ⟨Int.le_refl 0, h a (mem_of_get h1)⟩
  · intro v _ _
    rw [out_W, nothing_W]
theorem flowOf_ok (n : Abs) (s t : Nat) (want : Int) (hs : s < 64) (he : Ends n) (hst : s ≠ t) (hr : Rooms n) (hn : n.length ≤ 12) (hw : 0 ≤ want) :
    FlowTo n s t (flowOf n s t want) ∧ out n (flowOf n s t want) s ≤ want ∧ (out n (flowOf n s t want) s = want ∨ ¬ Has (reached n (flowOf n s t want) s) t) := by
  refine grown_ok n s t want hs he hst _ _ (lev (reached n (nothing n) s)) (nothing_flow n s t hr) ?_ (lev_lev n _ s hs he) ?_
  · rw [out_W, nothing_W]; exact hw
  · have h1 := T_le (lev (reached n (nothing n) s)) n (nothing n)
    have h2 : (64 - lev (reached n (nothing n) s) t) * (2 * n.length + 1) ≤ 64 * 25 := Nat.mul_le_mul (by omega) (by omega)
    have : NODES * ARCS + 1 = 32769 := rfl
    rw [this]
    omega
end NF
end
section
namespace NF
open Sf13
structure Net12 (n : Abs) : Prop where
  few : n.length ≤ 12
  ends : Ends n
  noLoop : NoLoop n
  rooms : Rooms n
  wide : ∀ a, a ∈ n → a.room ≤ 1000000000
  dear : ∀ a, a ∈ n → -1000000 ≤ a.cost ∧ a.cost ≤ 1000000
noncomputable def pin (P : Nat → Bool) (v : Nat) : Int := if P v = true then 1 else 0
noncomputable def Shut (n : Abs) (f : List Int) (P : Nat → Bool) : Prop := ∀ y, IsWay n f y → P y.here = true → P y.there = true
theorem shut_arc {n : Abs} {f : List Int} {P : Nat → Bool} (hf : Fits n f) (h : Shut n f P) {i : Nat} {a : Arc} {x : Int} (h1 : n[i]? = some a) (h2 : f[i]? = some x) :
    (P a.source = true → P a.target = false → x = a.room) ∧ (P a.source = false → P a.target = true → x = 0) := by
  have hb := hf.2 i a x h1 h2
  constructor
  · intro p1 p2
    rcases Int.lt_or_le x a.room with h3 | h3
    · have := h ⟨i, true, a.source, a.target, a.room - x, a.cost⟩ ⟨a, x, h1, h2, Or.inl ⟨rfl, rfl, rfl, rfl, h3, rfl⟩⟩ p1
      simp [p2] at this
    · omega
  · intro p1 p2
    rcases Int.lt_or_le 0 x with h3 | h3
    · have := h ⟨i, false, a.target, a.source, x, -a.cost⟩ ⟨a, x, h1, h2, Or.inr ⟨rfl, rfl, rfl, rfl, h3, rfl⟩⟩ p2
      simp [p1] at this
    · omega
theorem flow_pin {n : Abs} {s t : Nat} {f : List Int} (he : Ends n) (hs : s < 64) (ht : t < 64) (hst : s ≠ t) (hf : FlowTo n s t f) {P : Nat → Bool} (p1 : P s = true) (p2 : P t = false) :
    W n f (fun a => pin P a.source - pin P a.target) = out n f s := by
  rw [flow_phi n f s t he hs ht hst hf.even (pin P)]
  simp [pin, p1, p2]
theorem most_of_shut {n : Abs} {s t : Nat} {f : List Int} (he : Ends n) (hs : s < 64) (ht : t < 64) (hst : s ≠ t) (hf : FlowTo n s t f) {P : Nat → Bool} (p1 : P s = true) (p2 : P t = false) (h : Shut n f P) :
    Most n s t f := by
  refine ⟨(flowTo_iff n s t f).1 hf, ?_⟩
  intro g hg
  have hg := (flowTo_iff n s t g).2 hg
  rw [← flow_pin he hs ht hst hf p1 p2, ← flow_pin he hs ht hst hg p1 p2]
  apply W_le n g f _ hg.fits.1 hf.fits.1
  intro i a x y h1 h2 h3
  have hx := hg.fits.2 i a x h1 h2
  have hy := shut_arc hf.fits h h1 h3
  unfold pin
  cases q1 : P a.source <;> cases q2 : P a.target
  · simp
  · have := hy.2 q1 q2; simp; omega
  · have := hy.1 q1 q2; simp; omega
  · simp
theorem W_width : ∀ (n : Abs) (f : List Int) (w h : Arc → Int), f.length = n.length → (∀ (i : Nat) (a : Arc) (x : Int), n[i]? = some a → f[i]? = some x → w a * x ≤ h a) →
    W n f w ≤ (n.map h).sum ∧ (W n f w = (n.map h).sum → ∀ (i : Nat) (a : Arc) (x : Int), n[i]? = some a → f[i]? = some x → w a * x = h a)
  | [], f, w, h, _, _ => by
    refine ⟨by simp [W_nil], ?_⟩
    intro _ i a x h1; simp at h1
  | a :: n, [], w, h, hl, _ => by simp at hl
  | a :: n, x :: f, w, h, hl, hh => by
    have i0 := hh 0 a x (by simp) (by simp)
    have ir := W_width n f w h (by simpa using hl) (fun i b u hb hu => hh (i+1) b u (by simpa using hb) (by simpa using hu))
    rw [W_cons]
    simp only [List.map_cons, List.sum_cons]
    refine ⟨by omega, ?_⟩
    intro e i b u hb hu
    match i, hb, hu with
    | 0, hb, hu => simp at hb hu; subst hb hu; omega
    | i + 1, hb, hu => exact ir.2 (by omega) i b u (by simpa using hb) (by simpa using hu)
theorem width_le {n : Abs} {s t : Nat} {f : List Int} (he : Ends n) (hs : s < 64) (ht : t < 64) (hst : s ≠ t) (hr : Rooms n) (hf : FlowTo n s t f) {m : Nat} (p1 : m.testBit s = true) (p2 : m.testBit t = false) :
    out n f s ≤ width n m ∧ (out n f s = width n m → Shut n f m.testBit) := by
  have key := W_width n f (fun a => pin m.testBit a.source - pin m.testBit a.target) (fun a => if m.testBit a.source && !m.testBit a.target then a.room else 0) hf.fits.1 (by
    intro i a x h1 h2
    have hx := hf.fits.2 i a x h1 h2
    unfold pin
    cases q1 : m.testBit a.source <;> cases q2 : m.testBit a.target <;> simp <;> omega)
  rw [flow_pin he hs ht hst hf p1 p2] at key
  refine ⟨key.1, ?_⟩
  intro e y hy hp
  obtain ⟨a, x, h1, h2, h3⟩ := hy
  have k := key.2 e y.arc a x h1 h2
  have hx := hf.fits.2 _ a x h1 h2
  cases q : m.testBit y.there with
  | true => rfl
  | false =>
    exfalso
    rcases h3 with g | g
    · rw [g.2.1] at hp; rw [g.2.2.1] at q
      simp [pin, hp, q] at k; omega
    · rw [g.2.1] at hp; rw [g.2.2.1] at q
      simp [pin, hp, q] at k; omega
theorem width_of_shut {n : Abs} {s t : Nat} {f : List Int} (he : Ends n) (hs : s < 64) (ht : t < 64) (hst : s ≠ t) (hf : FlowTo n s t f) {m : Nat} (p1 : m.testBit s = true) (p2 : m.testBit t = false) (h : Shut n f m.testBit) :
    width n m = out n f s := by
  rw [← flow_pin he hs ht hst hf p1 p2]
  unfold width
  have : ∀ (n : Abs) (f : List Int) (w h : Arc → Int), f.length = n.length → (∀ (i : Nat) (a : Arc) (x : Int), n[i]? = some a → f[i]? = some x → h a = w a * x) → (n.map h).sum = W n f w := by
    intro n
    induction n with
    | nil => intro f w h _ _; simp [W_nil]
    | cons a n ih =>
      intro f w h hl hh
      cases f with
      | nil => simp at hl
      | cons x f =>
        rw [W_cons]
        simp only [List.map_cons, List.sum_cons]
        rw [ih f w h (by simpa using hl) (fun i b u hb hu => hh (i+1) b u (by simpa using hb) (by simpa using hu)), hh 0 a x (by simp) (by simp)]
  refine this n f _ _ hf.fits.1 ?_
  intro i a x h1 h2
  have hy := shut_arc hf.fits h h1 h2
  unfold pin
  cases q1 : m.testBit a.source <;> cases q2 : m.testBit a.target
  · simp
  · have := hy.2 q1 q2; simp; omega
  · have := hy.1 q1 q2; simp; omega
  · simp
theorem shut_chain {n : Abs} {f : List Int} {P : Nat → Bool} (h : Shut n f P) {s : Nat} (hs : P s = true) : ∀ (p : List Way) (v : Nat), Chain (IsWay n f) s p v → P v = true
  | [], v, hc => by simp [Chain] at hc; rw [hc]; exact hs
  | y :: p, v, hc => by
    rw [← hc.2.1]; exact h y hc.1 (shut_chain h hs p _ hc.2.2)
theorem least_of {n : Abs} {s t : Nat} {f : List Int} (he : Ends n) (hs : s < 64) (ht : t < 64) (hst : s ≠ t) (hr : Rooms n) (hf : FlowTo n s t f) {m : Nat} (hm : m < 2 ^ 64) (p2 : m.testBit t = false)
    (h : ∀ v, m.testBit v = true ↔ ∃ p, Chain (IsWay n f) s p v) : Least n s t m := by
  have p1 : m.testBit s = true := (h s).2 ⟨[], rfl⟩
  have hsh : Shut n f m.testBit := by
    intro y hy hp
    obtain ⟨p, hp⟩ := (h _).1 hp
    exact (h _).2 ⟨y :: p, hy, rfl, hp⟩
  have hM := most_of_shut he hs ht hst hf p1 p2 hsh
  have hw := width_of_shut he hs ht hst hf p1 p2 hsh
  refine ⟨⟨hm, p1, p2, ?_⟩, ?_⟩
  · intro g hg
    rw [hw]
    have h1 := hM.2 g hg.1
    have h2 := hg.2 f hM.1
    omega
  · intro k hk i hi
    obtain ⟨p, hp⟩ := (h i).1 hi
    have := (width_le he hs ht hst hr hf hk.2.1 hk.2.2.1).2 (hk.2.2.2 f hM).symm
    exact shut_chain this hk.2.1 p i hp
theorem least_unique {n : Abs} {s t m k : Nat} (h1 : Least n s t m) (h2 : Least n s t k) : m = k := by
  apply Nat.eq_of_testBit_eq
  intro i
  have a := h1.2 k h2.1 i
  have b := h2.2 m h1.1 i
  cases q : m.testBit i <;> cases r : k.testBit i <;> simp_all
theorem pow_add_bit (v x i : Nat) (h : x.testBit v = false) : (2 ^ v + x).testBit i = (decide (i = v) || x.testBit i) := by
  rcases Nat.lt_trichotomy i v with h1 | h1 | h1
  · rw [Nat.testBit_two_pow_add_gt h1]
    have : ¬ i = v := by omega
    simp [this]
  · subst h1
    rw [Nat.testBit_two_pow_add_eq, h]; simp
  · have hne : ¬ i = v := by omega
    simp only [hne, decide_false, Bool.false_or]
    have hm : x % 2 ^ (v + 1) < 2 ^ v := by
      rw [Nat.mod_pow_succ]
      rw [Nat.testBit_eq_decide_div_mod_eq] at h
      have h2 : x / 2 ^ v % 2 = 0 := by
        have := of_decide_eq_false h; omega
      rw [h2]; simp
      exact Nat.mod_lt _ (Nat.two_pow_pos v)
    have hd : (2 ^ v + x) / 2 ^ (v + 1) = x / 2 ^ (v + 1) := by
      have hp := Nat.two_pow_pos (v + 1)
      have e1 := Nat.div_add_mod x (2 ^ (v + 1))
      have e2 : 2 ^ v + x = (2 ^ v + x % 2 ^ (v + 1)) + 2 ^ (v + 1) * (x / 2 ^ (v + 1)) := by omega
      rw [e2, Nat.add_mul_div_left _ _ hp]
      rw [Nat.div_eq_of_lt]
      · omega
      · rw [Nat.pow_succ] at hm ⊢; omega
    have := Nat.testBit_div_two_pow (n := v + 1) (2 ^ v + x) (i - (v + 1))
    have h3 := Nat.testBit_div_two_pow (n := v + 1) x (i - (v + 1))
    rw [hd, h3] at this
    have e : i - (v + 1) + (v + 1) = i := by omega
    rw [e] at this
    exact this.symm
theorem pows_bit : ∀ (l : List Nat), l.Nodup → ∀ i, ((l.map fun v => 2 ^ v).sum).testBit i = true ↔ i ∈ l
  | [], _, i => by simp
  | v :: l, hn, i => by
    rw [List.nodup_cons] at hn
    have ih := pows_bit l hn.2
    have hv : ((l.map fun v => 2 ^ v).sum).testBit v = false := by
      cases q : ((l.map fun v => 2 ^ v).sum).testBit v with
      | false => rfl
      | true => exact absurd ((ih v).1 q) hn.1
    rw [List.map_cons, List.sum_cons, pow_add_bit _ _ _ hv]
    simp [ih i]
theorem chain_ways {n : Abs} {f : List Int} {s : Nat} : ∀ (p : List Way) (v : Nat), Chain (fun y => y ∈ waysOn n f) s p v → Chain (IsWay n f) s p v
  | [], v, h => h
  | y :: p, v, h => ⟨(mem_waysOn n f y).1 h.1, h.2.1, chain_ways p _ h.2.2⟩
theorem reached_iff (n : Abs) (f : List Int) (s : Nat) (hs : s < 64) (he : Ends n) (v : Nat) : Has (reached n f s) v ↔ ∃ p, Chain (IsWay n f) s p v := by
  have hR := reached_reach n f s hs he
  constructor
  · rintro ⟨p, hp⟩
    exact ⟨p, chain_ways p v (hR.chain p v hp)⟩
  · rintro ⟨p, hp⟩
    induction p generalizing v with
    | nil => simp [Chain] at hp; rw [hp]; exact ⟨[], hR.start⟩
    | cons y p ih =>
      obtain ⟨q, hq⟩ := ih _ hp.2.2
      obtain ⟨r, hr, _⟩ := hR.on _ _ hq y ((mem_waysOn n f y).2 hp.1) rfl
      rw [← hp.2.1]; exact ⟨r, hr⟩
theorem out_le_rooms {n : Abs} {f : List Int} (hN : Net12 n) (hf : Fits n f) (v : Nat) : out n f v ≤ 12000000000 := by
  have key := W_width n f (ind v) (fun _ => 1000000000) hf.1 (by
    intro i a x h1 h2
    have hx := hf.2 i a x h1 h2
    have := hN.wide a (mem_of_get h1)
    unfold ind
    split <;> split <;> simp <;> omega)
  rw [out_W]
  have h1 := key.1
  rw [List.map_const', List.sum_replicate_int] at h1
  have := hN.few
  omega
theorem plenty_done {n : Abs} {s t : Nat} (hN : Net12 n) (hs : s < 64) (hst : s ≠ t) : 
    FlowTo n s t (flowOf n s t PLENTY) ∧ ¬ Has (reached n (flowOf n s t PLENTY) s) t := by
  have h := flowOf_ok n s t PLENTY hs hN.ends hst hN.rooms hN.few (by decide)
  refine ⟨h.1, ?_⟩
  rcases h.2.2 with h1 | h1
  · have := out_le_rooms hN h.1.fits s
    rw [h1] at this
    exact absurd this (by decide)
  · exact h1
theorem reached_shut (n : Abs) (f : List Int) (s : Nat) (hs : s < 64) (he : Ends n) : Shut n f (fun v => (reached n f s).any fun (x : Nat × List Way) => x.1 == v) := by
  intro y hy hp
  have h1 := (any_has _ _).1 hp
  obtain ⟨p, hp⟩ := (reached_iff n f s hs he _).1 h1
  exact (any_has _ _).2 ((reached_iff n f s hs he _).2 ⟨y :: p, hy, rfl, hp⟩)
theorem most_spec {n : Abs} {s t : Nat} (hN : Net12 n) (hs : s < 64) (ht : t < 64) (hst : s ≠ t) : Most n s t (flowOf n s t PLENTY) := by
  have h := plenty_done (t := t) hN hs hst
  refine most_of_shut hN.ends hs ht hst h.1 (P := fun v => (reached n (flowOf n s t PLENTY) s).any fun (x : Nat × List Way) => x.1 == v) ?_ ?_ (reached_shut n _ s hs hN.ends)
  · exact (any_has _ _).2 ⟨[], (reached_reach n _ s hs hN.ends).start⟩
  · cases q : ((reached n (flowOf n s t PLENTY) s).any fun (x : Nat × List Way) => x.1 == t) with
    | false => rfl
    | true => exact absurd ((any_has _ _).1 q) h.2
theorem most_same {n : Abs} {s t : Nat} {f g : List Int} (hf : Most n s t f) (hg : Most n s t g) : out n f s = out n g s := by
  have h1 := hf.2 g hg.1
  have h2 := hg.2 f hf.1
  omega
theorem most_due {n : Abs} {s t : Nat} {f : List Int} (hN : Net12 n) (hs : s < 64) (ht : t < 64) (hst : s ≠ t) (hf : FlowTo n s t f) {P : Nat → Bool} (p1 : P s = true) (p2 : P t = false) (h : Shut n f P) :
    out n (flowOf n s t PLENTY) s = out n f s :=
  most_same (most_spec hN hs ht hst) (most_of_shut hN.ends hs ht hst hf p1 p2 h)
theorem cut_spec {n : Abs} {s t : Nat} (hN : Net12 n) (hs : s < 64) (ht : t < 64) (hst : s ≠ t) : Least n s t (cutOf n s t) := by
  have h := plenty_done (t := t) hN hs hst
  have hR := reached_reach n (flowOf n s t PLENTY) s hs hN.ends
  have hb : ∀ i, (cutOf n s t).testBit i = true ↔ Has (reached n (flowOf n s t PLENTY) s) i := by
    intro i
    have := pows_bit _ hR.nodup i
    rw [List.map_map] at this
    unfold cutOf
    rw [show (fun (x : Nat × List Way) => 2 ^ x.1) = ((fun v => 2 ^ v) ∘ Prod.fst) from rfl, this]
    simp [Has]
  refine least_of hN.ends hs ht hst hN.rooms h.1 ?_ ?_ ?_
  · apply Nat.lt_pow_two_of_testBit
    intro i hi
    cases q : (cutOf n s t).testBit i with
    | false => rfl
    | true =>
      obtain ⟨p, hp⟩ := (hb i).1 q
      have := hR.small _ _ hp
      omega
  · cases q : (cutOf n s t).testBit t with
    | false => rfl
    | true => exact absurd ((hb t).1 q) h.2
  · intro v
    rw [hb, reached_iff n _ s hs hN.ends]
theorem cut_due {n : Abs} {s t : Nat} {f : List Int} (hN : Net12 n) (hs : s < 64) (ht : t < 64) (hst : s ≠ t) (hf : FlowTo n s t f) {m : Nat} (hm : m < 2 ^ 64) (p2 : m.testBit t = false)
    (h : ∀ v, m.testBit v = true ↔ ∃ p, Chain (IsWay n f) s p v) : cutOf n s t = m :=
  least_unique (cut_spec hN hs ht hst) (least_of hN.ends hs ht hst hN.rooms hf hm p2 h)
end NF
end
section
namespace NF
open Sf13
noncomputable def lab (l : Labels) (v : Nat) : Int := (l.getD v (0, none)).1
noncomputable def par (l : Labels) (v : Nat) : Option Way := (l.getD v (0, none)).2
theorem cheaper_iff (l : Labels) (y : Way) : cheaper l y = true ↔ lab l y.here + y.cost < lab l y.there := by
  unfold cheaper lab; simp
theorem getD_set (l : Labels) (i v : Nat) (x d : Int × Option Way) (hi : i < l.size) : (l.setIfInBounds i x).getD v d = if v = i then x else l.getD v d := by
  simp only [Array.getD_eq_getD_getElem?, Array.getElem?_setIfInBounds]
  by_cases h : i = v
  · subst h; simp [hi]
  · have h' : ¬ v = i := fun e => h e.symm
    simp [h, h']
theorem relaxed_no (l : Labels) (y : Way) (h : ¬ lab l y.here + y.cost < lab l y.there) : relaxed l y = l := by
  unfold relaxed
  rw [if_neg (fun e => h ((cheaper_iff l y).1 e))]
theorem relaxed_yes (l : Labels) (y : Way) (h : lab l y.here + y.cost < lab l y.there) : relaxed l y = l.setIfInBounds y.there (lab l y.here + y.cost, some y) := by
  unfold relaxed
  rw [if_pos ((cheaper_iff l y).2 h)]
  rfl
theorem relaxed_lab (l : Labels) (y : Way) (h : lab l y.here + y.cost < lab l y.there) (hi : y.there < l.size) (v : Nat) : lab (relaxed l y) v = if v = y.there then lab l y.here + y.cost else lab l v := by
  rw [relaxed_yes l y h]
  unfold lab
  rw [getD_set _ _ _ _ _ hi]
  split <;> rfl
theorem relaxed_par (l : Labels) (y : Way) (h : lab l y.here + y.cost < lab l y.there) (hi : y.there < l.size) (v : Nat) : par (relaxed l y) v = if v = y.there then some y else par l v := by
  rw [relaxed_yes l y h]
  unfold par
  rw [getD_set _ _ _ _ _ hi]
  split <;> rfl
structure BF (w : List Way) (k : Nat) (done : Way → Prop) (l : Labels) (last stamp : Nat → Nat) (clock : Nat) : Prop where
  size : l.size = 64
  lastle : ∀ v, last v ≤ k + 1
  stample : ∀ v, stamp v ≤ clock
  alive : ∀ v, 1 ≤ last v → ∃ y, par l v = some y
  parent : ∀ v y, par l v = some y → y ∈ w ∧ y.there = v ∧ lab l y.here + y.cost ≤ lab l v ∧ (lab l y.here + y.cost < lab l v ∨ stamp y.here < stamp v) ∧ last v ≤ last y.here + 1
  old : ∀ y, y ∈ w → last y.here < k → lab l y.there ≤ lab l y.here + y.cost
  new : ∀ y, done y → last y.here < k + 1 → lab l y.there ≤ lab l y.here + y.cost
structure WaysOk (w : List Way) : Prop where
  here : ∀ y, y ∈ w → y.here < 64
  there : ∀ y, y ∈ w → y.there < 64
  ne : ∀ y, y ∈ w → y.here ≠ y.there
theorem BF.step {w : List Way} {k : Nat} {done : Way → Prop} {l : Labels} {last stamp : Nat → Nat} {clock : Nat} (h : BF w k done l last stamp clock) (hw : WaysOk w) {y : Way} (hy : y ∈ w) :
    ∃ last' stamp' clock', BF w k (fun z => z = y ∨ done z) (relaxed l y) last' stamp' clock' ∧ (lab l y.here + y.cost < lab l y.there → last' y.there = k + 1) := by
  by_cases hc : lab l y.here + y.cost < lab l y.there
  · have hi : y.there < l.size := by rw [h.size]; exact hw.there y hy
    have hne := hw.ne y hy
    refine ⟨fun v => if v = y.there then k + 1 else last v, fun v => if v = y.there then clock + 1 else stamp v, clock + 1, ?_, ?_⟩
    · have hlab := relaxed_lab l y hc hi
      have hpar := relaxed_par l y hc hi
      have hlast : k ≤ last y.here := by
        rcases Nat.lt_or_ge (last y.here) k with h1 | h1
        · have := h.old y hy h1; omega
        · exact h1
      refine ⟨?_, ?_, ?_, ?_, ?_, ?_, ?_⟩
      · rw [relaxed_yes l y hc]; simp [h.size]
      · intro v; have := h.lastle v; split <;> omega
      · intro v; have := h.stample v; split <;> omega
      · intro v hv
        rw [hpar]
        by_cases e : v = y.there
        · exact ⟨y, by simp [e]⟩
        · simp only [e, if_false] at hv ⊢
          exact h.alive v hv
      · intro v z hz
        rw [hpar] at hz
        by_cases e : v = y.there
        · simp only [e, if_true] at hz
          cases hz
          have hs := h.stample y.here
          simp only [hlab, e, hne, if_true, if_false]
          exact ⟨hy, trivial, by omega, by omega, by omega⟩
        · simp only [e, if_false] at hz
          obtain ⟨g1, g2, g3, g4, g5⟩ := h.parent v z hz
          simp only [hlab, e, if_false]
          refine ⟨g1, g2, ?_⟩
          by_cases e2 : z.here = y.there
          · rw [e2] at g3 g4 g5
            have := h.lastle v
            simp only [e2, if_true]
            exact ⟨by omega, by omega, by omega⟩
          · simp only [e2, if_false]
            exact ⟨g3, g4, g5⟩
      · intro z hz hl
        by_cases e2 : z.here = y.there
        · simp only [e2, if_true] at hl; omega
        · simp only [e2, if_false] at hl
          have := h.old z hz hl
          simp only [hlab, e2, if_false]
          split
          · rename_i e3; rw [e3] at this; omega
          · exact this
      · intro z hz hl
        by_cases e2 : z.here = y.there
        · simp only [e2, if_true] at hl; omega
        · simp only [e2, if_false] at hl
          simp only [hlab, e2, if_false]
          rcases hz with hz | hz
          · subst hz; simp
          · have := h.new z hz hl
            split
            · rename_i e3; rw [e3] at this; omega
            · exact this
    · intro _; simp
  · refine ⟨last, stamp, clock, ?_, fun e => absurd e hc⟩
    rw [relaxed_no l y hc]
    refine ⟨h.size, h.lastle, h.stample, h.alive, h.parent, h.old, ?_⟩
    intro z hz hl
    rcases hz with hz | hz
    · subst hz; omega
    · exact h.new z hz hl
theorem BF.fold {w : List Way} {k : Nat} (hw : WaysOk w) : ∀ (u : List Way) (done : Way → Prop) (l : Labels) (last stamp : Nat → Nat) (clock : Nat), (∀ y, y ∈ u → y ∈ w) → BF w k done l last stamp clock →
    ∃ (done' : Way → Prop) (last' stamp' : Nat → Nat) (clock' : Nat), BF w k done' (u.foldl relaxed l) last' stamp' clock' ∧ (∀ y, y ∈ u → done' y) ∧ (∀ y, done y → done' y)
  | [], done, l, last, stamp, clock, _, h => ⟨done, last, stamp, clock, h, by simp, fun _ h => h⟩
  | y :: u, done, l, last, stamp, clock, hu, h => by
    obtain ⟨l1, s1, c1, h1, _⟩ := h.step hw (hu y (by simp))
    obtain ⟨d2, l2, s2, c2, h2, h3, h4⟩ := BF.fold hw u _ _ l1 s1 c1 (fun z hz => hu z (by simp [hz])) h1
    refine ⟨d2, l2, s2, c2, h2, ?_, fun z hz => h4 z (Or.inr hz)⟩
    intro z hz
    rcases List.mem_cons.1 hz with e | e
    · exact h4 z (Or.inl e)
    · exact h3 z e
theorem BF.rounds {w : List Way} (hw : WaysOk w) : ∀ (j k : Nat) (l : Labels) (last stamp : Nat → Nat) (clock : Nat), BF w k (fun _ => False) l last stamp clock →
    ∃ (last' stamp' : Nat → Nat) (clock' : Nat), BF w (k + j) (fun _ => False) (relaxing w j l) last' stamp' clock'
  | 0, k, l, last, stamp, clock, h => ⟨last, stamp, clock, h⟩
  | j + 1, k, l, last, stamp, clock, h => by
    obtain ⟨d, l1, s1, c1, h1, h2, _⟩ := BF.fold hw w _ l last stamp clock (fun _ h => h) h
    have h3 : BF w (k + 1) (fun _ => False) (w.foldl relaxed l) l1 s1 c1 := by
      refine ⟨h1.size, fun v => ?_, h1.stample, h1.alive, h1.parent, ?_, fun _ h => absurd h id⟩
      · have := h1.lastle v; omega
      · intro y hy hl; exact h1.new y (h2 y hy) hl
    obtain ⟨l2, s2, c2, h4⟩ := BF.rounds hw j (k + 1) _ l1 s1 c1 h3
    refine ⟨l2, s2, c2, ?_⟩
    rw [show k + (j + 1) = k + 1 + j by omega]
    exact h4
noncomputable def start64 : Labels := ((List.range NODES).map fun (_ : Nat) => ((0 : Int), (none : Option Way))).toArray
theorem start_get (v : Nat) : start64.getD v (0, none) = (0, none) := by
  unfold start64
  simp only [Array.getD_eq_getD_getElem?, List.getElem?_toArray, List.getElem?_map]
  cases h : (List.range NODES)[v]? <;> rfl
theorem BF.start (w : List Way) : BF w 0 (fun _ => False) start64 (fun _ => 0) (fun _ => 0) 0 := by
  refine ⟨by simp [start64, NODES], by simp, by simp, by simp, ?_, by simp, by simp⟩
  intro v y h
  unfold par at h
  rw [start_get] at h
  cases h
noncomputable def it (g : Nat → Nat) : Nat → Nat → Nat
  | 0, v => v
  | k + 1, v => it g k (g v)
theorem it_add (g : Nat → Nat) : ∀ (a b v : Nat), it g (a + b) v = it g b (it g a v)
  | 0, b, v => by simp [it]
  | a + 1, b, v => by
    rw [show a + 1 + b = (a + b) + 1 by omega]
    simp only [it]
    exact it_add g a b (g v)
noncomputable def nxt (l : Labels) (v : Nat) : Nat := match par l v with
  | some y => y.here
  | none => v
theorem it_fix (g : Nat → Nat) (v : Nat) (h : g v = v) : ∀ k, it g k v = v
  | 0 => rfl
  | k + 1 => by simp only [it, h]; exact it_fix g v h k
theorem back_it (l : Labels) : ∀ (k v : Nat), back l k v = it (nxt l) k v
  | 0, v => rfl
  | k + 1, v => by
    unfold back
    cases h : (l.getD v (0, none)).2 with
    | none =>
      dsimp only
      rw [it_fix]
      show nxt l v = v
      unfold nxt par; rw [h]
    | some y =>
      dsimp only
      rw [back_it l k]
      have : nxt l v = y.here := by unfold nxt par; rw [h]
      simp only [it, this]
theorem around_succ (l : Labels) (v k u : Nat) : around l v (k + 1) u = match par l u with
    | some y => y :: (if y.here = v then [] else around l v k y.here)
    | none => [] := rfl
theorem never (g : Nat → Nat) (u v m : Nat) (hm : it g (m + 1) u = u) (h : ∀ j, 1 ≤ j → j ≤ m + 1 → it g j u ≠ v) : ∀ (b j : Nat), j ≤ b → 1 ≤ j → it g j u ≠ v := by
  intro b
  induction b with
  | zero => intro j h1 h2; omega
  | succ b ih =>
    intro j h1 h2
    rcases Nat.lt_or_ge (m + 1) j with h3 | h3
    · have := it_add g (m + 1) (j - (m + 1)) u
      rw [hm, show m + 1 + (j - (m + 1)) = j by omega] at this
      rw [this]
      exact ih _ (by omega) (by omega)
    · exact h j h2 h3
structure Circ (l : Labels) (w : List Way) (stamp : Nat → Nat) : Prop where
  parent : ∀ v y, par l v = some y → y ∈ w ∧ y.there = v ∧ lab l y.here + y.cost ≤ lab l v ∧ (lab l y.here + y.cost < lab l v ∨ stamp y.here < stamp v)
theorem around_chain {l : Labels} {w : List Way} {stamp : Nat → Nat} (hc : Circ l w stamp) (v : Nat) : ∀ (k u : Nat), (∀ m, ∃ y, par l (it (nxt l) m u) = some y) → (∃ q, 1 ≤ q ∧ q ≤ k ∧ it (nxt l) q u = v) →
    Chain (fun y => y ∈ w ∧ par l y.there = some y) v (around l v k u) u ∧ around l v k u ≠ []
  | 0, u, _, ⟨q, h1, h2, _⟩ => by omega
  | k + 1, u, ha, ⟨q, h1, h2, h3⟩ => by
    obtain ⟨y, hy⟩ := ha 0
    simp only [it] at hy
    have hp := hc.parent u y hy
    have hn : nxt l u = y.here := by unfold nxt; rw [hy]
    rw [around_succ, hy]
    dsimp only
    refine ⟨?_, by simp⟩
    refine ⟨⟨hp.1, by rw [hp.2.1]; exact hy⟩, hp.2.1, ?_⟩
    split
    · assumption
    · rename_i hne
      refine (around_chain hc v k y.here ?_ ?_).1
      · intro m
        have := ha (m + 1)
        simp only [it, hn] at this
        exact this
      · match q, h1, h3 with
        | 1, _, h3 => simp only [it, hn] at h3; exact absurd h3 hne
        | q + 2, _, h3 =>
          refine ⟨q + 1, by omega, by omega, ?_⟩
          rw [← h3]
          simp only [it, hn]
theorem around_mem {l : Labels} {w : List Way} {stamp : Nat → Nat} (hc : Circ l w stamp) (v : Nat) : ∀ (k u : Nat) (z : Way), z ∈ around l v k u → ∃ m, it (nxt l) m u = z.there ∧ ∀ j, 1 ≤ j → j ≤ m → it (nxt l) j u ≠ v
  | 0, u, z, hz => by simp [around] at hz
  | k + 1, u, z, hz => by
    rw [around_succ] at hz
    cases hy : par l u with
    | none => rw [hy] at hz; simp at hz
    | some y =>
      rw [hy] at hz
      dsimp only at hz
      have hp := hc.parent u y hy
      have hn : nxt l u = y.here := by unfold nxt; rw [hy]
      rcases List.mem_cons.1 hz with e | e
      · subst e
        exact ⟨0, by simp only [it]; exact hp.2.1.symm, fun j h1 h2 => by omega⟩
      · split at e
        · simp at e
        · rename_i hne
          obtain ⟨m, h1, h2⟩ := around_mem hc v k y.here z e
          refine ⟨m + 1, by simp only [it, hn]; exact h1, ?_⟩
          intro j j1 j2
          match j, j1 with
          | j + 1, _ =>
            simp only [it, hn]
            match j with
            | 0 => exact hne
            | j + 1 => exact h2 (j + 1) (by omega) (by omega)
theorem around_nodup {l : Labels} {w : List Way} {stamp : Nat → Nat} (hc : Circ l w stamp) (v : Nat) : ∀ (k u : Nat), (∃ q, 1 ≤ q ∧ it (nxt l) q u = v) → (around l v k u).Pairwise (fun y z => y.there ≠ z.there)
  | 0, u, _ => by simp [around]
  | k + 1, u, ⟨q, h1, h3⟩ => by
    rw [around_succ]
    cases hy : par l u with
    | none => simp
    | some y =>
      dsimp only
      have hp := hc.parent u y hy
      have hn : nxt l u = y.here := by unfold nxt; rw [hy]
      split
      · simp
      · rename_i hne
        refine List.Pairwise.cons ?_ ?_
        · intro z hz e
          obtain ⟨m, g1, g2⟩ := around_mem hc v k y.here z hz
          rw [← e, hp.2.1] at g1
          have g3 : it (nxt l) (m + 1) u = u := by simp only [it, hn]; exact g1
          refine never (nxt l) u v m g3 ?_ q q (Nat.le_refl _) h1 h3
          intro j j1 j2
          match j, j1 with
          | j + 1, _ =>
            simp only [it, hn]
            match j with
            | 0 => exact hne
            | j + 1 => exact g2 (j + 1) (by omega) (by omega)
        · refine around_nodup hc v k y.here ?_
          match q, h1, h3 with
          | 1, _, h3 => simp only [it, hn] at h3; exact absurd h3 hne
          | q + 2, _, h3 =>
            refine ⟨q + 1, by omega, ?_⟩
            rw [← h3]
            simp only [it, hn]
theorem chain_cost {l : Labels} {w : List Way} {stamp : Nat → Nat} (hc : Circ l w stamp) (v : Nat) : ∀ (c : List Way) (u : Nat), c ≠ [] → Chain (fun y => y ∈ w ∧ par l y.there = some y) v c u →
    (c.map Way.cost).sum ≤ lab l u - lab l v ∧ ((c.map Way.cost).sum < lab l u - lab l v ∨ stamp v < stamp u)
  | [], u, h, _ => absurd rfl h
  | [y], u, _, h => by
    obtain ⟨⟨h1, h2⟩, h3, h4⟩ := h
    have hp := hc.parent _ y h2
    simp only [Chain] at h4
    rw [h3, h4] at hp
    simp
    exact ⟨by omega, by omega⟩
  | y :: z :: c, u, _, h => by
    obtain ⟨⟨h1, h2⟩, h3, h4⟩ := h
    have hp := hc.parent _ y h2
    rw [h3] at hp
    have ih := chain_cost hc v (z :: c) y.here (by simp) h4
    rw [List.map_cons, List.sum_cons]
    exact ⟨by omega, by omega⟩
theorem pigeon (g : Nat → Nat) (v : Nat) (h : ∀ j, it g j v < 64) : ∃ i j, i < j ∧ j ≤ 64 ∧ it g i v = it g j v := by
  apply Classical.byContradiction
  intro hno
  have hn : ((List.range 65).map fun j => it g j v).Nodup := by
    unfold List.Nodup
    rw [List.pairwise_map]
    refine List.Pairwise.imp_of_mem ?_ List.pairwise_lt_range
    intro a b ha hb hab e
    rw [List.mem_range] at hb
    exact hno ⟨a, b, hab, by omega, e⟩
  have := nodup_bound 64 _ hn (fun x hx => by
    obtain ⟨j, _, e⟩ := List.mem_map.1 hx
    rw [← e]; exact h j)
  simp at this
theorem circle_none {w : List Way} (h : circleOf w = none) : ∃ p : Nat → Int, ∀ y, y ∈ w → p y.there ≤ p y.here + y.cost := by
  unfold circleOf at h
  simp only [Option.map_eq_none_iff] at h
  refine ⟨lab (relaxing w NODES start64), ?_⟩
  intro y hy
  have := List.find?_eq_none.1 h y hy
  have h2 : ¬ lab (relaxing w NODES start64) y.here + y.cost < lab (relaxing w NODES start64) y.there := fun e => this ((cheaper_iff _ _).2 e)
  omega
theorem circle_some {n : Abs} {w : List Way} (hN : Ends n) (hL : NoLoop n) (hA : ∀ y, y ∈ w → Along n y) {c : List Way} (h : circleOf w = some c) :
    ∃ v, Chain (fun y => y ∈ w) v c v ∧ Apart c ∧ (c.map Way.cost).sum < 0 := by
  have hw : WaysOk w := ⟨fun y hy => ((hA y hy).ends hN).1, fun y hy => ((hA y hy).ends hN).2, fun y hy => (hA y hy).ne hL⟩
  unfold circleOf at h
  simp only [Option.map_eq_some_iff] at h
  obtain ⟨y, hy, he⟩ := h
  have hym := List.mem_of_find?_eq_some hy
  have hyc := (cheaper_iff _ _).1 (List.find?_some hy)
  obtain ⟨l0, s0, c0, h0⟩ := BF.rounds hw 64 0 start64 _ _ _ (BF.start w)
  rw [Nat.zero_add] at h0
  obtain ⟨last, stamp, clock, h1, h2⟩ := h0.step hw hym
  have h3 := h2 hyc
  have e1 : NODES = 64 := rfl
  rw [e1] at he
  change around (relaxed (relaxing w 64 start64) y) (back (relaxed (relaxing w 64 start64) y) 64 y.there) 64 (back (relaxed (relaxing w 64 start64) y) 64 y.there) = c at he
  generalize relaxed (relaxing w 64 start64) y = l at he h1
  rw [back_it] at he
  have hc : Circ l w stamp := ⟨fun v y h => by
    obtain ⟨g1, g2, g3, g4, g5⟩ := h1.parent v y h
    exact ⟨g1, g2, g3, g4⟩⟩
  -- how long the walk back is
  have hl1 : ∀ v, last v ≤ last (nxt l v) + 1 := by
    intro v
    unfold nxt
    cases hp : par l v with
    | none =>
      dsimp only
      omega
    | some z =>
      dsimp only
      exact (h1.parent v z hp).2.2.2.2
  have hl2 : ∀ j v, last v ≤ last (it (nxt l) j v) + j := by
    intro j
    induction j with
    | zero => intro v; simp [it]
    | succ j ih =>
      intro v
      have := ih (nxt l v)
      have := hl1 v
      simp only [it]; omega
  have hsmall : ∀ j, it (nxt l) j y.there < 64 := by
    have : ∀ j v, v < 64 → it (nxt l) j v < 64 := by
      intro j
      induction j with
      | zero => intro v hv; exact hv
      | succ j ih =>
        intro v hv
        refine ih _ ?_
        unfold nxt
        cases hp : par l v with
        | none => exact hv
        | some z => exact hw.here z (h1.parent v z hp).1
    intro j; exact this j _ (hw.there y hym)
  obtain ⟨i, j, hij, hj, e⟩ := pigeon (nxt l) y.there hsmall
  have hper : ∀ b, i ≤ b → it (nxt l) (b + (j - i)) y.there = it (nxt l) b y.there := by
    intro b hb
    rw [show b + (j - i) = j + (b - i) by omega, it_add, ← e, ← it_add]
    congr 1; omega
  have hlow : ∀ q, ∃ r, r ≤ 64 ∧ it (nxt l) q y.there = it (nxt l) r y.there := by
    intro q
    induction q using Nat.strongRecOn with
    | ind q ih =>
      rcases Nat.lt_or_ge 64 q with h | h
      · obtain ⟨r, hr, hr2⟩ := ih (q - (j - i)) (by omega)
        refine ⟨r, hr, ?_⟩
        rw [← hr2, ← hper (q - (j - i)) (by omega)]
        congr 1; omega
      · exact ⟨q, h, rfl⟩
  have halive : ∀ m, ∃ z, par l (it (nxt l) m (it (nxt l) 64 y.there)) = some z := by
    intro m
    rw [← it_add]
    obtain ⟨r, hr, hr2⟩ := hlow (64 + m)
    rw [hr2]
    refine h1.alive _ ?_
    have := hl2 r y.there
    rw [h3] at this
    omega
  have hret : it (nxt l) (j - i) (it (nxt l) 64 y.there) = it (nxt l) 64 y.there := by
    rw [← it_add]; exact hper 64 (by omega)
  generalize it (nxt l) 64 y.there = v at he halive hret
  have hch := around_chain hc v 64 v halive ⟨j - i, by omega, by omega, hret⟩
  have hnd := around_nodup hc v 64 v ⟨j - i, by omega, hret⟩
  rw [he] at hch hnd
  refine ⟨v, ?_, ?_, ?_⟩
  · have conv : ∀ (c : List Way) (u : Nat), Chain (fun y => y ∈ w ∧ par l y.there = some y) v c u → Chain (fun y => y ∈ w) v c u := by
      intro c
      induction c with
      | nil => intro u h; exact h
      | cons z c ih => intro u h; exact ⟨h.1.1, h.2.1, ih _ h.2.2⟩
    exact conv c v hch.1
  · refine List.Pairwise.imp_of_mem ?_ hnd
    intro y1 y2 m1 m2 hne harc
    have q1 := hch.1.all y1 m1
    have q2 := hch.1.all y2 m2
    obtain ⟨a, ha, ha2⟩ := hA y1 q1.1
    obtain ⟨b, hb, hb2⟩ := hA y2 q2.1
    rw [← harc, ha] at hb
    cases hb
    have p1 := hc.parent _ _ q1.2
    have p2 := hc.parent _ _ q2.2
    rcases ha2 with g | g <;> rcases hb2 with k | k
    · exact hne (by rw [g.2.2.1, k.2.2.1])
    · rw [g.2.1, g.2.2.1, g.2.2.2] at p1
      rw [k.2.1, k.2.2.1, k.2.2.2] at p2
      omega
    · rw [g.2.1, g.2.2.1, g.2.2.2] at p1
      rw [k.2.1, k.2.2.1, k.2.2.2] at p2
      omega
    · exact hne (by rw [g.2.2.1, k.2.2.1])
  · have := chain_cost hc v c v hch.2 hch.1
    omega
end NF
end
section
namespace NF
open Sf13
theorem cost_low {n : Abs} {f : List Int} (hN : Net12 n) (hf : Fits n f) : -12000000000000000 ≤ cost n f := by
  have key := W_width n f (fun a => -1 * a.cost) (fun _ => 1000000000000000) hf.1 (by
    intro i a x h1 h2
    have hx := hf.2 i a x h1 h2
    have hw := hN.wide a (mem_of_get h1)
    have hd := hN.dear a (mem_of_get h1)
    have e1 : (-1 * a.cost) * x ≤ 1000000 * x := Int.mul_le_mul_of_nonneg_right (by omega) hx.1
    omega)
  have h1 := key.1
  rw [W_mul, ← cost_W, List.map_const', List.sum_replicate_int] at h1
  have := hN.few
  omega
theorem cost_high {n : Abs} {f : List Int} (hN : Net12 n) (hf : Fits n f) : cost n f ≤ 12000000000000000 := by
  have key := W_width n f Arc.cost (fun _ => 1000000000000000) hf.1 (by
    intro i a x h1 h2
    have hx := hf.2 i a x h1 h2
    have hw := hN.wide a (mem_of_get h1)
    have hd := hN.dear a (mem_of_get h1)
    have e1 : a.cost * x ≤ 1000000 * x := Int.mul_le_mul_of_nonneg_right (by omega) hx.1
    omega)
  have h1 := key.1
  rw [← cost_W, List.map_const', List.sum_replicate_int] at h1
  have := hN.few
  omega
theorem move_round {n : Abs} {s t v : Nat} {f : List Int} (hf : FlowTo n s t f) {c : List Way} {d : Int} (hc : Chain (IsWay n f) v c v) (ha : Apart c) (hd : 0 ≤ d) (hr : ∀ y, y ∈ c → d ≤ y.room) :
    FlowTo n s t (moved f c d) ∧ (∀ x, out n (moved f c d) x = out n f x) ∧ cost n (moved f c d) = cost n f + d * (c.map Way.cost).sum := by
  have ho : ∀ x, out n (moved f c d) x = out n f x := by
    intro x
    rw [moved_out n d v v x c f hf.fits.1 (fun y (hy : IsWay n f y) => hy.along) hc]
    simp
  refine ⟨⟨moved_fits hf.fits hc.all ha hd hr, ?_⟩, ho, ?_⟩
  · intro x h1 h2; rw [ho, hf.even x h1 h2]
  · rw [cost_W, cost_W, moved_W n _ d c f hf.fits.1 (fun y hy => (hc.all y hy).along), along_cost n (q := IsWay n f) (fun y hy => hy.along) c hc.all]
theorem settled_succ (n : Abs) (k : Nat) (f : List Int) : settled n (k + 1) f = match circleOf (waysOn n f) with
    | none => f
    | some c => settled n k (moved f c (leastRoom c PLENTY)) := rfl
theorem settled_ok {n : Abs} {s t : Nat} (hN : Net12 n) : ∀ (k : Nat) (f : List Int), FlowTo n s t f → cost n f + 12000000000000000 < (k : Int) →
    FlowTo n s t (settled n k f) ∧ (∀ x, out n (settled n k f) x = out n f x) ∧ circleOf (waysOn n (settled n k f)) = none
  | 0, f, hf, h => by have := cost_low hN hf.fits; omega
  | k + 1, f, hf, h => by
    rw [settled_succ]
    cases hc : circleOf (waysOn n f) with
    | none => exact ⟨hf, fun _ => rfl, hc⟩
    | some c =>
      dsimp only
      obtain ⟨v, h1, h2, h3⟩ := circle_some hN.ends hN.noLoop (fun y hy => ((mem_waysOn n f y).1 hy).along) hc
      have h1 := chain_ways c v h1
      have hle := leastRoom_le c PLENTY
      have hpos : 0 < leastRoom c PLENTY := by
        rcases leastRoom_cases c PLENTY with e | ⟨y, hy, e⟩
        · rw [e]; decide
        · rw [e]; exact (h1.all y hy).room_pos
      obtain ⟨m1, m2, m3⟩ := move_round hf h1 h2 (Int.le_of_lt hpos) hle.2
      have hdec : leastRoom c PLENTY * (c.map Way.cost).sum ≤ -1 := by
        have : leastRoom c PLENTY * (c.map Way.cost).sum ≤ leastRoom c PLENTY * (-1) := Int.mul_le_mul_of_nonneg_left (by omega) (Int.le_of_lt hpos)
        omega
      obtain ⟨r1, r2, r3⟩ := settled_ok hN k (moved f c (leastRoom c PLENTY)) m1 (by rw [m3]; omega)
      exact ⟨r1, fun x => by rw [r2, m2], r3⟩
theorem cheapest_of_prices {n : Abs} {s t : Nat} (he : Ends n) (hs : s < 64) (ht : t < 64) (hst : s ≠ t) {f : List Int} (hf : FlowTo n s t f) {p : Nat → Int} (hp : ∀ y, IsWay n f y → p y.there ≤ p y.here + y.cost)
    {g : List Int} (hg : FlowTo n s t g) (ho : out n g s = out n f s) : cost n f ≤ cost n g := by
  have e : ∀ h, FlowTo n s t h → W n h (fun a => a.cost + (p a.source - p a.target)) = cost n h + (p s - p t) * out n h s := by
    intro h hh
    rw [W_add, flow_phi n h s t he hs ht hst hh.even p, cost_W]
  have e1 := e f hf
  have e2 := e g hg
  have key := W_le n f g (fun a => a.cost + (p a.source - p a.target)) hf.fits.1 hg.fits.1 (by
    intro i a x y h1 h2 h3
    have hx := hf.fits.2 i a x h1 h2
    have hy := hg.fits.2 i a y h1 h3
    rcases Int.lt_trichotomy (a.cost + (p a.source - p a.target)) 0 with h | h | h
    · have : x = a.room := by
        rcases Int.lt_or_le x a.room with h4 | h4
        · have := hp ⟨i, true, a.source, a.target, a.room - x, a.cost⟩ ⟨a, x, h1, h2, Or.inl ⟨rfl, rfl, rfl, rfl, h4, rfl⟩⟩
          dsimp only at this
          omega
        · omega
      exact Int.mul_le_mul_of_nonpos_left (by omega) (by omega)
    · rw [h]; simp
    · have : x = 0 := by
        rcases Int.lt_or_le 0 x with h4 | h4
        · have := hp ⟨i, false, a.target, a.source, x, -a.cost⟩ ⟨a, x, h1, h2, Or.inr ⟨rfl, rfl, rfl, rfl, h4, rfl⟩⟩
          dsimp only at this
          omega
        · omega
      exact Int.mul_le_mul_of_nonneg_left (by omega) (by omega))
  rw [e1, e2, ho] at key
  omega
theorem flowOf_value {n : Abs} {s t : Nat} (hN : Net12 n) (hs : s < 64) (ht : t < 64) (hst : s ≠ t) {v : Int} (hv : 0 ≤ v) {f : List Int} (hf : FlowTo n s t f) (ho : out n f s = v) : out n (flowOf n s t v) s = v := by
  obtain ⟨h1, h2, h3⟩ := flowOf_ok n s t v hs hN.ends hst hN.rooms hN.few hv
  rcases h3 with h3 | h3
  · exact h3
  · have hM : Most n s t (flowOf n s t v) := by
      refine most_of_shut hN.ends hs ht hst h1 (P := fun u => (reached n (flowOf n s t v) s).any fun (x : Nat × List Way) => x.1 == u) ?_ ?_ (reached_shut n _ s hs hN.ends)
      · exact (any_has _ _).2 ⟨[], (reached_reach n _ s hs hN.ends).start⟩
      · cases q : ((reached n (flowOf n s t v) s).any fun (x : Nat × List Way) => x.1 == t) with
        | false => rfl
        | true => exact absurd ((any_has _ _).1 q) h3
    have := hM.2 f ((flowTo_iff n s t f).1 hf)
    omega
theorem cheapestOf_eq (n : Abs) (s t : Nat) (v : Int) : cheapestOf n s t v = if out n (flowOf n s t v) s = v then some (cost n (settled n 2000000000000000000 (flowOf n s t v))) else none := rfl
theorem cheapest_due {n : Abs} {s t : Nat} (hN : Net12 n) (hs : s < 64) (ht : t < 64) (hst : s ≠ t) {f : List Int} (hf : FlowTo n s t f) (hv : 0 ≤ out n f s) {p : Nat → Int} (hp : ∀ y, IsWay n f y → p y.there ≤ p y.here + y.cost) :
    cheapestOf n s t (out n f s) = some (cost n f) := by
  rw [cheapestOf_eq, if_pos (flowOf_value hN hs ht hst hv hf rfl)]
  obtain ⟨h1, h2, h3⟩ := flowOf_ok n s t (out n f s) hs hN.ends hst hN.rooms hN.few hv
  have hfv := flowOf_value hN hs ht hst hv hf rfl
  have hb := cost_high hN h1.fits
  obtain ⟨g1, g2, g3⟩ := settled_ok hN 2000000000000000000 (flowOf n s t (out n f s)) h1 (by omega)
  obtain ⟨q, hq⟩ := circle_none g3
  have a1 := cheapest_of_prices hN.ends hs ht hst hf hp g1 (by rw [g2, hfv])
  have a2 := cheapest_of_prices hN.ends hs ht hst g1 (p := q) (fun y hy => hq y ((mem_waysOn n _ y).2 hy)) hf (by rw [g2, hfv])
  congr 1
  omega
theorem cheapest_none {n : Abs} {s t : Nat} (hN : Net12 n) (hs : s < 64) (hst : s ≠ t) {v : Int} (hv : 0 ≤ v) (h : ∀ f, FlowTo n s t f → out n f s ≠ v) :
    cheapestOf n s t v = none := by
  rw [cheapestOf_eq, if_neg]
  exact h _ (flowOf_ok n s t v hs hN.ends hst hN.rooms hN.few hv).1
end NF
end
section
namespace NF
open Sf13
noncomputable def flat : Call → List Int
  | .arc a b r k => [1, a, b, r, k]
  | .drop => [2]
  | .most s t => [3, s, t]
  | .cut s t => [4, s, t]
  | .cheapest s t v => [5, s, t, v]
  | .flow s t f => 6 :: s :: t :: (f.length : Int) :: f
  | .proves s t f p => 7 :: s :: t :: (f.length : Int) :: (f ++ (p.length : Int) :: p)
noncomputable def flats : List Call → List Int
  | [] => []
  | c :: cs => flat c ++ flats cs
noncomputable def isArc : Call → Bool
  | .arc _ _ _ _ => true
  | _ => false
noncomputable def arcs : List Call → Nat
  | [] => 0
  | c :: cs => (if isArc c = true then 1 else 0) + arcs cs
noncomputable def W64 (z : Int) : Prop := -9223372036854775808 ≤ z ∧ z ≤ 9223372036854775807
noncomputable def Fine : Call → Prop
  | .arc a b r k => W64 a ∧ W64 b ∧ W64 r ∧ W64 k
  | .drop => True
  | .most s t => W64 s ∧ W64 t
  | .cut s t => W64 s ∧ W64 t
  | .cheapest s t v => W64 s ∧ W64 t ∧ W64 v
  | .flow s t f => W64 s ∧ W64 t ∧ f.length ≤ 40 ∧ ∀ x, x ∈ f → W64 x
  | .proves s t f p => W64 s ∧ W64 t ∧ (f.length ≤ 40 ∧ ∀ x, x ∈ f → W64 x) ∧ p.length ≤ 64 ∧ ∀ x, x ∈ p → W64 x
noncomputable def tell : Abs → List Call → List Int
  | _, [] => []
  | n, c :: cs => ((((does n c).2.v :: (does n c).2.l).length : Nat) : Int) :: ((does n c).2.v :: (does n c).2.l) ++ tell (does n c).1 cs
theorem w32 {z : Int} (h : Sf13Neutral.whole32 z = true) : W64 z := by
  simp [Sf13Neutral.whole32, Sf13Neutral.within] at h
  unfold W64; omega
theorem w64 {z : Int} (h : Sf13Neutral.whole64 z = true) : W64 z := by
  simp [Sf13Neutral.whole64, Sf13Neutral.within] at h
  unfold W64; omega
theorem wrow {l : List Int} {k : Nat} (h : Sf13Neutral.row l k = true) : l.length ≤ k ∧ ∀ x, x ∈ l → W64 x := by
  simp only [Sf13Neutral.row, Bool.and_eq_true, decide_eq_true_eq, List.all_eq_true] at h
  exact ⟨h.1, fun x hx => w64 (h.2 x hx)⟩
theorem cons_of {α : Type} {l : List α} {n : Nat} (h : l.length = n + 1) : ∃ a r, l = a :: r ∧ r.length = n := by
  cases l with
  | nil => simp at h
  | cons a r => exact ⟨a, r, rfl, by simpa using h⟩
theorem nil_of {α : Type} {l : List α} (h : l.length = 0) : l = [] := List.length_eq_zero_iff.mp h
theorem of1 {α : Type} {l : List α} (h : l.length = 1) : ∃ x0, l = [x0] := by
  obtain ⟨x0, r, e, g⟩ := cons_of h
  exact ⟨x0, by rw [e, nil_of g]⟩
theorem of2 {α : Type} {l : List α} (h : l.length = 2) : ∃ x0 x1, l = [x0, x1] := by
  obtain ⟨x0, r, e, g⟩ := cons_of h
  obtain ⟨x1, e2⟩ := of1 g
  exact ⟨x0, x1, by rw [e, e2]⟩
theorem of3 {α : Type} {l : List α} (h : l.length = 3) : ∃ x0 x1 x2, l = [x0, x1, x2] := by
  obtain ⟨x0, r, e, g⟩ := cons_of h
  obtain ⟨x1, x2, e2⟩ := of2 g
  exact ⟨x0, x1, x2, by rw [e, e2]⟩
theorem of4 {α : Type} {l : List α} (h : l.length = 4) : ∃ x0 x1 x2 x3, l = [x0, x1, x2, x3] := by
  obtain ⟨x0, r, e, g⟩ := cons_of h
  obtain ⟨x1, x2, x3, e2⟩ := of3 g
  exact ⟨x0, x1, x2, x3, by rw [e, e2]⟩
theorem of5 {α : Type} {l : List α} (h : l.length = 5) : ∃ x0 x1 x2 x3 x4, l = [x0, x1, x2, x3, x4] := by
  obtain ⟨x0, r, e, g⟩ := cons_of h
  obtain ⟨x1, x2, x3, x4, e2⟩ := of4 g
  exact ⟨x0, x1, x2, x3, x4, by rw [e, e2]⟩
theorem el1 {α : Type} {P : List α → Prop} (h : ∀ x0, P [x0]) (l : List α) (e : l.length = 1) : P l := by
  obtain ⟨x0, rfl⟩ := of1 e
  exact h x0
theorem el2 {α : Type} {P : List α → Prop} (h : ∀ x0 x1, P [x0, x1]) (l : List α) (e : l.length = 2) : P l := by
  obtain ⟨x0, x1, rfl⟩ := of2 e
  exact h x0 x1
theorem el3 {α : Type} {P : List α → Prop} (h : ∀ x0 x1 x2, P [x0, x1, x2]) (l : List α) (e : l.length = 3) : P l := by
  obtain ⟨x0, x1, x2, rfl⟩ := of3 e
  exact h x0 x1 x2
theorem el4 {α : Type} {P : List α → Prop} (h : ∀ x0 x1 x2 x3, P [x0, x1, x2, x3]) (l : List α) (e : l.length = 4) : P l := by
  obtain ⟨x0, x1, x2, x3, rfl⟩ := of4 e
  exact h x0 x1 x2 x3
theorem el5 {α : Type} {P : List α → Prop} (h : ∀ x0 x1 x2 x3 x4, P [x0, x1, x2, x3, x4]) (l : List α) (e : l.length = 5) : P l := by
  obtain ⟨x0, x1, x2, x3, x4, rfl⟩ := of5 e
  exact h x0 x1 x2 x3 x4
structure Told (c : List (List Int)) (q : Call) : Prop where
  of : Sf13Neutral.callOf c = some q
  put : PyFlat.put1 c = flat q
  arc : ((c.headD []).headD 0 == 1) = isArc q
  whole : PySf13.whole c = c
  fine : Sf13Neutral.asked1 c = true → Fine q
theorem told_of {c : List (List Int)} (h : PyFlat.okCall PySf13.shape c) : ∃ q, Told c q := by
  obtain ⟨p, xs, rows, rfl, h⟩ := h
  unfold PySf13.shape at h
  by_cases p1 : p = 1
  · subst p1
    rw [if_pos rfl] at h
    injection h with h; injection h with h1 h2
    obtain ⟨a, b, r, k, rfl⟩ := of4 h1.symm
    obtain rfl := nil_of h2.symm
    refine ⟨.arc a b r k, rfl, rfl, rfl, rfl, fun h => ?_⟩
    have h : (Sf13Neutral.whole32 a && (Sf13Neutral.whole32 b && (Sf13Neutral.whole64 r && Sf13Neutral.whole64 k))) = true := h
    simp only [Bool.and_eq_true] at h
    exact ⟨w32 h.1, w32 h.2.1, w64 h.2.2.1, w64 h.2.2.2⟩
  rw [if_neg p1] at h
  by_cases p2 : p = 2
  · subst p2
    rw [if_pos rfl] at h
    injection h with h; injection h with h1 h2
    obtain rfl := nil_of h1.symm
    obtain rfl := nil_of h2.symm
    exact ⟨.drop, rfl, rfl, rfl, rfl, fun _ => trivial⟩
  rw [if_neg p2] at h
  by_cases p3 : p = 3
  · subst p3
    rw [if_pos rfl] at h
    injection h with h; injection h with h1 h2
    obtain ⟨a, b, rfl⟩ := of2 h1.symm
    obtain rfl := nil_of h2.symm
    refine ⟨.most a b, rfl, rfl, rfl, rfl, fun h => ?_⟩
    have h : (Sf13Neutral.whole32 a && Sf13Neutral.whole32 b) = true := h
    simp only [Bool.and_eq_true] at h
    exact ⟨w32 h.1, w32 h.2⟩
  rw [if_neg p3] at h
  by_cases p4 : p = 4
  · subst p4
    rw [if_pos rfl] at h
    injection h with h; injection h with h1 h2
    obtain ⟨a, b, rfl⟩ := of2 h1.symm
    obtain rfl := nil_of h2.symm
    refine ⟨.cut a b, rfl, rfl, rfl, rfl, fun h => ?_⟩
    have h : (Sf13Neutral.whole32 a && Sf13Neutral.whole32 b) = true := h
    simp only [Bool.and_eq_true] at h
    exact ⟨w32 h.1, w32 h.2⟩
  rw [if_neg p4] at h
  by_cases p5 : p = 5
  · subst p5
    rw [if_pos rfl] at h
    injection h with h; injection h with h1 h2
    obtain ⟨a, b, v, rfl⟩ := of3 h1.symm
    obtain rfl := nil_of h2.symm
    refine ⟨.cheapest a b v, rfl, rfl, rfl, rfl, fun h => ?_⟩
    have h : (Sf13Neutral.whole32 a && (Sf13Neutral.whole32 b && Sf13Neutral.whole64 v)) = true := h
    simp only [Bool.and_eq_true] at h
    exact ⟨w32 h.1, w32 h.2.1, w64 h.2.2⟩
  rw [if_neg p5] at h
  by_cases p6 : p = 6
  · subst p6
    rw [if_pos rfl] at h
    injection h with h; injection h with h1 h2
    obtain ⟨a, b, rfl⟩ := of2 h1.symm
    obtain ⟨f, rfl⟩ := of1 h2.symm
    refine ⟨.flow a b f, rfl, ?_, rfl, rfl, fun h => ?_⟩
    · simp [PyFlat.put1, PyFlat.putRows, PyFlat.putRow, flat]
    have h : (Sf13Neutral.whole32 a && (Sf13Neutral.whole32 b && Sf13Neutral.row f 40)) = true := h
    simp only [Bool.and_eq_true] at h
    exact ⟨w32 h.1, w32 h.2.1, wrow h.2.2⟩
  rw [if_neg p6] at h
  by_cases p7 : p = 7
  · subst p7
    rw [if_pos rfl] at h
    injection h with h; injection h with h1 h2
    obtain ⟨a, b, rfl⟩ := of2 h1.symm
    obtain ⟨f, ps, rfl⟩ := of2 h2.symm
    refine ⟨.proves a b f ps, rfl, ?_, rfl, rfl, fun h => ?_⟩
    · simp [PyFlat.put1, PyFlat.putRows, PyFlat.putRow, flat]
    have h : (Sf13Neutral.whole32 a && (Sf13Neutral.whole32 b && (Sf13Neutral.row f 40 && Sf13Neutral.row ps 64))) = true := h
    simp only [Bool.and_eq_true] at h
    exact ⟨w32 h.1, w32 h.2.1, wrow h.2.2.1, wrow h.2.2.2⟩
  rw [if_neg p7] at h
  cases h
theorem calls_of : ∀ (raw : List (List (List Int))), (∀ c, c ∈ raw → PyFlat.okCall PySf13.shape c) → (∀ c, c ∈ raw → Sf13Neutral.asked1 c = true) →
    ∃ cs : List Call, PyFlat.put raw = flats cs ∧ cs.length = raw.length ∧ (∀ q, q ∈ cs → Fine q) ∧
      arcs cs = (raw.filter fun c => (c.headD []).headD 0 == 1).length ∧ ∀ n, PyFlat.told (PyFlat.played Sf13Neutral.step n raw) = tell n cs
  | [], _, _ => ⟨[], rfl, rfl, by simp, rfl, fun n => rfl⟩
  | c :: raw, ho, h => by
    obtain ⟨q, h1, h2, h4, _, h5⟩ := told_of (ho c (by simp))
    have h3 := h5 (h c (by simp))
    obtain ⟨cs, g1, g2, g3, g4, g5⟩ := calls_of raw (fun d hd => ho d (by simp [hd])) (fun d hd => h d (by simp [hd]))
    refine ⟨q :: cs, ?_, by simp [g2], ?_, ?_, ?_⟩
    · simp only [PyFlat.put, flats, h2, g1]
    · intro z hz
      rcases List.mem_cons.1 hz with e | e
      · subst e; exact h3
      · exact g3 z e
    · simp only [arcs, g4, List.filter_cons, h4]
      cases isArc q <;> simp <;> omega
    · intro n
      have hs : Sf13Neutral.step n c = ((does n q).1, (does n q).2.v :: (does n q).2.l) := by
        unfold Sf13Neutral.step; rw [h1]
      simp only [PyFlat.played, hs, PyFlat.told, List.flatMap_cons, tell]
      have := g5 (does n q).1
      unfold PyFlat.told at this
      rw [this]
theorem request {ns : List Int} (h : PySf13.answers_asked ns = true) :
    ∃ cs : List Call, ns = flats cs ∧ cs.length ≤ 60 ∧ (∀ q, q ∈ cs → Fine q) ∧ arcs cs ≤ 12 ∧ PySf13.answers ns = tell [] cs := by
  unfold PySf13.answers_asked at h
  cases e : PyFlat.calls PySf13.shape ns.length ns with
  | none => rw [e] at h; cases h
  | some raw =>
    rw [e] at h
    simp only [Bool.and_eq_true] at h
    obtain ⟨⟨h1, h2⟩, h3⟩ := h
    have hput := PyFlat.put_calls _ _ _ e
    have hw : raw.map PySf13.whole = raw := by
      have key : ∀ l : List (List (List Int)), (∀ c, c ∈ l → PyFlat.okCall PySf13.shape c) → l.map PySf13.whole = l := by
        intro l
        induction l with
        | nil => intro _; rfl
        | cons c l ih =>
          intro hl
          obtain ⟨q, hq⟩ := told_of (hl c (by simp))
          rw [List.map_cons, hq.whole, ih (fun d hd => hl d (by simp [hd]))]
      exact key raw hput.2
    rw [hw] at h3
    simp only [Sf13Neutral.asked, Bool.and_eq_true, List.all_eq_true, decide_eq_true_eq] at h3
    obtain ⟨cs, g1, g2, g3, g4, g5⟩ := calls_of raw hput.2 h3.1
    refine ⟨cs, ?_, by rw [g2]; exact h3.2.2.1, g3, by rw [g4]; exact h3.2.2.2, ?_⟩
    · rw [← g1]; exact hput.1
    · unfold PySf13.answers PySf13.calls
      rw [e]
      simp only [hw]
      exact g5 _
theorem does_net {n : Abs} {k : Nat} (h : Net12 n) (q : Call) (hk : n.length + (if isArc q = true then 1 else 0) ≤ k) (h12 : k ≤ 12) : Net12 (does n q).1 ∧ (does n q).1.length ≤ k := by
  cases q with
  | arc a b r c =>
    simp only [isArc, if_true] at hk
    simp only [does]
    split
    · rename_i hc
      simp only [Bool.and_eq_true, decide_eq_true_eq, two, node, bne_iff_ne, ne_eq, WIDEST, DEAREST] at hc
      obtain ⟨⟨⟨a0, a1⟩, ⟨b0, b1⟩, ab⟩, r0, r1, k0, k1, _⟩ := hc
      have new : ∀ x, x ∈ n ++ [(⟨a.toNat, b.toNat, r, c⟩ : Arc)] → x ∈ n ∨ x = ⟨a.toNat, b.toNat, r, c⟩ := by
        intro x hx; simpa using hx
      have n64 : (NODES : Int) = 64 := rfl
      rw [n64] at a1 b1
      refine ⟨⟨by simp; omega, ?_, ?_, ?_, ?_, ?_⟩, by simp; omega⟩
      · intro x hx
        rcases new x hx with e | e
        · exact h.ends x e
        · subst e; show a.toNat < 64 ∧ b.toNat < 64; omega
      · intro x hx
        rcases new x hx with e | e
        · exact h.noLoop x e
        · subst e; show a.toNat ≠ b.toNat; omega
      · intro x hx
        rcases new x hx with e | e
        · exact h.rooms x e
        · subst e; exact r0
      · intro x hx
        rcases new x hx with e | e
        · exact h.wide x e
        · subst e; exact of_decide_eq_true r1
      · intro x hx
        rcases new x hx with e | e
        · exact h.dear x e
        · subst e; exact ⟨of_decide_eq_true k0, of_decide_eq_true k1⟩
    · exact ⟨h, by show n.length ≤ k; omega⟩
  | drop =>
    simp only [does]
    split
    · exact ⟨h, by show n.length ≤ k; simp [isArc] at hk; omega⟩
    · have sub : ∀ x, x ∈ n.dropLast → x ∈ n := fun x hx => List.dropLast_subset n hx
      have := h.few
      refine ⟨⟨by simp; omega, fun x hx => h.ends x (sub x hx), fun x hx => h.noLoop x (sub x hx), fun x hx => h.rooms x (sub x hx), fun x hx => h.wide x (sub x hx), fun x hx => h.dear x (sub x hx)⟩, ?_⟩
      simp [isArc] at hk
      simp; omega
  | _ => exact ⟨h, by show n.length ≤ k; omega⟩
theorem net_start : Net12 [] := ⟨by simp, by simp [Ends], by simp [NoLoop], by simp [Rooms], by simp, by simp⟩
end NF
end
section
namespace NF
open Sf13
noncomputable def farOf (a : Arc) (x : Int) (u : Nat) : Option Nat := if a.source = u ∧ x < a.room then some a.target else if a.target = u ∧ 0 < x then some a.source else none
theorem farOf_way {n : Abs} {f : List Int} {i : Nat} {a : Arc} {x : Int} {u v : Nat} (h1 : n[i]? = some a) (h2 : f[i]? = some x) (h : farOf a x u = some v) : ∃ y, IsWay n f y ∧ y.arc = i ∧ y.here = u ∧ y.there = v := by
  unfold farOf at h
  split at h
  · rename_i hc
    cases h
    exact ⟨⟨i, true, a.source, a.target, a.room - x, a.cost⟩, ⟨a, x, h1, h2, Or.inl ⟨rfl, rfl, rfl, rfl, hc.2, rfl⟩⟩, rfl, hc.1, rfl⟩
  · split at h
    · rename_i hc
      cases h
      exact ⟨⟨i, false, a.target, a.source, x, -a.cost⟩, ⟨a, x, h1, h2, Or.inr ⟨rfl, rfl, rfl, rfl, hc.2, rfl⟩⟩, rfl, hc.1, rfl⟩
    · cases h
theorem way_farOf {n : Abs} {f : List Int} (hL : NoLoop n) {y : Way} (hy : IsWay n f y) {a : Arc} {x : Int} (h1 : n[y.arc]? = some a) (h2 : f[y.arc]? = some x) : farOf a x y.here = some y.there := by
  obtain ⟨b, z, g1, g2, g3⟩ := hy
  rw [h1] at g1; cases g1
  rw [h2] at g2; cases g2
  have hne := hL a (mem_of_get h1)
  unfold farOf
  rcases g3 with g | g
  · rw [if_pos ⟨g.2.1.symm, g.2.2.2.2.1⟩, g.2.2.1]
  · rw [if_neg, if_pos ⟨g.2.1.symm, g.2.2.2.2.1⟩, g.2.2.1]
    intro e
    exact hne (by rw [e.1, g.2.1])
structure Ways (n : Abs) (f : List Int) (s : Nat) (ws : List (Nat × Option Nat)) : Prop where
  nodup : (ws.map Prod.fst).Nodup
  start : ws[0]? = some (s, none)
  arcs : ∀ k v o, ws[k]? = some (v, o) → k = 0 ∨ ∃ y j p, o = some y.arc ∧ IsWay n f y ∧ y.there = v ∧ j < k ∧ ws[j]? = some (y.here, p)
noncomputable def Shut1 (n : Abs) (f : List Int) (ws : List (Nat × Option Nat)) (k : Nat) : Prop := ∀ y j p, IsWay n f y → j < k → ws[j]? = some (y.here, p) → y.there ∈ ws.map Prod.fst
theorem Ways.first {n : Abs} {f : List Int} {s : Nat} : Ways n f s [(s, none)] := by
  refine ⟨by simp, by simp, ?_⟩
  intro k v o h
  left
  cases k with
  | zero => rfl
  | succ k => simp at h
theorem Ways.more {n : Abs} {f : List Int} {s : Nat} {ws : List (Nat × Option Nat)} (h : Ways n f s ws) {y : Way} {j : Nat} {p : Option Nat} (hy : IsWay n f y) (hj : ws[j]? = some (y.here, p)) (hn : y.there ∉ ws.map Prod.fst) :
    Ways n f s (ws ++ [(y.there, some y.arc)]) := by
  have hl := lt_of_get hj
  refine ⟨?_, ?_, ?_⟩
  · rw [List.map_append, List.nodup_append]
    refine ⟨h.nodup, by simp, ?_⟩
    intro a ha b hb e
    simp at hb
    subst hb; subst e
    exact hn ha
  · rw [List.getElem?_append_left (by omega)]; exact h.start
  · intro k v o hk
    rcases Nat.lt_or_ge k ws.length with h1 | h1
    · rw [List.getElem?_append_left h1] at hk
      rcases h.arcs k v o hk with h2 | ⟨z, i, q, g1, g2, g3, g4, g5⟩
      · exact Or.inl h2
      · exact Or.inr ⟨z, i, q, g1, g2, g3, g4, by rw [List.getElem?_append_left (by omega)]; exact g5⟩
    · right
      rw [List.getElem?_append_right h1] at hk
      have hk0 : k - ws.length = 0 := by
        have := lt_of_get hk
        simp at this; omega
      rw [hk0] at hk
      simp at hk
      refine ⟨y, j, p, hk.2.symm, hy, hk.1, by omega, ?_⟩
      rw [List.getElem?_append_left hl]; exact hj
theorem Ways.small {n : Abs} {f : List Int} {s : Nat} {ws : List (Nat × Option Nat)} (h : Ways n f s ws) (hs : s < 64) (he : Ends n) : ∀ v, v ∈ ws.map Prod.fst → v < 64 := by
  intro v hv
  obtain ⟨⟨u, o⟩, hm, e⟩ := List.mem_map.1 hv
  simp at e; subst e
  obtain ⟨k, hk⟩ := List.mem_iff_getElem?.1 hm
  rcases h.arcs k u o hk with h1 | ⟨y, j, p, _, h2, h3, _⟩
  · subst h1
    rw [h.start] at hk
    simp at hk; omega
  · rw [← h3]; exact (h2.along.ends he).2
theorem Ways.length {n : Abs} {f : List Int} {s : Nat} {ws : List (Nat × Option Nat)} (h : Ways n f s ws) (hs : s < 64) (he : Ends n) : ws.length ≤ 64 := by
  have := nodup_bound 64 _ h.nodup (h.small hs he)
  simpa using this
theorem Ways.chain {n : Abs} {f : List Int} {s : Nat} {ws : List (Nat × Option Nat)} (h : Ways n f s ws) : ∀ (k : Nat) (v : Nat) (o : Option Nat), ws[k]? = some (v, o) → ∃ p, Chain (IsWay n f) s p v := by
  intro k
  induction k using Nat.strongRecOn with
  | ind k ih =>
    intro v o hk
    rcases h.arcs k v o hk with h1 | ⟨y, j, q, _, h2, h3, h4, h5⟩
    · subst h1
      rw [h.start] at hk
      simp at hk
      exact ⟨[], hk.1.symm⟩
    · obtain ⟨p, hp⟩ := ih j h4 _ _ h5
      exact ⟨y :: p, h2, h3, hp⟩
theorem Ways.reach {n : Abs} {f : List Int} {s : Nat} {ws : List (Nat × Option Nat)} (h : Ways n f s ws) (hc : Shut1 n f ws ws.length) (v : Nat) : v ∈ ws.map Prod.fst ↔ ∃ p, Chain (IsWay n f) s p v := by
  constructor
  · intro hv
    obtain ⟨⟨u, o⟩, hm, e⟩ := List.mem_map.1 hv
    simp at e; subst e
    obtain ⟨k, hk⟩ := List.mem_iff_getElem?.1 hm
    exact h.chain k _ _ hk
  · rintro ⟨p, hp⟩
    induction p generalizing v with
    | nil =>
      simp [Chain] at hp
      rw [hp]
      exact List.mem_map.2 ⟨(s, none), List.mem_of_getElem? h.start, rfl⟩
    | cons y p ih =>
      have := ih _ hp.2.2
      obtain ⟨⟨u, o⟩, hm, e⟩ := List.mem_map.1 this
      simp at e; subst e
      obtain ⟨k, hk⟩ := List.mem_iff_getElem?.1 hm
      rw [← hp.2.1]
      exact hc y k o hp.1 (lt_of_get hk) hk
theorem rank_below {n : Abs} {f : List Int} {s : Nat} (r : Nat → Nat) : ∀ (p : List Way) (v : Nat), Chain (IsWay n f) s p v → (∀ y, y ∈ p → r y.here < r y.there) → ∀ y, y ∈ p → r y.there ≤ r v
  | [], v, _, _, y, hy => by simp at hy
  | z :: p, v, hc, hr, y, hy => by
    rcases List.mem_cons.1 hy with e | e
    · subst e; rw [hc.2.1]; exact Nat.le_refl _
    · have h1 := rank_below r p _ hc.2.2 (fun u hu => hr u (by simp [hu])) y e
      have h2 := hr z (by simp)
      rw [hc.2.1] at h2
      omega
theorem rank_apart {n : Abs} {f : List Int} {s : Nat} (r : Nat → Nat) : ∀ (p : List Way) (v : Nat), Chain (IsWay n f) s p v → (∀ y, y ∈ p → r y.here < r y.there) → Apart p
  | [], v, _, _ => List.Pairwise.nil
  | z :: p, v, hc, hr => by
    refine List.Pairwise.cons ?_ (rank_apart r p _ hc.2.2 (fun u hu => hr u (by simp [hu])))
    intro y hy hne
    have h1 := rank_below r p _ hc.2.2 (fun u hu => hr u (by simp [hu])) y hy
    have h2 := hr z (by simp)
    have h3 := hr y (by simp [hy])
    obtain ⟨a, ha, ha2⟩ := (hc.2.2.all y hy).along
    obtain ⟨b, hb, hb2⟩ := hc.1.along
    rw [hne, ha] at hb
    cases hb
    rcases ha2 with g | g <;> rcases hb2 with k | k
    · rw [k.2.1, k.2.2.1] at h2; rw [k.2.1, g.2.2.1] at h1; omega
    · rw [k.2.1, k.2.2.1] at h2; rw [g.2.1, g.2.2.1] at h3; omega
    · rw [k.2.1, k.2.2.1] at h2; rw [g.2.1, g.2.2.1] at h3; omega
    · rw [k.2.1, k.2.2.1] at h2; rw [k.2.1, g.2.2.1] at h1; omega
noncomputable def rankOf (ws : List (Nat × Option Nat)) (v : Nat) : Nat := (ws.map Prod.fst).idxOf v
theorem rankOf_at {ws : List (Nat × Option Nat)} (hn : (ws.map Prod.fst).Nodup) {k : Nat} {v : Nat} {o : Option Nat} (h : ws[k]? = some (v, o)) : rankOf ws v = k := by
  unfold rankOf
  have hk : (ws.map Prod.fst)[k]? = some v := by simp [h]
  obtain ⟨hl, e⟩ := List.getElem?_eq_some_iff.1 hk
  rw [← e]
  exact hn.idxOf_getElem k hl
theorem take_snoc {α : Type} : ∀ {l : List α} {i : Nat} {x : α}, l[i]? = some x → l.take (i + 1) = l.take i ++ [x]
  | [], i, x, h => by simp at h
  | a :: l, 0, x, h => by simp at h; simp [h]
  | a :: l, i + 1, x, h => by
    have ih := take_snoc (l := l) (i := i) (x := x) (by simpa using h)
    simp [ih]
theorem W_snoc : ∀ (n : Abs) (f : List Int) (a : Arc) (x : Int) (w : Arc → Int), n.length = f.length → W (n ++ [a]) (f ++ [x]) w = W n f w + w a * x
  | [], [], a, x, w, _ => by simp [W]
  | [], y :: f, a, x, w, h => by simp at h
  | b :: n, [], a, x, w, h => by simp at h
  | b :: n, y :: f, a, x, w, h => by
    rw [List.cons_append, List.cons_append, W_cons, W_cons, W_snoc n f a x w (by simpa using h)]
    omega
theorem out_step {n : Abs} {f : List Int} (hl : f.length = n.length) {i : Nat} {a : Arc} {x : Int} (h1 : n[i]? = some a) (h2 : f[i]? = some x) (v : Nat) :
    out (n.take (i + 1)) (f.take (i + 1)) v = out (n.take i) (f.take i) v + (if a.source = v then x else 0) - (if a.target = v then x else 0) := by
  rw [out_W, out_W, take_snoc h1, take_snoc h2, W_snoc _ _ _ _ _ (by simp [hl])]
  unfold ind
  split <;> split <;> simp <;> omega
theorem moved_append (f : List Int) (p q : List Way) (d : Int) : moved f (p ++ q) d = moved (moved f p d) q d := by
  unfold moved; rw [List.foldl_append]
theorem moved_step (f : List Int) {p : List Way} {i : Nat} {y : Way} (h : p[i]? = some y) (d : Int) :
    moved f (p.take (i + 1)) d = (moved f (p.take i) d).set y.arc ((moved f (p.take i) d).getD y.arc 0 + (if y.forth = true then d else -d)) := by
  rw [take_snoc h, moved_append]; rfl
end NF
end
section
namespace NF
open Sf13
section
variable {α : Type}
noncomputable def val : List (Nat × α) → Nat → Option α
  | [], _ => none
  | e :: r, v => if e.1 = v then some e.2 else val r v
noncomputable def put : List (Nat × α) → Nat → α → List (Nat × α)
  | [], v, x => [(v, x)]
  | e :: r, v, x => if e.1 = v then (v, x) :: r else e :: put r v x
noncomputable def keys (A : List (Nat × α)) : List Nat := A.map Prod.fst
theorem val_put : ∀ (A : List (Nat × α)) (v : Nat) (x : α) (u : Nat), val (put A v x) u = if u = v then some x else val A u
  | [], v, x, u => by
    simp only [put, val]
    by_cases h : v = u
    · simp [h]
    · rw [if_neg h, if_neg (fun z => h z.symm)]
  | e :: r, v, x, u => by
    have ih := val_put r v x u
    simp only [put]
    by_cases h : e.1 = v
    · rw [if_pos h]
      simp only [val]
      by_cases h2 : v = u
      · rw [if_pos h2, if_pos h2.symm]
      · rw [if_neg h2, if_neg (fun z => h2 z.symm), if_neg (fun z => h2 (h.symm.trans z))]
    · rw [if_neg h]
      simp only [val]
      by_cases h2 : e.1 = u
      · rw [if_pos h2, if_pos h2, if_neg (fun z => h (h2.trans z))]
      · rw [if_neg h2, if_neg h2, ih]
theorem val_none : ∀ {A : List (Nat × α)} {v : Nat}, val A v = none ↔ v ∉ keys A
  | [], v => by simp [val, keys]
  | e :: r, v => by
    have ih := val_none (A := r) (v := v)
    simp only [val, keys, List.map_cons, List.mem_cons] at ih ⊢
    by_cases h : e.1 = v
    · simp [h]
    · rw [if_neg h, ih]
      constructor
      · rintro h1 (h2 | h2)
        · exact h h2.symm
        · exact h1 h2
      · intro h1 h2; exact h1 (Or.inr h2)
theorem val_some_key {A : List (Nat × α)} {v : Nat} {x : α} (h : val A v = some x) : v ∈ keys A := by
  apply Classical.byContradiction
  intro hn
  rw [val_none.2 hn] at h; cases h
theorem key_val {A : List (Nat × α)} {v : Nat} (h : v ∈ keys A) : ∃ x, val A v = some x := by
  cases e : val A v with
  | none => exact absurd h (val_none.1 e)
  | some x => exact ⟨x, rfl⟩
theorem keys_put_old : ∀ {A : List (Nat × α)} {v : Nat} {x : α}, v ∈ keys A → keys (put A v x) = keys A
  | [], v, x, h => by simp [keys] at h
  | e :: r, v, x, h => by
    simp only [put]
    by_cases h1 : e.1 = v
    · rw [if_pos h1]; simp [keys, h1]
    · rw [if_neg h1]
      have : v ∈ keys r := by
        simp only [keys, List.map_cons, List.mem_cons] at h
        rcases h with h | h
        · exact absurd h.symm h1
        · exact h
      have ih := keys_put_old (x := x) this
      simp only [keys, List.map_cons] at ih ⊢
      rw [ih]
theorem put_new : ∀ {A : List (Nat × α)} {v : Nat} {x : α}, v ∉ keys A → put A v x = A ++ [(v, x)]
  | [], v, x, h => rfl
  | e :: r, v, x, h => by
    simp only [keys, List.map_cons, List.mem_cons, not_or] at h
    simp only [put]
    rw [if_neg (fun z => h.1 z.symm), put_new h.2]
    rfl
theorem mem_val : ∀ {A : List (Nat × α)} {v : Nat} {x : α}, (keys A).Nodup → ((v, x) ∈ A ↔ val A v = some x)
  | [], v, x, _ => by simp [val]
  | e :: r, v, x, h => by
    simp only [keys, List.map_cons, List.nodup_cons] at h
    have ih := mem_val (A := r) (v := v) (x := x) h.2
    simp only [List.mem_cons, val]
    by_cases h1 : e.1 = v
    · rw [if_pos h1]
      constructor
      · rintro (h2 | h2)
        · rw [← h2]
        · exact absurd (List.mem_map.2 ⟨(v, x), h2, h1.symm⟩) h.1
      · intro h2; left
        cases e; simp at h1 h2; rw [h1, h2]
    · rw [if_neg h1, ← ih]
      constructor
      · rintro (h2 | h2)
        · rw [← h2] at h1; exact absurd rfl h1
        · exact h2
      · exact Or.inr
noncomputable def tot (g : Nat → α → Nat) (A : List (Nat × α)) : Nat := (A.map fun e => g e.1 e.2).sum
theorem tot_put : ∀ {A : List (Nat × α)} {v : Nat} {x : α} (y : α) (g : Nat → α → Nat), val A v = some x → tot g (put A v y) + g v x = tot g A + g v y
  | [], v, x, y, g, h => by simp [val] at h
  | e :: r, v, x, y, g, h => by
    simp only [val] at h
    simp only [put, tot]
    by_cases h1 : e.1 = v
    · rw [if_pos h1] at h ⊢
      cases h
      simp [h1]; omega
    · rw [if_neg h1] at h ⊢
      have ih := tot_put y g h
      simp only [tot] at ih
      simp; omega
theorem put_len {A : List (Nat × α)} {v : Nat} {x : α} (h : v ∈ keys A) : (put A v x).length = A.length := by
  have := congrArg List.length (keys_put_old (x := x) h)
  simpa [keys] using this
theorem val_map {β : Type} (g : α → β) : ∀ (A : List (Nat × α)) (v : Nat), val (A.map fun e => (e.1, g e.2)) v = (val A v).map g
  | [], v => rfl
  | e :: r, v => by
    have ih := val_map g r v
    simp only [List.map_cons, val]
    by_cases h : e.1 = v
    · rw [if_pos h, if_pos h]; rfl
    · rw [if_neg h, if_neg h, ih]
theorem put_map {β : Type} (g : α → β) : ∀ (A : List (Nat × α)) (v : Nat) (x : α), (put A v x).map (fun e => (e.1, g e.2)) = put (A.map fun e => (e.1, g e.2)) v (g x)
  | [], v, x => rfl
  | e :: r, v, x => by
    have ih := put_map g r v x
    simp only [List.map_cons, put]
    by_cases h : e.1 = v
    · rw [if_pos h, if_pos h]; rfl
    · rw [if_neg h, if_neg h, List.map_cons, ih]
theorem keys_map {β : Type} (g : α → β) (A : List (Nat × α)) : keys (A.map fun e => (e.1, g e.2)) = keys A := by
  unfold keys; rw [List.map_map]; rfl
end
noncomputable def Less (a b : Nat × Nat × Nat) : Prop := a.1 < b.1 ∨ (a.1 = b.1 ∧ (a.2.1 < b.2.1 ∨ (a.2.1 = b.2.1 ∧ a.2.2 < b.2.2)))
theorem Less.trans {a b c : Nat × Nat × Nat} (h : Less a b) (g : Less b c) : Less a c := by
  rcases h with h | ⟨h0, h | ⟨h1, h⟩⟩
  · rcases g with g | ⟨g0, _⟩
    · exact Or.inl (Nat.lt_trans h g)
    · exact Or.inl (Nat.lt_of_lt_of_eq h g0)
  · rcases g with g | ⟨g0, g | ⟨g1, _⟩⟩
    · exact Or.inl (Nat.lt_of_le_of_lt (Nat.le_of_eq h0) g)
    · exact Or.inr ⟨h0.trans g0, Or.inl (Nat.lt_trans h g)⟩
    · exact Or.inr ⟨h0.trans g0, Or.inl (Nat.lt_of_lt_of_eq h g1)⟩
  · rcases g with g | ⟨g0, g | ⟨g1, g⟩⟩
    · exact Or.inl (Nat.lt_of_le_of_lt (Nat.le_of_eq h0) g)
    · exact Or.inr ⟨h0.trans g0, Or.inl (Nat.lt_of_le_of_lt (Nat.le_of_eq h1) g)⟩
    · exact Or.inr ⟨h0.trans g0, Or.inr ⟨h1.trans g1, Nat.lt_trans h g⟩⟩
theorem less_ind {P : Nat × Nat × Nat → Prop} (h : ∀ b, (∀ a, Less a b → P a) → P b) : ∀ b, P b := by
  rintro ⟨x, y, z⟩
  induction x using Nat.strongRecOn generalizing y z with
  | ind x ihx =>
    induction y using Nat.strongRecOn generalizing z with
    | ind y ihy =>
      induction z using Nat.strongRecOn with
      | ind z ihz =>
        apply h
        rintro ⟨a, b, c⟩ h1
        unfold Less at h1
        dsimp only at h1
        rcases h1 with h1 | ⟨h0, h1 | ⟨h1, h2⟩⟩
        · exact ihx a h1 b c
        · subst h0; exact ihy b h1 c
        · subst h0; subst h1; exact ihz c h2
structure Ent where
  arc : Option Nat
  c : Int
  k : Nat
noncomputable abbrev Tab := List (Nat × Ent)
noncomputable def lt2 (c : Int) (k : Nat) (c' : Int) (k' : Nat) : Prop := c < c' ∨ (c = c' ∧ k < k')
noncomputable instance (c : Int) (k : Nat) (c' : Int) (k' : Nat) : Decidable (lt2 c k c' k') := by unfold lt2; infer_instance
noncomputable def entOf (x : Ent) (y : Way) : Ent := ⟨some y.arc, x.c + y.cost, x.k + 1⟩
noncomputable def relax (A : Tab) (y : Way) : Tab × Bool := match val A y.here with
  | none => (A, false)
  | some x => match val A y.there with
    | none => (put A y.there (entOf x y), true)
    | some e => if lt2 (x.c + y.cost) (x.k + 1) e.c e.k then (put A y.there (entOf x y), true) else (A, false)
noncomputable def relaxB (st : Tab × Bool) (y : Way) : Tab × Bool := ((relax st.1 y).1, st.2 || (relax st.1 y).2)
noncomputable def pass (S : List Way) (A : Tab) : Tab × Bool := S.foldl relaxB (A, false)
noncomputable def Calm (A : Tab) (y : Way) : Prop := ∀ x, val A y.here = some x → ∃ e, val A y.there = some e ∧ ¬ lt2 (x.c + y.cost) (x.k + 1) e.c e.k
structure Lab (S : Way → Prop) (q : Nat → Int) (s : Nat) (A : Tab) : Prop where
  nodup : (keys A).Nodup
  small : ∀ v, v ∈ keys A → v < 64
  start : val A s = some ⟨none, 0, 0⟩
  low : ∀ v e, val A v = some e → q v - q s ≤ e.c
  arcs : ∀ v e, val A v = some e → (v = s ∧ e.arc = none) ∨ ∃ y x, S y ∧ e.arc = some y.arc ∧ y.there = v ∧ val A y.here = some x ∧ ¬ lt2 e.c e.k (x.c + y.cost) (x.k + 1)
noncomputable def size3 (q : Nat → Int) (s : Nat) (A : Tab) : Nat × Nat × Nat := (64 - A.length, tot (fun v e => (e.c - (q v - q s)).toNat) A, tot (fun _ e => e.k) A)
theorem Lab.first {S : Way → Prop} {q : Nat → Int} {s : Nat} (hs : s < 64) : Lab S q s [(s, ⟨none, 0, 0⟩)] := by
  have hv : ∀ v e, val [(s, (⟨none, 0, 0⟩ : Ent))] v = some e → v = s ∧ e = ⟨none, 0, 0⟩ := by
    intro v e h
    simp only [val] at h
    by_cases h1 : s = v
    · rw [if_pos h1] at h; cases h; exact ⟨h1.symm, rfl⟩
    · rw [if_neg h1] at h; cases h
  refine ⟨by simp [keys], ?_, by simp [val], ?_, ?_⟩
  · intro v hv; simp [keys] at hv; omega
  · intro v e h
    obtain ⟨rfl, rfl⟩ := hv v e h
    simp
  · intro v e h
    obtain ⟨rfl, rfl⟩ := hv v e h
    exact Or.inl ⟨rfl, rfl⟩
theorem Lab.len {S : Way → Prop} {q : Nat → Int} {s : Nat} {A : Tab} (h : Lab S q s A) : A.length ≤ 64 := by
  have := nodup_bound 64 _ h.nodup h.small
  simpa [keys] using this
theorem Lab.put {S : Way → Prop} {q : Nat → Int} {s : Nat} {A : Tab} (h : Lab S q s A) (hq : ∀ y, S y → q y.there ≤ q y.here + y.cost) (hne : ∀ y, S y → y.here ≠ y.there) (hsm : ∀ y, S y → y.there < 64)
    {y : Way} (hy : S y) {x : Ent} (hx : val A y.here = some x) (hb : ∀ e, val A y.there = some e → lt2 (x.c + y.cost) (x.k + 1) e.c e.k) :
    Lab S q s (put A y.there (entOf x y)) ∧ Less (size3 q s (NF.put A y.there (entOf x y))) (size3 q s A) := by
  have hlow := h.low _ _ hx
  have hqy := hq y hy
  have hn := hne y hy
  have hts : y.there ≠ s := by
    intro e
    have := hb _ (by rw [e]; exact h.start)
    rw [e] at hqy
    unfold lt2 at this
    dsimp only at this
    omega
  have hlen := h.len
  have hvv : ∀ v e, val (NF.put A y.there (entOf x y)) v = some e → (v = y.there ∧ e = entOf x y) ∨ (v ≠ y.there ∧ val A v = some e) := by
    intro v e h1
    rw [val_put] at h1
    by_cases h2 : v = y.there
    · rw [if_pos h2] at h1; cases h1; exact Or.inl ⟨h2, rfl⟩
    · rw [if_neg h2] at h1; exact Or.inr ⟨h2, h1⟩
  have lab : Lab S q s (NF.put A y.there (entOf x y)) := by
    refine ⟨?_, ?_, ?_, ?_, ?_⟩
    · by_cases hk : y.there ∈ keys A
      · rw [keys_put_old hk]; exact h.nodup
      · rw [put_new hk]
        unfold keys
        rw [List.map_append, List.nodup_append]
        refine ⟨h.nodup, by simp, ?_⟩
        intro a ha b hb2 e
        simp at hb2
        subst hb2; subst e
        exact hk ha
    · intro v hv
      by_cases hk : y.there ∈ keys A
      · rw [keys_put_old hk] at hv; exact h.small v hv
      · rw [put_new hk] at hv
        unfold keys at hv
        rw [List.map_append, List.mem_append] at hv
        rcases hv with hv | hv
        · exact h.small v hv
        · simp at hv; rw [hv]; exact hsm y hy
    · rw [val_put, if_neg (fun e => hts e.symm)]; exact h.start
    · intro v e h1
      rcases hvv v e h1 with ⟨rfl, rfl⟩ | ⟨h2, h3⟩
      · show q y.there - q s ≤ x.c + y.cost
        omega
      · exact h.low v e h3
    · intro v e h1
      rcases hvv v e h1 with ⟨rfl, rfl⟩ | ⟨h2, h3⟩
      · refine Or.inr ⟨y, x, hy, rfl, rfl, by rw [val_put, if_neg hn]; exact hx, ?_⟩
        unfold lt2 entOf; dsimp only; omega
      · rcases h.arcs v e h3 with g | ⟨z, w, g1, g2, g3, g4, g5⟩
        · exact Or.inl g
        · right
          by_cases hz : z.here = y.there
          · refine ⟨z, entOf x y, g1, g2, g3, by rw [val_put, if_pos hz], ?_⟩
            rw [hz] at g4
            have := hb _ g4
            unfold lt2 entOf at *; dsimp only; omega
          · exact ⟨z, w, g1, g2, g3, by rw [val_put, if_neg hz]; exact g4, g5⟩
  refine ⟨lab, ?_⟩
  cases he : val A y.there with
  | none =>
    have hk := val_none.1 he
    have hl2 := lab.len
    rw [put_new hk] at hl2 ⊢
    unfold size3 Less
    left
    simp at hl2 ⊢
    omega
  | some e =>
    have hk := val_some_key he
    have h1 := hb e he
    have t1 := tot_put (entOf x y) (fun v e => (e.c - (q v - q s)).toNat) he
    have t2 := tot_put (entOf x y) (fun _ e => e.k) he
    have l1 := h.low _ _ he
    unfold size3 Less
    right
    dsimp only
    rw [put_len hk]
    refine ⟨rfl, ?_⟩
    have t1 : tot (fun v e => (e.c - (q v - q s)).toNat) (NF.put A y.there (entOf x y)) + (e.c - (q y.there - q s)).toNat = tot (fun v e => (e.c - (q v - q s)).toNat) A + (x.c + y.cost - (q y.there - q s)).toNat := t1
    have t2 : tot (fun _ e => e.k) (NF.put A y.there (entOf x y)) + e.k = tot (fun _ e => e.k) A + (x.k + 1) := t2
    generalize tot (fun v e => (e.c - (q v - q s)).toNat) (NF.put A y.there (entOf x y)) = m1 at *
    generalize tot (fun v e => (e.c - (q v - q s)).toNat) A = m2 at *
    generalize tot (fun _ e => e.k) (NF.put A y.there (entOf x y)) = m3 at *
    generalize tot (fun _ e => e.k) A = m4 at *
    rcases h1 with h1 | ⟨h1, h2⟩
    · left
      clear t2
      omega
    · right
      rw [h1] at t1
      clear hb hvv lab
      omega
theorem relax_calm {A : Tab} {y : Way} (h : (relax A y).2 = false) : (relax A y).1 = A ∧ Calm A y := by
  unfold relax at h ⊢
  unfold Calm
  cases hx : val A y.here with
  | none => exact ⟨rfl, fun x h => by cases h⟩
  | some x =>
    rw [hx] at h
    dsimp only at h ⊢
    cases he : val A y.there with
    | none => rw [he] at h; cases h
    | some e =>
      rw [he] at h
      dsimp only at h ⊢
      split at h
      · cases h
      · rename_i hc
        refine ⟨by rw [if_neg hc], fun x' h' => ?_⟩
        cases h'
        exact ⟨e, rfl, hc⟩
theorem Lab.relax {S : Way → Prop} {q : Nat → Int} {s : Nat} {A : Tab} (h : Lab S q s A) (hq : ∀ y, S y → q y.there ≤ q y.here + y.cost) (hne : ∀ y, S y → y.here ≠ y.there) (hsm : ∀ y, S y → y.there < 64)
    {y : Way} (hy : S y) : Lab S q s (NF.relax A y).1 ∧ ((NF.relax A y).2 = true → Less (size3 q s (NF.relax A y).1) (size3 q s A)) := by
  unfold NF.relax
  cases hx : val A y.here with
  | none => exact ⟨h, fun e => by cases e⟩
  | some x =>
    dsimp only
    cases he : val A y.there with
    | none =>
      have := h.put hq hne hsm hy hx (fun e he' => by rw [he] at he'; cases he')
      exact ⟨this.1, fun _ => this.2⟩
    | some e =>
      dsimp only
      split
      · rename_i hc
        have := h.put hq hne hsm hy hx (fun e' he' => by rw [he] at he'; cases he'; exact hc)
        exact ⟨this.1, fun _ => this.2⟩
      · exact ⟨h, fun e => by cases e⟩
theorem pass_ok {S : Way → Prop} {q : Nat → Int} {s : Nat} (hq : ∀ y, S y → q y.there ≤ q y.here + y.cost) (hne : ∀ y, S y → y.here ≠ y.there) (hsm : ∀ y, S y → y.there < 64) :
    ∀ (l : List Way) (A : Tab) (b : Bool), (∀ y, y ∈ l → S y) → Lab S q s A → Lab S q s (l.foldl relaxB (A, b)).1 ∧
      (((l.foldl relaxB (A, b)).2 = b ∧ (l.foldl relaxB (A, b)).1 = A ∧ ∀ y, y ∈ l → Calm A y) ∨ ((l.foldl relaxB (A, b)).2 = true ∧ Less (size3 q s (l.foldl relaxB (A, b)).1) (size3 q s A)))
  | [], A, b, _, h => ⟨h, Or.inl ⟨rfl, rfl, fun y hy => by simp at hy⟩⟩
  | y :: l, A, b, hl, h => by
    obtain ⟨r1, r2⟩ := h.relax hq hne hsm (hl y (by simp))
    have ih := pass_ok hq hne hsm l (relax A y).1 (b || (relax A y).2) (fun z hz => hl z (by simp [hz])) r1
    show Lab S q s (l.foldl relaxB ((relax A y).1, b || (relax A y).2)).1 ∧ _
    refine ⟨ih.1, ?_⟩
    show ((l.foldl relaxB ((relax A y).1, b || (relax A y).2)).2 = b ∧ (l.foldl relaxB ((relax A y).1, b || (relax A y).2)).1 = A ∧ _) ∨ ((l.foldl relaxB ((relax A y).1, b || (relax A y).2)).2 = true ∧ Less (size3 q s (l.foldl relaxB ((relax A y).1, b || (relax A y).2)).1) _)
    cases hc : (relax A y).2 with
    | false =>
      obtain ⟨c1, c2⟩ := relax_calm hc
      rw [c1, hc, Bool.or_false] at ih
      rw [c1, Bool.or_false]
      rcases ih.2 with ⟨g1, g2, g3⟩ | g
      · refine Or.inl ⟨g1, g2, ?_⟩
        intro z hz
        rcases List.mem_cons.1 hz with e | e
        · subst e; exact c2
        · exact g3 z e
      · exact Or.inr g
    | true =>
      rw [hc] at ih
      right
      rcases ih.2 with ⟨g1, g2, _⟩ | ⟨g1, g2⟩
      · refine ⟨by rw [g1]; simp, ?_⟩
        rw [g2]; exact r2 hc
      · exact ⟨g1, g2.trans (r2 hc)⟩
inductive Runs (S : List Way) : Tab → Nat → Prop
  | stop {A : Tab} : (pass S A).2 = false → Runs S A 0
  | go {A : Tab} {t : Nat} : Runs S (pass S A).1 t → Runs S A (t + 1)
theorem runs_ex {S : List Way} {q : Nat → Int} {s : Nat} (hq : ∀ y, y ∈ S → q y.there ≤ q y.here + y.cost) (hne : ∀ y, y ∈ S → y.here ≠ y.there) (hsm : ∀ y, y ∈ S → y.there < 64) (A : Tab) (h : Lab (fun y => y ∈ S) q s A) : ∃ t, Runs S A t := by
  have key : ∀ b, ∀ A, size3 q s A = b → Lab (fun y => y ∈ S) q s A → ∃ t, Runs S A t := by
    refine less_ind ?_
    intro b ih A hb h
    obtain ⟨p1, p2⟩ := pass_ok (S := fun y => y ∈ S) hq hne hsm S A false (fun y hy => hy) h
    cases hc : (pass S A).2 with
    | false => exact ⟨0, .stop hc⟩
    | true =>
      rcases p2 with ⟨g, _⟩ | ⟨_, g⟩
      · have : (pass S A).2 = false := g
        rw [hc] at this; cases this
      · obtain ⟨t, ht⟩ := ih (size3 q s (pass S A).1) (by rw [← hb]; exact g) _ rfl p1
        exact ⟨t + 1, .go ht⟩
  exact key _ A rfl h
structure Back (n : Abs) (f : List Int) (s : Nat) (ws : List (Nat × Option Nat)) (r : Nat → Nat) : Prop where
  nodup : (ws.map Prod.fst).Nodup
  arcs : ∀ v o, (v, o) ∈ ws → (v = s ∧ o = none) ∨ ∃ y p, o = some y.arc ∧ IsWay n f y ∧ y.there = v ∧ r y.here < r v ∧ (y.here, p) ∈ ws
theorem Ways.toBack {n : Abs} {f : List Int} {s : Nat} {ws : List (Nat × Option Nat)} (h : Ways n f s ws) : Back n f s ws (rankOf ws) := by
  refine ⟨h.nodup, ?_⟩
  intro v o hm
  obtain ⟨k, hk⟩ := List.mem_iff_getElem?.1 hm
  rcases h.arcs k v o hk with h1 | ⟨y, j, p, g1, g2, g3, g4, g5⟩
  · subst h1
    rw [h.start] at hk
    simp at hk
    exact Or.inl ⟨hk.1.symm, hk.2.symm⟩
  · refine Or.inr ⟨y, p, g1, g2, g3, ?_, List.mem_of_getElem? g5⟩
    rw [rankOf_at h.nodup g5, rankOf_at h.nodup hk]
    exact g4
structure Cheap (n : Abs) (f : List Int) (s : Nat) (ws : List (Nat × Option Nat)) (c : Nat → Int) (r : Nat → Nat) : Prop where
  back : Back n f s ws r
  start : s ∈ ws.map Prod.fst
  zero : c s = 0
  shut : ∀ y, IsWay n f y → y.here ∈ ws.map Prod.fst → y.there ∈ ws.map Prod.fst ∧ c y.there ≤ c y.here + y.cost
  tight : ∀ y, IsWay n f y → (y.there, some y.arc) ∈ ws → c y.there = c y.here + y.cost
theorem way_same {n : Abs} {f : List Int} (hL : NoLoop n) {y z : Way} (hy : IsWay n f y) (hz : IsWay n f z) (ha : y.arc = z.arc) (ht : y.there = z.there) : y.here = z.here ∧ y.cost = z.cost := by
  obtain ⟨a, g1, g2⟩ := hy.along
  obtain ⟨b, k1, k2⟩ := hz.along
  rw [ha, k1] at g1
  cases g1
  have hne := hL _ (mem_of_get k1)
  rcases g2 with g | g <;> rcases k2 with k | k
  · exact ⟨by rw [g.2.1, k.2.1], by rw [g.2.2.2, k.2.2.2]⟩
  · exfalso; apply hne; rw [← k.2.2.1, ← ht, g.2.2.1]
  · exfalso; apply hne; rw [← g.2.2.1, ht, k.2.2.1]
  · exact ⟨by rw [g.2.1, k.2.1], by rw [g.2.2.2, k.2.2.2]⟩
noncomputable def wsOf (A : Tab) : List (Nat × Option Nat) := A.map fun e => (e.1, e.2.arc)
noncomputable def cOf (A : Tab) (v : Nat) : Int := match val A v with
  | some e => e.c
  | none => 0
noncomputable def kOf (A : Tab) (v : Nat) : Nat := match val A v with
  | some e => e.k
  | none => 0
theorem cOf_at {A : Tab} {v : Nat} {e : Ent} (h : val A v = some e) : cOf A v = e.c := by unfold cOf; rw [h]
theorem kOf_at {A : Tab} {v : Nat} {e : Ent} (h : val A v = some e) : kOf A v = e.k := by unfold kOf; rw [h]
theorem Lab.cheap {n : Abs} {f : List Int} (hL : NoLoop n) {q : Nat → Int} {s : Nat} {A : Tab} (h : Lab (IsWay n f) q s A) (hc : ∀ y, IsWay n f y → Calm A y) : Cheap n f s (wsOf A) (cOf A) (kOf A) := by
  have hk : (wsOf A).map Prod.fst = keys A := keys_map Ent.arc A
  have hnd : (keys (wsOf A)).Nodup := by show ((wsOf A).map Prod.fst).Nodup; rw [hk]; exact h.nodup
  have hws : ∀ v o, (v, o) ∈ wsOf A ↔ ∃ e, val A v = some e ∧ o = e.arc := by
    intro v o
    rw [mem_val hnd]
    show val (A.map fun e => (e.1, e.2.arc)) v = some o ↔ _
    rw [val_map Ent.arc]
    cases val A v with
    | none => simp
    | some e => simp; exact ⟨fun h => h.symm, fun h => h.symm⟩
  refine ⟨⟨by rw [hk]; exact h.nodup, ?_⟩, ?_, ?_, ?_, ?_⟩
  · intro v o hm
    obtain ⟨e, he, rfl⟩ := (hws v o).1 hm
    rcases h.arcs v e he with g | ⟨y, x, g1, g2, g3, g4, g5⟩
    · exact Or.inl g
    · refine Or.inr ⟨y, x.arc, g2, g1, g3, ?_, (hws _ _).2 ⟨x, g4, rfl⟩⟩
      obtain ⟨e', c1, c2⟩ := hc y g1 x g4
      rw [g3, he] at c1
      cases c1
      rw [kOf_at g4, kOf_at he]
      unfold lt2 at g5 c2
      omega
  · rw [hk]; exact val_some_key h.start
  · rw [cOf_at h.start]
  · intro y hy hh
    rw [hk] at hh ⊢
    obtain ⟨x, hx⟩ := key_val hh
    obtain ⟨e, c1, c2⟩ := hc y hy x hx
    refine ⟨val_some_key c1, ?_⟩
    rw [cOf_at c1, cOf_at hx]
    unfold lt2 at c2
    omega
  · intro y hy hm
    obtain ⟨e, he, ho⟩ := (hws _ _).1 hm
    rcases h.arcs _ e he with g | ⟨z, x, g1, g2, g3, g4, g5⟩
    · rw [g.2] at ho; cases ho
    · have hz : z.arc = y.arc := by rw [g2] at ho; injection ho with ho; exact ho.symm
      obtain ⟨w1, w2⟩ := way_same hL g1 hy hz g3
      obtain ⟨e', c1, c2⟩ := hc z g1 x g4
      rw [g3, he] at c1
      cases c1
      rw [cOf_at he, ← w1, cOf_at g4, ← w2]
      unfold lt2 at g5 c2
      omega
end NF
end
section
namespace NF
open Sf13
noncomputable def Fair (n : Abs) (f : List Int) (p : Nat → Int) : Prop := ∀ y, IsWay n f y → p y.there ≤ p y.here + y.cost
theorem bound_all (g : Nat → Int) : ∀ N, ∃ B : Int, 0 ≤ B ∧ ∀ v, v < N → g v ≤ B
  | 0 => ⟨0, by omega, fun v h => by omega⟩
  | N + 1 => by
    obtain ⟨B, h1, h2⟩ := bound_all g N
    refine ⟨max B (g N), by omega, ?_⟩
    intro v hv
    rcases Nat.lt_or_ge v N with h | h
    · have := h2 v h; omega
    · have : v = N := by omega
      subst this; omega
theorem Cheap.prices {n : Abs} {f : List Int} {s : Nat} {ws : List (Nat × Option Nat)} {c : Nat → Int} {r : Nat → Nat} (h : Cheap n f s ws c r) (he : Ends n) {q : Nat → Int} (hq : Fair n f q) (M : Int) :
    ∃ p : Nat → Int, Fair n f p ∧ (∀ v, v ∈ ws.map Prod.fst → p v = c v) ∧ ∀ v, v < 64 → v ∉ ws.map Prod.fst → M ≤ p v := by
  obtain ⟨B, b0, b1⟩ := bound_all (fun v => c v - q v) 64
  obtain ⟨D, d0, d1⟩ := bound_all (fun v => M - q v) 64
  refine ⟨fun v => if v ∈ ws.map Prod.fst then c v else q v + (B + D), ?_, ?_, ?_⟩
  · intro y hy
    have hf := hq y hy
    have he2 := (hy.along.ends he)
    dsimp only
    by_cases h1 : y.here ∈ ws.map Prod.fst
    · obtain ⟨h2, h3⟩ := h.shut y hy h1
      rw [if_pos h1, if_pos h2]; exact h3
    · rw [if_neg h1]
      by_cases h2 : y.there ∈ ws.map Prod.fst
      · rw [if_pos h2]
        have := b1 y.there he2.2
        omega
      · rw [if_neg h2]; omega
  · intro v hv
    dsimp only
    rw [if_pos hv]
  · intro v hv hn
    dsimp only
    rw [if_neg hn]
    have := d1 v hv
    omega
theorem along_same {n : Abs} {y z : Way} (hy : Along n y) (hz : Along n z) (ha : y.arc = z.arc) (hf : y.forth = z.forth) : y.cost = z.cost := by
  obtain ⟨a, g1, g2⟩ := hy
  obtain ⟨b, k1, k2⟩ := hz
  rw [ha, k1] at g1
  cases g1
  rcases g2 with g | g <;> rcases k2 with k | k
  · rw [g.2.2.2, k.2.2.2]
  · rw [g.1, k.1] at hf; cases hf
  · rw [g.1, k.1] at hf; cases hf
  · rw [g.2.2.2, k.2.2.2]
theorem along_turned {n : Abs} {y z : Way} (hy : Along n y) (hz : Along n z) (ha : y.arc = z.arc) (hf : z.forth = !y.forth) : z.cost = -y.cost := by
  obtain ⟨a, g1, g2⟩ := hy
  obtain ⟨b, k1, k2⟩ := hz
  rw [ha, k1] at g1
  cases g1
  rcases g2 with g | g <;> rcases k2 with k | k
  · rw [g.1, k.1] at hf; cases hf
  · rw [g.2.2.2, k.2.2.2]
  · rw [g.2.2.2, k.2.2.2]; omega
  · rw [g.1, k.1] at hf; cases hf
theorem Fair.moved {n : Abs} {f : List Int} {p : Nat → Int} (h : Fair n f p) {l : List Way} {d : Int} (hw : ∀ y, y ∈ l → IsWay n f y) (ha : Apart l) (hd : 0 ≤ d)
    (ht : ∀ y, y ∈ l → p y.there = p y.here + y.cost) : Fair n (moved f l d) p := by
  intro z hz
  rcases moved_ways hw ha hd hz with ⟨y, h1, h2, h3, h4, h5⟩ | ⟨y, h1, h2, h3, h4, h5⟩
  · have := h y h1
    rw [← h4, ← h5, ← along_same h1.along hz.along h2 h3]; exact this
  · have := ht y h1
    have hc := along_turned (hw y h1).along hz.along h2 h3
    rw [h4, h5, hc]; omega
theorem chain_cost_tight {q : Way → Prop} {p : Nat → Int} {s : Nat} : ∀ (l : List Way) (v : Nat), Chain q s l v → (∀ y, y ∈ l → p y.there = p y.here + y.cost) → (l.map Way.cost).sum = p v - p s
  | [], v, hc, _ => by simp [Chain] at hc; simp [hc]
  | y :: l, v, hc, ht => by
    have ih := chain_cost_tight l _ hc.2.2 (fun z hz => ht z (by simp [hz]))
    have := ht y (by simp)
    rw [hc.2.1] at this
    simp [ih]; omega
theorem chain_keys {n : Abs} {f : List Int} {s : Nat} {ws : List (Nat × Option Nat)} {c : Nat → Int} {r : Nat → Nat} (h : Cheap n f s ws c r) : ∀ (l : List Way) (v : Nat), Chain (IsWay n f) s l v → v ∈ ws.map Prod.fst ∧ ∀ y, y ∈ l → y.here ∈ ws.map Prod.fst ∧ y.there ∈ ws.map Prod.fst
  | [], v, hc => by
    simp [Chain] at hc
    rw [hc]
    exact ⟨h.start, fun y hy => by simp at hy⟩
  | y :: l, v, hc => by
    obtain ⟨h1, h2⟩ := chain_keys h l _ hc.2.2
    have h3 := (h.shut y hc.1 h1).1
    refine ⟨by rw [← hc.2.1]; exact h3, ?_⟩
    intro z hz
    rcases List.mem_cons.1 hz with e | e
    · subst e; exact ⟨h1, h3⟩
    · exact h2 z e
theorem take_way {n : Abs} {f : List Int} {k : Nat} {y : Way} : IsWay (n.take k) f y ↔ IsWay n f y ∧ y.arc < k := by
  unfold IsWay
  constructor
  · rintro ⟨a, x, h1, h2⟩
    rw [List.getElem?_take] at h1
    split at h1
    · rename_i hk
      exact ⟨⟨a, x, h1, h2⟩, hk⟩
    · cases h1
  · rintro ⟨⟨a, x, h1, h2⟩, hk⟩
    exact ⟨a, x, by rw [List.getElem?_take, if_pos hk]; exact h1, h2⟩
theorem take_net {n : Abs} (h : Net12 n) (k : Nat) : Net12 (n.take k) := by
  have sub : ∀ x, x ∈ n.take k → x ∈ n := fun x hx => List.take_subset k n hx
  have := h.few
  exact ⟨by rw [List.length_take]; omega, fun x hx => h.ends x (sub x hx), fun x hx => h.noLoop x (sub x hx), fun x hx => h.rooms x (sub x hx), fun x hx => h.wide x (sub x hx), fun x hx => h.dear x (sub x hx)⟩
structure Taking (n : Abs) (k : Nat) (a : Arc) (s t : Nat) (f : List Int) (q : Nat → Int) : Prop where
  flow : FlowTo n s t f
  none : ∀ v, out n f v = 0
  zeros : ∀ i x, k < i → f[i]? = some x → x = 0
  fair : Fair (n.take k) f q
  back : ∀ x, f[k]? = some x → 0 < x → q a.source + a.cost ≤ q a.target
theorem next_way {n : Abs} {f : List Int} {k : Nat} {a : Arc} {x : Int} (hk : n[k]? = some a) (hx : f[k]? = some x) {y : Way} (hy : IsWay (n.take (k + 1)) f y) :
    IsWay (n.take k) f y ∨ (y.here = a.source ∧ y.there = a.target ∧ y.cost = a.cost ∧ x < a.room) ∨ (y.here = a.target ∧ y.there = a.source ∧ y.cost = -a.cost ∧ 0 < x) := by
  obtain ⟨h1, h2⟩ := take_way.1 hy
  rcases Nat.lt_or_ge y.arc k with h | h
  · exact Or.inl (take_way.2 ⟨h1, h⟩)
  · right
    have e : y.arc = k := by omega
    obtain ⟨b, z, g1, g2, g3⟩ := h1
    rw [e, hk] at g1; cases g1
    rw [e, hx] at g2; cases g2
    rcases g3 with g | g
    · exact Or.inl ⟨g.2.1, g.2.2.1, g.2.2.2.1, g.2.2.2.2.1⟩
    · exact Or.inr ⟨g.2.1, g.2.2.1, g.2.2.2.1, g.2.2.2.2.1⟩
theorem Taking.full {n : Abs} {k : Nat} {a : Arc} {s t : Nat} {f : List Int} {q : Nat → Int} (h : Taking n k a s t f q) (hk : n[k]? = some a) {x : Int} (hx : f[k]? = some x) (hr : a.room ≤ x) : Fair (n.take (k + 1)) f q := by
  intro y hy
  rcases next_way hk hx hy with g | g | g
  · exact h.fair y g
  · omega
  · have := h.back x hx g.2.2.2
    rw [g.1, g.2.1, g.2.2.1]; omega
theorem Taking.stop {n : Abs} {k : Nat} {a : Arc} {s t : Nat} {f : List Int} {q : Nat → Int} (h : Taking n k a s t f q) (he : Ends n) (hk : n[k]? = some a) {x : Int} (hx : f[k]? = some x)
    {ws : List (Nat × Option Nat)} {c : Nat → Int} {r : Nat → Nat} (hc : Cheap (n.take k) f a.target ws c r) (hn : a.source ∈ ws.map Prod.fst → 0 ≤ c a.source + a.cost) : ∃ p, Fair (n.take (k + 1)) f p := by
  have he' : Ends (n.take k) := fun b hb => he b (List.take_subset k n hb)
  obtain ⟨p, p1, p2, p3⟩ := hc.prices he' h.fair (-a.cost)
  have ea := he a (mem_of_get hk)
  have hs : 0 ≤ p a.source + a.cost := by
    by_cases hm : a.source ∈ ws.map Prod.fst
    · rw [p2 _ hm]; exact hn hm
    · have := p3 _ ea.1 hm; omega
  have hg : p a.target = 0 := by rw [p2 _ hc.start, hc.zero]
  by_cases hpos : 0 < x
  · have hb := h.back x hx hpos
    have e1 : min (p a.target) (q a.target + (-a.cost - q a.source)) = 0 := by
      rw [hg]
      exact Int.min_eq_left (by omega)
    have e2 : min (p a.source) (q a.source + (-a.cost - q a.source)) = -a.cost := by
      have e3 : q a.source + (-a.cost - q a.source) = -a.cost := by omega
      rw [e3]
      exact Int.min_eq_right (by omega)
    refine ⟨fun v => min (p v) (q v + (-a.cost - q a.source)), ?_⟩
    intro y hy
    dsimp only
    rcases next_way hk hx hy with g | g | g
    · have g1 := p1 y g
      have g2 := h.fair y g
      rcases Int.le_total (p y.here) (q y.here + (-a.cost - q a.source)) with g3 | g3
      · rw [Int.min_eq_left g3]
        exact Int.le_trans (Int.min_le_left _ _) g1
      · rw [Int.min_eq_right g3]
        exact Int.le_trans (Int.min_le_right _ _) (by omega)
    · rw [g.1, g.2.1, g.2.2.1, e1, e2]; omega
    · rw [g.1, g.2.1, g.2.2.1, e1, e2]; omega
  · refine ⟨p, ?_⟩
    intro y hy
    rcases next_way hk hx hy with g | g | g
    · exact p1 y g
    · rw [g.1, g.2.1, g.2.2.1]; omega
    · omega
theorem chain_snoc {q : Way → Prop} {s : Nat} {z : Way} (hz : q z) (hs : z.here = s) : ∀ (l : List Way) (v : Nat), Chain q z.there l v → Chain q s (l ++ [z]) v
  | [], v, h => by
    simp [Chain] at h
    exact ⟨hz, h.symm, hs⟩
  | y :: l, v, h => ⟨h.1, h.2.1, chain_snoc hz hs l _ h.2.2⟩
theorem chain_mono {q q' : Way → Prop} (hq : ∀ y, q y → q' y) {s : Nat} : ∀ (l : List Way) (v : Nat), Chain q s l v → Chain q' s l v
  | [], _, h => h
  | y :: l, _, h => ⟨hq y h.1, h.2.1, chain_mono hq l _ h.2.2⟩
theorem Taking.sent {n : Abs} {k : Nat} {a : Arc} {s t : Nat} {f : List Int} {q : Nat → Int} (h : Taking n k a s t f q) (he : Ends n) (hk : n[k]? = some a) {x : Int} (hx : f[k]? = some x) (hr : x < a.room)
    {ws : List (Nat × Option Nat)} {c : Nat → Int} {r : Nat → Nat} (hc : Cheap (n.take k) f a.target ws c r) {l : List Way} (hl : Chain (IsWay (n.take k) f) a.target l a.source) (ha : Apart l)
    (ht : ∀ y, y ∈ l → (y.there, some y.arc) ∈ ws) (hn : c a.source + a.cost ≤ 0) {z : Way} (hz : z = ⟨k, true, a.source, a.target, a.room - x, a.cost⟩) {d : Int} (hd : 0 ≤ d) (hdr : ∀ y, y ∈ l ++ [z] → d ≤ y.room) :
    (∃ q', Taking n k a s t (moved f (l ++ [z]) d) q') ∧ (moved f (l ++ [z]) d)[k]? = some (x + d) := by
  have he' : Ends (n.take k) := fun b hb => he b (List.take_subset k n hb)
  obtain ⟨p, p1, p2, p3⟩ := hc.prices he' h.fair 0
  have hzw : IsWay n f z := by subst hz; exact ⟨a, x, hk, hx, Or.inl ⟨rfl, rfl, rfl, rfl, hr, rfl⟩⟩
  have hlw : ∀ y, y ∈ l → IsWay (n.take k) f y := hl.all
  have hch : Chain (IsWay n f) a.source (l ++ [z]) a.source := by
    refine chain_snoc hzw (by subst hz; rfl) l _ ?_
    have : z.there = a.target := by subst hz; rfl
    rw [this]
    exact chain_mono (fun y hy => (take_way.1 hy).1) l _ hl
  have hzk : z.arc = k := by subst hz; rfl
  have hap : Apart (l ++ [z]) := by
    unfold Apart
    rw [List.pairwise_append]
    refine ⟨ha, by simp, ?_⟩
    intro y hy w hw
    simp at hw
    subst hw
    rw [hzk]
    have := (take_way.1 (hlw y hy)).2
    omega
  obtain ⟨m1, m2, _⟩ := move_round h.flow hch hap hd hdr
  have hkx : (moved f (l ++ [z]) d)[k]? = some (x + d) := by
    have := moved_at d (l ++ [z]) f hap (fun y hy => (hch.all y hy).lt) z (by simp)
    rw [hzk] at this
    rw [this]
    have e1 : f.getD k 0 = x := by simp [List.getD, hx]
    rw [e1]
    subst hz
    simp
  refine ⟨⟨p, m1, fun v => by rw [m2]; exact h.none v, ?_, ?_, ?_⟩, hkx⟩
  · intro i w hi hw
    rw [moved_other d i (l ++ [z]) f ?_] at hw
    · exact h.zeros i w hi hw
    · intro y hy
      rcases List.mem_append.1 hy with g | g
      · have := (take_way.1 (hlw y g)).2; omega
      · simp at g; rw [g, hzk]; omega
  · have hfm : Fair (n.take k) (moved f l d) p := by
      refine p1.moved hlw ha hd ?_
      intro y hy
      obtain ⟨_, g⟩ := chain_keys hc l _ hl
      rw [p2 _ (g y hy).1, p2 _ (g y hy).2]
      exact hc.tight y (hlw y hy) (ht y hy)
    intro y hy
    apply hfm y
    obtain ⟨b, w, g1, g2, g3⟩ := hy
    refine ⟨b, w, g1, ?_, g3⟩
    have hlt : y.arc < k := by
      have := lt_of_get g1
      rw [List.length_take] at this; omega
    rw [moved_append, moved_other d y.arc [z] _ (by intro u hu; simp at hu; rw [hu, hzk]; omega)] at g2
    exact g2
  · intro w _ _
    rw [p2 _ hc.start, hc.zero, p2 _ (chain_keys hc l _ hl).1]
    exact hn
theorem Cheap.sent {n : Abs} {s t : Nat} {f : List Int} (he : Ends n) (hf : FlowTo n s t f) (hst : s ≠ t) {q : Nat → Int} (hq : Fair n f q)
    {ws : List (Nat × Option Nat)} {c : Nat → Int} {r : Nat → Nat} (hc : Cheap n f s ws c r) {l : List Way} (hl : Chain (IsWay n f) s l t) (ha : Apart l)
    (ht : ∀ y, y ∈ l → (y.there, some y.arc) ∈ ws) {d : Int} (hd : 0 ≤ d) (hdr : ∀ y, y ∈ l → d ≤ y.room) :
    FlowTo n s t (moved f l d) ∧ out n (moved f l d) s = out n f s + d ∧ ∃ p, Fair n (moved f l d) p := by
  obtain ⟨g1, g2⟩ := move_flow hf hst hl ha hd hdr
  obtain ⟨p, p1, p2, p3⟩ := hc.prices he hq 0
  refine ⟨g1, g2, p, p1.moved hl.all ha hd ?_⟩
  intro y hy
  obtain ⟨_, g⟩ := chain_keys hc l _ hl
  rw [p2 _ (g y hy).1, p2 _ (g y hy).2]
  exact hc.tight y (hl.all y hy) (ht y hy)
theorem Cheap.come {n : Abs} {s t : Nat} {f g : List Int} (he : Ends n) (hs : s < 64) (ht : t < 64) (hst : s ≠ t) (hf : FlowTo n s t f)
    {ws : List (Nat × Option Nat)} {c : Nat → Int} {r : Nat → Nat} (hc : Cheap n f s ws c r) (hg : FlowTo n s t g) (hlt : out n f s < out n g s) : t ∈ ws.map Prod.fst := by
  apply Classical.byContradiction
  intro hno
  have hM : Most n s t f := by
    refine most_of_shut he hs ht hst hf (P := fun v => decide (v ∈ ws.map Prod.fst)) (decide_eq_true hc.start) (decide_eq_false hno) ?_
    intro y hy h1
    exact decide_eq_true (hc.shut y hy (of_decide_eq_true h1)).1
  have := hM.2 g ((flowTo_iff n s t g).1 hg)
  omega
theorem nothing_fair (n : Abs) (f : List Int) (p : Nat → Int) : Fair (n.take 0) f p := by
  intro y hy
  have := (take_way.1 hy).2
  omega
theorem nothing_taking {n : Abs} {s t : Nat} (h : Rooms n) : FlowTo n s t (nothing n) ∧ (∀ v, out n (nothing n) v = 0) ∧ ∀ (i : Nat) (x : Int), (nothing n)[i]? = some x → x = 0 := by
  refine ⟨nothing_flow n s t h, fun v => by rw [out_W, nothing_W], ?_⟩
  intro i x hx
  unfold nothing at hx
  rw [List.getElem?_map] at hx
  cases e : n[i]? with
  | none => rw [e] at hx; cases hx
  | some a => rw [e] at hx; exact (Option.some.inj hx).symm
theorem Taking.start {n : Abs} {k : Nat} {a : Arc} {s t : Nat} {f : List Int} {q : Nat → Int} (h1 : FlowTo n s t f) (h2 : ∀ v, out n f v = 0) (h3 : ∀ i x, k ≤ i → f[i]? = some x → x = 0) (h4 : Fair (n.take k) f q) : Taking n k a s t f q :=
  ⟨h1, h2, fun i x hi hx => h3 i x (by omega) hx, h4, fun x hx hp => by have := h3 k x (Nat.le_refl k) hx; omega⟩
end NF
end
section
set_option Elab.async false
set_option maxRecDepth 100000
set_option maxHeartbeats 2000000
namespace NP
open PySem PySem.Spec PyProof.Rows L2
open PySem.W (Codec WData)
section
variable {K : PySem.W.Frag} {g : TG} {tb : TS} {D : L2.Ends} {σ : L2.St} {H : Hp}
theorem for_enum {p : Addr} {xs : List V} (Pv : Nat → L2.St → Hp → Prop) (h0 : Pv 0 σ H) (hl : ∀ i σ H, i ≤ xs.length → Pv i σ H → SqL K H p xs)
    (hs : ∀ i x σ H T, xs[i]? = some x → Pv i σ H → H T = none → g (.ref T) σ (upd H T (.tup [.int (i : Nat), x])) fun σ2 H2 => tb { D with nx := Pv (i + 1), ct := Pv (i + 1), bk := D.nx } σ2 H2) (hd : ∀ σ H, Pv xs.length σ H → D.nx σ H) :
    ∃ W : Nat → Nat → L2.St → Hp → Prop, (∃ m, W 0 m σ H) ∧ ∀ i m σ H, W i m σ H →
      ((Ite K p).stop i H ∧ D.nx σ H) ∨ ((Ite K p).go i H ∧ ∃ N : L2.St → Hp → Prop, (∀ σ' H', N σ' H' → ∃ m', m' < m ∧ W (i + 1) m' σ' H') ∧ ∀ x H', (Ite K p).yld i H x H' → g x σ H' fun σ2 H2 => tb { D with nx := N, ct := N, bk := D.nx } σ2 H2) := by
  refine ⟨fun i m σ H => m = xs.length - i ∧ i ≤ xs.length ∧ Pv i σ H, ⟨xs.length, by simp, Nat.zero_le _, h0⟩, ?_⟩
  rintro i m σ H ⟨rfl, hi, pv⟩
  have q := hl i σ H hi pv
  by_cases hlt : i < xs.length
  · refine .inr ⟨⟨xs, xs[i], q, by simp [hlt]⟩, Pv (i + 1), fun σ' H' p' => ⟨xs.length - (i + 1), by omega, rfl, hlt, p'⟩, fun x H' y => ?_⟩
    obtain ⟨T, z, rfl, hT, rfl, hz⟩ := y
    exact hs i z σ H T (hz xs q) pv hT
  · have e : i = xs.length := by omega
    subst e
    exact .inl ⟨⟨xs, q, Nat.le_refl _⟩, hd σ H pv⟩
theorem for_zip {p r : Addr} {xs ys : List V} (hxy : xs.length = ys.length) (Pv : Nat → L2.St → Hp → Prop) (h0 : Pv 0 σ H) (hl : ∀ i σ H, i ≤ xs.length → Pv i σ H → SqL K H p xs ∧ SqL K H r ys)
    (hs : ∀ i x y σ H T, xs[i]? = some x → ys[i]? = some y → Pv i σ H → H T = none → g (.ref T) σ (upd H T (.tup [x, y])) fun σ2 H2 => tb { D with nx := Pv (i + 1), ct := Pv (i + 1), bk := D.nx } σ2 H2) (hd : ∀ σ H, Pv xs.length σ H → D.nx σ H) :
    ∃ W : Nat → Nat → L2.St → Hp → Prop, (∃ m, W 0 m σ H) ∧ ∀ i m σ H, W i m σ H →
      ((Itz K p r).stop i H ∧ D.nx σ H) ∨ ((Itz K p r).go i H ∧ ∃ N : L2.St → Hp → Prop, (∀ σ' H', N σ' H' → ∃ m', m' < m ∧ W (i + 1) m' σ' H') ∧ ∀ x H', (Itz K p r).yld i H x H' → g x σ H' fun σ2 H2 => tb { D with nx := N, ct := N, bk := D.nx } σ2 H2) := by
  refine ⟨fun i m σ H => m = xs.length - i ∧ i ≤ xs.length ∧ Pv i σ H, ⟨xs.length, by simp, Nat.zero_le _, h0⟩, ?_⟩
  rintro i m σ H ⟨rfl, hi, pv⟩
  have q := hl i σ H hi pv
  by_cases hlt : i < xs.length
  · have hlt2 : i < ys.length := by omega
    refine .inr ⟨⟨xs, ys, xs[i], ys[i], q.1, q.2, by simp [hlt], by simp [hlt2]⟩, Pv (i + 1), fun σ' H' p' => ⟨xs.length - (i + 1), by omega, rfl, hlt, p'⟩, fun x H' y => ?_⟩
    obtain ⟨T, z, u, rfl, hT, rfl, hz, hu⟩ := y
    exact hs i z u σ H T (hz xs q.1) (hu ys q.2) pv hT
  · have e : i = xs.length := by omega
    subst e
    exact .inl ⟨⟨xs, ys, q.1, q.2, .inl (Nat.le_refl _)⟩, hd σ H pv⟩
theorem for_keys {d : Addr} {o : Obj} {kvs : List (Key × V)} (Pv : Nat → L2.St → Hp → Prop) (h0 : Pv 0 σ H) (hl : ∀ i σ H, i ≤ kvs.length → Pv i σ H → H d = some (.frz o (.dK kvs)))
    (hs : ∀ i k v σ H, kvs[i]? = some (k, v) → Pv i σ H → g (kV k) σ H fun σ2 H2 => tb { D with nx := Pv (i + 1), ct := Pv (i + 1), bk := D.nx } σ2 H2) (hd : ∀ σ H, Pv kvs.length σ H → D.nx σ H) :
    ∃ W : Nat → Nat → L2.St → Hp → Prop, (∃ m, W 0 m σ H) ∧ ∀ i m σ H, W i m σ H →
      ((Itk d o kvs).stop i H ∧ D.nx σ H) ∨ ((Itk d o kvs).go i H ∧ ∃ N : L2.St → Hp → Prop, (∀ σ' H', N σ' H' → ∃ m', m' < m ∧ W (i + 1) m' σ' H') ∧ ∀ x H', (Itk d o kvs).yld i H x H' → g x σ H' fun σ2 H2 => tb { D with nx := N, ct := N, bk := D.nx } σ2 H2) := by
  refine ⟨fun i m σ H => m = kvs.length - i ∧ i ≤ kvs.length ∧ Pv i σ H, ⟨kvs.length, by simp, Nat.zero_le _, h0⟩, ?_⟩
  rintro i m σ H ⟨rfl, hi, pv⟩
  have q := hl i σ H hi pv
  by_cases hlt : i < kvs.length
  · refine .inr ⟨⟨q, hlt⟩, Pv (i + 1), fun σ' H' p' => ⟨kvs.length - (i + 1), by omega, rfl, hlt, p'⟩, fun x H' y => ?_⟩
    obtain ⟨rfl, k, v, hk, rfl⟩ := y
    exact hs i k v σ _ hk pv
  · have e : i = kvs.length := by omega
    subst e
    exact .inl ⟨⟨q, Nat.le_refl _⟩, hd σ H pv⟩
theorem lc_zip {p r : Addr} {xs ys : List V} {tt : TT} {te : TE} {vs : List Nat} {H1 : Hp} {D : Addr} {Qd : Hp → Prop} (hxy : xs.length = ys.length) (Pv : Nat → Hp → Prop) (h0 : Pv 0 (upd H1 D (.lst []))) (hl : ∀ i H, i ≤ xs.length → Pv i H → SqL K H p xs ∧ SqL K H r ys)
    (hs : ∀ i x y H T, xs[i]? = some x → ys[i]? = some y → Pv i H → H T = none → g (.ref T) (wipe σ vs) (upd H T (.tup [x, y])) fun σ2 H2 => wipe σ2 vs = wipe σ vs ∧ tt σ2 H2 fun b H3 =>
      if b = true then te σ2 H3 fun y H4 => ∃ acc, H4 D = some (.lst acc) ∧ acc.length < sizeLine ∧ Pv (i + 1) (upd H4 D (.lst (acc ++ [y]))) else Pv (i + 1) H3) (hd : ∀ H, Pv xs.length H → Qd H) :
    ∃ W : Nat → Nat → Hp → Prop, (∃ m, W 0 m (upd H1 D (.lst []))) ∧ ∀ i m H, W i m H →
      ((Itz K p r).stop i H ∧ Qd H) ∨ ((Itz K p r).go i H ∧ ∃ Nx : Hp → Prop, (∀ H', Nx H' → ∃ m', m' < m ∧ W (i + 1) m' H') ∧ ∀ x H', (Itz K p r).yld i H x H' → g x (wipe σ vs) H' fun σ2 H2 => wipe σ2 vs = wipe σ vs ∧ tt σ2 H2 fun b H3 =>
        if b = true then te σ2 H3 fun y H4 => ∃ acc, H4 D = some (.lst acc) ∧ acc.length < sizeLine ∧ Nx (upd H4 D (.lst (acc ++ [y]))) else Nx H3) := by
  refine ⟨fun i m H => m = xs.length - i ∧ i ≤ xs.length ∧ Pv i H, ⟨xs.length, by simp, Nat.zero_le _, h0⟩, ?_⟩
  rintro i m H ⟨rfl, hi, pv⟩
  have q := hl i H hi pv
  by_cases hlt : i < xs.length
  · have hlt2 : i < ys.length := by omega
    refine .inr ⟨⟨xs, ys, xs[i], ys[i], q.1, q.2, by simp [hlt], by simp [hlt2]⟩, Pv (i + 1), fun H' p' => ⟨xs.length - (i + 1), by omega, rfl, hlt, p'⟩, fun x H' y => ?_⟩
    obtain ⟨T, z, u, rfl, hT, rfl, hz, hu⟩ := y
    exact hs i z u H T (hz xs q.1) (hu ys q.2) pv hT
  · have e : i = xs.length := by omega
    subst e
    exact .inl ⟨⟨xs, ys, q.1, q.2, .inl (Nat.le_refl _)⟩, hd H pv⟩
noncomputable def iKeysL (td : TE) : TI := fun σ H R => td σ H fun x H1 => ∃ d kvs, x = .ref d ∧ H1 d = some (.dK kvs) ∧ ∀ o, R (Itk d o kvs) (upd H1 d (.frz o (.dK kvs)))
theorem pi_keysL {X : Cx} {tg e : Expr} {td : TE} (he : PE X e td) : PI X tg e (iKeysL td) := by
  intro pins s σ H R I h
  refine thn (he pins s σ H _ I h) fun u s1 ⟨x, H1, I1, rx, d, kvs, ex, hd0, q0⟩ => ?_
  subst ex
  obtain rfl : u = Value.ref d := rx
  obtain ⟨o, I2⟩ := I1.lock hd0 trivial
  have hd : (upd H1 d (.frz o (.dK kvs))) d = some (.frz o (.dK kvs)) := upd_same
  obtain ⟨hs, hgd, hx, es, ep, vs, hdt, hsz, kv, hm⟩ := I2.frzK hd
  refine iter_keys hs hgd hx hdt (pi_one (tk := s1.toks) I2 _ (turn_keys _ hdt) ⟨_, Heap.get?_push_size _ rfl, rfl, ?_⟩ (q0 o))
  rw [hsz] <;> rfl
end
theorem and_then {p q : Bool} {A B R : Prop} (hR : (if q = true then A else B) → R) (hA : p = true → q = true → A) (hB : (p && q) = false → B) : if p = true then R else (if false = true then A else B) := by
  cases p with
  | false => exact iteF (iteF (hB rfl))
  | true =>
    refine iteT (hR ?_)
    cases q with
    | false => exact iteF (hB rfl)
    | true => exact iteT (hA rfl rfl)
theorem or_then {p q : Bool} {A B R : Prop} (hR : (if q = true then A else B) → R) (hA : (p || q) = true → A) (hB : p = false → q = false → B) : if p = true then (if true = true then A else B) else R := by
  cases p with
  | true => exact iteT (iteT (hA rfl))
  | false =>
    refine iteF (hR ?_)
    cases q with
    | false => exact iteF (hB rfl rfl)
    | true => exact iteT (hA rfl)
noncomputable def top (i : Nat) : Stmt := PySem.Challenge.pw_netflows_s01_answers.main.body.getD i (.Pass ⟨0, 0, 0, 0⟩)
noncomputable abbrev s_greatest_value : Stmt := top 1
noncomputable abbrev s_smallest_cut : Stmt := top 2
noncomputable abbrev s_value_of : Stmt := top 3
noncomputable abbrev s_cost_of : Stmt := top 4
noncomputable abbrev s_greatest_flow : Stmt := top 5
noncomputable abbrev s_ways_from : Stmt := top 6
noncomputable abbrev s_far_end : Stmt := top 7
noncomputable abbrev s_steps_to : Stmt := top 8
noncomputable abbrev s_room_along : Stmt := top 9
noncomputable abbrev s_room : Stmt := top 10
noncomputable abbrev s_sent_along : Stmt := top 11
noncomputable abbrev s_least_cost : Stmt := top 13
noncomputable abbrev s_with_arc_taken_in : Stmt := top 14
noncomputable abbrev s_with_value_sent : Stmt := top 15
noncomputable abbrev s_cheapest_ways : Stmt := top 16
noncomputable abbrev s_steps_with_room : Stmt := top 17
noncomputable abbrev s_cost_along : Stmt := top 18
noncomputable abbrev s_are_two_nodes : Stmt := top 27
noncomputable abbrev s_is_node : Stmt := top 28
noncomputable abbrev s_are_within_bounds : Stmt := top 29
noncomputable abbrev s_is_flow : Stmt := top 32
noncomputable abbrev s_are_within_capacities : Stmt := top 33
noncomputable abbrev s_prices_go_with : Stmt := top 34
noncomputable abbrev s_every_price : Stmt := top 35
noncomputable abbrev s_are_prices_within_bounds : Stmt := top 36
noncomputable abbrev s_is_cost_fitting : Stmt := top 37
noncomputable abbrev s_answers : Stmt := top 48
noncomputable abbrev s_answer_next : Stmt := top 49
noncomputable abbrev s_answer_arc : Stmt := top 50
noncomputable abbrev s_answer_most : Stmt := top 51
noncomputable abbrev s_answer_cut : Stmt := top 52
noncomputable abbrev s_answer_cheapest : Stmt := top 53
noncomputable abbrev s_answer_flow : Stmt := top 54
noncomputable abbrev s_answer_proves : Stmt := top 55
noncomputable abbrev s_Arc_init : Stmt := inClass (top 25) 0
noncomputable abbrev s_Net_init : Stmt := inClass (top 26) 0
noncomputable abbrev s_Net_add_arc : Stmt := inClass (top 26) 1
noncomputable abbrev s_Net_drop_arc : Stmt := inClass (top 26) 2
noncomputable abbrev s_Reader_init : Stmt := inClass (top 47) 0
noncomputable abbrev s_Reader_has_more : Stmt := inClass (top 47) 1
noncomputable abbrev s_Reader_take : Stmt := inClass (top 47) 2
noncomputable abbrev s_Reader_take_row : Stmt := inClass (top 47) 3
set_option genInjectivity false in
set_option genSizeOf false in
structure Adr where
  f_greatest_value : Addr
  d_greatest_value : FuncData
  f_smallest_cut : Addr
  d_smallest_cut : FuncData
  f_value_of : Addr
  d_value_of : FuncData
  f_cost_of : Addr
  d_cost_of : FuncData
  f_greatest_flow : Addr
  d_greatest_flow : FuncData
  f_ways_from : Addr
  d_ways_from : FuncData
  f_far_end : Addr
  d_far_end : FuncData
  f_steps_to : Addr
  d_steps_to : FuncData
  f_room_along : Addr
  d_room_along : FuncData
  f_room : Addr
  d_room : FuncData
  f_sent_along : Addr
  d_sent_along : FuncData
  f_least_cost : Addr
  d_least_cost : FuncData
  f_with_arc_taken_in : Addr
  d_with_arc_taken_in : FuncData
  f_with_value_sent : Addr
  d_with_value_sent : FuncData
  f_cheapest_ways : Addr
  d_cheapest_ways : FuncData
  f_steps_with_room : Addr
  d_steps_with_room : FuncData
  f_cost_along : Addr
  d_cost_along : FuncData
  f_are_two_nodes : Addr
  d_are_two_nodes : FuncData
  f_is_node : Addr
  d_is_node : FuncData
  f_are_within_bounds : Addr
  d_are_within_bounds : FuncData
  f_is_flow : Addr
  d_is_flow : FuncData
  f_are_within_capacities : Addr
  d_are_within_capacities : FuncData
  f_prices_go_with : Addr
  d_prices_go_with : FuncData
  f_every_price : Addr
  d_every_price : FuncData
  f_are_prices_within_bounds : Addr
  d_are_prices_within_bounds : FuncData
  f_is_cost_fitting : Addr
  d_is_cost_fitting : FuncData
  f_answers : Addr
  d_answers : FuncData
  f_answer_next : Addr
  d_answer_next : FuncData
  f_answer_arc : Addr
  d_answer_arc : FuncData
  f_answer_most : Addr
  d_answer_most : FuncData
  f_answer_cut : Addr
  d_answer_cut : FuncData
  f_answer_cheapest : Addr
  d_answer_cheapest : FuncData
  f_answer_flow : Addr
  d_answer_flow : FuncData
  f_answer_proves : Addr
  d_answer_proves : FuncData
  c_Arc : Addr
  f_Arc_init : Addr
  d_Arc_init : FuncData
  c_Net : Addr
  f_Net_init : Addr
  d_Net_init : FuncData
  f_Net_add_arc : Addr
  d_Net_add_arc : FuncData
  f_Net_drop_arc : Addr
  d_Net_drop_arc : FuncData
  c_Reader : Addr
  f_Reader_init : Addr
  d_Reader_init : FuncData
  f_Reader_has_more : Addr
  d_Reader_has_more : FuncData
  f_Reader_take : Addr
  d_Reader_take : FuncData
  f_Reader_take_row : Addr
  d_Reader_take_row : FuncData
structure Dfn (K : PySem.W.Frag) (mg : Str → Option Value) (x : Str) (st : Stmt) (ps : List Str) (f : Addr) (fd : FuncData) : Prop where
  F : Fun K x x st f fd
  b : Binds K fd ps []
  m : mg x = some (.ref f)
structure Mtd (K : PySem.W.Frag) (C : Addr) (x q : Str) (st : Stmt) (ps : List Str) (f : Addr) (fd : FuncData) : Prop where
  F : Fun K x q st f fd
  b : Binds K fd ps []
  m : Meth K C x f
structure Ini (K : PySem.W.Frag) (C : Addr) (q : Str) (st : Stmt) (ps : List Str) (f : Addr) (fd : FuncData) : Prop where
  F : Fun K "__init__" q st f fd
  b : Binds K fd ps []
  m : Mk K C f
structure Txt (K : PySem.W.Frag) (mg : Str → Option Value) (a : Adr) : Prop where
  D_greatest_value : Dfn K mg "greatest_value" s_greatest_value ["arcs", "s", "t"] a.f_greatest_value a.d_greatest_value
  D_smallest_cut : Dfn K mg "smallest_cut" s_smallest_cut ["arcs", "s", "t"] a.f_smallest_cut a.d_smallest_cut
  D_value_of : Dfn K mg "value_of" s_value_of ["arcs", "amounts", "node"] a.f_value_of a.d_value_of
  D_cost_of : Dfn K mg "cost_of" s_cost_of ["arcs", "amounts"] a.f_cost_of a.d_cost_of
  D_greatest_flow : Dfn K mg "greatest_flow" s_greatest_flow ["arcs", "s", "t"] a.f_greatest_flow a.d_greatest_flow
  D_ways_from : Dfn K mg "ways_from" s_ways_from ["arcs", "amounts", "s"] a.f_ways_from a.d_ways_from
  D_far_end : Dfn K mg "far_end" s_far_end ["arc", "amount", "node"] a.f_far_end a.d_far_end
  D_steps_to : Dfn K mg "steps_to" s_steps_to ["arcs", "ways", "t"] a.f_steps_to a.d_steps_to
  D_room_along : Dfn K mg "room_along" s_room_along ["arcs", "amounts", "steps"] a.f_room_along a.d_room_along
  D_room : Dfn K mg "room" s_room ["arc", "amount", "forwards"] a.f_room a.d_room
  D_sent_along : Dfn K mg "sent_along" s_sent_along ["amounts", "steps", "more"] a.f_sent_along a.d_sent_along
  D_least_cost : Dfn K mg "least_cost" s_least_cost ["arcs", "s", "t", "value"] a.f_least_cost a.d_least_cost
  D_with_arc_taken_in : Dfn K mg "with_arc_taken_in" s_with_arc_taken_in ["arcs", "amounts", "number"] a.f_with_arc_taken_in a.d_with_arc_taken_in
  D_with_value_sent : Dfn K mg "with_value_sent" s_with_value_sent ["arcs", "amounts", "s", "t", "value"] a.f_with_value_sent a.d_with_value_sent
  D_cheapest_ways : Dfn K mg "cheapest_ways" s_cheapest_ways ["arcs", "amounts", "s"] a.f_cheapest_ways a.d_cheapest_ways
  D_steps_with_room : Dfn K mg "steps_with_room" s_steps_with_room ["arcs", "amounts"] a.f_steps_with_room a.d_steps_with_room
  D_cost_along : Dfn K mg "cost_along" s_cost_along ["arcs", "steps"] a.f_cost_along a.d_cost_along
  D_are_two_nodes : Dfn K mg "are_two_nodes" s_are_two_nodes ["first", "second"] a.f_are_two_nodes a.d_are_two_nodes
  D_is_node : Dfn K mg "is_node" s_is_node ["number"] a.f_is_node a.d_is_node
  D_are_within_bounds : Dfn K mg "are_within_bounds" s_are_within_bounds ["capacity", "cost"] a.f_are_within_bounds a.d_are_within_bounds
  D_is_flow : Dfn K mg "is_flow" s_is_flow ["arcs", "amounts", "s", "t"] a.f_is_flow a.d_is_flow
  D_are_within_capacities : Dfn K mg "are_within_capacities" s_are_within_capacities ["arcs", "amounts"] a.f_are_within_capacities a.d_are_within_capacities
  D_prices_go_with : Dfn K mg "prices_go_with" s_prices_go_with ["arcs", "amounts", "prices", "s"] a.f_prices_go_with a.d_prices_go_with
  D_every_price : Dfn K mg "every_price" s_every_price ["prices"] a.f_every_price a.d_every_price
  D_are_prices_within_bounds : Dfn K mg "are_prices_within_bounds" s_are_prices_within_bounds ["prices"] a.f_are_prices_within_bounds a.d_are_prices_within_bounds
  D_is_cost_fitting : Dfn K mg "is_cost_fitting" s_is_cost_fitting ["arc", "amount", "prices"] a.f_is_cost_fitting a.d_is_cost_fitting
  D_answers : Dfn K mg "answers" s_answers ["calls"] a.f_answers a.d_answers
  D_answer_next : Dfn K mg "answer_next" s_answer_next ["net", "reader"] a.f_answer_next a.d_answer_next
  D_answer_arc : Dfn K mg "answer_arc" s_answer_arc ["net", "reader"] a.f_answer_arc a.d_answer_arc
  D_answer_most : Dfn K mg "answer_most" s_answer_most ["net", "reader"] a.f_answer_most a.d_answer_most
  D_answer_cut : Dfn K mg "answer_cut" s_answer_cut ["net", "reader"] a.f_answer_cut a.d_answer_cut
  D_answer_cheapest : Dfn K mg "answer_cheapest" s_answer_cheapest ["net", "reader"] a.f_answer_cheapest a.d_answer_cheapest
  D_answer_flow : Dfn K mg "answer_flow" s_answer_flow ["net", "reader"] a.f_answer_flow a.d_answer_flow
  D_answer_proves : Dfn K mg "answer_proves" s_answer_proves ["net", "reader"] a.f_answer_proves a.d_answer_proves
  cl_Arc : Cls K a.c_Arc
  mg_Arc : mg "Arc" = some (.ref a.c_Arc)
  na_Arc_origin : NoAttr K a.c_Arc "origin"
  na_Arc_goal : NoAttr K a.c_Arc "goal"
  na_Arc_capacity : NoAttr K a.c_Arc "capacity"
  na_Arc_cost : NoAttr K a.c_Arc "cost"
  M_Arc_init : Ini K a.c_Arc "Arc.__init__" s_Arc_init ["self", "origin", "goal", "capacity", "cost"] a.f_Arc_init a.d_Arc_init
  cl_Net : Cls K a.c_Net
  mg_Net : mg "Net" = some (.ref a.c_Net)
  na_Net_arcs : NoAttr K a.c_Net "arcs"
  M_Net_init : Ini K a.c_Net "Net.__init__" s_Net_init ["self"] a.f_Net_init a.d_Net_init
  M_Net_add_arc : Mtd K a.c_Net "add_arc" "Net.add_arc" s_Net_add_arc ["self", "origin", "goal", "capacity", "cost"] a.f_Net_add_arc a.d_Net_add_arc
  M_Net_drop_arc : Mtd K a.c_Net "drop_arc" "Net.drop_arc" s_Net_drop_arc ["self"] a.f_Net_drop_arc a.d_Net_drop_arc
  cl_Reader : Cls K a.c_Reader
  mg_Reader : mg "Reader" = some (.ref a.c_Reader)
  na_Reader_numbers : NoAttr K a.c_Reader "numbers"
  na_Reader_place : NoAttr K a.c_Reader "place"
  M_Reader_init : Ini K a.c_Reader "Reader.__init__" s_Reader_init ["self", "numbers"] a.f_Reader_init a.d_Reader_init
  M_Reader_has_more : Mtd K a.c_Reader "has_more" "Reader.has_more" s_Reader_has_more ["self"] a.f_Reader_has_more a.d_Reader_has_more
  M_Reader_take : Mtd K a.c_Reader "take" "Reader.take" s_Reader_take ["self"] a.f_Reader_take a.d_Reader_take
  M_Reader_take_row : Mtd K a.c_Reader "take_row" "Reader.take_row" s_Reader_take_row ["self"] a.f_Reader_take_row a.d_Reader_take_row
  k_REFUSED : ∃ u, RelV (.int (-1)) u ∧ mg "REFUSED" = some u
  k_NODES : ∃ u, RelV (.int (64)) u ∧ mg "NODES" = some u
  k_MOST_ARCS : ∃ u, RelV (.int (512)) u ∧ mg "MOST_ARCS" = some u
  k_MOST_CAPACITY : ∃ u, RelV (.int (1000000000)) u ∧ mg "MOST_CAPACITY" = some u
  k_MOST_COST : ∃ u, RelV (.int (1000000)) u ∧ mg "MOST_COST" = some u
  k_MOST_PRICE : ∃ u, RelV (.int (1000000000000)) u ∧ mg "MOST_PRICE" = some u
  k_ARC : ∃ u, RelV (.int (1)) u ∧ mg "ARC" = some u
  k_DROP : ∃ u, RelV (.int (2)) u ∧ mg "DROP" = some u
  k_MOST : ∃ u, RelV (.int (3)) u ∧ mg "MOST" = some u
  k_CUT : ∃ u, RelV (.int (4)) u ∧ mg "CUT" = some u
  k_CHEAPEST : ∃ u, RelV (.int (5)) u ∧ mg "CHEAPEST" = some u
  k_FLOW : ∃ u, RelV (.int (6)) u ∧ mg "FLOW" = some u
  k_PROVES : ∃ u, RelV (.int (7)) u ∧ mg "PROVES" = some u
  k_NO_SUCH_FLOW : ∃ u, RelV (.int (-2)) u ∧ mg "NO_SUCH_FLOW" = some u
  b_all : mg "all" = none
  b_enumerate : mg "enumerate" = none
  b_len : mg "len" = none
  b_list : mg "list" = none
  b_min : mg "min" = none
  b_range : mg "range" = none
  b_sum : mg "sum" = none
  b_zip : mg "zip" = none
theorem txt_mk {K : PySem.W.Frag} {h : Heap} {mg : Str → Option Value} {f_greatest_value f_smallest_cut f_value_of f_cost_of f_greatest_flow f_ways_from f_far_end f_steps_to f_room_along f_room f_sent_along f_least_cost f_with_arc_taken_in f_with_value_sent f_cheapest_ways f_steps_with_room f_cost_along f_are_two_nodes f_is_node f_are_within_bounds f_is_flow f_are_within_capacities f_prices_go_with f_every_price f_are_prices_within_bounds f_is_cost_fitting f_answers f_answer_next f_answer_arc f_answer_most f_answer_cut f_answer_cheapest f_answer_flow f_answer_proves C_Arc f_Arc_init C_Net f_Net_init f_Net_add_arc f_Net_drop_arc C_Reader f_Reader_init f_Reader_has_more f_Reader_take f_Reader_take_row : Addr} {t_REFUSED t_NODES t_MOST_ARCS t_MOST_CAPACITY t_MOST_COST t_MOST_PRICE t_ARC t_DROP t_MOST t_CUT t_CHEAPEST t_FLOW t_PROVES t_NO_SUCH_FLOW : Tok} (X : K.In h) (G : h.Ns mainGlobals mg)
    (a_greatest_value : PySem.W.nsIn K mainGlobals "greatest_value" = some (some (.ref f_greatest_value)))
    {od_greatest_value an_greatest_value : Option Addr} {sl_greatest_value : Array (Option Value)} {oc_greatest_value kV_greatest_value dc_greatest_value pm_greatest_value cd_greatest_value ct_greatest_value : Value} (l_greatest_value : K.lookup f_greatest_value = some ⟨oc_greatest_value, od_greatest_value, .func (PySem.W.fnOf "greatest_value" "greatest_value" (defArgs s_greatest_value) (defBody s_greatest_value) (defScope s_greatest_value) .none kV_greatest_value dc_greatest_value pm_greatest_value an_greatest_value cd_greatest_value ct_greatest_value), sl_greatest_value⟩) (c_greatest_value : PySem.W.codeIn K cd_greatest_value "greatest_value" = true) (k_greatest_value : PySem.W.keepIn K (.ref f_greatest_value) = true)
    (a_smallest_cut : PySem.W.nsIn K mainGlobals "smallest_cut" = some (some (.ref f_smallest_cut)))
    {od_smallest_cut an_smallest_cut : Option Addr} {sl_smallest_cut : Array (Option Value)} {oc_smallest_cut kV_smallest_cut dc_smallest_cut pm_smallest_cut cd_smallest_cut ct_smallest_cut : Value} (l_smallest_cut : K.lookup f_smallest_cut = some ⟨oc_smallest_cut, od_smallest_cut, .func (PySem.W.fnOf "smallest_cut" "smallest_cut" (defArgs s_smallest_cut) (defBody s_smallest_cut) (defScope s_smallest_cut) .none kV_smallest_cut dc_smallest_cut pm_smallest_cut an_smallest_cut cd_smallest_cut ct_smallest_cut), sl_smallest_cut⟩) (c_smallest_cut : PySem.W.codeIn K cd_smallest_cut "smallest_cut" = true) (k_smallest_cut : PySem.W.keepIn K (.ref f_smallest_cut) = true)
    (a_value_of : PySem.W.nsIn K mainGlobals "value_of" = some (some (.ref f_value_of)))
    {od_value_of an_value_of : Option Addr} {sl_value_of : Array (Option Value)} {oc_value_of kV_value_of dc_value_of pm_value_of cd_value_of ct_value_of : Value} (l_value_of : K.lookup f_value_of = some ⟨oc_value_of, od_value_of, .func (PySem.W.fnOf "value_of" "value_of" (defArgs s_value_of) (defBody s_value_of) (defScope s_value_of) .none kV_value_of dc_value_of pm_value_of an_value_of cd_value_of ct_value_of), sl_value_of⟩) (c_value_of : PySem.W.codeIn K cd_value_of "value_of" = true) (k_value_of : PySem.W.keepIn K (.ref f_value_of) = true)
    (a_cost_of : PySem.W.nsIn K mainGlobals "cost_of" = some (some (.ref f_cost_of)))
    {od_cost_of an_cost_of : Option Addr} {sl_cost_of : Array (Option Value)} {oc_cost_of kV_cost_of dc_cost_of pm_cost_of cd_cost_of ct_cost_of : Value} (l_cost_of : K.lookup f_cost_of = some ⟨oc_cost_of, od_cost_of, .func (PySem.W.fnOf "cost_of" "cost_of" (defArgs s_cost_of) (defBody s_cost_of) (defScope s_cost_of) .none kV_cost_of dc_cost_of pm_cost_of an_cost_of cd_cost_of ct_cost_of), sl_cost_of⟩) (c_cost_of : PySem.W.codeIn K cd_cost_of "cost_of" = true) (k_cost_of : PySem.W.keepIn K (.ref f_cost_of) = true)
    (a_greatest_flow : PySem.W.nsIn K mainGlobals "greatest_flow" = some (some (.ref f_greatest_flow)))
    {od_greatest_flow an_greatest_flow : Option Addr} {sl_greatest_flow : Array (Option Value)} {oc_greatest_flow kV_greatest_flow dc_greatest_flow pm_greatest_flow cd_greatest_flow ct_greatest_flow : Value} (l_greatest_flow : K.lookup f_greatest_flow = some ⟨oc_greatest_flow, od_greatest_flow, .func (PySem.W.fnOf "greatest_flow" "greatest_flow" (defArgs s_greatest_flow) (defBody s_greatest_flow) (defScope s_greatest_flow) .none kV_greatest_flow dc_greatest_flow pm_greatest_flow an_greatest_flow cd_greatest_flow ct_greatest_flow), sl_greatest_flow⟩) (c_greatest_flow : PySem.W.codeIn K cd_greatest_flow "greatest_flow" = true) (k_greatest_flow : PySem.W.keepIn K (.ref f_greatest_flow) = true)
    (a_ways_from : PySem.W.nsIn K mainGlobals "ways_from" = some (some (.ref f_ways_from)))
    {od_ways_from an_ways_from : Option Addr} {sl_ways_from : Array (Option Value)} {oc_ways_from kV_ways_from dc_ways_from pm_ways_from cd_ways_from ct_ways_from : Value} (l_ways_from : K.lookup f_ways_from = some ⟨oc_ways_from, od_ways_from, .func (PySem.W.fnOf "ways_from" "ways_from" (defArgs s_ways_from) (defBody s_ways_from) (defScope s_ways_from) .none kV_ways_from dc_ways_from pm_ways_from an_ways_from cd_ways_from ct_ways_from), sl_ways_from⟩) (c_ways_from : PySem.W.codeIn K cd_ways_from "ways_from" = true) (k_ways_from : PySem.W.keepIn K (.ref f_ways_from) = true)
    (a_far_end : PySem.W.nsIn K mainGlobals "far_end" = some (some (.ref f_far_end)))
    {od_far_end an_far_end : Option Addr} {sl_far_end : Array (Option Value)} {oc_far_end kV_far_end dc_far_end pm_far_end cd_far_end ct_far_end : Value} (l_far_end : K.lookup f_far_end = some ⟨oc_far_end, od_far_end, .func (PySem.W.fnOf "far_end" "far_end" (defArgs s_far_end) (defBody s_far_end) (defScope s_far_end) .none kV_far_end dc_far_end pm_far_end an_far_end cd_far_end ct_far_end), sl_far_end⟩) (c_far_end : PySem.W.codeIn K cd_far_end "far_end" = true) (k_far_end : PySem.W.keepIn K (.ref f_far_end) = true)
    (a_steps_to : PySem.W.nsIn K mainGlobals "steps_to" = some (some (.ref f_steps_to)))
    {od_steps_to an_steps_to : Option Addr} {sl_steps_to : Array (Option Value)} {oc_steps_to kV_steps_to dc_steps_to pm_steps_to cd_steps_to ct_steps_to : Value} (l_steps_to : K.lookup f_steps_to = some ⟨oc_steps_to, od_steps_to, .func (PySem.W.fnOf "steps_to" "steps_to" (defArgs s_steps_to) (defBody s_steps_to) (defScope s_steps_to) .none kV_steps_to dc_steps_to pm_steps_to an_steps_to cd_steps_to ct_steps_to), sl_steps_to⟩) (c_steps_to : PySem.W.codeIn K cd_steps_to "steps_to" = true) (k_steps_to : PySem.W.keepIn K (.ref f_steps_to) = true)
    (a_room_along : PySem.W.nsIn K mainGlobals "room_along" = some (some (.ref f_room_along)))
    {od_room_along an_room_along : Option Addr} {sl_room_along : Array (Option Value)} {oc_room_along kV_room_along dc_room_along pm_room_along cd_room_along ct_room_along : Value} (l_room_along : K.lookup f_room_along = some ⟨oc_room_along, od_room_along, .func (PySem.W.fnOf "room_along" "room_along" (defArgs s_room_along) (defBody s_room_along) (defScope s_room_along) .none kV_room_along dc_room_along pm_room_along an_room_along cd_room_along ct_room_along), sl_room_along⟩) (c_room_along : PySem.W.codeIn K cd_room_along "room_along" = true) (k_room_along : PySem.W.keepIn K (.ref f_room_along) = true)
    (a_room : PySem.W.nsIn K mainGlobals "room" = some (some (.ref f_room)))
    {od_room an_room : Option Addr} {sl_room : Array (Option Value)} {oc_room kV_room dc_room pm_room cd_room ct_room : Value} (l_room : K.lookup f_room = some ⟨oc_room, od_room, .func (PySem.W.fnOf "room" "room" (defArgs s_room) (defBody s_room) (defScope s_room) .none kV_room dc_room pm_room an_room cd_room ct_room), sl_room⟩) (c_room : PySem.W.codeIn K cd_room "room" = true) (k_room : PySem.W.keepIn K (.ref f_room) = true)
    (a_sent_along : PySem.W.nsIn K mainGlobals "sent_along" = some (some (.ref f_sent_along)))
    {od_sent_along an_sent_along : Option Addr} {sl_sent_along : Array (Option Value)} {oc_sent_along kV_sent_along dc_sent_along pm_sent_along cd_sent_along ct_sent_along : Value} (l_sent_along : K.lookup f_sent_along = some ⟨oc_sent_along, od_sent_along, .func (PySem.W.fnOf "sent_along" "sent_along" (defArgs s_sent_along) (defBody s_sent_along) (defScope s_sent_along) .none kV_sent_along dc_sent_along pm_sent_along an_sent_along cd_sent_along ct_sent_along), sl_sent_along⟩) (c_sent_along : PySem.W.codeIn K cd_sent_along "sent_along" = true) (k_sent_along : PySem.W.keepIn K (.ref f_sent_along) = true)
    (a_least_cost : PySem.W.nsIn K mainGlobals "least_cost" = some (some (.ref f_least_cost)))
    {od_least_cost an_least_cost : Option Addr} {sl_least_cost : Array (Option Value)} {oc_least_cost kV_least_cost dc_least_cost pm_least_cost cd_least_cost ct_least_cost : Value} (l_least_cost : K.lookup f_least_cost = some ⟨oc_least_cost, od_least_cost, .func (PySem.W.fnOf "least_cost" "least_cost" (defArgs s_least_cost) (defBody s_least_cost) (defScope s_least_cost) .none kV_least_cost dc_least_cost pm_least_cost an_least_cost cd_least_cost ct_least_cost), sl_least_cost⟩) (c_least_cost : PySem.W.codeIn K cd_least_cost "least_cost" = true) (k_least_cost : PySem.W.keepIn K (.ref f_least_cost) = true)
    (a_with_arc_taken_in : PySem.W.nsIn K mainGlobals "with_arc_taken_in" = some (some (.ref f_with_arc_taken_in)))
    {od_with_arc_taken_in an_with_arc_taken_in : Option Addr} {sl_with_arc_taken_in : Array (Option Value)} {oc_with_arc_taken_in kV_with_arc_taken_in dc_with_arc_taken_in pm_with_arc_taken_in cd_with_arc_taken_in ct_with_arc_taken_in : Value} (l_with_arc_taken_in : K.lookup f_with_arc_taken_in = some ⟨oc_with_arc_taken_in, od_with_arc_taken_in, .func (PySem.W.fnOf "with_arc_taken_in" "with_arc_taken_in" (defArgs s_with_arc_taken_in) (defBody s_with_arc_taken_in) (defScope s_with_arc_taken_in) .none kV_with_arc_taken_in dc_with_arc_taken_in pm_with_arc_taken_in an_with_arc_taken_in cd_with_arc_taken_in ct_with_arc_taken_in), sl_with_arc_taken_in⟩) (c_with_arc_taken_in : PySem.W.codeIn K cd_with_arc_taken_in "with_arc_taken_in" = true) (k_with_arc_taken_in : PySem.W.keepIn K (.ref f_with_arc_taken_in) = true)
    (a_with_value_sent : PySem.W.nsIn K mainGlobals "with_value_sent" = some (some (.ref f_with_value_sent)))
    {od_with_value_sent an_with_value_sent : Option Addr} {sl_with_value_sent : Array (Option Value)} {oc_with_value_sent kV_with_value_sent dc_with_value_sent pm_with_value_sent cd_with_value_sent ct_with_value_sent : Value} (l_with_value_sent : K.lookup f_with_value_sent = some ⟨oc_with_value_sent, od_with_value_sent, .func (PySem.W.fnOf "with_value_sent" "with_value_sent" (defArgs s_with_value_sent) (defBody s_with_value_sent) (defScope s_with_value_sent) .none kV_with_value_sent dc_with_value_sent pm_with_value_sent an_with_value_sent cd_with_value_sent ct_with_value_sent), sl_with_value_sent⟩) (c_with_value_sent : PySem.W.codeIn K cd_with_value_sent "with_value_sent" = true) (k_with_value_sent : PySem.W.keepIn K (.ref f_with_value_sent) = true)
    (a_cheapest_ways : PySem.W.nsIn K mainGlobals "cheapest_ways" = some (some (.ref f_cheapest_ways)))
    {od_cheapest_ways an_cheapest_ways : Option Addr} {sl_cheapest_ways : Array (Option Value)} {oc_cheapest_ways kV_cheapest_ways dc_cheapest_ways pm_cheapest_ways cd_cheapest_ways ct_cheapest_ways : Value} (l_cheapest_ways : K.lookup f_cheapest_ways = some ⟨oc_cheapest_ways, od_cheapest_ways, .func (PySem.W.fnOf "cheapest_ways" "cheapest_ways" (defArgs s_cheapest_ways) (defBody s_cheapest_ways) (defScope s_cheapest_ways) .none kV_cheapest_ways dc_cheapest_ways pm_cheapest_ways an_cheapest_ways cd_cheapest_ways ct_cheapest_ways), sl_cheapest_ways⟩) (c_cheapest_ways : PySem.W.codeIn K cd_cheapest_ways "cheapest_ways" = true) (k_cheapest_ways : PySem.W.keepIn K (.ref f_cheapest_ways) = true)
    (a_steps_with_room : PySem.W.nsIn K mainGlobals "steps_with_room" = some (some (.ref f_steps_with_room)))
    {od_steps_with_room an_steps_with_room : Option Addr} {sl_steps_with_room : Array (Option Value)} {oc_steps_with_room kV_steps_with_room dc_steps_with_room pm_steps_with_room cd_steps_with_room ct_steps_with_room : Value} (l_steps_with_room : K.lookup f_steps_with_room = some ⟨oc_steps_with_room, od_steps_with_room, .func (PySem.W.fnOf "steps_with_room" "steps_with_room" (defArgs s_steps_with_room) (defBody s_steps_with_room) (defScope s_steps_with_room) .none kV_steps_with_room dc_steps_with_room pm_steps_with_room an_steps_with_room cd_steps_with_room ct_steps_with_room), sl_steps_with_room⟩) (c_steps_with_room : PySem.W.codeIn K cd_steps_with_room "steps_with_room" = true) (k_steps_with_room : PySem.W.keepIn K (.ref f_steps_with_room) = true)
    (a_cost_along : PySem.W.nsIn K mainGlobals "cost_along" = some (some (.ref f_cost_along)))
    {od_cost_along an_cost_along : Option Addr} {sl_cost_along : Array (Option Value)} {oc_cost_along kV_cost_along dc_cost_along pm_cost_along cd_cost_along ct_cost_along : Value} (l_cost_along : K.lookup f_cost_along = some ⟨oc_cost_along, od_cost_along, .func (PySem.W.fnOf "cost_along" "cost_along" (defArgs s_cost_along) (defBody s_cost_along) (defScope s_cost_along) .none kV_cost_along dc_cost_along pm_cost_along an_cost_along cd_cost_along ct_cost_along), sl_cost_along⟩) (c_cost_along : PySem.W.codeIn K cd_cost_along "cost_along" = true) (k_cost_along : PySem.W.keepIn K (.ref f_cost_along) = true)
    (a_are_two_nodes : PySem.W.nsIn K mainGlobals "are_two_nodes" = some (some (.ref f_are_two_nodes)))
    {od_are_two_nodes an_are_two_nodes : Option Addr} {sl_are_two_nodes : Array (Option Value)} {oc_are_two_nodes kV_are_two_nodes dc_are_two_nodes pm_are_two_nodes cd_are_two_nodes ct_are_two_nodes : Value} (l_are_two_nodes : K.lookup f_are_two_nodes = some ⟨oc_are_two_nodes, od_are_two_nodes, .func (PySem.W.fnOf "are_two_nodes" "are_two_nodes" (defArgs s_are_two_nodes) (defBody s_are_two_nodes) (defScope s_are_two_nodes) .none kV_are_two_nodes dc_are_two_nodes pm_are_two_nodes an_are_two_nodes cd_are_two_nodes ct_are_two_nodes), sl_are_two_nodes⟩) (c_are_two_nodes : PySem.W.codeIn K cd_are_two_nodes "are_two_nodes" = true) (k_are_two_nodes : PySem.W.keepIn K (.ref f_are_two_nodes) = true)
    (a_is_node : PySem.W.nsIn K mainGlobals "is_node" = some (some (.ref f_is_node)))
    {od_is_node an_is_node : Option Addr} {sl_is_node : Array (Option Value)} {oc_is_node kV_is_node dc_is_node pm_is_node cd_is_node ct_is_node : Value} (l_is_node : K.lookup f_is_node = some ⟨oc_is_node, od_is_node, .func (PySem.W.fnOf "is_node" "is_node" (defArgs s_is_node) (defBody s_is_node) (defScope s_is_node) .none kV_is_node dc_is_node pm_is_node an_is_node cd_is_node ct_is_node), sl_is_node⟩) (c_is_node : PySem.W.codeIn K cd_is_node "is_node" = true) (k_is_node : PySem.W.keepIn K (.ref f_is_node) = true)
    (a_are_within_bounds : PySem.W.nsIn K mainGlobals "are_within_bounds" = some (some (.ref f_are_within_bounds)))
    {od_are_within_bounds an_are_within_bounds : Option Addr} {sl_are_within_bounds : Array (Option Value)} {oc_are_within_bounds kV_are_within_bounds dc_are_within_bounds pm_are_within_bounds cd_are_within_bounds ct_are_within_bounds : Value} (l_are_within_bounds : K.lookup f_are_within_bounds = some ⟨oc_are_within_bounds, od_are_within_bounds, .func (PySem.W.fnOf "are_within_bounds" "are_within_bounds" (defArgs s_are_within_bounds) (defBody s_are_within_bounds) (defScope s_are_within_bounds) .none kV_are_within_bounds dc_are_within_bounds pm_are_within_bounds an_are_within_bounds cd_are_within_bounds ct_are_within_bounds), sl_are_within_bounds⟩) (c_are_within_bounds : PySem.W.codeIn K cd_are_within_bounds "are_within_bounds" = true) (k_are_within_bounds : PySem.W.keepIn K (.ref f_are_within_bounds) = true)
    (a_is_flow : PySem.W.nsIn K mainGlobals "is_flow" = some (some (.ref f_is_flow)))
    {od_is_flow an_is_flow : Option Addr} {sl_is_flow : Array (Option Value)} {oc_is_flow kV_is_flow dc_is_flow pm_is_flow cd_is_flow ct_is_flow : Value} (l_is_flow : K.lookup f_is_flow = some ⟨oc_is_flow, od_is_flow, .func (PySem.W.fnOf "is_flow" "is_flow" (defArgs s_is_flow) (defBody s_is_flow) (defScope s_is_flow) .none kV_is_flow dc_is_flow pm_is_flow an_is_flow cd_is_flow ct_is_flow), sl_is_flow⟩) (c_is_flow : PySem.W.codeIn K cd_is_flow "is_flow" = true) (k_is_flow : PySem.W.keepIn K (.ref f_is_flow) = true)
    (a_are_within_capacities : PySem.W.nsIn K mainGlobals "are_within_capacities" = some (some (.ref f_are_within_capacities)))
    {od_are_within_capacities an_are_within_capacities : Option Addr} {sl_are_within_capacities : Array (Option Value)} {oc_are_within_capacities kV_are_within_capacities dc_are_within_capacities pm_are_within_capacities cd_are_within_capacities ct_are_within_capacities : Value} (l_are_within_capacities : K.lookup f_are_within_capacities = some ⟨oc_are_within_capacities, od_are_within_capacities, .func (PySem.W.fnOf "are_within_capacities" "are_within_capacities" (defArgs s_are_within_capacities) (defBody s_are_within_capacities) (defScope s_are_within_capacities) .none kV_are_within_capacities dc_are_within_capacities pm_are_within_capacities an_are_within_capacities cd_are_within_capacities ct_are_within_capacities), sl_are_within_capacities⟩) (c_are_within_capacities : PySem.W.codeIn K cd_are_within_capacities "are_within_capacities" = true) (k_are_within_capacities : PySem.W.keepIn K (.ref f_are_within_capacities) = true)
    (a_prices_go_with : PySem.W.nsIn K mainGlobals "prices_go_with" = some (some (.ref f_prices_go_with)))
    {od_prices_go_with an_prices_go_with : Option Addr} {sl_prices_go_with : Array (Option Value)} {oc_prices_go_with kV_prices_go_with dc_prices_go_with pm_prices_go_with cd_prices_go_with ct_prices_go_with : Value} (l_prices_go_with : K.lookup f_prices_go_with = some ⟨oc_prices_go_with, od_prices_go_with, .func (PySem.W.fnOf "prices_go_with" "prices_go_with" (defArgs s_prices_go_with) (defBody s_prices_go_with) (defScope s_prices_go_with) .none kV_prices_go_with dc_prices_go_with pm_prices_go_with an_prices_go_with cd_prices_go_with ct_prices_go_with), sl_prices_go_with⟩) (c_prices_go_with : PySem.W.codeIn K cd_prices_go_with "prices_go_with" = true) (k_prices_go_with : PySem.W.keepIn K (.ref f_prices_go_with) = true)
    (a_every_price : PySem.W.nsIn K mainGlobals "every_price" = some (some (.ref f_every_price)))
    {od_every_price an_every_price : Option Addr} {sl_every_price : Array (Option Value)} {oc_every_price kV_every_price dc_every_price pm_every_price cd_every_price ct_every_price : Value} (l_every_price : K.lookup f_every_price = some ⟨oc_every_price, od_every_price, .func (PySem.W.fnOf "every_price" "every_price" (defArgs s_every_price) (defBody s_every_price) (defScope s_every_price) .none kV_every_price dc_every_price pm_every_price an_every_price cd_every_price ct_every_price), sl_every_price⟩) (c_every_price : PySem.W.codeIn K cd_every_price "every_price" = true) (k_every_price : PySem.W.keepIn K (.ref f_every_price) = true)
    (a_are_prices_within_bounds : PySem.W.nsIn K mainGlobals "are_prices_within_bounds" = some (some (.ref f_are_prices_within_bounds)))
    {od_are_prices_within_bounds an_are_prices_within_bounds : Option Addr} {sl_are_prices_within_bounds : Array (Option Value)} {oc_are_prices_within_bounds kV_are_prices_within_bounds dc_are_prices_within_bounds pm_are_prices_within_bounds cd_are_prices_within_bounds ct_are_prices_within_bounds : Value} (l_are_prices_within_bounds : K.lookup f_are_prices_within_bounds = some ⟨oc_are_prices_within_bounds, od_are_prices_within_bounds, .func (PySem.W.fnOf "are_prices_within_bounds" "are_prices_within_bounds" (defArgs s_are_prices_within_bounds) (defBody s_are_prices_within_bounds) (defScope s_are_prices_within_bounds) .none kV_are_prices_within_bounds dc_are_prices_within_bounds pm_are_prices_within_bounds an_are_prices_within_bounds cd_are_prices_within_bounds ct_are_prices_within_bounds), sl_are_prices_within_bounds⟩) (c_are_prices_within_bounds : PySem.W.codeIn K cd_are_prices_within_bounds "are_prices_within_bounds" = true) (k_are_prices_within_bounds : PySem.W.keepIn K (.ref f_are_prices_within_bounds) = true)
    (a_is_cost_fitting : PySem.W.nsIn K mainGlobals "is_cost_fitting" = some (some (.ref f_is_cost_fitting)))
    {od_is_cost_fitting an_is_cost_fitting : Option Addr} {sl_is_cost_fitting : Array (Option Value)} {oc_is_cost_fitting kV_is_cost_fitting dc_is_cost_fitting pm_is_cost_fitting cd_is_cost_fitting ct_is_cost_fitting : Value} (l_is_cost_fitting : K.lookup f_is_cost_fitting = some ⟨oc_is_cost_fitting, od_is_cost_fitting, .func (PySem.W.fnOf "is_cost_fitting" "is_cost_fitting" (defArgs s_is_cost_fitting) (defBody s_is_cost_fitting) (defScope s_is_cost_fitting) .none kV_is_cost_fitting dc_is_cost_fitting pm_is_cost_fitting an_is_cost_fitting cd_is_cost_fitting ct_is_cost_fitting), sl_is_cost_fitting⟩) (c_is_cost_fitting : PySem.W.codeIn K cd_is_cost_fitting "is_cost_fitting" = true) (k_is_cost_fitting : PySem.W.keepIn K (.ref f_is_cost_fitting) = true)
    (a_answers : PySem.W.nsIn K mainGlobals "answers" = some (some (.ref f_answers)))
    {od_answers an_answers : Option Addr} {sl_answers : Array (Option Value)} {oc_answers kV_answers dc_answers pm_answers cd_answers ct_answers : Value} (l_answers : K.lookup f_answers = some ⟨oc_answers, od_answers, .func (PySem.W.fnOf "answers" "answers" (defArgs s_answers) (defBody s_answers) (defScope s_answers) .none kV_answers dc_answers pm_answers an_answers cd_answers ct_answers), sl_answers⟩) (c_answers : PySem.W.codeIn K cd_answers "answers" = true) (k_answers : PySem.W.keepIn K (.ref f_answers) = true)
    (a_answer_next : PySem.W.nsIn K mainGlobals "answer_next" = some (some (.ref f_answer_next)))
    {od_answer_next an_answer_next : Option Addr} {sl_answer_next : Array (Option Value)} {oc_answer_next kV_answer_next dc_answer_next pm_answer_next cd_answer_next ct_answer_next : Value} (l_answer_next : K.lookup f_answer_next = some ⟨oc_answer_next, od_answer_next, .func (PySem.W.fnOf "answer_next" "answer_next" (defArgs s_answer_next) (defBody s_answer_next) (defScope s_answer_next) .none kV_answer_next dc_answer_next pm_answer_next an_answer_next cd_answer_next ct_answer_next), sl_answer_next⟩) (c_answer_next : PySem.W.codeIn K cd_answer_next "answer_next" = true) (k_answer_next : PySem.W.keepIn K (.ref f_answer_next) = true)
    (a_answer_arc : PySem.W.nsIn K mainGlobals "answer_arc" = some (some (.ref f_answer_arc)))
    {od_answer_arc an_answer_arc : Option Addr} {sl_answer_arc : Array (Option Value)} {oc_answer_arc kV_answer_arc dc_answer_arc pm_answer_arc cd_answer_arc ct_answer_arc : Value} (l_answer_arc : K.lookup f_answer_arc = some ⟨oc_answer_arc, od_answer_arc, .func (PySem.W.fnOf "answer_arc" "answer_arc" (defArgs s_answer_arc) (defBody s_answer_arc) (defScope s_answer_arc) .none kV_answer_arc dc_answer_arc pm_answer_arc an_answer_arc cd_answer_arc ct_answer_arc), sl_answer_arc⟩) (c_answer_arc : PySem.W.codeIn K cd_answer_arc "answer_arc" = true) (k_answer_arc : PySem.W.keepIn K (.ref f_answer_arc) = true)
    (a_answer_most : PySem.W.nsIn K mainGlobals "answer_most" = some (some (.ref f_answer_most)))
    {od_answer_most an_answer_most : Option Addr} {sl_answer_most : Array (Option Value)} {oc_answer_most kV_answer_most dc_answer_most pm_answer_most cd_answer_most ct_answer_most : Value} (l_answer_most : K.lookup f_answer_most = some ⟨oc_answer_most, od_answer_most, .func (PySem.W.fnOf "answer_most" "answer_most" (defArgs s_answer_most) (defBody s_answer_most) (defScope s_answer_most) .none kV_answer_most dc_answer_most pm_answer_most an_answer_most cd_answer_most ct_answer_most), sl_answer_most⟩) (c_answer_most : PySem.W.codeIn K cd_answer_most "answer_most" = true) (k_answer_most : PySem.W.keepIn K (.ref f_answer_most) = true)
    (a_answer_cut : PySem.W.nsIn K mainGlobals "answer_cut" = some (some (.ref f_answer_cut)))
    {od_answer_cut an_answer_cut : Option Addr} {sl_answer_cut : Array (Option Value)} {oc_answer_cut kV_answer_cut dc_answer_cut pm_answer_cut cd_answer_cut ct_answer_cut : Value} (l_answer_cut : K.lookup f_answer_cut = some ⟨oc_answer_cut, od_answer_cut, .func (PySem.W.fnOf "answer_cut" "answer_cut" (defArgs s_answer_cut) (defBody s_answer_cut) (defScope s_answer_cut) .none kV_answer_cut dc_answer_cut pm_answer_cut an_answer_cut cd_answer_cut ct_answer_cut), sl_answer_cut⟩) (c_answer_cut : PySem.W.codeIn K cd_answer_cut "answer_cut" = true) (k_answer_cut : PySem.W.keepIn K (.ref f_answer_cut) = true)
    (a_answer_cheapest : PySem.W.nsIn K mainGlobals "answer_cheapest" = some (some (.ref f_answer_cheapest)))
    {od_answer_cheapest an_answer_cheapest : Option Addr} {sl_answer_cheapest : Array (Option Value)} {oc_answer_cheapest kV_answer_cheapest dc_answer_cheapest pm_answer_cheapest cd_answer_cheapest ct_answer_cheapest : Value} (l_answer_cheapest : K.lookup f_answer_cheapest = some ⟨oc_answer_cheapest, od_answer_cheapest, .func (PySem.W.fnOf "answer_cheapest" "answer_cheapest" (defArgs s_answer_cheapest) (defBody s_answer_cheapest) (defScope s_answer_cheapest) .none kV_answer_cheapest dc_answer_cheapest pm_answer_cheapest an_answer_cheapest cd_answer_cheapest ct_answer_cheapest), sl_answer_cheapest⟩) (c_answer_cheapest : PySem.W.codeIn K cd_answer_cheapest "answer_cheapest" = true) (k_answer_cheapest : PySem.W.keepIn K (.ref f_answer_cheapest) = true)
    (a_answer_flow : PySem.W.nsIn K mainGlobals "answer_flow" = some (some (.ref f_answer_flow)))
    {od_answer_flow an_answer_flow : Option Addr} {sl_answer_flow : Array (Option Value)} {oc_answer_flow kV_answer_flow dc_answer_flow pm_answer_flow cd_answer_flow ct_answer_flow : Value} (l_answer_flow : K.lookup f_answer_flow = some ⟨oc_answer_flow, od_answer_flow, .func (PySem.W.fnOf "answer_flow" "answer_flow" (defArgs s_answer_flow) (defBody s_answer_flow) (defScope s_answer_flow) .none kV_answer_flow dc_answer_flow pm_answer_flow an_answer_flow cd_answer_flow ct_answer_flow), sl_answer_flow⟩) (c_answer_flow : PySem.W.codeIn K cd_answer_flow "answer_flow" = true) (k_answer_flow : PySem.W.keepIn K (.ref f_answer_flow) = true)
    (a_answer_proves : PySem.W.nsIn K mainGlobals "answer_proves" = some (some (.ref f_answer_proves)))
    {od_answer_proves an_answer_proves : Option Addr} {sl_answer_proves : Array (Option Value)} {oc_answer_proves kV_answer_proves dc_answer_proves pm_answer_proves cd_answer_proves ct_answer_proves : Value} (l_answer_proves : K.lookup f_answer_proves = some ⟨oc_answer_proves, od_answer_proves, .func (PySem.W.fnOf "answer_proves" "answer_proves" (defArgs s_answer_proves) (defBody s_answer_proves) (defScope s_answer_proves) .none kV_answer_proves dc_answer_proves pm_answer_proves an_answer_proves cd_answer_proves ct_answer_proves), sl_answer_proves⟩) (c_answer_proves : PySem.W.codeIn K cd_answer_proves "answer_proves" = true) (k_answer_proves : PySem.W.keepIn K (.ref f_answer_proves) = true)
    (a_Arc : PySem.W.nsIn K mainGlobals "Arc" = some (some (.ref C_Arc)))
    (pg_Arc : PySem.W.plainGet K C_Arc Str.empty = true)
    (hd_Arc : PySem.W.hasDictIn K C_Arc = true)
    (po_Arc : PySem.W.plainOver K C_Arc = true)
    (sa_Arc : PySem.W.findIn K (.ref C_Arc) "__setattr__" = some (some (.builtin "object.__setattr__")))
    (na_Arc_origin : PySem.W.findIn K (.ref C_Arc) "origin" = some none)
    (na_Arc_goal : PySem.W.findIn K (.ref C_Arc) "goal" = some none)
    (na_Arc_capacity : PySem.W.findIn K (.ref C_Arc) "capacity" = some none)
    (na_Arc_cost : PySem.W.findIn K (.ref C_Arc) "cost" = some none)
    (m_Arc_init : PySem.W.findIn K (.ref C_Arc) "__init__" = some (some (.ref f_Arc_init))) (i_Arc_init : PySem.W.isFn K (.ref f_Arc_init) = true)
    {od_Arc_init an_Arc_init : Option Addr} {sl_Arc_init : Array (Option Value)} {oc_Arc_init kV_Arc_init dc_Arc_init pm_Arc_init cd_Arc_init ct_Arc_init : Value} (l_Arc_init : K.lookup f_Arc_init = some ⟨oc_Arc_init, od_Arc_init, .func (PySem.W.fnOf "__init__" "Arc.__init__" (defArgs s_Arc_init) (defBody s_Arc_init) (defScope s_Arc_init) .none kV_Arc_init dc_Arc_init pm_Arc_init an_Arc_init cd_Arc_init ct_Arc_init), sl_Arc_init⟩) (c_Arc_init : PySem.W.codeIn K cd_Arc_init "Arc.__init__" = true) (k_Arc_init : PySem.W.keepIn K (.ref f_Arc_init) = true)
    (mk_Arc : PySem.W.makesIn K C_Arc = true) (kc_Arc : PySem.W.keepIn K (.ref C_Arc) = true)
    (a_Net : PySem.W.nsIn K mainGlobals "Net" = some (some (.ref C_Net)))
    (pg_Net : PySem.W.plainGet K C_Net Str.empty = true)
    (hd_Net : PySem.W.hasDictIn K C_Net = true)
    (po_Net : PySem.W.plainOver K C_Net = true)
    (sa_Net : PySem.W.findIn K (.ref C_Net) "__setattr__" = some (some (.builtin "object.__setattr__")))
    (na_Net_arcs : PySem.W.findIn K (.ref C_Net) "arcs" = some none)
    (m_Net_init : PySem.W.findIn K (.ref C_Net) "__init__" = some (some (.ref f_Net_init))) (i_Net_init : PySem.W.isFn K (.ref f_Net_init) = true)
    {od_Net_init an_Net_init : Option Addr} {sl_Net_init : Array (Option Value)} {oc_Net_init kV_Net_init dc_Net_init pm_Net_init cd_Net_init ct_Net_init : Value} (l_Net_init : K.lookup f_Net_init = some ⟨oc_Net_init, od_Net_init, .func (PySem.W.fnOf "__init__" "Net.__init__" (defArgs s_Net_init) (defBody s_Net_init) (defScope s_Net_init) .none kV_Net_init dc_Net_init pm_Net_init an_Net_init cd_Net_init ct_Net_init), sl_Net_init⟩) (c_Net_init : PySem.W.codeIn K cd_Net_init "Net.__init__" = true) (k_Net_init : PySem.W.keepIn K (.ref f_Net_init) = true)
    (mk_Net : PySem.W.makesIn K C_Net = true) (kc_Net : PySem.W.keepIn K (.ref C_Net) = true)
    (m_Net_add_arc : PySem.W.findIn K (.ref C_Net) "add_arc" = some (some (.ref f_Net_add_arc))) (i_Net_add_arc : PySem.W.isFn K (.ref f_Net_add_arc) = true)
    {od_Net_add_arc an_Net_add_arc : Option Addr} {sl_Net_add_arc : Array (Option Value)} {oc_Net_add_arc kV_Net_add_arc dc_Net_add_arc pm_Net_add_arc cd_Net_add_arc ct_Net_add_arc : Value} (l_Net_add_arc : K.lookup f_Net_add_arc = some ⟨oc_Net_add_arc, od_Net_add_arc, .func (PySem.W.fnOf "add_arc" "Net.add_arc" (defArgs s_Net_add_arc) (defBody s_Net_add_arc) (defScope s_Net_add_arc) .none kV_Net_add_arc dc_Net_add_arc pm_Net_add_arc an_Net_add_arc cd_Net_add_arc ct_Net_add_arc), sl_Net_add_arc⟩) (c_Net_add_arc : PySem.W.codeIn K cd_Net_add_arc "Net.add_arc" = true) (k_Net_add_arc : PySem.W.keepIn K (.ref f_Net_add_arc) = true)
    (m_Net_drop_arc : PySem.W.findIn K (.ref C_Net) "drop_arc" = some (some (.ref f_Net_drop_arc))) (i_Net_drop_arc : PySem.W.isFn K (.ref f_Net_drop_arc) = true)
    {od_Net_drop_arc an_Net_drop_arc : Option Addr} {sl_Net_drop_arc : Array (Option Value)} {oc_Net_drop_arc kV_Net_drop_arc dc_Net_drop_arc pm_Net_drop_arc cd_Net_drop_arc ct_Net_drop_arc : Value} (l_Net_drop_arc : K.lookup f_Net_drop_arc = some ⟨oc_Net_drop_arc, od_Net_drop_arc, .func (PySem.W.fnOf "drop_arc" "Net.drop_arc" (defArgs s_Net_drop_arc) (defBody s_Net_drop_arc) (defScope s_Net_drop_arc) .none kV_Net_drop_arc dc_Net_drop_arc pm_Net_drop_arc an_Net_drop_arc cd_Net_drop_arc ct_Net_drop_arc), sl_Net_drop_arc⟩) (c_Net_drop_arc : PySem.W.codeIn K cd_Net_drop_arc "Net.drop_arc" = true) (k_Net_drop_arc : PySem.W.keepIn K (.ref f_Net_drop_arc) = true)
    (a_Reader : PySem.W.nsIn K mainGlobals "Reader" = some (some (.ref C_Reader)))
    (pg_Reader : PySem.W.plainGet K C_Reader Str.empty = true)
    (hd_Reader : PySem.W.hasDictIn K C_Reader = true)
    (po_Reader : PySem.W.plainOver K C_Reader = true)
    (sa_Reader : PySem.W.findIn K (.ref C_Reader) "__setattr__" = some (some (.builtin "object.__setattr__")))
    (na_Reader_numbers : PySem.W.findIn K (.ref C_Reader) "numbers" = some none)
    (na_Reader_place : PySem.W.findIn K (.ref C_Reader) "place" = some none)
    (m_Reader_init : PySem.W.findIn K (.ref C_Reader) "__init__" = some (some (.ref f_Reader_init))) (i_Reader_init : PySem.W.isFn K (.ref f_Reader_init) = true)
    {od_Reader_init an_Reader_init : Option Addr} {sl_Reader_init : Array (Option Value)} {oc_Reader_init kV_Reader_init dc_Reader_init pm_Reader_init cd_Reader_init ct_Reader_init : Value} (l_Reader_init : K.lookup f_Reader_init = some ⟨oc_Reader_init, od_Reader_init, .func (PySem.W.fnOf "__init__" "Reader.__init__" (defArgs s_Reader_init) (defBody s_Reader_init) (defScope s_Reader_init) .none kV_Reader_init dc_Reader_init pm_Reader_init an_Reader_init cd_Reader_init ct_Reader_init), sl_Reader_init⟩) (c_Reader_init : PySem.W.codeIn K cd_Reader_init "Reader.__init__" = true) (k_Reader_init : PySem.W.keepIn K (.ref f_Reader_init) = true)
    (mk_Reader : PySem.W.makesIn K C_Reader = true) (kc_Reader : PySem.W.keepIn K (.ref C_Reader) = true)
    (m_Reader_has_more : PySem.W.findIn K (.ref C_Reader) "has_more" = some (some (.ref f_Reader_has_more))) (i_Reader_has_more : PySem.W.isFn K (.ref f_Reader_has_more) = true)
    {od_Reader_has_more an_Reader_has_more : Option Addr} {sl_Reader_has_more : Array (Option Value)} {oc_Reader_has_more kV_Reader_has_more dc_Reader_has_more pm_Reader_has_more cd_Reader_has_more ct_Reader_has_more : Value} (l_Reader_has_more : K.lookup f_Reader_has_more = some ⟨oc_Reader_has_more, od_Reader_has_more, .func (PySem.W.fnOf "has_more" "Reader.has_more" (defArgs s_Reader_has_more) (defBody s_Reader_has_more) (defScope s_Reader_has_more) .none kV_Reader_has_more dc_Reader_has_more pm_Reader_has_more an_Reader_has_more cd_Reader_has_more ct_Reader_has_more), sl_Reader_has_more⟩) (c_Reader_has_more : PySem.W.codeIn K cd_Reader_has_more "Reader.has_more" = true) (k_Reader_has_more : PySem.W.keepIn K (.ref f_Reader_has_more) = true)
    (m_Reader_take : PySem.W.findIn K (.ref C_Reader) "take" = some (some (.ref f_Reader_take))) (i_Reader_take : PySem.W.isFn K (.ref f_Reader_take) = true)
    {od_Reader_take an_Reader_take : Option Addr} {sl_Reader_take : Array (Option Value)} {oc_Reader_take kV_Reader_take dc_Reader_take pm_Reader_take cd_Reader_take ct_Reader_take : Value} (l_Reader_take : K.lookup f_Reader_take = some ⟨oc_Reader_take, od_Reader_take, .func (PySem.W.fnOf "take" "Reader.take" (defArgs s_Reader_take) (defBody s_Reader_take) (defScope s_Reader_take) .none kV_Reader_take dc_Reader_take pm_Reader_take an_Reader_take cd_Reader_take ct_Reader_take), sl_Reader_take⟩) (c_Reader_take : PySem.W.codeIn K cd_Reader_take "Reader.take" = true) (k_Reader_take : PySem.W.keepIn K (.ref f_Reader_take) = true)
    (m_Reader_take_row : PySem.W.findIn K (.ref C_Reader) "take_row" = some (some (.ref f_Reader_take_row))) (i_Reader_take_row : PySem.W.isFn K (.ref f_Reader_take_row) = true)
    {od_Reader_take_row an_Reader_take_row : Option Addr} {sl_Reader_take_row : Array (Option Value)} {oc_Reader_take_row kV_Reader_take_row dc_Reader_take_row pm_Reader_take_row cd_Reader_take_row ct_Reader_take_row : Value} (l_Reader_take_row : K.lookup f_Reader_take_row = some ⟨oc_Reader_take_row, od_Reader_take_row, .func (PySem.W.fnOf "take_row" "Reader.take_row" (defArgs s_Reader_take_row) (defBody s_Reader_take_row) (defScope s_Reader_take_row) .none kV_Reader_take_row dc_Reader_take_row pm_Reader_take_row an_Reader_take_row cd_Reader_take_row ct_Reader_take_row), sl_Reader_take_row⟩) (c_Reader_take_row : PySem.W.codeIn K cd_Reader_take_row "Reader.take_row" = true) (k_Reader_take_row : PySem.W.keepIn K (.ref f_Reader_take_row) = true)
    (a_REFUSED : PySem.W.nsIn K mainGlobals "REFUSED" = some (some (.int (-1) t_REFUSED)))
    (a_NODES : PySem.W.nsIn K mainGlobals "NODES" = some (some (.int (64) t_NODES)))
    (a_MOST_ARCS : PySem.W.nsIn K mainGlobals "MOST_ARCS" = some (some (.int (512) t_MOST_ARCS)))
    (a_MOST_CAPACITY : PySem.W.nsIn K mainGlobals "MOST_CAPACITY" = some (some (.int (1000000000) t_MOST_CAPACITY)))
    (a_MOST_COST : PySem.W.nsIn K mainGlobals "MOST_COST" = some (some (.int (1000000) t_MOST_COST)))
    (a_MOST_PRICE : PySem.W.nsIn K mainGlobals "MOST_PRICE" = some (some (.int (1000000000000) t_MOST_PRICE)))
    (a_ARC : PySem.W.nsIn K mainGlobals "ARC" = some (some (.int (1) t_ARC)))
    (a_DROP : PySem.W.nsIn K mainGlobals "DROP" = some (some (.int (2) t_DROP)))
    (a_MOST : PySem.W.nsIn K mainGlobals "MOST" = some (some (.int (3) t_MOST)))
    (a_CUT : PySem.W.nsIn K mainGlobals "CUT" = some (some (.int (4) t_CUT)))
    (a_CHEAPEST : PySem.W.nsIn K mainGlobals "CHEAPEST" = some (some (.int (5) t_CHEAPEST)))
    (a_FLOW : PySem.W.nsIn K mainGlobals "FLOW" = some (some (.int (6) t_FLOW)))
    (a_PROVES : PySem.W.nsIn K mainGlobals "PROVES" = some (some (.int (7) t_PROVES)))
    (a_NO_SUCH_FLOW : PySem.W.nsIn K mainGlobals "NO_SUCH_FLOW" = some (some (.int (-2) t_NO_SUCH_FLOW)))
    (z_all : PySem.W.nsIn K mainGlobals "all" = some none)
    (z_enumerate : PySem.W.nsIn K mainGlobals "enumerate" = some none)
    (z_len : PySem.W.nsIn K mainGlobals "len" = some none)
    (z_list : PySem.W.nsIn K mainGlobals "list" = some none)
    (z_min : PySem.W.nsIn K mainGlobals "min" = some none)
    (z_range : PySem.W.nsIn K mainGlobals "range" = some none)
    (z_sum : PySem.W.nsIn K mainGlobals "sum" = some none)
    (z_zip : PySem.W.nsIn K mainGlobals "zip" = some none)
    : ∃ a : Adr, Txt K mg a := by
  refine ⟨⟨f_greatest_value, (PySem.W.fnOf "greatest_value" "greatest_value" (defArgs s_greatest_value) (defBody s_greatest_value) (defScope s_greatest_value) .none kV_greatest_value dc_greatest_value pm_greatest_value an_greatest_value cd_greatest_value ct_greatest_value), f_smallest_cut, (PySem.W.fnOf "smallest_cut" "smallest_cut" (defArgs s_smallest_cut) (defBody s_smallest_cut) (defScope s_smallest_cut) .none kV_smallest_cut dc_smallest_cut pm_smallest_cut an_smallest_cut cd_smallest_cut ct_smallest_cut), f_value_of, (PySem.W.fnOf "value_of" "value_of" (defArgs s_value_of) (defBody s_value_of) (defScope s_value_of) .none kV_value_of dc_value_of pm_value_of an_value_of cd_value_of ct_value_of), f_cost_of, (PySem.W.fnOf "cost_of" "cost_of" (defArgs s_cost_of) (defBody s_cost_of) (defScope s_cost_of) .none kV_cost_of dc_cost_of pm_cost_of an_cost_of cd_cost_of ct_cost_of), f_greatest_flow, (PySem.W.fnOf "greatest_flow" "greatest_flow" (defArgs s_greatest_flow) (defBody s_greatest_flow) (defScope s_greatest_flow) .none kV_greatest_flow dc_greatest_flow pm_greatest_flow an_greatest_flow cd_greatest_flow ct_greatest_flow), f_ways_from, (PySem.W.fnOf "ways_from" "ways_from" (defArgs s_ways_from) (defBody s_ways_from) (defScope s_ways_from) .none kV_ways_from dc_ways_from pm_ways_from an_ways_from cd_ways_from ct_ways_from), f_far_end, (PySem.W.fnOf "far_end" "far_end" (defArgs s_far_end) (defBody s_far_end) (defScope s_far_end) .none kV_far_end dc_far_end pm_far_end an_far_end cd_far_end ct_far_end), f_steps_to, (PySem.W.fnOf "steps_to" "steps_to" (defArgs s_steps_to) (defBody s_steps_to) (defScope s_steps_to) .none kV_steps_to dc_steps_to pm_steps_to an_steps_to cd_steps_to ct_steps_to), f_room_along, (PySem.W.fnOf "room_along" "room_along" (defArgs s_room_along) (defBody s_room_along) (defScope s_room_along) .none kV_room_along dc_room_along pm_room_along an_room_along cd_room_along ct_room_along), f_room, (PySem.W.fnOf "room" "room" (defArgs s_room) (defBody s_room) (defScope s_room) .none kV_room dc_room pm_room an_room cd_room ct_room), f_sent_along, (PySem.W.fnOf "sent_along" "sent_along" (defArgs s_sent_along) (defBody s_sent_along) (defScope s_sent_along) .none kV_sent_along dc_sent_along pm_sent_along an_sent_along cd_sent_along ct_sent_along), f_least_cost, (PySem.W.fnOf "least_cost" "least_cost" (defArgs s_least_cost) (defBody s_least_cost) (defScope s_least_cost) .none kV_least_cost dc_least_cost pm_least_cost an_least_cost cd_least_cost ct_least_cost), f_with_arc_taken_in, (PySem.W.fnOf "with_arc_taken_in" "with_arc_taken_in" (defArgs s_with_arc_taken_in) (defBody s_with_arc_taken_in) (defScope s_with_arc_taken_in) .none kV_with_arc_taken_in dc_with_arc_taken_in pm_with_arc_taken_in an_with_arc_taken_in cd_with_arc_taken_in ct_with_arc_taken_in), f_with_value_sent, (PySem.W.fnOf "with_value_sent" "with_value_sent" (defArgs s_with_value_sent) (defBody s_with_value_sent) (defScope s_with_value_sent) .none kV_with_value_sent dc_with_value_sent pm_with_value_sent an_with_value_sent cd_with_value_sent ct_with_value_sent), f_cheapest_ways, (PySem.W.fnOf "cheapest_ways" "cheapest_ways" (defArgs s_cheapest_ways) (defBody s_cheapest_ways) (defScope s_cheapest_ways) .none kV_cheapest_ways dc_cheapest_ways pm_cheapest_ways an_cheapest_ways cd_cheapest_ways ct_cheapest_ways), f_steps_with_room, (PySem.W.fnOf "steps_with_room" "steps_with_room" (defArgs s_steps_with_room) (defBody s_steps_with_room) (defScope s_steps_with_room) .none kV_steps_with_room dc_steps_with_room pm_steps_with_room an_steps_with_room cd_steps_with_room ct_steps_with_room), f_cost_along, (PySem.W.fnOf "cost_along" "cost_along" (defArgs s_cost_along) (defBody s_cost_along) (defScope s_cost_along) .none kV_cost_along dc_cost_along pm_cost_along an_cost_along cd_cost_along ct_cost_along), f_are_two_nodes, (PySem.W.fnOf "are_two_nodes" "are_two_nodes" (defArgs s_are_two_nodes) (defBody s_are_two_nodes) (defScope s_are_two_nodes) .none kV_are_two_nodes dc_are_two_nodes pm_are_two_nodes an_are_two_nodes cd_are_two_nodes ct_are_two_nodes), f_is_node, (PySem.W.fnOf "is_node" "is_node" (defArgs s_is_node) (defBody s_is_node) (defScope s_is_node) .none kV_is_node dc_is_node pm_is_node an_is_node cd_is_node ct_is_node), f_are_within_bounds, (PySem.W.fnOf "are_within_bounds" "are_within_bounds" (defArgs s_are_within_bounds) (defBody s_are_within_bounds) (defScope s_are_within_bounds) .none kV_are_within_bounds dc_are_within_bounds pm_are_within_bounds an_are_within_bounds cd_are_within_bounds ct_are_within_bounds), f_is_flow, (PySem.W.fnOf "is_flow" "is_flow" (defArgs s_is_flow) (defBody s_is_flow) (defScope s_is_flow) .none kV_is_flow dc_is_flow pm_is_flow an_is_flow cd_is_flow ct_is_flow), f_are_within_capacities, (PySem.W.fnOf "are_within_capacities" "are_within_capacities" (defArgs s_are_within_capacities) (defBody s_are_within_capacities) (defScope s_are_within_capacities) .none kV_are_within_capacities dc_are_within_capacities pm_are_within_capacities an_are_within_capacities cd_are_within_capacities ct_are_within_capacities), f_prices_go_with, (PySem.W.fnOf "prices_go_with" "prices_go_with" (defArgs s_prices_go_with) (defBody s_prices_go_with) (defScope s_prices_go_with) .none kV_prices_go_with dc_prices_go_with pm_prices_go_with an_prices_go_with cd_prices_go_with ct_prices_go_with), f_every_price, (PySem.W.fnOf "every_price" "every_price" (defArgs s_every_price) (defBody s_every_price) (defScope s_every_price) .none kV_every_price dc_every_price pm_every_price an_every_price cd_every_price ct_every_price), f_are_prices_within_bounds, (PySem.W.fnOf "are_prices_within_bounds" "are_prices_within_bounds" (defArgs s_are_prices_within_bounds) (defBody s_are_prices_within_bounds) (defScope s_are_prices_within_bounds) .none kV_are_prices_within_bounds dc_are_prices_within_bounds pm_are_prices_within_bounds an_are_prices_within_bounds cd_are_prices_within_bounds ct_are_prices_within_bounds), f_is_cost_fitting, (PySem.W.fnOf "is_cost_fitting" "is_cost_fitting" (defArgs s_is_cost_fitting) (defBody s_is_cost_fitting) (defScope s_is_cost_fitting) .none kV_is_cost_fitting dc_is_cost_fitting pm_is_cost_fitting an_is_cost_fitting cd_is_cost_fitting ct_is_cost_fitting), f_answers, (PySem.W.fnOf "answers" "answers" (defArgs s_answers) (defBody s_answers) (defScope s_answers) .none kV_answers dc_answers pm_answers an_answers cd_answers ct_answers), f_answer_next, (PySem.W.fnOf "answer_next" "answer_next" (defArgs s_answer_next) (defBody s_answer_next) (defScope s_answer_next) .none kV_answer_next dc_answer_next pm_answer_next an_answer_next cd_answer_next ct_answer_next), f_answer_arc, (PySem.W.fnOf "answer_arc" "answer_arc" (defArgs s_answer_arc) (defBody s_answer_arc) (defScope s_answer_arc) .none kV_answer_arc dc_answer_arc pm_answer_arc an_answer_arc cd_answer_arc ct_answer_arc), f_answer_most, (PySem.W.fnOf "answer_most" "answer_most" (defArgs s_answer_most) (defBody s_answer_most) (defScope s_answer_most) .none kV_answer_most dc_answer_most pm_answer_most an_answer_most cd_answer_most ct_answer_most), f_answer_cut, (PySem.W.fnOf "answer_cut" "answer_cut" (defArgs s_answer_cut) (defBody s_answer_cut) (defScope s_answer_cut) .none kV_answer_cut dc_answer_cut pm_answer_cut an_answer_cut cd_answer_cut ct_answer_cut), f_answer_cheapest, (PySem.W.fnOf "answer_cheapest" "answer_cheapest" (defArgs s_answer_cheapest) (defBody s_answer_cheapest) (defScope s_answer_cheapest) .none kV_answer_cheapest dc_answer_cheapest pm_answer_cheapest an_answer_cheapest cd_answer_cheapest ct_answer_cheapest), f_answer_flow, (PySem.W.fnOf "answer_flow" "answer_flow" (defArgs s_answer_flow) (defBody s_answer_flow) (defScope s_answer_flow) .none kV_answer_flow dc_answer_flow pm_answer_flow an_answer_flow cd_answer_flow ct_answer_flow), f_answer_proves, (PySem.W.fnOf "answer_proves" "answer_proves" (defArgs s_answer_proves) (defBody s_answer_proves) (defScope s_answer_proves) .none kV_answer_proves dc_answer_proves pm_answer_proves an_answer_proves cd_answer_proves ct_answer_proves), C_Arc, f_Arc_init, (PySem.W.fnOf "__init__" "Arc.__init__" (defArgs s_Arc_init) (defBody s_Arc_init) (defScope s_Arc_init) .none kV_Arc_init dc_Arc_init pm_Arc_init an_Arc_init cd_Arc_init ct_Arc_init), C_Net, f_Net_init, (PySem.W.fnOf "__init__" "Net.__init__" (defArgs s_Net_init) (defBody s_Net_init) (defScope s_Net_init) .none kV_Net_init dc_Net_init pm_Net_init an_Net_init cd_Net_init ct_Net_init), f_Net_add_arc, (PySem.W.fnOf "add_arc" "Net.add_arc" (defArgs s_Net_add_arc) (defBody s_Net_add_arc) (defScope s_Net_add_arc) .none kV_Net_add_arc dc_Net_add_arc pm_Net_add_arc an_Net_add_arc cd_Net_add_arc ct_Net_add_arc), f_Net_drop_arc, (PySem.W.fnOf "drop_arc" "Net.drop_arc" (defArgs s_Net_drop_arc) (defBody s_Net_drop_arc) (defScope s_Net_drop_arc) .none kV_Net_drop_arc dc_Net_drop_arc pm_Net_drop_arc an_Net_drop_arc cd_Net_drop_arc ct_Net_drop_arc), C_Reader, f_Reader_init, (PySem.W.fnOf "__init__" "Reader.__init__" (defArgs s_Reader_init) (defBody s_Reader_init) (defScope s_Reader_init) .none kV_Reader_init dc_Reader_init pm_Reader_init an_Reader_init cd_Reader_init ct_Reader_init), f_Reader_has_more, (PySem.W.fnOf "has_more" "Reader.has_more" (defArgs s_Reader_has_more) (defBody s_Reader_has_more) (defScope s_Reader_has_more) .none kV_Reader_has_more dc_Reader_has_more pm_Reader_has_more an_Reader_has_more cd_Reader_has_more ct_Reader_has_more), f_Reader_take, (PySem.W.fnOf "take" "Reader.take" (defArgs s_Reader_take) (defBody s_Reader_take) (defScope s_Reader_take) .none kV_Reader_take dc_Reader_take pm_Reader_take an_Reader_take cd_Reader_take ct_Reader_take), f_Reader_take_row, (PySem.W.fnOf "take_row" "Reader.take_row" (defArgs s_Reader_take_row) (defBody s_Reader_take_row) (defScope s_Reader_take_row) .none kV_Reader_take_row dc_Reader_take_row pm_Reader_take_row an_Reader_take_row cd_Reader_take_row ct_Reader_take_row)⟩, ?_⟩
  exact ⟨⟨(fun_mk (st := s_greatest_value) l_greatest_value c_greatest_value k_greatest_value), ((fun_mk (st := s_greatest_value) l_greatest_value c_greatest_value k_greatest_value).binds (ps := ["arcs", "s", "t"]) fun _ _ _ _ _ _ us hl => NF.el3 (P := fun us => bindArgs _ { pos := us } = pure (List.zip _ us)) (fun _ _ _ => rfl) us hl), PySem.W.mg_of X G a_greatest_value⟩,
    ⟨(fun_mk (st := s_smallest_cut) l_smallest_cut c_smallest_cut k_smallest_cut), ((fun_mk (st := s_smallest_cut) l_smallest_cut c_smallest_cut k_smallest_cut).binds (ps := ["arcs", "s", "t"]) fun _ _ _ _ _ _ us hl => NF.el3 (P := fun us => bindArgs _ { pos := us } = pure (List.zip _ us)) (fun _ _ _ => rfl) us hl), PySem.W.mg_of X G a_smallest_cut⟩,
    ⟨(fun_mk (st := s_value_of) l_value_of c_value_of k_value_of), ((fun_mk (st := s_value_of) l_value_of c_value_of k_value_of).binds (ps := ["arcs", "amounts", "node"]) fun _ _ _ _ _ _ us hl => NF.el3 (P := fun us => bindArgs _ { pos := us } = pure (List.zip _ us)) (fun _ _ _ => rfl) us hl), PySem.W.mg_of X G a_value_of⟩,
    ⟨(fun_mk (st := s_cost_of) l_cost_of c_cost_of k_cost_of), ((fun_mk (st := s_cost_of) l_cost_of c_cost_of k_cost_of).binds (ps := ["arcs", "amounts"]) fun _ _ _ _ _ _ us hl => NF.el2 (P := fun us => bindArgs _ { pos := us } = pure (List.zip _ us)) (fun _ _ => rfl) us hl), PySem.W.mg_of X G a_cost_of⟩,
    ⟨(fun_mk (st := s_greatest_flow) l_greatest_flow c_greatest_flow k_greatest_flow), ((fun_mk (st := s_greatest_flow) l_greatest_flow c_greatest_flow k_greatest_flow).binds (ps := ["arcs", "s", "t"]) fun _ _ _ _ _ _ us hl => NF.el3 (P := fun us => bindArgs _ { pos := us } = pure (List.zip _ us)) (fun _ _ _ => rfl) us hl), PySem.W.mg_of X G a_greatest_flow⟩,
    ⟨(fun_mk (st := s_ways_from) l_ways_from c_ways_from k_ways_from), ((fun_mk (st := s_ways_from) l_ways_from c_ways_from k_ways_from).binds (ps := ["arcs", "amounts", "s"]) fun _ _ _ _ _ _ us hl => NF.el3 (P := fun us => bindArgs _ { pos := us } = pure (List.zip _ us)) (fun _ _ _ => rfl) us hl), PySem.W.mg_of X G a_ways_from⟩,
    ⟨(fun_mk (st := s_far_end) l_far_end c_far_end k_far_end), ((fun_mk (st := s_far_end) l_far_end c_far_end k_far_end).binds (ps := ["arc", "amount", "node"]) fun _ _ _ _ _ _ us hl => NF.el3 (P := fun us => bindArgs _ { pos := us } = pure (List.zip _ us)) (fun _ _ _ => rfl) us hl), PySem.W.mg_of X G a_far_end⟩,
    ⟨(fun_mk (st := s_steps_to) l_steps_to c_steps_to k_steps_to), ((fun_mk (st := s_steps_to) l_steps_to c_steps_to k_steps_to).binds (ps := ["arcs", "ways", "t"]) fun _ _ _ _ _ _ us hl => NF.el3 (P := fun us => bindArgs _ { pos := us } = pure (List.zip _ us)) (fun _ _ _ => rfl) us hl), PySem.W.mg_of X G a_steps_to⟩,
    ⟨(fun_mk (st := s_room_along) l_room_along c_room_along k_room_along), ((fun_mk (st := s_room_along) l_room_along c_room_along k_room_along).binds (ps := ["arcs", "amounts", "steps"]) fun _ _ _ _ _ _ us hl => NF.el3 (P := fun us => bindArgs _ { pos := us } = pure (List.zip _ us)) (fun _ _ _ => rfl) us hl), PySem.W.mg_of X G a_room_along⟩,
    ⟨(fun_mk (st := s_room) l_room c_room k_room), ((fun_mk (st := s_room) l_room c_room k_room).binds (ps := ["arc", "amount", "forwards"]) fun _ _ _ _ _ _ us hl => NF.el3 (P := fun us => bindArgs _ { pos := us } = pure (List.zip _ us)) (fun _ _ _ => rfl) us hl), PySem.W.mg_of X G a_room⟩,
    ⟨(fun_mk (st := s_sent_along) l_sent_along c_sent_along k_sent_along), ((fun_mk (st := s_sent_along) l_sent_along c_sent_along k_sent_along).binds (ps := ["amounts", "steps", "more"]) fun _ _ _ _ _ _ us hl => NF.el3 (P := fun us => bindArgs _ { pos := us } = pure (List.zip _ us)) (fun _ _ _ => rfl) us hl), PySem.W.mg_of X G a_sent_along⟩,
    ⟨(fun_mk (st := s_least_cost) l_least_cost c_least_cost k_least_cost), ((fun_mk (st := s_least_cost) l_least_cost c_least_cost k_least_cost).binds (ps := ["arcs", "s", "t", "value"]) fun _ _ _ _ _ _ us hl => NF.el4 (P := fun us => bindArgs _ { pos := us } = pure (List.zip _ us)) (fun _ _ _ _ => rfl) us hl), PySem.W.mg_of X G a_least_cost⟩,
    ⟨(fun_mk (st := s_with_arc_taken_in) l_with_arc_taken_in c_with_arc_taken_in k_with_arc_taken_in), ((fun_mk (st := s_with_arc_taken_in) l_with_arc_taken_in c_with_arc_taken_in k_with_arc_taken_in).binds (ps := ["arcs", "amounts", "number"]) fun _ _ _ _ _ _ us hl => NF.el3 (P := fun us => bindArgs _ { pos := us } = pure (List.zip _ us)) (fun _ _ _ => rfl) us hl), PySem.W.mg_of X G a_with_arc_taken_in⟩,
    ⟨(fun_mk (st := s_with_value_sent) l_with_value_sent c_with_value_sent k_with_value_sent), ((fun_mk (st := s_with_value_sent) l_with_value_sent c_with_value_sent k_with_value_sent).binds (ps := ["arcs", "amounts", "s", "t", "value"]) fun _ _ _ _ _ _ us hl => NF.el5 (P := fun us => bindArgs _ { pos := us } = pure (List.zip _ us)) (fun _ _ _ _ _ => rfl) us hl), PySem.W.mg_of X G a_with_value_sent⟩,
    ⟨(fun_mk (st := s_cheapest_ways) l_cheapest_ways c_cheapest_ways k_cheapest_ways), ((fun_mk (st := s_cheapest_ways) l_cheapest_ways c_cheapest_ways k_cheapest_ways).binds (ps := ["arcs", "amounts", "s"]) fun _ _ _ _ _ _ us hl => NF.el3 (P := fun us => bindArgs _ { pos := us } = pure (List.zip _ us)) (fun _ _ _ => rfl) us hl), PySem.W.mg_of X G a_cheapest_ways⟩,
    ⟨(fun_mk (st := s_steps_with_room) l_steps_with_room c_steps_with_room k_steps_with_room), ((fun_mk (st := s_steps_with_room) l_steps_with_room c_steps_with_room k_steps_with_room).binds (ps := ["arcs", "amounts"]) fun _ _ _ _ _ _ us hl => NF.el2 (P := fun us => bindArgs _ { pos := us } = pure (List.zip _ us)) (fun _ _ => rfl) us hl), PySem.W.mg_of X G a_steps_with_room⟩,
    ⟨(fun_mk (st := s_cost_along) l_cost_along c_cost_along k_cost_along), ((fun_mk (st := s_cost_along) l_cost_along c_cost_along k_cost_along).binds (ps := ["arcs", "steps"]) fun _ _ _ _ _ _ us hl => NF.el2 (P := fun us => bindArgs _ { pos := us } = pure (List.zip _ us)) (fun _ _ => rfl) us hl), PySem.W.mg_of X G a_cost_along⟩,
    ⟨(fun_mk (st := s_are_two_nodes) l_are_two_nodes c_are_two_nodes k_are_two_nodes), ((fun_mk (st := s_are_two_nodes) l_are_two_nodes c_are_two_nodes k_are_two_nodes).binds (ps := ["first", "second"]) fun _ _ _ _ _ _ us hl => NF.el2 (P := fun us => bindArgs _ { pos := us } = pure (List.zip _ us)) (fun _ _ => rfl) us hl), PySem.W.mg_of X G a_are_two_nodes⟩,
    ⟨(fun_mk (st := s_is_node) l_is_node c_is_node k_is_node), ((fun_mk (st := s_is_node) l_is_node c_is_node k_is_node).binds (ps := ["number"]) fun _ _ _ _ _ _ us hl => NF.el1 (P := fun us => bindArgs _ { pos := us } = pure (List.zip _ us)) (fun _ => rfl) us hl), PySem.W.mg_of X G a_is_node⟩,
    ⟨(fun_mk (st := s_are_within_bounds) l_are_within_bounds c_are_within_bounds k_are_within_bounds), ((fun_mk (st := s_are_within_bounds) l_are_within_bounds c_are_within_bounds k_are_within_bounds).binds (ps := ["capacity", "cost"]) fun _ _ _ _ _ _ us hl => NF.el2 (P := fun us => bindArgs _ { pos := us } = pure (List.zip _ us)) (fun _ _ => rfl) us hl), PySem.W.mg_of X G a_are_within_bounds⟩,
    ⟨(fun_mk (st := s_is_flow) l_is_flow c_is_flow k_is_flow), ((fun_mk (st := s_is_flow) l_is_flow c_is_flow k_is_flow).binds (ps := ["arcs", "amounts", "s", "t"]) fun _ _ _ _ _ _ us hl => NF.el4 (P := fun us => bindArgs _ { pos := us } = pure (List.zip _ us)) (fun _ _ _ _ => rfl) us hl), PySem.W.mg_of X G a_is_flow⟩,
    ⟨(fun_mk (st := s_are_within_capacities) l_are_within_capacities c_are_within_capacities k_are_within_capacities), ((fun_mk (st := s_are_within_capacities) l_are_within_capacities c_are_within_capacities k_are_within_capacities).binds (ps := ["arcs", "amounts"]) fun _ _ _ _ _ _ us hl => NF.el2 (P := fun us => bindArgs _ { pos := us } = pure (List.zip _ us)) (fun _ _ => rfl) us hl), PySem.W.mg_of X G a_are_within_capacities⟩,
    ⟨(fun_mk (st := s_prices_go_with) l_prices_go_with c_prices_go_with k_prices_go_with), ((fun_mk (st := s_prices_go_with) l_prices_go_with c_prices_go_with k_prices_go_with).binds (ps := ["arcs", "amounts", "prices", "s"]) fun _ _ _ _ _ _ us hl => NF.el4 (P := fun us => bindArgs _ { pos := us } = pure (List.zip _ us)) (fun _ _ _ _ => rfl) us hl), PySem.W.mg_of X G a_prices_go_with⟩,
    ⟨(fun_mk (st := s_every_price) l_every_price c_every_price k_every_price), ((fun_mk (st := s_every_price) l_every_price c_every_price k_every_price).binds (ps := ["prices"]) fun _ _ _ _ _ _ us hl => NF.el1 (P := fun us => bindArgs _ { pos := us } = pure (List.zip _ us)) (fun _ => rfl) us hl), PySem.W.mg_of X G a_every_price⟩,
    ⟨(fun_mk (st := s_are_prices_within_bounds) l_are_prices_within_bounds c_are_prices_within_bounds k_are_prices_within_bounds), ((fun_mk (st := s_are_prices_within_bounds) l_are_prices_within_bounds c_are_prices_within_bounds k_are_prices_within_bounds).binds (ps := ["prices"]) fun _ _ _ _ _ _ us hl => NF.el1 (P := fun us => bindArgs _ { pos := us } = pure (List.zip _ us)) (fun _ => rfl) us hl), PySem.W.mg_of X G a_are_prices_within_bounds⟩,
    ⟨(fun_mk (st := s_is_cost_fitting) l_is_cost_fitting c_is_cost_fitting k_is_cost_fitting), ((fun_mk (st := s_is_cost_fitting) l_is_cost_fitting c_is_cost_fitting k_is_cost_fitting).binds (ps := ["arc", "amount", "prices"]) fun _ _ _ _ _ _ us hl => NF.el3 (P := fun us => bindArgs _ { pos := us } = pure (List.zip _ us)) (fun _ _ _ => rfl) us hl), PySem.W.mg_of X G a_is_cost_fitting⟩,
    ⟨(fun_mk (st := s_answers) l_answers c_answers k_answers), ((fun_mk (st := s_answers) l_answers c_answers k_answers).binds (ps := ["calls"]) fun _ _ _ _ _ _ us hl => NF.el1 (P := fun us => bindArgs _ { pos := us } = pure (List.zip _ us)) (fun _ => rfl) us hl), PySem.W.mg_of X G a_answers⟩,
    ⟨(fun_mk (st := s_answer_next) l_answer_next c_answer_next k_answer_next), ((fun_mk (st := s_answer_next) l_answer_next c_answer_next k_answer_next).binds (ps := ["net", "reader"]) fun _ _ _ _ _ _ us hl => NF.el2 (P := fun us => bindArgs _ { pos := us } = pure (List.zip _ us)) (fun _ _ => rfl) us hl), PySem.W.mg_of X G a_answer_next⟩,
    ⟨(fun_mk (st := s_answer_arc) l_answer_arc c_answer_arc k_answer_arc), ((fun_mk (st := s_answer_arc) l_answer_arc c_answer_arc k_answer_arc).binds (ps := ["net", "reader"]) fun _ _ _ _ _ _ us hl => NF.el2 (P := fun us => bindArgs _ { pos := us } = pure (List.zip _ us)) (fun _ _ => rfl) us hl), PySem.W.mg_of X G a_answer_arc⟩,
    ⟨(fun_mk (st := s_answer_most) l_answer_most c_answer_most k_answer_most), ((fun_mk (st := s_answer_most) l_answer_most c_answer_most k_answer_most).binds (ps := ["net", "reader"]) fun _ _ _ _ _ _ us hl => NF.el2 (P := fun us => bindArgs _ { pos := us } = pure (List.zip _ us)) (fun _ _ => rfl) us hl), PySem.W.mg_of X G a_answer_most⟩,
    ⟨(fun_mk (st := s_answer_cut) l_answer_cut c_answer_cut k_answer_cut), ((fun_mk (st := s_answer_cut) l_answer_cut c_answer_cut k_answer_cut).binds (ps := ["net", "reader"]) fun _ _ _ _ _ _ us hl => NF.el2 (P := fun us => bindArgs _ { pos := us } = pure (List.zip _ us)) (fun _ _ => rfl) us hl), PySem.W.mg_of X G a_answer_cut⟩,
    ⟨(fun_mk (st := s_answer_cheapest) l_answer_cheapest c_answer_cheapest k_answer_cheapest), ((fun_mk (st := s_answer_cheapest) l_answer_cheapest c_answer_cheapest k_answer_cheapest).binds (ps := ["net", "reader"]) fun _ _ _ _ _ _ us hl => NF.el2 (P := fun us => bindArgs _ { pos := us } = pure (List.zip _ us)) (fun _ _ => rfl) us hl), PySem.W.mg_of X G a_answer_cheapest⟩,
    ⟨(fun_mk (st := s_answer_flow) l_answer_flow c_answer_flow k_answer_flow), ((fun_mk (st := s_answer_flow) l_answer_flow c_answer_flow k_answer_flow).binds (ps := ["net", "reader"]) fun _ _ _ _ _ _ us hl => NF.el2 (P := fun us => bindArgs _ { pos := us } = pure (List.zip _ us)) (fun _ _ => rfl) us hl), PySem.W.mg_of X G a_answer_flow⟩,
    ⟨(fun_mk (st := s_answer_proves) l_answer_proves c_answer_proves k_answer_proves), ((fun_mk (st := s_answer_proves) l_answer_proves c_answer_proves k_answer_proves).binds (ps := ["net", "reader"]) fun _ _ _ _ _ _ us hl => NF.el2 (P := fun us => bindArgs _ { pos := us } = pure (List.zip _ us)) (fun _ _ => rfl) us hl), PySem.W.mg_of X G a_answer_proves⟩,
    ⟨pg_Arc, hd_Arc, po_Arc, sa_Arc⟩,
    PySem.W.mg_of X G a_Arc,
    na_Arc_origin,
    na_Arc_goal,
    na_Arc_capacity,
    na_Arc_cost,
    ⟨(fun_mk (st := s_Arc_init) l_Arc_init c_Arc_init k_Arc_init), ((fun_mk (st := s_Arc_init) l_Arc_init c_Arc_init k_Arc_init).binds (ps := ["self", "origin", "goal", "capacity", "cost"]) fun _ _ _ _ _ _ us hl => NF.el5 (P := fun us => bindArgs _ { pos := us } = pure (List.zip _ us)) (fun _ _ _ _ _ => rfl) us hl), ⟨mk_Arc, m_Arc_init, i_Arc_init, kc_Arc⟩⟩,
    ⟨pg_Net, hd_Net, po_Net, sa_Net⟩,
    PySem.W.mg_of X G a_Net,
    na_Net_arcs,
    ⟨(fun_mk (st := s_Net_init) l_Net_init c_Net_init k_Net_init), ((fun_mk (st := s_Net_init) l_Net_init c_Net_init k_Net_init).binds (ps := ["self"]) fun _ _ _ _ _ _ us hl => NF.el1 (P := fun us => bindArgs _ { pos := us } = pure (List.zip _ us)) (fun _ => rfl) us hl), ⟨mk_Net, m_Net_init, i_Net_init, kc_Net⟩⟩,
    ⟨(fun_mk (st := s_Net_add_arc) l_Net_add_arc c_Net_add_arc k_Net_add_arc), ((fun_mk (st := s_Net_add_arc) l_Net_add_arc c_Net_add_arc k_Net_add_arc).binds (ps := ["self", "origin", "goal", "capacity", "cost"]) fun _ _ _ _ _ _ us hl => NF.el5 (P := fun us => bindArgs _ { pos := us } = pure (List.zip _ us)) (fun _ _ _ _ _ => rfl) us hl), ⟨m_Net_add_arc, i_Net_add_arc, k_Net_add_arc⟩⟩,
    ⟨(fun_mk (st := s_Net_drop_arc) l_Net_drop_arc c_Net_drop_arc k_Net_drop_arc), ((fun_mk (st := s_Net_drop_arc) l_Net_drop_arc c_Net_drop_arc k_Net_drop_arc).binds (ps := ["self"]) fun _ _ _ _ _ _ us hl => NF.el1 (P := fun us => bindArgs _ { pos := us } = pure (List.zip _ us)) (fun _ => rfl) us hl), ⟨m_Net_drop_arc, i_Net_drop_arc, k_Net_drop_arc⟩⟩,
    ⟨pg_Reader, hd_Reader, po_Reader, sa_Reader⟩,
    PySem.W.mg_of X G a_Reader,
    na_Reader_numbers,
    na_Reader_place,
    ⟨(fun_mk (st := s_Reader_init) l_Reader_init c_Reader_init k_Reader_init), ((fun_mk (st := s_Reader_init) l_Reader_init c_Reader_init k_Reader_init).binds (ps := ["self", "numbers"]) fun _ _ _ _ _ _ us hl => NF.el2 (P := fun us => bindArgs _ { pos := us } = pure (List.zip _ us)) (fun _ _ => rfl) us hl), ⟨mk_Reader, m_Reader_init, i_Reader_init, kc_Reader⟩⟩,
    ⟨(fun_mk (st := s_Reader_has_more) l_Reader_has_more c_Reader_has_more k_Reader_has_more), ((fun_mk (st := s_Reader_has_more) l_Reader_has_more c_Reader_has_more k_Reader_has_more).binds (ps := ["self"]) fun _ _ _ _ _ _ us hl => NF.el1 (P := fun us => bindArgs _ { pos := us } = pure (List.zip _ us)) (fun _ => rfl) us hl), ⟨m_Reader_has_more, i_Reader_has_more, k_Reader_has_more⟩⟩,
    ⟨(fun_mk (st := s_Reader_take) l_Reader_take c_Reader_take k_Reader_take), ((fun_mk (st := s_Reader_take) l_Reader_take c_Reader_take k_Reader_take).binds (ps := ["self"]) fun _ _ _ _ _ _ us hl => NF.el1 (P := fun us => bindArgs _ { pos := us } = pure (List.zip _ us)) (fun _ => rfl) us hl), ⟨m_Reader_take, i_Reader_take, k_Reader_take⟩⟩,
    ⟨(fun_mk (st := s_Reader_take_row) l_Reader_take_row c_Reader_take_row k_Reader_take_row), ((fun_mk (st := s_Reader_take_row) l_Reader_take_row c_Reader_take_row k_Reader_take_row).binds (ps := ["self"]) fun _ _ _ _ _ _ us hl => NF.el1 (P := fun us => bindArgs _ { pos := us } = pure (List.zip _ us)) (fun _ => rfl) us hl), ⟨m_Reader_take_row, i_Reader_take_row, k_Reader_take_row⟩⟩,
    ⟨_, ⟨_, rfl⟩, PySem.W.mg_of X G a_REFUSED⟩,
    ⟨_, ⟨_, rfl⟩, PySem.W.mg_of X G a_NODES⟩,
    ⟨_, ⟨_, rfl⟩, PySem.W.mg_of X G a_MOST_ARCS⟩,
    ⟨_, ⟨_, rfl⟩, PySem.W.mg_of X G a_MOST_CAPACITY⟩,
    ⟨_, ⟨_, rfl⟩, PySem.W.mg_of X G a_MOST_COST⟩,
    ⟨_, ⟨_, rfl⟩, PySem.W.mg_of X G a_MOST_PRICE⟩,
    ⟨_, ⟨_, rfl⟩, PySem.W.mg_of X G a_ARC⟩,
    ⟨_, ⟨_, rfl⟩, PySem.W.mg_of X G a_DROP⟩,
    ⟨_, ⟨_, rfl⟩, PySem.W.mg_of X G a_MOST⟩,
    ⟨_, ⟨_, rfl⟩, PySem.W.mg_of X G a_CUT⟩,
    ⟨_, ⟨_, rfl⟩, PySem.W.mg_of X G a_CHEAPEST⟩,
    ⟨_, ⟨_, rfl⟩, PySem.W.mg_of X G a_FLOW⟩,
    ⟨_, ⟨_, rfl⟩, PySem.W.mg_of X G a_PROVES⟩,
    ⟨_, ⟨_, rfl⟩, PySem.W.mg_of X G a_NO_SUCH_FLOW⟩,
    PySem.W.mg_none_of X G z_all,
    PySem.W.mg_none_of X G z_enumerate,
    PySem.W.mg_none_of X G z_len,
    PySem.W.mg_none_of X G z_list,
    PySem.W.mg_none_of X G z_min,
    PySem.W.mg_none_of X G z_range,
    PySem.W.mg_none_of X G z_sum,
    PySem.W.mg_none_of X G z_zip⟩
section
variable {P : Program} {w : World} {K : PySem.W.Frag} {mg : Str → Option Value} {base : Heap} {a : Adr}
inductive SpNode (vs : List V) (H : Hp) (Q : VK) : Prop
  | mk (z : Int) (h0 : vs = [.int z]) (h1 : Q (.bl (Sf13.node z)) H) : SpNode vs H Q
noncomputable def spNode : Sp := fun vs H Q _ => SpNode vs H Q
theorem sc_is_node : FnScope ["number"] ["number"] (defScope s_is_node) := ⟨rfl, rfl, rfl, by decide +kernel, rfl, by decide +kernel, by decide +kernel⟩
theorem ok_is_node (T : Txt K mg a) : FnOk P w K mg base CX0 1 a.f_is_node a.d_is_node ["number"] spNode := by
  refine T.D_is_node.F.ok sc_is_node (fun vs H Q E h => ?_) (fun cdv A outer s H vs Q E hr h => ?_)
  · obtain ⟨z, rfl, _⟩ := h
    rfl
  · obtain ⟨z, rfl, k⟩ := h
    obtain ⟨u, ru, hu⟩ := T.k_NODES
    refine ⟨_, pss_one (ps_ret (pe_chain op_le op_lt pe_int (pv 0) (pe_glob rfl hu ru))), ?_⟩
    refine ⟨_, rfl, _, _, rfl, rfl, _, rfl, ?_⟩
    refine ite2 (fun h => ⟨_, _, rfl, rfl, ?_⟩) (fun h => ?_)
    · have e : Sf13.node z = decide (z < 64) := by
        unfold Sf13.node; rw [h]; rfl
      rw [e] at k; exact k
    · have e : Sf13.node z = false := by
        unfold Sf13.node; simp at h; simp; intro h2; omega
      rw [e] at k; exact k
inductive SpTwo (vs : List V) (H : Hp) (Q : VK) : Prop
  | mk (s t : Int) (h0 : vs = [.int s, .int t]) (h1 : Q (.bl (Sf13.two s t)) H) : SpTwo vs H Q
noncomputable def spTwo : Sp := fun vs H Q _ => SpTwo vs H Q
theorem sc_are_two_nodes : FnScope ["first", "second"] ["first", "second"] (defScope s_are_two_nodes) := ⟨rfl, rfl, rfl, by decide +kernel, rfl, by decide +kernel, by decide +kernel⟩
theorem ok_are_two_nodes (T : Txt K mg a) : FnOk P w K mg base CX0 2 a.f_are_two_nodes a.d_are_two_nodes ["first", "second"] spTwo := by
  have G : FnOk P w K mg base CX0 1 a.f_is_node a.d_is_node ["number"] spNode := ok_is_node T
  refine T.D_are_two_nodes.F.ok sc_are_two_nodes (fun vs H Q E h => ?_) (fun cdv A outer s H vs Q E hr h => ?_)
  · obtain ⟨z, y, rfl, _⟩ := h
    rfl
  · obtain ⟨z, y, rfl, k⟩ := h
    refine ⟨_, pss_one (ps_ret (pe_and (pe_call G hr rfl T.D_is_node.m T.D_is_node.F.kp T.D_is_node.b .nil pass0 (pa_cons (pv 0) pa_nil))
      (pe_and (pe_call G hr rfl T.D_is_node.m T.D_is_node.F.kp T.D_is_node.b .nil pass0 (pa_cons (pv 1) pa_nil)) (pe_one (pe_cmpR op_ne (pv 0) (pv 1) (nomark _)))))), ?_⟩
    refine ⟨_, rfl, z, rfl, _, rfl, ?_⟩
    refine ite2 (fun h => ⟨_, rfl, y, rfl, _, rfl, ?_⟩) (fun h => ?_)
    · refine ite2 (fun h2 => ⟨_, rfl, _, rfl, rfl, ?_⟩) (fun h2 => ?_)
      · have e : Sf13.two z y = !decide (V.int z = V.int y) := by
          unfold Sf13.two; rw [h, h2, dec_int]; rfl
        rw [e] at k; exact k
      · have e : Sf13.two z y = false := by
          unfold Sf13.two; simp at h2; rw [h, h2]; rfl
        rw [e] at k; exact k
    · have e : Sf13.two z y = false := by
        unfold Sf13.two; simp at h; rw [h]; rfl
      rw [e] at k; exact k
noncomputable def within (r k : Int) : Bool := decide (0 ≤ r) && (decide (r ≤ 1000000000) && (decide (-1000000 ≤ k) && decide (k ≤ 1000000)))
inductive SpWithin (vs : List V) (H : Hp) (Q : VK) : Prop
  | mk (r k : Int) (h0 : vs = [.int r, .int k]) (h1 : Q (.bl (within r k)) H) : SpWithin vs H Q
noncomputable def spWithin : Sp := fun vs H Q _ => SpWithin vs H Q
theorem sc_are_within_bounds : FnScope ["capacity", "cost"] ["capacity", "cost"] (defScope s_are_within_bounds) := ⟨rfl, rfl, rfl, by decide +kernel, rfl, by decide +kernel, by decide +kernel⟩
theorem ok_are_within_bounds (T : Txt K mg a) : FnOk P w K mg base CX0 1 a.f_are_within_bounds a.d_are_within_bounds ["capacity", "cost"] spWithin := by
  refine T.D_are_within_bounds.F.ok sc_are_within_bounds (fun vs H Q E h => ?_) (fun cdv A outer s H vs Q E hr h => ?_)
  · obtain ⟨z, y, rfl, _⟩ := h
    rfl
  · obtain ⟨r, c, rfl, k⟩ := h
    obtain ⟨u, ru, hu⟩ := T.k_MOST_CAPACITY
    obtain ⟨v, rv, hv⟩ := T.k_MOST_COST
    refine ⟨_, pss_one (ps_ret (pe_and (pe_chain op_le op_le pe_int (pv 0) (pe_glob rfl hu ru)) (pe_one (pe_chain op_le op_le (pe_un un_neg (pe_glob rfl hv rv)) (pv 1) (pe_glob rfl hv rv))))), ?_⟩
    refine ⟨_, rfl, _, _, rfl, rfl, _, rfl, ?_⟩
    refine ite2 (fun h => ⟨_, _, rfl, rfl, _, rfl, ?_⟩) (fun h => ⟨_, rfl, iteF ?_⟩)
    · refine ite2 (fun h2 => ⟨_, rfl, _, rfl, _, _, rfl, rfl, _, rfl, ?_⟩) (fun h2 => ?_)
      · refine ite2 (fun h3 => ⟨_, _, rfl, rfl, ?_⟩) (fun h3 => ?_)
        · have e : within r c = decide (c ≤ 1000000) := by
            unfold within; rw [h, h2, h3]; rfl
          rw [e] at k; exact k
        · have e : within r c = false := by
            unfold within; simp at h3 ⊢; omega
          rw [e] at k; exact k
      · have e : within r c = false := by
          unfold within; simp at h2 ⊢; omega
        rw [e] at k; exact k
    · have e : within r c = false := by
        unfold within; simp at h ⊢; omega
      rw [e] at k; exact k
end
end NP
end
section
set_option Elab.async false
set_option maxRecDepth 100000
set_option maxHeartbeats 2000000
namespace NP
open PySem PySem.Spec PyProof.Rows L2
open PySem.W (Codec WData)
noncomputable def arcF (o g c k : Int) : List (Str × V) := putF "cost" (.int k) (putF "capacity" (.int c) (putF "goal" (.int g) (putF "origin" (.int o) [])))
theorem arcF_cost (o g c k : Int) : (arcF o g c k).lookup ("cost" : Str) = some (.int k) := by
  unfold arcF; rw [lookup_putF, if_pos rfl]
theorem arcF_capacity (o g c k : Int) : (arcF o g c k).lookup ("capacity" : Str) = some (.int c) := by
  unfold arcF; rw [lookup_putF, if_neg (by decide +kernel), lookup_putF, if_pos rfl]
theorem arcF_goal (o g c k : Int) : (arcF o g c k).lookup ("goal" : Str) = some (.int g) := by
  unfold arcF; rw [lookup_putF, if_neg (by decide +kernel), lookup_putF, if_neg (by decide +kernel), lookup_putF, if_pos rfl]
theorem arcF_origin (o g c k : Int) : (arcF o g c k).lookup ("origin" : Str) = some (.int o) := by
  unfold arcF; rw [lookup_putF, if_neg (by decide +kernel), lookup_putF, if_neg (by decide +kernel), lookup_putF, if_neg (by decide +kernel), lookup_putF, if_pos rfl]
noncomputable def netF (l : Addr) : List (Str × V) := putF "arcs" (.ref l) []
theorem netF_arcs (l : Addr) : (netF l).lookup ("arcs" : Str) = some (.ref l) := by
  unfold netF; rw [lookup_putF, if_pos rfl]
theorem netF_no (l : Addr) {m : Str} (h : ¬ m = "arcs") : (netF l).lookup m = none := by
  unfold netF; rw [lookup_putF, if_neg h]; rfl
noncomputable def rdF (l : Addr) (k : Int) : List (Str × V) := putF "place" (.int k) (putF "numbers" (.ref l) [])
theorem rdF_place (l : Addr) (k : Int) : (rdF l k).lookup ("place" : Str) = some (.int k) := by
  unfold rdF; rw [lookup_putF, if_pos rfl]
theorem rdF_numbers (l : Addr) (k : Int) : (rdF l k).lookup ("numbers" : Str) = some (.ref l) := by
  unfold rdF; rw [lookup_putF, if_neg (by decide +kernel), lookup_putF, if_pos rfl]
theorem rdF_no (l : Addr) (k : Int) {m : Str} (h1 : ¬ m = "place") (h2 : ¬ m = "numbers") : (rdF l k).lookup m = none := by
  unfold rdF; rw [lookup_putF, if_neg h1, lookup_putF, if_neg h2]; rfl
theorem rdF_put (l : Addr) (k j : Int) : putF "place" (.int j) (rdF l k) = rdF l j := by
  unfold rdF; rfl
noncomputable def ArcAt (a : Adr) (H : Hp) (p : Addr) (x : Sf13.Arc) : Prop := ∃ dx, H p = some (.ins a.c_Arc dx (arcF x.source x.target x.room x.cost))
structure ArcsAt (a : Adr) (H : Hp) (l : Addr) (as : List Addr) (n : Sf13.Abs) : Prop where
  lst : H l = some (.lst (as.map V.ref))
  len : as.length = n.length
  at_ : ∀ (j : Nat) (p : Addr) (x : Sf13.Arc), as[j]? = some p → n[j]? = some x → ArcAt a H p x
structure NetAt (a : Adr) (H : Hp) (p l : Addr) (n : Sf13.Abs) : Prop where
  ins : ∃ dx, H p = some (.ins a.c_Net dx (netF l))
  arcs : ∃ as, ArcsAt a H l as n
noncomputable def ReaderAt (a : Adr) (H : Hp) (p l : Addr) (k : Int) : Prop := ∃ dx, H p = some (.ins a.c_Reader dx (rdF l k))
noncomputable def But (p : Addr) (H H' : Hp) : Prop := ∀ b o, H b = some o → b ≠ p → H' b = some o
theorem ArcAt.same {a : Adr} {H H' : Hp} {p : Addr} {x : Sf13.Arc} (h : ArcAt a H p x) (s : Same H H') : ArcAt a H' p x := let ⟨dx, e⟩ := h; ⟨dx, s _ _ e⟩
theorem ArcsAt.same {a : Adr} {H H' : Hp} {l : Addr} {as : List Addr} {n : Sf13.Abs} (h : ArcsAt a H l as n) (s : Same H H') : ArcsAt a H' l as n :=
  ⟨s _ _ h.lst, h.len, fun j p x h1 h2 => (h.at_ j p x h1 h2).same s⟩
theorem But.of_same {p : Addr} {H H' : Hp} (s : Same H H') : But p H H' := fun b o e _ => s b o e
theorem But.trans {p : Addr} {H H1 H2 : Hp} (x : But p H H1) (y : But p H1 H2) : But p H H2 := fun b o e n => y b o (x b o e n) n
theorem But.upd {p : Addr} {H : Hp} {o : HO} : But p H (upd H p o) := fun b u e n => by rw [upd_ne n]; exact e
theorem Same.new {p : Addr} {H : Hp} {o : HO} (h : H p = none) : Same H (upd H p o) := fun b u e => by rw [upd_ne (ne_of_none e h)]; exact e
theorem ArcsAt.get {a : Adr} {H : Hp} {l : Addr} {as : List Addr} {n : Sf13.Abs} (h : ArcsAt a H l as n) {j : Nat} {x : Sf13.Arc} (e : n[j]? = some x) : ∃ p, as[j]? = some p ∧ ArcAt a H p x := by
  have hj : j < as.length := by rw [h.len]; exact (List.getElem?_eq_some_iff.mp e).1
  exact ⟨as[j], List.getElem?_eq_getElem hj, h.at_ j _ x (List.getElem?_eq_getElem hj) e⟩
section
variable {P : Program} {w : World} {K : PySem.W.Frag} {mg : Str → Option Value} {base : Heap} {a : Adr}
inductive SpArcInit (a : Adr) (vs : List V) (H : Hp) (Q : VK) : Prop
  | mk (p dx : Addr) (o g c k : Int) (h0 : vs = [.ref p, .int o, .int g, .int c, .int k]) (h1 : H p = some (.ins a.c_Arc dx [])) (h2 : ∀ H' : Hp, (∃ dx, H' p = some (.ins a.c_Arc dx (arcF o g c k))) → But p H H' → Q .non H') : SpArcInit a vs H Q
noncomputable def spArcInit (a : Adr) : Sp := fun vs H Q _ => SpArcInit a vs H Q
theorem sc_Arc_init : FnScope ["self", "origin", "goal", "capacity", "cost"] ["self", "origin", "goal", "capacity", "cost"] (defScope s_Arc_init) := ⟨rfl, rfl, rfl, by decide +kernel, rfl, by decide +kernel, by decide +kernel⟩
theorem ok_Arc_init (T : Txt K mg a) : FnOk P w K mg base CX0 1 a.f_Arc_init a.d_Arc_init ["self", "origin", "goal", "capacity", "cost"] (spArcInit a) := by
  refine T.M_Arc_init.F.ok sc_Arc_init (fun vs H Q E h => ?_) (fun cdv A outer s H vs Q E hr h => ?_)
  · obtain ⟨p, dx, o, g, c, k, rfl, _⟩ := h
    rfl
  · obtain ⟨p, dx, o, g, c, k, rfl, hp, q⟩ := h
    refine ⟨_, pss_cons (ps_fld (pv 0) (pv 1) rfl) (pss_cons (ps_fld (pv 0) (pv 2) rfl) (pss_cons (ps_fld (pv 0) (pv 3) rfl) (pss_one (ps_fld (pv 0) (pv 4) rfl)))), ?_⟩
    refine ⟨_, rfl, _, rfl, p, a.c_Arc, dx, [], rfl, hp, T.cl_Arc, T.na_Arc_origin, (by show 0 < 1000; decide), ?_⟩
    refine ⟨_, rfl, _, rfl, p, a.c_Arc, dx, _, rfl, upd_same, T.cl_Arc, T.na_Arc_goal, (by show 1 < 1000; decide), ?_⟩
    refine ⟨_, rfl, _, rfl, p, a.c_Arc, dx, _, rfl, upd_same, T.cl_Arc, T.na_Arc_capacity, (by show 2 < 1000; decide), ?_⟩
    refine ⟨_, rfl, _, rfl, p, a.c_Arc, dx, _, rfl, upd_same, T.cl_Arc, T.na_Arc_cost, (by show 3 < 1000; decide), ?_⟩
    exact q _ ⟨dx, upd_same⟩ (But.upd.trans (But.upd.trans (But.upd.trans But.upd)))
inductive SpNetInit (a : Adr) (vs : List V) (H : Hp) (Q : VK) : Prop
  | mk (p dx : Addr) (h0 : vs = [.ref p]) (h1 : H p = some (.ins a.c_Net dx [])) (h2 : ∀ (H' : Hp) (l : Addr), H l = none → l ≠ p → NetAt a H' p l [] → But p H H' → Q .non H') : SpNetInit a vs H Q
noncomputable def spNetInit (a : Adr) : Sp := fun vs H Q _ => SpNetInit a vs H Q
theorem sc_Net_init : FnScope ["self"] ["self"] (defScope s_Net_init) := ⟨rfl, rfl, rfl, by decide +kernel, rfl, by decide +kernel, by decide +kernel⟩
theorem ok_Net_init (T : Txt K mg a) : FnOk P w K mg base CX0 1 a.f_Net_init a.d_Net_init ["self"] (spNetInit a) := by
  refine T.M_Net_init.F.ok sc_Net_init (fun vs H Q E h => ?_) (fun cdv A outer s H vs Q E hr h => ?_)
  · obtain ⟨p, dx, rfl, _⟩ := h
    rfl
  · obtain ⟨p, dx, rfl, hp, q⟩ := h
    refine ⟨_, pss_one (ps_fld (pv 0) (pe_lst pa_nil) rfl), ?_⟩
    refine ⟨Nat.zero_le _, fun l hl => ?_⟩
    have npl : p ≠ l := ne_of_none hp hl
    refine ⟨_, rfl, p, a.c_Net, dx, [], rfl, (by rw [upd_ne npl]; exact hp), T.cl_Net, T.na_Net_arcs, (by show 0 < 1000; decide), ?_⟩
    refine q _ l hl (Ne.symm npl) ⟨⟨dx, upd_same⟩, [], ?_, rfl, fun j p x h1 _ => by simp at h1⟩ (But.of_same (Same.new hl) |>.trans But.upd)
    rw [upd_ne (Ne.symm npl)]
    exact upd_same
inductive SpDrop (a : Adr) (vs : List V) (H : Hp) (Q : VK) : Prop
  | mk (p l : Addr) (n : Sf13.Abs) (h0 : vs = [.ref p]) (h1 : NetAt a H p l n) (h2 : ∀ H' : Hp, NetAt a H' p l (Sf13.does n .drop).1 → But l H H' → Q (.int (Sf13.does n .drop).2.v) H') : SpDrop a vs H Q
noncomputable def spDrop (a : Adr) : Sp := fun vs H Q _ => SpDrop a vs H Q
theorem sc_Net_drop_arc : FnScope ["self"] ["self"] (defScope s_Net_drop_arc) := ⟨rfl, rfl, rfl, by decide +kernel, rfl, by decide +kernel, by decide +kernel⟩
theorem ok_Net_drop_arc (T : Txt K mg a) : FnOk P w K mg base CX0 1 a.f_Net_drop_arc a.d_Net_drop_arc ["self"] (spDrop a) := by
  refine T.M_Net_drop_arc.F.ok sc_Net_drop_arc (fun vs H Q E h => ?_) (fun cdv A outer s H vs Q E hr h => ?_)
  · obtain ⟨p, l, n, rfl, _⟩ := h
    rfl
  · obtain ⟨p, l, n, rfl, ⟨⟨dx, hp⟩, as, hA⟩, q⟩ := h
    obtain ⟨u, ru, hu⟩ := T.k_REFUSED
    refine ⟨_, pss_cons (ps_if (pt_cmpR op_eq (pe_callB call_len_seq (by rfl) T.b_len PySem.boot_len (pa_cons (pe_fld (pv 0) rfl) pa_nil)) pe_int (nomark _)) (pss_one (ps_ret (pe_glob rfl hu ru))) pss_nil)
      (pss_cons (ps_expr (pe_bm0 PySem.F.plainAttrs_list PySem.F.slot_list_pop PySem.F.type_list_pop mt_pop (pe_fld (pv 0) rfl)))
      (pss_one (ps_ret (pe_callB call_len_seq (by rfl) T.b_len PySem.boot_len (pa_cons (pe_fld (pv 0) rfl) pa_nil))))), ?_⟩
    refine ⟨_, rfl, p, _, dx, _, _, rfl, hp, T.cl_Net, T.na_Net_arcs, netF_arcs l, l, _, rfl, .inl (SqL.of hA.lst), rfl, _, rfl, ?_⟩
    have npl : p ≠ l := ne_of hp hA.lst (by intro z; cases z)
    refine ite2 (fun h => ?_) (fun h => ?_)
    · have e0 : n = [] := by
        simp [dec_int] at h
        have := hA.len
        rw [h] at this
        exact List.length_eq_zero_iff.mp this.symm
      subst e0
      exact q H ⟨⟨dx, hp⟩, as, hA⟩ (fun b o e _ => e)
    · have e0 : n ≠ [] := by
        intro e; subst e
        apply h
        have := hA.len
        simp [dec_int, List.length_eq_zero_iff.mp this]
      have hl : as.length ≠ 0 := by rw [hA.len]; intro z; exact e0 (List.length_eq_zero_iff.mp z)
      refine ⟨_, rfl, p, _, dx, _, _, rfl, hp, T.cl_Net, T.na_Net_arcs, netF_arcs l, .inl ⟨rfl, _, SqL.of hA.lst⟩, l, _, _, rfl, rfl, hA.lst, List.getElem?_eq_getElem (by simp; omega), ?_⟩
      refine ⟨_, rfl, p, _, dx, _, _, rfl, (by rw [upd_ne npl]; exact hp), T.cl_Net, T.na_Net_arcs, netF_arcs l, l, _, rfl, .inl (SqL.of upd_same), ?_⟩
      have ed : (Sf13.does n .drop) = (n.dropLast, Sf13.ok ((n.length - 1 : Nat) : Int)) := by
        simp only [Sf13.does]
        rw [if_neg (by simpa using e0)]
      rw [ed] at q
      have ev : V.int (((as.map V.ref).dropLast.length : Nat) : Int) = V.int (Sf13.ok ((n.length - 1 : Nat) : Int)).v := by
        simp [Sf13.ok, hA.len]
      rw [ev]
      refine q _ ⟨⟨dx, by rw [upd_ne npl]; exact hp⟩, as.dropLast, ?_⟩ But.upd
      refine ⟨by rw [upd_same, List.map_dropLast], by simp [hA.len], fun j y x h1 h2 => ?_⟩
      rw [List.getElem?_dropLast] at h1 h2
      split at h1
      · split at h2
        · obtain ⟨dy, hy⟩ := hA.at_ j y x h1 h2
          exact ⟨dy, by rw [upd_ne (ne_of hy hA.lst (by intro z; cases z))]; exact hy⟩
        · cases h2
      · cases h1
inductive SpAdd (a : Adr) (vs : List V) (H : Hp) (Q : VK) : Prop
  | mk (p l : Addr) (n : Sf13.Abs) (o g c k : Int) (h0 : vs = [.ref p, .int o, .int g, .int c, .int k]) (h1 : NetAt a H p l n) (h2 : n.length ≤ 12) (h3 : ∀ H' : Hp, NetAt a H' p l (Sf13.does n (.arc o g c k)).1 → But l H H' → Q (.int (Sf13.does n (.arc o g c k)).2.v) H') : SpAdd a vs H Q
noncomputable def spAdd (a : Adr) : Sp := fun vs H Q _ => SpAdd a vs H Q
theorem sc_Net_add_arc : FnScope ["self", "origin", "goal", "capacity", "cost"] ["self", "origin", "goal", "capacity", "cost"] (defScope s_Net_add_arc) := ⟨rfl, rfl, rfl, by decide +kernel, rfl, by decide +kernel, by decide +kernel⟩
theorem does_no {n : Sf13.Abs} {o g c k : Int} (hl : n.length ≤ 12) (h : (Sf13.two o g && within c k) = false) : Sf13.does n (.arc o g c k) = (n, Sf13.ok (-1)) := by
  simp only [Sf13.does]
  rw [if_neg]
  intro e
  simp only [Bool.and_eq_true] at e
  obtain ⟨e1, e2, e3, e4, e5, _⟩ := e
  have : within c k = true := by
    unfold within
    rw [e2]
    have e3' : decide (c ≤ 1000000000) = true := e3
    have e4' : decide (-1000000 ≤ k) = true := e4
    have e5' : decide (k ≤ 1000000) = true := e5
    rw [e3', e4', e5']; rfl
  rw [e1, this] at h
  cases h
theorem does_yes {n : Sf13.Abs} {o g c k : Int} (hl : n.length ≤ 12) (h1 : Sf13.two o g = true) (h2 : within c k = true) : Sf13.does n (.arc o g c k) = (n ++ [⟨o.toNat, g.toNat, c, k⟩], Sf13.ok (n.length : Int)) := by
  simp only [Sf13.does]
  rw [if_pos]
  unfold within at h2
  simp only [Bool.and_eq_true] at h2 ⊢
  obtain ⟨e2, e3, e4, e5⟩ := h2
  exact ⟨h1, e2, e3, e4, e5, decide_eq_true (show n.length < 512 by omega)⟩
theorem ok_Net_add_arc (T : Txt K mg a) : FnOk P w K mg base CX0 3 a.f_Net_add_arc a.d_Net_add_arc ["self", "origin", "goal", "capacity", "cost"] (spAdd a) := by
  have G2 : FnOk P w K mg base CX0 2 a.f_are_two_nodes a.d_are_two_nodes ["first", "second"] spTwo := ok_are_two_nodes T
  have GB : FnOk P w K mg base CX0 2 a.f_are_within_bounds a.d_are_within_bounds ["capacity", "cost"] spWithin := (ok_are_within_bounds T).mono (by decide)
  have GA : FnOk P w K mg base CX0 1 a.f_Arc_init a.d_Arc_init ["self", "origin", "goal", "capacity", "cost"] (spArcInit a) := ok_Arc_init T
  refine T.M_Net_add_arc.F.ok sc_Net_add_arc (fun vs H Q E h => ?_) (fun cdv A outer s H vs Q E hr h => ?_)
  · obtain ⟨p, l, n, o, g, c, k, rfl, _⟩ := h
    rfl
  · obtain ⟨p, l, n, o, g, c, k, rfl, ⟨⟨dx, hp⟩, as, hA⟩, hn, q⟩ := h
    obtain ⟨u, ru, hu⟩ := T.k_REFUSED
    obtain ⟨v, rv, hv⟩ := T.k_MOST_ARCS
    have npl : p ≠ l := ne_of hp hA.lst (by intro z; cases z)
    refine ⟨_, pss_cons (ps_if (PW.pt (pw_or (pt_not (pt_val (pe_call G2 hr rfl T.D_are_two_nodes.m T.D_are_two_nodes.F.kp T.D_are_two_nodes.b .nil pass0 (pa_cons (pv 1) (pa_cons (pv 2) pa_nil)))))
        (pw_or1 (pt_not (pt_val (pe_call GB hr rfl T.D_are_within_bounds.m T.D_are_within_bounds.F.kp T.D_are_within_bounds.b .nil pass0 (pa_cons (pv 3) (pa_cons (pv 4) pa_nil)))))))) (pss_one (ps_ret (pe_glob rfl hu ru))) pss_nil)
      (pss_cons (ps_if (pt_cmpR op_ge (pe_callB call_len_seq (by rfl) T.b_len PySem.boot_len (pa_cons (pe_fld (pv 0) rfl) pa_nil)) (pe_glob rfl hv rv) (nomark _)) (pss_one (ps_ret (pe_glob rfl hu ru))) pss_nil)
      (pss_cons (ps_expr (pe_bm PySem.F.plainAttrs_list PySem.F.slot_list_append PySem.F.type_list_append mt_append (pe_fld (pv 0) rfl)
        (pa_cons (pe_make T.M_Arc_init.m GA hr rfl T.mg_Arc T.M_Arc_init.b .nil pass0 (pa_cons (pv 1) (pa_cons (pv 2) (pa_cons (pv 3) (pa_cons (pv 4) pa_nil))))) pa_nil)))
      (pss_one (ps_ret (pe_op op_sub (pe_callB call_len_seq (by rfl) T.b_len PySem.boot_len (pa_cons (pe_fld (pv 0) rfl) pa_nil)) pe_int))))), ?_⟩
    refine ⟨_, rfl, _, rfl, o, g, rfl, _, rfl, ?_⟩
    have bad : (Sf13.two o g && within c k) = false → Q (.int (-1)) H := fun e => by
      rw [does_no hn e] at q
      exact q H ⟨⟨dx, hp⟩, as, hA⟩ (fun b o e _ => e)
    refine ite2 (fun h => iteT (bad ?_)) (fun h => ?_)
    · simp at h; rw [h]; rfl
    refine ⟨_, rfl, _, rfl, c, k, rfl, _, rfl, ?_⟩
    refine ite2 (fun h2 => bad ?_) (fun h2 => ?_)
    · simp at h2; rw [h2]; simp
    have h' : Sf13.two o g = true := by simpa using h
    have h2' : within c k = true := by simpa using h2
    refine ⟨_, rfl, p, _, dx, _, _, rfl, hp, T.cl_Net, T.na_Net_arcs, netF_arcs l, l, _, rfl, .inl (SqL.of hA.lst), _, _, rfl, rfl, _, rfl, ?_⟩
    refine ite2 (fun h3 => ?_) (fun h3 => ?_)
    · exfalso
      simp [hA.len] at h3; omega
    refine ⟨_, rfl, p, _, dx, _, _, rfl, hp, T.cl_Net, T.na_Net_arcs, netF_arcs l, .inl ⟨rfl, _, SqL.of hA.lst⟩, _, rfl, _, rfl, _, rfl, _, rfl, ?_⟩
    intro x dx' nx ndx nex
    refine ⟨x, dx', o, g, c, k, rfl, upd_same, fun H1 hx kp => ⟨rfl, ?_⟩⟩
    obtain ⟨dy, hx⟩ := hx
    have s1 : Same H H1 := Same.made nx ndx kp
    refine ⟨l, _, _, rfl, rfl, s1 _ _ hA.lst, (by simp [hA.len]; exact Nat.lt_of_le_of_lt hn (by decide)), ?_⟩
    have nxl : x ≠ l := Ne.symm (ne_of_none hA.lst nx)
    refine ⟨_, rfl, p, _, dx, _, _, rfl, (by rw [upd_ne npl]; exact s1 _ _ hp), T.cl_Net, T.na_Net_arcs, netF_arcs l, l, _, rfl, .inl (SqL.of upd_same), _, _, rfl, rfl, ?_⟩
    rw [does_yes hn h' h2'] at q
    have ev : V.int (((as.map V.ref ++ [V.ref x]).length : Nat) - 1 : Int) = V.int (Sf13.ok (n.length : Int)).v := by
      simp [Sf13.ok, hA.len]
    show Q (V.int (((as.map V.ref ++ [V.ref x]).length : Nat) - 1 : Int)) _
    rw [ev]
    have two := h'
    unfold Sf13.two Sf13.node at two
    simp only [Bool.and_eq_true, decide_eq_true_eq] at two
    refine q _ ⟨⟨dx, by rw [upd_ne npl]; exact s1 _ _ hp⟩, as ++ [x], ?_⟩ ((But.of_same s1).trans But.upd)
    refine ⟨by rw [upd_same, List.map_append]; rfl, by simp [hA.len], fun j y z h3 h4 => ?_⟩
    rcases Nat.lt_trichotomy j as.length with hj | hj | hj
    · rw [List.getElem?_append_left hj] at h3
      rw [List.getElem?_append_left (by rw [← hA.len]; exact hj)] at h4
      obtain ⟨dz, hz⟩ := hA.at_ j y z h3 h4
      exact ⟨dz, by rw [upd_ne (ne_of hz hA.lst (by intro z; cases z))]; exact s1 _ _ hz⟩
    · subst hj
      have e3 : y = x := by simp at h3; exact h3.symm
      have e4 : z = ⟨o.toNat, g.toNat, c, k⟩ := by rw [hA.len] at h4; simp at h4; exact h4.symm
      subst e3 e4
      refine ⟨dy, ?_⟩
      rw [upd_ne nxl]
      show H1 y = some (.ins a.c_Arc dy (arcF ((o.toNat : Nat) : Int) ((g.toNat : Nat) : Int) c k))
      rw [Int.toNat_of_nonneg two.1.1, Int.toNat_of_nonneg two.2.1.1]
      exact hx
    · rw [List.getElem?_eq_none (by simp; omega)] at h3
      cases h3
inductive SpReaderInit (a : Adr) (vs : List V) (H : Hp) (Q : VK) : Prop
  | mk (p dx l : Addr) (h0 : vs = [.ref p, .ref l]) (h1 : H p = some (.ins a.c_Reader dx [])) (h2 : ∀ H' : Hp, ReaderAt a H' p l 0 → But p H H' → Q .non H') : SpReaderInit a vs H Q
noncomputable def spReaderInit (a : Adr) : Sp := fun vs H Q _ => SpReaderInit a vs H Q
theorem sc_Reader_init : FnScope ["self", "numbers"] ["self", "numbers"] (defScope s_Reader_init) := ⟨rfl, rfl, rfl, by decide +kernel, rfl, by decide +kernel, by decide +kernel⟩
theorem ok_Reader_init (T : Txt K mg a) : FnOk P w K mg base CX0 1 a.f_Reader_init a.d_Reader_init ["self", "numbers"] (spReaderInit a) := by
  refine T.M_Reader_init.F.ok sc_Reader_init (fun vs H Q E h => ?_) (fun cdv A outer s H vs Q E hr h => ?_)
  · obtain ⟨p, dx, l, rfl, _⟩ := h
    rfl
  · obtain ⟨p, dx, l, rfl, hp, q⟩ := h
    refine ⟨_, pss_cons (ps_fld (pv 0) (pv 1) rfl) (pss_one (ps_fld (pv 0) pe_int rfl)), ?_⟩
    refine ⟨_, rfl, _, rfl, p, a.c_Reader, dx, [], rfl, hp, T.cl_Reader, T.na_Reader_numbers, (by show 0 < 1000; decide), ?_⟩
    refine ⟨_, rfl, p, a.c_Reader, dx, _, rfl, upd_same, T.cl_Reader, T.na_Reader_place, (by show 1 < 1000; decide), ?_⟩
    exact q _ ⟨dx, upd_same⟩ (But.upd.trans But.upd)
inductive SpMore (a : Adr) (K : PySem.W.Frag) (vs : List V) (H : Hp) (Q : VK) : Prop
  | mk (p l : Addr) (k : Int) (xs : List V) (h0 : vs = [.ref p]) (h1 : ReaderAt a H p l k) (h2 : SqL K H l xs) (h3 : Q (.bl (decide (k < (xs.length : Int)))) H) : SpMore a K vs H Q
noncomputable def spMore (a : Adr) (K : PySem.W.Frag) : Sp := fun vs H Q _ => SpMore a K vs H Q
theorem sc_Reader_has_more : FnScope ["self"] ["self"] (defScope s_Reader_has_more) := ⟨rfl, rfl, rfl, by decide +kernel, rfl, by decide +kernel, by decide +kernel⟩
theorem ok_Reader_has_more (T : Txt K mg a) : FnOk P w K mg base CX0 1 a.f_Reader_has_more a.d_Reader_has_more ["self"] (spMore a K) := by
  refine T.M_Reader_has_more.F.ok sc_Reader_has_more (fun vs H Q E h => ?_) (fun cdv A outer s H vs Q E hr h => ?_)
  · obtain ⟨p, l, k, xs, rfl, _⟩ := h
    rfl
  · obtain ⟨p, l, k, xs, rfl, ⟨dx, hp⟩, hs, q⟩ := h
    refine ⟨_, pss_one (ps_ret (pe_cmpR op_lt (pe_fld (pv 0) rfl) (pe_callB call_len_seq (by rfl) T.b_len PySem.boot_len (pa_cons (pe_fld (pv 0) rfl) pa_nil)) (nomark _))), ?_⟩
    exact ⟨_, rfl, p, _, dx, _, _, rfl, hp, T.cl_Reader, T.na_Reader_place, rdF_place l k, _, rfl, p, _, dx, _, _, rfl, hp, T.cl_Reader, T.na_Reader_numbers, rdF_numbers l k, l, xs, rfl, .inl hs, _, _, rfl, rfl, q⟩
inductive SpTake (a : Adr) (K : PySem.W.Frag) (vs : List V) (H : Hp) (Q : VK) : Prop
  | mk (p l : Addr) (k : Nat) (xs : List V) (x : V) (h0 : vs = [.ref p]) (h1 : ReaderAt a H p l k) (h2 : SqL K H l xs) (h3 : xs[k]? = some x) (h4 : ∀ H' : Hp, ReaderAt a H' p l ((k + 1 : Nat) : Int) → But p H H' → Q x H') : SpTake a K vs H Q
noncomputable def spTake (a : Adr) (K : PySem.W.Frag) : Sp := fun vs H Q _ => SpTake a K vs H Q
theorem sc_Reader_take : FnScope ["self", "number"] ["self"] (defScope s_Reader_take) := ⟨rfl, rfl, rfl, by decide +kernel, rfl, by decide +kernel, by decide +kernel⟩
theorem ok_Reader_take (T : Txt K mg a) : FnOk P w K mg base CX0 1 a.f_Reader_take a.d_Reader_take ["self"] (spTake a K) := by
  refine T.M_Reader_take.F.ok sc_Reader_take (fun vs H Q E h => ?_) (fun cdv A outer s H vs Q E hr h => ?_)
  · obtain ⟨p, l, k, xs, x, rfl, _⟩ := h
    rfl
  · obtain ⟨p, l, k, xs, x, rfl, ⟨dx, hp⟩, hs, hx, q⟩ := h
    refine ⟨_, pss_cons (ps_set (i := 1) sc_Reader_take.nd rfl (Or.inl rfl) (pe_ix ix_list (pe_fld (pv 0) rfl) (pe_fld (pv 0) rfl) (fun _ _ => rfl)))
      (pss_cons (ps_fld (pv 0) (pe_op op_add (pe_fld (pv 0) rfl) pe_int) rfl) (pss_one (ps_ret (pv 1)))), ?_⟩
    refine ⟨_, rfl, p, _, dx, _, _, rfl, hp, T.cl_Reader, T.na_Reader_numbers, rdF_numbers l k, _, rfl, p, _, dx, _, _, rfl, hp, T.cl_Reader, T.na_Reader_place, rdF_place l k, l, xs, _, x, rfl, rfl, hs, atI_nat hx, ?_⟩
    refine ⟨_, rfl, p, _, dx, _, _, rfl, hp, T.cl_Reader, T.na_Reader_place, rdF_place l k, _, _, rfl, rfl, _, rfl, p, _, dx, _, rfl, hp, T.cl_Reader, T.na_Reader_place, (by show 2 < 1000; decide), ?_⟩
    refine ⟨_, rfl, ?_⟩
    have e : putF "place" (V.int ((k : Int) + 1)) (rdF l k) = rdF l ((k + 1 : Nat) : Int) := rdF_put l k _
    exact q _ ⟨dx, Eq.trans upd_same (congrArg (fun z => some (HO.ins a.c_Reader dx z)) e)⟩ But.upd
end
end NP
end
section
set_option Elab.async false
set_option maxRecDepth 100000
set_option maxHeartbeats 2000000
namespace NP
open PySem PySem.Spec PyProof.Rows L2
open PySem.W (Codec WData)
section
variable {P : Program} {w : World} {K : PySem.W.Frag} {mg : Str → Option Value} {base : Heap} {a : Adr}
noncomputable def optV : Option Nat → V
  | some v => .int v
  | none => .non
theorem dec_nat {i j : Nat} : decide (V.int (i : Int) = V.int (j : Int)) = decide (i = j) := by
  apply decide_eq_decide.mpr
  constructor
  · intro h; injection h with h; omega
  · intro h; rw [h]
inductive SpFar (a : Adr) (vs : List V) (H : Hp) (Q : VK) : Prop
  | mk (p : Addr) (x : Sf13.Arc) (z : Int) (u : Nat) (h0 : vs = [.ref p, .int z, .int u]) (h1 : ArcAt a H p x) (h2 : Q (optV (NF.farOf x z u)) H) : SpFar a vs H Q
noncomputable def spFar (a : Adr) : Sp := fun vs H Q _ => SpFar a vs H Q
theorem sc_far_end : FnScope ["arc", "amount", "node"] ["arc", "amount", "node"] (defScope s_far_end) := ⟨rfl, rfl, rfl, by decide +kernel, rfl, by decide +kernel, by decide +kernel⟩
theorem ok_far_end (T : Txt K mg a) : FnOk P w K mg base CX0 1 a.f_far_end a.d_far_end ["arc", "amount", "node"] (spFar a) := by
  refine T.D_far_end.F.ok sc_far_end (fun vs H Q E h => ?_) (fun cdv A outer s H vs Q E hr h => ?_)
  · obtain ⟨p, x, z, u, rfl, _⟩ := h
    rfl
  · obtain ⟨p, x, z, u, rfl, ⟨dx, hp⟩, q⟩ := h
    refine ⟨_, pss_cons (ps_if (PW.pt (pw_and (pt_cmpR op_eq (pe_fld (pv 0) rfl) (pv 2) (nomark _)) (pw_and1 (pt_cmpR op_lt (pv 1) (pe_fld (pv 0) rfl) (nomark _))))) (pss_one (ps_ret (pe_fld (pv 0) rfl))) pss_nil)
      (pss_cons (ps_if (PW.pt (pw_and (pt_cmpR op_eq (pe_fld (pv 0) rfl) (pv 2) (nomark _)) (pw_and1 (pt_cmpR op_gt (pv 1) pe_int (nomark _))))) (pss_one (ps_ret (pe_fld (pv 0) rfl))) pss_nil)
      (pss_one (ps_ret pe_non))), ?_⟩
    refine ⟨_, rfl, p, _, dx, _, _, rfl, hp, T.cl_Arc, T.na_Arc_origin, arcF_origin _ _ _ _, _, rfl, rfl, _, rfl, ?_⟩
    refine and_then (fun h => ⟨_, rfl, _, rfl, p, _, dx, _, _, rfl, hp, T.cl_Arc, T.na_Arc_capacity, arcF_capacity _ _ _ _, _, _, rfl, rfl, _, rfl, h⟩) (fun h1 h2 => ?_) (fun h => ?_)
    · rw [dec_nat] at h1
      have e : NF.farOf x z u = some x.target := by
        unfold NF.farOf; rw [if_pos ⟨of_decide_eq_true h1, of_decide_eq_true h2⟩]
      rw [e] at q
      exact ⟨_, rfl, p, _, dx, _, _, rfl, hp, T.cl_Arc, T.na_Arc_goal, arcF_goal _ _ _ _, q⟩
    have hno : ¬ (x.source = u ∧ z < x.room) := by
      intro hc
      rw [dec_nat, decide_eq_true hc.1, decide_eq_true hc.2] at h
      cases h
    refine ⟨_, rfl, p, _, dx, _, _, rfl, hp, T.cl_Arc, T.na_Arc_goal, arcF_goal _ _ _ _, _, rfl, rfl, _, rfl, ?_⟩
    refine and_then (fun h => ⟨_, rfl, _, _, rfl, rfl, _, rfl, h⟩) (fun h1 h2 => ?_) (fun h2 => ?_)
    · rw [dec_nat] at h1
      have e : NF.farOf x z u = some x.source := by
        unfold NF.farOf; rw [if_neg hno, if_pos ⟨of_decide_eq_true h1, of_decide_eq_true h2⟩]
      rw [e] at q
      exact ⟨_, rfl, p, _, dx, _, _, rfl, hp, T.cl_Arc, T.na_Arc_origin, arcF_origin _ _ _ _, q⟩
    · have e : NF.farOf x z u = none := by
        unfold NF.farOf
        rw [if_neg hno, if_neg]
        intro hc
        rw [dec_nat, decide_eq_true hc.1, decide_eq_true hc.2] at h2
        cases h2
      rw [e] at q
      exact q
inductive SpRoom (a : Adr) (vs : List V) (H : Hp) (Q : VK) : Prop
  | mk (p : Addr) (x : Sf13.Arc) (z : Int) (b : Bool) (h0 : vs = [.ref p, .int z, .bl b]) (h1 : ArcAt a H p x) (h2 : Q (.int (if b = true then x.room - z else z)) H) : SpRoom a vs H Q
noncomputable def spRoom (a : Adr) : Sp := fun vs H Q _ => SpRoom a vs H Q
theorem sc_room : FnScope ["arc", "amount", "forwards"] ["arc", "amount", "forwards"] (defScope s_room) := ⟨rfl, rfl, rfl, by decide +kernel, rfl, by decide +kernel, by decide +kernel⟩
theorem ok_room (T : Txt K mg a) : FnOk P w K mg base CX0 1 a.f_room a.d_room ["arc", "amount", "forwards"] (spRoom a) := by
  refine T.D_room.F.ok sc_room (fun vs H Q E h => ?_) (fun cdv A outer s H vs Q E hr h => ?_)
  · obtain ⟨p, x, z, u, rfl, _⟩ := h
    rfl
  · obtain ⟨p, x, z, b, rfl, ⟨dx, hp⟩, q⟩ := h
    refine ⟨_, pss_one (ps_ret (pe_ifExp (pt_val (pv 2)) (pe_op op_sub (pe_fld (pv 0) rfl) (pv 1)) (pv 1))), ?_⟩
    refine ⟨_, rfl, b, rfl, ?_⟩
    cases b with
    | true => exact iteT ⟨_, rfl, p, _, dx, _, _, rfl, hp, T.cl_Arc, T.na_Arc_capacity, arcF_capacity _ _ _ _, _, rfl, _, _, rfl, rfl, q⟩
    | false => exact iteF ⟨_, rfl, q⟩
end
section
variable {P : Program} {w : World} {K : PySem.W.Frag} {mg : Str → Option Value} {base : Heap} {a : Adr}
theorem getMap {α : Type} {l : List α} {g : α → V} {i : Nat} {v : V} (h : (l.map g)[i]? = some v) : ∃ x, l[i]? = some x ∧ v = g x := by
  rw [List.getElem?_map] at h
  cases e : l[i]? with
  | none => rw [e] at h; cases h
  | some x => rw [e] at h; exact ⟨x, rfl, (Option.some.inj h).symm⟩
theorem mapGet {α : Type} {l : List α} {g : α → V} {i : Nat} {x : α} (h : l[i]? = some x) : (l.map g)[i]? = some (g x) := by
  rw [List.getElem?_map, h]; rfl
inductive SpValue (a : Adr) (K : PySem.W.Frag) (vs : List V) (H : Hp) (Q : VK) : Prop
  | mk (l m : Addr) (s : Nat) (as : List Addr) (n : Sf13.Abs) (f : List Int) (h0 : vs = [.ref l, .ref m, .int s]) (h1 : ArcsAt a H l as n) (h2 : SqL K H m (f.map V.int)) (h3 : f.length = n.length) (h4 : ∀ H' : Hp, Same H H' → Q (.int (Sf13.out n f s)) H') : SpValue a K vs H Q
noncomputable def spValue (a : Adr) (K : PySem.W.Frag) : Sp := fun vs H Q _ => SpValue a K vs H Q
theorem sc_value_of : FnScope ["arcs", "amounts", "node", "value", "arc", "amount"] ["arcs", "amounts", "node"] (defScope s_value_of) := ⟨rfl, rfl, rfl, by decide +kernel, rfl, by decide +kernel, by decide +kernel⟩
inductive ViI (l : Addr) (m : Addr) (u : Nat) (n : Sf13.Abs) (f : List Int) (H : Hp) (i : Nat) (σ : L2.St) (H' : Hp) : Prop
  | mk (v4 v5 : Option V) (h0 : σ = [some (.ref l), some (.ref m), some (.int u), some (.int (Sf13.out (n.take i) (f.take i) u)), v4, v5]) (h1 : Same H H') : ViI l m u n f H i σ H'
theorem ok_value_of (T : Txt K mg a) : FnOk P w K mg base CX0 1 a.f_value_of a.d_value_of ["arcs", "amounts", "node"] (spValue a K) := by
  refine T.D_value_of.F.ok sc_value_of (fun vs H Q E h => ?_) (fun cdv A outer s H vs Q E hr h => ?_)
  · obtain ⟨l, m, s, as, n, f, rfl, _⟩ := h
    rfl
  · obtain ⟨l, m, u, as, n, f, rfl, hA, hF, hl, q⟩ := h
    have nd := sc_value_of.nd
    refine ⟨_, pss_cons (ps_set (i := 3) nd rfl (Or.inl rfl) pe_int)
      (pss_cons (ps_for PassesOwn.never rfl (pi_zip (by rfl) T.b_zip (pa_cons (pv 0) (pa_cons (pv 1) pa_nil))) (pg_tup rfl (pgs_cons (pg_name (i := 4) nd rfl (Or.inl rfl)) (pgs_cons (pg_name (i := 5) nd rfl (Or.inl rfl)) pgs_nil)))
        (pss_cons (ps_if (pt_cmpR op_eq (pe_fld (pv 4) rfl) (pv 2) (nomark _)) (pss_one (ps_set (i := 3) nd rfl (Or.inl rfl) (pe_op op_add (pv 3) (pv 5)))) pss_nil)
        (pss_one (ps_if (pt_cmpR op_eq (pe_fld (pv 4) rfl) (pv 2) (nomark _)) (pss_one (ps_set (i := 3) nd rfl (Or.inl rfl) (pe_op op_sub (pv 3) (pv 5)))) pss_nil))))
      (pss_one (ps_ret (pv 3)))), ?_⟩
    refine ⟨_, rfl, _, rfl, l, m, _, _, rfl, SqL.of hA.lst, hF, for_zip (K := K) (p := l) (r := m) (xs := as.map V.ref) (ys := f.map V.int) (by simp [hA.len, hl])
      (ViI l m u n f H)
      ⟨none, none, by simp [Sf13.out, Sf13.sum]; rfl, Same.refl H⟩ (fun i σ H' _ ⟨_, _, _, s1⟩ => ⟨SqL.of (s1 _ _ hA.lst), s1.seq hF⟩) ?_ ?_⟩
    · rintro i x y σ H' Tp hx hy ⟨v4, v5, rfl, s1⟩ hT
      obtain ⟨p, hp, rfl⟩ := getMap hx
      obtain ⟨z, hz, rfl⟩ := getMap hy
      obtain ⟨c, hc⟩ : ∃ c, n[i]? = some c := ⟨_, List.getElem?_eq_getElem (by rw [← hA.len]; exact (List.getElem?_eq_some_iff.mp hp).1)⟩
      obtain ⟨dx, hpx⟩ := hA.at_ i p c hp hc
      have s2 : Same H (upd H' Tp (.tup [.ref p, .int z])) := s1.trans (Same.new hT)
      have hpx2 := s2 _ _ hpx
      refine ⟨Tp, _, rfl, SqT.of upd_same, rfl, _, _, rfl, _, _, rfl, rfl, ?_⟩
      refine ⟨_, rfl, p, _, dx, _, _, rfl, hpx2, T.cl_Arc, T.na_Arc_origin, arcF_origin _ _ _ _, _, rfl, rfl, _, rfl, ?_⟩
      have fin : ∀ v : Int, v = Sf13.out (n.take (i + 1)) (f.take (i + 1)) u → ViI l m u n f H (i + 1) [some (.ref l), some (.ref m), some (.int u), some (.int v), some (.ref p), some (.int z)] (upd H' Tp (.tup [.ref p, .int z])) :=
        fun v e => ⟨some (.ref p), some (.int z), by rw [e], s2⟩
      have step := NF.out_step hl hc hz u
      rw [dec_nat]
      refine ite2 (fun h1 => ?_) (fun h1 => ?_)
      · refine ⟨_, rfl, _, rfl, _, _, rfl, rfl, ?_⟩
        refine ⟨_, rfl, p, _, dx, _, _, rfl, hpx2, T.cl_Arc, T.na_Arc_goal, arcF_goal _ _ _ _, _, rfl, rfl, _, rfl, ?_⟩
        rw [dec_nat]
        refine ite2 (fun h2 => ?_) (fun h2 => ?_)
        · refine ⟨_, rfl, _, rfl, _, _, rfl, rfl, ?_⟩
          exact fin _ (by rw [step, if_pos (of_decide_eq_true h1), if_pos (of_decide_eq_true h2)])
        · exact fin _ (by rw [step, if_pos (of_decide_eq_true h1), if_neg (by simpa using h2)]; simp)
      · refine ⟨_, rfl, p, _, dx, _, _, rfl, hpx2, T.cl_Arc, T.na_Arc_goal, arcF_goal _ _ _ _, _, rfl, rfl, _, rfl, ?_⟩
        rw [dec_nat]
        refine ite2 (fun h2 => ?_) (fun h2 => ?_)
        · refine ⟨_, rfl, _, rfl, _, _, rfl, rfl, ?_⟩
          exact fin _ (by rw [step, if_neg (by simpa using h1), if_pos (of_decide_eq_true h2)]; simp)
        · exact fin _ (by rw [step, if_neg (by simpa using h1), if_neg (by simpa using h2)]; simp)
    · rintro σ H' ⟨v4, v5, rfl, s1⟩
      refine ⟨_, rfl, ?_⟩
      have e1 : n.take (as.map V.ref).length = n := by rw [List.length_map, hA.len]; exact List.take_length
      have e2 : f.take (as.map V.ref).length = f := by rw [List.length_map, hA.len, ← hl]; exact List.take_length
      rw [e1, e2]
      exact q H' s1
end
end NP
end
section
set_option Elab.async false
set_option maxRecDepth 100000
set_option maxHeartbeats 2000000
namespace NP
open PySem PySem.Spec PyProof.Rows L2
open PySem.W (Codec WData)
section
variable {P : Program} {w : World} {K : PySem.W.Frag} {mg : Str → Option Value} {base : Heap} {a : Adr}
noncomputable def wsD (ws : List (Nat × Option Nat)) : List (Key × V) := ws.map fun e => ((Sum.inl (e.1 : Int) : Key), optV e.2)
noncomputable def wsL (ws : List (Nat × Option Nat)) : List V := ws.map fun e => V.int (e.1 : Int)
theorem wsD_none {ws : List (Nat × Option Nat)} {v : Nat} : valV (wsD ws) (Sum.inl (v : Int)) = none ↔ v ∉ ws.map Prod.fst := by
  induction ws with
  | nil => simp [wsD, valV]
  | cons e ws ih =>
    have e0 : wsD (e :: ws) = ((Sum.inl (e.1 : Int) : Key), optV e.2) :: wsD ws := rfl
    rw [e0]
    by_cases h : e.1 = v
    · rw [valV_pos (by show (Sum.inl (e.1 : Int) : Key) = Sum.inl (v : Int); rw [h])]
      simp [h]
    · rw [valV_neg (by intro z; exact h (by injection z with z; omega)), ih]
      simp
      intro _ z; exact h z.symm
theorem wsD_some {ws : List (Nat × Option Nat)} (hn : (ws.map Prod.fst).Nodup) {k v : Nat} {o : Option Nat} (h : ws[k]? = some (v, o)) : valV (wsD ws) (Sum.inl (v : Int)) = some (optV o) := by
  induction ws generalizing k with
  | nil => simp at h
  | cons e ws ih =>
    have e0 : wsD (e :: ws) = ((Sum.inl (e.1 : Int) : Key), optV e.2) :: wsD ws := rfl
    rw [List.map_cons, List.nodup_cons] at hn
    rw [e0]
    cases k with
    | zero =>
      simp at h
      subst h
      rw [valV_pos rfl]
    | succ k =>
      simp at h
      have hm : v ∈ ws.map Prod.fst := List.mem_map.mpr ⟨(v, o), List.mem_of_getElem? h, rfl⟩
      rw [valV_neg (by intro z; injection z with z; exact hn.1 (by rw [show e.1 = v by omega]; exact hm))]
      exact ih hn.2 h
theorem wsD_put {ws : List (Nat × Option Nat)} {v : Nat} {o : Option Nat} (h : v ∉ ws.map Prod.fst) : putK (wsD ws) (Sum.inl (v : Int)) (optV o) = wsD (ws ++ [(v, o)]) := by
  rw [putK_new _ (wsD_none.mpr h)]
  simp [wsD]
theorem wsD_len (ws : List (Nat × Option Nat)) : (wsD ws).length = ws.length := by simp [wsD]
theorem wsL_len (ws : List (Nat × Option Nat)) : (wsL ws).length = ws.length := by simp [wsL]
theorem wsL_get {ws : List (Nat × Option Nat)} {k v : Nat} {o : Option Nat} (h : ws[k]? = some (v, o)) : (wsL ws)[k]? = some (.int (v : Int)) := by
  unfold wsL; rw [List.getElem?_map, h]; rfl
theorem line65 : 65 < sizeLine := by decide
inductive SpWays (a : Adr) (K : PySem.W.Frag) (vs : List V) (H : Hp) (Q : VK) : Prop
  | mk (l m : Addr) (s : Nat) (as : List Addr) (n : Sf13.Abs) (f : List Int) (h0 : vs = [.ref l, .ref m, .int s]) (h1 : ArcsAt a H l as n) (h2 : SqL K H m (f.map V.int)) (h3 : f.length = n.length) (h4 : NF.Net12 n) (h5 : s < 64) (h6 : ∀ (H' : Hp) (d : Addr) (ws : List (Nat × Option Nat)), H d = none → Same H H' → H' d = some (.dK (wsD ws)) → NF.Ways n f s ws → NF.Shut1 n f ws ws.length → Q (.ref d) H') : SpWays a K vs H Q
noncomputable def spWays (a : Adr) (K : PySem.W.Frag) : Sp := fun vs H Q _ => SpWays a K vs H Q
theorem sc_ways_from : FnScope ["arcs", "amounts", "s", "ways", "waiting", "place", "number", "arc", "far"] ["arcs", "amounts", "s"] (defScope s_ways_from) := ⟨rfl, rfl, rfl, by decide +kernel, rfl, by decide +kernel, by decide +kernel⟩
structure WI (H0 H : Hp) (d q : Addr) (n : Sf13.Abs) (f : List Int) (s : Nat) (ws : List (Nat × Option Nat)) (k : Nat) : Prop where
  same : Same H0 H
  dct : H d = some (.dK (wsD ws))
  lst : H q = some (.lst (wsL ws))
  ways : NF.Ways n f s ws
  shut : NF.Shut1 n f ws k
theorem WI.keep {H0 H H' : Hp} {d q : Addr} {n : Sf13.Abs} {f : List Int} {s : Nat} {ws : List (Nat × Option Nat)} {k : Nat} (h : WI H0 H d q n f s ws k) (e : Same H H') : WI H0 H' d q n f s ws k :=
  ⟨h.same.trans e, e _ _ h.dct, e _ _ h.lst, h.ways, h.shut⟩
inductive WsW (l : Addr) (m : Addr) (d : Addr) (q : Addr) (s0 : Nat) (n : Sf13.Abs) (f : List Int) (H : Hp) (t : Nat) (σ : L2.St) (H' : Hp) : Prop
  | mk (ws : List (Nat × Option Nat)) (i : Nat) (v6 v7 v8 : Option V) (h0 : t = 64 - i) (h1 : i ≤ ws.length) (h2 : σ = [some (.ref l), some (.ref m), some (.int s0), some (.ref d), some (.ref q), some (.int i), v6, v7, v8]) (h3 : WI H H' d q n f s0 ws i) : WsW l m d q s0 n f H t σ H'
inductive WsN (l : Addr) (m : Addr) (d : Addr) (q : Addr) (s0 : Nat) (i : Nat) (n : Sf13.Abs) (f : List Int) (H : Hp) (σ' : L2.St) (H'' : Hp) : Prop
  | mk (ws : List (Nat × Option Nat)) (v6 v7 v8 : Option V) (h0 : i + 1 ≤ ws.length) (h1 : σ' = [some (.ref l), some (.ref m), some (.int s0), some (.ref d), some (.ref q), some (.int ((i + 1 : Nat) : Int)), v6, v7, v8]) (h2 : WI H H'' d q n f s0 ws (i + 1)) : WsN l m d q s0 i n f H σ' H''
inductive WsF (l : Addr) (m : Addr) (d : Addr) (q : Addr) (s0 : Nat) (i : Nat) (u : Nat) (o : Option Nat) (n : Sf13.Abs) (f : List Int) (H : Hp) (j : Nat) (σ : L2.St) (H'' : Hp) : Prop
  | mk (ws : List (Nat × Option Nat)) (v6 v7 v8 : Option V) (h0 : σ = [some (.ref l), some (.ref m), some (.int s0), some (.ref d), some (.ref q), some (.int (i : Int)), v6, v7, v8]) (h1 : WI H H'' d q n f s0 ws i) (h2 : ws[i]? = some (u, o)) (h3 : ∀ y, NF.IsWay n f y → y.arc < j → y.here = u → y.there ∈ ws.map Prod.fst) : WsF l m d q s0 i u o n f H j σ H''
theorem ok_ways_from (T : Txt K mg a) : FnOk P w K mg base CX0 2 a.f_ways_from a.d_ways_from ["arcs", "amounts", "s"] (spWays a K) := by
  have GF : FnOk P w K mg base CX0 1 a.f_far_end a.d_far_end ["arc", "amount", "node"] (spFar a) := ok_far_end T
  refine T.D_ways_from.F.ok sc_ways_from (fun vs H Q E h => ?_) (fun cdv A outer s H vs Q E hr h => ?_)
  · obtain ⟨l, m, s, as, n, f, rfl, _⟩ := h
    rfl
  · obtain ⟨l, m, s0, as, n, f, rfl, hA, hF, hl, hN, hs, k⟩ := h
    have nd := sc_ways_from.nd
    have hu := hu_of hr
    refine ⟨_, pss_cons (ps_set (i := 3) nd rfl (Or.inl rfl) (pe_disp (pps_cons (pv 2) pe_non pps_nil) rfl rfl (by simp) (by decide)))
      (pss_cons (ps_set (i := 4) nd rfl (Or.inl rfl) (pe_lst (pa_cons (pv 2) pa_nil)))
      (pss_cons (ps_set (i := 5) nd rfl (Or.inl rfl) pe_int)
      (pss_cons (ps_while PassesOwn.never (pt_cmpR op_lt (pv 5) (pe_callB call_len_seq (by rfl) T.b_len PySem.boot_len (pa_cons (pv 4) pa_nil)) (nomark _))
        (pss_cons (ps_for PassesOwn.never rfl (pi_enum (by rfl) T.b_enumerate (pa_cons (pv 0) pa_nil)) (pg_tup rfl (pgs_cons (pg_name (i := 6) nd rfl (Or.inl rfl)) (pgs_cons (pg_name (i := 7) nd rfl (Or.inl rfl)) pgs_nil)))
          (pss_cons (ps_set (i := 8) nd rfl (Or.inl rfl) (pe_call GF hr rfl T.D_far_end.m T.D_far_end.F.kp T.D_far_end.b .nil pass0 (pa_cons (pv 7) (pa_cons (pe_ix ix_list (pv 1) (pv 6) (fun _ _ => rfl)) (pa_cons (pe_ix ix_list (pv 4) (pv 5) (fun _ _ => rfl)) pa_nil)))))
          (pss_one (ps_if (PW.pt (pw_and (pt_cmpR op_notN (pv 8) pe_non (nomark _)) (pw_and1 (pt_cmp (pc_dnotin hu (pv 8) (pv 3))))))
            (pss_cons (ps_dput hu (pv 3) (pv 8) (pv 6) rfl) (pss_one (ps_expr (pe_bm PySem.F.plainAttrs_list PySem.F.slot_list_append PySem.F.type_list_append mt_append (pv 4) (pa_cons (pv 8) pa_nil))))) pss_nil))))
        (pss_one (ps_set (i := 5) nd rfl (Or.inl rfl) (pe_op op_add (pv 5) pe_int)))))
      (pss_one (ps_ret (pv 3)))))), ?_⟩
    intro d hd
    refine ⟨_, rfl, upd_same, [(Sum.inl (s0 : Int), V.non)], rfl, (by show 1 ≤ 15; decide), ?_⟩
    refine ⟨_, rfl, (by show 1 ≤ sizeLine; decide), fun q hq => ?_⟩
    have e1 : upd (upd H d (.dK [])) d (.dK (mergeK [] [(Sum.inl (s0 : Int), V.non)])) = upd H d (.dK (wsD [(s0, none)])) := upd_upd
    rw [e1] at hq ⊢
    have hdq : d ≠ q := ne_of_none upd_same hq
    have s1 : Same H (upd (upd H d (.dK (wsD [(s0, none)]))) q (.lst [.int s0])) := (Same.new hd).trans (Same.new hq)
    have W0 : WI H (upd (upd H d (.dK (wsD [(s0, none)]))) q (.lst [.int s0])) d q n f s0 [(s0, none)] 0 :=
      ⟨s1, by rw [upd_ne hdq]; exact upd_same, upd_same, NF.Ways.first, fun y j p _ h => by omega⟩
    refine ⟨WsW l m d q s0 n f H, ⟨_, [(s0, none)], 0, none, none, none, rfl, Nat.zero_le _, rfl, W0⟩, ?_⟩
    rintro t σ H' ⟨ws, i, v6, v7, v8, rfl, hi, rfl, I⟩
    have hws := I.ways.length hs hN.ends
    refine ⟨_, rfl, _, rfl, q, _, rfl, .inl (SqL.of I.lst), _, _, rfl, rfl, _, rfl, ?_⟩
    rw [wsL_len]
    refine ite2 (fun h => ?_) (fun h => ?_)
    · have hlt : i < ws.length := by simp at h; exact h
      obtain ⟨⟨u, o⟩, hu0⟩ : ∃ e, ws[i]? = some e := ⟨_, List.getElem?_eq_getElem hlt⟩
      refine ⟨WsN l m d q s0 i n f H,
        fun σ' H'' ⟨ws, v6, v7, v8, h1, h2, h3⟩ => ⟨64 - (i + 1), by omega, ws, i + 1, v6, v7, v8, rfl, h1, h2, h3⟩, ?_⟩
      refine ⟨_, rfl, l, _, rfl, SqL.of (I.same _ _ hA.lst), for_enum (K := K) (p := l) (xs := as.map V.ref)
        (WsF l m d q s0 i u o n f H)
        ⟨ws, v6, v7, v8, rfl, I, hu0, fun y _ h => by omega⟩ (fun j σ H'' _ ⟨ws, _, _, _, _, J, _, _⟩ => SqL.of (J.same _ _ hA.lst)) ?_ ?_⟩
      · clear hi hlt h hws hu0 I
        rintro j x σ H'' Tp hx ⟨ws, v6, v7, v8, rfl, I, hu0, hc⟩ hT
        obtain ⟨p, hp, rfl⟩ := getMap hx
        obtain ⟨c, hcn⟩ : ∃ c, n[j]? = some c := ⟨_, List.getElem?_eq_getElem (by rw [← hA.len]; exact (List.getElem?_eq_some_iff.mp hp).1)⟩
        obtain ⟨z, hz⟩ : ∃ z, f[j]? = some z := ⟨_, List.getElem?_eq_getElem (by rw [hl]; exact (List.getElem?_eq_some_iff.mp hcn).1)⟩
        have I2 := I.keep (Same.new (o := .tup [.int (j : Nat), .ref p]) hT)
        refine ⟨Tp, _, rfl, SqT.of upd_same, rfl, _, _, rfl, _, _, rfl, rfl, ?_⟩
        generalize upd H'' Tp (.tup [.int (j : Nat), .ref p]) = H3 at I2
        refine ⟨_, rfl, _, rfl, _, rfl, m, _, _, _, rfl, rfl, I2.same.seq hF, atI_nat (mapGet hz), _, rfl, _, rfl, q, _, _, _, rfl, rfl, SqL.of I2.lst, atI_nat (wsL_get hu0), p, c, z, u, rfl, (hA.at_ j p c hp hcn).same I2.same, ?_⟩
        have hlen := I2.ways.length hs hN.ends
        have next : ∀ y, NF.IsWay n f y → y.arc < j + 1 → y.here = u → NF.farOf c z u = some y.there ∨ y.there ∈ ws.map Prod.fst := by
          intro y hy h1 h2
          rcases Nat.lt_or_ge y.arc j with h3 | h3
          · exact .inr (hc y hy h3 h2)
          · have ej : y.arc = j := by omega
            left
            rw [← h2]
            exact NF.way_farOf hN.noLoop hy (by rw [ej]; exact hcn) (by rw [ej]; exact hz)
        cases hfar : NF.farOf c z u with
        | none =>
          refine ⟨_, rfl, rfl, _, rfl, ?_⟩
          refine iteF (iteF ?_)
          exact ⟨ws, _, _, _, rfl, I2, hu0, fun y hy h1 h2 => (next y hy h1 h2).elim (fun e => by rw [hfar] at e; cases e) id⟩
        | some v =>
          refine ⟨_, rfl, rfl, _, rfl, ?_⟩
          refine iteT ⟨_, rfl, _, rfl, d, _, rfl, DGet.k (k := Sum.inl (v : Int)) I2.dct, _, rfl, ?_⟩
          cases hv : valV (wsD ws) (Sum.inl (v : Int)) with
          | some r =>
            refine iteF ?_
            have hin : v ∈ ws.map Prod.fst := by
              apply Classical.byContradiction
              intro hno
              rw [wsD_none.mpr hno] at hv; cases hv
            exact ⟨ws, _, _, _, rfl, I2, hu0, fun y hy h1 h2 => (next y hy h1 h2).elim (fun e => by rw [hfar] at e; cases e; exact hin) id⟩
          | none =>
            refine iteT ?_
            have hno : v ∉ ws.map Prod.fst := wsD_none.mp hv
            obtain ⟨y, hy, ya, yh, yt⟩ := NF.farOf_way hcn hz hfar
            have hmore : NF.Ways n f s0 (ws ++ [(v, some j)]) := by
              have := I2.ways.more hy (j := i) (p := o) (by rw [yh]; exact hu0) (by rw [yt]; exact hno)
              rw [ya, yt] at this; exact this
            refine ⟨_, rfl, _, rfl, _, rfl, d, _, rfl, DPut.k (k := Sum.inl (v : Int)) I2.dct (by rw [wsD_len]; exact Nat.lt_of_le_of_lt (Nat.le_succ_of_le hlen) line65), ?_⟩
            have eput : putK (wsD ws) (Sum.inl (v : Int)) (V.int ((j : Nat) : Int)) = wsD (ws ++ [(v, some j)]) := wsD_put (o := some j) hno
            rw [eput]
            have ndq : q ≠ d := ne_of I2.lst I2.dct (by intro z; cases z)
            refine ⟨_, rfl, .inl ⟨rfl, _, SqL.of (by rw [upd_ne ndq]; exact I2.lst)⟩, _, rfl, q, _, _, rfl, rfl, (by rw [upd_ne ndq]; exact I2.lst), (by rw [wsL_len]; exact Nat.lt_of_le_of_lt (Nat.le_succ_of_le hlen) line65), ?_⟩
            have hl2 : wsL ws ++ [optV (some v)] = wsL (ws ++ [(v, some j)]) := by simp [wsL, optV]
            have hi' : i < ws.length := (List.getElem?_eq_some_iff.mp hu0).1
            refine ⟨ws ++ [(v, some j)], _, _, _, rfl, ⟨?_, ?_, ?_, hmore, ?_⟩, ?_, ?_⟩
            · intro b ob hb
              have hb2 := I2.same b ob hb
              have b1 : b ≠ d := fun e => by subst e; rw [hd] at hb; cases hb
              have b2 : b ≠ q := fun e => by subst e; rw [(Same.new hd).free hq] at hb; cases hb
              rw [upd_ne b2, upd_ne b1]; exact hb2
            · rw [upd_ne (Ne.symm ndq)]; exact upd_same
            · rw [upd_same, hl2]
            · intro y2 j2 p2 h1 h2 h3
              rw [List.getElem?_append_left (by omega)] at h3
              have := I2.shut y2 j2 p2 h1 h2 h3
              simp at this ⊢; exact .inl this
            · rw [List.getElem?_append_left hi']; exact hu0
            · intro y2 h1 h2 h3
              rcases next y2 h1 h2 h3 with e | e
              · rw [hfar] at e; cases e; simp
              · simp at e ⊢; exact .inl e
      · rintro σ H'' ⟨ws', v6', v7', v8', rfl, J, hu1, hc⟩
        refine ⟨_, rfl, _, _, rfl, rfl, ?_⟩
        have hi' : i < ws'.length := (List.getElem?_eq_some_iff.mp hu1).1
        refine ⟨ws', _, _, _, hi', rfl, J.same, J.dct, J.lst, J.ways, ?_⟩
        intro y j p h1 h2 h3
        rcases Nat.lt_or_ge j i with h4 | h4
        · exact J.shut y j p h1 h4 h3
        · have ej : j = i := by omega
          subst ej
          rw [hu1] at h3
          cases h3
          refine hc y h1 ?_ rfl
          obtain ⟨b, bb, g1, _⟩ := h1
          rw [List.length_map, hA.len]
          exact (List.getElem?_eq_some_iff.mp g1).1
    · have hge : i = ws.length := by simp at h; omega
      subst hge
      refine ⟨_, rfl, ?_⟩
      exact k H' d ws hd I.same I.dct I.ways I.shut
end
end NP
end
section
set_option Elab.async false
set_option maxRecDepth 100000
set_option maxHeartbeats 2000000
namespace NP
open PySem PySem.Spec PyProof.Rows L2
open PySem.W (Codec WData)
section
variable {P : Program} {w : World} {K : PySem.W.Frag} {mg : Str → Option Value} {base : Heap} {a : Adr}
structure StepsAt (H : Hp) (q : Addr) (ts : List Addr) (p : List Sf13.Way) : Prop where
  lst : H q = some (.lst (ts.map V.ref))
  len : ts.length = p.length
  at_ : ∀ (j : Nat) (t : Addr) (y : Sf13.Way), ts[j]? = some t → p[j]? = some y → H t = some (.tup [.int (y.arc : Nat), .bl y.forth])
theorem StepsAt.same {H H' : Hp} {q : Addr} {ts : List Addr} {p : List Sf13.Way} (h : StepsAt H q ts p) (s : Same H H') : StepsAt H' q ts p := ⟨s _ _ h.lst, h.len, fun j t y h1 h2 => s _ _ (h.at_ j t y h1 h2)⟩
inductive SpSteps (a : Adr) (vs : List V) (H : Hp) (Q : VK) : Prop
  | mk (l d : Addr) (s t : Nat) (as : List Addr) (n : Sf13.Abs) (f : List Int) (ws : List (Nat × Option Nat)) (r : Nat → Nat) (h0 : vs = [.ref l, .ref d, .int t]) (h1 : ArcsAt a H l as n) (h2 : NF.Net12 n) (h3 : H d = some (.dK (wsD ws))) (h4 : NF.Back n f s ws r) (h5 : t ∈ ws.map Prod.fst) (h6 : ∀ (H' : Hp) (q : Addr) (ts : List Addr) (p : List Sf13.Way), Same H H' → StepsAt H' q ts p → NF.Chain (NF.IsWay n f) s p t → NF.Apart p → p.length ≤ 64 → (∀ y, y ∈ p → (y.there, some y.arc) ∈ ws) → Q (.ref q) H') : SpSteps a vs H Q
noncomputable def spSteps (a : Adr) : Sp := fun vs H Q _ => SpSteps a vs H Q
theorem sc_steps_to : FnScope ["arcs", "ways", "t", "steps", "node", "number", "forwards"] ["arcs", "ways", "t"] (defScope s_steps_to) := ⟨rfl, rfl, rfl, by decide +kernel, rfl, by decide +kernel, by decide +kernel⟩
structure SI (H0 H : Hp) (q : Addr) (n : Sf13.Abs) (f : List Int) (s t : Nat) (ws : List (Nat × Option Nat)) (r : Nat → Nat) (ts : List Addr) (p : List Sf13.Way) (v : Nat) (o : Option Nat) : Prop where
  same : Same H0 H
  steps : StepsAt H q ts p
  fresh : H0 q = none
  at_ : (v, o) ∈ ws
  chain : ∀ l, NF.Chain (NF.IsWay n f) s l v → NF.Chain (NF.IsWay n f) s (p ++ l) t
  ways : ∀ y, y ∈ p → NF.IsWay n f y ∧ r y.here < r y.there ∧ r v < r y.there ∧ (y.there, some y.arc) ∈ ws
  nodup : (p.map Sf13.Way.there).Nodup
theorem SI.len {H0 H : Hp} {q : Addr} {n : Sf13.Abs} {f : List Int} {s t : Nat} {ws : List (Nat × Option Nat)} {r : Nat → Nat} {ts : List Addr} {p : List Sf13.Way} {v : Nat} {o : Option Nat} (I : SI H0 H q n f s t ws r ts p v o) (he : NF.Ends n) : p.length ≤ 64 := by
  have := NF.nodup_bound 64 _ I.nodup (fun x hx => by
    obtain ⟨y, hy, e⟩ := List.mem_map.1 hx
    rw [← e]; exact ((I.ways y hy).1.along.ends he).2)
  simpa using this
theorem wsD_mem {ws : List (Nat × Option Nat)} (hn : (ws.map Prod.fst).Nodup) {v : Nat} {o : Option Nat} (h : (v, o) ∈ ws) : valV (wsD ws) (Sum.inl (v : Int)) = some (optV o) := by
  obtain ⟨k, hk⟩ := List.mem_iff_getElem?.1 h
  exact wsD_some hn hk
inductive SwW (l : Addr) (d : Addr) (q : Addr) (s0 : Nat) (t' : Nat) (n : Sf13.Abs) (f : List Int) (ws : List (Nat × Option Nat)) (r : Nat → Nat) (H : Hp) (i : Nat) (σ : L2.St) (H' : Hp) : Prop
  | mk (ts : List Addr) (p : List Sf13.Way) (v : Nat) (o : Option Nat) (v5 v6 : Option V) (h0 : i = r v) (h1 : σ = [some (.ref l), some (.ref d), some (.int t'), some (.ref q), some (.int (v : Int)), v5, v6]) (h2 : SI H H' q n f s0 t' ws r ts p v o) : SwW l d q s0 t' n f ws r H i σ H'
inductive SwN (l : Addr) (d : Addr) (q : Addr) (s0 : Nat) (t' : Nat) (n : Sf13.Abs) (f : List Int) (ws : List (Nat × Option Nat)) (r : Nat → Nat) (H : Hp) (y : Sf13.Way) (σ' : L2.St) (H'' : Hp) : Prop
  | mk (ts : List Addr) (p : List Sf13.Way) (o : Option Nat) (v5 v6 : Option V) (h0 : σ' = [some (.ref l), some (.ref d), some (.int t'), some (.ref q), some (.int (y.here : Int)), v5, v6]) (h1 : SI H H'' q n f s0 t' ws r ts p y.here o) : SwN l d q s0 t' n f ws r H y σ' H''
theorem ok_steps_to (T : Txt K mg a) : FnOk P w K mg base CX0 1 a.f_steps_to a.d_steps_to ["arcs", "ways", "t"] (spSteps a) := by
  refine T.D_steps_to.F.ok sc_steps_to (fun vs H Q E h => ?_) (fun cdv A outer s H vs Q E hr h => ?_)
  · obtain ⟨l, d, s, t, as, n, f, ws, r, rfl, _⟩ := h
    rfl
  · obtain ⟨l, d, s0, t, as, n, f, ws, r, rfl, hA, hN, hd, hW, ht, k⟩ := h
    have nd := sc_steps_to.nd
    have hu := hu_of hr
    refine ⟨_, pss_cons (ps_set (i := 3) nd rfl (Or.inl rfl) (pe_lst pa_nil))
      (pss_cons (ps_set (i := 4) nd rfl (Or.inl rfl) (pv 2))
      (pss_cons (ps_while PassesOwn.never (pt_cmpR op_notN (pe_dget hu (pv 1) (pv 4) (fun _ _ => rfl)) pe_non (nomark _))
        (pss_cons (ps_set (i := 5) nd rfl (Or.inl rfl) (pe_dget hu (pv 1) (pv 4) (fun _ _ => rfl)))
        (pss_cons (ps_set (i := 6) nd rfl (Or.inl rfl) (pe_cmpR op_eq (pe_fld (pe_ix ix_list (pv 0) (pv 5) (fun _ _ => rfl)) rfl) (pv 4) (nomark _)))
        (pss_cons (ps_expr (pe_bm PySem.F.plainAttrs_list PySem.F.slot_list_append PySem.F.type_list_append mt_append (pv 3) (pa_cons (pe_tup (pa_cons (pv 5) (pa_cons (pv 6) pa_nil))) pa_nil)))
        (pss_one (ps_set (i := 4) nd rfl (Or.inl rfl) (pe_ifExp (pt_val (pv 6)) (pe_fld (pe_ix ix_list (pv 0) (pv 5) (fun _ _ => rfl)) rfl) (pe_fld (pe_ix ix_list (pv 0) (pv 5) (fun _ _ => rfl)) rfl))))))))
      (pss_one (ps_ret (pv 3))))), ?_⟩
    refine ⟨Nat.zero_le _, fun q hq => ?_⟩
    refine ⟨_, rfl, ?_⟩
    obtain ⟨⟨t', o0⟩, hm, e⟩ := List.mem_map.1 ht
    simp at e; subst e
    have S0 : SI H (upd H q (.lst [])) q n f s0 t' ws r [] [] t' o0 :=
      ⟨Same.new hq, ⟨upd_same, rfl, fun j t y h => by simp at h⟩, hq, hm, fun r h => h, fun y h => by simp at h, by simp⟩
    refine ⟨SwW l d q s0 t' n f ws r H,
      ⟨_, [], [], t', o0, none, none, rfl, rfl, S0⟩, ?_⟩
    rintro i σ H' ⟨ts, p, v, o, v5, v6, rfl, rfl, I⟩
    refine ⟨_, rfl, _, rfl, d, optV o, rfl, (by have := DGet.k (k := Sum.inl (v : Int)) (I.same _ _ hd); rw [wsD_mem hW.nodup I.at_] at this; exact this), rfl, _, rfl, ?_⟩
    cases o with
    | none =>
      refine iteF ⟨_, rfl, ?_⟩
      have hv : v = s0 := by
        rcases hW.arcs v none I.at_ with h | ⟨y, p', h, _⟩
        · exact h.1
        · cases h
      have hch : NF.Chain (NF.IsWay n f) s0 p t' := by
        have := I.chain [] hv
        rw [List.append_nil] at this; exact this
      exact k H' q ts p I.same I.steps hch (NF.rank_apart r p t' hch (fun y hy => (I.ways y hy).2.1)) (I.len hN.ends) (fun y hy => (I.ways y hy).2.2.2)
    | some c =>
      refine iteT ?_
      obtain ⟨y, pj, ya, yw, yt, yr, hjk⟩ : ∃ y p, y.arc = c ∧ NF.IsWay n f y ∧ y.there = v ∧ r y.here < r v ∧ (y.here, p) ∈ ws := by
        rcases hW.arcs v _ I.at_ with h | ⟨y, p', h1, h2, h3, h4, h5⟩
        · cases h.2
        · exact ⟨y, p', (Option.some.inj h1).symm, h2, h3, h4, h5⟩
      obtain ⟨b, hb, hb2⟩ := yw.along
      have hb' : n[c]? = some b := by rw [← ya]; exact hb
      obtain ⟨pa, hpa, dx, hpx⟩ := hA.get hb'
      have hne := hN.noLoop b (NF.mem_of_get hb)
      refine ⟨SwN l d q s0 t' n f ws r H y,
        fun σ' H'' ⟨ts, p, o, v5, v6, h1, h2⟩ => ⟨r y.here, yr, ts, p, y.here, o, v5, v6, rfl, h1, h2⟩, ?_⟩
      refine ⟨_, rfl, _, rfl, d, optV (some c), rfl, (by have := DGet.k (k := Sum.inl (v : Int)) (I.same _ _ hd); rw [wsD_mem hW.nodup I.at_] at this; exact this), ?_⟩
      refine ⟨_, rfl, _, rfl, l, _, _, _, rfl, rfl, SqL.of (I.same _ _ hA.lst), atI_nat (mapGet hpa), pa, _, dx, _, _, rfl, I.same _ _ hpx, T.cl_Arc, T.na_Arc_goal, arcF_goal _ _ _ _, _, rfl, rfl, ?_⟩
      have ef : decide (V.int (b.target : Int) = V.int (v : Int)) = y.forth := by
        rw [dec_nat]
        rcases hb2 with g | g
        · rw [g.1, ← yt, g.2.2.1]; simp
        · rw [g.1, ← yt, g.2.2.1]; simp; exact fun z => hne z.symm
      rw [ef]
      refine ⟨_, rfl, .inl ⟨rfl, _, SqL.of I.steps.lst⟩, _, rfl, _, rfl, (by show 2 ≤ sizeLine; decide), fun tp htp => ?_⟩
      have s1 : Same H' (upd H' tp (.tup [.int (c : Nat), .bl y.forth])) := Same.new htp
      have hlen : ts.length ≤ 64 := by rw [I.steps.len]; exact I.len hN.ends
      refine ⟨q, _, _, rfl, rfl, s1 _ _ I.steps.lst, (by rw [List.length_map]; exact Nat.lt_of_le_of_lt (Nat.le_succ_of_le hlen) line65), ?_⟩
      have hqt : q ≠ tp := ne_of_none I.steps.lst htp
      have keep : ∀ b ob, H b = some ob → upd (upd H' tp (.tup [.int (c : Nat), .bl y.forth])) q (.lst (ts.map V.ref ++ [.ref tp])) b = some ob := by
        intro b ob h
        have b1 : b ≠ q := fun e => by subst e; rw [I.fresh] at h; cases h
        rw [upd_ne b1]; exact s1 _ _ (I.same _ _ h)
      have S1 : SI H (upd (upd H' tp (.tup [.int (c : Nat), .bl y.forth])) q (.lst (ts.map V.ref ++ [.ref tp]))) q n f s0 t' ws r (ts ++ [tp]) (p ++ [y]) y.here pj := by
        refine ⟨keep, ⟨by rw [upd_same, List.map_append]; rfl, by simp [I.steps.len], ?_⟩, I.fresh, hjk, ?_, ?_, ?_⟩
        · intro i2 t2 y2 h1 h2
          rcases Nat.lt_trichotomy i2 ts.length with h | h | h
          · rw [List.getElem?_append_left h] at h1
            rw [List.getElem?_append_left (by rw [← I.steps.len]; exact h)] at h2
            have := I.steps.at_ i2 t2 y2 h1 h2
            rw [upd_ne (ne_of this I.steps.lst (by intro z; cases z))]
            exact s1 _ _ this
          · subst h
            have e1 : t2 = tp := by simp at h1; exact h1.symm
            have e2 : y2 = y := by rw [I.steps.len] at h2; simp at h2; exact h2.symm
            subst e1 e2
            rw [upd_ne (Ne.symm hqt), ya]; exact upd_same
          · rw [List.getElem?_eq_none (by simp; omega)] at h1; cases h1
        · intro l2 hr2
          rw [List.append_assoc]
          exact I.chain (y :: l2) ⟨yw, yt, hr2⟩
        · intro y2 h2
          rcases List.mem_append.1 h2 with h | h
          · obtain ⟨w1, w2, w3, w4⟩ := I.ways y2 h
            exact ⟨w1, w2, by omega, w4⟩
          · simp at h; subst h
            exact ⟨yw, by rw [yt]; exact yr, by rw [yt]; exact yr, by rw [yt, ya]; exact I.at_⟩
        · rw [List.map_append, List.nodup_append]
          refine ⟨I.nodup, by simp, ?_⟩
          intro x hx x2 hx2 e
          simp at hx2
          obtain ⟨z, hz, ez⟩ := List.mem_map.1 hx
          have := (I.ways z hz).2.2.1
          rw [ez, e, hx2, yt] at this
          omega
      have hpx2 := keep _ _ hpx
      refine ⟨_, rfl, y.forth, rfl, ?_⟩
      rcases hb2 with g | g
      · rw [if_pos g.1]
        refine ⟨_, rfl, _, rfl, l, _, _, _, rfl, rfl, SqL.of (keep _ _ hA.lst), atI_nat (mapGet hpa), pa, _, dx, _, _, rfl, hpx2, T.cl_Arc, T.na_Arc_origin, arcF_origin _ _ _ _, ?_⟩
        rw [← g.2.1]
        exact ⟨ts ++ [tp], p ++ [y], pj, _, _, rfl, S1⟩
      · rw [if_neg (by rw [g.1]; simp)]
        refine ⟨_, rfl, _, rfl, l, _, _, _, rfl, rfl, SqL.of (keep _ _ hA.lst), atI_nat (mapGet hpa), pa, _, dx, _, _, rfl, hpx2, T.cl_Arc, T.na_Arc_goal, arcF_goal _ _ _ _, ?_⟩
        rw [← g.2.1]
        exact ⟨ts ++ [tp], p ++ [y], pj, _, _, rfl, S1⟩
end
end NP
end
section
set_option Elab.async false
set_option maxRecDepth 100000
set_option maxHeartbeats 2000000
namespace NP
open PySem PySem.Spec PyProof.Rows L2
open PySem.W (Codec WData)
section
variable {P : Program} {w : World} {K : PySem.W.Frag} {mg : Str → Option Value} {base : Heap} {a : Adr}
theorem boot_min0 : bootBuiltins "min" = some (.builtin "min") := by decide +kernel
theorem boot_list0 : bootBuiltins "list" = some (.type "list") := by decide +kernel
inductive SpRoomAlong (a : Adr) (K : PySem.W.Frag) (vs : List V) (H : Hp) (Q : VK) : Prop
  | mk (l m q : Addr) (as ts : List Addr) (n : Sf13.Abs) (f : List Int) (p : List Sf13.Way) (h0 : vs = [.ref l, .ref m, .ref q]) (h1 : ArcsAt a H l as n) (h2 : SqL K H m (f.map V.int)) (h3 : StepsAt H q ts p) (h4 : (∀ y, y ∈ p → NF.IsWay n f y)) (h5 : p ≠ []) (h6 : p.length ≤ 65) (h7 : ∀ (H' : Hp) (d : Int), Same H H' → (∃ y, y ∈ p ∧ d = y.room) → (∀ y, y ∈ p → d ≤ y.room) → Q (.int d) H') : SpRoomAlong a K vs H Q
noncomputable def spRoomAlong (a : Adr) (K : PySem.W.Frag) : Sp := fun vs H Q _ => SpRoomAlong a K vs H Q
theorem sc_room_along : FnScope ["arcs", "amounts", "steps", "number", "forwards"] ["arcs", "amounts", "steps"] (defScope s_room_along) := ⟨rfl, rfl, rfl, by decide +kernel, rfl, by decide +kernel, by decide +kernel⟩
noncomputable def scRoom : Scope := { kind := .function, names := [(".0", .local), ("number", .local), ("forwards", .local), ("room", .globalImplicit), ("amounts", .free), ("arcs", .free)], isGenerator := false, isCoroutine := false }
theorem blk_room : BlkOk ["arcs", "amounts", "steps", "number", "forwards"] (defScope s_room_along) scRoom [("number", 3), ("forwards", 4)] := blkOk_by (by decide +kernel)
theorem ok_room_along (T : Txt K mg a) : FnOk P w K mg base CX0 2 a.f_room_along a.d_room_along ["arcs", "amounts", "steps"] (spRoomAlong a K) := by
  have GR : FnOk P w K mg base CX0 1 a.f_room a.d_room ["arc", "amount", "forwards"] (spRoom a) := ok_room T
  refine T.D_room_along.F.ok sc_room_along (fun vs H Q E h => ?_) (fun cdv A outer s H vs Q E hr h => ?_)
  · obtain ⟨l, m, q, as, ts, n, f, p, rfl, _⟩ := h
    rfl
  · obtain ⟨l, m, q, as, ts, n, f, p, rfl, hA, hF, hS, hW, hp, hpl, k⟩ := h
    have nd := sc_room_along.nd
    refine ⟨_, pss_one (ps_ret (pe_callB (cr_min rfl) (by rfl) T.b_min boot_min0 (pa_cons (pe_lc (own := [("number", 3), ("forwards", 4)]) (g := gTup K 2 (gCons (gName 3) (gCons (gName 4) gNil))) (tt := tYes)
        (te := tCall (spRoom a) [] E0 (tCons (tOp (rIxL K) (tVar 0) (tVar 3)) (tCons (tOp (rIxL K) (tVar 1) (tVar 3)) (tCons (tVar 4) tNil)))) rfl nd (pi_list (pv 2)) blk_room
        (fun _ _ _ _ _ => pg_tup rfl (pgs_cons (pg_name (i := 3) nd rfl (Or.inl rfl)) (pgs_cons (pg_name (i := 4) nd rfl (Or.inl rfl)) pgs_nil))) (fun _ _ _ _ _ => pts_nil)
        (fun _ _ _ _ _ => pe_call GR hr rfl T.D_room.m T.D_room.F.kp T.D_room.b .nil pass0 (pa_cons (pe_ix ix_list (pv 0) (pv 3) (fun _ _ => rfl)) (pa_cons (pe_ix ix_list (pv 1) (pv 3) (fun _ _ => rfl)) (pa_cons (pv 4) pa_nil))))) pa_nil))), ?_⟩
    refine ⟨_, rfl, q, rfl, ⟨_, SqL.of hS.lst⟩, fun D hD => lc_list (K := K) (a := q) (xs := ts.map V.ref)
      (fun i H' => Same H H' ∧ H' D = some (.lst ((p.take i).map fun y => V.int y.room))) ⟨Same.new hD, upd_same⟩ (fun i H' _ ⟨s1, _⟩ => SqL.of (s1 _ _ hS.lst)) ?_ ?_⟩
    · rintro i x H' hx ⟨s1, hD'⟩
      obtain ⟨tp, htp, rfl⟩ := getMap hx
      obtain ⟨y, hy⟩ : ∃ y, p[i]? = some y := ⟨_, List.getElem?_eq_getElem (by rw [← hS.len]; exact (List.getElem?_eq_some_iff.mp htp).1)⟩
      obtain ⟨b, z, h1, h2, h3⟩ := hW y (List.mem_of_getElem? hy)
      obtain ⟨pa, hpa, hAt⟩ := hA.get h1
      have ht := s1 _ _ (hS.at_ i tp y htp hy)
      refine ⟨tp, _, rfl, SqT.of ht, rfl, _, _, rfl, _, _, rfl, rfl, rfl, ?_⟩
      refine ⟨_, rfl, _, rfl, l, _, _, _, rfl, rfl, SqL.of (s1 _ _ hA.lst), atI_nat (mapGet hpa), _, rfl, _, rfl, m, _, _, _, rfl, rfl, s1.seq hF, atI_nat (mapGet h2), _, rfl, pa, b, z, y.forth, rfl, hAt.same s1, ?_⟩
      refine ⟨_, hD', ?_, fun b' ob hb => ?_, ?_⟩
      · rw [List.length_map, List.length_take]; exact Nat.lt_of_le_of_lt (Nat.le_trans (Nat.min_le_right _ _) hpl) line65
      · rw [upd_ne (fun e => by subst e; rw [hD] at hb; cases hb)]; exact s1 _ _ hb
      · rw [upd_same, NF.take_snoc hy, List.map_append]
        have e : (if y.forth = true then b.room - z else z) = y.room := by
          rcases h3 with g | g
          · rw [g.1, g.2.2.2.2.2]; rfl
          · rw [g.1, g.2.2.2.2.2]; rfl
        rw [e]; rfl
    rintro H1 ⟨s1, hD1⟩
    have etake : p.take (ts.map V.ref).length = p := by rw [List.length_map, hS.len]; exact List.take_length
    rw [etake] at hD1
    have emap : (p.map fun y => V.int y.room) = (p.map Sf13.Way.room).map V.int := by rw [List.map_map]; rfl
    rw [emap] at hD1
    refine ⟨D, _, rfl, SqL.of hD1, (by rw [List.length_map]; exact List.length_pos_iff.mpr hp), fun d hd1 hd2 => ?_⟩
    obtain ⟨y0, hy0, hd0⟩ := List.mem_map.1 hd1
    exact k H1 d s1 ⟨y0, hy0, hd0.symm⟩ (fun y hy => hd2 _ (List.mem_map.2 ⟨y, hy, rfl⟩))
inductive SpSent (K : PySem.W.Frag) (vs : List V) (H : Hp) (Q : VK) : Prop
  | mk (m q : Addr) (ts : List Addr) (f : List Int) (p : List Sf13.Way) (d : Int) (h0 : vs = [.ref m, .ref q, .int d]) (h1 : SqL K H m (f.map V.int)) (h2 : StepsAt H q ts p) (h3 : (∀ y, y ∈ p → y.arc < f.length)) (h4 : ∀ (H' : Hp) (c : Addr), Same H H' → H' c = some (.lst ((Sf13.moved f p d).map V.int)) → Q (.ref c) H') : SpSent K vs H Q
noncomputable def spSent (K : PySem.W.Frag) : Sp := fun vs H Q _ => SpSent K vs H Q
theorem sc_sent_along : FnScope ["amounts", "steps", "more", "changed", "number", "forwards"] ["amounts", "steps", "more"] (defScope s_sent_along) := ⟨rfl, rfl, rfl, by decide +kernel, rfl, by decide +kernel, by decide +kernel⟩
inductive SeF (m : Addr) (q : Addr) (c : Addr) (d : Int) (f : List Int) (p : List Sf13.Way) (H : Hp) (i : Nat) (σ : L2.St) (H' : Hp) : Prop
  | mk (v3 v4 : Option V) (h0 : σ = [some (.ref m), some (.ref q), some (.int d), some (.ref c), v3, v4]) (h1 : Same H H') (h2 : H' c = some (.lst ((Sf13.moved f (p.take i) d).map V.int))) : SeF m q c d f p H i σ H'
theorem ok_sent_along (T : Txt K mg a) : FnOk P w K mg base CX0 1 a.f_sent_along a.d_sent_along ["amounts", "steps", "more"] (spSent K) := by
  refine T.D_sent_along.F.ok sc_sent_along (fun vs H Q E h => ?_) (fun cdv A outer s H vs Q E hr h => ?_)
  · obtain ⟨m, q, ts, f, p, d, rfl, _⟩ := h
    rfl
  · obtain ⟨m, q, ts, f, p, d, rfl, hF, hS, hW, k⟩ := h
    have nd := sc_sent_along.nd
    refine ⟨_, pss_cons (ps_set (i := 3) nd rfl (Or.inl rfl) (pe_callTy call_list_of (by rfl) T.b_list boot_list0 (pa_cons (pv 0) pa_nil)))
      (pss_cons (ps_for PassesOwn.never rfl (pi_list (pv 1)) (pg_tup rfl (pgs_cons (pg_name (i := 4) nd rfl (Or.inl rfl)) (pgs_cons (pg_name (i := 5) nd rfl (Or.inl rfl)) pgs_nil)))
        (pss_one (ps_asg (pe_op op_add (pe_ix ix_list (pv 3) (pv 4) (fun _ _ => rfl)) (pe_ifExp (pt_val (pv 5)) (pv 2) (pe_un un_neg (pv 2)))) (pg_sub (pv 3) (pv 4) set_list))))
      (pss_one (ps_ret (pv 3)))), ?_⟩
    have etake : p.take (ts.map V.ref).length = p := by rw [List.length_map, hS.len]; exact List.take_length
    refine ⟨_, rfl, m, _, rfl, .inl hF, fun c hc => ?_⟩
    have s2 : Same H (upd H c (.lst (f.map V.int))) := Same.new hc
    refine ⟨_, rfl, q, rfl, ⟨_, SqL.of (s2 _ _ hS.lst)⟩, for_list (K := K) (a := q) (xs := ts.map V.ref)
      (SeF m q c d f p H)
      ⟨none, none, rfl, s2, upd_same⟩ (fun i σ H' _ ⟨_, _, _, s3, _⟩ => SqL.of (s3 _ _ hS.lst)) ?_ ?_⟩
    · rintro i x σ H' hx ⟨v3, v4, rfl, s3, hc3⟩
      obtain ⟨tp, htp, rfl⟩ := getMap hx
      obtain ⟨y, hy⟩ : ∃ y, p[i]? = some y := ⟨_, List.getElem?_eq_getElem (by rw [← hS.len]; exact (List.getElem?_eq_some_iff.mp htp).1)⟩
      have hyl : y.arc < (Sf13.moved f (p.take i) d).length := by rw [NF.moved_length]; exact hW y (List.mem_of_getElem? hy)
      obtain ⟨z, hz⟩ : ∃ z, (Sf13.moved f (p.take i) d)[y.arc]? = some z := ⟨_, List.getElem?_eq_getElem hyl⟩
      have ht := s3 _ _ (hS.at_ i tp y htp hy)
      refine ⟨tp, _, rfl, SqT.of ht, rfl, _, _, rfl, _, _, rfl, rfl, ?_⟩
      refine ⟨_, rfl, _, rfl, c, _, _, _, rfl, rfl, SqL.of hc3, atI_nat (mapGet hz), _, rfl, y.forth, rfl, ?_⟩
      have step := NF.moved_step f hy d
      have eg : (Sf13.moved f (p.take i) d).getD y.arc 0 = z := by simp [List.getD, hz]
      rw [eg] at step
      have fin : ∀ e : Int, e = (if y.forth = true then d else -d) → SeF m q c d f p H (i + 1) [some (.ref m), some (.ref q), some (.int d), some (.ref c), some (.int (y.arc : Nat)), some (.bl y.forth)] (upd H' c (.lst (((Sf13.moved f (p.take i) d).map V.int).set y.arc (.int (z + e))))) := by
        intro e he
        refine ⟨_, _, rfl, fun b ob hb => ?_, ?_⟩
        · rw [upd_ne (fun e => by subst e; rw [hc] at hb; cases hb)]; exact s3 _ _ hb
        · rw [upd_same, step, List.map_set, he]
      have hix : ixN ((Sf13.moved f (p.take i) d).map V.int).length ((y.arc : Nat) : Int) = some y.arc := by
        unfold ixN
        rw [if_pos (by omega), if_pos (by simp; exact hyl)]
        simp
      cases hfo : y.forth with
      | true =>
        rw [hfo] at fin
        refine iteT ⟨_, rfl, _, _, rfl, rfl, _, rfl, _, rfl, c, _, _, _, rfl, rfl, hc3, hix, fin d rfl⟩
      | false =>
        rw [hfo] at fin
        refine iteF ⟨_, rfl, _, rfl, _, _, rfl, rfl, _, rfl, _, rfl, c, _, _, _, rfl, rfl, hc3, hix, fin (-d) rfl⟩
    · rintro σ H' ⟨v3, v4, rfl, s3, hc3⟩
      rw [etake] at hc3
      refine ⟨_, rfl, ?_⟩
      exact k H' c s3 hc3
end
end NP
end
section
set_option Elab.async false
set_option maxRecDepth 100000
set_option maxHeartbeats 2000000
namespace NP
open PySem PySem.Spec PyProof.Rows L2
open PySem.W (Codec WData)
section
variable {P : Program} {w : World} {K : PySem.W.Frag} {mg : Str → Option Value} {base : Heap} {a : Adr}
inductive SpGreatest (a : Adr) (vs : List V) (H : Hp) (Q : VK) : Prop
  | mk (l : Addr) (s t : Nat) (as : List Addr) (n : Sf13.Abs) (h0 : vs = [.ref l, .int s, .int t]) (h1 : ArcsAt a H l as n) (h2 : NF.Net12 n) (h3 : s < 64) (h4 : t < 64) (h5 : s ≠ t) (h6 : ∀ (H' : Hp) (m : Addr) (f : List Int), Same H H' → H' m = some (.lst (f.map V.int)) → NF.FlowTo n s t f → (¬ ∃ p, NF.Chain (NF.IsWay n f) s p t) → Q (.ref m) H') : SpGreatest a vs H Q
noncomputable def spGreatest (a : Adr) : Sp := fun vs H Q _ => SpGreatest a vs H Q
theorem sc_greatest_flow : FnScope ["arcs", "s", "t", "amounts", "ways", "steps", "arc"] ["arcs", "s", "t"] (defScope s_greatest_flow) := ⟨rfl, rfl, rfl, by decide +kernel, rfl, by decide +kernel, by decide +kernel⟩
theorem nothing_rep (n : Sf13.Abs) : Sf13.nothing n = List.replicate n.length 0 := by
  unfold Sf13.nothing; rw [List.map_const']
noncomputable def scZero : Scope := { kind := .function, names := [(".0", .local), ("arc", .local)], isGenerator := false, isCoroutine := false }
theorem blk_zero : BlkOk ["arcs", "s", "t", "amounts", "ways", "steps", "arc"] (defScope s_greatest_flow) scZero [("arc", 6)] := blkOk_by (by decide +kernel)
inductive GfW (l : Addr) (s0 : Nat) (t : Nat) (n : Sf13.Abs) (H : Hp) (r : Nat) (σ : L2.St) (H' : Hp) : Prop
  | mk (m d : Addr) (f : List Int) (ws : List (Nat × Option Nat)) (v5 : Option V) (h0 : σ = [some (.ref l), some (.int s0), some (.int t), some (.ref m), some (.ref d), v5, none]) (h1 : r = (12000000000 - Sf13.out n f s0).toNat) (h2 : Same H H') (h3 : H' m = some (.lst (f.map V.int))) (h4 : NF.FlowTo n s0 t f) (h5 : H' d = some (.dK (wsD ws))) (h6 : NF.Ways n f s0 ws) (h7 : NF.Shut1 n f ws ws.length) : GfW l s0 t n H r σ H'
inductive GfN (l : Addr) (s0 : Nat) (t : Nat) (n : Sf13.Abs) (f : List Int) (H : Hp) (σ' : L2.St) (H' : Hp) : Prop
  | mk (m d : Addr) (f' : List Int) (ws : List (Nat × Option Nat)) (v5 : Option V) (h0 : σ' = [some (.ref l), some (.int s0), some (.int t), some (.ref m), some (.ref d), v5, none]) (h1 : Sf13.out n f s0 < Sf13.out n f' s0) (h2 : Same H H') (h3 : H' m = some (.lst (f'.map V.int))) (h4 : NF.FlowTo n s0 t f') (h5 : H' d = some (.dK (wsD ws))) (h6 : NF.Ways n f' s0 ws) (h7 : NF.Shut1 n f' ws ws.length) : GfN l s0 t n f H σ' H'
theorem ok_greatest_flow (T : Txt K mg a) : FnOk P w K mg base CX0 3 a.f_greatest_flow a.d_greatest_flow ["arcs", "s", "t"] (spGreatest a) := by
  have GW : FnOk P w K mg base CX0 2 a.f_ways_from a.d_ways_from ["arcs", "amounts", "s"] (spWays a K) := ok_ways_from T
  have GS : FnOk P w K mg base CX0 2 a.f_sent_along a.d_sent_along ["amounts", "steps", "more"] (spSent K) := (ok_sent_along T).mono (by decide)
  have GR : FnOk P w K mg base CX0 2 a.f_room_along a.d_room_along ["arcs", "amounts", "steps"] (spRoomAlong a K) := ok_room_along T
  have GT : FnOk P w K mg base CX0 2 a.f_steps_to a.d_steps_to ["arcs", "ways", "t"] (spSteps a) := (ok_steps_to T).mono (by decide)
  refine T.D_greatest_flow.F.ok sc_greatest_flow (fun vs H Q E h => ?_) (fun cdv A outer s H vs Q E hr h => ?_)
  · obtain ⟨l, s, t, as, n, rfl, _⟩ := h
    rfl
  · obtain ⟨l, s0, t, as, n, rfl, hA, hN, hs, ht, hst, k⟩ := h
    have nd := sc_greatest_flow.nd
    have hu := hu_of hr
    refine ⟨_, pss_cons (ps_setLc (i := 3) (own := [("arc", 6)]) (g := gName 6) (tt := tYes) (te := tC (.int 0)) rfl nd rfl rfl (sw_true rfl rfl rfl rfl) (pi_list (pv 0)) blk_zero
        (fun _ _ _ _ _ => pg_name (i := 6) nd rfl (Or.inl rfl)) (fun _ _ _ _ _ => pts_nil) (fun _ _ _ _ _ => pe_int))
      (pss_cons (ps_set (i := 4) nd rfl (Or.inl rfl) (pe_call GW hr rfl T.D_ways_from.m T.D_ways_from.F.kp T.D_ways_from.b .nil pass0 (pa_cons (pv 0) (pa_cons (pv 3) (pa_cons (pv 1) pa_nil)))))
      (pss_cons (ps_while PassesOwn.never (pt_cmp (pc_din hu (pv 2) (pv 4)))
        (pss_cons (ps_set (i := 5) nd rfl (Or.inl rfl) (pe_call GT hr rfl T.D_steps_to.m T.D_steps_to.F.kp T.D_steps_to.b .nil pass0 (pa_cons (pv 0) (pa_cons (pv 4) (pa_cons (pv 2) pa_nil)))))
        (pss_cons (ps_set (i := 3) nd rfl (Or.inl rfl) (pe_call GS hr rfl T.D_sent_along.m T.D_sent_along.F.kp T.D_sent_along.b .nil pass0 (pa_cons (pv 3) (pa_cons (pv 5) (pa_cons (pe_call GR hr rfl T.D_room_along.m T.D_room_along.F.kp T.D_room_along.b .nil pass0 (pa_cons (pv 0) (pa_cons (pv 3) (pa_cons (pv 5) pa_nil)))) pa_nil)))))
        (pss_one (ps_set (i := 4) nd rfl (Or.inl rfl) (pe_call GW hr rfl T.D_ways_from.m T.D_ways_from.F.kp T.D_ways_from.b .nil pass0 (pa_cons (pv 0) (pa_cons (pv 3) (pa_cons (pv 1) pa_nil)))))))))
      (pss_one (ps_ret (pv 3))))), ?_⟩
    refine ⟨_, rfl, l, rfl, ⟨_, SqL.of hA.lst⟩, fun D hD => lc_list (K := K) (a := l) (xs := as.map V.ref)
      (fun i H' => Same H H' ∧ H' D = some (.lst (List.replicate i (V.int 0)))) ⟨Same.new hD, upd_same⟩ (fun i H' _ ⟨s1, _⟩ => SqL.of (s1 _ _ hA.lst)) ?_ ?_⟩
    · rintro i x H' hx ⟨s1, hD'⟩
      have hi : i < as.length := by have := (List.getElem?_eq_some_iff.mp hx).1; simpa using this
      have := hN.few
      have := hA.len
      refine ⟨rfl, _, hD', ?_, fun b' ob hb => ?_, ?_⟩
      · rw [List.length_replicate]; exact Nat.lt_of_le_of_lt (show i ≤ 65 by omega) line65
      · rw [upd_ne (fun e => by subst e; rw [hD] at hb; cases hb)]; exact s1 _ _ hb
      · rw [upd_same, List.replicate_succ']
    rintro H1 ⟨s1, hD1⟩
    have hD2 : H1 D = some (.lst ((Sf13.nothing n).map V.int)) := by
      rw [hD1, nothing_rep, List.map_replicate, List.length_map, hA.len]
    have f0 := NF.nothing_flow n s0 t hN.rooms
    refine ⟨_, rfl, _, rfl, _, rfl, l, D, s0, as, n, Sf13.nothing n, rfl, hA.same s1, SqL.of hD2, f0.fits.1, hN, hs, fun H2 d ws _ s2 hd hW hC => ?_⟩
    refine ⟨GfW l s0 t n H, ⟨_, D, d, Sf13.nothing n, ws, none, rfl, rfl, s1.trans s2, s2 _ _ hD2, f0, hd, hW, hC⟩, ?_⟩
    clear s2 hd hW hC
    rintro r σ H3 ⟨m, d, f, ws, v5, rfl, rfl, s3, hm, hf, hd, hW, hC⟩
    refine ⟨_, rfl, _, rfl, d, _, rfl, DGet.k (k := Sum.inl (t : Int)) hd, _, rfl, ?_⟩
    cases hv : valV (wsD ws) (Sum.inl (t : Int)) with
    | none =>
      refine iteF ⟨_, rfl, ?_⟩
      exact k H3 m f s3 hm hf (fun hp => (wsD_none.mp hv) ((hW.reach hC t).mpr hp))
    | some o =>
      have hin : t ∈ ws.map Prod.fst := by
        apply Classical.byContradiction
        intro hno
        rw [wsD_none.mpr hno] at hv; cases hv
      refine iteT ?_
      refine ⟨GfN l s0 t n f H, ?_, ?_⟩
      · rintro σ' H' ⟨m, d, f', ws, v5, h1, h2, h3, h4, h5, h6, h7, h8⟩
        have hb := NF.out_le_rooms hN h5.fits s0
        exact ⟨(12000000000 - Sf13.out n f' s0).toNat, by omega, m, d, f', ws, v5, h1, rfl, h3, h4, h5, h6, h7, h8⟩
      refine ⟨_, rfl, _, rfl, _, rfl, l, d, s0, t, as, n, f, ws, NF.rankOf ws, rfl, hA.same s3, hN, hd, hW.toBack, hin, fun H4 q ts p s4 hS hch hap hpl _ => ?_⟩
      have hpne : p ≠ [] := by
        intro e; subst e
        exact hst hch.symm
      refine ⟨_, rfl, _, rfl, _, rfl, _, rfl, _, rfl, l, m, q, as, ts, n, f, p, rfl, hA.same (s3.trans s4), SqL.of (s4 _ _ hm), hS, hch.all, hpne, Nat.le_succ_of_le hpl, fun H5 dd s5 hex hle => ?_⟩
      obtain ⟨y0, hy0, hdd⟩ := hex
      have hpos : 0 < dd := by rw [hdd]; exact (hch.all y0 hy0).room_pos
      obtain ⟨g1, g2⟩ := NF.move_flow hf hst hch hap (Int.le_of_lt hpos) hle
      refine ⟨m, q, ts, f, p, dd, rfl, SqL.of (s5 _ _ (s4 _ _ hm)), hS.same s5, fun y hy => (hch.all y hy).lt, fun H6 c s6 hc => ?_⟩
      refine ⟨_, rfl, _, rfl, _, rfl, l, c, s0, as, n, Sf13.moved f p dd, rfl, hA.same (((s3.trans s4).trans s5).trans s6), SqL.of hc, g1.fits.1, hN, hs, fun H7 d' ws' _ s7 hd' hW' hC' => ?_⟩
      exact ⟨c, d', Sf13.moved f p dd, ws', _, rfl, by omega, (((s3.trans s4).trans s5).trans s6).trans s7, s7 _ _ hc, g1, hd', hW', hC'⟩
inductive SpMost (a : Adr) (vs : List V) (H : Hp) (Q : VK) : Prop
  | mk (l : Addr) (s t : Nat) (as : List Addr) (n : Sf13.Abs) (h0 : vs = [.ref l, .int s, .int t]) (h1 : ArcsAt a H l as n) (h2 : NF.Net12 n) (h3 : s < 64) (h4 : t < 64) (h5 : s ≠ t) (h6 : ∀ (H' : Hp), Same H H' → Q (.int (Sf13.out n (Sf13.flowOf n s t Sf13.PLENTY) s)) H') : SpMost a vs H Q
noncomputable def spMost (a : Adr) : Sp := fun vs H Q _ => SpMost a vs H Q
theorem sc_greatest_value : FnScope ["arcs", "s", "t"] ["arcs", "s", "t"] (defScope s_greatest_value) := ⟨rfl, rfl, rfl, by decide +kernel, rfl, by decide +kernel, by decide +kernel⟩
theorem most_is {n : Sf13.Abs} {s t : Nat} {f : List Int} (hN : NF.Net12 n) (hs : s < 64) (ht : t < 64) (hst : s ≠ t) (hf : NF.FlowTo n s t f) (hno : ¬ ∃ p, NF.Chain (NF.IsWay n f) s p t) :
    Sf13.out n (Sf13.flowOf n s t Sf13.PLENTY) s = Sf13.out n f s := by
  refine NF.most_due hN hs ht hst hf (P := fun v => (Sf13.reached n f s).any fun (x : Nat × List Sf13.Way) => x.1 == v) ?_ ?_ (NF.reached_shut n f s hs hN.ends)
  · exact (NF.any_has _ _).2 ⟨[], (NF.reached_reach n f s hs hN.ends).start⟩
  · cases q : ((Sf13.reached n f s).any fun (x : Nat × List Sf13.Way) => x.1 == t) with
    | false => rfl
    | true => exact absurd ((NF.reached_iff n f s hs hN.ends t).1 ((NF.any_has _ _).1 q)) hno
theorem ok_greatest_value (T : Txt K mg a) : FnOk P w K mg base CX0 4 a.f_greatest_value a.d_greatest_value ["arcs", "s", "t"] (spMost a) := by
  have GG : FnOk P w K mg base CX0 3 a.f_greatest_flow a.d_greatest_flow ["arcs", "s", "t"] (spGreatest a) := ok_greatest_flow T
  have GV : FnOk P w K mg base CX0 3 a.f_value_of a.d_value_of ["arcs", "amounts", "node"] (spValue a K) := (ok_value_of T).mono (by decide)
  refine T.D_greatest_value.F.ok sc_greatest_value (fun vs H Q E h => ?_) (fun cdv A outer s H vs Q E hr h => ?_)
  · obtain ⟨l, s, t, as, n, rfl, _⟩ := h
    rfl
  · obtain ⟨l, s0, t, as, n, rfl, hA, hN, hs, ht, hst, k⟩ := h
    refine ⟨_, pss_one (ps_ret (pe_call GV hr rfl T.D_value_of.m T.D_value_of.F.kp T.D_value_of.b .nil pass0 (pa_cons (pv 0) (pa_cons (pe_call GG hr rfl T.D_greatest_flow.m T.D_greatest_flow.F.kp T.D_greatest_flow.b .nil pass0 (pa_cons (pv 0) (pa_cons (pv 1) (pa_cons (pv 2) pa_nil)))) (pa_cons (pv 1) pa_nil))))), ?_⟩
    refine ⟨_, rfl, _, rfl, _, rfl, _, rfl, l, s0, t, as, n, rfl, hA, hN, hs, ht, hst, fun H1 m f s1 hm hf hno => ?_⟩
    refine ⟨_, rfl, l, m, s0, as, n, f, rfl, hA.same s1, SqL.of hm, hf.fits.1, fun H2 s2 => ?_⟩
    rw [← most_is hN hs ht hst hf hno]
    exact k H2 (s1.trans s2)
inductive SpCut (a : Adr) (vs : List V) (H : Hp) (Q : VK) : Prop
  | mk (l : Addr) (s t : Nat) (as : List Addr) (n : Sf13.Abs) (h0 : vs = [.ref l, .int s, .int t]) (h1 : ArcsAt a H l as n) (h2 : NF.Net12 n) (h3 : s < 64) (h4 : t < 64) (h5 : s ≠ t) (h6 : ∀ (H' : Hp), Same H H' → Q (.int ((Sf13.cutOf n s t : Nat) : Int)) H') : SpCut a vs H Q
noncomputable def spCut (a : Adr) : Sp := fun vs H Q _ => SpCut a vs H Q
theorem sc_smallest_cut : FnScope ["arcs", "s", "t", "bits", "node"] ["arcs", "s", "t"] (defScope s_smallest_cut) := ⟨rfl, rfl, rfl, by decide +kernel, rfl, by decide +kernel, by decide +kernel⟩
inductive ScF (l : Addr) (d : Addr) (s0 : Nat) (t : Nat) (H2 : Hp) (o : Obj) (ws : List (Nat × Option Nat)) (i : Nat) (σ : L2.St) (H' : Hp) : Prop
  | mk (b : Nat) (v4 : Option V) (h0 : σ = [some (.ref l), some (.int s0), some (.int t), some (.int (b : Int)), v4]) (h1 : H' = upd H2 d (.frz o (.dK (wsD ws)))) (h2 : ∀ v, b.testBit v = true ↔ v ∈ (ws.take i).map Prod.fst) : ScF l d s0 t H2 o ws i σ H'
theorem ok_smallest_cut (T : Txt K mg a) : FnOk P w K mg base CX0 4 a.f_smallest_cut a.d_smallest_cut ["arcs", "s", "t"] (spCut a) := by
  have GG : FnOk P w K mg base CX0 3 a.f_greatest_flow a.d_greatest_flow ["arcs", "s", "t"] (spGreatest a) := ok_greatest_flow T
  have GW : FnOk P w K mg base CX0 3 a.f_ways_from a.d_ways_from ["arcs", "amounts", "s"] (spWays a K) := (ok_ways_from T).mono (by decide)
  refine T.D_smallest_cut.F.ok sc_smallest_cut (fun vs H Q E h => ?_) (fun cdv A outer s H vs Q E hr h => ?_)
  · obtain ⟨l, s, t, as, n, rfl, _⟩ := h
    rfl
  · obtain ⟨l, s0, t, as, n, rfl, hA, hN, hs, ht, hst, k⟩ := h
    have nd := sc_smallest_cut.nd
    refine ⟨_, pss_cons (ps_set (i := 3) nd rfl (Or.inl rfl) pe_int)
      (pss_cons (ps_for PassesOwn.never rfl (pi_keysL (pe_call GW hr rfl T.D_ways_from.m T.D_ways_from.F.kp T.D_ways_from.b .nil pass0 (pa_cons (pv 0) (pa_cons (pe_call GG hr rfl T.D_greatest_flow.m T.D_greatest_flow.F.kp T.D_greatest_flow.b .nil pass0 (pa_cons (pv 0) (pa_cons (pv 1) (pa_cons (pv 2) pa_nil)))) (pa_cons (pv 1) pa_nil)))))
        (pg_name (i := 4) nd rfl (Or.inl rfl)) (pss_one (ps_set (i := 3) nd rfl (Or.inl rfl) (pe_op op_or (pv 3) (pe_op op_shl pe_int (pv 4))))))
      (pss_one (ps_ret (pv 3)))), ?_⟩
    refine ⟨_, rfl, _, rfl, _, rfl, _, rfl, l, s0, t, as, n, rfl, hA, hN, hs, ht, hst, fun H1 m f s1 hm hf hno => ?_⟩
    refine ⟨_, rfl, l, m, s0, as, n, f, rfl, hA.same s1, SqL.of hm, hf.fits.1, hN, hs, fun H2 d ws hd1 s2 hd hW hC => ?_⟩
    refine ⟨d, _, rfl, hd, fun o => for_keys (d := d) (o := o) (kvs := wsD ws)
      (ScF l d s0 t H2 o ws)
      ⟨0, none, rfl, rfl, fun v => by simp⟩ (fun i σ H' _ ⟨_, _, _, e, _⟩ => by rw [e]; exact upd_same) ?_ ?_⟩
    · rintro i kk vv σ H' hk ⟨b, v4, rfl, rfl, hb⟩
      obtain ⟨⟨v, o'⟩, hv, he⟩ : ∃ e, ws[i]? = some e ∧ (kk, vv) = ((Sum.inl (e.1 : Int) : Key), optV e.2) := by
        unfold wsD at hk
        rw [List.getElem?_map] at hk
        cases e : ws[i]? with
        | none => rw [e] at hk; cases hk
        | some x => rw [e] at hk; exact ⟨x, rfl, (Option.some.inj hk).symm⟩
      cases he
      have hv64 : v < 64 := hW.small hs hN.ends v (List.mem_map.2 ⟨(v, o'), List.mem_of_getElem? hv, rfl⟩)
      refine ⟨_, rfl, _, rfl, _, _, rfl, rfl, ⟨by omega, by omega, by decide⟩, _, _, rfl, rfl, ?_⟩
      have e1 : Builtin.bitOr (b : Int) (1 * 2 ^ ((v : Nat) : Int).toNat) = ((b ||| 2 ^ v : Nat) : Int) := by
        have h2 : (1 : Int) * 2 ^ ((v : Nat) : Int).toNat = ((2 ^ v : Nat) : Int) := by simp
        rw [h2, Bits.bitOr_pp (Int.natCast_nonneg _) (Int.natCast_nonneg _), Int.toNat_natCast, Int.toNat_natCast]
      refine ⟨b ||| 2 ^ v, some (.int (v : Int)), congrArg (fun z => ([some (.ref l), some (.int s0), some (.int t), some (.int z), some (.int (v : Int))] : L2.St)) e1, rfl, fun u => ?_⟩
      rw [Nat.testBit_or, Nat.testBit_two_pow, NF.take_snoc hv, List.map_append, List.mem_append, Bool.or_eq_true, hb u]
      simp
      constructor
      · rintro (h | h)
        · exact .inl h
        · exact .inr h.symm
      · rintro (h | h)
        · exact .inl h
        · exact .inr h.symm
    · rintro σ H' ⟨b, v4, rfl, rfl, hb⟩
      rw [wsD_len, List.take_length] at hb
      refine ⟨_, rfl, ?_⟩
      have hdn : H d = none := s1.free hd1
      have hcut : Sf13.cutOf n s0 t = b := by
        refine NF.cut_due hN hs ht hst hf (Nat.lt_pow_two_of_testBit b fun i hi => ?_) ?_ (fun v => by rw [hb v, hW.reach hC v])
        · cases q : b.testBit i with
          | false => rfl
          | true => have := hW.small hs hN.ends i ((hb i).1 q); omega
        · cases q : b.testBit t with
          | false => rfl
          | true => exact absurd ((hW.reach hC t).1 ((hb t).1 q)) hno
      rw [← hcut]
      refine k _ (fun x ox hx => ?_)
      rw [upd_ne (fun e => by rw [e, hdn] at hx; cases hx)]
      exact s2 _ _ (s1 _ _ hx)
end
end NP
end
section
set_option Elab.async false
set_option maxRecDepth 100000
set_option maxHeartbeats 2000000
namespace NP
open PySem PySem.Spec PyProof.Rows L2
open PySem.W (Codec WData)
section
variable {P : Program} {w : World} {K : PySem.W.Frag} {mg : Str → Option Value} {base : Heap} {a : Adr}
theorem boot_sum0 : bootBuiltins "sum" = some (.builtin "sum") := by decide +kernel
inductive SpCost (a : Adr) (K : PySem.W.Frag) (vs : List V) (H : Hp) (Q : VK) : Prop
  | mk (l m : Addr) (as : List Addr) (n : Sf13.Abs) (f : List Int) (h0 : vs = [.ref l, .ref m]) (h1 : ArcsAt a H l as n) (h2 : SqL K H m (f.map V.int)) (h3 : f.length = n.length) (h4 : NF.Net12 n) (h5 : ∀ H' : Hp, Same H H' → Q (.int (Sf13.cost n f)) H') : SpCost a K vs H Q
noncomputable def spCost (a : Adr) (K : PySem.W.Frag) : Sp := fun vs H Q _ => SpCost a K vs H Q
theorem sc_cost_of : FnScope ["arcs", "amounts", "arc", "amount"] ["arcs", "amounts"] (defScope s_cost_of) := ⟨rfl, rfl, rfl, by decide +kernel, rfl, by decide +kernel, by decide +kernel⟩
noncomputable def scPair : Scope := { kind := .function, names := [(".0", .local), ("arc", .local), ("amount", .local)], isGenerator := false, isCoroutine := false }
theorem blk_cost : BlkOk ["arcs", "amounts", "arc", "amount"] (defScope s_cost_of) scPair [("arc", 2), ("amount", 3)] := blkOk_by (by decide +kernel)
theorem ok_cost_of (T : Txt K mg a) : FnOk P w K mg base CX0 1 a.f_cost_of a.d_cost_of ["arcs", "amounts"] (spCost a K) := by
  refine T.D_cost_of.F.ok sc_cost_of (fun vs H Q E h => ?_) (fun cdv A outer s H vs Q E hr h => ?_)
  · obtain ⟨l, m, as, n, f, rfl, _⟩ := h
    rfl
  · obtain ⟨l, m, as, n, f, rfl, hA, hF, hl, hN, k⟩ := h
    have nd := sc_cost_of.nd
    refine ⟨_, pss_one (ps_ret (pe_callB (cr_sum rfl) (by rfl) T.b_sum boot_sum0 (pa_cons (pe_lc (own := [("arc", 2), ("amount", 3)]) (g := gTup K 2 (gCons (gName 2) (gCons (gName 3) gNil))) (tt := tYes)
        (te := tOp (rI CMul fun i j => .int (i * j)) (tVar 3) (tFld K (tVar 2) "cost")) rfl nd (pi_zip (by rfl) T.b_zip (pa_cons (pv 0) (pa_cons (pv 1) pa_nil))) blk_cost
        (fun _ _ _ _ _ => pg_tup rfl (pgs_cons (pg_name (i := 2) nd rfl (Or.inl rfl)) (pgs_cons (pg_name (i := 3) nd rfl (Or.inl rfl)) pgs_nil))) (fun _ _ _ _ _ => pts_nil)
        (fun _ _ _ _ _ => pe_op op_mul (pv 3) (pe_fld (pv 2) rfl))) pa_nil))), ?_⟩
    refine ⟨_, rfl, _, rfl, l, m, _, _, rfl, SqL.of hA.lst, hF, fun D hD => lc_zip (K := K) (p := l) (r := m) (xs := as.map V.ref) (ys := f.map V.int) (by simp [hA.len, hl])
      (fun i H' => Same H H' ∧ H' D = some (.lst ((((n.zip f).map fun x => x.1.cost * x.2).take i).map V.int))) ⟨Same.new hD, upd_same⟩ (fun i H' _ ⟨s1, _⟩ => ⟨SqL.of (s1 _ _ hA.lst), s1.seq hF⟩) ?_ ?_⟩
    · rintro i x y H' Tp hx hy ⟨s1, hD'⟩ hT
      obtain ⟨p, hp, rfl⟩ := getMap hx
      obtain ⟨z, hz, rfl⟩ := getMap hy
      obtain ⟨c, hc⟩ : ∃ c, n[i]? = some c := ⟨_, List.getElem?_eq_getElem (by rw [← hA.len]; exact (List.getElem?_eq_some_iff.mp hp).1)⟩
      obtain ⟨dx, hpx⟩ := hA.at_ i p c hp hc
      have s2 : Same H (upd H' Tp (.tup [.ref p, .int z])) := s1.trans (Same.new hT)
      have hpx2 := s2 _ _ hpx
      have hdear := hN.dear c (NF.mem_of_get hc)
      have hi : i < 12 := by have := NF.lt_of_get hc; have := hN.few; omega
      have hzip : ((n.zip f).map fun x => x.1.cost * x.2)[i]? = some (c.cost * z) := by
        rw [List.getElem?_map, (NF.zip_get n f i c z).2 ⟨hc, hz⟩]; rfl
      refine ⟨Tp, _, rfl, SqT.of upd_same, rfl, _, _, rfl, _, _, rfl, rfl, rfl, ?_⟩
      refine ⟨_, rfl, _, rfl, p, _, dx, _, _, rfl, hpx2, T.cl_Arc, T.na_Arc_cost, arcF_cost _ _ _ _, _, _, rfl, rfl, .inr ⟨by omega, by omega⟩, ?_⟩
      have hDT : D ≠ Tp := ne_of_none hD' hT
      refine ⟨_, by rw [upd_ne hDT]; exact hD', ?_, fun b' ob hb => ?_, ?_⟩
      · rw [List.length_map, List.length_take]; exact Nat.lt_of_le_of_lt (show _ ≤ 65 by omega) line65
      · rw [upd_ne (fun e => by subst e; rw [hD] at hb; cases hb)]; exact s2 _ _ hb
      · rw [upd_same, NF.take_snoc hzip, List.map_append, Int.mul_comm c.cost z]; rfl
    rintro H1 ⟨s1, hD1⟩
    rw [List.take_of_length_le (by simp [hA.len, hl])] at hD1
    exact ⟨D, _, rfl, SqL.of hD1, k H1 s1⟩
structure RoomsAt (H : Hp) (q : Addr) (ts : List Addr) (S : List Sf13.Way) : Prop where
  lst : H q = some (.lst (ts.map V.ref))
  len : ts.length = S.length
  at_ : ∀ (j : Nat) (t : Addr) (y : Sf13.Way), ts[j]? = some t → S[j]? = some y → H t = some (.tup [.int (y.here : Nat), .int (y.there : Nat), .int y.cost, .int (y.arc : Nat)])
theorem RoomsAt.same {H H' : Hp} {q : Addr} {ts : List Addr} {S : List Sf13.Way} (h : RoomsAt H q ts S) (s : Same H H') : RoomsAt H' q ts S := ⟨s _ _ h.lst, h.len, fun j t y h1 h2 => s _ _ (h.at_ j t y h1 h2)⟩
theorem RoomsAt.more {H : Hp} {q tp : Addr} {ts : List Addr} {S : List Sf13.Way} (h : RoomsAt H q ts S) (ht : H tp = none) (y : Sf13.Way) :
    RoomsAt (upd (upd H tp (.tup [.int (y.here : Nat), .int (y.there : Nat), .int y.cost, .int (y.arc : Nat)])) q (.lst (ts.map V.ref ++ [.ref tp]))) q (ts ++ [tp]) (S ++ [y]) := by
  have hqt : q ≠ tp := ne_of_none h.lst ht
  refine ⟨by rw [upd_same, List.map_append]; rfl, by simp [h.len], ?_⟩
  intro i2 t2 y2 h1 h2
  rcases Nat.lt_trichotomy i2 ts.length with h3 | h3 | h3
  · rw [List.getElem?_append_left h3] at h1
    rw [List.getElem?_append_left (by rw [← h.len]; exact h3)] at h2
    have := h.at_ i2 t2 y2 h1 h2
    rw [upd_ne (ne_of this h.lst (by intro z; cases z)), upd_ne (ne_of_none this ht)]
    exact this
  · subst h3
    have e1 : t2 = tp := by simp at h1; exact h1.symm
    have e2 : y2 = y := by rw [h.len] at h2; simp at h2; exact h2.symm
    subst e1 e2
    rw [upd_ne (Ne.symm hqt)]; exact upd_same
  · rw [List.getElem?_eq_none (by simp; omega)] at h1; cases h1
theorem way_at {n : Sf13.Abs} {f : List Int} {i : Nat} {c : Sf13.Arc} {x : Int} (h1 : n[i]? = some c) (h2 : f[i]? = some x) (y : Sf13.Way) :
    (NF.IsWay n f y ∧ y.arc = i) ↔ ((x < c.room ∧ y = ⟨i, true, c.source, c.target, c.room - x, c.cost⟩) ∨ (0 < x ∧ y = ⟨i, false, c.target, c.source, x, -c.cost⟩)) := by
  constructor
  · rintro ⟨⟨b, z, g1, g2, g3⟩, e⟩
    rw [e, h1] at g1; cases g1
    rw [e, h2] at g2; cases g2
    obtain ⟨ya, yf, yh, yt, yr, yc⟩ := y
    dsimp only at e g3
    rcases g3 with ⟨k1, k2, k3, k4, k5, k6⟩ | ⟨k1, k2, k3, k4, k5, k6⟩
    · left; subst e k1 k2 k3 k4 k6; exact ⟨k5, rfl⟩
    · right; subst e k1 k2 k3 k4 k6; exact ⟨k5, rfl⟩
  · rintro (⟨k, rfl⟩ | ⟨k, rfl⟩)
    · exact ⟨⟨c, x, h1, h2, Or.inl ⟨rfl, rfl, rfl, rfl, k, rfl⟩⟩, rfl⟩
    · exact ⟨⟨c, x, h1, h2, Or.inr ⟨rfl, rfl, rfl, rfl, k, rfl⟩⟩, rfl⟩
inductive SpRooms (a : Adr) (K : PySem.W.Frag) (vs : List V) (H : Hp) (Q : VK) : Prop
  | mk (l m : Addr) (as : List Addr) (n : Sf13.Abs) (f : List Int) (h0 : vs = [.ref l, .ref m]) (h1 : ArcsAt a H l as n) (h2 : SqL K H m (f.map V.int)) (h3 : n.length ≤ f.length) (h4 : n.length ≤ 12) (h5 : ∀ (H' : Hp) (q : Addr) (ts : List Addr) (S : List Sf13.Way), Same H H' → H q = none → RoomsAt H' q ts S → (∀ y, y ∈ S ↔ NF.IsWay n f y) → Q (.ref q) H') : SpRooms a K vs H Q
noncomputable def spRooms (a : Adr) (K : PySem.W.Frag) : Sp := fun vs H Q _ => SpRooms a K vs H Q
theorem sc_steps_with_room : FnScope ["arcs", "amounts", "steps", "number", "arc"] ["arcs", "amounts"] (defScope s_steps_with_room) := ⟨rfl, rfl, rfl, by decide +kernel, rfl, by decide +kernel, by decide +kernel⟩
structure RI (H0 H : Hp) (q : Addr) (n : Sf13.Abs) (f : List Int) (ts : List Addr) (S : List Sf13.Way) (i : Nat) : Prop where
  same : Same H0 H
  fresh : H0 q = none
  rooms : RoomsAt H q ts S
theorem RI.keep {H0 H H' : Hp} {q : Addr} {n : Sf13.Abs} {f : List Int} {ts : List Addr} {S : List Sf13.Way} {i : Nat} (h : RI H0 H q n f ts S i) (s : Same H H') : RI H0 H' q n f ts S i := ⟨h.same.trans s, h.fresh, h.rooms.same s⟩
theorem RI.more {H0 H : Hp} {q tp : Addr} {n : Sf13.Abs} {f : List Int} {ts : List Addr} {S : List Sf13.Way} {i : Nat} (h : RI H0 H q n f ts S i) (ht : H tp = none) (y : Sf13.Way) :
    RI H0 (upd (upd H tp (.tup [.int (y.here : Nat), .int (y.there : Nat), .int y.cost, .int (y.arc : Nat)])) q (.lst (ts.map V.ref ++ [.ref tp]))) q n f (ts ++ [tp]) (S ++ [y]) i := by
  refine ⟨?_, h.fresh, h.rooms.more ht y⟩
  intro b ob hb
  rw [upd_ne (fun e => by subst e; rw [h.fresh] at hb; cases hb), upd_ne (ne_of_none (h.same _ _ hb) ht)]
  exact h.same _ _ hb
inductive SrF (l : Addr) (m : Addr) (q : Addr) (n : Sf13.Abs) (f : List Int) (H : Hp) (i : Nat) (σ : L2.St) (H' : Hp) : Prop
  | mk (ts : List Addr) (S : List Sf13.Way) (v3 v4 : Option V) (h0 : σ = [some (.ref l), some (.ref m), some (.ref q), v3, v4]) (h1 : RI H H' q n f ts S i) (h2 : (∀ y, y ∈ S ↔ NF.IsWay n f y ∧ y.arc < i)) (h3 : S.length ≤ 2 * i) : SrF l m q n f H i σ H'
theorem ok_steps_with_room (T : Txt K mg a) : FnOk P w K mg base CX0 1 a.f_steps_with_room a.d_steps_with_room ["arcs", "amounts"] (spRooms a K) := by
  refine T.D_steps_with_room.F.ok sc_steps_with_room (fun vs H Q E h => ?_) (fun cdv A outer s H vs Q E hr h => ?_)
  · obtain ⟨l, m, as, n, f, rfl, _⟩ := h
    rfl
  · obtain ⟨l, m, as, n, f, rfl, hA, hF, hl, hn, k⟩ := h
    have nd := sc_steps_with_room.nd
    refine ⟨_, pss_cons (ps_set (i := 2) nd rfl (Or.inl rfl) (pe_lst pa_nil))
      (pss_cons (ps_for PassesOwn.never rfl (pi_enum (by rfl) T.b_enumerate (pa_cons (pv 0) pa_nil)) (pg_tup rfl (pgs_cons (pg_name (i := 3) nd rfl (Or.inl rfl)) (pgs_cons (pg_name (i := 4) nd rfl (Or.inl rfl)) pgs_nil)))
        (pss_cons (ps_if (pt_cmpR op_lt (pe_ix ix_list (pv 1) (pv 3) (fun _ _ => rfl)) (pe_fld (pv 4) rfl) (nomark _))
          (pss_one (ps_expr (pe_bm PySem.F.plainAttrs_list PySem.F.slot_list_append PySem.F.type_list_append mt_append (pv 2) (pa_cons (pe_tup (pa_cons (pe_fld (pv 4) rfl) (pa_cons (pe_fld (pv 4) rfl) (pa_cons (pe_fld (pv 4) rfl) (pa_cons (pv 3) pa_nil))))) pa_nil)))) pss_nil)
        (pss_one (ps_if (pt_cmpR op_gt (pe_ix ix_list (pv 1) (pv 3) (fun _ _ => rfl)) pe_int (nomark _))
          (pss_one (ps_expr (pe_bm PySem.F.plainAttrs_list PySem.F.slot_list_append PySem.F.type_list_append mt_append (pv 2) (pa_cons (pe_tup (pa_cons (pe_fld (pv 4) rfl) (pa_cons (pe_fld (pv 4) rfl) (pa_cons (pe_un un_neg (pe_fld (pv 4) rfl)) (pa_cons (pv 3) pa_nil))))) pa_nil)))) pss_nil))))
      (pss_one (ps_ret (pv 2)))), ?_⟩
    refine ⟨Nat.zero_le _, fun q hq => ?_⟩
    have R0 : RI H (upd H q (.lst [])) q n f [] [] 0 := ⟨Same.new hq, hq, upd_same, rfl, fun j t y h => by simp at h⟩
    refine ⟨_, rfl, l, _, rfl, SqL.of (R0.same _ _ hA.lst), for_enum (K := K) (p := l) (xs := as.map V.ref)
      (SrF l m q n f H)
      ⟨[], [], none, none, rfl, R0, fun y => by simp, by simp⟩ (fun i σ H' _ ⟨_, _, _, _, _, I, _, _⟩ => SqL.of (I.same _ _ hA.lst)) ?_ ?_⟩
    · rintro i x σ H' Tp hx ⟨ts, S, v3, v4, rfl, I, hS, hSl⟩ hT
      obtain ⟨p, hp, rfl⟩ := getMap hx
      obtain ⟨c, hc⟩ : ∃ c, n[i]? = some c := ⟨_, List.getElem?_eq_getElem (by rw [← hA.len]; exact (List.getElem?_eq_some_iff.mp hp).1)⟩
      have hi : i < 12 := by have := NF.lt_of_get hc; omega
      obtain ⟨z, hz⟩ : ∃ z, f[i]? = some z := ⟨_, List.getElem?_eq_getElem (by have := NF.lt_of_get hc; omega)⟩
      obtain ⟨dx, hpx⟩ := hA.at_ i p c hp hc
      have I2 := I.keep (Same.new (o := .tup [.int (i : Nat), .ref p]) hT)
      refine ⟨Tp, _, rfl, SqT.of upd_same, rfl, _, _, rfl, _, _, rfl, rfl, ?_⟩
      generalize upd H' Tp (.tup [.int (i : Nat), .ref p]) = H3 at I2
      clear I
      refine ⟨_, rfl, _, rfl, m, _, _, _, rfl, rfl, I2.same.seq hF, atI_nat (mapGet hz), _, rfl, p, _, dx, _, _, rfl, I2.same _ _ hpx, T.cl_Arc, T.na_Arc_capacity, arcF_capacity _ _ _ _, _, _, rfl, rfl, _, rfl, ?_⟩
      -- the second test, from whatever stands behind the first
      have second : ∀ (H4 : Hp) (ts1 : List Addr) (S1 : List Sf13.Way), RI H H4 q n f ts1 S1 i → (∀ y, y ∈ S1 ↔ (y ∈ S ∨ (z < c.room ∧ y = ⟨i, true, c.source, c.target, c.room - z, c.cost⟩))) → S1.length ≤ S.length + 1 →
          ∀ (H5 : Hp) (ts2 : List Addr) (S2 : List Sf13.Way), RI H H5 q n f ts2 S2 i → (∀ y, y ∈ S2 ↔ (y ∈ S1 ∨ (0 < z ∧ y = ⟨i, false, c.target, c.source, z, -c.cost⟩))) → S2.length ≤ S1.length + 1 →
          SrF l m q n f H (i + 1) [some (.ref l), some (.ref m), some (.ref q), some (.int (i : Nat)), some (.ref p)] H5 := by
        intro H4 ts1 S1 _ m1 l1 H5 ts2 S2 I5 m2 l2
        refine ⟨ts2, S2, _, _, rfl, ⟨I5.same, I5.fresh, I5.rooms⟩, fun y => ?_, by omega⟩
        rw [m2, m1, hS]
        have hw := way_at hc hz y
        constructor
        · rintro ((h | h) | h)
          · exact ⟨h.1, by omega⟩
          · have := hw.2 (Or.inl h); exact ⟨this.1, by omega⟩
          · have := hw.2 (Or.inr h); exact ⟨this.1, by omega⟩
        · rintro ⟨h1, h2⟩
          rcases Nat.lt_or_ge y.arc i with h3 | h3
          · exact Or.inl (Or.inl ⟨h1, h3⟩)
          · rcases hw.1 ⟨h1, by omega⟩ with h4 | h4
            · exact Or.inl (Or.inr h4)
            · exact Or.inr h4
      refine ite2 (fun h => ?_) (fun h => ?_)
      · have h' : z < c.room := of_decide_eq_true h
        refine ⟨_, rfl, .inl ⟨rfl, _, SqL.of I2.rooms.lst⟩, _, rfl, p, _, dx, _, _, rfl, I2.same _ _ hpx, T.cl_Arc, T.na_Arc_origin, arcF_origin _ _ _ _, _, rfl, p, _, dx, _, _, rfl, I2.same _ _ hpx, T.cl_Arc, T.na_Arc_goal, arcF_goal _ _ _ _, _, rfl, p, _, dx, _, _, rfl, I2.same _ _ hpx, T.cl_Arc, T.na_Arc_cost, arcF_cost _ _ _ _, _, rfl, (by show 4 ≤ sizeLine; decide), fun tp htp => ?_⟩
        refine ⟨q, _, _, rfl, rfl, Same.new htp _ _ I2.rooms.lst, (by rw [List.length_map, I2.rooms.len]; exact Nat.lt_of_le_of_lt (show _ ≤ 65 by omega) line65), ?_⟩
        have I3 := I2.more htp ⟨i, true, c.source, c.target, c.room - z, c.cost⟩
        have m1 : ∀ y, y ∈ S ++ [(⟨i, true, c.source, c.target, c.room - z, c.cost⟩ : Sf13.Way)] ↔ (y ∈ S ∨ (z < c.room ∧ y = ⟨i, true, c.source, c.target, c.room - z, c.cost⟩)) := by
          intro y; simp [h']
        dsimp only at I3
        generalize upd (upd H3 tp _) q _ = H4 at I3 ⊢
        refine ⟨_, rfl, _, rfl, m, _, _, _, rfl, rfl, I3.same.seq hF, atI_nat (mapGet hz), _, _, rfl, rfl, _, rfl, ?_⟩
        refine ite2 (fun g => ?_) (fun g => ?_)
        · have g' : 0 < z := of_decide_eq_true g
          refine ⟨_, rfl, .inl ⟨rfl, _, SqL.of I3.rooms.lst⟩, _, rfl, p, _, dx, _, _, rfl, I3.same _ _ hpx, T.cl_Arc, T.na_Arc_goal, arcF_goal _ _ _ _, _, rfl, p, _, dx, _, _, rfl, I3.same _ _ hpx, T.cl_Arc, T.na_Arc_origin, arcF_origin _ _ _ _, _, rfl, p, _, dx, _, _, rfl, I3.same _ _ hpx, T.cl_Arc, T.na_Arc_cost, arcF_cost _ _ _ _, _, rfl, _, rfl, (by show 4 ≤ sizeLine; decide), fun tp2 htp2 => ?_⟩
          refine ⟨q, _, _, rfl, rfl, Same.new htp2 _ _ I3.rooms.lst, (by rw [List.length_map, I3.rooms.len, List.length_append]; exact Nat.lt_of_le_of_lt (show S.length + 1 ≤ 65 by omega) line65), ?_⟩
          exact second _ _ _ I3 m1 (by simp) _ _ _ (I3.more htp2 ⟨i, false, c.target, c.source, z, -c.cost⟩) (fun y => by simp [g', or_assoc]) (by simp)
        · have g' : ¬ 0 < z := of_decide_eq_false (by simpa using g)
          exact second _ _ _ I3 m1 (by simp) _ _ _ I3 (fun y => by simp [g']) (by omega)
      · have h' : ¬ z < c.room := of_decide_eq_false (by simpa using h)
        have m1 : ∀ y, y ∈ S ↔ (y ∈ S ∨ (z < c.room ∧ y = ⟨i, true, c.source, c.target, c.room - z, c.cost⟩)) := by
          intro y; simp [h']
        refine ⟨_, rfl, _, rfl, m, _, _, _, rfl, rfl, I2.same.seq hF, atI_nat (mapGet hz), _, _, rfl, rfl, _, rfl, ?_⟩
        refine ite2 (fun g => ?_) (fun g => ?_)
        · have g' : 0 < z := of_decide_eq_true g
          refine ⟨_, rfl, .inl ⟨rfl, _, SqL.of I2.rooms.lst⟩, _, rfl, p, _, dx, _, _, rfl, I2.same _ _ hpx, T.cl_Arc, T.na_Arc_goal, arcF_goal _ _ _ _, _, rfl, p, _, dx, _, _, rfl, I2.same _ _ hpx, T.cl_Arc, T.na_Arc_origin, arcF_origin _ _ _ _, _, rfl, p, _, dx, _, _, rfl, I2.same _ _ hpx, T.cl_Arc, T.na_Arc_cost, arcF_cost _ _ _ _, _, rfl, _, rfl, (by show 4 ≤ sizeLine; decide), fun tp2 htp2 => ?_⟩
          refine ⟨q, _, _, rfl, rfl, Same.new htp2 _ _ I2.rooms.lst, (by rw [List.length_map, I2.rooms.len]; exact Nat.lt_of_le_of_lt (show _ ≤ 65 by omega) line65), ?_⟩
          exact second _ _ _ I2 m1 (by omega) _ _ _ (I2.more htp2 ⟨i, false, c.target, c.source, z, -c.cost⟩) (fun y => by simp [g']) (by simp)
        · have g' : ¬ 0 < z := of_decide_eq_false (by simpa using g)
          exact second _ _ _ I2 m1 (by omega) _ _ _ I2 (fun y => by simp [g']) (by omega)
    · rintro σ H' ⟨ts, S, v3, v4, rfl, I, hS, hSl⟩
      refine ⟨_, rfl, k H' q ts S I.same I.fresh I.rooms (fun y => ?_)⟩
      rw [hS]
      constructor
      · exact fun h => h.1
      · intro h
        refine ⟨h, ?_⟩
        obtain ⟨b, x, g1, _⟩ := h
        rw [List.length_map, hA.len]
        exact NF.lt_of_get g1
inductive SpCostAlong (a : Adr) (vs : List V) (H : Hp) (Q : VK) : Prop
  | mk (l q : Addr) (as ts : List Addr) (n : Sf13.Abs) (p : List Sf13.Way) (h0 : vs = [.ref l, .ref q]) (h1 : ArcsAt a H l as n) (h2 : StepsAt H q ts p) (h3 : (∀ y, y ∈ p → NF.Along n y)) (h4 : p.length ≤ 65) (h5 : ∀ H' : Hp, Same H H' → Q (.int (p.map Sf13.Way.cost).sum) H') : SpCostAlong a vs H Q
noncomputable def spCostAlong (a : Adr) : Sp := fun vs H Q _ => SpCostAlong a vs H Q
theorem sc_cost_along : FnScope ["arcs", "steps", "number", "forwards"] ["arcs", "steps"] (defScope s_cost_along) := ⟨rfl, rfl, rfl, by decide +kernel, rfl, by decide +kernel, by decide +kernel⟩
noncomputable def scCostAlong : Scope := { kind := .function, names := [(".0", .local), ("number", .local), ("forwards", .local), ("arcs", .free)], isGenerator := false, isCoroutine := false }
theorem blk_cost_along : BlkOk ["arcs", "steps", "number", "forwards"] (defScope s_cost_along) scCostAlong [("number", 2), ("forwards", 3)] := blkOk_by (by decide +kernel)
theorem ok_cost_along (T : Txt K mg a) : FnOk P w K mg base CX0 1 a.f_cost_along a.d_cost_along ["arcs", "steps"] (spCostAlong a) := by
  refine T.D_cost_along.F.ok sc_cost_along (fun vs H Q E h => ?_) (fun cdv A outer s H vs Q E hr h => ?_)
  · obtain ⟨l, q, as, ts, n, p, rfl, _⟩ := h
    rfl
  · obtain ⟨l, q, as, ts, n, p, rfl, hA, hS, hW, hpl, k⟩ := h
    have nd := sc_cost_along.nd
    refine ⟨_, pss_one (ps_ret (pe_callB (cr_sum rfl) (by rfl) T.b_sum boot_sum0 (pa_cons (pe_lc (own := [("number", 2), ("forwards", 3)]) (g := gTup K 2 (gCons (gName 2) (gCons (gName 3) gNil))) (tt := tYes)
        (te := tIf (tB (tVar 3)) (tFld K (tOp (rIxL K) (tVar 0) (tVar 2)) "cost") (tUn (rU fun i => .int (-i)) (tFld K (tOp (rIxL K) (tVar 0) (tVar 2)) "cost"))) rfl nd (pi_list (pv 1)) blk_cost_along
        (fun _ _ _ _ _ => pg_tup rfl (pgs_cons (pg_name (i := 2) nd rfl (Or.inl rfl)) (pgs_cons (pg_name (i := 3) nd rfl (Or.inl rfl)) pgs_nil))) (fun _ _ _ _ _ => pts_nil)
        (fun _ _ _ _ _ => pe_ifExp (pt_val (pv 3)) (pe_fld (pe_ix ix_list (pv 0) (pv 2) (fun _ _ => rfl)) rfl) (pe_un un_neg (pe_fld (pe_ix ix_list (pv 0) (pv 2) (fun _ _ => rfl)) rfl)))) pa_nil))), ?_⟩
    refine ⟨_, rfl, q, rfl, ⟨_, SqL.of hS.lst⟩, fun D hD => lc_list (K := K) (a := q) (xs := ts.map V.ref)
      (fun i H' => Same H H' ∧ H' D = some (.lst (((p.map Sf13.Way.cost).take i).map V.int))) ⟨Same.new hD, upd_same⟩ (fun i H' _ ⟨s1, _⟩ => SqL.of (s1 _ _ hS.lst)) ?_ ?_⟩
    · rintro i x H' hx ⟨s1, hD'⟩
      obtain ⟨tp, htp, rfl⟩ := getMap hx
      obtain ⟨y, hy⟩ : ∃ y, p[i]? = some y := ⟨_, List.getElem?_eq_getElem (by rw [← hS.len]; exact (List.getElem?_eq_some_iff.mp htp).1)⟩
      obtain ⟨b, h1, h3⟩ := hW y (List.mem_of_getElem? hy)
      obtain ⟨pa, hpa, dx, hpx⟩ := hA.get h1
      have ht := s1 _ _ (hS.at_ i tp y htp hy)
      have hyc : (p.map Sf13.Way.cost)[i]? = some y.cost := by rw [List.getElem?_map, hy]; rfl
      have fin : ∀ e : Int, e = y.cost → ∃ acc, H' D = some (.lst acc) ∧ acc.length < sizeLine ∧ (Same H (upd H' D (.lst (acc ++ [.int e]))) ∧ upd H' D (.lst (acc ++ [.int e])) D = some (.lst (((p.map Sf13.Way.cost).take (i + 1)).map V.int))) := by
        rintro e rfl
        refine ⟨_, hD', ?_, fun b' ob hb => ?_, ?_⟩
        · rw [List.length_map, List.length_take]
          have := NF.lt_of_get hy
          exact Nat.lt_of_le_of_lt (show _ ≤ 65 by omega) line65
        · rw [upd_ne (fun e => by subst e; rw [hD] at hb; cases hb)]; exact s1 _ _ hb
        · rw [upd_same, NF.take_snoc hyc, List.map_append]; rfl
      refine ⟨tp, _, rfl, SqT.of ht, rfl, _, _, rfl, _, _, rfl, rfl, rfl, ?_⟩
      refine ⟨_, rfl, y.forth, rfl, ?_⟩
      rcases h3 with g | g
      · rw [if_pos g.1]
        exact ⟨_, rfl, _, rfl, l, _, _, _, rfl, rfl, SqL.of (s1 _ _ hA.lst), atI_nat (mapGet hpa), pa, _, dx, _, _, rfl, s1 _ _ hpx, T.cl_Arc, T.na_Arc_cost, arcF_cost _ _ _ _, fin _ g.2.2.2.symm⟩
      · rw [if_neg (by rw [g.1]; simp)]
        exact ⟨_, rfl, _, rfl, l, _, _, _, rfl, rfl, SqL.of (s1 _ _ hA.lst), atI_nat (mapGet hpa), pa, _, dx, _, _, rfl, s1 _ _ hpx, T.cl_Arc, T.na_Arc_cost, arcF_cost _ _ _ _, _, rfl, fin _ g.2.2.2.symm⟩
    rintro H1 ⟨s1, hD1⟩
    rw [List.take_of_length_le (by simp [hS.len])] at hD1
    exact ⟨D, _, rfl, SqL.of hD1, k H1 s1⟩
end
end NP
end
section
set_option Elab.async false
set_option maxRecDepth 100000
set_option maxHeartbeats 2000000
namespace NP
open PySem PySem.Spec PyProof.Rows L2
open PySem.W (Codec WData)
section
variable {P : Program} {w : World} {K : PySem.W.Frag} {mg : Str → Option Value} {base : Heap} {a : Adr}
noncomputable def dOf {α : Type} (g : α → V) (B : List (Nat × α)) : List (Key × V) := B.map fun e => ((Sum.inl (e.1 : Int) : Key), g e.2)
theorem inl_ne {i j : Nat} (h : ¬ i = j) : ¬ ((Sum.inl (i : Int) : Key) = Sum.inl (j : Int)) := by
  intro z; injection z with z; omega
theorem dOf_cons {α : Type} (g : α → V) (e : Nat × α) (B : List (Nat × α)) : dOf g (e :: B) = ((Sum.inl (e.1 : Int) : Key), g e.2) :: dOf g B := rfl
theorem dOf_val {α : Type} (g : α → V) : ∀ (B : List (Nat × α)) (v : Nat), valV (dOf g B) (Sum.inl (v : Int)) = (NF.val B v).map g
  | [], v => rfl
  | e :: r, v => by
    rw [dOf_cons]
    simp only [NF.val]
    by_cases h : e.1 = v
    · rw [if_pos h, valV_pos (by show (Sum.inl (e.1 : Int) : Key) = Sum.inl (v : Int); rw [h])]; rfl
    · rw [if_neg h, valV_neg (inl_ne h), dOf_val g r v]
theorem putK_ne {p : Key × V} {r : List (Key × V)} {k : Key} {v : V} (h : ¬ p.1 = k) : putK (p :: r) k v = p :: putK r k v := by
  unfold putK
  rw [List.any_cons, decide_eq_false h, Bool.false_or]
  split
  · rw [List.map_cons, if_neg h]
  · rfl
theorem putK_eq {p : Key × V} {r : List (Key × V)} {k : Key} {v : V} (h : p.1 = k) (hn : ∀ q, q ∈ r → ¬ q.1 = k) : putK (p :: r) k v = (k, v) :: r := by
  unfold putK
  rw [List.any_cons, decide_eq_true h, Bool.true_or, if_pos rfl, List.map_cons, if_pos h, h]
  congr 1
  have : ∀ l : List (Key × V), (∀ q, q ∈ l → ¬ q.1 = k) → l.map (fun kv => if kv.1 = k then (kv.1, v) else kv) = l := by
    intro l
    induction l with
    | nil => intro _; rfl
    | cons x l ih =>
      intro hl
      rw [List.map_cons, if_neg (hl x (by simp)), ih (fun q hq => hl q (by simp [hq]))]
  exact this r hn
theorem dOf_put {α : Type} (g : α → V) : ∀ (B : List (Nat × α)) (v : Nat) (x : α), (NF.keys B).Nodup → putK (dOf g B) (Sum.inl (v : Int)) (g x) = dOf g (NF.put B v x)
  | [], v, x, _ => rfl
  | e :: r, v, x, hn => by
    simp only [NF.keys, List.map_cons, List.nodup_cons] at hn
    rw [dOf_cons]
    simp only [NF.put]
    by_cases h : e.1 = v
    · rw [if_pos h, putK_eq (by show (Sum.inl (e.1 : Int) : Key) = Sum.inl (v : Int); rw [h])]
      · rfl
      · intro q hq
        unfold dOf at hq
        obtain ⟨y, hy, rfl⟩ := List.mem_map.1 hq
        refine inl_ne ?_
        intro z
        exact hn.1 (by rw [h, ← z]; exact List.mem_map.2 ⟨y, hy, rfl⟩)
    · rw [if_neg h, putK_ne (inl_ne h), dOf_put g r v x hn.2, dOf_cons]
theorem dOf_len {α : Type} (g : α → V) (B : List (Nat × α)) : (dOf g B).length = B.length := by simp [dOf]
theorem lex2 (c c' : Int) (k k' : Nat) : HT.lexLt [c, (k : Int)] [c', (k' : Int)] = decide (NF.lt2 c k c' k') := by
  rw [HT.lexLt_cons, HT.lexLt_cons, HT.lexLt_nil_nil]
  unfold NF.lt2
  by_cases h : c = c'
  · rw [if_pos h]
    by_cases h2 : (k : Int) = (k' : Int)
    · rw [if_pos h2]; symm; apply decide_eq_false; omega
    · rw [if_neg h2]; apply decide_eq_decide.mpr; omega
  · rw [if_neg h]; apply decide_eq_decide.mpr; omega
noncomputable abbrev Bin := List (Nat × (NF.Ent × Addr))
noncomputable def tabOf (B : Bin) : NF.Tab := B.map fun e => (e.1, e.2.1)
theorem tab_val (B : Bin) (v : Nat) : NF.val (tabOf B) v = (NF.val B v).map Prod.fst := NF.val_map Prod.fst B v
theorem tab_put (B : Bin) (v : Nat) (x : NF.Ent × Addr) : tabOf (NF.put B v x) = NF.put (tabOf B) v x.1 := NF.put_map Prod.fst B v x
theorem tab_keys (B : Bin) : NF.keys (tabOf B) = NF.keys B := NF.keys_map Prod.fst B
theorem tab_len (B : Bin) : (tabOf B).length = B.length := by simp [tabOf]
noncomputable def gW (x : NF.Ent × Addr) : V := optV x.1.arc
noncomputable def gL (x : NF.Ent × Addr) : V := V.ref x.2
structure CI (H0 H : Hp) (d e : Addr) (B : Bin) : Prop where
  same : Same H0 H
  freshD : H0 d = none
  freshE : H0 e = none
  ways : H d = some (.dK (dOf gW B))
  lens : H e = some (.dK (dOf gL B))
  tups : ∀ v x, NF.val B v = some x → H x.2 = some (.tup [.int x.1.c, .int (x.1.k : Nat)])
theorem CI.keep {H0 H H' : Hp} {d e : Addr} {B : Bin} (h : CI H0 H d e B) (s : Same H H') : CI H0 H' d e B := ⟨h.same.trans s, h.freshD, h.freshE, s _ _ h.ways, s _ _ h.lens, fun v x g => s _ _ (h.tups v x g)⟩
theorem CI.put {H0 H : Hp} {d e tp : Addr} {B : Bin} (h : CI H0 H d e B) (hde : d ≠ e) (hn : (NF.keys B).Nodup) (v : Nat) (x : NF.Ent) (ht : H tp = some (.tup [.int x.c, .int (x.k : Nat)])) :
    CI H0 (upd (upd H e (.dK (putK (dOf gL B) (Sum.inl (v : Int)) (gL (x, tp))))) d (.dK (putK (dOf gW B) (Sum.inl (v : Int)) (gW (x, tp))))) d e (NF.put B v (x, tp)) := by
  have hte : tp ≠ e := ne_of ht h.lens (by intro z; cases z)
  have htd : tp ≠ d := ne_of ht h.ways (by intro z; cases z)
  refine ⟨?_, h.freshD, h.freshE, ?_, ?_, ?_⟩
  · intro b ob hb
    rw [upd_ne (fun z => by subst z; rw [h.freshD] at hb; cases hb), upd_ne (fun z => by subst z; rw [h.freshE] at hb; cases hb)]
    exact h.same _ _ hb
  · rw [upd_same, dOf_put gW B v (x, tp) hn]
  · rw [upd_ne (Ne.symm hde), upd_same, dOf_put gL B v (x, tp) hn]
  · intro u z hz
    rw [NF.val_put] at hz
    have key : H z.2 = some (.tup [.int z.1.c, .int (z.1.k : Nat)]) := by
      by_cases hu : u = v
      · rw [if_pos hu] at hz
        cases hz
        exact ht
      · rw [if_neg hu] at hz
        exact h.tups u z hz
    rw [upd_ne (ne_of key h.ways (by intro z; cases z)), upd_ne (ne_of key h.lens (by intro z; cases z))]
    exact key
inductive SpCheap (a : Adr) (K : PySem.W.Frag) (vs : List V) (H : Hp) (Q : VK) : Prop
  | mk (l m : Addr) (s : Nat) (as : List Addr) (n : Sf13.Abs) (f : List Int) (p : Nat → Int) (h0 : vs = [.ref l, .ref m, .int s]) (h1 : ArcsAt a H l as n) (h2 : SqL K H m (f.map V.int)) (h3 : n.length ≤ f.length) (h4 : NF.Net12 n) (h5 : s < 64) (h6 : NF.Fair n f p) (h7 : ∀ (H' : Hp) (d : Addr) (ws : List (Nat × Option Nat)) (c : Nat → Int) (r : Nat → Nat), Same H H' → H' d = some (.dK (wsD ws)) → NF.Cheap n f s ws c r → Q (.ref d) H') : SpCheap a K vs H Q
noncomputable def spCheap (a : Adr) (K : PySem.W.Frag) : Sp := fun vs H Q _ => SpCheap a K vs H Q
theorem sc_cheapest_ways : FnScope ["arcs", "amounts", "s", "steps", "ways", "lengths", "shortened", "near", "far", "cost", "number", "length"] ["arcs", "amounts", "s"] (defScope s_cheapest_ways) := ⟨rfl, rfl, rfl, by decide +kernel, rfl, by decide +kernel, by decide +kernel⟩
theorem relaxB_same {A : NF.Tab} {b : Bool} {y : Sf13.Way} (h : NF.relax A y = (A, false)) : NF.relaxB (A, b) y = (A, b) := by
  unfold NF.relaxB; rw [h, Bool.or_false]
theorem relaxB_new {A : NF.Tab} {b : Bool} {y : Sf13.Way} {x : NF.Ent} (h : NF.relax A y = (NF.put A y.there (NF.entOf x y), true)) : NF.relaxB (A, b) y = (NF.put A y.there (NF.entOf x y), true) := by
  unfold NF.relaxB; rw [h, Bool.or_true]
theorem fold_snoc {S : List Sf13.Way} {i : Nat} {y : Sf13.Way} (h : S[i]? = some y) (st : NF.Tab × Bool) : (S.take (i + 1)).foldl NF.relaxB st = NF.relaxB ((S.take i).foldl NF.relaxB st) y := by
  rw [NF.take_snoc h, List.foldl_append]; rfl
theorem wsD_of (B : Bin) : dOf gW B = wsD (NF.wsOf (tabOf B)) := by
  unfold dOf wsD NF.wsOf tabOf gW
  rw [List.map_map, List.map_map]; rfl
inductive cwFor (l : Addr) (m : Addr) (q : Addr) (d : Addr) (e : Addr) (s0 : Nat) (H1 : Hp) (S : List Sf13.Way) (A : NF.Tab) (i : Nat) (σ : L2.St) (H' : Hp) : Prop
  | mk (B' : Bin) (b : Bool) (v7 v8 v9 v10 v11 : Option V) (h0 : σ = [some (.ref l), some (.ref m), some (.int s0), some (.ref q), some (.ref d), some (.ref e), some (.bl b), v7, v8, v9, v10, v11]) (h1 : CI H1 H' d e B') (h2 : (tabOf B', b) = (S.take i).foldl NF.relaxB (A, false)) : cwFor l m q d e s0 H1 S A i σ H'
inductive cwWh (l : Addr) (m : Addr) (q : Addr) (d : Addr) (e : Addr) (s0 : Nat) (H1 : Hp) (S : List Sf13.Way) (pr : Nat → Int) (t : Nat) (σ : L2.St) (H' : Hp) : Prop
  | mk (B : Bin) (b : Bool) (v7 v8 v9 v10 v11 : Option V) (h0 : σ = [some (.ref l), some (.ref m), some (.int s0), some (.ref q), some (.ref d), some (.ref e), some (.bl b), v7, v8, v9, v10, v11]) (h1 : CI H1 H' d e B) (h2 : NF.Lab (fun y => y ∈ S) pr s0 (tabOf B)) (h3 : ((b = true ∧ ∃ t', t = t' + 1 ∧ NF.Runs S (tabOf B) t') ∨ (b = false ∧ t = 0 ∧ ∀ y, y ∈ S → NF.Calm (tabOf B) y))) : cwWh l m q d e s0 H1 S pr t σ H'
inductive cwNx (l : Addr) (m : Addr) (q : Addr) (d : Addr) (e : Addr) (s0 : Nat) (H1 : Hp) (S : List Sf13.Way) (A : NF.Tab) (σ' : L2.St) (H' : Hp) : Prop
  | mk (B' : Bin) (b : Bool) (v7 v8 v9 v10 v11 : Option V) (h0 : σ' = [some (.ref l), some (.ref m), some (.int s0), some (.ref q), some (.ref d), some (.ref e), some (.bl b), v7, v8, v9, v10, v11]) (h1 : CI H1 H' d e B') (h2 : (tabOf B', b) = NF.pass S A) : cwNx l m q d e s0 H1 S A σ' H'
theorem ok_cheapest_ways (T : Txt K mg a) : FnOk P w K mg base CX0 2 a.f_cheapest_ways a.d_cheapest_ways ["arcs", "amounts", "s"] (spCheap a K) := by
  have GR : FnOk P w K mg base CX0 1 a.f_steps_with_room a.d_steps_with_room ["arcs", "amounts"] (spRooms a K) := ok_steps_with_room T
  refine T.D_cheapest_ways.F.ok sc_cheapest_ways (fun vs H Q E h => ?_) (fun cdv A outer s H vs Q E hr h => ?_)
  · obtain ⟨l, m, s, as, n, f, p, rfl, _⟩ := h
    rfl
  · obtain ⟨l, m, s0, as, n, f, pr, rfl, hA, hF, hl, hN, hs, hp, k⟩ := h
    have nd := sc_cheapest_ways.nd
    have hu := hu_of hr
    refine ⟨_, pss_cons (ps_set (i := 3) nd rfl (Or.inl rfl) (pe_call GR hr rfl T.D_steps_with_room.m T.D_steps_with_room.F.kp T.D_steps_with_room.b .nil pass0 (pa_cons (pv 0) (pa_cons (pv 1) pa_nil))))
      (pss_cons (ps_set (i := 4) nd rfl (Or.inl rfl) (pe_disp (pps_cons (pv 2) pe_non pps_nil) rfl rfl (by simp) (by decide)))
      (pss_cons (ps_set (i := 5) nd rfl (Or.inl rfl) (pe_disp (pps_cons (pv 2) (pe_tup (pa_cons pe_int (pa_cons pe_int pa_nil))) pps_nil) rfl rfl (by simp) (by decide)))
      (pss_cons (ps_set (i := 6) nd rfl (Or.inl rfl) pe_bl)
      (pss_cons (ps_while PassesOwn.never (pt_val (pv 6))
        (pss_cons (ps_set (i := 6) nd rfl (Or.inl rfl) pe_bl)
        (pss_one (ps_for PassesOwn.never rfl (pi_list (pv 3)) (pg_tup rfl (pgs_cons (pg_name (i := 7) nd rfl (Or.inl rfl)) (pgs_cons (pg_name (i := 8) nd rfl (Or.inl rfl)) (pgs_cons (pg_name (i := 9) nd rfl (Or.inl rfl)) (pgs_cons (pg_name (i := 10) nd rfl (Or.inl rfl)) pgs_nil)))))
          (pss_cons (ps_if (pt_cmp (pc_dnotin hu (pv 7) (pv 5))) (pss_one ps_continue) pss_nil)
          (pss_cons (ps_set (i := 11) nd rfl (Or.inl rfl) (pe_tup (pa_cons (pe_op op_add (pe_ix ix_tup (pe_dget hu (pv 5) (pv 7) (fun _ _ => rfl)) pe_int (fun _ _ => rfl)) (pv 9)) (pa_cons (pe_op op_add (pe_ix ix_tup (pe_dget hu (pv 5) (pv 7) (fun _ _ => rfl)) pe_int (fun _ _ => rfl)) pe_int) pa_nil))))
          (pss_one (ps_if (PW.pt (pw_or (pt_cmp (pc_dnotin hu (pv 8) (pv 5))) (pw_or1 (pt_cmpR (op_ltT (Nat.lt_of_succ_lt hu)) (pv 11) (pe_dget hu (pv 5) (pv 8) (fun _ _ => rfl)) (nomark _)))))
            (pss_cons (ps_dput hu (pv 5) (pv 8) (pv 11) rfl) (pss_cons (ps_dput hu (pv 4) (pv 8) (pv 10) rfl) (pss_one (ps_set (i := 6) nd rfl (Or.inl rfl) pe_bl)))) pss_nil))))))))
      (pss_one (ps_ret (pv 4))))))), ?_⟩
    refine ⟨_, rfl, _, rfl, l, m, as, n, f, rfl, hA, hF, hl, hN.few, fun H1 q ts S s1 hq hR hS => ?_⟩
    intro d hd
    refine ⟨_, rfl, upd_same, [(Sum.inl (s0 : Int), V.non)], rfl, (by show 1 ≤ 15; decide), ?_⟩
    have e1 : upd (upd H1 d (.dK [])) d (.dK (mergeK [] [(Sum.inl (s0 : Int), V.non)])) = upd H1 d (.dK [(Sum.inl (s0 : Int), V.non)]) := upd_upd
    rw [e1]
    intro e he
    refine ⟨_, rfl, (by show 2 ≤ sizeLine; decide), fun tp htp => ?_⟩
    have het : e ≠ tp := ne_of_none upd_same htp
    refine ⟨by rw [upd_ne het]; exact upd_same, [(Sum.inl (s0 : Int), V.ref tp)], rfl, (by show 1 ≤ 15; decide), ?_⟩
    have hde : d ≠ e := ne_of_none upd_same he
    have hdt : d ≠ tp := ne_of_none (by rw [upd_ne hde]; exact upd_same) htp
    have hH1e : H1 e = none := by rw [upd_ne (Ne.symm hde)] at he; exact he
    have hH1t : H1 tp = none := by rw [upd_ne (Ne.symm het), upd_ne (Ne.symm hdt)] at htp; exact htp
    have W0 : CI H1 (upd (upd (upd (upd H1 d (.dK [(Sum.inl (s0 : Int), V.non)])) e (.dK [])) tp (.tup [.int 0, .int 0])) e (.dK (mergeK [] [(Sum.inl (s0 : Int), V.ref tp)]))) d e [(s0, (⟨none, 0, 0⟩, tp))] := by
      refine ⟨?_, hd, hH1e, ?_, ?_, ?_⟩
      · intro b ob hb
        rw [upd_ne (fun z => by subst z; rw [hH1e] at hb; cases hb), upd_ne (fun z => by subst z; rw [hH1t] at hb; cases hb), upd_ne (fun z => by subst z; rw [hH1e] at hb; cases hb), upd_ne (fun z => by subst z; rw [hd] at hb; cases hb)]
        exact hb
      · rw [upd_ne hde, upd_ne hdt, upd_ne hde]; exact upd_same
      · exact upd_same
      · intro v x hx
        simp only [NF.val] at hx
        split at hx
        · cases hx
          rw [upd_ne (Ne.symm het)]; exact upd_same
        · cases hx
    generalize upd (upd (upd (upd H1 d (.dK [(Sum.inl (s0 : Int), V.non)])) e (.dK [])) tp (.tup [.int 0, .int 0])) e (.dK (mergeK [] [(Sum.inl (s0 : Int), V.ref tp)])) = H2 at W0 ⊢
    have hq' : ∀ y, y ∈ S → pr y.there ≤ pr y.here + y.cost := fun y hy => hp y ((hS y).1 hy)
    have hne' : ∀ y, y ∈ S → y.here ≠ y.there := fun y hy => ((hS y).1 hy).along.ne hN.noLoop
    have hsm' : ∀ y, y ∈ S → y.there < 64 := fun y hy => (((hS y).1 hy).along.ends hN.ends).2
    have L0 : NF.Lab (fun y => y ∈ S) pr s0 (tabOf [(s0, ((⟨none, 0, 0⟩ : NF.Ent), tp))]) := NF.Lab.first hs
    obtain ⟨t0, ht0⟩ := NF.runs_ex hq' hne' hsm' _ L0
    refine ⟨cwWh l m q d e s0 H1 S pr, ⟨t0 + 1, _, true, none, none, none, none, none, rfl, W0, L0, Or.inl ⟨rfl, t0, rfl, ht0⟩⟩, ?_⟩
    clear W0 L0 ht0 t0
    rintro t σ H3 ⟨B, b, v7, v8, v9, v10, v11, rfl, I, L, hb⟩
    refine ⟨_, rfl, b, rfl, ?_⟩
    rcases hb with ⟨rfl, t', rfl, hrun⟩ | ⟨rfl, rfl, hcalm⟩
    · refine iteT ?_
      refine ⟨cwNx l m q d e s0 H1 S (tabOf B), ?_, ?_⟩
      · rintro σ' H' ⟨B', b', v7, v8, v9, v10, v11, h1, h2, h3⟩
        obtain ⟨p1, p2⟩ := NF.pass_ok (S := fun y => y ∈ S) (q := pr) (s := s0) hq' hne' hsm' S (tabOf B) false (fun y hy => hy) L
        have h3' : (tabOf B', b') = S.foldl NF.relaxB (tabOf B, false) := h3
        rw [← h3'] at p1 p2
        dsimp only at p1 p2
        cases b' with
        | false =>
          rcases p2 with ⟨_, g2, g3⟩ | ⟨g1, _⟩
          · exact ⟨0, Nat.succ_pos _, B', false, v7, v8, v9, v10, v11, h1, h2, p1, Or.inr ⟨rfl, rfl, by rw [g2]; exact g3⟩⟩
          · cases g1
        | true =>
          cases hrun with
          | stop hst =>
            rw [← h3] at hst; cases hst
          | go hgo =>
            rename_i t''
            rw [← h3] at hgo
            exact ⟨t'' + 1, Nat.lt_succ_self _, B', true, v7, v8, v9, v10, v11, h1, h2, p1, Or.inl ⟨rfl, t'', rfl, hgo⟩⟩
      refine ⟨_, rfl, q, rfl, ⟨_, SqL.of (I.same _ _ hR.lst)⟩, for_list (K := K) (a := q) (xs := ts.map V.ref)
        (cwFor l m q d e s0 H1 S (tabOf B))
        ⟨B, false, v7, v8, v9, v10, v11, rfl, I, rfl⟩ (fun i σ H' _ ⟨_, _, _, _, _, _, _, _, J, _⟩ => SqL.of (J.same _ _ hR.lst)) ?_ ?_⟩
      · clear v7 v8 v9 v10 v11
        rintro i x σ H4 hx ⟨B', b, v7, v8, v9, v10, v11, rfl, J, hB⟩
        obtain ⟨tq, htq, rfl⟩ := getMap hx
        obtain ⟨y, hy⟩ : ∃ y, S[i]? = some y := ⟨_, List.getElem?_eq_getElem (by rw [← hR.len]; exact (List.getElem?_eq_some_iff.mp htq).1)⟩
        have htup := J.same _ _ (hR.at_ i tq y htq hy)
        have hym := List.mem_of_getElem? hy
        have L' : NF.Lab (fun y => y ∈ S) pr s0 (tabOf B') := by
          have := (NF.pass_ok (S := fun y => y ∈ S) (q := pr) (s := s0) hq' hne' hsm' (S.take i) (tabOf B) false (fun z hz => List.mem_of_mem_take hz) L).1
          rw [← hB] at this; exact this
        have hnd : (NF.keys B').Nodup := by rw [← tab_keys]; exact L'.nodup
        have hlen : B'.length ≤ 64 := by rw [← tab_len]; exact L'.len
        have hnext := fold_snoc hy (tabOf B, false)
        rw [← hB] at hnext
        refine ⟨tq, _, rfl, SqT.of htup, rfl, _, _, rfl, _, _, rfl, _, _, rfl, _, _, rfl, rfl, ?_⟩
        refine ⟨_, rfl, _, rfl, e, _, rfl, DGet.k (k := Sum.inl (y.here : Int)) J.lens, _, rfl, ?_⟩
        rw [dOf_val]
        cases hx0 : NF.val B' y.here with
        | none =>
          refine iteT ?_
          have hr0 : NF.relax (tabOf B') y = (tabOf B', false) := by
            unfold NF.relax; rw [tab_val, hx0]; rfl
          exact ⟨B', b, _, _, _, _, _, rfl, J, by rw [hnext, relaxB_same hr0]⟩
        | some x0 =>
          obtain ⟨x, px⟩ := x0
          refine iteF ?_
          have hget : DGet H4 e (kV (Sum.inl (y.here : Int))) (some (V.ref px)) := by
            have := DGet.k (k := Sum.inl (y.here : Int)) J.lens
            rw [dOf_val, hx0] at this; exact this
          have hpx := J.tups _ _ hx0
          refine ⟨_, rfl, _, rfl, e, _, rfl, hget, px, _, _, _, rfl, rfl, SqT.of hpx, atI_nat (j := 0) rfl, _, rfl, _, _, rfl, rfl, _, rfl, _, rfl, e, _, rfl, hget, px, _, _, _, rfl, rfl, SqT.of hpx, atI_nat (j := 1) rfl, _, _, rfl, rfl, (by show 2 ≤ sizeLine; decide), fun tp2 htp2 => ?_⟩
          have J2 := J.keep (Same.new (o := .tup [.int (x.c + y.cost), .int ((x.k : Int) + 1)]) htp2)
          have htn : upd H4 tp2 (.tup [.int (x.c + y.cost), .int ((x.k : Int) + 1)]) tp2 = some (.tup [.int (NF.entOf x y).c, .int ((NF.entOf x y).k : Nat)]) := upd_same
          have goal : (NF.relax (tabOf B') y = (NF.put (tabOf B') y.there (NF.entOf x y), true)) →
              cwFor l m q d e s0 H1 S (tabOf B) (i + 1) [some (.ref l), some (.ref m), some (.int s0), some (.ref q), some (.ref d), some (.ref e), some (.bl true), some (.int (y.here : Nat)), some (.int (y.there : Nat)), some (.int y.cost), some (.int (y.arc : Nat)), some (.ref tp2)]
                (upd (upd (upd H4 tp2 (.tup [.int (x.c + y.cost), .int ((x.k : Int) + 1)])) e (.dK (putK (dOf gL B') (Sum.inl (y.there : Int)) (.ref tp2)))) d (.dK (putK (dOf gW B') (Sum.inl (y.there : Int)) (.int (y.arc : Nat))))) := by
            intro hrel
            refine ⟨NF.put B' y.there (NF.entOf x y, tp2), true, _, _, _, _, _, rfl, J2.put hde hnd y.there (NF.entOf x y) htn, ?_⟩
            rw [hnext, relaxB_new hrel, tab_put]
          have other : NF.relax (tabOf B') y = (tabOf B', false) →
              cwFor l m q d e s0 H1 S (tabOf B) (i + 1) [some (.ref l), some (.ref m), some (.int s0), some (.ref q), some (.ref d), some (.ref e), some (.bl b), some (.int (y.here : Nat)), some (.int (y.there : Nat)), some (.int y.cost), some (.int (y.arc : Nat)), some (.ref tp2)]
                (upd H4 tp2 (.tup [.int (x.c + y.cost), .int ((x.k : Int) + 1)])) :=
            fun hrel => ⟨B', b, _, _, _, _, _, rfl, J2, by rw [hnext, relaxB_same hrel]⟩
          have hrel0 : ∀ z, NF.val B' y.there = z → NF.relax (tabOf B') y = match z with
              | none => (NF.put (tabOf B') y.there (NF.entOf x y), true)
              | some e => if NF.lt2 (x.c + y.cost) (x.k + 1) e.1.c e.1.k then (NF.put (tabOf B') y.there (NF.entOf x y), true) else (tabOf B', false) := by
            rintro z rfl
            unfold NF.relax
            rw [tab_val, hx0, tab_val]
            cases NF.val B' y.there <;> rfl
          have len1 : (dOf gL B').length < sizeLine := by rw [dOf_len]; exact Nat.lt_of_le_of_lt (Nat.le_succ_of_le hlen) line65
          have len2 : (dOf gW B').length < sizeLine := by rw [dOf_len]; exact Nat.lt_of_le_of_lt (Nat.le_succ_of_le hlen) line65
          refine ⟨_, rfl, _, rfl, e, _, rfl, DGet.k (k := Sum.inl (y.there : Int)) J2.lens, _, rfl, ?_⟩
          rw [dOf_val]
          cases hx1 : NF.val B' y.there with
          | none =>
            have hrel := hrel0 _ hx1
            dsimp only at hrel
            refine iteT (iteT ?_)
            refine ⟨_, rfl, _, rfl, _, rfl, e, _, rfl, DPut.k (k := Sum.inl (y.there : Int)) J2.lens len1, ?_⟩
            refine ⟨_, rfl, _, rfl, _, rfl, d, _, rfl, DPut.k (k := Sum.inl (y.there : Int)) (by rw [upd_ne hde]; exact J2.ways) len2, ?_⟩
            exact goal hrel
          | some x1 =>
            obtain ⟨x', px'⟩ := x1
            have hrel := hrel0 _ hx1
            dsimp only at hrel
            refine iteF ?_
            have hget1 : DGet (upd H4 tp2 (.tup [.int (x.c + y.cost), .int ((x.k : Int) + 1)])) e (kV (Sum.inl (y.there : Int))) (some (V.ref px')) := by
              have := DGet.k (k := Sum.inl (y.there : Int)) J2.lens
              rw [dOf_val, hx1] at this; exact this
            have hpx' := J2.tups _ _ hx1
            refine ⟨_, rfl, _, rfl, _, rfl, e, _, rfl, hget1, tp2, px', [x.c + y.cost, ((x.k + 1 : Nat) : Int)], [x'.c, (x'.k : Int)], rfl, rfl, SqT.of upd_same, SqT.of hpx', _, rfl, ?_⟩
            rw [lex2]
            by_cases hlt : NF.lt2 (x.c + y.cost) (x.k + 1) x'.c x'.k
            · rw [if_pos hlt] at hrel
              rw [decide_eq_true hlt]
              refine iteT ?_
              refine ⟨_, rfl, _, rfl, _, rfl, e, _, rfl, DPut.k (k := Sum.inl (y.there : Int)) J2.lens len1, ?_⟩
              refine ⟨_, rfl, _, rfl, _, rfl, d, _, rfl, DPut.k (k := Sum.inl (y.there : Int)) (by rw [upd_ne hde]; exact J2.ways) len2, ?_⟩
              exact goal hrel
            · rw [if_neg hlt] at hrel
              rw [decide_eq_false hlt]
              refine iteF ?_
              exact other hrel
      · rintro σ H' ⟨B', b', w7, w8, w9, w10, w11, rfl, J, hB⟩
        rw [List.length_map, hR.len, List.take_length] at hB
        exact ⟨B', b', w7, w8, w9, w10, w11, rfl, J, hB⟩
    · refine iteF ⟨_, rfl, ?_⟩
      have hLw : NF.Lab (NF.IsWay n f) pr s0 (tabOf B) := by
        have : (fun y => y ∈ S) = NF.IsWay n f := by funext y; exact propext (hS y)
        rw [← this]; exact L
      have hc := hLw.cheap hN.noLoop (fun y hy => hcalm y ((hS y).2 hy))
      exact k H3 d _ _ _ (s1.trans I.same) (by rw [I.ways, wsD_of]) hc
end
end NP
end
section
set_option Elab.async false
set_option maxRecDepth 100000
set_option maxHeartbeats 2000000
namespace NP
open PySem PySem.Spec PyProof.Rows L2
open PySem.W (Codec WData)
section
variable {P : Program} {w : World} {K : PySem.W.Frag} {mg : Str → Option Value} {base : Heap} {a : Adr}
theorem cut_take {xs : List V} {k : Nat} : cutV xs none (some (k : Int)) = xs.take k := by
  unfold cutV
  rw [HT.sIx_none, HT.sIx_nat, List.drop_zero, Nat.sub_zero]
  rcases Nat.le_total k xs.length with h | h
  · rw [Nat.min_eq_left h]
  · rw [Nat.min_eq_right h, List.take_of_length_le (Nat.le_refl _), List.take_of_length_le h]
theorem ArcsAt.part {H : Hp} {l l2 : Addr} {as : List Addr} {n : Sf13.Abs} (h : ArcsAt a H l as n) (k : Nat) (h2 : H l2 = some (.lst ((as.map V.ref).take k))) : ArcsAt a H l2 (as.take k) (n.take k) := by
  refine ⟨by rw [h2, List.map_take], by simp [h.len], ?_⟩
  intro j p x h3 h4
  rw [List.getElem?_take] at h3 h4
  split at h3
  · rename_i hj
    rw [if_pos hj] at h4
    exact h.at_ j p x h3 h4
  · cases h3
theorem StepsAt.more {H : Hp} {q q2 tp : Addr} {ts : List Addr} {p : List Sf13.Way} (h : StepsAt H q ts p) (z : Sf13.Way) (ht : H tp = some (.tup [.int (z.arc : Nat), .bl z.forth])) (hq : H q2 = none) :
    StepsAt (upd H q2 (.lst (ts.map V.ref ++ [.ref tp]))) q2 (ts ++ [tp]) (p ++ [z]) := by
  refine ⟨by rw [upd_same, List.map_append]; rfl, by simp [h.len], ?_⟩
  intro i2 t2 y2 h1 h2
  have key : H t2 = some (.tup [.int (y2.arc : Nat), .bl y2.forth]) := by
    rcases Nat.lt_trichotomy i2 ts.length with h3 | h3 | h3
    · rw [List.getElem?_append_left h3] at h1
      rw [List.getElem?_append_left (by rw [← h.len]; exact h3)] at h2
      exact h.at_ i2 t2 y2 h1 h2
    · subst h3
      have e1 : t2 = tp := by simp at h1; exact h1.symm
      have e2 : y2 = z := by rw [h.len] at h2; simp at h2; exact h2.symm
      subst e1 e2
      exact ht
    · rw [List.getElem?_eq_none (by simp; omega)] at h1; cases h1
  rw [upd_ne (ne_of_none key hq)]; exact key
inductive SpTaken (a : Adr) (vs : List V) (H : Hp) (Q : VK) : Prop
  | mk (l m : Addr) (k : Nat) (as : List Addr) (n : Sf13.Abs) (c : Sf13.Arc) (f : List Int) (s t : Nat) (q : Nat → Int) (h0 : vs = [.ref l, .ref m, .int k]) (h1 : ArcsAt a H l as n) (h2 : H m = some (.lst (f.map V.int))) (h3 : NF.Net12 n) (h4 : n[k]? = some c) (h5 : NF.Taking n k c s t f q) (h6 : ∀ (H' : Hp) (m' : Addr) (f' : List Int) (q' : Nat → Int), Same H H' → H' m' = some (.lst (f'.map V.int)) → NF.FlowTo n s t f' → (∀ v, Sf13.out n f' v = 0) → (∀ i x, k < i → f'[i]? = some x → x = 0) → NF.Fair (n.take (k + 1)) f' q' → Q (.ref m') H') : SpTaken a vs H Q
noncomputable def spTaken (a : Adr) : Sp := fun vs H Q _ => SpTaken a vs H Q
theorem sc_with_arc_taken_in : FnScope ["arcs", "amounts", "number", "arc", "earlier", "ways", "steps"] ["arcs", "amounts", "number"] (defScope s_with_arc_taken_in) := ⟨rfl, rfl, rfl, by decide +kernel, rfl, by decide +kernel, by decide +kernel⟩
inductive TkW (l : Addr) (pc : Addr) (l2 : Addr) (k : Nat) (s0 : Nat) (t : Nat) (n : Sf13.Abs) (c : Sf13.Arc) (H1 : Hp) (r : Nat) (σ : L2.St) (H' : Hp) : Prop
  | mk (m : Addr) (f : List Int) (q : Nat → Int) (x : Int) (v5 v6 : Option V) (h0 : σ = [some (.ref l), some (.ref m), some (.int (k : Nat)), some (.ref pc), some (.ref l2), v5, v6]) (h1 : f[k]? = some x) (h2 : r = (c.room - x).toNat) (h3 : Same H1 H') (h4 : H' m = some (.lst (f.map V.int))) (h5 : NF.Taking n k c s0 t f q) : TkW l pc l2 k s0 t n c H1 r σ H'
inductive TkN (l : Addr) (pc : Addr) (l2 : Addr) (k : Nat) (s0 : Nat) (t : Nat) (n : Sf13.Abs) (c : Sf13.Arc) (H1 : Hp) (x : Int) (σ' : L2.St) (H' : Hp) : Prop
  | mk (m : Addr) (f : List Int) (q : Nat → Int) (x' : Int) (v5 v6 : Option V) (h0 : σ' = [some (.ref l), some (.ref m), some (.int (k : Nat)), some (.ref pc), some (.ref l2), v5, v6]) (h1 : f[k]? = some x') (h2 : x < x') (h3 : Same H1 H') (h4 : H' m = some (.lst (f.map V.int))) (h5 : NF.Taking n k c s0 t f q) : TkN l pc l2 k s0 t n c H1 x σ' H'
theorem ok_with_arc_taken_in (T : Txt K mg a) : FnOk P w K mg base CX0 3 a.f_with_arc_taken_in a.d_with_arc_taken_in ["arcs", "amounts", "number"] (spTaken a) := by
  have GW : FnOk P w K mg base CX0 2 a.f_cheapest_ways a.d_cheapest_ways ["arcs", "amounts", "s"] (spCheap a K) := ok_cheapest_ways T
  have GT : FnOk P w K mg base CX0 2 a.f_steps_to a.d_steps_to ["arcs", "ways", "t"] (spSteps a) := (ok_steps_to T).mono (by decide)
  have GS : FnOk P w K mg base CX0 2 a.f_sent_along a.d_sent_along ["amounts", "steps", "more"] (spSent K) := (ok_sent_along T).mono (by decide)
  have GR : FnOk P w K mg base CX0 2 a.f_room_along a.d_room_along ["arcs", "amounts", "steps"] (spRoomAlong a K) := ok_room_along T
  have GC : FnOk P w K mg base CX0 2 a.f_cost_along a.d_cost_along ["arcs", "steps"] (spCostAlong a) := (ok_cost_along T).mono (by decide)
  refine T.D_with_arc_taken_in.F.ok sc_with_arc_taken_in (fun vs H Q E h => ?_) (fun cdv A outer s H vs Q E hr h => ?_)
  · obtain ⟨l, m, k, as, n, c, f, s, t, q, rfl, _⟩ := h
    rfl
  · obtain ⟨l, m0, k, as, n, c, f0, s0, t, q0, rfl, hA, hm0, hN, hk, hT0, ret⟩ := h
    have nd := sc_with_arc_taken_in.nd
    have hu := hu_of hr
    refine ⟨_, pss_cons (ps_set (i := 3) nd rfl (Or.inl rfl) (pe_ix ix_list (pv 0) (pv 2) (fun _ _ => rfl)))
      (pss_cons (ps_set (i := 4) nd rfl (Or.inl rfl) (pe_slice sl_list (pv 0) po_none (po_some (pv 2))))
      (pss_cons (ps_while PassesOwn.never (pt_cmpR op_lt (pe_ix ix_list (pv 1) (pv 2) (fun _ _ => rfl)) (pe_fld (pv 3) rfl) (nomark _))
        (pss_cons (ps_set (i := 5) nd rfl (Or.inl rfl) (pe_call GW hr rfl T.D_cheapest_ways.m T.D_cheapest_ways.F.kp T.D_cheapest_ways.b .nil pass0 (pa_cons (pv 4) (pa_cons (pv 1) (pa_cons (pe_fld (pv 3) rfl) pa_nil)))))
        (pss_cons (ps_if (pt_cmp (pc_dnotin hu (pe_fld (pv 3) rfl) (pv 5))) (pss_one (ps_ret (pv 1))) pss_nil)
        (pss_cons (ps_set (i := 6) nd rfl (Or.inl rfl) (pe_op op_cat (pe_call GT hr rfl T.D_steps_to.m T.D_steps_to.F.kp T.D_steps_to.b .nil pass0 (pa_cons (pv 4) (pa_cons (pv 5) (pa_cons (pe_fld (pv 3) rfl) pa_nil)))) (pe_lst (pa_cons (pe_tup (pa_cons (pv 2) (pa_cons pe_bl pa_nil))) pa_nil))))
        (pss_cons (ps_if (pt_cmpR op_ge (pe_call GC hr rfl T.D_cost_along.m T.D_cost_along.F.kp T.D_cost_along.b .nil pass0 (pa_cons (pv 0) (pa_cons (pv 6) pa_nil))) pe_int (nomark _)) (pss_one (ps_ret (pv 1))) pss_nil)
        (pss_one (ps_set (i := 1) nd rfl (Or.inl rfl) (pe_call GS hr rfl T.D_sent_along.m T.D_sent_along.F.kp T.D_sent_along.b .nil pass0 (pa_cons (pv 1) (pa_cons (pv 6) (pa_cons (pe_call GR hr rfl T.D_room_along.m T.D_room_along.F.kp T.D_room_along.b .nil pass0 (pa_cons (pv 0) (pa_cons (pv 1) (pa_cons (pv 6) pa_nil)))) pa_nil)))))))))))
      (pss_one (ps_ret (pv 1))))), ?_⟩
    obtain ⟨pc, hpc, dx, hpx⟩ := hA.get hk
    refine ⟨_, rfl, _, rfl, l, _, _, _, rfl, rfl, SqL.of hA.lst, atI_nat (mapGet hpc), ?_⟩
    refine ⟨_, rfl, _, rfl, _, rfl, l, _, rfl, SqL.of hA.lst, fun l2 hl2 => ?_⟩
    rw [cut_take]
    have s1 : Same H (upd H l2 (.lst ((as.map V.ref).take k))) := Same.new hl2
    have hA2 : ArcsAt a (upd H l2 (.lst ((as.map V.ref).take k))) l2 (as.take k) (n.take k) := (hA.same s1).part k upd_same
    generalize upd H l2 (.lst ((as.map V.ref).take k)) = H1 at s1 hA2 ⊢
    have hN2 := NF.take_net hN k
    have hce := hN.ends c (NF.mem_of_get hk)
    refine ⟨TkW l pc l2 k s0 t n c H1, ?_, ?_⟩
    · obtain ⟨x, hx⟩ : ∃ x, f0[k]? = some x := ⟨_, List.getElem?_eq_getElem (by rw [hT0.flow.fits.1]; exact NF.lt_of_get hk)⟩
      exact ⟨_, m0, f0, q0, x, none, none, rfl, hx, rfl, Same.refl _, s1 _ _ hm0, hT0⟩
    clear hm0 hT0 m0 f0 q0
    rintro r σ H2 ⟨m, f, q, x, v5, v6, rfl, hx, rfl, s2, hm, hT⟩
    have hpx2 := s2 _ _ (s1 _ _ hpx)
    refine ⟨_, rfl, _, rfl, m, _, _, _, rfl, rfl, SqL.of hm, atI_nat (mapGet hx), _, rfl, pc, _, dx, _, _, rfl, hpx2, T.cl_Arc, T.na_Arc_capacity, arcF_capacity _ _ _ _, _, _, rfl, rfl, _, rfl, ?_⟩
    refine ite2 (fun h => ?_) (fun h => ?_)
    · have hr0 : x < c.room := of_decide_eq_true h
      refine ⟨TkN l pc l2 k s0 t n c H1 x,
        fun σ' H' ⟨m, f, q, x', v5, v6, h1, h2, h3, h4, h5, h6⟩ => ⟨(c.room - x').toNat, by omega, m, f, q, x', v5, v6, h1, h2, rfl, h4, h5, h6⟩, ?_⟩
      have back : ∀ (H' : Hp) (q' : Nat → Int), Same H2 H' → NF.Fair (n.take (k + 1)) f q' → Q (.ref m) H' := fun H' q' s' hq' => ret H' m f q' ((s1.trans s2).trans s') (s' _ _ hm) hT.flow hT.none hT.zeros hq'
      refine ⟨_, rfl, _, rfl, _, rfl, pc, _, dx, _, _, rfl, hpx2, T.cl_Arc, T.na_Arc_goal, arcF_goal _ _ _ _, l2, m, c.target, _, _, f, q, rfl, hA2.same s2, SqL.of hm, (by rw [hT.flow.fits.1, List.length_take]; exact Nat.min_le_right _ _), hN2, hce.2, hT.fair, fun H3 d ws cc rr s3 hd hC => ?_⟩
      have hpx3 := s3 _ _ hpx2
      refine ⟨_, rfl, pc, _, dx, _, _, rfl, hpx3, T.cl_Arc, T.na_Arc_origin, arcF_origin _ _ _ _, _, rfl, d, _, rfl, DGet.k (k := Sum.inl (c.source : Int)) hd, _, rfl, ?_⟩
      cases hv : valV (wsD ws) (Sum.inl (c.source : Int)) with
      | none =>
        refine iteT ⟨_, rfl, ?_⟩
        have hno := wsD_none.mp hv
        obtain ⟨q', hq'⟩ := hT.stop hN.ends hk hx hC (fun hin => absurd hin hno)
        exact back H3 q' s3 hq'
      | some o =>
        have hin : c.source ∈ ws.map Prod.fst := by
          apply Classical.byContradiction
          intro hno
          rw [wsD_none.mpr hno] at hv; cases hv
        refine iteF ?_
        refine ⟨_, rfl, _, rfl, _, rfl, pc, _, dx, _, _, rfl, hpx3, T.cl_Arc, T.na_Arc_origin, arcF_origin _ _ _ _, l2, d, c.target, c.source, _, _, f, ws, rr, rfl, (hA2.same s2).same s3, hN2, hd, hC.back, hin, fun H4 q1 ts p s4 hS hch hap hpl htw => ?_⟩
        refine ⟨_, rfl, (by show 2 ≤ sizeLine; decide), fun tp htp => ⟨(by show 1 ≤ sizeLine; decide), fun lq hlq => ?_⟩⟩
        have s5 : Same H4 (upd (upd H4 tp (.tup [.int (k : Nat), .bl true])) lq (.lst [.ref tp])) := (Same.new htp).trans (Same.new hlq)
        have hqt : tp ≠ lq := ne_of_none upd_same hlq
        have htp5 : upd (upd H4 tp (.tup [.int (k : Nat), .bl true])) lq (.lst [.ref tp]) tp = some (.tup [.int (k : Nat), .bl true]) := by rw [upd_ne hqt]; exact upd_same
        have hlq5 : upd (upd H4 tp (.tup [.int (k : Nat), .bl true])) lq (.lst [.ref tp]) lq = some (.lst [.ref tp]) := upd_same
        generalize upd (upd H4 tp (.tup [.int (k : Nat), .bl true])) lq (.lst [.ref tp]) = H5 at s5 htp5 hlq5 ⊢
        have hS5 := hS.same s5
        refine ⟨q1, lq, _, _, rfl, rfl, hS5.lst, hlq5, (by rw [List.length_map, hS.len]; exact Nat.le_of_lt (Nat.lt_of_le_of_lt (Nat.succ_le_succ hpl) line65)), fun q2 hq2 => ?_⟩
        have hS6 := hS5.more ⟨k, true, c.source, c.target, c.room - x, c.cost⟩ htp5 hq2
        have s6 : Same H2 (upd H5 q2 (.lst (ts.map V.ref ++ [.ref tp]))) := ((s3.trans s4).trans s5).trans (Same.new hq2)
        generalize upd H5 q2 (.lst (ts.map V.ref ++ [.ref tp])) = H6 at hS6 s6 ⊢
        have hzw : NF.IsWay n f ⟨k, true, c.source, c.target, c.room - x, c.cost⟩ := ⟨c, x, hk, hx, Or.inl ⟨rfl, rfl, rfl, rfl, hr0, rfl⟩⟩
        have hall : ∀ y, y ∈ p ++ [(⟨k, true, c.source, c.target, c.room - x, c.cost⟩ : Sf13.Way)] → NF.IsWay n f y := by
          intro y hy
          rcases List.mem_append.1 hy with g | g
          · exact (NF.take_way.1 (hch.all y g)).1
          · simp at g; rw [g]; exact hzw
        have hlen : (p ++ [(⟨k, true, c.source, c.target, c.room - x, c.cost⟩ : Sf13.Way)]).length ≤ 65 := by simp; omega
        have hsum : ((p ++ [(⟨k, true, c.source, c.target, c.room - x, c.cost⟩ : Sf13.Way)]).map Sf13.Way.cost).sum = cc c.source + c.cost := by
          have := NF.chain_cost_tight (p := cc) p c.source hch (fun y hy => hC.tight y (hch.all y hy) (htw y hy))
          rw [hC.zero] at this
          simp [this]
        have hA6 := (hA.same (s1.trans s2)).same s6
        refine ⟨_, rfl, _, rfl, l, q2, as, ts ++ [tp], n, _, rfl, hA6, hS6, fun y hy => (hall y hy).along, hlen, fun H7 s7 => ?_⟩
        rw [hsum]
        refine ⟨_, _, rfl, rfl, _, rfl, ?_⟩
        refine ite2 (fun h2 => ⟨_, rfl, ?_⟩) (fun h2 => ?_)
        · obtain ⟨q', hq'⟩ := hT.stop hN.ends hk hx hC (fun _ => of_decide_eq_true h2)
          exact back H7 q' (s6.trans s7) hq'
        · have hneg : cc c.source + c.cost ≤ 0 := by simp at h2; omega
          refine ⟨_, rfl, _, rfl, _, rfl, _, rfl, _, rfl, l, m, q2, as, ts ++ [tp], n, f, _, rfl, hA6.same s7, SqL.of (s7 _ _ (s6 _ _ hm)), hS6.same s7, hall, by simp, hlen, fun H8 dd s8 hex hle => ?_⟩
          obtain ⟨y0, hy0, hdd⟩ := hex
          have hpos : 0 < dd := by rw [hdd]; exact (hall y0 hy0).room_pos
          obtain ⟨⟨q', hT'⟩, hx'⟩ := hT.sent hN.ends hk hx hr0 hC hch hap htw hneg rfl (Int.le_of_lt hpos) hle
          refine ⟨m, q2, ts ++ [tp], f, _, dd, rfl, SqL.of (s8 _ _ (s7 _ _ (s6 _ _ hm))), (hS6.same s7).same s8, fun y hy => (hall y hy).lt, fun H9 m' s9 hm' => ?_⟩
          exact ⟨m', _, q', x + dd, _, _, rfl, hx', by omega, (((s2.trans s6).trans s7).trans s8).trans s9, hm', hT'⟩
    · have hr0 : c.room ≤ x := by simp at h; omega
      refine ⟨_, rfl, ?_⟩
      exact ret H2 m f q (s1.trans s2) hm hT.flow hT.none hT.zeros (hT.full hk hx hr0)
inductive SpValueSent (a : Adr) (vs : List V) (H : Hp) (Q : VK) : Prop
  | mk (l m : Addr) (s t : Nat) (v : Int) (as : List Addr) (n : Sf13.Abs) (f g : List Int) (q : Nat → Int) (h0 : vs = [.ref l, .ref m, .int s, .int t, .int v]) (h1 : ArcsAt a H l as n) (h2 : H m = some (.lst (f.map V.int))) (h3 : NF.Net12 n) (h4 : s < 64) (h5 : t < 64) (h6 : s ≠ t) (h7 : 0 ≤ v) (h8 : NF.FlowTo n s t f) (h9 : Sf13.out n f s = 0) (h10 : NF.Fair n f q) (h11 : NF.FlowTo n s t g) (h12 : v ≤ Sf13.out n g s) (h13 : ∀ (H' : Hp) (m' : Addr) (f' : List Int) (q' : Nat → Int), Same H H' → H' m' = some (.lst (f'.map V.int)) → NF.FlowTo n s t f' → Sf13.out n f' s = v → NF.Fair n f' q' → Q (.ref m') H') : SpValueSent a vs H Q
noncomputable def spValueSent (a : Adr) : Sp := fun vs H Q _ => SpValueSent a vs H Q
theorem sc_with_value_sent : FnScope ["arcs", "amounts", "s", "t", "value", "left", "steps", "more"] ["arcs", "amounts", "s", "t", "value"] (defScope s_with_value_sent) := ⟨rfl, rfl, rfl, by decide +kernel, rfl, by decide +kernel, by decide +kernel⟩
inductive VsW (l : Addr) (s0 : Nat) (t : Nat) (v : Int) (n : Sf13.Abs) (H : Hp) (r : Nat) (σ : L2.St) (H' : Hp) : Prop
  | mk (m : Addr) (f : List Int) (q : Nat → Int) (left : Int) (v6 v7 : Option V) (h0 : σ = [some (.ref l), some (.ref m), some (.int (s0 : Nat)), some (.int (t : Nat)), some (.int v), some (.int left), v6, v7]) (h1 : r = left.toNat) (h2 : 0 ≤ left) (h3 : Same H H') (h4 : H' m = some (.lst (f.map V.int))) (h5 : NF.FlowTo n s0 t f) (h6 : Sf13.out n f s0 = v - left) (h7 : NF.Fair n f q) : VsW l s0 t v n H r σ H'
inductive VsN (l : Addr) (s0 : Nat) (t : Nat) (v : Int) (n : Sf13.Abs) (H : Hp) (left : Int) (σ' : L2.St) (H' : Hp) : Prop
  | mk (m : Addr) (f : List Int) (q : Nat → Int) (left' : Int) (v6 v7 : Option V) (h0 : σ' = [some (.ref l), some (.ref m), some (.int (s0 : Nat)), some (.int (t : Nat)), some (.int v), some (.int left'), v6, v7]) (h1 : left' < left) (h2 : 0 ≤ left') (h3 : Same H H') (h4 : H' m = some (.lst (f.map V.int))) (h5 : NF.FlowTo n s0 t f) (h6 : Sf13.out n f s0 = v - left') (h7 : NF.Fair n f q) : VsN l s0 t v n H left σ' H'
theorem ok_with_value_sent (T : Txt K mg a) : FnOk P w K mg base CX0 3 a.f_with_value_sent a.d_with_value_sent ["arcs", "amounts", "s", "t", "value"] (spValueSent a) := by
  have GW : FnOk P w K mg base CX0 2 a.f_cheapest_ways a.d_cheapest_ways ["arcs", "amounts", "s"] (spCheap a K) := ok_cheapest_ways T
  have GT : FnOk P w K mg base CX0 2 a.f_steps_to a.d_steps_to ["arcs", "ways", "t"] (spSteps a) := (ok_steps_to T).mono (by decide)
  have GS : FnOk P w K mg base CX0 2 a.f_sent_along a.d_sent_along ["amounts", "steps", "more"] (spSent K) := (ok_sent_along T).mono (by decide)
  have GR : FnOk P w K mg base CX0 2 a.f_room_along a.d_room_along ["arcs", "amounts", "steps"] (spRoomAlong a K) := ok_room_along T
  refine T.D_with_value_sent.F.ok sc_with_value_sent (fun vs H Q E h => ?_) (fun cdv A outer s H vs Q E hr h => ?_)
  · obtain ⟨l, m, s, t, v, as, n, f, g, q, rfl, _⟩ := h
    rfl
  · obtain ⟨l, m0, s0, t, v, as, n, f0, g, q0, rfl, hA, hm0, hN, hs, ht, hst, hv, hf0, ho0, hq0, hg, hvg, ret⟩ := h
    have nd := sc_with_value_sent.nd
    refine ⟨_, pss_cons (ps_set (i := 5) nd rfl (Or.inl rfl) (pv 4))
      (pss_cons (ps_while PassesOwn.never (pt_cmpR op_gt (pv 5) pe_int (nomark _))
        (pss_cons (ps_set (i := 6) nd rfl (Or.inl rfl) (pe_call GT hr rfl T.D_steps_to.m T.D_steps_to.F.kp T.D_steps_to.b .nil pass0 (pa_cons (pv 0) (pa_cons (pe_call GW hr rfl T.D_cheapest_ways.m T.D_cheapest_ways.F.kp T.D_cheapest_ways.b .nil pass0 (pa_cons (pv 0) (pa_cons (pv 1) (pa_cons (pv 2) pa_nil)))) (pa_cons (pv 3) pa_nil)))))
        (pss_cons (ps_set (i := 7) nd rfl (Or.inl rfl) (pe_callB (call_min2 rfl) (by rfl) T.b_min boot_min0 (pa_cons (pv 5) (pa_cons (pe_call GR hr rfl T.D_room_along.m T.D_room_along.F.kp T.D_room_along.b .nil pass0 (pa_cons (pv 0) (pa_cons (pv 1) (pa_cons (pv 6) pa_nil)))) pa_nil))))
        (pss_cons (ps_set (i := 1) nd rfl (Or.inl rfl) (pe_call GS hr rfl T.D_sent_along.m T.D_sent_along.F.kp T.D_sent_along.b .nil pass0 (pa_cons (pv 1) (pa_cons (pv 6) (pa_cons (pv 7) pa_nil)))))
        (pss_one (ps_set (i := 5) nd rfl (Or.inl rfl) (pe_op op_sub (pv 5) (pv 7))))))))
      (pss_one (ps_ret (pv 1)))), ?_⟩
    refine ⟨_, rfl, ?_⟩
    refine ⟨VsW l s0 t v n H,
      ⟨_, m0, f0, q0, v, none, none, rfl, rfl, hv, Same.refl _, hm0, hf0, by omega, hq0⟩, ?_⟩
    clear hm0 hf0 ho0 hq0 m0 f0 q0
    rintro r σ H2 ⟨m, f, q, left, v6, v7, rfl, rfl, hl0, s2, hm, hf, ho, hq⟩
    refine ⟨_, rfl, _, _, rfl, rfl, _, rfl, ?_⟩
    refine ite2 (fun h => ?_) (fun h => ?_)
    · have hpos : 0 < left := of_decide_eq_true h
      refine ⟨VsN l s0 t v n H left,
        fun σ' H' ⟨m, f, q, left', v6, v7, h1, h2, h3, h4, h5, h6, h7, h8⟩ => ⟨left'.toNat, by omega, m, f, q, left', v6, v7, h1, rfl, h3, h4, h5, h6, h7, h8⟩, ?_⟩
      refine ⟨_, rfl, _, rfl, _, rfl, _, rfl, l, m, s0, as, n, f, q, rfl, hA.same s2, SqL.of hm, (by rw [hf.fits.1]; exact Nat.le_refl _), hN, hs, hq, fun H3 d ws cc rr s3 hd hC => ?_⟩
      have hin : t ∈ ws.map Prod.fst := hC.come hN.ends hs ht hst hf hg (by omega)
      refine ⟨_, rfl, l, d, s0, t, as, n, f, ws, rr, rfl, (hA.same s2).same s3, hN, hd, hC.back, hin, fun H4 q1 ts p s4 hS hch hap hpl htw => ?_⟩
      have hpne : p ≠ [] := by
        intro e; subst e
        exact hst hch.symm
      refine ⟨_, rfl, _, rfl, _, rfl, _, rfl, l, m, q1, as, ts, n, f, p, rfl, ((hA.same s2).same s3).same s4, SqL.of (s4 _ _ (s3 _ _ hm)), hS, hch.all, hpne, Nat.le_succ_of_le hpl, fun H5 dd s5 hex hle => ?_⟩
      obtain ⟨y0, hy0, hdd⟩ := hex
      have hdpos : 0 < dd := by rw [hdd]; exact (hch.all y0 hy0).room_pos
      refine ⟨_, _, rfl, ?_⟩
      obtain ⟨more, hmore⟩ : ∃ more : Int, more = if dd < left then dd else left := ⟨_, rfl⟩
      rw [← hmore]
      have hm1 : 0 < more ∧ more ≤ left ∧ more ≤ dd := by
        rw [hmore]; split <;> omega
      obtain ⟨g1, g2, q', g3⟩ := NF.Cheap.sent hN.ends hf hst hq hC hch hap htw (Int.le_of_lt hm1.1) (fun y hy => by have := hle y hy; omega)
      refine ⟨_, rfl, _, rfl, _, rfl, m, q1, ts, f, p, more, rfl, SqL.of (s5 _ _ (s4 _ _ (s3 _ _ hm))), hS.same s5, fun y hy => (hch.all y hy).lt, fun H6 m' s6 hm' => ?_⟩
      refine ⟨_, rfl, _, rfl, _, _, rfl, rfl, ?_⟩
      exact ⟨m', _, q', left - more, _, _, rfl, by omega, by omega, (((s2.trans s3).trans s4).trans s5).trans s6, hm', g1, by omega, g3⟩
    · have hl : left = 0 := by simp at h; omega
      refine ⟨_, rfl, ?_⟩
      exact ret H2 m f q s2 hm hf (by omega) hq
inductive SpLeast (a : Adr) (vs : List V) (H : Hp) (Q : VK) : Prop
  | mk (l : Addr) (s t : Nat) (v : Int) (as : List Addr) (n : Sf13.Abs) (g : List Int) (h0 : vs = [.ref l, .int s, .int t, .int v]) (h1 : ArcsAt a H l as n) (h2 : NF.Net12 n) (h3 : s < 64) (h4 : t < 64) (h5 : s ≠ t) (h6 : 0 ≤ v) (h7 : NF.FlowTo n s t g) (h8 : v ≤ Sf13.out n g s) (h9 : ∀ (H' : Hp) (c : Int), Same H H' → Sf13.cheapestOf n s t v = some c → Q (.int c) H') : SpLeast a vs H Q
noncomputable def spLeast (a : Adr) : Sp := fun vs H Q _ => SpLeast a vs H Q
theorem sc_least_cost : FnScope ["arcs", "s", "t", "value", "amounts", "number", "arc"] ["arcs", "s", "t", "value"] (defScope s_least_cost) := ⟨rfl, rfl, rfl, by decide +kernel, rfl, by decide +kernel, by decide +kernel⟩
theorem blk_least : BlkOk ["arcs", "s", "t", "value", "amounts", "number", "arc"] (defScope s_least_cost) scZero [("arc", 6)] := blkOk_by (by decide +kernel)
inductive LcF (l : Addr) (s0 : Nat) (t : Nat) (v : Int) (n : Sf13.Abs) (H : Hp) (i : Nat) (σ : L2.St) (H' : Hp) : Prop
  | mk (m : Addr) (f : List Int) (q : Nat → Int) (v5 : Option V) (h0 : σ = [some (.ref l), some (.int (s0 : Nat)), some (.int (t : Nat)), some (.int v), some (.ref m), v5, none]) (h1 : Same H H') (h2 : H' m = some (.lst (f.map V.int))) (h3 : NF.FlowTo n s0 t f) (h4 : (∀ u, Sf13.out n f u = 0)) (h5 : (∀ j x, i ≤ j → f[j]? = some x → x = 0)) (h6 : NF.Fair (n.take i) f q) : LcF l s0 t v n H i σ H'
theorem ok_least_cost (T : Txt K mg a) : FnOk P w K mg base CX0 4 a.f_least_cost a.d_least_cost ["arcs", "s", "t", "value"] (spLeast a) := by
  have GA : FnOk P w K mg base CX0 3 a.f_with_arc_taken_in a.d_with_arc_taken_in ["arcs", "amounts", "number"] (spTaken a) := ok_with_arc_taken_in T
  have GV : FnOk P w K mg base CX0 3 a.f_with_value_sent a.d_with_value_sent ["arcs", "amounts", "s", "t", "value"] (spValueSent a) := ok_with_value_sent T
  have GC : FnOk P w K mg base CX0 3 a.f_cost_of a.d_cost_of ["arcs", "amounts"] (spCost a K) := (ok_cost_of T).mono (by decide)
  refine T.D_least_cost.F.ok sc_least_cost (fun vs H Q E h => ?_) (fun cdv A outer s H vs Q E hr h => ?_)
  · obtain ⟨l, s, t, v, as, n, g, rfl, _⟩ := h
    rfl
  · obtain ⟨l, s0, t, v, as, n, g, rfl, hA, hN, hs, ht, hst, hv, hg, hvg, ret⟩ := h
    have nd := sc_least_cost.nd
    refine ⟨_, pss_cons (ps_setLc (i := 4) (own := [("arc", 6)]) (g := gName 6) (tt := tYes) (te := tC (.int 0)) rfl nd rfl rfl (sw_true rfl rfl rfl rfl) (pi_list (pv 0)) blk_least
        (fun _ _ _ _ _ => pg_name (i := 6) nd rfl (Or.inl rfl)) (fun _ _ _ _ _ => pts_nil) (fun _ _ _ _ _ => pe_int))
      (pss_cons (ps_for PassesOwn.never rfl (pi_range1 (by rfl) T.b_range (pa_cons (pe_callB call_len_seq (by rfl) T.b_len PySem.boot_len (pa_cons (pv 0) pa_nil)) pa_nil)) (pg_name (i := 5) nd rfl (Or.inl rfl))
        (pss_one (ps_set (i := 4) nd rfl (Or.inl rfl) (pe_call GA hr rfl T.D_with_arc_taken_in.m T.D_with_arc_taken_in.F.kp T.D_with_arc_taken_in.b .nil pass0 (pa_cons (pv 0) (pa_cons (pv 4) (pa_cons (pv 5) pa_nil)))))))
      (pss_one (ps_ret (pe_call GC hr rfl T.D_cost_of.m T.D_cost_of.F.kp T.D_cost_of.b .nil pass0 (pa_cons (pv 0) (pa_cons (pe_call GV hr rfl T.D_with_value_sent.m T.D_with_value_sent.F.kp T.D_with_value_sent.b .nil pass0 (pa_cons (pv 0) (pa_cons (pv 4) (pa_cons (pv 1) (pa_cons (pv 2) (pa_cons (pv 3) pa_nil)))))) pa_nil)))))), ?_⟩
    refine ⟨_, rfl, l, rfl, ⟨_, SqL.of hA.lst⟩, fun D hD => lc_list (K := K) (a := l) (xs := as.map V.ref)
      (fun i H' => Same H H' ∧ H' D = some (.lst (List.replicate i (V.int 0)))) ⟨Same.new hD, upd_same⟩ (fun i H' _ ⟨s1, _⟩ => SqL.of (s1 _ _ hA.lst)) ?_ ?_⟩
    · rintro i x H' hx ⟨s1, hD'⟩
      have hi : i < as.length := by have := (List.getElem?_eq_some_iff.mp hx).1; simpa using this
      have := hN.few
      have := hA.len
      refine ⟨rfl, _, hD', ?_, fun b' ob hb => ?_, ?_⟩
      · rw [List.length_replicate]; exact Nat.lt_of_le_of_lt (show i ≤ 65 by omega) line65
      · rw [upd_ne (fun e => by subst e; rw [hD] at hb; cases hb)]; exact s1 _ _ hb
      · rw [upd_same, List.replicate_succ']
    rintro H1 ⟨s1, hD1⟩
    have hD2 : H1 D = some (.lst ((Sf13.nothing n).map V.int)) := by
      rw [hD1, nothing_rep, List.map_replicate, List.length_map, hA.len]
    obtain ⟨f0, o0, z0⟩ := NF.nothing_taking (n := n) (s := s0) (t := t) hN.rooms
    have hlen := hN.few
    refine ⟨_, rfl, l, _, rfl, .inl (SqL.of (s1 _ _ hA.lst)), _, rfl, (by rw [List.length_map, hA.len]; omega), (by rw [List.length_map, hA.len]; omega), ?_⟩
    rw [List.length_map, hA.len, Int.toNat_natCast]
    refine for_range (n := n.length)
      (LcF l s0 t v n H)
      ⟨D, _, fun _ => 0, none, rfl, s1, hD2, f0, o0, fun j x _ h => z0 j x h, NF.nothing_fair _ _ _⟩ ?_ ?_
    · rintro i σ H2 hi ⟨m, f, q, v5, rfl, s2, hm, hf, ho, hz, hq⟩
      obtain ⟨c, hc⟩ : ∃ c, n[i]? = some c := ⟨_, List.getElem?_eq_getElem hi⟩
      have e0 : (0 : Int) + (i : Int) = ((i : Nat) : Int) := Int.zero_add _
      rw [e0]
      refine ⟨_, rfl, _, rfl, _, rfl, l, m, i, as, n, c, f, s0, t, q, rfl, hA.same s2, hm, hN, hc, NF.Taking.start hf ho hz hq, fun H3 m' f' q' s3 hm' hf' ho' hz' hq' => ?_⟩
      exact ⟨m', f', q', _, rfl, s2.trans s3, hm', hf', ho', fun j x hj hx => hz' j x hj hx, hq'⟩
    · rintro σ H2 ⟨m, f, q, v5, rfl, s2, hm, hf, ho, hz, hq⟩
      rw [List.take_length] at hq
      refine ⟨_, rfl, _, rfl, _, rfl, _, rfl, _, rfl, _, rfl, l, m, s0, t, v, as, n, f, g, q, rfl, hA.same s2, hm, hN, hs, ht, hst, hv, hf, ho s0, hq, hg, hvg, fun H3 m' f' q' s3 hm' hf' ho' hq' => ?_⟩
      refine ⟨l, m', as, n, f', rfl, (hA.same s2).same s3, SqL.of hm', hf'.fits.1, hN, fun H4 s4 => ?_⟩
      refine ret H4 _ ((s2.trans s3).trans s4) ?_
      rw [← ho']
      exact NF.cheapest_due hN hs ht hst hf' (by rw [ho']; exact hv) hq'
end
end NP
end
section
set_option Elab.async false
set_option maxRecDepth 100000
set_option maxHeartbeats 2000000
namespace NP
open PySem PySem.Spec PyProof.Rows L2
open PySem.W (Codec WData)
section
variable {P : Program} {w : World} {K : PySem.W.Frag} {mg : Str → Option Value} {base : Heap} {a : Adr}
theorem boot_all0 : bootBuiltins "all" = some (.builtin "all") := by decide +kernel
theorem all_map {α : Type} (l : List α) (g : α → Bool) : (l.map g).all id = l.all g := by
  rw [List.all_map]; rfl
noncomputable def fitsRoom (x : Sf13.Arc × Int) : Bool := decide (0 ≤ x.2) && decide (x.2 ≤ x.1.room)
inductive SpWithinCap (a : Adr) (K : PySem.W.Frag) (vs : List V) (H : Hp) (Q : VK) : Prop
  | mk (l m : Addr) (as : List Addr) (n : Sf13.Abs) (f : List Int) (h0 : vs = [.ref l, .ref m]) (h1 : ArcsAt a H l as n) (h2 : SqL K H m (f.map V.int)) (h3 : f.length = n.length) (h4 : n.length ≤ 12) (h5 : ∀ H' : Hp, Same H H' → Q (.bl ((n.zip f).all fitsRoom)) H') : SpWithinCap a K vs H Q
noncomputable def spWithinCap (a : Adr) (K : PySem.W.Frag) : Sp := fun vs H Q _ => SpWithinCap a K vs H Q
theorem sc_are_within_capacities : FnScope ["arcs", "amounts", "arc", "amount"] ["arcs", "amounts"] (defScope s_are_within_capacities) := ⟨rfl, rfl, rfl, by decide +kernel, rfl, by decide +kernel, by decide +kernel⟩
theorem blk_within : BlkOk ["arcs", "amounts", "arc", "amount"] (defScope s_are_within_capacities) scPair [("arc", 2), ("amount", 3)] := blkOk_by (by decide +kernel)
theorem ok_are_within_capacities (T : Txt K mg a) : FnOk P w K mg base CX0 1 a.f_are_within_capacities a.d_are_within_capacities ["arcs", "amounts"] (spWithinCap a K) := by
  refine T.D_are_within_capacities.F.ok sc_are_within_capacities (fun vs H Q E h => ?_) (fun cdv A outer s H vs Q E hr h => ?_)
  · obtain ⟨l, m, as, n, f, rfl, _⟩ := h
    rfl
  · obtain ⟨l, m, as, n, f, rfl, hA, hF, hl, hn, k⟩ := h
    have nd := sc_are_within_capacities.nd
    refine ⟨_, pss_one (ps_ret (pe_callB (cr_all rfl) (by rfl) T.b_all boot_all0 (pa_cons (pe_lc (own := [("arc", 2), ("amount", 3)]) (g := gTup K 2 (gCons (gName 2) (gCons (gName 3) gNil))) (tt := tYes)
        (te := tChain (rI0 fun i j => .bl (decide (i ≤ j))) (rI0 fun i j => .bl (decide (i ≤ j))) (tC (.int 0)) (tVar 3) (tFld K (tVar 2) "capacity")) rfl nd (pi_zip (by rfl) T.b_zip (pa_cons (pv 0) (pa_cons (pv 1) pa_nil))) blk_within
        (fun _ _ _ _ _ => pg_tup rfl (pgs_cons (pg_name (i := 2) nd rfl (Or.inl rfl)) (pgs_cons (pg_name (i := 3) nd rfl (Or.inl rfl)) pgs_nil))) (fun _ _ _ _ _ => pts_nil)
        (fun _ _ _ _ _ => pe_chain op_le op_le pe_int (pv 3) (pe_fld (pv 2) rfl))) pa_nil))), ?_⟩
    refine ⟨_, rfl, _, rfl, l, m, _, _, rfl, SqL.of hA.lst, hF, fun D hD => lc_zip (K := K) (p := l) (r := m) (xs := as.map V.ref) (ys := f.map V.int) (by simp [hA.len, hl])
      (fun i H' => Same H H' ∧ H' D = some (.lst ((((n.zip f).map fitsRoom).take i).map V.bl))) ⟨Same.new hD, upd_same⟩ (fun i H' _ ⟨s1, _⟩ => ⟨SqL.of (s1 _ _ hA.lst), s1.seq hF⟩) ?_ ?_⟩
    · rintro i x y H' Tp hx hy ⟨s1, hD'⟩ hT
      obtain ⟨p, hp, rfl⟩ := getMap hx
      obtain ⟨z, hz, rfl⟩ := getMap hy
      obtain ⟨c, hc⟩ : ∃ c, n[i]? = some c := ⟨_, List.getElem?_eq_getElem (by rw [← hA.len]; exact (List.getElem?_eq_some_iff.mp hp).1)⟩
      obtain ⟨dx, hpx⟩ := hA.at_ i p c hp hc
      have s2 : Same H (upd H' Tp (.tup [.ref p, .int z])) := s1.trans (Same.new hT)
      have hpx2 := s2 _ _ hpx
      have hi : i < 12 := by have := NF.lt_of_get hc; omega
      have hzip : ((n.zip f).map fitsRoom)[i]? = some (fitsRoom (c, z)) := by
        rw [List.getElem?_map, (NF.zip_get n f i c z).2 ⟨hc, hz⟩]; rfl
      have hDT : D ≠ Tp := ne_of_none hD' hT
      have fin : ∀ e : Bool, e = fitsRoom (c, z) → ∃ acc, upd H' Tp (.tup [.ref p, .int z]) D = some (.lst acc) ∧ acc.length < sizeLine ∧ (Same H (upd (upd H' Tp (.tup [.ref p, .int z])) D (.lst (acc ++ [.bl e]))) ∧ upd (upd H' Tp (.tup [.ref p, .int z])) D (.lst (acc ++ [.bl e])) D = some (.lst ((((n.zip f).map fitsRoom).take (i + 1)).map V.bl))) := by
        rintro e rfl
        refine ⟨_, by rw [upd_ne hDT]; exact hD', ?_, fun b' ob hb => ?_, ?_⟩
        · rw [List.length_map, List.length_take]; exact Nat.lt_of_le_of_lt (show _ ≤ 65 by omega) line65
        · rw [upd_ne (fun e => by subst e; rw [hD] at hb; cases hb)]; exact s2 _ _ hb
        · rw [upd_same, NF.take_snoc hzip, List.map_append]; rfl
      refine ⟨Tp, _, rfl, SqT.of upd_same, rfl, _, _, rfl, _, _, rfl, rfl, rfl, ?_⟩
      refine ⟨_, rfl, _, _, rfl, rfl, _, rfl, ?_⟩
      refine ite2 (fun h => ⟨_, rfl, p, _, dx, _, _, rfl, hpx2, T.cl_Arc, T.na_Arc_capacity, arcF_capacity _ _ _ _, _, _, rfl, rfl, fin _ ?_⟩) (fun h => fin _ ?_)
      · unfold fitsRoom; rw [h]; rfl
      · unfold fitsRoom
        rw [(by simpa using h : decide (0 ≤ z) = false)]; rfl
    rintro H1 ⟨s1, hD1⟩
    rw [List.take_of_length_le (by simp [hA.len, hl])] at hD1
    refine ⟨D, _, rfl, SqL.of hD1, ?_⟩
    rw [all_map]
    exact k H1 s1
noncomputable def evenAt (n : Sf13.Abs) (s t : Nat) (f : List Int) (v : Nat) : Bool := v == s || (v == t || Sf13.out n f v == 0)
theorem isFlow_eq (n : Sf13.Abs) (s t : Nat) (f : List Int) : Sf13.isFlow n s t f = (f.length == n.length && ((n.zip f).all fitsRoom && (List.range 64).all (evenAt n s t f))) := rfl
inductive SpIsFlow (a : Adr) (K : PySem.W.Frag) (vs : List V) (H : Hp) (Q : VK) : Prop
  | mk (l m : Addr) (s t : Nat) (as : List Addr) (n : Sf13.Abs) (f : List Int) (h0 : vs = [.ref l, .ref m, .int s, .int t]) (h1 : ArcsAt a H l as n) (h2 : SqL K H m (f.map V.int)) (h3 : n.length ≤ 12) (h4 : ∀ H' : Hp, Same H H' → Q (.bl (Sf13.isFlow n s t f)) H') : SpIsFlow a K vs H Q
noncomputable def spIsFlow (a : Adr) (K : PySem.W.Frag) : Sp := fun vs H Q _ => SpIsFlow a K vs H Q
theorem sc_is_flow : FnScope ["arcs", "amounts", "s", "t", "node"] ["arcs", "amounts", "s", "t"] (defScope s_is_flow) := ⟨rfl, rfl, rfl, by decide +kernel, rfl, by decide +kernel, by decide +kernel⟩
noncomputable def scEven : Scope := { kind := .function, names := [(".0", .local), ("node", .local), ("value_of", .globalImplicit), ("amounts", .free), ("arcs", .free), ("s", .free), ("t", .free)], isGenerator := false, isCoroutine := false }
theorem blk_even : BlkOk ["arcs", "amounts", "s", "t", "node"] (defScope s_is_flow) scEven [("node", 4)] := blkOk_by (by decide +kernel)
theorem ok_is_flow (T : Txt K mg a) : FnOk P w K mg base CX0 2 a.f_is_flow a.d_is_flow ["arcs", "amounts", "s", "t"] (spIsFlow a K) := by
  have GC : FnOk P w K mg base CX0 1 a.f_are_within_capacities a.d_are_within_capacities ["arcs", "amounts"] (spWithinCap a K) := ok_are_within_capacities T
  have GV : FnOk P w K mg base CX0 1 a.f_value_of a.d_value_of ["arcs", "amounts", "node"] (spValue a K) := ok_value_of T
  refine T.D_is_flow.F.ok sc_is_flow (fun vs H Q E h => ?_) (fun cdv A outer s H vs Q E hr h => ?_)
  · obtain ⟨l, m, s, t, as, n, f, rfl, _⟩ := h
    rfl
  · obtain ⟨l, m, s0, t, as, n, f, rfl, hA, hF, hn, k⟩ := h
    have nd := sc_is_flow.nd
    obtain ⟨u, ru, hu⟩ := T.k_NODES
    rw [isFlow_eq] at k
    refine ⟨_, pss_cons (ps_if (pt_cmpR op_ne (pe_callB call_len_seq (by rfl) T.b_len PySem.boot_len (pa_cons (pv 1) pa_nil)) (pe_callB call_len_seq (by rfl) T.b_len PySem.boot_len (pa_cons (pv 0) pa_nil)) (nomark _)) (pss_one (ps_ret pe_bl)) pss_nil)
      (pss_cons (ps_if (pt_not (pt_val (pe_call GC hr rfl T.D_are_within_capacities.m T.D_are_within_capacities.F.kp T.D_are_within_capacities.b .nil pass0 (pa_cons (pv 0) (pa_cons (pv 1) pa_nil))))) (pss_one (ps_ret pe_bl)) pss_nil)
      (pss_one (ps_ret (pe_callB (cr_all rfl) (by rfl) T.b_all boot_all0 (pa_cons (pe_lc (own := [("node", 4)]) (g := gName 4) (tt := tAnd (tTest (tOp rNe (tVar 4) (tVar 2))) (tTest (tOp rNe (tVar 4) (tVar 3))))
        (te := tOp rEq (tCall (spValue a K) [] E0 (tCons (tVar 0) (tCons (tVar 1) (tCons (tVar 4) tNil)))) (tC (.int 0))) rfl nd (pi_range1 (by rfl) T.b_range (pa_cons (pe_glob rfl hu ru) pa_nil)) blk_even
        (fun _ _ _ _ _ => pg_name (i := 4) nd rfl (Or.inl rfl)) (fun _ _ _ _ _ => pts_one (PW.pt (pw_and (pt_cmpR op_ne (pv 4) (pv 2) (nomark _)) (pw_and1 (pt_cmpR op_ne (pv 4) (pv 3) (nomark _))))))
        (fun _ _ _ _ _ => pe_cmpR op_eq (pe_call GV hr rfl T.D_value_of.m T.D_value_of.F.kp T.D_value_of.b .nil pass0 (pa_cons (pv 0) (pa_cons (pv 1) (pa_cons (pv 4) pa_nil)))) pe_int (nomark _))) pa_nil))))), ?_⟩
    refine ⟨_, rfl, m, _, rfl, .inl hF, _, rfl, l, _, rfl, .inl (SqL.of hA.lst), rfl, _, rfl, ?_⟩
    rw [List.length_map, List.length_map, hA.len, dec_nat]
    refine ite2 (fun h => ?_) (fun h => ?_)
    · have e : (f.length == n.length) = false := by simp at h; simpa using h
      rw [e, Bool.false_and] at k
      exact k H (Same.refl H)
    have hl : f.length = n.length := by simpa using h
    have e : (f.length == n.length) = true := by simpa using hl
    rw [e, Bool.true_and] at k
    clear e h
    refine ⟨_, rfl, _, rfl, l, m, as, n, f, rfl, hA, hF, hl, hn, fun H1 s1 => ⟨_, rfl, ?_⟩⟩
    refine ite2 (fun h => ?_) (fun h => ?_)
    · have e : (n.zip f).all fitsRoom = false := by simpa using h
      rw [e, Bool.false_and] at k
      exact k H1 s1
    have e : (n.zip f).all fitsRoom = true := by simpa using h
    rw [e, Bool.true_and] at k
    clear e h
    refine ⟨64, rfl, by decide, by decide, fun D hD => lc_range (lo := 0) (n := 64)
      (fun i H' => Same H H' ∧ ∃ bs : List Bool, H' D = some (.lst (bs.map V.bl)) ∧ bs.length ≤ i ∧ bs.all id = (List.range i).all (evenAt n s0 t f)) ⟨s1.trans (Same.new hD), [], upd_same, by simp, rfl⟩ ?_ ?_⟩
    · rintro i H' hi ⟨s2, bs, hD', hbl, hba⟩
      have e0 : (0 : Int) + (i : Int) = ((i : Nat) : Int) := Int.zero_add _
      rw [e0]
      have skip : evenAt n s0 t f i = true → Same H H' ∧ ∃ bs : List Bool, H' D = some (.lst (bs.map V.bl)) ∧ bs.length ≤ i + 1 ∧ bs.all id = (List.range (i + 1)).all (evenAt n s0 t f) := by
        intro he
        refine ⟨s2, bs, hD', by omega, ?_⟩
        rw [List.range_succ, List.all_append, hba]
        simp [he]
      refine ⟨rfl, ?_⟩
      refine ⟨_, rfl, _, rfl, rfl, _, rfl, ?_⟩
      rw [dec_nat]
      refine ite2 (fun h => ?_) (fun h => ?_)
      · refine ⟨_, rfl, _, rfl, rfl, _, rfl, ?_⟩
        rw [dec_nat]
        refine ite2 (fun h2 => ?_) (fun h2 => ?_)
        · have h' : i ≠ s0 := by simpa using h
          have h2' : i ≠ t := by simpa using h2
          refine ⟨_, rfl, _, rfl, _, rfl, l, m, i, as, n, f, rfl, hA.same s2, s2.seq hF, hl, fun H3 s3 => ⟨rfl, ?_⟩⟩
          rw [dec_int]
          refine ⟨_, s3 _ _ hD', ?_, fun b' ob hb => ?_, bs ++ [Sf13.out n f i == 0], ?_, ?_, ?_⟩
          · rw [List.length_map]; exact Nat.lt_of_le_of_lt (show _ ≤ 65 by omega) line65
          · have hDH : H D = none := s1.free hD
            rw [upd_ne (fun e => by subst e; rw [hDH] at hb; cases hb)]; exact s3 _ _ (s2 _ _ hb)
          · rw [upd_same, List.map_append]; rfl
          · simp; omega
          · rw [List.range_succ, List.all_append, List.all_append, hba]
            congr 1
            have b1 : (i == s0) = false := beq_eq_false_iff_ne.mpr h'
            have b2 : (i == t) = false := beq_eq_false_iff_ne.mpr h2'
            simp only [List.all_cons, List.all_nil, evenAt, b1, b2, Bool.false_or, Bool.and_true, id]
        · refine skip ?_
          have h2' : i = t := by simpa using h2
          simp [evenAt, h2']
      · refine iteF (skip ?_)
        have h' : i = s0 := by simpa using h
        simp [evenAt, h']
    rintro H2 ⟨s2, bs, hD2, _, hba⟩
    refine ⟨D, bs, rfl, SqL.of hD2, ?_⟩
    rw [hba]
    exact k H2 s2
theorem padded_eq (ps : List Int) : Sf13.padded ps = ps ++ List.replicate (64 - ps.length) 0 := rfl
inductive SpEvery (vs : List V) (H : Hp) (Q : VK) : Prop
  | mk (pp : Addr) (ps : List Int) (h0 : vs = [.ref pp]) (h1 : H pp = some (.lst (ps.map V.int))) (h2 : ps.length ≤ 64) (h3 : ∀ (H' : Hp) (x : Addr), Same H H' → H' x = some (.lst ((Sf13.padded ps).map V.int)) → Q (.ref x) H') : SpEvery vs H Q
noncomputable def spEvery : Sp := fun vs H Q _ => SpEvery vs H Q
theorem sc_every_price : FnScope ["prices", "node"] ["prices"] (defScope s_every_price) := ⟨rfl, rfl, rfl, by decide +kernel, rfl, by decide +kernel, by decide +kernel⟩
noncomputable def scNode : Scope := { kind := .function, names := [(".0", .local), ("node", .local)], isGenerator := false, isCoroutine := false }
theorem blk_every : BlkOk ["prices", "node"] (defScope s_every_price) scNode [("node", 1)] := blkOk_by (by decide +kernel)
theorem ok_every_price (T : Txt K mg a) : FnOk P w K mg base CX0 1 a.f_every_price a.d_every_price ["prices"] spEvery := by
  refine T.D_every_price.F.ok sc_every_price (fun vs H Q E h => ?_) (fun cdv A outer s H vs Q E hr h => ?_)
  · obtain ⟨pp, ps, rfl, _⟩ := h
    rfl
  · obtain ⟨pp, ps, rfl, hp, hl, k⟩ := h
    have nd := sc_every_price.nd
    obtain ⟨u, ru, hu⟩ := T.k_NODES
    refine ⟨_, pss_one (ps_ret (pe_op op_cat (pv 0) (pe_lc (own := [("node", 1)]) (g := gName 1) (tt := tYes) (te := tC (.int 0)) rfl nd
        (pi_range2 (by rfl) T.b_range (pa_cons (pe_callB call_len_seq (by rfl) T.b_len PySem.boot_len (pa_cons (pv 0) pa_nil)) (pa_cons (pe_glob rfl hu ru) pa_nil))) blk_every
        (fun _ _ _ _ _ => pg_name (i := 1) nd rfl (Or.inl rfl)) (fun _ _ _ _ _ => pts_nil) (fun _ _ _ _ _ => pe_int)))), ?_⟩
    refine ⟨_, rfl, _, rfl, pp, _, rfl, .inl (SqL.of hp), _, _, rfl, ⟨by omega, by rw [List.length_map]; omega, by decide, by decide⟩, fun D hD => ?_⟩
    rw [List.length_map]
    have en : ((64 : Int) - ((ps.length : Nat) : Int)).toNat = 64 - ps.length := by omega
    rw [en]
    refine lc_range (n := 64 - ps.length) (fun i H' => Same H H' ∧ H' D = some (.lst (List.replicate i (V.int 0)))) ⟨Same.new hD, upd_same⟩ ?_ ?_
    · rintro i H' hi ⟨s1, hD'⟩
      refine ⟨rfl, _, hD', ?_, fun b' ob hb => ?_, ?_⟩
      · rw [List.length_replicate]; exact Nat.lt_of_le_of_lt (show i ≤ 65 by omega) line65
      · rw [upd_ne (fun e => by subst e; rw [hD] at hb; cases hb)]; exact s1 _ _ hb
      · rw [upd_same, List.replicate_succ']
    rintro H1 ⟨s1, hD1⟩
    refine ⟨pp, D, _, _, rfl, rfl, s1 _ _ hp, hD1, (by rw [List.length_map, List.length_replicate]; exact Nat.le_of_lt (Nat.lt_of_le_of_lt (show _ ≤ 65 by omega) line65)), fun x hx => ?_⟩
    refine k _ x (s1.trans (Same.new hx)) ?_
    rw [upd_same, padded_eq, List.map_append, List.map_replicate]
noncomputable def fitsPrice (x : Int) : Bool := decide (-Sf13.HIGHEST ≤ x) && decide (x ≤ Sf13.HIGHEST)
inductive SpPriceBounds (K : PySem.W.Frag) (vs : List V) (H : Hp) (Q : VK) : Prop
  | mk (pp : Addr) (ps : List Int) (h0 : vs = [.ref pp]) (h1 : SqL K H pp (ps.map V.int)) (h2 : ps.length ≤ 64) (h3 : ∀ H' : Hp, Same H H' → Q (.bl (ps.all fitsPrice)) H') : SpPriceBounds K vs H Q
noncomputable def spPriceBounds (K : PySem.W.Frag) : Sp := fun vs H Q _ => SpPriceBounds K vs H Q
theorem sc_are_prices_within_bounds : FnScope ["prices", "price"] ["prices"] (defScope s_are_prices_within_bounds) := ⟨rfl, rfl, rfl, by decide +kernel, rfl, by decide +kernel, by decide +kernel⟩
noncomputable def scPrice : Scope := { kind := .function, names := [(".0", .local), ("price", .local), ("MOST_PRICE", .globalImplicit)], isGenerator := false, isCoroutine := false }
theorem blk_price : BlkOk ["prices", "price"] (defScope s_are_prices_within_bounds) scPrice [("price", 1)] := blkOk_by (by decide +kernel)
theorem ok_are_prices_within_bounds (T : Txt K mg a) : FnOk P w K mg base CX0 1 a.f_are_prices_within_bounds a.d_are_prices_within_bounds ["prices"] (spPriceBounds K) := by
  refine T.D_are_prices_within_bounds.F.ok sc_are_prices_within_bounds (fun vs H Q E h => ?_) (fun cdv A outer s H vs Q E hr h => ?_)
  · obtain ⟨pp, ps, rfl, _⟩ := h
    rfl
  · obtain ⟨pp, ps, rfl, hp, hl, k⟩ := h
    have nd := sc_are_prices_within_bounds.nd
    obtain ⟨u, ru, hu⟩ := T.k_MOST_PRICE
    refine ⟨_, pss_one (ps_ret (pe_callB (cr_all rfl) (by rfl) T.b_all boot_all0 (pa_cons (pe_lc (own := [("price", 1)]) (g := gName 1) (tt := tYes)
        (te := tChain (rI0 fun i j => .bl (decide (i ≤ j))) (rI0 fun i j => .bl (decide (i ≤ j))) (tUn (rU fun i => .int (-i)) (tC (.int 1000000000000))) (tVar 1) (tC (.int 1000000000000))) rfl nd (pi_list (pv 0)) blk_price
        (fun _ _ _ _ _ => pg_name (i := 1) nd rfl (Or.inl rfl)) (fun _ _ _ _ _ => pts_nil)
        (fun _ _ _ _ _ => pe_chain op_le op_le (pe_un un_neg (pe_glob rfl hu ru)) (pv 1) (pe_glob rfl hu ru))) pa_nil))), ?_⟩
    refine ⟨_, rfl, pp, rfl, ⟨_, hp⟩, fun D hD => lc_list (K := K) (a := pp) (xs := ps.map V.int)
      (fun i H' => Same H H' ∧ H' D = some (.lst (((ps.map fitsPrice).take i).map V.bl))) ⟨Same.new hD, upd_same⟩ (fun i H' _ ⟨s1, _⟩ => s1.seq hp) ?_ ?_⟩
    · rintro i x H' hx ⟨s1, hD'⟩
      obtain ⟨z, hz, rfl⟩ := getMap hx
      have hi : i < 64 := by have := (List.getElem?_eq_some_iff.mp hz).1; omega
      have hzm : (ps.map fitsPrice)[i]? = some (fitsPrice z) := by rw [List.getElem?_map, hz]; rfl
      have fin : ∀ e : Bool, e = fitsPrice z → ∃ acc, H' D = some (.lst acc) ∧ acc.length < sizeLine ∧ (Same H (upd H' D (.lst (acc ++ [.bl e]))) ∧ upd H' D (.lst (acc ++ [.bl e])) D = some (.lst (((ps.map fitsPrice).take (i + 1)).map V.bl))) := by
        rintro e rfl
        refine ⟨_, hD', ?_, fun b' ob hb => ?_, ?_⟩
        · rw [List.length_map, List.length_take]; exact Nat.lt_of_le_of_lt (show _ ≤ 65 by omega) line65
        · rw [upd_ne (fun e => by subst e; rw [hD] at hb; cases hb)]; exact s1 _ _ hb
        · rw [upd_same, NF.take_snoc hzm, List.map_append]; rfl
      refine ⟨rfl, ?_⟩
      refine ⟨_, rfl, _, rfl, _, _, rfl, rfl, _, rfl, ?_⟩
      refine ite2 (fun h => ⟨_, _, rfl, rfl, fin _ ?_⟩) (fun h => fin _ ?_)
      · show decide (z ≤ 1000000000000) = (decide (-1000000000000 ≤ z) && decide (z ≤ 1000000000000))
        rw [h]; rfl
      · show false = (decide (-1000000000000 ≤ z) && decide (z ≤ 1000000000000))
        rw [(by simpa using h : decide (-1000000000000 ≤ z) = false)]; rfl
    rintro H1 ⟨s1, hD1⟩
    rw [List.take_of_length_le (by simp)] at hD1
    refine ⟨D, _, rfl, SqL.of hD1, ?_⟩
    rw [all_map]
    exact k H1 s1
noncomputable def fitsCost (ps : List Int) (x : Sf13.Arc × Int) : Bool := (decide (x.1.room ≤ x.2) || decide (ps.getD x.1.target 0 - ps.getD x.1.source 0 ≤ x.1.cost)) && (x.2 == 0 || decide (x.1.cost ≤ ps.getD x.1.target 0 - ps.getD x.1.source 0))
theorem isProof_eq (n : Sf13.Abs) (s : Nat) (f ps : List Int) : Sf13.isProof n s f ps = (ps.length == 64 && (ps.getD s 1 == 0 && (ps.all fitsPrice && (n.zip f).all (fitsCost ps)))) := rfl
inductive SpFitting (a : Adr) (K : PySem.W.Frag) (vs : List V) (H : Hp) (Q : VK) : Prop
  | mk (p m : Addr) (x : Sf13.Arc) (z : Int) (ps : List Int) (h0 : vs = [.ref p, .int z, .ref m]) (h1 : ArcAt a H p x) (h2 : SqL K H m (ps.map V.int)) (h3 : x.source < ps.length) (h4 : x.target < ps.length) (h5 : Q (.bl (fitsCost ps (x, z))) H) : SpFitting a K vs H Q
noncomputable def spFitting (a : Adr) (K : PySem.W.Frag) : Sp := fun vs H Q _ => SpFitting a K vs H Q
theorem sc_is_cost_fitting : FnScope ["arc", "amount", "prices", "rise"] ["arc", "amount", "prices"] (defScope s_is_cost_fitting) := ⟨rfl, rfl, rfl, by decide +kernel, rfl, by decide +kernel, by decide +kernel⟩
theorem ok_is_cost_fitting (T : Txt K mg a) : FnOk P w K mg base CX0 1 a.f_is_cost_fitting a.d_is_cost_fitting ["arc", "amount", "prices"] (spFitting a K) := by
  refine T.D_is_cost_fitting.F.ok sc_is_cost_fitting (fun vs H Q E h => ?_) (fun cdv A outer s H vs Q E hr h => ?_)
  · obtain ⟨p, m, x, z, ps, rfl, _⟩ := h
    rfl
  · obtain ⟨p, m, x, z, ps, rfl, ⟨dx, hp⟩, hm, hxs, hxt, k⟩ := h
    have nd := sc_is_cost_fitting.nd
    refine ⟨_, pss_cons (ps_set (i := 3) nd rfl (Or.inl rfl) (pe_op op_sub (pe_ix ix_list (pv 2) (pe_fld (pv 0) rfl) (fun _ _ => rfl)) (pe_ix ix_list (pv 2) (pe_fld (pv 0) rfl) (fun _ _ => rfl))))
      (pss_cons (ps_if (PW.pt (pw_and (pt_cmpR op_lt (pv 1) (pe_fld (pv 0) rfl) (nomark _)) (pw_and1 (pt_cmpR op_lt (pe_fld (pv 0) rfl) (pv 3) (nomark _))))) (pss_one (ps_ret pe_bl)) pss_nil)
      (pss_one (ps_ret (pe_or (pe_cmpR op_eq (pv 1) pe_int (nomark _)) (pe_one (pe_cmpR op_le (pe_fld (pv 0) rfl) (pv 3) (nomark _))))))), ?_⟩
    obtain ⟨ys, hys⟩ : ∃ y, ps[x.source]? = some y := ⟨_, List.getElem?_eq_getElem hxs⟩
    obtain ⟨yt, hyt⟩ : ∃ y, ps[x.target]? = some y := ⟨_, List.getElem?_eq_getElem hxt⟩
    have e : fitsCost ps (x, z) = ((decide (x.room ≤ z) || decide (yt - ys ≤ x.cost)) && (z == 0 || decide (x.cost ≤ yt - ys))) := by
      unfold fitsCost
      simp [List.getD, hys, hyt]
    rw [e] at k
    refine ⟨_, rfl, _, rfl, p, _, dx, _, _, rfl, hp, T.cl_Arc, T.na_Arc_goal, arcF_goal _ _ _ _, m, _, _, _, rfl, rfl, hm, atI_nat (mapGet hyt), _, rfl, _, rfl, p, _, dx, _, _, rfl, hp, T.cl_Arc, T.na_Arc_origin, arcF_origin _ _ _ _, m, _, _, _, rfl, rfl, hm, atI_nat (mapGet hys), _, _, rfl, rfl, ?_⟩
    refine ⟨_, rfl, _, rfl, p, _, dx, _, _, rfl, hp, T.cl_Arc, T.na_Arc_capacity, arcF_capacity _ _ _ _, _, _, rfl, rfl, _, rfl, ?_⟩
    refine and_then (fun h => ⟨_, rfl, p, _, dx, _, _, rfl, hp, T.cl_Arc, T.na_Arc_cost, arcF_cost _ _ _ _, _, rfl, _, _, rfl, rfl, _, rfl, h⟩) (fun h1 h2 => ?_) (fun h => ?_)
    · have h1' := of_decide_eq_true h1
      have h2' := of_decide_eq_true h2
      rw [decide_eq_false (by omega : ¬ x.room ≤ z), decide_eq_false (by omega : ¬ yt - ys ≤ x.cost)] at k
      exact k
    · have hfit : (decide (x.room ≤ z) || decide (yt - ys ≤ x.cost)) = true := by
        rw [Bool.and_eq_false_iff] at h
        rw [Bool.or_eq_true]
        rcases h with h | h
        · left; have := of_decide_eq_false h; exact decide_eq_true (by omega)
        · right; have := of_decide_eq_false h; exact decide_eq_true (by omega)
      rw [hfit, Bool.true_and] at k
      refine ⟨_, rfl, rfl, _, rfl, ?_⟩
      rw [dec_int]
      refine ite2 (fun h2 => ?_) (fun h2 => ?_)
      · rw [h2, Bool.true_or] at k; exact k
      · rw [(by simpa using h2 : (z == 0) = false), Bool.false_or] at k
        exact ⟨_, rfl, p, _, dx, _, _, rfl, hp, T.cl_Arc, T.na_Arc_cost, arcF_cost _ _ _ _, _, rfl, _, _, rfl, rfl, k⟩
inductive SpGoWith (a : Adr) (K : PySem.W.Frag) (vs : List V) (H : Hp) (Q : VK) : Prop
  | mk (l m pp : Addr) (s : Nat) (as : List Addr) (n : Sf13.Abs) (f ps : List Int) (h0 : vs = [.ref l, .ref m, .ref pp, .int s]) (h1 : ArcsAt a H l as n) (h2 : SqL K H m (f.map V.int)) (h3 : H pp = some (.lst (ps.map V.int))) (h4 : NF.Net12 n) (h5 : f.length = n.length) (h6 : s < 64) (h7 : ps.length ≤ 64) (h8 : ∀ H' : Hp, Same H H' → Q (.bl (Sf13.isProof n s f (Sf13.padded ps))) H') : SpGoWith a K vs H Q
noncomputable def spGoWith (a : Adr) (K : PySem.W.Frag) : Sp := fun vs H Q _ => SpGoWith a K vs H Q
theorem sc_prices_go_with : FnScope ["arcs", "amounts", "prices", "s", "told", "arc", "amount"] ["arcs", "amounts", "prices", "s"] (defScope s_prices_go_with) := ⟨rfl, rfl, rfl, by decide +kernel, rfl, by decide +kernel, by decide +kernel⟩
noncomputable def scTold : Scope := { kind := .function, names := [(".0", .local), ("arc", .local), ("amount", .local), ("is_cost_fitting", .globalImplicit), ("told", .free)], isGenerator := false, isCoroutine := false }
theorem blk_told : BlkOk ["arcs", "amounts", "prices", "s", "told", "arc", "amount"] (defScope s_prices_go_with) scTold [("arc", 5), ("amount", 6)] := blkOk_by (by decide +kernel)
theorem ok_prices_go_with (T : Txt K mg a) : FnOk P w K mg base CX0 2 a.f_prices_go_with a.d_prices_go_with ["arcs", "amounts", "prices", "s"] (spGoWith a K) := by
  have GE : FnOk P w K mg base CX0 1 a.f_every_price a.d_every_price ["prices"] spEvery := ok_every_price T
  have GB : FnOk P w K mg base CX0 1 a.f_are_prices_within_bounds a.d_are_prices_within_bounds ["prices"] (spPriceBounds K) := ok_are_prices_within_bounds T
  have GF : FnOk P w K mg base CX0 1 a.f_is_cost_fitting a.d_is_cost_fitting ["arc", "amount", "prices"] (spFitting a K) := ok_is_cost_fitting T
  refine T.D_prices_go_with.F.ok sc_prices_go_with (fun vs H Q E h => ?_) (fun cdv A outer s H vs Q E hr h => ?_)
  · obtain ⟨l, m, pp, s, as, n, f, ps, rfl, _⟩ := h
    rfl
  · obtain ⟨l, m, pp, s0, as, n, f, ps, rfl, hA, hF, hP, hN, hl, hs, hpl, k⟩ := h
    have nd := sc_prices_go_with.nd
    have hlen : (Sf13.padded ps).length = 64 := by rw [padded_eq]; simp; omega
    rw [isProof_eq, hlen, show ((64 : Nat) == 64) = true from rfl, Bool.true_and] at k
    refine ⟨_, pss_cons (ps_set (i := 4) nd rfl (Or.inr rfl) (pe_call GE hr rfl T.D_every_price.m T.D_every_price.F.kp T.D_every_price.b .nil pass0 (pa_cons (pv 2) pa_nil)))
      (pss_cons (ps_if (PW.pt (pw_or (pt_cmpR op_ne (pe_ix ix_list (pv 4) (pv 3) (fun _ _ => rfl)) pe_int (nomark _)) (pw_or1 (pt_not (pt_val (pe_call GB hr rfl T.D_are_prices_within_bounds.m T.D_are_prices_within_bounds.F.kp T.D_are_prices_within_bounds.b .nil pass0 (pa_cons (pv 4) pa_nil))))))) (pss_one (ps_ret pe_bl)) pss_nil)
      (pss_one (ps_ret (pe_callB (cr_all rfl) (by rfl) T.b_all boot_all0 (pa_cons (pe_lc (own := [("arc", 5), ("amount", 6)]) (g := gTup K 2 (gCons (gName 5) (gCons (gName 6) gNil))) (tt := tYes)
        (te := tCall (spFitting a K) [] E0 (tCons (tVar 5) (tCons (tVar 6) (tCons (tVar 4) tNil)))) rfl nd (pi_zip (by rfl) T.b_zip (pa_cons (pv 0) (pa_cons (pv 1) pa_nil))) blk_told
        (fun _ _ _ _ _ => pg_tup rfl (pgs_cons (pg_name (i := 5) nd rfl (Or.inl rfl)) (pgs_cons (pg_name (i := 6) nd rfl (Or.inl rfl)) pgs_nil))) (fun _ _ _ _ _ => pts_nil)
        (fun _ _ _ _ _ => pe_call GF hr rfl T.D_is_cost_fitting.m T.D_is_cost_fitting.F.kp T.D_is_cost_fitting.b .nil pass0 (pa_cons (pv 5) (pa_cons (pv 6) (pa_cons (pv 4) pa_nil))))) pa_nil))))), ?_⟩
    refine ⟨_, rfl, pp, ps, rfl, hP, hpl, fun H1 x s1 hx => ?_⟩
    obtain ⟨z0, hz0⟩ : ∃ z, (Sf13.padded ps)[s0]? = some z := ⟨_, List.getElem?_eq_getElem (by rw [hlen]; exact hs)⟩
    have eg : (Sf13.padded ps).getD s0 1 = z0 := by simp [List.getD, hz0]
    rw [eg] at k
    refine ⟨_, rfl, _, rfl, x, _, _, _, rfl, rfl, SqL.of hx, atI_nat (mapGet hz0), rfl, _, rfl, ?_⟩
    rw [dec_int]
    refine ite2 (fun h => ?_) (fun h => ?_)
    · have e : (z0 == 0) = false := by simpa using h
      rw [e, Bool.false_and] at k
      exact iteT (k H1 s1)
    have e : (z0 == 0) = true := by simpa using h
    rw [e, Bool.true_and] at k
    clear e h
    refine ⟨_, rfl, x, _, rfl, SqL.of hx, by omega, fun H2 s2 => ⟨_, rfl, ?_⟩⟩
    refine ite2 (fun h => ?_) (fun h => ?_)
    · have e : (Sf13.padded ps).all fitsPrice = false := by simpa using h
      rw [e, Bool.false_and] at k
      exact k H2 (s1.trans s2)
    have e : (Sf13.padded ps).all fitsPrice = true := by simpa using h
    rw [e, Bool.true_and] at k
    clear e h
    have s12 := s1.trans s2
    have hx2 := s2 _ _ hx
    generalize Sf13.padded ps = pd at *
    refine ⟨_, rfl, _, rfl, l, m, _, _, rfl, SqL.of (s12 _ _ hA.lst), s12.seq hF, fun D hD => lc_zip (K := K) (p := l) (r := m) (xs := as.map V.ref) (ys := f.map V.int) (by simp [hA.len, hl])
      (fun i H' => Same H2 H' ∧ H' D = some (.lst ((((n.zip f).map (fitsCost pd)).take i).map V.bl))) ⟨Same.new hD, upd_same⟩ (fun i H' _ ⟨s3, _⟩ => ⟨SqL.of (s3 _ _ (s12 _ _ hA.lst)), (s12.trans s3).seq hF⟩) ?_ ?_⟩
    · rintro i x1 y H' Tp hx1 hy ⟨s3, hD'⟩ hT
      obtain ⟨p, hp, rfl⟩ := getMap hx1
      obtain ⟨z, hz, rfl⟩ := getMap hy
      obtain ⟨c, hc⟩ : ∃ c, n[i]? = some c := ⟨_, List.getElem?_eq_getElem (by rw [← hA.len]; exact (List.getElem?_eq_some_iff.mp hp).1)⟩
      have hAt := hA.at_ i p c hp hc
      have s4 : Same H2 (upd H' Tp (.tup [.ref p, .int z])) := s3.trans (Same.new hT)
      have hi : i < 12 := by have := NF.lt_of_get hc; have := hN.few; omega
      have hzip : ((n.zip f).map (fitsCost pd))[i]? = some (fitsCost pd (c, z)) := by
        rw [List.getElem?_map, (NF.zip_get n f i c z).2 ⟨hc, hz⟩]; rfl
      have hDT : D ≠ Tp := ne_of_none hD' hT
      have hce := hN.ends c (NF.mem_of_get hc)
      refine ⟨Tp, _, rfl, SqT.of upd_same, rfl, _, _, rfl, _, _, rfl, rfl, rfl, ?_⟩
      refine ⟨_, rfl, _, rfl, _, rfl, p, x, c, z, pd, rfl, hAt.same (s12.trans s4), SqL.of (s4 _ _ hx2), by rw [hlen]; exact hce.1, by rw [hlen]; exact hce.2, ?_⟩
      refine ⟨_, by rw [upd_ne hDT]; exact hD', ?_, fun b' ob hb => ?_, ?_⟩
      · rw [List.length_map, List.length_take]; exact Nat.lt_of_le_of_lt (show _ ≤ 65 by omega) line65
      · rw [upd_ne (fun e => by subst e; rw [hD] at hb; cases hb)]; exact s4 _ _ hb
      · rw [upd_same, NF.take_snoc hzip, List.map_append]; rfl
    rintro H3 ⟨s3, hD3⟩
    rw [List.take_of_length_le (by simp [hA.len, hl])] at hD3
    refine ⟨D, _, rfl, SqL.of hD3, ?_⟩
    rw [all_map]
    exact k H3 (s12.trans s3)
end
end NP
end
section
set_option Elab.async false
set_option maxRecDepth 100000
set_option maxHeartbeats 2000000
namespace NP
open PySem PySem.Spec PyProof.Rows L2
open PySem.W (Codec WData)
noncomputable def HeldL (K : PySem.W.Frag) (H : Hp) (c : Addr) (xs : List V) : Prop :=
  (∃ o, H c = some (.frz o (.lst xs))) ∨
    ∃ (o : Obj) (its : Array Value) (n : Nat), K.lookup c = some o ∧ o.cls = .type "list" ∧ o.dict = none ∧ o.data = .seq its n ∧ its.size ≤ sizeLine ∧ Vals xs its.toList
theorem HeldL.seq {K : PySem.W.Frag} {H : Hp} {c : Addr} {xs : List V} (h : HeldL K H c xs) : SqL K H c xs := by
  rcases h with ⟨o, h⟩ | h
  · exact .inl (.inr ⟨o, h⟩)
  · exact .inr h
theorem HeldL.but {K : PySem.W.Frag} {H H' : Hp} {c p : Addr} {xs : List V} {u : HO} (h : HeldL K H c xs) (b : But p H H') (hp : H p = some u) (hu : ∀ o ys, u ≠ .frz o ys) : HeldL K H' c xs := by
  rcases h with ⟨o, h⟩ | h
  · exact .inl ⟨o, b _ _ h (ne_of h hp (fun e => hu _ _ e.symm))⟩
  · exact .inr h
theorem HeldL.same {K : PySem.W.Frag} {H H' : Hp} {c : Addr} {xs : List V} (h : HeldL K H c xs) (s : Same H H') : HeldL K H' c xs := by
  rcases h with ⟨o, h⟩ | h
  · exact .inl ⟨o, s _ _ h⟩
  · exact .inr h
structure DeskAt (a : Adr) (K : PySem.W.Frag) (H : Hp) (p l : Addr) (n : Sf13.Abs) (r c : Addr) (xs : List V) (k : Nat) : Prop where
  net : NetAt a H p l n
  rd : ReaderAt a H r c (k : Int)
  held : HeldL K H c xs
theorem net_ne_rd {a : Adr} {H : Hp} {p l r c : Addr} {k : Int} {dx dy C D : Addr} (h1 : H p = some (.ins C dx (netF l))) (h2 : H r = some (.ins D dy (rdF c k))) : p ≠ r := by
  refine ne_of h1 h2 (fun e => ?_)
  injection e with _ _ e
  have := congrArg (fun fs => fs.lookup ("arcs" : Str)) e
  simp only [netF_arcs, rdF_no c k (m := "arcs") (by decide +kernel) (by decide +kernel)] at this
  cases this
theorem arc_ne_rd {H : Hp} {p r c : Addr} {k o g x y : Int} {dx dy C D : Addr} (h1 : H p = some (.ins C dx (arcF o g x y))) (h2 : H r = some (.ins D dy (rdF c k))) : p ≠ r := by
  refine ne_of h1 h2 (fun e => ?_)
  injection e with _ _ e
  have := congrArg (fun fs => fs.lookup ("origin" : Str)) e
  simp only [arcF_origin, rdF_no c k (m := "origin") (by decide +kernel) (by decide +kernel)] at this
  cases this
theorem DeskAt.took {a : Adr} {K : PySem.W.Frag} {H H' : Hp} {p l r c : Addr} {n : Sf13.Abs} {xs : List V} {k k' : Nat} (h : DeskAt a K H p l n r c xs k) (b : But r H H') (hr : ReaderAt a H' r c (k' : Int)) : DeskAt a K H' p l n r c xs k' := by
  obtain ⟨⟨⟨dx, hp⟩, as, hA⟩, ⟨dy, hy⟩, hc⟩ := h
  refine ⟨⟨⟨dx, b _ _ hp (net_ne_rd (a := a) hp hy)⟩, as, b _ _ hA.lst (ne_of hA.lst hy (by intro z; cases z)), hA.len, fun j y x h1 h2 => ?_⟩, hr, hc.but b hy (by intro _ _ z; cases z)⟩
  obtain ⟨dz, hz⟩ := hA.at_ j y x h1 h2
  exact ⟨dz, b _ _ hz (arc_ne_rd hz hy)⟩
theorem DeskAt.changed {a : Adr} {K : PySem.W.Frag} {H H' : Hp} {p l r c : Addr} {n n' : Sf13.Abs} {xs : List V} {k : Nat} (h : DeskAt a K H p l n r c xs k) (b : But l H H') (hn : NetAt a H' p l n') : DeskAt a K H' p l n' r c xs k := by
  obtain ⟨⟨⟨dx, hp⟩, as, hA⟩, ⟨dy, hy⟩, hc⟩ := h
  exact ⟨hn, ⟨dy, b _ _ hy (ne_of hy hA.lst (by intro z; cases z))⟩, hc.but b hA.lst (by intro _ _ z; cases z)⟩
theorem NetAt.same {a : Adr} {H H' : Hp} {p l : Addr} {n : Sf13.Abs} (h : NetAt a H p l n) (s : Same H H') : NetAt a H' p l n := let ⟨⟨dx, hp⟩, as, hA⟩ := h; ⟨⟨dx, s _ _ hp⟩, as, hA.same s⟩
theorem DeskAt.same {a : Adr} {K : PySem.W.Frag} {H H' : Hp} {p l r c : Addr} {n : Sf13.Abs} {xs : List V} {k : Nat} (h : DeskAt a K H p l n r c xs k) (s : Same H H') : DeskAt a K H' p l n r c xs k :=
  ⟨h.net.same s, let ⟨dy, hy⟩ := h.rd; ⟨dy, s _ _ hy⟩, h.held.same s⟩
noncomputable def But2 (l r : Addr) (H H' : Hp) : Prop := ∀ b o, H b = some o → b ≠ l → b ≠ r → H' b = some o
theorem But2.trans {l r : Addr} {H H1 H2 : Hp} (x : But2 l r H H1) (y : But2 l r H1 H2) : But2 l r H H2 := fun b o e n m => y b o (x b o e n m) n m
theorem But2.of_l {l r : Addr} {H H' : Hp} (x : But l H H') : But2 l r H H' := fun b o e n _ => x b o e n
theorem But2.of_r {l r : Addr} {H H' : Hp} (x : But r H H') : But2 l r H H' := fun b o e _ m => x b o e m
theorem But2.of_s {l r : Addr} {H H' : Hp} (x : Same H H') : But2 l r H H' := fun b o e _ _ => x b o e
theorem But2.fresh {a : Adr} {K : PySem.W.Frag} {H H' : Hp} {p l r c z : Addr} {n : Sf13.Abs} {xs : List V} {k : Nat} (b : But2 l r H H') (d : DeskAt a K H' p l n r c xs k) (hz : H' z = none) : H z = none := by
  cases e : H z with
  | none => rfl
  | some o =>
    obtain ⟨as, hA⟩ := d.net.arcs
    obtain ⟨dy, hy⟩ := d.rd
    rw [b z o e (Ne.symm (ne_of_none hA.lst hz)) (Ne.symm (ne_of_none hy hz))] at hz
    cases hz
section
variable {P : Program} {w : World} {K : PySem.W.Frag} {mg : Str → Option Value} {base : Heap} {a : Adr}
noncomputable def At (ns : List Int) (k : Nat) (z : List Int) : Prop := ∃ rest, ns.drop k = z ++ rest
theorem At.head {ns : List Int} {k : Nat} {x : Int} {z : List Int} (h : At ns k (x :: z)) : (ns.map V.int)[k]? = some (.int x) ∧ At ns (k + 1) z := by
  obtain ⟨rest, e⟩ := h
  have h1 : ns[k]? = some x := by
    have := congrArg (fun l => l[0]?) e
    simpa [List.getElem?_drop] using this
  refine ⟨mapGet h1, rest, ?_⟩
  have := congrArg (List.drop 1) e
  rw [List.drop_drop] at this
  simpa using this
theorem At.split {ns : List Int} {k : Nat} {z y : List Int} (h : At ns k (z ++ y)) : At ns k z ∧ At ns (k + z.length) y := by
  obtain ⟨rest, e⟩ := h
  refine ⟨⟨y ++ rest, by rw [e, List.append_assoc]⟩, rest, ?_⟩
  rw [← List.drop_drop, e, List.append_assoc, List.drop_left]
theorem cut_row {ns : List Int} {k : Nat} {row : List Int} (h : At ns k row) (hk : k ≤ ns.length) : cutV (ns.map V.int) (some ((k : Nat) : Int)) (some (((k : Nat) : Int) + ((row.length : Nat) : Int))) = row.map V.int := by
  obtain ⟨rest, e⟩ := h
  have hl := congrArg List.length e
  rw [List.length_drop, List.length_append] at hl
  have h2 : k + row.length ≤ ns.length := by
    have h3 := Nat.add_le_add_left (Nat.le_add_right row.length rest.length) k
    rw [← hl, Nat.add_sub_cancel' hk] at h3
    exact h3
  unfold cutV
  rw [← Int.natCast_add, HT.sIx_nat, HT.sIx_nat, List.length_map, Nat.min_eq_left hk, Nat.min_eq_left h2, ← List.map_drop, e, List.map_append, Nat.add_sub_cancel_left]
  have : row.length = (row.map V.int).length := by rw [List.length_map]
  rw [this, List.take_left]
inductive SpTakeRow (a : Adr) (K : PySem.W.Frag) (vs : List V) (H : Hp) (Q : VK) : Prop
  | mk (p l : Addr) (k : Nat) (ns row : List Int) (h0 : vs = [.ref p]) (h1 : ReaderAt a H p l k) (h2 : HeldL K H l (ns.map V.int)) (h3 : At ns k ((row.length : Int) :: row)) (h4 : ∀ (H' : Hp) (x : Addr), ReaderAt a H' p l ((k + 1 + row.length : Nat) : Int) → But p H H' → H x = none → x ≠ p → H' x = some (.lst (row.map V.int)) → Q (.ref x) H') : SpTakeRow a K vs H Q
noncomputable def spTakeRow (a : Adr) (K : PySem.W.Frag) : Sp := fun vs H Q _ => SpTakeRow a K vs H Q
theorem sc_Reader_take_row : FnScope ["self", "length", "row"] ["self"] (defScope s_Reader_take_row) := ⟨rfl, rfl, rfl, by decide +kernel, rfl, by decide +kernel, by decide +kernel⟩
theorem ok_Reader_take_row (T : Txt K mg a) : FnOk P w K mg base CX0 2 a.f_Reader_take_row a.d_Reader_take_row ["self"] (spTakeRow a K) := by
  have GT : FnOk P w K mg base CX0 1 a.f_Reader_take a.d_Reader_take ["self"] (spTake a K) := ok_Reader_take T
  refine T.M_Reader_take_row.F.ok sc_Reader_take_row (fun vs H Q E h => ?_) (fun cdv A outer s H vs Q E hr h => ?_)
  · obtain ⟨p, l, k, ns, row, rfl, _⟩ := h
    rfl
  · obtain ⟨p, l, k, ns, row, rfl, hR, hL, hz, q⟩ := h
    have nd := sc_Reader_take_row.nd
    refine ⟨_, pss_cons (ps_set (i := 1) nd rfl (Or.inl rfl) (pe_meth0 (pv 0) T.cl_Reader T.M_Reader_take.m GT hr T.M_Reader_take.b .nil pass0))
      (pss_cons (ps_set (i := 2) nd rfl (Or.inl rfl) (pe_slice sl_list (pe_fld (pv 0) rfl) (po_some (pe_fld (pv 0) rfl)) (po_some (pe_op op_add (pe_fld (pv 0) rfl) (pv 1)))))
      (pss_cons (ps_fld (pv 0) (pe_op op_add (pe_fld (pv 0) rfl) (pv 1)) rfl) (pss_one (ps_ret (pv 2))))), ?_⟩
    obtain ⟨e1, hz1⟩ := At.head hz
    obtain ⟨dx, hp⟩ := hR
    refine ⟨_, rfl, p, dx, _, rfl, hp, rdF_no l k (by decide +kernel) (by decide +kernel), p, l, k, _, _, rfl, ⟨dx, hp⟩, hL.seq, e1, fun H1 r1 b1 => ?_⟩
    have hL1 := hL.but b1 hp (by intro _ _ z; cases z)
    obtain ⟨dy, hp1⟩ := r1
    refine ⟨_, rfl, p, _, dy, _, _, rfl, hp1, T.cl_Reader, T.na_Reader_numbers, rdF_numbers l _, _, rfl, p, _, dy, _, _, rfl, hp1, T.cl_Reader, T.na_Reader_place, rdF_place l _, _, rfl, _, rfl, p, _, dy, _, _, rfl, hp1, T.cl_Reader, T.na_Reader_place, rdF_place l _, _, rfl, _, _, rfl, rfl, _, rfl, l, _, rfl, hL1.seq, fun x hx => ?_⟩
    rw [cut_row hz1 (by have := (List.getElem?_eq_some_iff.mp e1).1; rw [List.length_map] at this; exact this)]
    have hpx : p ≠ x := ne_of_none hp1 hx
    have hp2 : upd H1 x (.lst (row.map V.int)) p = some (.ins a.c_Reader dy (rdF l ((k + 1 : Nat) : Int))) := by rw [upd_ne hpx]; exact hp1
    have hxH : H x = none := by
      cases e : H x with
      | none => rfl
      | some o => rw [b1 x o e (Ne.symm hpx)] at hx; cases hx
    refine ⟨_, rfl, p, _, dy, _, _, rfl, hp2, T.cl_Reader, T.na_Reader_place, rdF_place l _, _, rfl, _, _, rfl, rfl, _, rfl, p, _, dy, _, rfl, hp2, T.cl_Reader, T.na_Reader_place, (by show 2 < 1000; decide), ?_⟩
    refine ⟨_, rfl, ?_⟩
    have e : putF "place" (V.int (((k + 1 : Nat) : Int) + ((row.length : Nat) : Int))) (rdF l ((k + 1 : Nat) : Int)) = rdF l ((k + 1 + row.length : Nat) : Int) := by
      rw [rdF_put]
      have : ((k + 1 : Nat) : Int) + ((row.length : Nat) : Int) = ((k + 1 + row.length : Nat) : Int) := by omega
      rw [this]
    refine q _ x ⟨dy, Eq.trans upd_same (congrArg (fun z => some (HO.ins a.c_Reader dy z)) e)⟩ ?_ hxH (Ne.symm hpx) (by rw [upd_ne (Ne.symm hpx)]; exact upd_same)
    exact b1.trans ((But.of_same (Same.new hx)).trans But.upd)
theorem take_at {H : Hp} {σ : L2.St} {Q : VK} {E : XK} {p l r c : Addr} {n : Sf13.Abs} {ns : List Int} {k : Nat} {x : Int} (hD : DeskAt a K H p l n r c (ns.map V.int) k) (e : (ns.map V.int)[k]? = some (.int x))
    (q : ∀ H1 : Hp, But r H H1 → DeskAt a K H1 p l n r c (ns.map V.int) (k + 1) → Q (.int x) H1) : TMethR a.c_Reader "take" (spTake a K) [] E tNil σ Q (.ref r) H := by
  obtain ⟨dy, hy⟩ := hD.rd
  exact ⟨r, dy, _, rfl, hy, rdF_no c k (by decide +kernel) (by decide +kernel), r, c, k, _, _, rfl, hD.rd, hD.held.seq, e, fun H1 r1 b1 => q H1 b1 (hD.took b1 r1)⟩
theorem row_at {H : Hp} {σ : L2.St} {Q : VK} {E : XK} {p l r c : Addr} {n : Sf13.Abs} {ns row : List Int} {k : Nat} (hD : DeskAt a K H p l n r c (ns.map V.int) k) (e : At ns k ((row.length : Int) :: row))
    (q : ∀ (H1 : Hp) (x : Addr), But r H H1 → DeskAt a K H1 p l n r c (ns.map V.int) (k + 1 + row.length) → x ≠ r → H1 x = some (.lst (row.map V.int)) → Q (.ref x) H1) : TMethR a.c_Reader "take_row" (spTakeRow a K) [] E tNil σ Q (.ref r) H := by
  obtain ⟨dy, hy⟩ := hD.rd
  exact ⟨r, dy, _, rfl, hy, rdF_no c k (by decide +kernel) (by decide +kernel), r, c, k, ns, row, rfl, hD.rd, hD.held, e, fun H1 x r1 b1 _ hx h => q H1 x b1 (hD.took b1 r1) hx h⟩
inductive SpPart (a : Adr) (K : PySem.W.Frag) (z : Sf13.Call → List Int) (ok : Sf13.Call → Prop) (vs : List V) (H : Hp) (Q : VK) : Prop
  | mk (p l r c : Addr) (n : Sf13.Abs) (ns : List Int) (k : Nat) (q : Sf13.Call) (h0 : vs = [.ref p, .ref r]) (h1 : DeskAt a K H p l n r c (ns.map V.int) k) (h2 : At ns k (z q)) (h3 : ok q) (h4 : NF.Net12 n) (h5 : NF.Fine q) (h6 : ∀ (H' : Hp) (x : Addr), DeskAt a K H' p l (Sf13.does n q).1 r c (ns.map V.int) (k + (z q).length) → H' x = some (.lst (((Sf13.does n q).2.v :: (Sf13.does n q).2.l).map V.int)) → H x = none → But2 l r H H' → Q (.ref x) H') : SpPart a K z ok vs H Q
noncomputable def spPart (a : Adr) (K : PySem.W.Frag) (z : Sf13.Call → List Int) (ok : Sf13.Call → Prop) : Sp := fun vs H Q _ => SpPart a K z ok vs H Q
noncomputable def isArc (q : Sf13.Call) : Prop := NF.isArc q = true
noncomputable def zTail (q : Sf13.Call) : List Int := (NF.flat q).tail
theorem sc_answer_arc : FnScope ["net", "reader", "origin", "goal", "capacity", "cost"] ["net", "reader"] (defScope s_answer_arc) := ⟨rfl, rfl, rfl, by decide +kernel, rfl, by decide +kernel, by decide +kernel⟩
theorem ok_answer_arc (T : Txt K mg a) : FnOk P w K mg base CX0 4 a.f_answer_arc a.d_answer_arc ["net", "reader"] (spPart a K zTail isArc) := by
  have GT : FnOk P w K mg base CX0 3 a.f_Reader_take a.d_Reader_take ["self"] (spTake a K) := (ok_Reader_take T).mono (by decide)
  have GA : FnOk P w K mg base CX0 3 a.f_Net_add_arc a.d_Net_add_arc ["self", "origin", "goal", "capacity", "cost"] (spAdd a) := ok_Net_add_arc T
  refine T.D_answer_arc.F.ok sc_answer_arc (fun vs H Q E h => ?_) (fun cdv A outer s H vs Q E hr h => ?_)
  · obtain ⟨p, l, r, c, n, ns, k, q, rfl, _⟩ := h
    rfl
  · obtain ⟨p, l, r, c, n, ns, k, q, rfl, hD, hz, hq, hN, hF, kk⟩ := h
    have nd := sc_answer_arc.nd
    refine ⟨_, pss_cons (ps_set (i := 2) nd rfl (Or.inl rfl) (pe_meth0 (pv 1) T.cl_Reader T.M_Reader_take.m GT hr T.M_Reader_take.b .nil pass0))
      (pss_cons (ps_set (i := 3) nd rfl (Or.inl rfl) (pe_meth0 (pv 1) T.cl_Reader T.M_Reader_take.m GT hr T.M_Reader_take.b .nil pass0))
      (pss_cons (ps_set (i := 4) nd rfl (Or.inl rfl) (pe_meth0 (pv 1) T.cl_Reader T.M_Reader_take.m GT hr T.M_Reader_take.b .nil pass0))
      (pss_cons (ps_set (i := 5) nd rfl (Or.inl rfl) (pe_meth0 (pv 1) T.cl_Reader T.M_Reader_take.m GT hr T.M_Reader_take.b .nil pass0))
      (pss_one (ps_ret (pe_lst (pa_cons (pe_meth (pv 0) T.cl_Net T.M_Net_add_arc.m GA hr T.M_Net_add_arc.b .nil pass0 (pa_cons (pv 2) (pa_cons (pv 3) (pa_cons (pv 4) (pa_cons (pv 5) pa_nil))))) pa_nil))))))), ?_⟩
    cases q with
    | arc o g x y =>
      obtain ⟨e1, hz⟩ := At.head hz
      obtain ⟨e2, hz⟩ := At.head hz
      obtain ⟨e3, hz⟩ := At.head hz
      obtain ⟨e4, hz⟩ := At.head hz
      refine ⟨_, rfl, take_at hD e1 fun H1 b1 D1 => ?_⟩
      refine ⟨_, rfl, take_at D1 e2 fun H2 b2 D2 => ?_⟩
      refine ⟨_, rfl, take_at D2 e3 fun H3 b3 D3 => ?_⟩
      refine ⟨_, rfl, take_at D3 e4 fun H4 b4 D4 => ?_⟩
      obtain ⟨dx, hx⟩ := D4.net.ins
      refine ⟨_, rfl, p, dx, _, rfl, hx, netF_no l (by decide +kernel), _, rfl, _, rfl, _, rfl, _, rfl, p, l, n, o, g, x, y, rfl, D4.net, hN.few, fun H5 n5 b5 => ?_⟩
      have D5 := D4.changed b5 n5
      refine ⟨(by show 1 ≤ sizeLine; decide), fun z hz0 => ?_⟩
      have hl0 : (Sf13.does n (.arc o g x y)).2.l = [] := by
        simp only [Sf13.does]; split <;> rfl
      have bt : But2 l r H H5 := (But2.of_r b1).trans ((But2.of_r b2).trans ((But2.of_r b3).trans ((But2.of_r b4).trans (But2.of_l b5))))
      refine kk _ z (D5.same (Same.new hz0)) ?_ (bt.fresh D5 hz0) (bt.trans (But2.of_s (Same.new hz0)))
      rw [upd_same, hl0]; rfl
    | _ => cases hq
theorem two_nodes {s t : Int} (h : Sf13.two s t = true) : s = (s.toNat : Int) ∧ t = (t.toNat : Int) ∧ s.toNat < 64 ∧ t.toNat < 64 ∧ s.toNat ≠ t.toNat := by
  unfold Sf13.two Sf13.node at h
  simp only [Bool.and_eq_true, decide_eq_true_eq, bne_iff_ne, ne_eq] at h
  obtain ⟨⟨a1, a2⟩, ⟨b1, b2⟩, ne⟩ := h
  have e1 := Int.toNat_of_nonneg a1
  have e2 := Int.toNat_of_nonneg b1
  rw [← e1] at a2
  rw [← e2] at b2
  exact ⟨e1.symm, e2.symm, Int.ofNat_lt.mp a2, Int.ofNat_lt.mp b2, fun z => ne (by rw [← e1, ← e2, z])⟩
noncomputable def isMost : Sf13.Call → Prop
  | .most _ _ => True
  | _ => False
noncomputable def isCut : Sf13.Call → Prop
  | .cut _ _ => True
  | _ => False
theorem sc_answer_most : FnScope ["net", "reader", "s", "t"] ["net", "reader"] (defScope s_answer_most) := ⟨rfl, rfl, rfl, by decide +kernel, rfl, by decide +kernel, by decide +kernel⟩
theorem ok_answer_most (T : Txt K mg a) : FnOk P w K mg base CX0 5 a.f_answer_most a.d_answer_most ["net", "reader"] (spPart a K zTail isMost) := by
  have GT : FnOk P w K mg base CX0 4 a.f_Reader_take a.d_Reader_take ["self"] (spTake a K) := (ok_Reader_take T).mono (by decide)
  have G2 : FnOk P w K mg base CX0 4 a.f_are_two_nodes a.d_are_two_nodes ["first", "second"] spTwo := (ok_are_two_nodes T).mono (by decide)
  have GV : FnOk P w K mg base CX0 4 a.f_greatest_value a.d_greatest_value ["arcs", "s", "t"] (spMost a) := ok_greatest_value T
  refine T.D_answer_most.F.ok sc_answer_most (fun vs H Q E h => ?_) (fun cdv A outer s H vs Q E hr h => ?_)
  · obtain ⟨p, l, r, c, n, ns, k, q, rfl, _⟩ := h
    rfl
  · obtain ⟨p, l, r, c, n, ns, k, q, rfl, hD, hz, hq, hN, hF, kk⟩ := h
    have nd := sc_answer_most.nd
    obtain ⟨ur, rr, hur⟩ := T.k_REFUSED
    refine ⟨_, pss_cons (ps_set (i := 2) nd rfl (Or.inl rfl) (pe_meth0 (pv 1) T.cl_Reader T.M_Reader_take.m GT hr T.M_Reader_take.b .nil pass0))
      (pss_cons (ps_set (i := 3) nd rfl (Or.inl rfl) (pe_meth0 (pv 1) T.cl_Reader T.M_Reader_take.m GT hr T.M_Reader_take.b .nil pass0))
      (pss_cons (ps_if (pt_not (pt_val (pe_call G2 hr rfl T.D_are_two_nodes.m T.D_are_two_nodes.F.kp T.D_are_two_nodes.b .nil pass0 (pa_cons (pv 2) (pa_cons (pv 3) pa_nil))))) (pss_one (ps_ret (pe_lst (pa_cons (pe_glob rfl hur rr) pa_nil)))) pss_nil)
      (pss_one (ps_ret (pe_lst (pa_cons (pe_call GV hr rfl T.D_greatest_value.m T.D_greatest_value.F.kp T.D_greatest_value.b .nil pass0 (pa_cons (pe_fld (pv 0) rfl) (pa_cons (pv 2) (pa_cons (pv 3) pa_nil)))) pa_nil)))))), ?_⟩
    cases q with
    | most s1 t1 =>
      obtain ⟨e1, hz⟩ := At.head hz
      obtain ⟨e2, hz⟩ := At.head hz
      refine ⟨_, rfl, take_at hD e1 fun H1 b1 D1 => ?_⟩
      refine ⟨_, rfl, take_at D1 e2 fun H2 b2 D2 => ?_⟩
      have b02 : But2 l r H H2 := (But2.of_r b1).trans (But2.of_r b2)
      refine ⟨_, rfl, _, rfl, s1, t1, rfl, _, rfl, ?_⟩
      have give : ∀ (H3 : Hp) (v : Int), Same H2 H3 → (Sf13.does n (.most s1 t1)).2 = Sf13.ok v → ∀ z : Addr, H3 z = none → Q (.ref z) (upd H3 z (.lst [.int v])) := by
        intro H3 v s3 ev z hz0
        have D3 := D2.same s3
        have bt : But2 l r H H3 := b02.trans (But2.of_s s3)
        refine kk _ z (D3.same (Same.new hz0)) ?_ (bt.fresh D3 hz0) (bt.trans (But2.of_s (Same.new hz0)))
        rw [upd_same, ev]; rfl
      refine ite2 (fun h => ?_) (fun h => ?_)
      · refine ⟨(by show 1 ≤ sizeLine; decide), fun z hz0 => give H2 (-1) (Same.refl _) ?_ z hz0⟩
        have h' : Sf13.two s1 t1 = false := by simpa using h
        simp only [Sf13.does, h', if_true]
      · have h' : Sf13.two s1 t1 = true := by simpa using h
        obtain ⟨g1, g2, g3, g4, g5⟩ := two_nodes h'
        obtain ⟨dx, hx⟩ := D2.net.ins
        obtain ⟨as, hA⟩ := D2.net.arcs
        refine ⟨_, rfl, p, _, dx, _, _, rfl, hx, T.cl_Net, T.na_Net_arcs, netF_arcs l, _, rfl, _, rfl, l, s1.toNat, t1.toNat, as, n, (by rw [← g1, ← g2]; rfl), hA, hN, g3, g4, g5, fun H3 s3 => ?_⟩
        refine ⟨(by show 1 ≤ sizeLine; decide), fun z hz0 => give H3 _ s3 ?_ z hz0⟩
        simp only [Sf13.does, h', Bool.true_eq_false, if_false]
    | _ => cases hq
theorem sc_answer_cut : FnScope ["net", "reader", "s", "t"] ["net", "reader"] (defScope s_answer_cut) := ⟨rfl, rfl, rfl, by decide +kernel, rfl, by decide +kernel, by decide +kernel⟩
theorem ok_answer_cut (T : Txt K mg a) : FnOk P w K mg base CX0 5 a.f_answer_cut a.d_answer_cut ["net", "reader"] (spPart a K zTail isCut) := by
  have GT : FnOk P w K mg base CX0 4 a.f_Reader_take a.d_Reader_take ["self"] (spTake a K) := (ok_Reader_take T).mono (by decide)
  have G2 : FnOk P w K mg base CX0 4 a.f_are_two_nodes a.d_are_two_nodes ["first", "second"] spTwo := (ok_are_two_nodes T).mono (by decide)
  have GV : FnOk P w K mg base CX0 4 a.f_smallest_cut a.d_smallest_cut ["arcs", "s", "t"] (spCut a) := ok_smallest_cut T
  refine T.D_answer_cut.F.ok sc_answer_cut (fun vs H Q E h => ?_) (fun cdv A outer s H vs Q E hr h => ?_)
  · obtain ⟨p, l, r, c, n, ns, k, q, rfl, _⟩ := h
    rfl
  · obtain ⟨p, l, r, c, n, ns, k, q, rfl, hD, hz, hq, hN, hF, kk⟩ := h
    have nd := sc_answer_cut.nd
    obtain ⟨ur, rr, hur⟩ := T.k_REFUSED
    refine ⟨_, pss_cons (ps_set (i := 2) nd rfl (Or.inl rfl) (pe_meth0 (pv 1) T.cl_Reader T.M_Reader_take.m GT hr T.M_Reader_take.b .nil pass0))
      (pss_cons (ps_set (i := 3) nd rfl (Or.inl rfl) (pe_meth0 (pv 1) T.cl_Reader T.M_Reader_take.m GT hr T.M_Reader_take.b .nil pass0))
      (pss_cons (ps_if (pt_not (pt_val (pe_call G2 hr rfl T.D_are_two_nodes.m T.D_are_two_nodes.F.kp T.D_are_two_nodes.b .nil pass0 (pa_cons (pv 2) (pa_cons (pv 3) pa_nil))))) (pss_one (ps_ret (pe_lst (pa_cons (pe_glob rfl hur rr) pa_nil)))) pss_nil)
      (pss_one (ps_ret (pe_lst (pa_cons pe_int (pa_cons (pe_call GV hr rfl T.D_smallest_cut.m T.D_smallest_cut.F.kp T.D_smallest_cut.b .nil pass0 (pa_cons (pe_fld (pv 0) rfl) (pa_cons (pv 2) (pa_cons (pv 3) pa_nil)))) pa_nil))))))), ?_⟩
    cases q with
    | cut s1 t1 =>
      obtain ⟨e1, hz⟩ := At.head hz
      obtain ⟨e2, hz⟩ := At.head hz
      refine ⟨_, rfl, take_at hD e1 fun H1 b1 D1 => ?_⟩
      refine ⟨_, rfl, take_at D1 e2 fun H2 b2 D2 => ?_⟩
      have b02 : But2 l r H H2 := (But2.of_r b1).trans (But2.of_r b2)
      refine ⟨_, rfl, _, rfl, s1, t1, rfl, _, rfl, ?_⟩
      have give : ∀ (H3 : Hp) (v : List Int), Same H2 H3 → ((Sf13.does n (.cut s1 t1)).2.v :: (Sf13.does n (.cut s1 t1)).2.l) = v → ∀ z : Addr, H3 z = none → Q (.ref z) (upd H3 z (.lst (v.map V.int))) := by
        intro H3 v s3 ev z hz0
        have D3 := D2.same s3
        have bt : But2 l r H H3 := b02.trans (But2.of_s s3)
        refine kk _ z (D3.same (Same.new hz0)) ?_ (bt.fresh D3 hz0) (bt.trans (But2.of_s (Same.new hz0)))
        rw [upd_same, ev]
      refine ite2 (fun h => ?_) (fun h => ?_)
      · refine ⟨(by show 1 ≤ sizeLine; decide), fun z hz0 => give H2 [-1] (Same.refl _) ?_ z hz0⟩
        have h' : Sf13.two s1 t1 = false := by simpa using h
        simp only [Sf13.does, h', if_true]; rfl
      · have h' : Sf13.two s1 t1 = true := by simpa using h
        obtain ⟨g1, g2, g3, g4, g5⟩ := two_nodes h'
        obtain ⟨dx, hx⟩ := D2.net.ins
        obtain ⟨as, hA⟩ := D2.net.arcs
        refine ⟨_, rfl, p, _, dx, _, _, rfl, hx, T.cl_Net, T.na_Net_arcs, netF_arcs l, _, rfl, _, rfl, l, s1.toNat, t1.toNat, as, n, (by rw [← g1, ← g2]; rfl), hA, hN, g3, g4, g5, fun H3 s3 => ?_⟩
        refine ⟨(by show 2 ≤ sizeLine; decide), fun z hz0 => give H3 [0, ((Sf13.cutOf n s1.toNat t1.toNat : Nat) : Int)] s3 ?_ z hz0⟩
        simp only [Sf13.does, h', Bool.true_eq_false, if_false]
    | _ => cases hq
noncomputable def isCheapest : Sf13.Call → Prop
  | .cheapest _ _ _ => True
  | _ => False
noncomputable def isFlowC : Sf13.Call → Prop
  | .flow _ _ _ => True
  | _ => False
noncomputable def isProves : Sf13.Call → Prop
  | .proves _ _ _ _ => True
  | _ => False
theorem sc_answer_cheapest : FnScope ["net", "reader", "s", "t", "value"] ["net", "reader"] (defScope s_answer_cheapest) := ⟨rfl, rfl, rfl, by decide +kernel, rfl, by decide +kernel, by decide +kernel⟩
theorem ok_answer_cheapest (T : Txt K mg a) : FnOk P w K mg base CX0 5 a.f_answer_cheapest a.d_answer_cheapest ["net", "reader"] (spPart a K zTail isCheapest) := by
  have GT : FnOk P w K mg base CX0 4 a.f_Reader_take a.d_Reader_take ["self"] (spTake a K) := (ok_Reader_take T).mono (by decide)
  have G2 : FnOk P w K mg base CX0 4 a.f_are_two_nodes a.d_are_two_nodes ["first", "second"] spTwo := (ok_are_two_nodes T).mono (by decide)
  have GV : FnOk P w K mg base CX0 4 a.f_greatest_value a.d_greatest_value ["arcs", "s", "t"] (spMost a) := ok_greatest_value T
  have GL : FnOk P w K mg base CX0 4 a.f_least_cost a.d_least_cost ["arcs", "s", "t", "value"] (spLeast a) := ok_least_cost T
  refine T.D_answer_cheapest.F.ok sc_answer_cheapest (fun vs H Q E h => ?_) (fun cdv A outer s H vs Q E hr h => ?_)
  · obtain ⟨p, l, r, c, n, ns, k, q, rfl, _⟩ := h
    rfl
  · obtain ⟨p, l, r, c, n, ns, k, q, rfl, hD, hz, hq, hN, hF, kk⟩ := h
    have nd := sc_answer_cheapest.nd
    obtain ⟨ur, rr, hur⟩ := T.k_REFUSED
    obtain ⟨uo, ro, huo⟩ := T.k_NO_SUCH_FLOW
    refine ⟨_, pss_cons (ps_set (i := 2) nd rfl (Or.inl rfl) (pe_meth0 (pv 1) T.cl_Reader T.M_Reader_take.m GT hr T.M_Reader_take.b .nil pass0))
      (pss_cons (ps_set (i := 3) nd rfl (Or.inl rfl) (pe_meth0 (pv 1) T.cl_Reader T.M_Reader_take.m GT hr T.M_Reader_take.b .nil pass0))
      (pss_cons (ps_set (i := 4) nd rfl (Or.inl rfl) (pe_meth0 (pv 1) T.cl_Reader T.M_Reader_take.m GT hr T.M_Reader_take.b .nil pass0))
      (pss_cons (ps_if (PW.pt (pw_or (pt_not (pt_val (pe_call G2 hr rfl T.D_are_two_nodes.m T.D_are_two_nodes.F.kp T.D_are_two_nodes.b .nil pass0 (pa_cons (pv 2) (pa_cons (pv 3) pa_nil))))) (pw_or1 (pt_cmpR op_lt (pv 4) pe_int (nomark _))))) (pss_one (ps_ret (pe_lst (pa_cons (pe_glob rfl hur rr) pa_nil)))) pss_nil)
      (pss_cons (ps_if (pt_cmpR op_gt (pv 4) (pe_call GV hr rfl T.D_greatest_value.m T.D_greatest_value.F.kp T.D_greatest_value.b .nil pass0 (pa_cons (pe_fld (pv 0) rfl) (pa_cons (pv 2) (pa_cons (pv 3) pa_nil)))) (nomark _)) (pss_one (ps_ret (pe_lst (pa_cons (pe_glob rfl huo ro) pa_nil)))) pss_nil)
      (pss_one (ps_ret (pe_lst (pa_cons pe_int (pa_cons (pe_call GL hr rfl T.D_least_cost.m T.D_least_cost.F.kp T.D_least_cost.b .nil pass0 (pa_cons (pe_fld (pv 0) rfl) (pa_cons (pv 2) (pa_cons (pv 3) (pa_cons (pv 4) pa_nil))))) pa_nil))))))))), ?_⟩
    cases q with
    | cheapest s1 t1 v1 =>
      obtain ⟨e1, hz⟩ := At.head hz
      obtain ⟨e2, hz⟩ := At.head hz
      obtain ⟨e3, hz⟩ := At.head hz
      refine ⟨_, rfl, take_at hD e1 fun H1 b1 D1 => ?_⟩
      refine ⟨_, rfl, take_at D1 e2 fun H2 b2 D2 => ?_⟩
      refine ⟨_, rfl, take_at D2 e3 fun H3 b3 D3 => ?_⟩
      have b03 : But2 l r H H3 := ((But2.of_r b1).trans (But2.of_r b2)).trans (But2.of_r b3)
      have give : ∀ (H4 : Hp) (v : List Int), Same H3 H4 → ((Sf13.does n (.cheapest s1 t1 v1)).2.v :: (Sf13.does n (.cheapest s1 t1 v1)).2.l) = v → ∀ z : Addr, H4 z = none → Q (.ref z) (upd H4 z (.lst (v.map V.int))) := by
        intro H4 v s4 ev z hz0
        have D4 := D3.same s4
        have bt : But2 l r H H4 := b03.trans (But2.of_s s4)
        refine kk _ z (D4.same (Same.new hz0)) ?_ (bt.fresh D4 hz0) (bt.trans (But2.of_s (Same.new hz0)))
        rw [upd_same, ev]
      refine ⟨_, rfl, _, rfl, s1, t1, rfl, _, rfl, ?_⟩
      refine or_then (fun h => ⟨_, rfl, _, _, rfl, rfl, _, rfl, h⟩) (fun h => ?_) (fun h h2 => ?_)
      · refine ⟨(by show 1 ≤ sizeLine; decide), fun z hz0 => give H3 [-1] (Same.refl _) ?_ z hz0⟩
        have h' : (Sf13.two s1 t1 && decide (0 ≤ v1)) = false := by
          rw [Bool.or_eq_true] at h
          rw [Bool.and_eq_false_iff]
          rcases h with h | h
          · left; simpa using h
          · right; have := of_decide_eq_true h; exact decide_eq_false (by omega)
        simp only [Sf13.does, h', if_true]; rfl
      · have h1' : Sf13.two s1 t1 = true := by simpa using h
        have hv : 0 ≤ v1 := by have := of_decide_eq_false h2; omega
        have h' : (Sf13.two s1 t1 && decide (0 ≤ v1)) = true := by rw [h1', decide_eq_true hv]; rfl
        obtain ⟨g1, g2, g3, g4, g5⟩ := two_nodes h1'
        obtain ⟨dx, hx⟩ := D3.net.ins
        obtain ⟨as, hA⟩ := D3.net.arcs
        have hM := NF.most_spec hN g3 g4 g5
        refine ⟨_, rfl, _, rfl, p, _, dx, _, _, rfl, hx, T.cl_Net, T.na_Net_arcs, netF_arcs l, _, rfl, _, rfl, l, s1.toNat, t1.toNat, as, n, (by rw [← g1, ← g2]; rfl), hA, hN, g3, g4, g5, fun H4 s4 => ?_⟩
        refine ⟨_, _, rfl, rfl, _, rfl, ?_⟩
        refine ite2 (fun h3 => ?_) (fun h3 => ?_)
        · refine ⟨(by show 1 ≤ sizeLine; decide), fun z hz0 => give H4 [-2] s4 ?_ z hz0⟩
          have h3' := of_decide_eq_true h3
          have hnone : Sf13.cheapestOf n s1.toNat t1.toNat v1 = none := NF.cheapest_none hN g3 g5 hv (fun f hf e => by
            have := hM.2 f ((NF.flowTo_iff n _ _ f).1 hf)
            omega)
          simp only [Sf13.does, h', Bool.true_eq_false, if_false, hnone]; rfl
        · have h3' : v1 ≤ Sf13.out n (Sf13.flowOf n s1.toNat t1.toNat Sf13.PLENTY) s1.toNat := by simp at h3; exact h3
          refine ⟨_, rfl, p, _, dx, _, _, rfl, s4 _ _ hx, T.cl_Net, T.na_Net_arcs, netF_arcs l, _, rfl, _, rfl, _, rfl, l, s1.toNat, t1.toNat, v1, as, n, _, (by rw [← g1, ← g2]; rfl), hA.same s4, hN, g3, g4, g5, hv, (NF.flowTo_iff n _ _ _).2 hM.1, h3', fun H5 cc s5 hcc => ?_⟩
          refine ⟨(by show 2 ≤ sizeLine; decide), fun z hz0 => give H5 [0, cc] (s4.trans s5) ?_ z hz0⟩
          simp only [Sf13.does, h', Bool.true_eq_false, if_false, hcc]
    | _ => cases hq
theorem sc_answer_flow : FnScope ["net", "reader", "s", "t", "amounts"] ["net", "reader"] (defScope s_answer_flow) := ⟨rfl, rfl, rfl, by decide +kernel, rfl, by decide +kernel, by decide +kernel⟩
theorem isFlow_len {n : Sf13.Abs} {s t : Nat} {f : List Int} (h : Sf13.isFlow n s t f = true) : f.length = n.length := by
  rw [isFlow_eq, Bool.and_eq_true] at h
  simpa using h.1
theorem ok_answer_flow (T : Txt K mg a) : FnOk P w K mg base CX0 3 a.f_answer_flow a.d_answer_flow ["net", "reader"] (spPart a K zTail isFlowC) := by
  have GT : FnOk P w K mg base CX0 2 a.f_Reader_take a.d_Reader_take ["self"] (spTake a K) := (ok_Reader_take T).mono (by decide)
  have GW : FnOk P w K mg base CX0 2 a.f_Reader_take_row a.d_Reader_take_row ["self"] (spTakeRow a K) := ok_Reader_take_row T
  have G2 : FnOk P w K mg base CX0 2 a.f_are_two_nodes a.d_are_two_nodes ["first", "second"] spTwo := ok_are_two_nodes T
  have GF : FnOk P w K mg base CX0 2 a.f_is_flow a.d_is_flow ["arcs", "amounts", "s", "t"] (spIsFlow a K) := ok_is_flow T
  have GV : FnOk P w K mg base CX0 2 a.f_value_of a.d_value_of ["arcs", "amounts", "node"] (spValue a K) := (ok_value_of T).mono (by decide)
  have GC : FnOk P w K mg base CX0 2 a.f_cost_of a.d_cost_of ["arcs", "amounts"] (spCost a K) := (ok_cost_of T).mono (by decide)
  refine T.D_answer_flow.F.ok sc_answer_flow (fun vs H Q E h => ?_) (fun cdv A outer s H vs Q E hr h => ?_)
  · obtain ⟨p, l, r, c, n, ns, k, q, rfl, _⟩ := h
    rfl
  · obtain ⟨p, l, r, c, n, ns, k, q, rfl, hD, hz, hq, hN, hF, kk⟩ := h
    have nd := sc_answer_flow.nd
    obtain ⟨ur, rr, hur⟩ := T.k_REFUSED
    refine ⟨_, pss_cons (ps_set (i := 2) nd rfl (Or.inl rfl) (pe_meth0 (pv 1) T.cl_Reader T.M_Reader_take.m GT hr T.M_Reader_take.b .nil pass0))
      (pss_cons (ps_set (i := 3) nd rfl (Or.inl rfl) (pe_meth0 (pv 1) T.cl_Reader T.M_Reader_take.m GT hr T.M_Reader_take.b .nil pass0))
      (pss_cons (ps_set (i := 4) nd rfl (Or.inl rfl) (pe_meth0 (pv 1) T.cl_Reader T.M_Reader_take_row.m GW hr T.M_Reader_take_row.b .nil pass0))
      (pss_cons (ps_if (pt_not (pt_val (pe_call G2 hr rfl T.D_are_two_nodes.m T.D_are_two_nodes.F.kp T.D_are_two_nodes.b .nil pass0 (pa_cons (pv 2) (pa_cons (pv 3) pa_nil))))) (pss_one (ps_ret (pe_lst (pa_cons (pe_glob rfl hur rr) pa_nil)))) pss_nil)
      (pss_cons (ps_if (pt_not (pt_val (pe_call GF hr rfl T.D_is_flow.m T.D_is_flow.F.kp T.D_is_flow.b .nil pass0 (pa_cons (pe_fld (pv 0) rfl) (pa_cons (pv 4) (pa_cons (pv 2) (pa_cons (pv 3) pa_nil))))))) (pss_one (ps_ret (pe_lst (pa_cons pe_int pa_nil)))) pss_nil)
      (pss_one (ps_ret (pe_lst (pa_cons pe_int (pa_cons (pe_call GV hr rfl T.D_value_of.m T.D_value_of.F.kp T.D_value_of.b .nil pass0 (pa_cons (pe_fld (pv 0) rfl) (pa_cons (pv 4) (pa_cons (pv 2) pa_nil))))
        (pa_cons (pe_call GC hr rfl T.D_cost_of.m T.D_cost_of.F.kp T.D_cost_of.b .nil pass0 (pa_cons (pe_fld (pv 0) rfl) (pa_cons (pv 4) pa_nil))) pa_nil)))))))))), ?_⟩
    cases q with
    | flow s1 t1 f =>
      have hz' : At ns k (s1 :: t1 :: ((f.length : Int) :: f)) := hz
      clear hz
      obtain ⟨e1, hz⟩ := At.head hz'
      obtain ⟨e2, hz⟩ := At.head hz
      refine ⟨_, rfl, take_at hD e1 fun H1 b1 D1 => ?_⟩
      refine ⟨_, rfl, take_at D1 e2 fun H2 b2 D2 => ?_⟩
      refine ⟨_, rfl, row_at D2 hz fun H3 x b3 D3 hxr hx => ?_⟩
      have b03 : But2 l r H H3 := ((But2.of_r b1).trans (But2.of_r b2)).trans (But2.of_r b3)
      have ek : k + (zTail (.flow s1 t1 f)).length = k + 1 + 1 + 1 + f.length := by
        show k + (s1 :: t1 :: (f.length : Int) :: f).length = _
        simp; omega
      have give : ∀ (H4 : Hp) (v : List Int), Same H3 H4 → ((Sf13.does n (.flow s1 t1 f)).2.v :: (Sf13.does n (.flow s1 t1 f)).2.l) = v → ∀ z : Addr, H4 z = none → Q (.ref z) (upd H4 z (.lst (v.map V.int))) := by
        intro H4 v s4 ev z hz0
        have D4 := D3.same s4
        have bt : But2 l r H H4 := b03.trans (But2.of_s s4)
        refine kk _ z ?_ ?_ (bt.fresh D4 hz0) (bt.trans (But2.of_s (Same.new hz0)))
        · rw [ek]; exact D4.same (Same.new hz0)
        · rw [upd_same, ev]
      refine ⟨_, rfl, _, rfl, s1, t1, rfl, _, rfl, ?_⟩
      refine ite2 (fun h => ?_) (fun h => ?_)
      · refine ⟨(by show 1 ≤ sizeLine; decide), fun z hz0 => give H3 [-1] (Same.refl _) ?_ z hz0⟩
        have h' : Sf13.two s1 t1 = false := by simpa using h
        simp only [Sf13.does, h', if_true]; rfl
      · have h' : Sf13.two s1 t1 = true := by simpa using h
        obtain ⟨g1, g2, g3, g4, g5⟩ := two_nodes h'
        obtain ⟨dx, hxn⟩ := D3.net.ins
        obtain ⟨as, hA⟩ := D3.net.arcs
        refine ⟨_, rfl, p, _, dx, _, _, rfl, hxn, T.cl_Net, T.na_Net_arcs, netF_arcs l, _, rfl, _, rfl, _, rfl, l, x, s1.toNat, t1.toNat, as, n, f, (by rw [← g1, ← g2]; rfl), hA, SqL.of hx, hN.few, fun H4 s4 => ⟨_, rfl, ?_⟩⟩
        refine ite2 (fun h2 => ?_) (fun h2 => ?_)
        · refine ⟨(by show 1 ≤ sizeLine; decide), fun z hz0 => give H4 [0] s4 ?_ z hz0⟩
          have h2' : Sf13.isFlow n s1.toNat t1.toNat f = false := by simpa using h2
          simp only [Sf13.does, h', h2', Bool.true_eq_false, Bool.false_eq_true, if_false]; rfl
        · have h2' : Sf13.isFlow n s1.toNat t1.toNat f = true := by simpa using h2
          have hl := isFlow_len h2'
          refine ⟨_, rfl, p, _, dx, _, _, rfl, s4 _ _ hxn, T.cl_Net, T.na_Net_arcs, netF_arcs l, _, rfl, _, rfl, l, x, s1.toNat, as, n, f, (by rw [← g1]; rfl), hA.same s4, SqL.of (s4 _ _ hx), hl, fun H5 s5 => ?_⟩
          refine ⟨_, rfl, p, _, dx, _, _, rfl, s5 _ _ (s4 _ _ hxn), T.cl_Net, T.na_Net_arcs, netF_arcs l, _, rfl, l, x, as, n, f, rfl, (hA.same s4).same s5, SqL.of (s5 _ _ (s4 _ _ hx)), hl, hN, fun H6 s6 => ?_⟩
          refine ⟨(by show 3 ≤ sizeLine; decide), fun z hz0 => give H6 [1, Sf13.out n f s1.toNat, Sf13.cost n f] ((s4.trans s5).trans s6) ?_ z hz0⟩
          simp only [Sf13.does, h', h2', Bool.true_eq_false, if_false, if_true]
    | _ => cases hq
theorem sc_answer_proves : FnScope ["net", "reader", "s", "t", "amounts", "prices", "proven"] ["net", "reader"] (defScope s_answer_proves) := ⟨rfl, rfl, rfl, by decide +kernel, rfl, by decide +kernel, by decide +kernel⟩
theorem ok_answer_proves (T : Txt K mg a) : FnOk P w K mg base CX0 3 a.f_answer_proves a.d_answer_proves ["net", "reader"] (spPart a K zTail isProves) := by
  have GT : FnOk P w K mg base CX0 2 a.f_Reader_take a.d_Reader_take ["self"] (spTake a K) := (ok_Reader_take T).mono (by decide)
  have GW : FnOk P w K mg base CX0 2 a.f_Reader_take_row a.d_Reader_take_row ["self"] (spTakeRow a K) := ok_Reader_take_row T
  have G2 : FnOk P w K mg base CX0 2 a.f_are_two_nodes a.d_are_two_nodes ["first", "second"] spTwo := ok_are_two_nodes T
  have GF : FnOk P w K mg base CX0 2 a.f_is_flow a.d_is_flow ["arcs", "amounts", "s", "t"] (spIsFlow a K) := ok_is_flow T
  have GP : FnOk P w K mg base CX0 2 a.f_prices_go_with a.d_prices_go_with ["arcs", "amounts", "prices", "s"] (spGoWith a K) := ok_prices_go_with T
  refine T.D_answer_proves.F.ok sc_answer_proves (fun vs H Q E h => ?_) (fun cdv A outer s H vs Q E hr h => ?_)
  · obtain ⟨p, l, r, c, n, ns, k, q, rfl, _⟩ := h
    rfl
  · obtain ⟨p, l, r, c, n, ns, k, q, rfl, hD, hz, hq, hN, hF, kk⟩ := h
    have nd := sc_answer_proves.nd
    obtain ⟨ur, rr, hur⟩ := T.k_REFUSED
    refine ⟨_, pss_cons (ps_set (i := 2) nd rfl (Or.inl rfl) (pe_meth0 (pv 1) T.cl_Reader T.M_Reader_take.m GT hr T.M_Reader_take.b .nil pass0))
      (pss_cons (ps_set (i := 3) nd rfl (Or.inl rfl) (pe_meth0 (pv 1) T.cl_Reader T.M_Reader_take.m GT hr T.M_Reader_take.b .nil pass0))
      (pss_cons (ps_set (i := 4) nd rfl (Or.inl rfl) (pe_meth0 (pv 1) T.cl_Reader T.M_Reader_take_row.m GW hr T.M_Reader_take_row.b .nil pass0))
      (pss_cons (ps_set (i := 5) nd rfl (Or.inl rfl) (pe_meth0 (pv 1) T.cl_Reader T.M_Reader_take_row.m GW hr T.M_Reader_take_row.b .nil pass0))
      (pss_cons (ps_if (pt_not (pt_val (pe_call G2 hr rfl T.D_are_two_nodes.m T.D_are_two_nodes.F.kp T.D_are_two_nodes.b .nil pass0 (pa_cons (pv 2) (pa_cons (pv 3) pa_nil))))) (pss_one (ps_ret (pe_lst (pa_cons (pe_glob rfl hur rr) pa_nil)))) pss_nil)
      (pss_cons (ps_set (i := 6) nd rfl (Or.inl rfl) (pe_and (pe_call GF hr rfl T.D_is_flow.m T.D_is_flow.F.kp T.D_is_flow.b .nil pass0 (pa_cons (pe_fld (pv 0) rfl) (pa_cons (pv 4) (pa_cons (pv 2) (pa_cons (pv 3) pa_nil)))))
        (pe_one (pe_call GP hr rfl T.D_prices_go_with.m T.D_prices_go_with.F.kp T.D_prices_go_with.b .nil pass0 (pa_cons (pe_fld (pv 0) rfl) (pa_cons (pv 4) (pa_cons (pv 5) (pa_cons (pv 2) pa_nil))))))))
      (pss_one (ps_ret (pe_lst (pa_cons (pe_ifExp (pt_val (pv 6)) pe_int pe_int) pa_nil))))))))), ?_⟩
    cases q with
    | proves s1 t1 f ps =>
      have hz' : At ns k (s1 :: t1 :: (((f.length : Int) :: f) ++ ((ps.length : Int) :: ps))) := hz
      clear hz
      obtain ⟨e1, hz⟩ := At.head hz'
      obtain ⟨e2, hz⟩ := At.head hz
      obtain ⟨hz1, hz2⟩ := At.split hz
      have hps : ps.length ≤ 64 := hF.2.2.2.1
      refine ⟨_, rfl, take_at hD e1 fun H1 b1 D1 => ?_⟩
      refine ⟨_, rfl, take_at D1 e2 fun H2 b2 D2 => ?_⟩
      refine ⟨_, rfl, row_at D2 hz1 fun H3 x b3 D3 hxr hx => ?_⟩
      have hz3 : At ns (k + 1 + 1 + 1 + f.length) ((ps.length : Int) :: ps) := by
        have e : k + 1 + 1 + ((f.length : Int) :: f).length = k + 1 + 1 + 1 + f.length := by simp; omega
        rw [← e]; exact hz2
      refine ⟨_, rfl, row_at D3 hz3 fun H4 y b4 D4 hyr hy4 => ?_⟩
      have hx4 := b4 _ _ hx hxr
      have b04 : But2 l r H H4 := (((But2.of_r b1).trans (But2.of_r b2)).trans (But2.of_r b3)).trans (But2.of_r b4)
      have ek : k + (zTail (.proves s1 t1 f ps)).length = k + 1 + 1 + 1 + f.length + 1 + ps.length := by
        show k + (s1 :: t1 :: (f.length : Int) :: (f ++ (ps.length : Int) :: ps)).length = _
        simp; omega
      have give : ∀ (H5 : Hp) (v : List Int), Same H4 H5 → ((Sf13.does n (.proves s1 t1 f ps)).2.v :: (Sf13.does n (.proves s1 t1 f ps)).2.l) = v → ∀ z : Addr, H5 z = none → Q (.ref z) (upd H5 z (.lst (v.map V.int))) := by
        intro H5 v s5 ev z hz0
        have D5 := D4.same s5
        have bt : But2 l r H H5 := b04.trans (But2.of_s s5)
        refine kk _ z ?_ ?_ (bt.fresh D5 hz0) (bt.trans (But2.of_s (Same.new hz0)))
        · rw [ek]; exact D5.same (Same.new hz0)
        · rw [upd_same, ev]
      refine ⟨_, rfl, _, rfl, s1, t1, rfl, _, rfl, ?_⟩
      refine ite2 (fun h => ?_) (fun h => ?_)
      · refine ⟨(by show 1 ≤ sizeLine; decide), fun z hz0 => give H4 [-1] (Same.refl _) ?_ z hz0⟩
        have h' : Sf13.two s1 t1 = false := by simpa using h
        simp only [Sf13.does, h', if_true]; rfl
      · have h' : Sf13.two s1 t1 = true := by simpa using h
        obtain ⟨g1, g2, g3, g4, g5⟩ := two_nodes h'
        obtain ⟨dx, hxn⟩ := D4.net.ins
        obtain ⟨as, hA⟩ := D4.net.arcs
        have hdoes : ((Sf13.does n (.proves s1 t1 f ps)).2.v :: (Sf13.does n (.proves s1 t1 f ps)).2.l) = [if Sf13.isFlow n s1.toNat t1.toNat f = true ∧ Sf13.isProof n s1.toNat f (Sf13.padded ps) = true then 1 else 0] := by
          simp only [Sf13.does, h', Bool.true_eq_false, if_false]; rfl
        refine ⟨_, rfl, p, _, dx, _, _, rfl, hxn, T.cl_Net, T.na_Net_arcs, netF_arcs l, _, rfl, _, rfl, _, rfl, l, x, s1.toNat, t1.toNat, as, n, f, (by rw [← g1, ← g2]; rfl), hA, SqL.of hx4, hN.few, fun H5 s5 => ⟨_, rfl, ?_⟩⟩
        refine ite2 (fun h2 => ?_) (fun h2 => ?_)
        · have hl := isFlow_len h2
          refine ⟨_, rfl, p, _, dx, _, _, rfl, s5 _ _ hxn, T.cl_Net, T.na_Net_arcs, netF_arcs l, _, rfl, _, rfl, _, rfl, l, x, y, s1.toNat, as, n, f, ps, (by rw [← g1]; rfl), hA.same s5, SqL.of (s5 _ _ hx4), s5 _ _ hy4, hN, hl, g3, hps, fun H6 s6 => ?_⟩
          refine ⟨_, rfl, _, rfl, ?_⟩
          rw [h2] at hdoes
          refine ite2 (fun h3 => ?_) (fun h3 => ?_)
          · refine ⟨(by show 1 ≤ sizeLine; decide), fun z hz0 => give H6 [1] (s5.trans s6) ?_ z hz0⟩
            rw [hdoes, if_pos ⟨rfl, h3⟩]
          · refine ⟨(by show 1 ≤ sizeLine; decide), fun z hz0 => give H6 [0] (s5.trans s6) ?_ z hz0⟩
            rw [hdoes, if_neg (fun z => by rw [z.2] at h3; simp at h3)]
        · refine ⟨_, rfl, _, rfl, iteF ?_⟩
          refine ⟨(by show 1 ≤ sizeLine; decide), fun z hz0 => give H5 [0] s5 ?_ z hz0⟩
          rw [hdoes, if_neg (fun z => by rw [z.1] at h2; simp at h2)]
    | _ => cases hq
end
end NP
end
section
set_option Elab.async false
set_option maxRecDepth 100000
set_option maxHeartbeats 2000000
namespace NP
open PySem PySem.Spec PyProof.Rows L2
open PySem.W (Codec WData)
theorem eqT {z : Int} {A B : Prop} (h : A) : if decide (V.int z = V.int z) = true then A else B := by
  rw [decide_eq_true rfl]; exact iteT h
theorem eqF {z y : Int} {A B : Prop} (hn : z ≠ y) (h : B) : if decide (V.int z = V.int y) = true then A else B := by
  rw [decide_eq_false (by intro e; injection e with e; exact hn e)]; exact iteF h
section
variable {P : Program} {w : World} {K : PySem.W.Frag} {mg : Str → Option Value} {base : Heap} {a : Adr}
noncomputable def Can (_ : Sf13.Call) : Prop := True
theorem flat_len (k : Nat) (q : Sf13.Call) : k + (NF.flat q).length = k + 1 + (zTail q).length := by
  unfold zTail
  rw [List.length_tail]
  have : 0 < (NF.flat q).length := by cases q <;> simp [NF.flat]
  omega
theorem sc_answer_next : FnScope ["net", "reader", "call"] ["net", "reader"] (defScope s_answer_next) := ⟨rfl, rfl, rfl, by decide +kernel, rfl, by decide +kernel, by decide +kernel⟩
theorem ok_answer_next (T : Txt K mg a) : FnOk P w K mg base CX0 6 a.f_answer_next a.d_answer_next ["net", "reader"] (spPart a K NF.flat Can) := by
  have GT : FnOk P w K mg base CX0 5 a.f_Reader_take a.d_Reader_take ["self"] (spTake a K) := (ok_Reader_take T).mono (by decide)
  have GA : FnOk P w K mg base CX0 5 a.f_answer_arc a.d_answer_arc ["net", "reader"] (spPart a K zTail isArc) := (ok_answer_arc T).mono (by decide)
  have GD : FnOk P w K mg base CX0 5 a.f_Net_drop_arc a.d_Net_drop_arc ["self"] (spDrop a) := (ok_Net_drop_arc T).mono (by decide)
  have GM : FnOk P w K mg base CX0 5 a.f_answer_most a.d_answer_most ["net", "reader"] (spPart a K zTail isMost) := ok_answer_most T
  have GC : FnOk P w K mg base CX0 5 a.f_answer_cut a.d_answer_cut ["net", "reader"] (spPart a K zTail isCut) := ok_answer_cut T
  have GE : FnOk P w K mg base CX0 5 a.f_answer_cheapest a.d_answer_cheapest ["net", "reader"] (spPart a K zTail isCheapest) := ok_answer_cheapest T
  have GF : FnOk P w K mg base CX0 5 a.f_answer_flow a.d_answer_flow ["net", "reader"] (spPart a K zTail isFlowC) := (ok_answer_flow T).mono (by decide)
  have GP : FnOk P w K mg base CX0 5 a.f_answer_proves a.d_answer_proves ["net", "reader"] (spPart a K zTail isProves) := (ok_answer_proves T).mono (by decide)
  refine T.D_answer_next.F.ok sc_answer_next (fun vs H Q E h => ?_) (fun cdv A outer s H vs Q E hr h => ?_)
  · obtain ⟨p, l, r, c, n, ns, k, q, rfl, _⟩ := h
    rfl
  · obtain ⟨p, l, r, c, n, ns, k, q, rfl, hD, hz, hq, hN, hF, kk⟩ := h
    have nd := sc_answer_next.nd
    obtain ⟨u1, r1, h1⟩ := T.k_ARC
    obtain ⟨u2, r2, h2⟩ := T.k_DROP
    obtain ⟨u3, r3, h3⟩ := T.k_MOST
    obtain ⟨u4, r4, h4⟩ := T.k_CUT
    obtain ⟨u5, r5, h5⟩ := T.k_CHEAPEST
    obtain ⟨u6, r6, h6⟩ := T.k_FLOW
    obtain ⟨u7, r7, h7⟩ := T.k_PROVES
    refine ⟨_, pss_cons (ps_set (i := 2) nd rfl (Or.inl rfl) (pe_meth0 (pv 1) T.cl_Reader T.M_Reader_take.m GT hr T.M_Reader_take.b .nil pass0))
      (pss_cons (ps_if (pt_cmpR op_eq (pv 2) (pe_glob rfl h1 r1) (nomark _)) (pss_one (ps_ret (pe_call GA hr rfl T.D_answer_arc.m T.D_answer_arc.F.kp T.D_answer_arc.b .nil pass0 (pa_cons (pv 0) (pa_cons (pv 1) pa_nil))))) pss_nil)
      (pss_cons (ps_if (pt_cmpR op_eq (pv 2) (pe_glob rfl h2 r2) (nomark _)) (pss_one (ps_ret (pe_lst (pa_cons (pe_meth0 (pv 0) T.cl_Net T.M_Net_drop_arc.m GD hr T.M_Net_drop_arc.b .nil pass0) pa_nil)))) pss_nil)
      (pss_cons (ps_if (pt_cmpR op_eq (pv 2) (pe_glob rfl h3 r3) (nomark _)) (pss_one (ps_ret (pe_call GM hr rfl T.D_answer_most.m T.D_answer_most.F.kp T.D_answer_most.b .nil pass0 (pa_cons (pv 0) (pa_cons (pv 1) pa_nil))))) pss_nil)
      (pss_cons (ps_if (pt_cmpR op_eq (pv 2) (pe_glob rfl h4 r4) (nomark _)) (pss_one (ps_ret (pe_call GC hr rfl T.D_answer_cut.m T.D_answer_cut.F.kp T.D_answer_cut.b .nil pass0 (pa_cons (pv 0) (pa_cons (pv 1) pa_nil))))) pss_nil)
      (pss_cons (ps_if (pt_cmpR op_eq (pv 2) (pe_glob rfl h5 r5) (nomark _)) (pss_one (ps_ret (pe_call GE hr rfl T.D_answer_cheapest.m T.D_answer_cheapest.F.kp T.D_answer_cheapest.b .nil pass0 (pa_cons (pv 0) (pa_cons (pv 1) pa_nil))))) pss_nil)
      (pss_cons (ps_if (pt_cmpR op_eq (pv 2) (pe_glob rfl h6 r6) (nomark _)) (pss_one (ps_ret (pe_call GF hr rfl T.D_answer_flow.m T.D_answer_flow.F.kp T.D_answer_flow.b .nil pass0 (pa_cons (pv 0) (pa_cons (pv 1) pa_nil))))) pss_nil)
      (pss_cons (ps_if (pt_cmpR op_eq (pv 2) (pe_glob rfl h7 r7) (nomark _)) (pss_one (ps_ret (pe_call GP hr rfl T.D_answer_proves.m T.D_answer_proves.F.kp T.D_answer_proves.b .nil pass0 (pa_cons (pv 0) (pa_cons (pv 1) pa_nil))))) pss_nil)
      pss_never))))))), ?_⟩
    cases q with
    | arc o g x y =>
      obtain ⟨e1, hz1⟩ := At.head hz
      refine ⟨_, rfl, take_at hD e1 fun H1 b1 D1 => ?_⟩
      refine ⟨_, rfl, rfl, _, rfl, eqT ?_⟩
      refine ⟨_, rfl, _, rfl, p, l, r, c, n, ns, k + 1, .arc o g x y, rfl, D1, hz1, rfl, hN, hF, fun H' x' hD' hx' hl' hb' => ?_⟩
      exact kk H' x' hD' hx' ((But2.of_r b1).fresh D1 hl') ((But2.of_r b1).trans hb')
    | drop =>
      obtain ⟨e1, hz1⟩ := At.head hz
      refine ⟨_, rfl, take_at hD e1 fun H1 b1 D1 => ?_⟩
      refine ⟨_, rfl, rfl, _, rfl, eqF (by decide) ?_⟩
      refine ⟨_, rfl, rfl, _, rfl, eqT ?_⟩
      obtain ⟨dx, hx⟩ := D1.net.ins
      refine ⟨_, rfl, p, dx, _, rfl, hx, netF_no l (by decide +kernel), p, l, n, rfl, D1.net, fun H2 n2 b2 => ?_⟩
      refine ⟨(by show 1 ≤ sizeLine; decide), fun z hz0 => ?_⟩
      have hl0 : (Sf13.does n .drop).2.l = [] := by
        simp only [Sf13.does]; split <;> rfl
      have bt : But2 l r H H2 := (But2.of_r b1).trans (But2.of_l b2)
      refine kk _ z ((D1.changed b2 n2).same (Same.new hz0)) ?_ (bt.fresh (D1.changed b2 n2) hz0) (bt.trans (But2.of_s (Same.new hz0)))
      rw [upd_same, hl0]; rfl
    | most s1 t1 =>
      obtain ⟨e1, hz1⟩ := At.head hz
      refine ⟨_, rfl, take_at hD e1 fun H1 b1 D1 => ?_⟩
      refine ⟨_, rfl, rfl, _, rfl, eqF (by decide) ?_⟩
      refine ⟨_, rfl, rfl, _, rfl, eqF (by decide) ?_⟩
      refine ⟨_, rfl, rfl, _, rfl, eqT ?_⟩
      refine ⟨_, rfl, _, rfl, p, l, r, c, n, ns, k + 1, .most s1 t1, rfl, D1, hz1, trivial, hN, hF, fun H' x' hD' hx' hl' hb' => ?_⟩
      exact kk H' x' hD' hx' ((But2.of_r b1).fresh D1 hl') ((But2.of_r b1).trans hb')
    | cut s1 t1 =>
      obtain ⟨e1, hz1⟩ := At.head hz
      refine ⟨_, rfl, take_at hD e1 fun H1 b1 D1 => ?_⟩
      refine ⟨_, rfl, rfl, _, rfl, eqF (by decide) ?_⟩
      refine ⟨_, rfl, rfl, _, rfl, eqF (by decide) ?_⟩
      refine ⟨_, rfl, rfl, _, rfl, eqF (by decide) ?_⟩
      refine ⟨_, rfl, rfl, _, rfl, eqT ?_⟩
      refine ⟨_, rfl, _, rfl, p, l, r, c, n, ns, k + 1, .cut s1 t1, rfl, D1, hz1, trivial, hN, hF, fun H' x' hD' hx' hl' hb' => ?_⟩
      exact kk H' x' hD' hx' ((But2.of_r b1).fresh D1 hl') ((But2.of_r b1).trans hb')
    | cheapest s1 t1 v1 =>
      obtain ⟨e1, hz1⟩ := At.head hz
      refine ⟨_, rfl, take_at hD e1 fun H1 b1 D1 => ?_⟩
      refine ⟨_, rfl, rfl, _, rfl, eqF (by decide) ?_⟩
      refine ⟨_, rfl, rfl, _, rfl, eqF (by decide) ?_⟩
      refine ⟨_, rfl, rfl, _, rfl, eqF (by decide) ?_⟩
      refine ⟨_, rfl, rfl, _, rfl, eqF (by decide) ?_⟩
      refine ⟨_, rfl, rfl, _, rfl, eqT ?_⟩
      refine ⟨_, rfl, _, rfl, p, l, r, c, n, ns, k + 1, .cheapest s1 t1 v1, rfl, D1, hz1, trivial, hN, hF, fun H' x' hD' hx' hl' hb' => ?_⟩
      refine kk H' x' ?_ hx' ((But2.of_r b1).fresh D1 hl') ((But2.of_r b1).trans hb')
      rw [flat_len]; exact hD'
    | flow s1 t1 f =>
      obtain ⟨e1, hz1⟩ := At.head hz
      refine ⟨_, rfl, take_at hD e1 fun H1 b1 D1 => ?_⟩
      refine ⟨_, rfl, rfl, _, rfl, eqF (by decide) ?_⟩
      refine ⟨_, rfl, rfl, _, rfl, eqF (by decide) ?_⟩
      refine ⟨_, rfl, rfl, _, rfl, eqF (by decide) ?_⟩
      refine ⟨_, rfl, rfl, _, rfl, eqF (by decide) ?_⟩
      refine ⟨_, rfl, rfl, _, rfl, eqF (by decide) ?_⟩
      refine ⟨_, rfl, rfl, _, rfl, eqT ?_⟩
      refine ⟨_, rfl, _, rfl, p, l, r, c, n, ns, k + 1, .flow s1 t1 f, rfl, D1, hz1, trivial, hN, hF, fun H' x' hD' hx' hl' hb' => ?_⟩
      refine kk H' x' ?_ hx' ((But2.of_r b1).fresh D1 hl') ((But2.of_r b1).trans hb')
      rw [flat_len]; exact hD'
    | proves s1 t1 f ps =>
      obtain ⟨e1, hz1⟩ := At.head hz
      refine ⟨_, rfl, take_at hD e1 fun H1 b1 D1 => ?_⟩
      refine ⟨_, rfl, rfl, _, rfl, eqF (by decide) ?_⟩
      refine ⟨_, rfl, rfl, _, rfl, eqF (by decide) ?_⟩
      refine ⟨_, rfl, rfl, _, rfl, eqF (by decide) ?_⟩
      refine ⟨_, rfl, rfl, _, rfl, eqF (by decide) ?_⟩
      refine ⟨_, rfl, rfl, _, rfl, eqF (by decide) ?_⟩
      refine ⟨_, rfl, rfl, _, rfl, eqF (by decide) ?_⟩
      refine ⟨_, rfl, rfl, _, rfl, eqT ?_⟩
      refine ⟨_, rfl, _, rfl, p, l, r, c, n, ns, k + 1, .proves s1 t1 f ps, rfl, D1, hz1, trivial, hN, hF, fun H' x' hD' hx' hl' hb' => ?_⟩
      refine kk H' x' ?_ hx' ((But2.of_r b1).fresh D1 hl') ((But2.of_r b1).trans hb')
      rw [flat_len]; exact hD'
end
end NP
end
section
set_option Elab.async false
set_option maxRecDepth 100000
set_option maxHeartbeats 2000000
namespace NP
open PySem PySem.Spec PyProof.Rows L2
open PySem.W (Codec WData)
section
variable {P : Program} {w : World} {K : PySem.W.Frag} {mg : Str → Option Value} {base : Heap} {a : Adr}
inductive SpAnswers (K : PySem.W.Frag) (vs : List V) (H : Hp) (Q : VK) : Prop
  | mk (c : Addr) (ns : List Int) (cs : List Sf13.Call) (h0 : vs = [.ref c]) (h1 : HeldL K H c (ns.map V.int)) (h2 : ns = NF.flats cs) (h3 : cs.length ≤ 60) (h4 : (∀ q, q ∈ cs → NF.Fine q ∧ Can q)) (h5 : NF.arcs cs ≤ 12) (h6 : ∀ (H' : Hp) (x : Addr), H' x = some (.lst ((NF.tell [] cs).map V.int)) → Q (.ref x) H') : SpAnswers K vs H Q
noncomputable def spAnswers (K : PySem.W.Frag) : Sp := fun vs H Q _ => SpAnswers K vs H Q
theorem sc_answers : FnScope ["calls", "net", "reader", "told", "answer"] ["calls"] (defScope s_answers) := ⟨rfl, rfl, rfl, by decide +kernel, rfl, by decide +kernel, by decide +kernel⟩
theorem flats_append : ∀ (xs ys : List Sf13.Call), NF.flats (xs ++ ys) = NF.flats xs ++ NF.flats ys
  | [], ys => rfl
  | x :: xs, ys => by simp [NF.flats, flats_append xs ys]
theorem flat_pos (q : Sf13.Call) : 0 < (NF.flat q).length := by cases q <;> simp [NF.flat]
theorem ans_len (n : Sf13.Abs) (q : Sf13.Call) : (Sf13.does n q).2.l.length ≤ 2 := by
  cases q <;> simp only [Sf13.does] <;> (repeat' split) <;> simp [Sf13.ok]
structure AI (a : Adr) (K : PySem.W.Frag) (H : Hp) (p l r c x : Addr) (ns : List Int) (cs done rest : List Sf13.Call) (n : Sf13.Abs) (out : List Int) : Prop where
  desk : DeskAt a K H p l n r c (ns.map V.int) (NF.flats done).length
  told : H x = some (.lst (out.map V.int))
  xl : x ≠ l
  all : cs = done ++ rest
  net : NF.Net12 n
  few : n.length + NF.arcs rest ≤ 12
  eq : NF.tell [] cs = out ++ NF.tell n rest
  len : out.length ≤ 4 * done.length
theorem line300 : 300 < sizeLine := by decide
inductive AnW (a : Adr) (K : PySem.W.Frag) (p : Addr) (l : Addr) (r : Addr) (c : Addr) (x : Addr) (ns : List Int) (cs : List Sf13.Call) (m : Nat) (σ : L2.St) (H' : Hp) : Prop
  | mk (done rest : List Sf13.Call) (n : Sf13.Abs) (out : List Int) (v4 : Option V) (h0 : m = rest.length) (h1 : σ = [some (.ref c), some (.ref p), some (.ref r), some (.ref x), v4]) (h2 : AI a K H' p l r c x ns cs done rest n out) : AnW a K p l r c x ns cs m σ H'
inductive AnN (a : Adr) (K : PySem.W.Frag) (p : Addr) (l : Addr) (r : Addr) (c : Addr) (x : Addr) (ns : List Int) (cs : List Sf13.Call) (done : List Sf13.Call) (rest : List Sf13.Call) (q : Sf13.Call) (σ' : L2.St) (H'' : Hp) : Prop
  | mk (n : Sf13.Abs) (out : List Int) (v4 : Option V) (h0 : σ' = [some (.ref c), some (.ref p), some (.ref r), some (.ref x), v4]) (h1 : AI a K H'' p l r c x ns cs (done ++ [q]) rest n out) : AnN a K p l r c x ns cs done rest q σ' H''
theorem ok_answers (T : Txt K mg a) : FnOk P w K mg base CX0 7 a.f_answers a.d_answers ["calls"] (spAnswers K) := by
  have GN : FnOk P w K mg base CX0 5 a.f_Net_init a.d_Net_init ["self"] (spNetInit a) := (ok_Net_init T).mono (by decide)
  have GR : FnOk P w K mg base CX0 5 a.f_Reader_init a.d_Reader_init ["self", "numbers"] (spReaderInit a) := (ok_Reader_init T).mono (by decide)
  have GM : FnOk P w K mg base CX0 6 a.f_Reader_has_more a.d_Reader_has_more ["self"] (spMore a K) := (ok_Reader_has_more T).mono (by decide)
  have GX : FnOk P w K mg base CX0 6 a.f_answer_next a.d_answer_next ["net", "reader"] (spPart a K NF.flat Can) := ok_answer_next T
  refine T.D_answers.F.ok sc_answers (fun vs H Q E h => ?_) (fun cdv A outer s H vs Q E hr h => ?_)
  · obtain ⟨c, ns, cs, rfl, _⟩ := h
    rfl
  · obtain ⟨c, ns, cs, rfl, hc, hns, h60, hok, h12, kk⟩ := h
    have nd := sc_answers.nd
    refine ⟨_, pss_cons (ps_set (i := 1) nd rfl (Or.inl rfl) (pe_make0 T.M_Net_init.m GN hr rfl T.mg_Net T.M_Net_init.b .nil pass0))
      (pss_cons (ps_set (i := 2) nd rfl (Or.inl rfl) (pe_make T.M_Reader_init.m GR hr rfl T.mg_Reader T.M_Reader_init.b .nil pass0 (pa_cons (pv 0) pa_nil)))
      (pss_cons (ps_set (i := 3) nd rfl (Or.inl rfl) (pe_lst pa_nil))
      (pss_cons (ps_while PassesOwn.never (pt_val (pe_meth0 (pv 2) T.cl_Reader T.M_Reader_has_more.m GM hr T.M_Reader_has_more.b .nil pass0))
        (pss_cons (ps_set (i := 4) nd rfl (Or.inl rfl) (pe_call GX hr rfl T.D_answer_next.m T.D_answer_next.F.kp T.D_answer_next.b .nil pass0 (pa_cons (pv 1) (pa_cons (pv 2) pa_nil))))
        (pss_cons (ps_expr (pe_bm PySem.F.plainAttrs_list PySem.F.slot_list_append PySem.F.type_list_append mt_append (pv 3) (pa_cons (pe_callB call_len_seq (by rfl) T.b_len PySem.boot_len (pa_cons (pv 4) pa_nil)) pa_nil)))
        (pss_one (ps_expr (pe_bm PySem.F.plainAttrs_list PySem.F.slot_list_extend PySem.F.type_list_extend mt_extend (pv 3) (pa_cons (pv 4) pa_nil)))))))
      (pss_one (ps_ret (pv 3)))))), ?_⟩
    -- net = Net()
    intro p dx np ndx nex
    refine ⟨p, dx, rfl, upd_same, fun H1 l hl hlp hnet b1 => ⟨rfl, ?_⟩⟩
    have s1 : Same H H1 := Same.made np ndx b1
    -- reader = Reader(calls)
    refine ⟨_, rfl, ?_⟩
    intro r dy nr ndy ney
    refine ⟨r, dy, c, rfl, upd_same, fun H2 hrd b2 => ⟨rfl, ?_⟩⟩
    have s2 : Same H1 H2 := Same.made nr ndy b2
    -- told = []
    refine ⟨Nat.zero_le _, fun x hx => ?_⟩
    have s3 : Same H2 (upd H2 x (.lst [])) := Same.new hx
    have D0 : DeskAt a K H2 p l [] r c (ns.map V.int) 0 := ⟨hnet.same s2, hrd, (hc.same s1).same s2⟩
    have hxl : x ≠ l := by obtain ⟨as, hA⟩ := D0.net.arcs; exact Ne.symm (ne_of_none hA.lst hx)
    have I0 : AI a K (upd H2 x (.lst [])) p l r c x ns cs [] cs [] [] := ⟨D0.same s3, upd_same, hxl, rfl, NF.net_start, by simpa using h12, rfl, by simp⟩
    refine ⟨AnW a K p l r c x ns cs,
      ⟨_, [], cs, [], [], none, rfl, rfl, I0⟩, ?_⟩
    rintro m σ H' ⟨done, rest, n, out, v4, rfl, rfl, I⟩
    obtain ⟨dz, hz⟩ := I.desk.rd
    refine ⟨_, rfl, r, dz, _, rfl, hz, rdF_no c _ (by decide +kernel) (by decide +kernel), r, c, _, _, rfl, I.desk.rd, I.desk.held.seq, _, rfl, ?_⟩
    have hsplit : ns = NF.flats done ++ NF.flats rest := by rw [hns, I.all, flats_append]
    cases rest with
    | nil =>
      have hno : decide (((NF.flats done).length : Int) < ((ns.map V.int).length : Int)) = false := by
        rw [hsplit]; simp [NF.flats]
      rw [hno]
      refine iteF ⟨_, rfl, ?_⟩
      have e := I.eq
      rw [show NF.tell n [] = [] from rfl, List.append_nil] at e
      have := I.told
      rw [← e] at this
      exact kk H' x this
    | cons q rest =>
      have hyes : decide (((NF.flats done).length : Int) < ((ns.map V.int).length : Int)) = true := by
        have := flat_pos q
        rw [hsplit]; simp [NF.flats]; omega
      rw [hyes]
      refine iteT ?_
      have hmem : q ∈ cs := by rw [I.all]; simp
      have few := I.few
      simp only [NF.arcs] at few
      have hstep := NF.does_net (k := 12 - NF.arcs rest) I.net q (by omega) (by omega)
      refine ⟨AnN a K p l r c x ns cs done rest q,
        fun σ' H'' ⟨n, out, v4, h1, h2⟩ => ⟨rest.length, by simp, done ++ [q], rest, n, out, v4, rfl, h1, h2⟩, ?_⟩
      refine ⟨_, rfl, _, rfl, p, l, r, c, n, ns, _, q, rfl, I.desk, ⟨NF.flats rest, ?_⟩, (hok q hmem).2, I.net, (hok q hmem).1, fun H3 y D3 hy hyl b3 => ?_⟩
      · rw [hsplit, List.drop_left]; rfl
      have hxr : x ≠ r := ne_of I.told hz (by intro z; cases z)
      have hx3 := b3 _ _ I.told I.xl hxr
      have hlen := I.len
      have h4 : done.length + 1 + rest.length ≤ 60 := by
        have := congrArg List.length I.all
        simp at this; omega
      have hal := ans_len n q
      refine ⟨_, rfl, .inl ⟨rfl, _, SqL.of hx3⟩, _, rfl, y, _, rfl, .inl (SqL.of hy), x, _, _, rfl, rfl, hx3, (by rw [List.length_map]; exact Nat.lt_of_le_of_lt (show out.length ≤ 300 by omega) line300), ?_⟩
      have hyx : y ≠ x := Ne.symm (ne_of_none I.told hyl)
      refine ⟨_, rfl, .inl ⟨rfl, _, SqL.of upd_same⟩, _, rfl, x, y, _, _, rfl, rfl, upd_same, (by rw [upd_ne hyx]; exact hy), ?_, ?_⟩
      · simp; exact Nat.le_of_lt (Nat.lt_of_le_of_lt (show out.length + 1 + ((Sf13.does n q).2.l.length + 1) ≤ 300 by omega) line300)
      refine ⟨(Sf13.does n q).1, out ++ ((((Sf13.does n q).2.v :: (Sf13.does n q).2.l).length : Nat) : Int) :: ((Sf13.does n q).2.v :: (Sf13.does n q).2.l), _, rfl, ?_⟩
      have sx : ∀ u1 u2 : HO, But x H3 (upd (upd H3 x u1) x u2) := fun u1 u2 => But.upd.trans But.upd
      have sx' := sx
      have hxp : x ≠ p := by obtain ⟨dx, hp⟩ := D3.net.ins; exact ne_of hx3 hp (by intro z; cases z)
      have D4 : ∀ u1 u2 : HO, DeskAt a K (upd (upd H3 x u1) x u2) p l (Sf13.does n q).1 r c (ns.map V.int) ((NF.flats done).length + (NF.flat q).length) := by
        intro u1 u2
        have b := sx u1 u2
        obtain ⟨⟨⟨dx, hp⟩, as, hA⟩, ⟨dz, hz⟩, hc⟩ := D3
        refine ⟨⟨⟨dx, b _ _ hp (Ne.symm hxp)⟩, as, b _ _ hA.lst (Ne.symm I.xl), hA.len, fun j y2 x2 g1 g2 => ?_⟩, ⟨dz, b _ _ hz (Ne.symm hxr)⟩, hc.but b hx3 (by intro _ _ z; cases z)⟩
        obtain ⟨d5, h5⟩ := hA.at_ j y2 x2 g1 g2
        exact ⟨d5, b _ _ h5 (ne_of h5 hx3 (by intro z; cases z))⟩
      refine ⟨?_, ?_, I.xl, by rw [I.all]; simp, hstep.1, by have := hstep.2; omega, ?_, ?_⟩
      · have e : (NF.flats (done ++ [q])).length = (NF.flats done).length + (NF.flat q).length := by rw [flats_append]; simp [NF.flats]
        rw [e]; exact D4 _ _
      · rw [upd_same]; simp
      · rw [I.eq]; simp [NF.tell]
      · simp; omega
end
end NP
end
end
set_option Elab.async false
set_option maxRecDepth 100000
set_option maxHeartbeats 2000000
namespace NP
open PySem PySem.Spec PyProof.Rows L2
open PySem.W (Codec WData)
section
variable {P : Program} {w : World} {K : PySem.W.Frag} {mg : Str → Option Value}
theorem top_mk {fa : Addr} (hfa : mg "answers" = some (.ref fa)) (h : ∃ a : Adr, Txt K mg a) :
    ∃ fd : FuncData, (∀ (s : Shared) (us : List Value), us.length = (["calls"] : List Str).length → BindsTo s fd ⟨us, []⟩ ((["calls"] : List Str).zip us)) ∧ ∀ base : Heap, K.In base → base.Ns mainGlobals mg → FnOk P w K mg base CX0 7 fa fd ["calls"] (spAnswers K) := by
  obtain ⟨a, T⟩ := h
  have e := hfa.symm.trans T.D_answers.m
  cases e
  refine ⟨a.d_answers, fun s us hu => ?_, fun base _ _ => ok_answers T⟩
  obtain ⟨oc, od, kV, doc, pm, an, cdv, ct, osl, e, lk, hcd⟩ := T.D_answers.F.ex
  rw [e]
  exact NF.el1 (P := fun us => BindsTo s _ ⟨us, []⟩ (((["calls"] : List Str)).zip us)) (fun _ => .of_eq rfl) us hu
theorem asked_ok {K : PySem.W.Frag} {H : Hp} {xs : List V} {ns : List Int} (hO : OnlyF H) (hask : PySf13.answers_asked ns = true) (hx : DwAll K H xs [.list (ns.map WData.int)]) :
    spAnswers K xs H (fun v H' => Dw K H' v (.list ((PySf13.answers ns).map WData.int))) fun _ _ _ => False := by
  cases hx with
  | cons h1 h2 =>
    cases h2
    cases h1 with
    | lst hs ha =>
      have e := L2.ints_dw ns _ ha
      subst e
      obtain ⟨cs, e1, h60, hF, h12, eq⟩ := NF.request hask
      refine ⟨_, ns, cs, rfl, ?_, e1, h60, fun q hq => ⟨hF q hq, trivial⟩, h12, fun H' x hx => ?_⟩
      · rcases hs with (h | ⟨o, h⟩) | h
        · rcases hO _ with z | ⟨o, u, z⟩ <;> rw [z] at h <;> cases h
        · exact .inl ⟨o, h⟩
        · exact .inr h
      · rw [eq]; exact .lst (L2.SqL.of hx) (L2.dw_ints _)
end
end NP
open PySem PySem.W PyProof.Rows
set_option maxRecDepth 100000 in
set_option maxHeartbeats 0 in
theorem PySem.Challenge.cw_netflows_s01_answers_holds : PySem.Challenge.rw_netflows_s01_answers.Holds := by
  w_on; k_headS; (case hw => exact ⟨[.list [.int 2]], by decide +kernel, by decide +kernel⟩)
  k_fillS
  refine L2.walk_specK (r := PySem.Challenge.rw_netflows_s01_answers) (k := 7) (CX := L2.CX0) (ps := ["calls"]) (sp := NP.spAnswers) (by decide +kernel) rfl rfl ⟨rfl, by decide, by decide⟩ (fun w h Y => PySem.W.kIn_of Y) ?F ?S (fun _ _ _ _ z => z)
  case F =>
    intro w mg fa h Y KX G hmg
    refine NP.top_mk hmg ?top
    refine' NP.txt_mk KX G ?a_greatest_value ?l_greatest_value ?c_greatest_value ?k_greatest_value ?a_smallest_cut ?l_smallest_cut ?c_smallest_cut ?k_smallest_cut ?a_value_of ?l_value_of ?c_value_of ?k_value_of ?a_cost_of ?l_cost_of ?c_cost_of ?k_cost_of ?a_greatest_flow ?l_greatest_flow ?c_greatest_flow ?k_greatest_flow ?a_ways_from ?l_ways_from ?c_ways_from ?k_ways_from ?a_far_end ?l_far_end ?c_far_end ?k_far_end ?a_steps_to ?l_steps_to ?c_steps_to ?k_steps_to ?a_room_along ?l_room_along ?c_room_along ?k_room_along ?a_room ?l_room ?c_room ?k_room ?a_sent_along ?l_sent_along ?c_sent_along ?k_sent_along ?a_least_cost ?l_least_cost ?c_least_cost ?k_least_cost ?a_with_arc_taken_in ?l_with_arc_taken_in ?c_with_arc_taken_in ?k_with_arc_taken_in ?a_with_value_sent ?l_with_value_sent ?c_with_value_sent ?k_with_value_sent ?a_cheapest_ways ?l_cheapest_ways ?c_cheapest_ways ?k_cheapest_ways ?a_steps_with_room ?l_steps_with_room ?c_steps_with_room ?k_steps_with_room ?a_cost_along ?l_cost_along ?c_cost_along ?k_cost_along ?a_are_two_nodes ?l_are_two_nodes ?c_are_two_nodes ?k_are_two_nodes ?a_is_node ?l_is_node ?c_is_node ?k_is_node ?a_are_within_bounds ?l_are_within_bounds ?c_are_within_bounds ?k_are_within_bounds ?a_is_flow ?l_is_flow ?c_is_flow ?k_is_flow ?a_are_within_capacities ?l_are_within_capacities ?c_are_within_capacities ?k_are_within_capacities ?a_prices_go_with ?l_prices_go_with ?c_prices_go_with ?k_prices_go_with ?a_every_price ?l_every_price ?c_every_price ?k_every_price ?a_are_prices_within_bounds ?l_are_prices_within_bounds ?c_are_prices_within_bounds ?k_are_prices_within_bounds ?a_is_cost_fitting ?l_is_cost_fitting ?c_is_cost_fitting ?k_is_cost_fitting ?a_answers ?l_answers ?c_answers ?k_answers ?a_answer_next ?l_answer_next ?c_answer_next ?k_answer_next ?a_answer_arc ?l_answer_arc ?c_answer_arc ?k_answer_arc ?a_answer_most ?l_answer_most ?c_answer_most ?k_answer_most ?a_answer_cut ?l_answer_cut ?c_answer_cut ?k_answer_cut ?a_answer_cheapest ?l_answer_cheapest ?c_answer_cheapest ?k_answer_cheapest ?a_answer_flow ?l_answer_flow ?c_answer_flow ?k_answer_flow ?a_answer_proves ?l_answer_proves ?c_answer_proves ?k_answer_proves ?a_Arc ?pg_Arc ?hd_Arc ?po_Arc ?sa_Arc ?na_Arc_origin ?na_Arc_goal ?na_Arc_capacity ?na_Arc_cost ?m_Arc_init ?i_Arc_init ?l_Arc_init ?c_Arc_init ?k_Arc_init ?mk_Arc ?kc_Arc ?a_Net ?pg_Net ?hd_Net ?po_Net ?sa_Net ?na_Net_arcs ?m_Net_init ?i_Net_init ?l_Net_init ?c_Net_init ?k_Net_init ?mk_Net ?kc_Net ?m_Net_add_arc ?i_Net_add_arc ?l_Net_add_arc ?c_Net_add_arc ?k_Net_add_arc ?m_Net_drop_arc ?i_Net_drop_arc ?l_Net_drop_arc ?c_Net_drop_arc ?k_Net_drop_arc ?a_Reader ?pg_Reader ?hd_Reader ?po_Reader ?sa_Reader ?na_Reader_numbers ?na_Reader_place ?m_Reader_init ?i_Reader_init ?l_Reader_init ?c_Reader_init ?k_Reader_init ?mk_Reader ?kc_Reader ?m_Reader_has_more ?i_Reader_has_more ?l_Reader_has_more ?c_Reader_has_more ?k_Reader_has_more ?m_Reader_take ?i_Reader_take ?l_Reader_take ?c_Reader_take ?k_Reader_take ?m_Reader_take_row ?i_Reader_take_row ?l_Reader_take_row ?c_Reader_take_row ?k_Reader_take_row ?a_REFUSED ?a_NODES ?a_MOST_ARCS ?a_MOST_CAPACITY ?a_MOST_COST ?a_MOST_PRICE ?a_ARC ?a_DROP ?a_MOST ?a_CUT ?a_CHEAPEST ?a_FLOW ?a_PROVES ?a_NO_SUCH_FLOW ?z_all ?z_enumerate ?z_len ?z_list ?z_min ?z_range ?z_sum ?z_zip
    (case a_greatest_value => k_is)
    (case l_greatest_value => k_is)
    (case c_greatest_value => k_is)
    (case k_greatest_value => k_is)
    (case a_smallest_cut => k_is)
    (case l_smallest_cut => k_is)
    (case c_smallest_cut => k_is)
    (case k_smallest_cut => k_is)
    (case a_value_of => k_is)
    (case l_value_of => k_is)
    (case c_value_of => k_is)
    (case k_value_of => k_is)
    (case a_cost_of => k_is)
    (case l_cost_of => k_is)
    (case c_cost_of => k_is)
    (case k_cost_of => k_is)
    (case a_greatest_flow => k_is)
    (case l_greatest_flow => k_is)
    (case c_greatest_flow => k_is)
    (case k_greatest_flow => k_is)
    (case a_ways_from => k_is)
    (case l_ways_from => k_is)
    (case c_ways_from => k_is)
    (case k_ways_from => k_is)
    (case a_far_end => k_is)
    (case l_far_end => k_is)
    (case c_far_end => k_is)
    (case k_far_end => k_is)
    (case a_steps_to => k_is)
    (case l_steps_to => k_is)
    (case c_steps_to => k_is)
    (case k_steps_to => k_is)
    (case a_room_along => k_is)
    (case l_room_along => k_is)
    (case c_room_along => k_is)
    (case k_room_along => k_is)
    (case a_room => k_is)
    (case l_room => k_is)
    (case c_room => k_is)
    (case k_room => k_is)
    (case a_sent_along => k_is)
    (case l_sent_along => k_is)
    (case c_sent_along => k_is)
    (case k_sent_along => k_is)
    (case a_least_cost => k_is)
    (case l_least_cost => k_is)
    (case c_least_cost => k_is)
    (case k_least_cost => k_is)
    (case a_with_arc_taken_in => k_is)
    (case l_with_arc_taken_in => k_is)
    (case c_with_arc_taken_in => k_is)
    (case k_with_arc_taken_in => k_is)
    (case a_with_value_sent => k_is)
    (case l_with_value_sent => k_is)
    (case c_with_value_sent => k_is)
    (case k_with_value_sent => k_is)
    (case a_cheapest_ways => k_is)
    (case l_cheapest_ways => k_is)
    (case c_cheapest_ways => k_is)
    (case k_cheapest_ways => k_is)
    (case a_steps_with_room => k_is)
    (case l_steps_with_room => k_is)
    (case c_steps_with_room => k_is)
    (case k_steps_with_room => k_is)
    (case a_cost_along => k_is)
    (case l_cost_along => k_is)
    (case c_cost_along => k_is)
    (case k_cost_along => k_is)
    (case a_are_two_nodes => k_is)
    (case l_are_two_nodes => k_is)
    (case c_are_two_nodes => k_is)
    (case k_are_two_nodes => k_is)
    (case a_is_node => k_is)
    (case l_is_node => k_is)
    (case c_is_node => k_is)
    (case k_is_node => k_is)
    (case a_are_within_bounds => k_is)
    (case l_are_within_bounds => k_is)
    (case c_are_within_bounds => k_is)
    (case k_are_within_bounds => k_is)
    (case a_is_flow => k_is)
    (case l_is_flow => k_is)
    (case c_is_flow => k_is)
    (case k_is_flow => k_is)
    (case a_are_within_capacities => k_is)
    (case l_are_within_capacities => k_is)
    (case c_are_within_capacities => k_is)
    (case k_are_within_capacities => k_is)
    (case a_prices_go_with => k_is)
    (case l_prices_go_with => k_is)
    (case c_prices_go_with => k_is)
    (case k_prices_go_with => k_is)
    (case a_every_price => k_is)
    (case l_every_price => k_is)
    (case c_every_price => k_is)
    (case k_every_price => k_is)
    (case a_are_prices_within_bounds => k_is)
    (case l_are_prices_within_bounds => k_is)
    (case c_are_prices_within_bounds => k_is)
    (case k_are_prices_within_bounds => k_is)
    (case a_is_cost_fitting => k_is)
    (case l_is_cost_fitting => k_is)
    (case c_is_cost_fitting => k_is)
    (case k_is_cost_fitting => k_is)
    (case a_answers => k_is)
    (case l_answers => k_is)
    (case c_answers => k_is)
    (case k_answers => k_is)
    (case a_answer_next => k_is)
    (case l_answer_next => k_is)
    (case c_answer_next => k_is)
    (case k_answer_next => k_is)
    (case a_answer_arc => k_is)
    (case l_answer_arc => k_is)
    (case c_answer_arc => k_is)
    (case k_answer_arc => k_is)
    (case a_answer_most => k_is)
    (case l_answer_most => k_is)
    (case c_answer_most => k_is)
    (case k_answer_most => k_is)
    (case a_answer_cut => k_is)
    (case l_answer_cut => k_is)
    (case c_answer_cut => k_is)
    (case k_answer_cut => k_is)
    (case a_answer_cheapest => k_is)
    (case l_answer_cheapest => k_is)
    (case c_answer_cheapest => k_is)
    (case k_answer_cheapest => k_is)
    (case a_answer_flow => k_is)
    (case l_answer_flow => k_is)
    (case c_answer_flow => k_is)
    (case k_answer_flow => k_is)
    (case a_answer_proves => k_is)
    (case l_answer_proves => k_is)
    (case c_answer_proves => k_is)
    (case k_answer_proves => k_is)
    (case a_Arc => k_is)
    (case pg_Arc => k_is)
    (case hd_Arc => k_is)
    (case po_Arc => k_is)
    (case sa_Arc => k_is)
    (case na_Arc_origin => k_is)
    (case na_Arc_goal => k_is)
    (case na_Arc_capacity => k_is)
    (case na_Arc_cost => k_is)
    (case m_Arc_init => k_is)
    (case i_Arc_init => k_is)
    (case l_Arc_init => k_is)
    (case c_Arc_init => k_is)
    (case k_Arc_init => k_is)
    (case mk_Arc => k_is)
    (case kc_Arc => k_is)
    (case a_Net => k_is)
    (case pg_Net => k_is)
    (case hd_Net => k_is)
    (case po_Net => k_is)
    (case sa_Net => k_is)
    (case na_Net_arcs => k_is)
    (case m_Net_init => k_is)
    (case i_Net_init => k_is)
    (case l_Net_init => k_is)
    (case c_Net_init => k_is)
    (case k_Net_init => k_is)
    (case mk_Net => k_is)
    (case kc_Net => k_is)
    (case m_Net_add_arc => k_is)
    (case i_Net_add_arc => k_is)
    (case l_Net_add_arc => k_is)
    (case c_Net_add_arc => k_is)
    (case k_Net_add_arc => k_is)
    (case m_Net_drop_arc => k_is)
    (case i_Net_drop_arc => k_is)
    (case l_Net_drop_arc => k_is)
    (case c_Net_drop_arc => k_is)
    (case k_Net_drop_arc => k_is)
    (case a_Reader => k_is)
    (case pg_Reader => k_is)
    (case hd_Reader => k_is)
    (case po_Reader => k_is)
    (case sa_Reader => k_is)
    (case na_Reader_numbers => k_is)
    (case na_Reader_place => k_is)
    (case m_Reader_init => k_is)
    (case i_Reader_init => k_is)
    (case l_Reader_init => k_is)
    (case c_Reader_init => k_is)
    (case k_Reader_init => k_is)
    (case mk_Reader => k_is)
    (case kc_Reader => k_is)
    (case m_Reader_has_more => k_is)
    (case i_Reader_has_more => k_is)
    (case l_Reader_has_more => k_is)
    (case c_Reader_has_more => k_is)
    (case k_Reader_has_more => k_is)
    (case m_Reader_take => k_is)
    (case i_Reader_take => k_is)
    (case l_Reader_take => k_is)
    (case c_Reader_take => k_is)
    (case k_Reader_take => k_is)
    (case m_Reader_take_row => k_is)
    (case i_Reader_take_row => k_is)
    (case l_Reader_take_row => k_is)
    (case c_Reader_take_row => k_is)
    (case k_Reader_take_row => k_is)
    (case a_REFUSED => k_is)
    (case a_NODES => k_is)
    (case a_MOST_ARCS => k_is)
    (case a_MOST_CAPACITY => k_is)
    (case a_MOST_COST => k_is)
    (case a_MOST_PRICE => k_is)
    (case a_ARC => k_is)
    (case a_DROP => k_is)
    (case a_MOST => k_is)
    (case a_CUT => k_is)
    (case a_CHEAPEST => k_is)
    (case a_FLOW => k_is)
    (case a_PROVES => k_is)
    (case a_NO_SUCH_FLOW => k_is)
    (case z_all => k_is)
    (case z_enumerate => k_is)
    (case z_len => k_is)
    (case z_list => k_is)
    (case z_min => k_is)
    (case z_range => k_is)
    (case z_sum => k_is)
    (case z_zip => k_is)
  case S =>
    intro K H xs a hO hwi hask hx
    exact NP.asked_ok  hO hask hx
