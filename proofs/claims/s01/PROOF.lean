import PyProof.Rows.All
import Wide.All
import OpenK.AllK
import Wide.FinOn
import PyProof.EqAt
import PyProof.EqKinds
import PyProof.TupleCall
import KE.BitLaws
import Open.SpecLaws
import KE.OsHead
import KE.OsGo
import PyFlat
import PyFlatLaws
import PySem.Challenge.RW_taskwatch_s01_answers
section
set_option Elab.async false
set_option linter.all false
set_option maxRecDepth 100000
namespace L2
open PySem PySem.Spec PyProof.Rows
abbrev Key := Sum Int Str
def keyIs : Key → Value → Bool
  | .inl k, v => Value.isInt k v
  | .inr x, v => Value.isStrOf x v
def keyH (w : World) : Key → Int
  | .inl k => hashInt k
  | .inr x => hashStr w x
theorem keyIs_shape : ∀ {k : Key} {v : Value}, keyIs k v = true → (∃ i t, k = Sum.inl i ∧ v = Value.int i t) ∨ (∃ x t, k = Sum.inr x ∧ v = Value.str x t)
  | .inl i, v, h => by
    obtain ⟨t, e⟩ := Value.isInt_shape (k := i) (v := v) h
    exact .inl ⟨i, t, rfl, e⟩
  | .inr x, v, h => by
    obtain ⟨t, e⟩ := Value.isStrOf_shape (x := x) (v := v) h
    exact .inr ⟨x, t, rfl, e⟩
theorem keyIs_int (i : Int) (t : Tok) : keyIs (.inl i) (.int i t) = true := by simp [keyIs, Value.isInt]
theorem keyIs_str (x : Str) (t : Tok) : keyIs (.inr x) (.str x t) = true := by simp [keyIs, Value.isStrOf]
theorem key_ll (a b : Int) : decide ((Sum.inl a : Key) = Sum.inl b) = (a == b) := by
  by_cases e : a = b
  · subst e; simp
  · have h : ¬ (Sum.inl a : Key) = Sum.inl b := fun q => e (Sum.inl.inj q)
    rw [decide_eq_false h]
    exact (beq_eq_false_iff_ne.mpr e).symm
theorem key_rr (a b : Str) : decide ((Sum.inr a : Key) = Sum.inr b) = decide (a = b) := by
  by_cases e : a = b
  · subst e; simp
  · have h : ¬ (Sum.inr a : Key) = Sum.inr b := fun q => e (Sum.inr.inj q)
    rw [decide_eq_false h, decide_eq_false e]
theorem key_lr (a : Int) (b : Str) : decide ((Sum.inl a : Key) = Sum.inr b) = false := decide_eq_false (fun q => nomatch q)
theorem key_rl (a : Str) (b : Int) : decide ((Sum.inr a : Key) = Sum.inl b) = false := decide_eq_false (fun q => nomatch q)
def mixKind (prog : Program) (w : World) : PySem.KeyKind prog w Key where
  is := keyIs
  hash := keyH w
  inj := fun v a b ha hb => by
    rcases keyIs_shape ha with ⟨i, t, rfl, rfl⟩ | ⟨x, t, rfl, rfl⟩
    · rcases keyIs_shape hb with ⟨j, u, rfl, e⟩ | ⟨y, u, rfl, e⟩
      · injection e with e1 _; rw [e1]
      · exact nomatch e
    · rcases keyIs_shape hb with ⟨j, u, rfl, e⟩ | ⟨y, u, rfl, e⟩
      · exact nomatch e
      · injection e with e1 _; rw [e1]
  byValue := fun k v h => by
    rcases keyIs_shape h with ⟨i, t, rfl, rfl⟩ | ⟨x, t, rfl, rfl⟩ <;> rfl
  pyHash := fun hv h => by
    rcases keyIs_shape hv with ⟨i, t, rfl, rfl⟩ | ⟨x, t, rfl, rfl⟩
    · exact wpAny_pyHash_int h
    · exact wpAny_pyHash_str h
  eqBool := fun hu hv h => by
    rcases keyIs_shape hu with ⟨i, t, rfl, rfl⟩ | ⟨x, t, rfl, rfl⟩
    · rcases keyIs_shape hv with ⟨j, u, rfl, rfl⟩ | ⟨y, u, rfl, rfl⟩
      · rw [key_ll] at h; exact wpAny_eqBool_int h
      · rw [key_lr] at h; exact SeqAt.EqAt.int_str i t y u _ _ _ _ h
    · rcases keyIs_shape hv with ⟨j, u, rfl, rfl⟩ | ⟨y, u, rfl, rfl⟩
      · rw [key_rl] at h; exact SeqAt.EqAt.str_int x t j u _ _ _ _ h
      · rw [key_rr] at h; exact wpAny_eqBool_str h
  «strs» := fun k x t v h => by
    rcases keyIs_shape h with ⟨i, u, rfl, e⟩ | ⟨y, u, rfl, e⟩
    · exact nomatch e
    · injection e with e1 _
      subst e1
      cases v <;> rfl
theorem mixKind_int (prog : Program) (w : World) (i : Int) (t : Tok) : (mixKind prog w).is (.inl i) (.int i t) = true := keyIs_int i t
theorem mixKind_str (prog : Program) (w : World) (x : Str) (t : Tok) : (mixKind prog w).is (.inr x) (.str x t) = true := keyIs_str x t
end L2
namespace L2
open PySem PySem.Spec PyProof.Rows
inductive V where
  | non | bl (b : Bool) | int (i : Int) | str (x : Str) | byt (b : Array UInt8) | flt (b : UInt64) | ref (a : Addr) | ty (n : String)
  deriving DecidableEq
def RelV : V → Value → Prop
  | .non, u => u = Value.none
  | .bl b, u => u = Value.bool b
  | .int i, u => ∃ t, u = Value.int i t
  | .str x, u => ∃ t, u = Value.str x t
  | .byt b, u => ∃ t, u = Value.bytes b t
  | .flt b, u => ∃ t, u = Value.float b t
  | .ref a, u => u = Value.ref a
  | .ty n, u => u = Value.type n
abbrev Vals : List V → List Value → Prop := Paired RelV
theorem Vals.length {xs : List V} {us : List Value} (r : Vals xs us) : xs.length = us.length := Paired.length r
theorem Vals.get : ∀ {xs : List V} {us : List Value} {i : Nat} {x : V}, Vals xs us → xs[i]? = some x → ∃ u, us[i]? = some u ∧ RelV x u
  | _, _, _, _, .nil, e => by simp at e
  | _, _, 0, _, .cons r _, e => by simp at e; subst e; exact ⟨_, rfl, r⟩
  | _, _, i + 1, x, .cons _ t, e => by
    obtain ⟨u, h1, h2⟩ := Vals.get (i := i) (x := x) t (by simpa using e)
    exact ⟨u, by simpa using h1, h2⟩
theorem Vals.set {x : V} {u : Value} (r : RelV x u) : ∀ {xs : List V} {us : List Value} (i : Nat), Vals xs us → Vals (xs.set i x) (us.set i u)
  | _, _, _, .nil => .nil
  | _, _, 0, .cons _ t => .cons r t
  | _, _, i + 1, .cons q t => .cons q (Vals.set r i t)
theorem Vals.append : ∀ {xs ys : List V} {us ws : List Value}, Vals xs us → Vals ys ws → Vals (xs ++ ys) (us ++ ws)
  | _, _, _, _, .nil, s => s
  | _, _, _, _, .cons r t, s => .cons r (Vals.append t s)
theorem Vals.take : ∀ {xs : List V} {us : List Value} (n : Nat), Vals xs us → Vals (xs.take n) (us.take n)
  | _, _, 0, _ => .nil
  | _, _, _ + 1, .nil => .nil
  | _, _, n + 1, .cons r t => .cons r (Vals.take n t)
theorem Vals.drop : ∀ {xs : List V} {us : List Value} (n : Nat), Vals xs us → Vals (xs.drop n) (us.drop n)
  | _, _, 0, r => r
  | _, _, _ + 1, .nil => .nil
  | _, _, n + 1, .cons _ t => Vals.drop n t
theorem Vals.none_of : ∀ {xs : List V} {us : List Value} {i : Nat}, Vals xs us → xs[i]? = none → us[i]? = none := fun {xs us i} r e => by
  have h1 := r.length
  have h2 : xs.length ≤ i := List.getElem?_eq_none_iff.mp e
  exact List.getElem?_eq_none_iff.mpr (by omega)
def RelO : Option V → Option Value → Prop
  | some v, some u => RelV v u
  | none, none => True
  | _, _ => False
def KV {κ : Type} : List (κ × V) → List (κ × Value) → Prop := Paired fun (p : κ × V) (q : κ × Value) => p.1 = q.1 ∧ RelV p.2 q.2
def kV : Key → V
  | .inl i => .int i
  | .inr x => .str x
inductive HO where
  /-- a list -/
  | lst (xs : List V)
  /-- a tuple (never changes) -/
  | tup (xs : List V)
  /-- a dict whose keys are ints and texts; one whose keys are tuples of ints and texts (the empty one is both) -/
  | dK (kvs : List (Key × V)) | dT (kvs : List (List Key × V))
  /-- a set of ints: its members, its size -/
  | set (S : Int → Bool) (n : Nat)
  /-- an instance of the class at C, its dict at dx, its attributes -/
  | ins (C dx : Addr) (fs : List (Str × V))
  /-- the dict of the instance at x -/
  | own (x : Addr)
  /-- the dict of an exception -/
  | xd (fs : List (Str × V))
  /-- a bound method, f of x -/
  | met (f x : Addr)
  /-- a range object lo, lo + 1, .. below hi -/
  | rng (lo hi : Int)
  /-- a thing that is known to the object (the script; a dict while a loop walks it): read, never written while it is so -/
  | frz (o : Obj) (u : HO)
  /-- a code object's table -/
  | tbl (ps : Array Value)
  /-- any other thing, by what is true of its one object (a def of one's own: SetO a S n := HO.ext fun h => ..) -/
  | ext (φ : Heap → Prop)
abbrev Hp := Addr → Option HO
def upd (H : Hp) (a : Addr) (o : HO) : Hp := fun b => if b = a then some o else H b
theorem upd_same {H : Hp} {a : Addr} {o : HO} : upd H a o a = some o := by unfold upd; rw [if_pos rfl]
theorem upd_ne {H : Hp} {a b : Addr} {o : HO} (h : b ≠ a) : upd H a o b = H b := by unfold upd; rw [if_neg h]
theorem upd_upd {H : Hp} {a : Addr} {o u : HO} : upd (upd H a o) a u = upd H a u := by
  funext b; unfold upd; split <;> rfl
theorem ne_of {H : Hp} {a b : Addr} {o u : HO} (h : H a = some o) (h' : H b = some u) (d : o ≠ u) : a ≠ b := by
  intro e; subst e; rw [h] at h'; exact d (Option.some.inj h')
theorem ne_of_none {H : Hp} {a b : Addr} {o : HO} (h : H a = some o) (h' : H b = none) : a ≠ b := by
  intro e; subst e; rw [h] at h'; cases h'
section
variable (P : Program) (w : World)
def ObjOk (H : Hp) (h : Heap) (a : Addr) : HO → Prop
  | .lst xs => xs.length ≤ sizeLine ∧ ∃ (its : List Value) (n : Nat), Vals xs its ∧ h.get? a = some { cls := .type "list", data := .seq its.toArray n }
  | .tup xs => xs.length ≤ sizeLine ∧ ∃ its : List Value, Vals xs its ∧ IsTup h a its.toArray
  | .dK kvs => kvs.length ≤ sizeLine ∧ (a == sysModules) = false ∧ ∃ vs, KV kvs vs ∧ h.DictOf (mixKind P w) a vs
  | .dT kvs => kvs.length ≤ sizeLine ∧ (a == sysModules) = false ∧ ∃ xs : List (List Key × Addr × Value),
      Paired (fun (p : List Key × V) (q : List Key × Addr × Value) => p.1 = q.1 ∧ H q.2.1 = some (.tup (p.1.map kV)) ∧ RelV p.2 q.2.2) kvs xs ∧
      ∃ o es ep, h.get? a = some o ∧ o.ExactDict ∧ o.data = .dict es ep ∧ es.toList = xs.map (entryOfKey (tupleKind (mixKind P w))) ∧ (xs.map (·.1)).Nodup
  | .set S n => h.SetOf (intKind P w) a S n
  | .ins C dx fs => H dx = some (.own a) ∧ fs.length ≤ 1000 ∧ dx ≠ a ∧ h.get? a = some (PySem.W.instObj C dx) ∧
      ∃ mA, h.Ns1 dx mA ∧ (∀ f, RelO (fs.lookup f) (mA f)) ∧ PySem.Within mA (fs.map (·.1))
  | .own _ => ∃ o, h.get? a = some o
  | .xd fs => ∃ mA, h.Ns1 a mA ∧ ∀ f, RelO (fs.lookup f) (mA f)
  | .rng lo hi => ∃ t u v, h.get? a = some { cls := .type "range", data := .fields #[.int lo t, .int hi u, .int 1 v] }
  | .frz o u => h.get? a = some o ∧ ObjOk H h a u
  | .tbl ps => h.get? a = some { cls := .none, data := .fields ps }
  | .met f x => h.get? a = some (PySem.W.methodObj (.ref f) (.ref x))
  | .ext φ => φ h ∧ (∃ o, h.get? a = some o) ∧ ∀ h1 h2 : Heap, φ h1 → (∀ o, h1.get? a = some o → h2.get? a = some o) → φ h2
def HOk (H : Hp) (h : Heap) : Prop := ∀ a o, H a = some o → ObjOk P w H h a o
end
section
variable {P : Program} {w : World} {H H' : Hp} {h h' : Heap} {a : Addr} {o : HO}
theorem ObjOk.lt (x : ObjOk P w H h a o) : a < h.objs.size := by
  cases o with
  | lst xs => obtain ⟨_, _, _, _, e⟩ := x; exact Heap.lt_size e
  | tup xs => obtain ⟨_, _, _, p⟩ := x; exact p.lt
  | dK kvs => obtain ⟨_, _, _, _, o, _, _, e, _⟩ := x; exact Heap.lt_size e
  | dT kvs => obtain ⟨_, _, _, _, o, _, _, e, _⟩ := x; exact Heap.lt_size e
  | set S n => obtain ⟨o, _, _, _, e, _⟩ := x; exact Heap.lt_size e
  | ins C dx fs => obtain ⟨_, _, _, e, _⟩ := x; exact Heap.lt_size e
  | own y => obtain ⟨_, e⟩ := x; exact Heap.lt_size e
  | xd fs => obtain ⟨_, ⟨_, _, _, e, _⟩, _⟩ := x; exact Heap.lt_size e
  | rng lo hi => obtain ⟨_, _, _, e⟩ := x; exact Heap.lt_size e
  | frz ob u => obtain ⟨e, _⟩ := x; exact Heap.lt_size e
  | tbl ps => exact Heap.lt_size (show h.get? a = some _ from x)
  | met f y => exact Heap.lt_size (show h.get? a = some _ from x)
  | ext φ => obtain ⟨_, ⟨_, e⟩, _⟩ := x; exact Heap.lt_size e
theorem Paired.mapP {α β : Type} {F G : α → β → Prop} : ∀ {l₁ : List α} {l₂ : List β}, Paired F l₁ l₂ → (∀ a b, F a b → G a b) → Paired G l₁ l₂
  | _, _, .nil, _ => .nil
  | _, _, .cons r t, f => .cons (f _ _ r) (Paired.mapP t f)
theorem ObjOk.stay (x : ObjOk P w H h a o) (k : ∀ b u, (b = a ∨ H b = some (.own a)) → h.get? b = some u → h'.get? b = some u)
    (ho : ∀ b, H b = some (.own a) → H' b = some (.own a)) (ht : ∀ b xs, H b = some (.tup xs) → H' b = some (.tup xs)) : ObjOk P w H' h' a o := by
  induction o with
  | lst xs => obtain ⟨z, its, n, r, e⟩ := x; exact ⟨z, its, n, r, k _ _ (.inl rfl) e⟩
  | tup xs => obtain ⟨z, its, r, ob, e, c⟩ := x; exact ⟨z, its, r, ob, k _ _ (.inl rfl) e, c⟩
  | dK kvs => obtain ⟨z, y, vs, r, ob, es, ep, e, c⟩ := x; exact ⟨z, y, vs, r, ob, es, ep, k _ _ (.inl rfl) e, c⟩
  | dT kvs =>
    obtain ⟨z, y, xs, r, ob, es, ep, e, c⟩ := x
    exact ⟨z, y, xs, Paired.mapP r fun p q z => ⟨z.1, ht _ _ z.2.1, z.2.2⟩, ob, es, ep, k _ _ (.inl rfl) e, c⟩
  | set S n => obtain ⟨ob, es, ep, t, e, c⟩ := x; exact ⟨ob, es, ep, t, k _ _ (.inl rfl) e, c⟩
  | ins C dx fs =>
    obtain ⟨d, z, ne, e, mA, ⟨od, es, ep, e2, c⟩, r⟩ := x
    exact ⟨ho _ d, z, ne, k _ _ (.inl rfl) e, mA, ⟨od, es, ep, k _ _ (.inr d) e2, c⟩, r⟩
  | own y => obtain ⟨ob, e⟩ := x; exact ⟨ob, k _ _ (.inl rfl) e⟩
  | xd fs => obtain ⟨mA, ⟨od, es, ep, e, c⟩, r⟩ := x; exact ⟨mA, ⟨od, es, ep, k _ _ (.inl rfl) e, c⟩, r⟩
  | rng lo hi => obtain ⟨t, u, v, e⟩ := x; exact ⟨t, u, v, k _ _ (.inl rfl) e⟩
  | frz ob u ih => obtain ⟨e, q⟩ := x; exact ⟨k _ _ (.inl rfl) e, ih q⟩
  | tbl ps =>
    have e : h.get? a = some { cls := .none, data := .fields ps } := x
    show h'.get? a = some { cls := .none, data := .fields ps }
    exact k a _ (.inl rfl) e
  | met f y =>
    have e : h.get? a = some (PySem.W.methodObj (.ref f) (.ref y)) := x
    show h'.get? a = some (PySem.W.methodObj (.ref f) (.ref y))
    exact k a _ (.inl rfl) e
  | ext φ => obtain ⟨p, ⟨o, e⟩, st⟩ := x; exact ⟨st _ _ p fun o q => k _ _ (.inl rfl) q, ⟨o, k _ _ (.inl rfl) e⟩, st⟩
theorem HOk.lt (x : HOk P w H h) (e : H a = some o) : a < h.objs.size := (x a o e).lt
theorem HOk.fresh (x : HOk P w H h) (e : h.objs.size ≤ a) : H a = none := by
  cases q : H a with
  | none => rfl
  | some u => exact absurd (Nat.lt_of_lt_of_le (x.lt q) e) (Nat.lt_irrefl _)
theorem HOk.kept (x : HOk P w H h) (k : ∀ b u, h.get? b = some u → h'.get? b = some u) : HOk P w H h' := fun a o e =>
  (x a o e).stay (fun b u _ q => k b u q) (fun _ q => q) fun _ _ q => q
theorem HOk.laid (x : HOk P w H h) (k : ∀ b u, h.get? b = some u → h'.get? b = some u) (hp : h.objs.size ≤ a) (new : ObjOk P w (upd H a o) h' a o) : HOk P w (upd H a o) h' := fun b u e => by
  have hn := x.fresh hp
  by_cases hb : b = a
  · subst hb; rw [upd_same] at e; cases e; exact new
  · rw [upd_ne hb] at e
    exact (x b u e).stay (fun c v _ q => k c v q) (fun c q => by rw [upd_ne (ne_of_none q hn)]; exact q) fun c xs q => by rw [upd_ne (ne_of_none q hn)]; exact q
end
def Rd (H : Hp) (a : Addr) (u : HO) : Prop := H a = some u ∨ ∃ o, H a = some (.frz o u)
theorem Rd.of {H : Hp} {a : Addr} {u : HO} (h : H a = some u) : Rd H a u := .inl h
theorem Rd.ok {P : Program} {w : World} {H : Hp} {h : Heap} {a : Addr} {u : HO} (r : Rd H a u) (x : HOk P w H h) : ObjOk P w H h a u := by
  rcases r with r | ⟨o, r⟩
  · exact x a u r
  · obtain ⟨_, q⟩ := x a _ r
    exact q
def Mut : Option HO → Prop
  | some (.lst _) => True
  | some (.dK _) => True
  | some (.dT _) => True
  | some (.set _ _) => True
  | some (.ins _ _ _) => True
  | some (.ext _) => True
  | _ => False
section
variable {P : Program} {w : World} {H : Hp} {h h' : Heap} {x e : Addr} {o' : HO}
theorem HOk.write (ok : HOk P w H h) (mu : Mut (H x)) (he : e = x ∨ H e = some (.own x)) (k : ∀ b u, b ≠ e → h.get? b = some u → h'.get? b = some u) (heo : ∃ u, h'.get? e = some u)
    (new : ObjOk P w (upd H x o') h' x o') : HOk P w (upd H x o') h' := fun b u q => by
  have nown : ∀ c y, H c = some (.own y) → c ≠ x := fun c y r z => by subst z; rw [r] at mu; exact mu
  have ntup : ∀ c xs, H c = some (.tup xs) → c ≠ x := fun c xs r z => by subst z; rw [r] at mu; exact mu
  by_cases hb : b = x
  · subst hb; rw [upd_same] at q; cases q; exact new
  · rw [upd_ne hb] at q
    by_cases hbe : b = e
    · have q' : H b = some (.own x) := by
        rcases he with z | z
        · exact absurd (hbe.trans z) hb
        · rw [hbe]; exact z
      rw [q] at q'; cases q'
      obtain ⟨v, hv⟩ := heo
      exact ⟨v, by rw [hbe]; exact hv⟩
    · refine (ok b u q).stay (fun c v hc r => k c v ?_ r) (fun c r => by rw [upd_ne (nown c b r)]; exact r) fun c xs r => by rw [upd_ne (ntup c xs r)]; exact r
      rcases hc with rfl | hc
      · exact hbe
      · rintro rfl
        rcases he with z | z
        · exact nown c b hc z
        · rw [hc] at z; cases z; exact hb rfl
end
structure Un (fs ex : List Addr) (H H' : Hp) (h h' : Heap) : Prop where
  keep : ∀ b o, h.get? b = some o → H b = none → b ∉ fs → b ∉ ex → h'.get? b = some o
  slot : ∀ b o, h.get? b = some o → H b = none → b ∈ fs → b ∉ ex → ∃ sl, h'.get? b = some { o with slots := sl }
  free : ∀ b o, h.get? b = some o → H b = none → b ∉ ex → H' b = none
  there : ∀ b o, h.get? b = some o → b ∉ ex → ∃ o', h'.get? b = some o'
  tups : ∀ b xs, H b = some (.tup xs) → H' b = some (.tup xs)
  frzs : ∀ b o u, H b = some (.frz o u) → H' b = some (.frz o u)
  tbls : ∀ b ps, H b = some (.tbl ps) → ∃ more, H' b = some (.tbl (ps ++ more))
section
variable {fs fs' ex ex' : List Addr} {H H1 H2 : Hp} {h h1 h2 h' : Heap} {a x e : Addr} {o : HO}
theorem Un.any (u : Un fs ex H H1 h h1) {b : Addr} {ob : Obj} (q : h.get? b = some ob) (n : H b = none) (hx : b ∉ ex) : ∃ sl, h1.get? b = some { ob with slots := sl } := by
  by_cases hb : b ∈ fs
  · exact u.slot b ob q n hb hx
  · exact ⟨ob.slots, u.keep b ob q n hb hx⟩
theorem Un.trans (a : Un fs ex H H1 h h1) (b : Un fs ex H1 H2 h1 h2) : Un fs ex H H2 h h2 where
  keep := fun c ob q n hc hx => b.keep c ob (a.keep c ob q n hc hx) (a.free c ob q n hx) hc hx
  slot := fun c ob q n hc hx => by
    obtain ⟨sl, e1⟩ := a.slot c ob q n hc hx
    obtain ⟨sl', e2⟩ := b.slot c _ e1 (a.free c ob q n hx) hc hx
    exact ⟨sl', e2⟩
  free := fun c ob q n hx => by
    obtain ⟨o', e1⟩ := a.there c ob q hx
    exact b.free c o' e1 (a.free c ob q n hx) hx
  there := fun c ob q hx => by
    obtain ⟨o', e1⟩ := a.there c ob q hx
    exact b.there c o' e1 hx
  tups := fun c xs q => b.tups c xs (a.tups c xs q)
  frzs := fun c ob xs q => b.frzs c ob xs (a.frzs c ob xs q)
  tbls := fun c ps q => by
    obtain ⟨m1, e1⟩ := a.tbls c ps q
    obtain ⟨m2, e2⟩ := b.tbls c _ e1
    exact ⟨m1 ++ m2, by rw [e2, Array.append_assoc]⟩
theorem Un.kept (k : ∀ b u, h.get? b = some u → h'.get? b = some u) : Un fs ex H H h h' :=
  ⟨fun b ob q _ _ _ => k b ob q, fun b ob q _ _ _ => ⟨ob.slots, k b ob q⟩, fun _ _ _ n _ => n, fun b ob q _ => ⟨ob, k b ob q⟩, fun _ _ q => q, fun _ _ _ q => q, fun _ ps q => ⟨#[], by rw [q]; simp⟩⟩
theorem Un.refl : Un fs ex H H h h := Un.kept fun _ _ q => q
theorem Un.laid (k : ∀ b u, h.get? b = some u → h'.get? b = some u) (hp : h.objs.size ≤ a) (hn : H a = none) : Un fs ex H (upd H a o) h h' where
  keep := fun b u q _ _ _ => k b u q
  slot := fun b u q _ _ _ => ⟨u.slots, k b u q⟩
  free := fun b u q n _ => by rw [upd_ne (Nat.ne_of_lt (Nat.lt_of_lt_of_le (Heap.lt_size q) hp))]; exact n
  there := fun b u q _ => ⟨u, k b u q⟩
  tups := fun b xs q => by rw [upd_ne (ne_of_none q hn)]; exact q
  frzs := fun b u xs q => by rw [upd_ne (ne_of_none q hn)]; exact q
  tbls := fun b ps q => ⟨#[], by rw [upd_ne (ne_of_none q hn), q]; simp⟩
theorem Un.write (mu : Mut (H x)) (he : e = x ∨ H e = some (.own x)) (k : ∀ b u, b ≠ e → h.get? b = some u → h'.get? b = some u) (heo : ∃ u, h'.get? e = some u) : Un fs ex H (upd H x o) h h' := by
  have hx : ∀ b, H b = none → b ≠ x := fun b n z => by subst z; rw [n] at mu; exact mu
  have hb : ∀ b, H b = none → b ≠ e := fun b n z => by
    subst z
    rcases he with r | r
    · exact hx b n r
    · rw [n] at r; cases r
  have hm : ∀ b u, H b = some u → ¬ Mut (some u) → b ≠ x := fun b u q nm z => by subst z; rw [q] at mu; exact nm mu
  refine ⟨fun b u q n _ _ => k b u (hb b n) q, fun b u q n _ _ => ⟨u.slots, k b u (hb b n) q⟩, fun b u q n _ => by rw [upd_ne (hx b n)]; exact n, fun b u q _ => ?_,
    fun b xs q => by rw [upd_ne (hm b _ q fun z => z)]; exact q, fun b u xs q => by rw [upd_ne (hm b _ q fun z => z)]; exact q, fun b ps q => ⟨#[], by rw [upd_ne (hm b _ q fun z => z), q]; simp⟩⟩
  by_cases hbe : b = e
  · subst hbe; exact heo
  · exact ⟨u, k b u hbe q⟩
theorem Un.mono (u : Un fs ex H H1 h h1) (hs : ∀ b ∈ fs, b ∈ fs') (hx : ∀ b ∈ ex, b ∈ ex') : Un fs' ex' H H1 h h1 :=
  ⟨fun b ob q n hb he => u.keep b ob q n (fun z => hb (hs b z)) fun z => he (hx b z), fun _ _ q n _ he => u.any q n fun z => he (hx _ z), fun b ob q n he => u.free b ob q n fun z => he (hx b z), fun b ob q he => u.there b ob q fun z => he (hx b z), u.tups, u.frzs, u.tbls⟩
end
def trk (h : Heap) (H : Hp) : List Addr := (List.range h.objs.size).filter fun a => (H a).isSome
def hidT (h : Heap) (H : Hp) : Heap := PySem.W.hideAll h (trk h H)
theorem hidT_size (h : Heap) (H : Hp) : (hidT h H).objs.size = h.objs.size := PySem.W.hideAll_size _ _
theorem hidT_get {h : Heap} {H : Hp} {b : Addr} {o : Obj} (e : h.get? b = some o) (n : H b = none) : (hidT h H).get? b = some o :=
  PySem.W.hideAll_get _ e fun hm => by
    have q : (H b).isSome = true := (List.mem_filter.mp hm).2
    rw [n] at q; simp at q
theorem of_hidT {h : Heap} {H : Hp} {b : Addr} {o : Obj} (e : (hidT h H).get? b = some o) : h.get? b = some o ∧ H b = none := by
  have e' : h.get? b = some o := PySem.W.of_hideAll (trk h H) e
  refine ⟨e', ?_⟩
  cases q : H b with
  | none => rfl
  | some x =>
    have hm : b ∈ trk h H := List.mem_filter.mpr ⟨List.mem_range.mpr (Heap.lt_size e'), by simp [q]⟩
    have z : (hidT h H).get? b = none := PySem.W.hideAll_none (trk h H) hm
    rw [z] at e; cases e
def allNews (g h : Heap) (L : Addr) : List (Addr × Obj) := (List.range h.objs.size).filterMap fun a => if a = L ∨ (g.get? a).isSome = true then none else (h.get? a).map fun o => (a, o)
def rest (g h : Heap) (L d : Addr) : List (Addr × Obj) := (allNews g h L).filter fun p => decide (p.1 ≠ d)
end L2
namespace L2
open PySem PySem.Spec PyProof.Rows
structure Mod (K : PySem.W.Frag) (mg : Str → Option Value) (base : Heap) : Prop where
  kin : K.In base
  glob : base.Ns mainGlobals mg
  blt : ∃ mb, base.Ns builtinsNs mb ∧ ∀ x : Str, x ≠ "__name__" → mb x = bootBuiltins x
  nolimit : base.NoLimit
structure Cx where
  prog : Program
  w : World
  K : PySem.W.Frag
  mg : Str → Option Value
  base : Heap
  A : Around
  N : List Str
  s_0 : Shared
  H_0 : Hp
  env : Env
  outer : List Env
  stack : List Env
  ex : List Addr
  fn : Str → Bool
  calm : Bool
  pn : List (Addr × Obj)
  xe : Value → Shared → Prop
def frs (l : List Env) : List Addr := l.filterMap (·.frame)
abbrev Cx.fs (X : Cx) : List Addr := frs X.outer
def Vis (sc : Scope) (x : Str) : Prop := sc.names.lookup x = some .local ∨ sc.names.lookup x = some .cell ∨ sc.names.lookup x = some .free
def Loc (sc : Scope) (x : Str) : Prop := sc.names.lookup x = some .local ∨ sc.names.lookup x = some .cell
def Look (env : Env) (h : Heap) (m : Str → Option Value) (x : Str) (u : Value) : Prop :=
  (env.kindOf x = some .local ∧ m x = some u) ∨ ((env.kindOf x = some .cell ∨ env.kindOf x = some .free) ∧ ∃ c, env.cells.lookup x = some c ∧ h.IsCell c (some u))
structure Cx.Ok (X : Cx) : Prop where
  mod : Mod X.K X.mg X.base
  kind : X.env.scope.kind = .function
  glob : X.env.globals = mainGlobals
  blt : X.env.builtins = builtinsNs
  above : X.s_0.heap.objs.size ≤ X.env.locals
  inj : ∀ x y c, X.env.cells.lookup x = some c → X.env.cells.lookup y = some c → x = y
  has : ∀ x, (X.env.kindOf x = some .cell ∨ X.env.kindOf x = some .free) → ∃ c, X.env.cells.lookup x = some c
  cab : ∀ x c, X.fn x = true → X.env.cells.lookup x = some c → X.s_0.heap.objs.size ≤ c
  hd : X.calm = true → X.A.handled = none
  frames : X.A.frames = some X.stack
  stk : X.stack = X.outer ∨ (X.stack = X.env :: X.outer ∧ X.env.frame = some X.env.locals)
  exf : ∀ b ∈ X.ex, b ≠ X.env.locals ∧ ∀ x c, X.env.cells.lookup x = some c → c ≠ b
  bs : ∀ b o, X.base.get? b = some o → X.s_0.heap.get? b = some o ∧ X.H_0 b = none
  bsz : X.base.objs.size ≤ X.s_0.heap.objs.size
  noex : ∀ b o, X.base.get? b = some o → b ∉ X.ex
  exfs : ∀ b ∈ X.ex, b ∉ X.fs
  funs : X.s_0.heap.FunFrames X.base X.outer
  frf : ∀ b ∈ X.fs, X.H_0 b = none
structure Inv (X : Cx) (pins : List (Addr × Obj)) (σ : List (Option V)) (H : Hp) (s : Shared) : Prop where
  ok : X.Ok
  os : s.os = X.s_0.os
  bare : AllBare s.gens
  base : Un X.fs X.ex X.H_0 H X.s_0.heap s.heap
  loc : ∃ m, s.heap.Ns X.env.locals m ∧ ∀ (i : Nat) (x : Str) (v : V), X.N[i]? = some x → σ[i]? = some (some v) → Vis X.env.scope x → ∃ u, RelV v u ∧ Look X.env s.heap m x u
  cell : ∀ x c, X.env.cells.lookup x = some c → ∃ v, s.heap.IsCell c v
  free : H X.env.locals = none
  freeC : ∀ x c, X.env.cells.lookup x = some c → H c = none
  pin : ∀ p ∈ X.pn ++ pins, s.heap.get? p.1 = some p.2 ∧ H p.1 = none ∧ p.1 ≠ X.env.locals ∧ p.1 ∉ X.fs ∧ ∀ v, p.2.data ≠ .cell v
  hok : HOk X.prog X.w H s.heap
  len : σ.length = X.N.length
section
variable {X : Cx} {pins : List (Addr × Obj)} {σ : List (Option V)} {H H' : Hp} {s : Shared} {h' : Heap}
theorem Cx.Ok.nofr (ok : X.Ok) {b : Addr} {o : Obj} (e : X.base.get? b = some o) : b ∉ X.fs := fun hb => by
  have := (ok.funs.mem hb).1
  rw [e] at this; cases this
theorem Inv.bs (I : Inv X pins σ H s) : ∀ b o, X.base.get? b = some o → s.heap.get? b = some o ∧ H b = none := fun b o e =>
  ⟨I.base.keep b o (I.ok.bs b o e).1 (I.ok.bs b o e).2 (I.ok.nofr e) (I.ok.noex b o e), I.base.free b o (I.ok.bs b o e).1 (I.ok.bs b o e).2 (I.ok.noex b o e)⟩
theorem Inv.bk (I : Inv X pins σ H s) : ∀ b o, X.base.get? b = some o → s.heap.get? b = some o := fun b o e => (I.bs b o e).1
theorem Inv.mod (I : Inv X pins σ H s) : Mod X.K X.mg X.base := I.ok.mod
theorem Inv.kIn (I : Inv X pins σ H s) : X.K.In s.heap := I.ok.mod.kin.keeps I.bk
theorem Inv.nolimit (I : Inv X pins σ H s) : s.heap.NoLimit := I.ok.mod.nolimit.keeps I.bk
theorem Inv.lt (I : Inv X pins σ H s) : X.env.locals < s.heap.objs.size := let ⟨_, hn, _⟩ := I.loc; hn.lt
theorem Inv.sz (I : Inv X pins σ H s) : X.s_0.heap.objs.size ≤ s.heap.objs.size := Nat.le_trans I.ok.above (Nat.le_of_lt I.lt)
theorem Inv.nofs (I : Inv X pins σ H s) {a : Addr} (h : s.heap.objs.size ≤ a) : a ∉ X.fs := fun hb => by
  obtain ⟨_, o, ho, _⟩ := I.ok.funs.mem hb
  exact absurd (Nat.lt_of_lt_of_le (Heap.lt_size ho) (Nat.le_trans I.sz h)) (Nat.lt_irrefl _)
theorem Inv.cne (I : Inv X pins σ H s) : ∀ x c, X.env.cells.lookup x = some c → c ≠ X.env.locals := fun x c e z => by
  obtain ⟨v, o, ho, hd⟩ := I.cell x c e
  obtain ⟨m, ⟨o', es, ep, ho', hd', _⟩, _⟩ := I.loc
  rw [z, ho'] at ho; cases ho; rw [hd'] at hd; cases hd
theorem Inv.funs (I : Inv X pins σ H s) : s.heap.FunFrames X.base X.outer := by
  have all : ∀ (l : List Env), (∀ b ∈ frs l, b ∈ X.fs) → X.s_0.heap.FunFrames X.base l → s.heap.FunFrames X.base l := by
    intro l
    induction l with
    | nil => intro _ _; trivial
    | cons env r ih =>
      intro hs hl
      obtain ⟨hk, ⟨L, o, hf, hn, ho, hd⟩, hr⟩ := hl
      have hL : L ∈ X.fs := hs L (by unfold frs; rw [List.filterMap_cons, hf]; exact List.mem_cons_self)
      obtain ⟨sl, e⟩ := I.base.slot L o ho (I.ok.frf L hL) hL fun z => I.ok.exfs L z hL
      exact ⟨hk, ⟨L, _, hf, hn, e, hd⟩, ih (fun b hb => hs b (by unfold frs; rw [List.filterMap_cons, hf]; exact List.mem_cons_of_mem _ hb)) hr⟩
  exact all X.outer (fun _ hb => hb) I.ok.funs
theorem Inv.stack (I : Inv X pins σ H s) : s.heap.FunFrames X.base X.stack := by
  rcases I.ok.stk with e | ⟨e, hf⟩
  · rw [e]; exact I.funs
  · rw [e]
    obtain ⟨m, hn, _⟩ := I.loc
    refine .cons (by rw [I.ok.kind]; decide) hf hn ?_ I.funs
    exact Heap.get?_none_of_le (Nat.le_trans I.ok.bsz I.ok.above)
theorem Inv.stkSub (I : Inv X pins σ H s) : ∀ b ∈ frs X.stack, b ∈ X.env.locals :: X.fs := fun b hb => by
  rcases I.ok.stk with e | ⟨e, hf⟩
  · rw [e] at hb; exact List.mem_cons_of_mem _ hb
  · rw [e] at hb
    unfold frs at hb
    rw [List.filterMap_cons, hf] at hb
    exact hb
theorem Inv.stkFree (I : Inv X pins σ H s) : ∀ b ∈ frs X.stack, H b = none := fun b hb => by
  rcases List.mem_cons.mp (I.stkSub b hb) with e | hb
  · rw [e]; exact I.free
  · obtain ⟨_, o, ho, _⟩ := I.ok.funs.mem hb
    exact I.base.free b o ho (I.ok.frf b hb) fun z => I.ok.exfs b z hb
theorem Inv.step {g' : Array GenState} {t' : Nat} {d' : Drawn} {ch : List Addr} (I : Inv X pins σ H s)
    (hch : ∀ b ∈ ch, (b ∈ X.ex ∨ X.s_0.heap.objs.size ≤ b) ∧ b ≠ X.env.locals ∧ (∀ x c, X.env.cells.lookup x = some c → c ≠ b) ∧ ∀ p ∈ X.pn ++ pins, p.1 ≠ b)
    (keep : ∀ b o, b ≠ X.env.locals → b ∉ X.fs → b ∉ ch → s.heap.get? b = some o → H b = none → h'.get? b = some o)
    (slot : ∀ b o, b ≠ X.env.locals → b ∈ X.fs → b ∉ ch → s.heap.get? b = some o → H b = none → ∃ sl, h'.get? b = some { o with slots := sl }) (free : ∀ b o, b ∉ ch → s.heap.get? b = some o → H b = none → H' b = none)
    (there : ∀ b o, b ∉ ch → s.heap.get? b = some o → ∃ o', h'.get? b = some o')
    (tups : ∀ b xs, H b = some (.tup xs) → H' b = some (.tup xs)) (frzs : ∀ b o u, H b = some (.frz o u) → H' b = some (.frz o u)) (tbls : ∀ b ps, H b = some (.tbl ps) → ∃ more, H' b = some (.tbl (ps ++ more)))
    (ns : ∀ m, s.heap.Ns X.env.locals m → h'.Ns X.env.locals m) (hok : HOk X.prog X.w H' h') (hg : AllBare g') :
    Inv X pins σ H' { s with heap := h', gens := g', drawn := d', toks := t' } := by
  have neL : ∀ b o, X.s_0.heap.get? b = some o → b ≠ X.env.locals := fun b o e => Nat.ne_of_lt (Nat.lt_of_lt_of_le (Heap.lt_size e) I.ok.above)
  have neC : ∀ b o, X.s_0.heap.get? b = some o → b ∉ X.ex → b ∉ ch := fun b o e hx hb => by
    rcases (hch b hb).1 with z | z
    · exact hx z
    · exact absurd (Nat.lt_of_lt_of_le (Heap.lt_size e) z) (Nat.lt_irrefl _)
  have cellK : ∀ x c, X.env.cells.lookup x = some c → ∀ v, s.heap.IsCell c v → h'.IsCell c v := fun x c e v ⟨o, ho, hd⟩ => by
    have nch : c ∉ ch := fun z => (hch c z).2.2.1 x c e rfl
    by_cases hc : c ∈ X.fs
    · obtain ⟨sl, q⟩ := slot c o (I.cne x c e) hc nch ho (I.freeC x c e)
      exact ⟨_, q, hd⟩
    · exact ⟨o, keep c o (I.cne x c e) hc nch ho (I.freeC x c e), hd⟩
  refine ⟨I.ok, I.os, hg, ⟨fun b o e n hb hx => ?_, fun b o e n hb hx => ?_, fun b o e n hx => ?_, fun b o e hx => ?_, fun b xs e => tups b xs (I.base.tups b xs e), fun b o xs e => frzs b o xs (I.base.frzs b o xs e), fun b ps e => ?_⟩, ?_, fun x c e => ?_, ?_, fun x c e => ?_, fun p hp => ?_, hok, I.len⟩
  · exact keep b o (neL b o e) hb (neC b o e hx) (I.base.keep b o e n hb hx) (I.base.free b o e n hx)
  · obtain ⟨sl, e1⟩ := I.base.slot b o e n hb hx
    obtain ⟨sl', e2⟩ := slot b _ (neL b o e) hb (neC b o e hx) e1 (I.base.free b o e n hx)
    exact ⟨sl', e2⟩
  · obtain ⟨o', e1⟩ := I.base.there b o e hx
    exact free b o' (neC b o e hx) e1 (I.base.free b o e n hx)
  · obtain ⟨o', e1⟩ := I.base.there b o e hx
    exact there b o' (neC b o e hx) e1
  · obtain ⟨m1, e1⟩ := I.base.tbls b ps e
    obtain ⟨m2, e2⟩ := tbls b _ e1
    exact ⟨m1 ++ m2, by rw [e2, Array.append_assoc]⟩
  · obtain ⟨m, hn, hl⟩ := I.loc
    refine ⟨m, ns m hn, fun i x v e1 e2 e3 => ?_⟩
    obtain ⟨u, r, l⟩ := hl i x v e1 e2 e3
    refine ⟨u, r, ?_⟩
    rcases l with l | ⟨k, c, e, z⟩
    · exact .inl l
    · exact .inr ⟨k, c, e, cellK x c e _ z⟩
  · obtain ⟨v, z⟩ := I.cell x c e
    exact ⟨v, cellK x c e v z⟩
  · obtain ⟨m, ⟨o, _, _, ho, _⟩, _⟩ := I.loc
    exact free _ o (fun z => (hch _ z).2.1 rfl) ho I.free
  · obtain ⟨v, o, ho, hd⟩ := I.cell x c e
    exact free c o (fun z => (hch c z).2.2.1 x c e rfl) ho (I.freeC x c e)
  · obtain ⟨e, n, ne, nf, d⟩ := I.pin p hp
    have nch : p.1 ∉ ch := fun z => (hch p.1 z).2.2.2 p hp rfl
    exact ⟨keep p.1 p.2 ne nf nch e n, free p.1 p.2 nch e n, ne, nf, d⟩
theorem Inv.un {t' : Nat} (I : Inv X pins σ H s) (u : Un X.fs [] H H' s.heap h') (hok : HOk X.prog X.w H' h') : Inv X pins σ H' { s with heap := h', toks := t' } := by
  obtain ⟨m, ⟨o, es, ep, ho, r⟩, _⟩ := id I.loc
  obtain ⟨sl, hL⟩ := u.any ho I.free (by simp)
  exact I.step (g' := s.gens) (d' := s.drawn) (ch := []) (fun _ z => nomatch z) (fun b o _ hb _ e n => u.keep b o e n hb (by simp)) (fun b o _ hb _ e n => u.slot b o e n hb (by simp)) (fun b o _ e n => u.free b o e n (by simp)) (fun b o _ e => u.there b o e (by simp)) u.tups u.frzs u.tbls (fun m' hm => by
    obtain ⟨o', es', ep', ho', r'⟩ := hm
    rw [ho] at ho'; cases ho'
    exact ⟨_, es', ep', hL, r'⟩) hok I.bare
theorem Inv.call {g' : Array GenState} {t' : Nat} {d' : Drawn} {ch : List Addr} (I : Inv X pins σ H s) (u : Un (frs X.stack) ch H H' s.heap h') (hok : HOk X.prog X.w H' h') (hg : AllBare g')
    (hch : ∀ b ∈ ch, (b ∈ X.ex ∨ X.s_0.heap.objs.size ≤ b) ∧ b ≠ X.env.locals ∧ (∀ x c, X.env.cells.lookup x = some c → c ≠ b) ∧ ∀ p ∈ X.pn ++ pins, p.1 ≠ b) :
    Inv X pins σ H' { s with heap := h', gens := g', drawn := d', toks := t' } := by
  obtain ⟨m, ⟨o, es, ep, ho, r⟩, _⟩ := id I.loc
  obtain ⟨sl, hL⟩ := u.any ho I.free fun z => (hch _ z).2.1 rfl
  exact I.step (ch := ch) hch (fun b o hL hb hc e n => u.keep b o e n (fun z => (List.mem_cons.mp (I.stkSub b z)).elim hL hb) hc) (fun b o _ _ hc e n => u.any e n hc) (fun b o hc e n => u.free b o e n hc) (fun b o hc e => u.there b o e hc) u.tups u.frzs u.tbls (fun m' hm => by
    obtain ⟨o', es', ep', ho', r'⟩ := hm
    rw [ho] at ho'; cases ho'
    exact ⟨_, es', ep', hL, r'⟩) hok hg
theorem Inv.turned {t' : Nat} {it : Addr} (I : Inv X pins σ H s) (k : ∀ b o, b ≠ it → s.heap.get? b = some o → h'.get? b = some o) (hn : H it = none) (hL : it ≠ X.env.locals)
    (h1 : it ∈ X.ex ∨ X.s_0.heap.objs.size ≤ it) (h2 : ∀ x c, X.env.cells.lookup x = some c → c ≠ it) (h3 : ∀ p ∈ X.pn ++ pins, p.1 ≠ it) : Inv X pins σ H { s with heap := h', toks := t' } := by
  have nit : ∀ b u, H b = some u → b ≠ it := fun b u e z => by rw [z, hn] at e; cases e
  refine I.step (g' := s.gens) (d' := s.drawn) (ch := [it]) (fun b hb => ?_) (fun b o _ _ hc e _ => k b o (fun z => hc (by simp [z])) e) (fun b o _ _ hc e _ => ⟨o.slots, k b o (fun z => hc (by simp [z])) e⟩) (fun _ _ _ _ n => n)
    (fun b o hc e => ⟨o, k b o (fun z => hc (by simp [z])) e⟩) (fun _ _ e => e) (fun _ _ _ e => e) (fun b ps e => ⟨#[], by rw [e]; simp⟩) (fun m hm => ?_) (fun b u e => ?_) I.bare
  · have e : b = it := by simpa using hb
    subst e
    exact ⟨h1, hL, h2, h3⟩
  · obtain ⟨o, es, ep, ho, r⟩ := hm
    exact ⟨o, es, ep, k _ o (Ne.symm hL) ho, r⟩
  · refine (I.hok b u e).stay (fun c v hc q => k c v ?_ q) (fun _ q => q) fun _ _ q => q
    rcases hc with z | z
    · rw [z]; exact nit b u e
    · exact nit c _ z
theorem Inv.tok (I : Inv X pins σ H s) (t : Nat) : Inv X pins σ H { s with toks := t } := I.un (h' := s.heap) (t' := t) Un.refl I.hok
theorem Inv.kept {t' : Nat} (I : Inv X pins σ H s) (k : ∀ b u, s.heap.get? b = some u → h'.get? b = some u) : Inv X pins σ H { s with heap := h', toks := t' } := I.un (Un.kept k) (I.hok.kept k)
theorem Inv.laid {a : Addr} {o : HO} {t' : Nat} (I : Inv X pins σ H s) (k : ∀ b u, s.heap.get? b = some u → h'.get? b = some u) (hp : s.heap.objs.size ≤ a) (new : ObjOk X.prog X.w (upd H a o) h' a o) :
    Inv X pins σ (upd H a o) { s with heap := h', toks := t' } := I.un (Un.laid k hp (I.hok.fresh hp)) (I.hok.laid k hp new)
theorem Inv.write {x e : Addr} {o : HO} {t' : Nat} (I : Inv X pins σ H s) (mu : Mut (H x)) (he : e = x ∨ H e = some (.own x)) (k : ∀ b u, b ≠ e → s.heap.get? b = some u → h'.get? b = some u) (heo : ∃ u, h'.get? e = some u)
    (new : ObjOk X.prog X.w (upd H x o) h' x o) : Inv X pins σ (upd H x o) { s with heap := h', toks := t' } := I.un (Un.write mu he k heo) (I.hok.write mu he k heo new)
theorem Inv.weak {σ' : List (Option V)} (I : Inv X pins σ H s) (hl : σ'.length = σ.length) (w : ∀ (i : Nat) v, σ'[i]? = some (some v) → σ[i]? = some (some v)) : Inv X pins σ' H s :=
  ⟨I.ok, I.os, I.bare, I.base, let ⟨m, hn, hl'⟩ := I.loc; ⟨m, hn, fun i x v e1 e2 e3 => hl' i x v e1 (w i v e2) e3⟩, I.cell, I.free, I.freeC, I.pin, I.hok, hl.trans I.len⟩
theorem Inv.pins_of {pins' : List (Addr × Obj)} (I : Inv X pins σ H s) (h : ∀ p ∈ pins', s.heap.get? p.1 = some p.2 ∧ H p.1 = none ∧ p.1 ≠ X.env.locals ∧ p.1 ∉ X.fs ∧ ∀ v, p.2.data ≠ .cell v) : Inv X pins' σ H s :=
  ⟨I.ok, I.os, I.bare, I.base, I.loc, I.cell, I.free, I.freeC, fun p hp => (List.mem_append.mp hp).elim (fun z => I.pin p (List.mem_append_left _ z)) (h p), I.hok, I.len⟩
theorem nodup_ix {N : List Str} (hN : N.Nodup) {i j : Nat} {x : Str} (a : N[i]? = some x) (b : N[j]? = some x) : i = j := by
  obtain ⟨h1, e1⟩ := List.getElem?_eq_some_iff.mp a
  obtain ⟨h2, e2⟩ := List.getElem?_eq_some_iff.mp b
  exact (List.getElem_inj hN).mp (e1.trans e2.symm)
theorem store_ok2 {M : Model} {A : Around} {E : Value → Shared → Prop} {i : Nat} {x : Str} {v : V} {u : Value} {Q : Unit → Shared → Prop} (I : Inv X pins σ H s) (hN : X.N.Nodup) (hi : X.N[i]? = some x) (hx : Loc X.env.scope x) (r : RelV v u)
    (h : ∀ s', Inv X pins (σ.set i (some v)) H s' → (∃ a, Heap.SameBut a s.heap s'.heap ∧ (a = X.env.locals ∨ X.env.cells.lookup x = some a)) → Q () s') (hf : X.fn x = true ∨ X.env.scope.names.lookup x = some .local := by first | exact .inl rfl | exact .inr rfl | assumption) : wpAny M A (storeName X.env x u) Q E s := by
  obtain ⟨m, hn, hl⟩ := id I.loc
  have hcls : (X.env.scope.kind == .class || (X.env.scope.kind == .module && X.env.locals != X.env.globals)) = false := by rw [I.ok.kind]; rfl
  have hiσ : i < σ.length := by rw [I.len]; exact (List.getElem?_eq_some_iff.mp hi).1
  have cne := I.cne
  have tracked : ∀ {a : Addr} {h' : Heap}, (∃ o, s.heap.get? a = some o ∧ H a = none) → Heap.SameBut a s.heap h' → HOk X.prog X.w H h' := fun {a h'} ha hs b ob e => by
    obtain ⟨_, _, hfree⟩ := ha
    refine (I.hok b ob e).stay (fun c w' hc q => (hs.2 c ?_).trans q) (fun _ q => q) fun _ _ q => q
    rintro rfl
    rcases hc with rfl | hc
    · rw [hfree] at e; cases e
    · rw [hfree] at hc; cases hc
  rcases hx with hk | hk
  · refine wpAny_storeName_local hk hn (fun h' hn' hs => ?_) hcls
    obtain ⟨oL, _, _, hoL, _⟩ := id hn
    refine h _ ⟨I.ok, I.os, I.bare, ⟨fun b o e n hb hx => ?_, fun b o e n hb hx => ?_, I.base.free, fun b o e hx => ?_, I.base.tups, I.base.frzs, I.base.tbls⟩, ⟨_, hn', fun j y v' e1 e2 e3 => ?_⟩, fun y c e => ?_, I.free, I.freeC, fun p hp => ?_, tracked ⟨oL, hoL, I.free⟩ hs, by simpa using I.len⟩ ⟨_, hs, .inl rfl⟩
    · exact (hs.2 b (Nat.ne_of_lt (Nat.lt_of_lt_of_le (Heap.lt_size e) I.ok.above))).trans (I.base.keep b o e n hb hx)
    · obtain ⟨sl, e1⟩ := I.base.slot b o e n hb hx
      exact ⟨sl, (hs.2 b (Nat.ne_of_lt (Nat.lt_of_lt_of_le (Heap.lt_size e) I.ok.above))).trans e1⟩
    · obtain ⟨o', e1⟩ := I.base.there b o e hx
      exact ⟨o', (hs.2 b (Nat.ne_of_lt (Nat.lt_of_lt_of_le (Heap.lt_size e) I.ok.above))).trans e1⟩
    · by_cases hj : j = i
      · subst hj
        rw [hi] at e1; cases e1
        rw [List.getElem?_set_self hiσ] at e2
        cases e2
        exact ⟨u, r, .inl ⟨hk, by simp⟩⟩
      · rw [List.getElem?_set_ne (Ne.symm hj)] at e2
        obtain ⟨u', r', q⟩ := hl j y v' e1 e2 e3
        refine ⟨u', r', ?_⟩
        rcases q with ⟨k, e⟩ | ⟨k, c, e, z⟩
        · refine .inl ⟨k, ?_⟩
          have : y ≠ x := fun e => hj (nodup_ix hN e1 (e ▸ hi))
          simp [this, e]
        · exact .inr ⟨k, c, e, z.sameBut hs (cne y c e)⟩
    · obtain ⟨w', z⟩ := I.cell y c e
      exact ⟨w', z.sameBut hs (cne y c e)⟩
    · obtain ⟨e, n, ne, nf, d⟩ := I.pin p hp
      exact ⟨(hs.2 p.1 ne).trans e, n, ne, nf, d⟩
  · have hfn : X.fn x = true := by
      rcases hf with z | z
      · exact z
      · rw [z] at hk; cases hk
    obtain ⟨c, hc⟩ := I.ok.has x (.inl hk)
    obtain ⟨w', z⟩ := I.cell x c hc
    refine wpAny_storeName_cell I.ok.kind hk hc z (fun h' hc' hs => ?_)
    obtain ⟨oc, hoc, hocd⟩ := id z
    refine h { s with heap := h' } ⟨I.ok, I.os, I.bare, ⟨fun b o e n hb hx => ?_, fun b o e n hb hx => ?_, I.base.free, fun b o e hx => ?_, I.base.tups, I.base.frzs, I.base.tbls⟩, ⟨m, hn.sameBut hs (Ne.symm (cne x c hc)), fun j y v' e1 e2 e3 => ?_⟩, fun y c' e => ?_, I.free, I.freeC, fun p hp => ?_, tracked ⟨oc, hoc, I.freeC x c hc⟩ hs, by simpa using I.len⟩ ⟨c, hs, .inr hc⟩
    · exact (hs.2 b (Nat.ne_of_lt (Nat.lt_of_lt_of_le (Heap.lt_size e) (I.ok.cab x c hfn hc)))).trans (I.base.keep b o e n hb hx)
    · obtain ⟨sl, e1⟩ := I.base.slot b o e n hb hx
      exact ⟨sl, (hs.2 b (Nat.ne_of_lt (Nat.lt_of_lt_of_le (Heap.lt_size e) (I.ok.cab x c hfn hc)))).trans e1⟩
    · obtain ⟨o', e1⟩ := I.base.there b o e hx
      exact ⟨o', (hs.2 b (Nat.ne_of_lt (Nat.lt_of_lt_of_le (Heap.lt_size e) (I.ok.cab x c hfn hc)))).trans e1⟩
    · by_cases hj : j = i
      · subst hj
        rw [hi] at e1; cases e1
        rw [List.getElem?_set_self hiσ] at e2
        cases e2
        exact ⟨u, r, .inr ⟨.inl hk, c, hc, hc'⟩⟩
      · rw [List.getElem?_set_ne (Ne.symm hj)] at e2
        obtain ⟨u', r', q⟩ := hl j y v' e1 e2 e3
        refine ⟨u', r', ?_⟩
        rcases q with q | ⟨k, c', e, z'⟩
        · exact .inl q
        · refine .inr ⟨k, c', e, z'.sameBut hs ?_⟩
          rintro rfl
          exact hj (nodup_ix hN e1 (I.ok.inj _ _ _ e hc ▸ hi))
    · by_cases hcc : c' = c
      · subst hcc; exact ⟨_, hc'⟩
      · obtain ⟨w2, z2⟩ := I.cell y c' e
        exact ⟨w2, z2.sameBut hs hcc⟩
    · obtain ⟨e, n, ne, nf, d⟩ := I.pin p hp
      refine ⟨(hs.2 p.1 ?_).trans e, n, ne, nf, d⟩
      intro q
      rw [q, hoc] at e
      have q' : oc = p.2 := Option.some.inj e
      exact d w' (by rw [← q']; exact hocd)
theorem store_ok {M : Model} {A : Around} {E : Value → Shared → Prop} {i : Nat} {x : Str} {v : V} {u : Value} {Q : Unit → Shared → Prop} (I : Inv X pins σ H s) (hN : X.N.Nodup) (hi : X.N[i]? = some x) (hx : Loc X.env.scope x) (r : RelV v u)
    (h : ∀ s', Inv X pins (σ.set i (some v)) H s' → Q () s') (hf : X.fn x = true ∨ X.env.scope.names.lookup x = some .local := by first | exact .inl rfl | exact .inr rfl | assumption) : wpAny M A (storeName X.env x u) Q E s :=
  store_ok2 I hN hi hx r (fun s' I' _ => h s' I') hf
theorem Inv.call' {s' : Shared} {ch : List Addr} (I : Inv X pins σ H s) (ho : s'.os = s.os) (u : Un (frs X.stack) ch H H' s.heap s'.heap) (hok : HOk X.prog X.w H' s'.heap) (hg : AllBare s'.gens)
    (hch : ∀ b ∈ ch, (b ∈ X.ex ∨ X.s_0.heap.objs.size ≤ b) ∧ b ≠ X.env.locals ∧ (∀ x c, X.env.cells.lookup x = some c → c ≠ b) ∧ ∀ p ∈ X.pn ++ pins, p.1 ≠ b) : Inv X pins σ H' s' := by
  obtain ⟨h', g', d', t', o'⟩ := s'
  have e : o' = s.os := ho
  subst e
  exact I.call (g' := g') (t' := t') (d' := d') u hok hg hch
end
abbrev XK := Value → Option Addr → Hp → Prop
abbrev St := List (Option V)
abbrev VK := V → Hp → Prop
abbrev TE := St → Hp → VK → Prop
abbrev TT := St → Hp → (Bool → Hp → Prop) → Prop
abbrev TA := St → Hp → (List V → Hp → Prop) → Prop
structure Ends where
  nx : St → Hp → Prop
  rt : VK
  bk : St → Hp → Prop := fun _ _ => False
  ct : St → Hp → Prop := fun _ _ => False
abbrev TS := Ends → St → Hp → Prop
def EP (X : Cx) (pins : List (Addr × Obj)) (σ : St) (Q : VK) (u : Value) (s' : Shared) : Prop := ∃ v H', Inv X pins σ H' s' ∧ RelV v u ∧ Q v H'
def TP (X : Cx) (pins : List (Addr × Obj)) (σ : St) (Q : Bool → Hp → Prop) (b : Bool) (s' : Shared) : Prop := ∃ H', Inv X pins σ H' s' ∧ Q b H'
def AP (X : Cx) (pins : List (Addr × Obj)) (σ : St) (Q : List V → Hp → Prop) (us : List Value) (s' : Shared) : Prop := ∃ vs H', Inv X pins σ H' s' ∧ Vals vs us ∧ Q vs H'
def SP (X : Cx) (pins : List (Addr × Obj)) (D : Ends) (f : Flow) (s' : Shared) : Prop :=
  match f with
  | .next => ∃ σ' H', Inv X pins σ' H' s' ∧ D.nx σ' H'
  | .brk => ∃ σ' H', Inv X pins σ' H' s' ∧ D.bk σ' H'
  | .cont => ∃ σ' H', Inv X pins σ' H' s' ∧ D.ct σ' H'
  | .ret u => ∃ v σ' H', Inv X pins σ' H' s' ∧ RelV v u ∧ D.rt v H'
def PE (X : Cx) (e : Expr) (t : TE) : Prop :=
  ∀ (pins : List (Addr × Obj)) (s : Shared) (σ : St) (H : Hp) (Q : VK), Inv X pins σ H s → t σ H Q → wpAny (model X.prog X.w) X.A (eval e X.env) (EP X pins σ Q) X.xe s
def PT (X : Cx) (e : Expr) (t : TT) : Prop :=
  ∀ (pins : List (Addr × Obj)) (s : Shared) (σ : St) (H : Hp) (Q : Bool → Hp → Prop), Inv X pins σ H s → t σ H Q → wpAny (model X.prog X.w) X.A (isTrue e X.env (eval e X.env)) (TP X pins σ Q) X.xe s
def PW (X : Cx) (e : Expr) (t : TT) : Prop :=
  ∀ (whole : Sem Value) (pins : List (Addr × Obj)) (s : Shared) (σ : St) (H : Hp) (Q : Bool → Hp → Prop), Inv X pins σ H s → t σ H Q → wpAny (model X.prog X.w) X.A (isTrue e X.env whole) (TP X pins σ Q) X.xe s
theorem PW.pt {X : Cx} {e : Expr} {t : TT} (h : PW X e t) : PT X e t := h _
def PA (X : Cx) (es : List Expr) (t : TA) : Prop :=
  ∀ (pos : Pos) (pins : List (Addr × Obj)) (s : Shared) (σ : St) (H : Hp) (Q : List V → Hp → Prop), Inv X pins σ H s → t σ H Q → wpAny (model X.prog X.w) X.A (spliced (backTo pos (starEach es X.env))) (AP X pins σ Q) X.xe s
def PS (X : Cx) (st : Stmt) (t : TS) : Prop :=
  ∀ (pins : List (Addr × Obj)) (s : Shared) (σ : St) (H : Hp) (D : Ends), Inv X pins σ H s → t D σ H → wpAny (model X.prog X.w) X.A (exec st X.env) (SP X pins D) X.xe s
def PSs (X : Cx) (st : List Stmt) (t : TS) : Prop :=
  ∀ (pins : List (Addr × Obj)) (s : Shared) (σ : St) (H : Hp) (D : Ends), Inv X pins σ H s → t D σ H → wpAny (model X.prog X.w) X.A (execs st X.env) (SP X pins D) X.xe s
theorem thn {α : Type} {t : Sem α} {Q Q' : α → Shared → Prop} {M : Model} {A : Around} {E : Value → Shared → Prop} {s : Shared} (h : wpAny M A t Q E s) (hQ : ∀ a s, Q a s → Q' a s) : wpAny M A t Q' E s := wpAny_mono h hQ fun _ _ x => x
end L2
namespace L2
open PySem PySem.Spec PyProof.Rows
section
variable {X : Cx}
def tVar (i : Nat) : TE := fun σ H Q => ∃ v, σ[i]? = some (some v) ∧ Q v H
def tC (v : V) : TE := fun _ H Q => Q v H
theorem pe_var {i : Nat} {x : Str} {pos : Pos} (hN : X.N[i]? = some x) (hv : Vis X.env.scope x) (hd : (x == ("__debug__" : Str)) = false := by decide) (hcd : (x == ("__classdict__" : Str)) = false := by decide) : PE X (.Name x pos) (tVar i) := by
  intro pins s σ H Q I h
  obtain ⟨v, e, h⟩ := h
  obtain ⟨m, hn, hl⟩ := I.loc
  obtain ⟨u, r, l⟩ := hl i x v hN e hv
  have fin : EP X pins σ Q u s := ⟨v, H, I, r, h⟩
  rcases l with ⟨hk, hm⟩ | ⟨hk, c, hc, hcell⟩
  · exact wpAny_Name (wpAny_loadName_local I.ok.kind hk hn hm fin) hd
  · rcases hk with hk | hk
    · exact wpAny_Name (wpAny_loadName_cell I.ok.kind hk hc hcell fin) hd
    · exact wpAny_Name (wpAny_loadName_free I.ok.kind hk hc hcell fin hcd) hd
theorem pe_int {i j pos} : PE X (.Constant (.int i) j pos) (tC (.int i)) := fun _ _ _ H _ I h => wpAny_Constant_int ⟨.int i, H, I.tok _, ⟨_, rfl⟩, h⟩
theorem pe_bl {b j pos} : PE X (.Constant (.bool b) j pos) (tC (.bl b)) := fun _ _ _ H _ I h => Constant_bool ⟨.bl b, H, I, rfl, h⟩
theorem pe_str {x j pos} : PE X (.Constant (.str x) j pos) (tC (.str x)) := fun _ _ _ H _ I h => Calls.Constant_str ⟨.str x, H, I.tok _, ⟨_, rfl⟩, h⟩
def Gl (X : Cx) (x : Str) : Prop := X.env.kindOf x = some .globalImplicit
theorem ld_glob {E : Value → Shared → Prop} {pins : List (Addr × Obj)} {s : Shared} {σ : St} {H : Hp} {x : Str} {u : Value} {pos : Pos} {Q : Value → Shared → Prop} (I : Inv X pins σ H s) (hg : Gl X x) (hm : X.mg x = some u) (h : Q u s)
    (hd : (x == ("__debug__" : Str)) = false := by decide) : wpAny (model X.prog X.w) X.A (eval (.Name x pos) X.env) Q E s :=
  Calls.Name_function_global I.ok.kind hg (Calls.loadGlobal_global (by rw [I.ok.glob]; exact I.mod.glob.keeps I.bk) hm h) hd
theorem ld_blt {E : Value → Shared → Prop} {pins : List (Addr × Obj)} {s : Shared} {σ : St} {H : Hp} {x : Str} {u : Value} {pos : Pos} {Q : Value → Shared → Prop} (I : Inv X pins σ H s) (hg : Gl X x) (hm : X.mg x = none) (hv : bootBuiltins x = some u) (h : Q u s)
    (hn : x ≠ "__name__" := by decide) (hd : (x == ("__debug__" : Str)) = false := by decide) : wpAny (model X.prog X.w) X.A (eval (.Name x pos) X.env) Q E s := by
  obtain ⟨mb, h1, h2⟩ := I.mod.blt
  exact Calls.Name_function_global I.ok.kind hg (Calls.loadGlobal_builtin (by rw [I.ok.glob]; exact I.mod.glob.keeps I.bk) hm (by rw [I.ok.blt]; exact h1.keeps I.bk) ((h2 x hn).trans hv) h) hd
theorem pe_glob {x : Str} {v : V} {u : Value} {pos : Pos} (hg : Gl X x) (hm : X.mg x = some u) (r : RelV v u) (hd : (x == ("__debug__" : Str)) = false := by decide) : PE X (.Name x pos) (tC v) :=
  fun _ _ _ H _ I h => ld_glob I hg hm ⟨v, H, I, r, h⟩ hd
def t2I (ta tb : TE) (k : Int → Int → Hp → Prop) : St → Hp → Prop := fun σ H => ta σ H fun x H1 => tb σ H1 fun y H2 => ∃ i j, x = .int i ∧ y = .int j ∧ k i j H2
variable {a b : Expr} {ta tb : TE} {pos : Pos}
def PC (X : Cx) (op : CmpOp) (a b : Expr) (t : TE) : Prop :=
  ∀ (pins : List (Addr × Obj)) (s : Shared) (σ : St) (H : Hp) (Q : VK), Inv X pins σ H s → t σ H Q →
    wpAny (model X.prog X.w) X.A (eval a X.env) (fun v s₁ => wpAny (model X.prog X.w) X.A (eval b X.env) (fun u s₂ => wpAny (model X.prog X.w) X.A (compareOp op v u) (EP X pins σ Q) X.xe s₂) X.xe s₁) X.xe s
theorem nobehind (b : Expr) {op : CmpOp} (h : op ≠ .In) (h2 : op ≠ .NotIn) : behindInMarks op b = false := by
  have e1 : (op == CmpOp.In) = false := by cases op <;> first | rfl | exact absurd rfl h
  have e2 : (op == CmpOp.NotIn) = false := by cases op <;> first | rfl | exact absurd rfl h2
  cases b <;> simp [behindInMarks, e1, e2]
def tCmp (p : Int → Int → Bool) (ta tb : TE) : TE := fun σ H Q => t2I ta tb (fun i j H2 => Q (.bl (p i j)) H2) σ H
abbrev tLt : TE → TE → TE := tCmp fun i j => decide (i < j)
abbrev tLe : TE → TE → TE := tCmp fun i j => decide (i ≤ j)
abbrev tGt : TE → TE → TE := tCmp fun i j => decide (j < i)
abbrev tGe : TE → TE → TE := tCmp fun i j => decide (j ≤ i)
abbrev tEqI : TE → TE → TE := tCmp fun i j => decide (i = j)
abbrev tNeI : TE → TE → TE := tCmp fun i j => !decide (i = j)
def tB (t : TE) : TT := fun σ H Q => t σ H fun x H1 => ∃ c, x = .bl c ∧ Q c H1
theorem pe_cmp {op : CmpOp} {t : TE} (h : PC X op a b t) (h1 : behindInMarks op b = false := by first | exact nobehind _ (by decide) (by decide) | rfl) : PE X (.Compare a [op] [b] pos) t := fun pins s σ H Q I hw => wpAny_Compare1 (h pins s σ H Q I hw) h1
theorem pt_cmp {op : CmpOp} {t : TE} (h : PC X op a b t) (h1 : behindInMarks op b = false := by first | exact nobehind _ (by decide) (by decide) | rfl) : PT X (.Compare a [op] [b] pos) (tB t) := by
  intro pins s σ H Q I hw
  refine wpAny_isTrue_Compare1 (thn (h pins s σ H _ I hw) fun v s1 h1 => thn h1 fun u s2 h2 => thn h2 fun c s3 ⟨x, H1, I1, r1, q1⟩ => ?_) h1
  obtain ⟨d, rfl, q⟩ := q1
  cases r1
  exact wpAny_truthy_bool ⟨H1, I1, q⟩
theorem pt_val {e : Expr} {t : TE} (h : PE X e t) (he : ∀ whole, isTrue e X.env whole = (do let v ← whole; standAt e.pos; holding [v] (truthy v)) := by intro _; rfl) : PT X e (tB t) := by
  intro pins s σ H Q I hw
  refine isTrue_plain (thn (h pins s σ H _ I hw) fun v s1 ⟨x, H1, I1, r1, q1⟩ => ?_) (he _)
  obtain ⟨d, rfl, q⟩ := q1
  cases r1
  exact wpAny_truthy_bool ⟨H1, I1, q⟩
variable {tA tB' : TT} {rest : List Expr}
def tAnd (t u : TT) : TT := fun σ H Q => t σ H fun c H1 => if c = true then u σ H1 Q else Q false H1
def tOr (t u : TT) : TT := fun σ H Q => t σ H fun c H1 => if c = true then Q true H1 else u σ H1 Q
def tNot (t : TT) : TT := fun σ H Q => t σ H fun c H1 => Q (!c) H1
theorem pw_and1 (ha : PT X a tA) : PW X (.BoolOp .And [a] pos) tA := by
  intro wh pins s σ H Q I h
  refine isTrue_and (thn (ha pins s σ H Q I h) fun c s1 e => ?_)
  cases c with
  | true => exact isTrue_and_nil e
  | false => exact e
theorem pw_or1 (ha : PT X a tA) : PW X (.BoolOp .Or [a] pos) tA := by
  intro wh pins s σ H Q I h
  refine isTrue_or (thn (ha pins s σ H Q I h) fun c s1 e => ?_)
  cases c with
  | false => exact isTrue_or_nil e
  | true => exact e
theorem pw_and (ha : PT X a tA) (hb : PW X (.BoolOp .And (b :: rest) pos) tB') : PW X (.BoolOp .And (a :: b :: rest) pos) (tAnd tA tB') := by
  intro wh pins s σ H Q I h
  refine isTrue_and (thn (ha pins s σ H _ I h) fun c s1 ⟨H1, I1, q1⟩ => ?_)
  cases c with
  | true => exact hb wh pins s1 σ H1 Q I1 q1
  | false => exact ⟨H1, I1, q1⟩
theorem pw_or (ha : PT X a tA) (hb : PW X (.BoolOp .Or (b :: rest) pos) tB') : PW X (.BoolOp .Or (a :: b :: rest) pos) (tOr tA tB') := by
  intro wh pins s σ H Q I h
  refine isTrue_or (thn (ha pins s σ H _ I h) fun c s1 ⟨H1, I1, q1⟩ => ?_)
  cases c with
  | true => exact ⟨H1, I1, q1⟩
  | false => exact hb wh pins s1 σ H1 Q I1 q1
theorem pt_not (ha : PT X a tA) : PT X (.UnaryOp .Not a pos) (tNot tA) := by
  intro pins s σ H Q I h
  exact isTrue_not (ha pins s σ H (fun c H1 => Q (!c) H1) I h)
def tAndV (ta tb : TE) : TE := fun σ H Q => ta σ H fun x H1 => ∃ c, x = .bl c ∧ if c = true then tb σ H1 Q else Q (.bl false) H1
def tNotV (ta : TE) : TE := fun σ H Q => ta σ H fun x H1 => ∃ c, x = .bl c ∧ Q (.bl (!c)) H1
theorem pe_one {op} {t : TE} (h : PE X a t) : PE X (.BoolOp op [a] pos) t := fun pins s σ H Q I hw => BoolOp_one (h pins s σ H Q I hw)
theorem pe_and (ha : PE X a ta) (hb : PE X (.BoolOp .And (b :: rest) pos) tb) : PE X (.BoolOp .And (a :: b :: rest) pos) (tAndV ta tb) := by
  intro pins s σ H Q I h
  refine BoolOp_and (thn (ha pins s σ H _ I h) fun v s1 ⟨x, H1, I1, r1, q1⟩ => ?_)
  obtain ⟨c, rfl, q1⟩ := q1
  cases r1
  refine wpAny_truthy_bool ?_
  cases c with
  | true => exact hb pins s1 σ H1 Q I1 q1
  | false => exact ⟨.bl false, H1, I1, rfl, q1⟩
theorem pe_not (ha : PE X a ta) : PE X (.UnaryOp .Not a pos) (tNotV ta) := by
  intro pins s σ H Q I h
  refine UnaryOp_ (thn (ha pins s σ H _ I h) fun v s1 ⟨x, H1, I1, r1, q1⟩ => ?_)
  obtain ⟨c, rfl, q1⟩ := q1
  cases r1
  exact not_of (wpAny_truthy_bool ⟨.bl (!c), H1, I1, rfl, q1⟩)
def tIf (t : TT) (ta tb : TE) : TE := fun σ H Q => t σ H fun c H1 => if c = true then ta σ H1 Q else tb σ H1 Q
theorem pe_ifExp {c : Expr} (hc : PT X c tA) (ha : PE X a ta) (hb : PE X b tb) : PE X (.IfExp c a b pos) (tIf tA ta tb) := by
  intro pins s σ H Q I h
  refine wpAny_IfExp (thn (hc pins s σ H _ I h) fun d s1 ⟨H1, I1, q1⟩ => ?_)
  cases d with
  | true => exact ha pins s1 σ H1 Q I1 q1
  | false => exact hb pins s1 σ H1 Q I1 q1
end
end L2
namespace L2
open PySem PySem.Spec PyProof.Rows
def SqL (K : PySem.W.Frag) (H : Hp) (a : Addr) (xs : List V) : Prop :=
  Rd H a (.lst xs) ∨
    ∃ (o : Obj) (its : Array Value) (n : Nat), K.lookup a = some o ∧ o.cls = .type "list" ∧ o.dict = none ∧ o.data = .seq its n ∧ its.size ≤ sizeLine ∧ Vals xs its.toList
def SqT (K : PySem.W.Frag) (H : Hp) (a : Addr) (xs : List V) : Prop :=
  Rd H a (.tup xs) ∨
    ∃ (o : Obj) (its : Array Value) (n : Nat), K.lookup a = some o ∧ o.cls = .type "tuple" ∧ o.data = .seq its n ∧ its.size ≤ sizeLine ∧ Vals xs its.toList
def absV : Value → Option V
  | .none => some .non
  | .bool b => some (.bl b)
  | .int i _ => some (.int i)
  | .str x _ => some (.str x)
  | .bytes b _ => some (.byt b)
  | .float b _ => some (.flt b)
  | .ref a => some (.ref a)
  | .type n => some (.ty n)
  | _ => none
theorem RelV.abs {x : V} {u : Value} (r : RelV x u) : absV u = some x := by
  cases x with
  | non => cases r; rfl
  | bl _ => cases r; rfl
  | int _ => obtain ⟨t, rfl⟩ := r; rfl
  | str _ => obtain ⟨t, rfl⟩ := r; rfl
  | byt _ => obtain ⟨t, rfl⟩ := r; rfl
  | flt _ => obtain ⟨t, rfl⟩ := r; rfl
  | ref _ => cases r; rfl
  | ty _ => cases r; rfl
theorem RelV.inj {x y : V} {u : Value} (r : RelV x u) (q : RelV y u) : x = y := Option.some.inj (r.abs.symm.trans q.abs)
theorem Vals.inj : ∀ {xs ys : List V} {us : List Value}, Vals xs us → Vals ys us → xs = ys
  | _, _, _, .nil, .nil => rfl
  | _, _, _, .cons r t, .cons r' t' => by rw [r.inj r', Vals.inj t t']
section
variable {X : Cx} {pins : List (Addr × Obj)} {σ : St} {H : Hp} {s : Shared} {a : Addr} {xs ys : List V}
theorem SqL.of {K : PySem.W.Frag} (h : H a = some (.lst xs)) : SqL K H a xs := .inl (.inl h)
theorem SqT.of {K : PySem.W.Frag} (h : H a = some (.tup xs)) : SqT K H a xs := .inl (.inl h)
theorem Inv.list (I : Inv X pins σ H s) (h : SqL X.K H a xs) : ∃ its : List Value, Vals xs its ∧ PlainL s.heap a its.toArray ∧ xs.length ≤ sizeLine := by
  rcases h with h | ⟨o, its, n, hk, hc, hd, hs, hz, r⟩
  · obtain ⟨z, its, n, r, e⟩ := h.ok I.hok
    exact ⟨its, r, ⟨_, n, e, rfl, rfl, rfl⟩, z⟩
  · refine ⟨its.toList, r, ⟨o, n, I.kIn a o hk, hc, hd, by simpa using hs⟩, ?_⟩
    have e := r.length
    simp only [Array.length_toList] at e
    omega
theorem Inv.tuple (I : Inv X pins σ H s) (h : SqT X.K H a xs) : ∃ its : List Value, Vals xs its ∧ IsTup s.heap a its.toArray ∧ xs.length ≤ sizeLine := by
  rcases h with h | ⟨o, its, n, hk, hc, hs, hz, r⟩
  · obtain ⟨z, its, r, p⟩ := h.ok I.hok
    exact ⟨its, r, p, z⟩
  · refine ⟨its.toList, r, ⟨o, I.kIn a o hk, hc, n, by simpa using hs⟩, ?_⟩
    have e := r.length
    simp only [Array.length_toList] at e
    omega
theorem Inv.list_inj (I : Inv X pins σ H s) (h : SqL X.K H a xs) (h' : SqL X.K H a ys) : xs = ys := by
  obtain ⟨its, r, ⟨o, n, e, _, _, d⟩, _⟩ := I.list h
  obtain ⟨its', r', ⟨o', n', e', _, _, d'⟩, _⟩ := I.list h'
  rw [e] at e'; cases e'
  rw [d] at d'
  injection d' with d1 _
  have : its = its' := by simpa using congrArg Array.toList d1
  subst this
  exact r.inj r'
theorem Inv.tuple_inj (I : Inv X pins σ H s) (h : SqT X.K H a xs) (h' : SqT X.K H a ys) : xs = ys := by
  obtain ⟨its, r, ⟨o, e, _, n, d⟩, _⟩ := I.tuple h
  obtain ⟨its', r', ⟨o', e', _, n', d'⟩, _⟩ := I.tuple h'
  rw [e] at e'; cases e'
  rw [d] at d'
  injection d' with d1 _
  have : its = its' := by simpa using congrArg Array.toList d1
  subst this
  exact r.inj r'
end
abbrev Cx.wish (X : Cx) (E : Value → Shared → Prop) : Cx := { X with xe := E }
abbrev Cx.nox (X : Cx) : Cx := X.wish fun _ _ => False
theorem Cx.Ok.wish {X : Cx} (ok : X.Ok) (E : Value → Shared → Prop) : (X.wish E).Ok :=
  ⟨ok.mod, ok.kind, ok.glob, ok.blt, ok.above, ok.inj, ok.has, ok.cab, ok.hd, ok.frames, ok.stk, ok.exf, ok.bs, ok.bsz, ok.noex, ok.exfs, ok.funs, ok.frf⟩
theorem Cx.Ok.unwish {X : Cx} {E : Value → Shared → Prop} (ok : (X.wish E).Ok) : X.Ok :=
  ⟨ok.mod, ok.kind, ok.glob, ok.blt, ok.above, ok.inj, ok.has, ok.cab, ok.hd, ok.frames, ok.stk, ok.exf, ok.bs, ok.bsz, ok.noex, ok.exfs, ok.funs, ok.frf⟩
section
variable {X : Cx} {pins : List (Addr × Obj)} {σ : St} {H : Hp} {s : Shared} {E : Value → Shared → Prop}
theorem Inv.wish (I : Inv X pins σ H s) (E : Value → Shared → Prop) : Inv (X.wish E) pins σ H s := ⟨I.ok.wish E, I.os, I.bare, I.base, I.loc, I.cell, I.free, I.freeC, I.pin, I.hok, I.len⟩
theorem Inv.unwish (I : Inv (X.wish E) pins σ H s) : Inv X pins σ H s := ⟨I.ok.unwish, I.os, I.bare, I.base, I.loc, I.cell, I.free, I.freeC, I.pin, I.hok, I.len⟩
theorem SP.unwish {D : Ends} {f : Flow} {s' : Shared} (h : SP (X.wish E) pins D f s') : SP X pins D f s' := by
  cases f with
  | next => obtain ⟨σ', H', I, q⟩ := h; exact ⟨σ', H', I.unwish, q⟩
  | brk => obtain ⟨σ', H', I, q⟩ := h; exact ⟨σ', H', I.unwish, q⟩
  | cont => obtain ⟨σ', H', I, q⟩ := h; exact ⟨σ', H', I.unwish, q⟩
  | ret u => obtain ⟨v, σ', H', I, r, q⟩ := h; exact ⟨v, σ', H', I.unwish, r, q⟩
theorem PE.nox {e : Expr} {t : TE} (h : PE X.nox e t) : PE X e t := fun pins s σ H Q I hw =>
  wpAny_mono (h pins s σ H Q (I.wish _) hw) (fun _ _ ⟨v, H', I', r, q⟩ => ⟨v, H', I'.unwish, r, q⟩) fun _ _ z => False.elim z
theorem PT.nox {e : Expr} {t : TT} (h : PT X.nox e t) : PT X e t := fun pins s σ H Q I hw =>
  wpAny_mono (h pins s σ H Q (I.wish _) hw) (fun _ _ ⟨H', I', q⟩ => ⟨H', I'.unwish, q⟩) fun _ _ z => False.elim z
theorem PSs.nox {st : List Stmt} {t : TS} (h : PSs X.nox st t) : PSs X st t := fun pins s σ H D I hw =>
  wpAny_mono (h pins s σ H D (I.wish _) hw) (fun _ _ q => q.unwish) fun _ _ z => False.elim z
end
section
variable {X : Cx} {st : Stmt} {rest : List Stmt} {t u : TS} {e : Expr} {te : TE} {pos : Pos}
def tNext : TS := fun D σ H => D.nx σ H
def tSeq (t u : TS) : TS := fun D σ H => t { D with nx := u D } σ H
theorem pss_nil : PSs X [] tNext := fun _ _ σ H _ I h => wpAny_execs_nil ⟨σ, H, I, h⟩
theorem pss_cons (h1 : PS X st t) (h2 : PSs X rest u) : PSs X (st :: rest) (tSeq t u) := by
  intro pins s σ H D I h
  refine wpAny_execs_cons (thn (h1 pins s σ H { D with nx := u D } I h) fun f s1 q => ?_)
  cases f with
  | next =>
    obtain ⟨σ', H', I', q⟩ := q
    exact h2 pins s1 σ' H' D I' q
  | ret v => exact q
  | brk => exact q
  | cont => exact q
theorem pss_one (h1 : PS X st t) : PSs X [st] t := by
  intro pins s σ H D I h
  refine wpAny_execs_cons (thn (h1 pins s σ H D I h) fun f s1 q => ?_)
  cases f with
  | next => exact wpAny_execs_nil q
  | ret v => exact q
  | brk => exact q
  | cont => exact q
theorem Inv.quiet {pins : List (Addr × Obj)} {σ : St} {H : Hp} {s : Shared} (I : Inv X pins σ H s) : interactive X.env = false := by simp [interactive, I.ok.kind]
def tDrop (te : TE) : TS := fun D σ H => te σ H fun _ H1 => D.nx σ H1
theorem ps_expr (he : PE X e te) (hs : swapsWith e none pos.line X.env = pure false := by rfl) : PS X (.Expr e pos) (tDrop te) := by
  intro pins s σ H D I h
  exact wpAny_Expr_any (thn (he pins s σ H _ I h) fun v s1 ⟨x, H1, I1, r1, q1⟩ => ⟨σ, H1, I1, q1⟩) I.quiet hs
def tRet (te : TE) : TS := fun D σ H => te σ H D.rt
theorem ps_ret (he : PE X e te) : PS X (.Return (some e) pos) (tRet te) := by
  intro pins s σ H D I h
  exact wpAny_Return_some (thn (he pins s σ H _ I h) fun v s1 ⟨x, H1, I1, r1, q1⟩ => ⟨x, σ, H1, I1, r1, q1⟩)
def tRetN : TS := fun D _ H => D.rt .non H
theorem ps_retN : PS X (.Return none pos) tRetN := fun _ _ σ H _ I h => wpAny_Return_none ⟨.non, σ, H, I, rfl, h⟩
def tIfS (c : TT) (t u : TS) : TS := fun D σ H => c σ H fun b H1 => if b = true then t D σ H1 else u D σ H1
theorem ps_if {c : Expr} {a b : List Stmt} {tc : TT} (hc : PT X c tc) (ha : PSs X a t) (hb : PSs X b u) : PS X (.If c a b pos) (tIfS tc t u) := by
  intro pins s σ H D I h
  refine wpAny_If (thn (hc pins s σ H _ I h) fun d s1 ⟨H1, I1, q1⟩ => ?_)
  cases d with
  | true => exact ha pins s1 σ H1 D I1 q1
  | false => exact hb pins s1 σ H1 D I1 q1
end
abbrev TG := V → St → Hp → (St → Hp → Prop) → Prop
abbrev TGs := List V → St → Hp → (St → Hp → Prop) → Prop
def PG (X : Cx) (target : Expr) (t : TG) : Prop :=
  ∀ (pins : List (Addr × Obj)) (s : Shared) (σ : St) (H : Hp) (v : V) (u : Value) (Q : St → Hp → Prop), Inv X pins σ H s → RelV v u → t v σ H Q →
    wpAny (model X.prog X.w) X.A (assign target X.env u) (fun _ s' => ∃ σ' H', Inv X pins σ' H' s' ∧ Q σ' H') X.xe s
def PGs (X : Cx) (ts : List Expr) (t : TGs) : Prop :=
  ∀ (pins : List (Addr × Obj)) (s : Shared) (σ : St) (H : Hp) (vs : List V) (us : List Value) (Q : St → Hp → Prop), Inv X pins σ H s → Vals vs us → t vs σ H Q →
    wpAny (model X.prog X.w) X.A (assignInOrder ((assignEach ts X.env).map (·.2)) us) (fun _ s' => ∃ σ' H', Inv X pins σ' H' s' ∧ Q σ' H') X.xe s
abbrev TSet := V → V → V → Hp → (Hp → Prop) → Prop
def PSet (X : Cx) (t : TSet) : Prop :=
  ∀ (pins : List (Addr × Obj)) (s : Shared) (σ : St) (H : Hp) (o i v : V) (ov iv u : Value) (Q : Hp → Prop), Inv X pins σ H s → RelV o ov → RelV i iv → RelV v u → t o i v H Q →
    wpAny (model X.prog X.w) X.A (setItem ov iv u) (fun _ s' => ∃ H', Inv X pins σ H' s' ∧ Q H') X.xe s
abbrev TIp := V → V → Hp → VK → Prop
def PIp (X : Cx) (op : Operator) (t : TIp) : Prop :=
  ∀ (pins : List (Addr × Obj)) (s : Shared) (σ : St) (H : Hp) (x y : V) (v u : Value) (Q : VK), Inv X pins σ H s → RelV x v → RelV y u → t x y H Q →
    wpAny (model X.prog X.w) X.A (inplaceOp op v u) (EP X pins σ Q) X.xe s
section
variable {X : Cx} {pos : Pos}
def gName (i : Nat) : TG := fun v σ H Q => Q (σ.set i (some v)) H
theorem pg_name {i : Nat} {x : Str} (hN : X.N.Nodup) (hi : X.N[i]? = some x) (hx : Loc X.env.scope x) (hf : X.fn x = true ∨ X.env.scope.names.lookup x = some .local := by first | exact .inl rfl | exact .inr rfl | assumption) : PG X (.Name x pos) (gName i) := by
  intro pins s σ H v u Q I r h
  exact wpAny_assign_Name (store_ok I hN hi hx r (fun s' I' => ⟨_, H, I', h⟩) hf)
def gNil : TGs := fun vs σ H Q => vs = [] ∧ Q σ H
def gCons (t : TG) (u : TGs) : TGs := fun vs σ H Q => ∃ v r, vs = v :: r ∧ t v σ H fun σ' H' => u r σ' H' Q
theorem pgs_nil : PGs X [] gNil := by
  intro pins s σ H vs us Q I r h
  obtain ⟨e, h⟩ := h
  subst e
  cases r
  exact assignInOrder_nil ⟨σ, H, I, h⟩
theorem pgs_cons {e : Expr} {es : List Expr} {t : TG} {u : TGs} (h1 : PG X e t) (h2 : PGs X es u)
    (hs : (assignEach (e :: es) X.env).map (·.2) = assign e X.env :: (assignEach es X.env).map (·.2) := by rfl) : PGs X (e :: es) (gCons t u) := by
  intro pins s σ H vs us Q I r h
  obtain ⟨v, vr, e1, h⟩ := h
  subst e1
  cases r with
  | cons r rr =>
    rw [hs]
    refine assignInOrder_cons (thn (h1 pins s σ H _ _ _ I r h) fun _ s1 ⟨σ1, H1, I1, q1⟩ => ?_)
    exact h2 pins s1 σ1 H1 _ _ Q I1 rr q1
def gTup (K : PySem.W.Frag) (n : Nat) (t : TGs) : TG := fun v σ H Q => ∃ a xs, v = .ref a ∧ SqT K H a xs ∧ xs.length = n ∧ t xs σ H Q
theorem pg_tup {es : List Expr} {k : Nat} {t : TGs} {n : Nat} (hc : X.calm = true) (h : PGs X es t)
    (hn : (assignEach es X.env).length = n := by rfl) (hst : (assignEach es X.env).findIdx? (·.1) = none := by rfl) : PG X (.Tuple es k pos) (gTup X.K n t) := by
  intro pins s σ H v u Q I r hw
  obtain ⟨a, xs, e1, hq, hl, hw⟩ := hw
  subst e1
  cases r
  obtain ⟨its, rv, ht, hz⟩ := I.tuple hq
  refine assign_Tuple_tuple (I.ok.hd hc) ht (by simp [hn, ← hl, rv.length]) hst fun h' hx => ?_
  have I1 : Inv X pins σ H { s with heap := h' } := I.kept (t' := s.toks) fun b o e => hx b o (Nat.ne_of_lt (Heap.lt_size e)) e
  exact h pins _ σ H xs _ Q I1 (by simpa using rv) hw
def gSub (to ti : TE) (t : TSet) : TG := fun v σ H Q => to σ H fun o H1 => ti σ H1 fun i H2 => t o i v H2 fun H3 => Q σ H3
theorem pg_sub {o i : Expr} {to ti : TE} {t : TSet} (ho : PE X o to) (hi : PE X i ti) (hs : PSet X t)
    (ha : ∀ v, assign (.Subscript o i pos) X.env v = (do
      let ov ← holding [v] (eval o X.env)
      let iv ← holding [v, ov] (eval i X.env)
      standAt pos
      holding [v, ov, iv] (setItem ov iv v)
      release [v, ov, iv] []) := by intro _; rfl) : PG X (.Subscript o i pos) (gSub to ti t) := by
  intro pins s σ H v u Q I r h
  rw [ha]
  refine wpAny_bind (wpAny_holding (thn (ho pins s σ H _ I h) fun ov s1 ⟨x, H1, I1, r1, q1⟩ => ?_))
  refine wpAny_bind (wpAny_holding (thn (hi pins s1 σ H1 _ I1 q1) fun iv s2 ⟨y, H2, I2, r2, q2⟩ => ?_))
  refine wpAny_bind (wpAny_standAt (wpAny_bind (wpAny_holding (thn (hs pins s2 σ H2 x y v ov iv u _ I2 r1 r2 r q2) fun _ s3 ⟨H3, I3, q3⟩ => ?_))))
  exact wpAny_release ⟨σ, H3, I3, q3⟩
def tAsg (te : TE) (g : TG) : TS := fun D σ H => te σ H fun x H1 => g x σ H1 D.nx
theorem ps_asg {tg e : Expr} {te : TE} {g : TG} (he : PE X e te) (hg : PG X tg g) (hs : swapsWithSole [tg] e pos.line X.env = pure false := by rfl) (hw : swappedStores [tg] e X.env = pure none := by rfl)
    (h1 : (assignEach [tg] X.env).map (·.2) = [assign tg X.env] := by rfl) : PS X (.Assign [tg] e pos) (tAsg te g) := by
  intro pins s σ H D I h
  refine wpAny_Assign_stores (thn (he pins s σ H _ I h) fun v s1 ⟨x, H1, I1, r1, q1⟩ => ?_) hs hw
  rw [h1]
  exact thn (hg pins s1 σ H1 x v _ I1 r1 q1) fun _ s2 q => q
theorem ps_set {i : Nat} {x : Str} {e : Expr} {te : TE} {pos' : Pos} (hN : X.N.Nodup) (hi : X.N[i]? = some x) (hx : Loc X.env.scope x) (he : PE X e te) (hs : swapsWith e (some (.Name x pos')) pos.line X.env = pure false := by rfl) (hf : X.fn x = true ∨ X.env.scope.names.lookup x = some .local := by first | exact .inl rfl | exact .inr rfl | assumption) :
    PS X (.Assign [.Name x pos'] e pos) (tAsg te (gName i)) := by
  intro pins s σ H D I h
  refine wpAny_Assign_Name (thn (he pins s σ H _ I h) fun v s1 ⟨y, H1, I1, r1, q1⟩ => ?_) hs
  exact store_ok I1 hN hi hx r1 (fun s2 I2 => ⟨_, H1, I2, q1⟩) hf
def tAug (i : Nat) (te : TE) (ti : TIp) : TS := fun D σ H => ∃ x, σ[i]? = some (some x) ∧ te σ H fun y H1 => ti x y H1 fun z H2 => D.nx (σ.set i (some z)) H2
theorem ps_aug {i : Nat} {x : Str} {e : Expr} {te : TE} {op : Operator} {ti : TIp} {pos' : Pos} (hN : X.N.Nodup) (hi : X.N[i]? = some x) (hx : Loc X.env.scope x) (he : PE X e te) (ho : PIp X op ti) (hf : X.fn x = true ∨ X.env.scope.names.lookup x = some .local := by first | exact .inl rfl | exact .inr rfl | assumption) :
    PS X (.AugAssign (.Name x pos') op e pos) (tAug i te ti) := by
  intro pins s σ H D I h
  obtain ⟨v, e1, h⟩ := h
  obtain ⟨m, hn, hl⟩ := I.loc
  have vis : Vis X.env.scope x := by rcases hx with k | k; exact .inl k; exact .inr (.inl k)
  obtain ⟨u, r, l⟩ := hl i x v hi e1 vis
  refine wpAny_AugAssign_Name ?_
  have go : wpAny (model X.prog X.w) X.A (eval e X.env) (fun w s₂ => wpAny (model X.prog X.w) X.A (inplaceOp op u w) (fun r s₃ => wpAny (model X.prog X.w) X.A (storeName X.env x r) (fun _ => SP X pins D .next) X.xe s₃) X.xe s₂) X.xe s := by
    refine thn (he pins s σ H _ I h) fun w s1 ⟨y, H1, I1, r1, q1⟩ => ?_
    refine thn (ho pins s1 σ H1 v y u w _ I1 r r1 q1) fun z s2 ⟨zv, H2, I2, r2, q2⟩ => ?_
    exact store_ok I2 hN hi hx r2 (fun s3 I3 => ⟨_, H2, I3, q2⟩) hf
  rcases l with ⟨hk, hm⟩ | ⟨hk, c, hc, hcell⟩
  · exact wpAny_loadName_local I.ok.kind hk hn hm go
  · rcases hk with hk | hk
    · exact wpAny_loadName_cell I.ok.kind hk hc hcell go
    · rcases hx with k | k
      · have : X.env.scope.names.lookup x = some .free := hk
        rw [k] at this; cases this
      · have : X.env.scope.names.lookup x = some .free := hk
        rw [k] at this; cases this
def ipI (f : Int → Int → Int) : TIp := fun x y H Q => ∃ i j, x = .int i ∧ y = .int j ∧ Q (.int (f i j)) H
theorem ip_add : PIp X .Add (ipI fun i j => i + j) := by
  intro pins s σ H x y v u Q I r1 r2 h
  obtain ⟨i, j, e1, e2, q⟩ := h
  subst e1; subst e2
  obtain ⟨t, rfl⟩ := r1
  obtain ⟨t', rfl⟩ := r2
  exact iadd_int ⟨.int _, H, I.tok _, ⟨_, rfl⟩, q⟩
end
section
variable {X : Cx} {pos : Pos}
def tWhile (c : TT) (tb : TS) : TS := fun D σ H => ∃ W : Nat → St → Hp → Prop, (∃ m, W m σ H) ∧ ∀ m σ H, W m σ H →
  c σ H fun b H1 => if b = true then ∃ N : St → Hp → Prop, (∀ σ' H', N σ' H' → ∃ m', m' < m ∧ W m' σ' H') ∧ tb { D with nx := N, ct := N, bk := D.nx } σ H1 else D.nx σ H1
theorem ps_while {c : Expr} {body : List Stmt} {tc : TT} {tb : TS} (hp : PassesOwn (model X.prog X.w) X.A X.env X.xe) (hc : PT X c tc) (hb : PSs X body tb) : PS X (.While c body [] pos) (tWhile tc tb) := by
  intro pins s σ H D I h
  obtain ⟨W, ⟨m0, w0⟩, turn⟩ := h
  refine wpAny_While (codeAny_whileLoop (fun n s' => ∃ σ' H', Inv X pins σ' H' s' ∧ W n σ' H') ?_ m0 ⟨σ, H, I, w0⟩)
  rintro n s1 ⟨σ1, H1, I1, w1⟩
  refine wpAny_passesOwn hp (thn (hc pins s1 σ1 H1 _ I1 (turn n σ1 H1 w1)) fun b s2 ⟨H2, I2, q2⟩ => ?_)
  cases b with
  | true =>
    obtain ⟨N, hN, q2⟩ := q2
    rw [if_pos rfl]
    refine wpAny_passesOwn hp (thn (hb pins s2 σ1 H2 _ I2 q2) fun f s3 q3 => ?_)
    cases f with
    | next =>
      obtain ⟨σ3, H3, I3, n3⟩ := q3
      obtain ⟨m', hm, w3⟩ := hN σ3 H3 n3
      exact ⟨m', hm, σ3, H3, I3, w3⟩
    | cont =>
      obtain ⟨σ3, H3, I3, n3⟩ := q3
      obtain ⟨m', hm, w3⟩ := hN σ3 H3 n3
      exact ⟨m', hm, σ3, H3, I3, w3⟩
    | brk => exact q3
    | ret v => exact q3
  | false =>
    rw [if_neg Bool.false_ne_true]
    exact wpAny_execs_nil ⟨σ1, H2, I2, q2⟩
end
structure It where
  go : Nat → Hp → Prop
  yld : Nat → Hp → V → Hp → Prop
  stop : Nat → Hp → Prop
def FpOk (X : Cx) (pins : List (Addr × Obj)) (H : Hp) (b : Addr) : Prop :=
  H b = none ∧ b ≠ X.env.locals ∧ b ∉ X.fs ∧ (b ∈ X.ex ∨ X.s_0.heap.objs.size ≤ b) ∧ (∀ x c, X.env.cells.lookup x = some c → c ≠ b) ∧ ∀ p ∈ X.pn ++ pins, p.1 ≠ b
theorem Inv.fpOk {X : Cx} {pins : List (Addr × Obj)} {σ : St} {H H' : Hp} {s : Shared} {b : Addr} (I : Inv X pins σ H s) (hb : s.heap.objs.size ≤ b) (hn : H' b = none) : FpOk X pins H' b := by
  refine ⟨hn, Nat.ne_of_gt (Nat.lt_of_lt_of_le I.lt hb), I.nofs hb, .inr (Nat.le_trans I.sz hb), fun x c e z => ?_, fun p hp z => ?_⟩
  · obtain ⟨v, q⟩ := I.cell x c e
    exact absurd (Nat.lt_of_lt_of_le q.lt (by rw [z]; exact hb)) (Nat.lt_irrefl _)
  · exact absurd (Nat.lt_of_lt_of_le (Heap.lt_size (I.pin p hp).1) (by rw [z]; exact hb)) (Nat.lt_irrefl _)
structure Turn (P : Program) (w : World) (K : PySem.W.Frag) (tg : Expr) (J : It) (fp : List Addr) (it : Addr) (tn : Nat → Heap → Prop) : Prop where
  mem : it ∈ fp
  obj : ∀ i h, tn i h → ∀ b ∈ fp, ∃ o, h.get? b = some o ∧ ∀ v, o.data ≠ .cell v
  keep : ∀ i h h', tn i h → (∀ b ∈ fp, ∀ o, h.get? b = some o → h'.get? b = some o) → tn i h'
  item : ∀ (X : Cx), X.prog = P → X.w = w → X.K = K → X.calm = true → ∀ (i : Nat) (pins : List (Addr × Obj)) (s : Shared) (σ : St) (H : Hp) (E : Value → Shared → Prop), Inv X pins σ H s → (∀ b ∈ fp, FpOk X pins H b) → tn i s.heap → J.go i H →
    wpAny (model P w) X.A (pyNext (.ref it)) (fun r s1 => ∃ u, r = some u ∧
      wpAny (model P w) X.A (letOwnedTupleGo tg (.ref it) u) (fun _ s2 => ∃ x H', Inv X pins σ H' s2 ∧ RelV x u ∧ J.yld i H x H' ∧ tn (i + 1) s2.heap ∧ ∀ b ∈ fp, H' b = none) E s1) E s
  done : ∀ (X : Cx), X.prog = P → X.w = w → X.K = K → X.calm = true → ∀ (i : Nat) (pins : List (Addr × Obj)) (s : Shared) (σ : St) (H : Hp) (E : Value → Shared → Prop), Inv X pins σ H s → (∀ b ∈ fp, FpOk X pins H b) → tn i s.heap → J.stop i H →
    wpAny (model P w) X.A (pyNext (.ref it)) (fun r s1 => r = none ∧ Inv X pins σ H s1) E s
  self : ∀ (A : Around) (i : Nat) (s : Shared) (Q : Value → Shared → Prop) (E : Value → Shared → Prop), tn i s.heap → Q (.ref it) s → wpAny (model P w) A (pyIter (.ref it)) Q E s
abbrev TI := St → Hp → (It → Hp → Prop) → Prop
def PIE (X : Cx) (pins : List (Addr × Obj)) (σ : St) (tg : Expr) (R : It → Hp → Prop) (itv : Value) (s2 : Shared) : Prop :=
  ∃ (it : Addr) (fp : List Addr) (tn : Nat → Heap → Prop) (J : It) (H' : Hp), itv = .ref it ∧ Inv X pins σ H' s2 ∧ Turn X.prog X.w X.K tg J fp it tn ∧ tn 0 s2.heap ∧ (∀ b ∈ fp, FpOk X pins H' b) ∧ R J H'
def PI (X : Cx) (tg iter : Expr) (wi : TI) : Prop :=
  ∀ (pins : List (Addr × Obj)) (s : Shared) (σ : St) (H : Hp) (R : It → Hp → Prop), Inv X pins σ H s → wi σ H R →
    wpAny (model X.prog X.w) X.A (eval iter X.env) (fun v s1 => wpAny (model X.prog X.w) X.A (pyIter v) (PIE X pins σ tg R) X.xe s1) X.xe s
theorem go_of {M : Model} {A : Around} {E : Value → Shared → Prop} {s : Shared} {tg : Expr} {it : Addr} {u : Value} {o : Obj} {n : String} {vs : Array Value} {Q : Unit → Shared → Prop} (ho : s.heap.get? it = some o) (hc : o.cls = .type n) (hd : o.data = .fields vs)
    (hn : ["enumerate", "zip", "dict_itemiterator", "dict_reverseitemiterator", "odict_iterator", "itertools.zip_longest", "itertools.pairwise"].contains n = false) (hQ : Q () s) : wpAny M A (letOwnedTupleGo tg (.ref it) u) Q E s := by
  unfold letOwnedTupleGo
  cases tg <;> first
    | exact wpAny_pure hQ
    | (cases u <;> first
        | exact wpAny_pure hQ
        | (refine wpAny_bind (wpAny_load ho ?_)
           rw [hc, hd]
           show wpAny M A (if (["enumerate", "zip", "dict_itemiterator", "dict_reverseitemiterator", "odict_iterator", "itertools.zip_longest", "itertools.pairwise"].contains n && vs[0]? == some (rawInt _)) = true then _ else _) Q E s
           rw [if_neg (by intro h; rw [hn, Bool.false_and] at h; cases h)]
           exact wpAny_pure hQ))
def Itl (K : PySem.W.Frag) (a : Addr) : It :=
  ⟨fun i H => ∃ xs x, SqL K H a xs ∧ xs[i]? = some x, fun i H x H' => H' = H ∧ ∀ xs, SqL K H a xs → xs[i]? = some x, fun i H => ∃ xs, SqL K H a xs ∧ xs.length ≤ i⟩
def Itr (lo : Int) (n : Nat) : It := ⟨fun i _ => i < n, fun i H x H' => H' = H ∧ x = .int (lo + i), fun i _ => n ≤ i⟩
theorem turn_list {P : Program} {w : World} {K : PySem.W.Frag} {tg : Expr} (a it : Addr) : Turn P w K tg (Itl K a) [it] it (fun i h => h.IsListIter it a i) where
  mem := by simp
  obj := fun i h st b hb => by
    have e : b = it := by simpa using hb
    subst e
    obtain ⟨o, e, c, d⟩ := st
    exact ⟨o, e, fun v z => by rw [d] at z; cases z⟩
  keep := fun i h h' st k => st.at fun o e => k it (by simp) o e
  item := by
    intro X hP hw hK hc i pins s σ H E I hf st hg
    subst hP hw hK
    obtain ⟨xs, x, hq, hx⟩ := hg
    obtain ⟨its, rv, p, hz⟩ := I.list hq
    obtain ⟨u, hu, ru⟩ := rv.get hx
    obtain ⟨f0, f1, f2, f3, f4, f5⟩ := hf it (by simp)
    refine wpAny_pyNext_list_item st p.isList (x := u) (by simpa using hu) fun h' st' sb => ?_
    have I1 : Inv X pins σ H { s with heap := h' } := I.turned (t' := s.toks) (fun b o hb e => (sb.2 b hb).trans e) f0 f1 f3 f4 f5
    obtain ⟨o, e, c, d⟩ := id st'
    exact ⟨u, rfl, go_of (s := { s with heap := h' }) e c d (by decide) ⟨x, H, I1, ru, ⟨rfl, fun ys hy => by rw [I.list_inj hy hq]; exact hx⟩, st', fun b hb => (hf b hb).1⟩⟩
  done := by
    intro X hP hw hK hc i pins s σ H E I hf st hg
    subst hP hw hK
    obtain ⟨xs, hq, hx⟩ := hg
    obtain ⟨its, rv, p, hz⟩ := I.list hq
    obtain ⟨f0, f1, f2, f3, f4, f5⟩ := hf it (by simp)
    have hl := rv.length
    exact wpAny_pyNext_list_end (I.ok.hd hc) st p.isList (by simp; omega) fun h' eb => ⟨rfl, I.turned (t' := s.toks) (fun b o hb e => eb b o hb e) f0 f1 f3 f4 f5⟩
  self := fun _ _ _ _ _ st h => wpAny_pyIter_listiter st h
theorem turn_range {P : Program} {w : World} {K : PySem.W.Frag} {tg : Expr} (it : Addr) (lo : Int) (n : Nat) : Turn P w K tg (Itr lo n) [it] it (fun i h => IsRangeIter h it (lo + (i : Nat) * 1) ((n : Int) - (i : Nat)) 1) where
  mem := by simp
  obj := fun i h st b hb => by
    have e : b = it := by simpa using hb
    subst e
    exact ⟨_, st, fun v z => by
      have z' : Data.fields _ = Data.cell v := z
      cases z'⟩
  keep := fun i h h' st k => k it (by simp) _ st
  item := by
    intro X hP hw hK hc i pins s σ H E I hf st hg
    subst hP hw hK
    obtain ⟨f0, f1, f2, f3, f4, f5⟩ := hf it (by simp)
    have W := Walks.range (prog := X.prog) (w := X.w) (I.ok.hd hc) it lo 1 n
    refine W.item i s _ _ hg st fun v h' tk hv st' kk => ?_
    obtain ⟨t, rfl⟩ := hv
    have I1 : Inv X pins σ H { s with heap := h', toks := tk } := I.turned (fun b o hb e => kk b o (by simpa using hb) e) f0 f1 f3 f4 f5
    refine ⟨_, rfl, go_of (s := { s with heap := h', toks := tk }) (n := "range_iterator") st' rfl rfl (by decide) ⟨.int (lo + i), H, I1, ⟨t, ?_⟩, ⟨rfl, rfl⟩, st', fun b hb => (hf b hb).1⟩⟩
    rw [Int.mul_one]
  done := by
    intro X hP hw hK hc i pins s σ H E I hf st hg
    subst hP hw hK
    obtain ⟨f0, f1, f2, f3, f4, f5⟩ := hf it (by simp)
    exact wpAny_pyNext_range_end (I.ok.hd hc) st (by have : n ≤ i := hg; omega) fun h' eb => ⟨rfl, I.turned (t' := s.toks) (fun b o hb e => eb b o hb e) f0 f1 f3 f4 f5⟩
  self := fun _ _ _ _ _ st h => wpAny_pyIter_rangeiter st h
end L2
namespace L2
open PySem PySem.Spec PyProof.Rows
section
variable {X : Cx} {tg : Expr}
def iList (K : PySem.W.Frag) (tl : TE) : TI := fun σ H R => tl σ H fun x H1 => ∃ a, x = .ref a ∧ (∃ xs, SqL K H1 a xs) ∧ R (Itl K a) H1
theorem pi_list {l : Expr} {tl : TE} (hl : PE X l tl) : PI X tg l (iList X.K tl) := by
  intro pins s σ H R I h
  refine thn (hl pins s σ H _ I h) fun v s1 ⟨x, H1, I1, r1, q1⟩ => ?_
  obtain ⟨a, e, ⟨xs, hq⟩, q⟩ := q1
  subst e
  cases r1
  obtain ⟨its, rv, p, hz⟩ := I1.list hq
  refine wpAny_pyIter_list p.isList ?_
  refine ⟨s1.heap.objs.size, [s1.heap.objs.size], _, _, H1, rfl, I1.kept (t' := s1.toks) fun b o e => Heap.get?_push_of_some _ e, turn_list a _, ⟨_, Heap.get?_push_size _ rfl, rfl, rfl⟩, fun b hb => ?_, q⟩
  have e : b = s1.heap.objs.size := by simpa using hb
  subst e
  exact I1.fpOk (Nat.le_refl _) (I1.hok.fresh (Nat.le_refl _))
theorem range_it {pins : List (Addr × Obj)} {σ : St} {H : Hp} {s : Shared} {R : It → Hp → Prop} {E : Value → Shared → Prop} {lo hi : Int} {t u v : Tok} {tk : Nat} (I : Inv X pins σ H s) (h1 : -(2 ^ 62) ≤ lo) (h2 : lo < 2 ^ 62) (h3 : -(2 ^ 62) ≤ hi) (h4 : hi < 2 ^ 62)
    (q : R (Itr lo (hi - lo).toNat) H) : wpAny (model X.prog X.w) X.A (pyIter (.ref s.heap.objs.size)) (PIE X pins σ tg R) E { s with heap := s.heap.push { cls := .type "range", data := .fields #[.int lo t, .int hi u, .int 1 v] }, toks := tk } := by
  refine wpAny_pyIter_range (IsRange.new ..) (small_one h1 h2 h3 h4) ?_
  have I1 : Inv X pins σ H { s with heap := s.heap.push { cls := .type "range", data := .fields #[.int lo t, .int hi u, .int 1 v] }, toks := tk } := I.kept fun b o e => Heap.get?_push_of_some _ e
  refine ⟨(s.heap.push { cls := .type "range", data := .fields #[.int lo t, .int hi u, .int 1 v] }).objs.size, [(s.heap.push { cls := .type "range", data := .fields #[.int lo t, .int hi u, .int 1 v] }).objs.size], _, _, H, rfl,
    I1.kept (t' := tk) fun b o e => Heap.get?_push_of_some _ e, turn_range _ lo (hi - lo).toNat, ?_, fun b hb => ?_, q⟩
  · have e1 : lo + ((0 : Nat) : Int) * 1 = lo := by simp
    have e2 : (((hi - lo).toNat : Nat) : Int) - ((0 : Nat) : Int) = Builtin.Range.rangeSize lo hi 1 := by rw [rangeSize_one]; split <;> omega
    show IsRangeIter _ _ (lo + ((0 : Nat) : Int) * 1) ((((hi - lo).toNat : Nat) : Int) - ((0 : Nat) : Int)) 1
    rw [e1, e2]
    exact Heap.get?_push_size _ rfl
  · have e : b = (s.heap.push { cls := .type "range", data := .fields #[.int lo t, .int hi u, .int 1 v] }).objs.size := by simpa using hb
    subst e
    exact I1.fpOk (Nat.le_refl _) (I1.hok.fresh (Nat.le_refl _))
def iRng1 (ta : TA) : TI := fun σ H R => ta σ H fun vs H1 => ∃ j : Int, vs = [.int j] ∧ -(2 ^ 62) ≤ j ∧ j < 2 ^ 62 ∧ R (Itr 0 j.toNat) H1
theorem pi_range1 {a : Expr} {ta : TA} {p pos : Pos} (hg : Gl X "range") (hm : X.mg "range" = none) (ha : PA X [a] ta) (hs : starEach [a] X.env = [(false, eval a X.env)] := by rfl) : PI X tg (.Call (.Name "range" p) [a] [] pos) (iRng1 ta) := by
  intro pins s σ H R I h
  refine Call_ (ld_blt I hg hm boot_range (PyProof.Rows.callWith_type1 (thn (ha pos pins s σ H _ I h) fun us s1 ⟨vs, H1, I1, r1, q1⟩ => ?_) hs rfl))
  obtain ⟨j, e, q1, q2, q⟩ := q1
  subst e
  cases r1 with
  | cons r rr =>
    cases rr
    obtain ⟨t, rfl⟩ := r
    exact call_range_1 (range_it I1 (by omega) (by omega) q1 q2 (by simpa using q))
def tFor (wi : TI) (g : TG) (tb : TS) : TS := fun D σ H => wi σ H fun J H1 => ∃ W : Nat → Nat → St → Hp → Prop, (∃ m, W 0 m σ H1) ∧ ∀ i m σ H, W i m σ H →
  (J.stop i H ∧ D.nx σ H) ∨ (J.go i H ∧ ∃ N : St → Hp → Prop, (∀ σ' H', N σ' H' → ∃ m', m' < m ∧ W (i + 1) m' σ' H') ∧ ∀ x H', J.yld i H x H' → g x σ H' fun σ2 H2 => tb { D with nx := N, ct := N, bk := D.nx } σ2 H2)
def pinsAt (fp : List Addr) (h : Heap) : List (Addr × Obj) := fp.filterMap fun b => (h.get? b).map fun o => (b, o)
theorem mem_pinsAt {fp : List Addr} {h : Heap} {b : Addr} {o : Obj} (hb : b ∈ fp) (e : h.get? b = some o) : (b, o) ∈ pinsAt fp h := List.mem_filterMap.mpr ⟨b, hb, by rw [e]; rfl⟩
theorem of_pinsAt {fp : List Addr} {h : Heap} {p : Addr × Obj} (hp : p ∈ pinsAt fp h) : p.1 ∈ fp ∧ h.get? p.1 = some p.2 := by
  obtain ⟨b, hb, e⟩ := List.mem_filterMap.mp hp
  cases q : h.get? b with
  | none => rw [q] at e; cases e
  | some o =>
    rw [q] at e
    have e' : (b, o) = p := Option.some.inj e
    subst e'
    exact ⟨hb, q⟩
theorem Inv.pinned {pins : List (Addr × Obj)} {σ : St} {H : Hp} {s : Shared} {fp : List Addr} (I : Inv X pins σ H s) (hf : ∀ b ∈ fp, FpOk X pins H b) (ho : ∀ b ∈ fp, ∃ o, s.heap.get? b = some o ∧ ∀ v, o.data ≠ .cell v) : Inv X (pins ++ pinsAt fp s.heap) σ H s :=
  I.pins_of fun p hp => (List.mem_append.mp hp).elim (fun z => I.pin p (List.mem_append_right _ z)) fun z => by
    obtain ⟨hb, e⟩ := of_pinsAt z
    obtain ⟨f0, f1, f2, _⟩ := hf p.1 hb
    obtain ⟨o, e', d⟩ := ho p.1 hb
    rw [e] at e'; cases e'
    exact ⟨e, f0, f1, f2, d⟩
theorem Inv.unpinned {pins pl : List (Addr × Obj)} {σ : St} {H : Hp} {s : Shared} (I : Inv X (pins ++ pl) σ H s) : Inv X pins σ H s := I.pins_of fun p hp => I.pin p (List.mem_append_right _ (List.mem_append_left _ hp))
theorem ps_for {iter : Expr} {body : List Stmt} {wi : TI} {g : TG} {tb : TS} {pos : Pos} (hp : PassesOwn (model X.prog X.w) X.A X.env X.xe) (hc : X.calm = true) (hi : PI X tg iter wi) (hg : PG X tg g) (hb : PSs X body tb)
    (hs : ∀ x, foldedSetIterable iter X.env x = pure x := by intro _; rfl) : PS X (.For tg iter body [] pos) (tFor wi g tb) := by
  intro pins s σ H D I h
  refine wpAny_For (thn (hi pins s σ H _ I h) fun v s1 h1 => thn h1 fun itv s2 h2 => ?_) hs
  obtain ⟨it, fp, tn, J, H2, e, I2, T, st2, f2, W, ⟨m0, w0⟩, turn⟩ := h2
  subst e
  -- what stays true of the iterator's objects through the loop
  have stat : ∀ {H' : Hp}, (∀ b ∈ fp, H' b = none) → ∀ b ∈ fp, FpOk X pins H' b := fun hn b hb => ⟨hn b hb, (f2 b hb).2⟩
  refine codeAny_forLoop_any (fun n s' => ∃ i σ' H', Inv X pins σ' H' s' ∧ tn i s'.heap ∧ (∀ b ∈ fp, H' b = none) ∧ W i n σ' H') ?_ m0 ⟨0, σ, H2, I2, st2, fun b hb => (f2 b hb).1, w0⟩
  rintro n s3 ⟨i, σ3, H3, I3, st3, fr3, w3⟩
  rcases turn i n σ3 H3 w3 with ⟨stop, qn⟩ | ⟨go, N, hN, step⟩
  · refine wpAny_passesOwn hp (thn (T.done X rfl rfl rfl hc i pins s3 σ3 H3 X.xe I3 (stat fr3) st3 stop) fun r s4 ⟨hr, I4⟩ => ?_)
    subst hr
    exact wpAny_execs_nil ⟨σ3, H3, I4, qn⟩
  · refine wpAny_passesOwn hp (thn (T.item X rfl rfl rfl hc i pins s3 σ3 H3 X.xe I3 (stat fr3) st3 go) fun r s4 ⟨u, hr, h4⟩ => ?_)
    subst hr
    refine wpAny_passesOwn hp (thn h4 fun _ s5 ⟨x, H5, I5, r5, y5, st5, fr5⟩ => ?_)
    have I5' := I5.pinned (stat fr5) (T.obj _ _ st5)
    refine wpAny_passesOwn hp (thn (hg _ s5 σ3 H5 x u _ I5' r5 (step x H5 y5)) fun _ s6 ⟨σ6, H6, I6, q6⟩ => ?_)
    refine wpAny_passesOwn hp (thn (hb _ s6 σ6 H6 _ I6 q6) fun f s7 q7 => ?_)
    have again : ∀ {σ7 : St} {H7 : Hp}, Inv X (pins ++ pinsAt fp s5.heap) σ7 H7 s7 → N σ7 H7 → ∃ m, m < n ∧ ∃ i σ' H', Inv X pins σ' H' s7 ∧ tn i s7.heap ∧ (∀ b ∈ fp, H' b = none) ∧ W i m σ' H' := fun {σ7 H7} I7 n7 => by
      obtain ⟨m', hm, w7⟩ := hN σ7 H7 n7
      refine ⟨m', hm, i + 1, σ7, H7, I7.unpinned, T.keep _ _ _ st5 fun b hb o e => (I7.pin (b, o) (List.mem_append_right _ (List.mem_append_right _ (mem_pinsAt hb e)))).1, fun b hb => ?_, w7⟩
      obtain ⟨o, e, d⟩ := T.obj _ _ st5 b hb
      exact (I7.pin (b, o) (List.mem_append_right _ (List.mem_append_right _ (mem_pinsAt hb e)))).2.1
    cases f with
    | next => obtain ⟨σ7, H7, I7, n7⟩ := q7; exact again I7 n7
    | cont => obtain ⟨σ7, H7, I7, n7⟩ := q7; exact again I7 n7
    | brk => obtain ⟨σ7, H7, I7, q7⟩ := q7; exact ⟨σ7, H7, I7.unpinned, q7⟩
    | ret v => obtain ⟨x7, σ7, H7, I7, r7, q7⟩ := q7; exact ⟨x7, σ7, H7, I7.unpinned, r7, q7⟩
end
theorem for_list {K : PySem.W.Frag} {a : Addr} {xs : List V} {g : TG} {tb : TS} {D : Ends} {σ : St} {H : Hp} (Pv : Nat → St → Hp → Prop) (h0 : Pv 0 σ H) (hl : ∀ i σ H, i ≤ xs.length → Pv i σ H → SqL K H a xs)
    (hs : ∀ i x σ H, xs[i]? = some x → Pv i σ H → g x σ H fun σ2 H2 => tb { D with nx := Pv (i + 1), ct := Pv (i + 1), bk := D.nx } σ2 H2) (hd : ∀ σ H, Pv xs.length σ H → D.nx σ H) :
    ∃ W : Nat → Nat → St → Hp → Prop, (∃ m, W 0 m σ H) ∧ ∀ i m σ H, W i m σ H →
      ((Itl K a).stop i H ∧ D.nx σ H) ∨ ((Itl K a).go i H ∧ ∃ N : St → Hp → Prop, (∀ σ' H', N σ' H' → ∃ m', m' < m ∧ W (i + 1) m' σ' H') ∧ ∀ x H', (Itl K a).yld i H x H' → g x σ H' fun σ2 H2 => tb { D with nx := N, ct := N, bk := D.nx } σ2 H2) := by
  refine ⟨fun i m σ H => m = xs.length - i ∧ i ≤ xs.length ∧ Pv i σ H, ⟨xs.length, by simp, Nat.zero_le _, h0⟩, ?_⟩
  rintro i m σ H ⟨rfl, hi, p⟩
  have q := hl i σ H hi p
  by_cases hlt : i < xs.length
  · refine .inr ⟨⟨xs, xs[i], q, by simp [hlt]⟩, Pv (i + 1), fun σ' H' p' => ⟨xs.length - (i + 1), by omega, rfl, hlt, p'⟩, fun x H' y => ?_⟩
    obtain ⟨e, y⟩ := y
    subst e
    exact hs i x σ _ (y xs q) p
  · have e : i = xs.length := by omega
    subst e
    exact .inl ⟨⟨xs, q, Nat.le_refl _⟩, hd σ H p⟩
theorem for_range {lo : Int} {n : Nat} {g : TG} {tb : TS} {D : Ends} {σ : St} {H : Hp} (Pv : Nat → St → Hp → Prop) (h0 : Pv 0 σ H)
    (hs : ∀ i σ H, i < n → Pv i σ H → g (.int (lo + i)) σ H fun σ2 H2 => tb { D with nx := Pv (i + 1), ct := Pv (i + 1), bk := D.nx } σ2 H2) (hd : ∀ σ H, Pv n σ H → D.nx σ H) :
    ∃ W : Nat → Nat → St → Hp → Prop, (∃ m, W 0 m σ H) ∧ ∀ i m σ H, W i m σ H →
      ((Itr lo n).stop i H ∧ D.nx σ H) ∨ ((Itr lo n).go i H ∧ ∃ N : St → Hp → Prop, (∀ σ' H', N σ' H' → ∃ m', m' < m ∧ W (i + 1) m' σ' H') ∧ ∀ x H', (Itr lo n).yld i H x H' → g x σ H' fun σ2 H2 => tb { D with nx := N, ct := N, bk := D.nx } σ2 H2) := by
  refine ⟨fun i m σ H => m = n - i ∧ i ≤ n ∧ Pv i σ H, ⟨n, by simp, Nat.zero_le _, h0⟩, ?_⟩
  rintro i m σ H ⟨rfl, hi, p⟩
  by_cases hlt : i < n
  · refine .inr ⟨hlt, Pv (i + 1), fun σ' H' p' => ⟨n - (i + 1), by omega, rfl, hlt, p'⟩, fun x H' y => ?_⟩
    obtain ⟨e, y⟩ := y
    subst e y
    exact hs i σ _ hlt p
  · have e : i = n := by omega
    subst e
    exact .inl ⟨Nat.le_refl _, hd σ H p⟩
theorem while_by {c : TT} {tb : TS} {D : Ends} {σ : St} {H : Hp} (Pv : St → Hp → Prop) (μ : St → Hp → Nat) (h0 : Pv σ H)
    (hs : ∀ σ H, Pv σ H → c σ H fun b H1 => if b = true then tb { D with nx := fun σ' H' => Pv σ' H' ∧ μ σ' H' < μ σ H, ct := fun σ' H' => Pv σ' H' ∧ μ σ' H' < μ σ H, bk := D.nx } σ H1 else D.nx σ H1)
    (mono : ∀ σ H Q Q', (∀ b H1, Q b H1 → Q' b H1) → c σ H Q → c σ H Q') : tWhile c tb D σ H := by
  refine ⟨fun m σ H => m = μ σ H ∧ Pv σ H, ⟨_, rfl, h0⟩, ?_⟩
  rintro m σ H ⟨rfl, p⟩
  refine mono σ H _ _ (fun b H1 q => ?_) (hs σ H p)
  cases b with
  | true => exact ⟨_, fun σ' H' ⟨p', l⟩ => ⟨_, l, rfl, p'⟩, q⟩
  | false => exact q
end L2
namespace L2
open PySem PySem.Spec PyProof.Rows
abbrev R2 := V → V → Hp → VK → Prop
def OpR (X : Cx) (f : Value → Value → Sem Value) (r : R2) : Prop :=
  ∀ (pins : List (Addr × Obj)) (s : Shared) (σ : St) (H : Hp) (x y : V) (v u : Value) (Q : VK), Inv X pins σ H s → RelV x v → RelV y u → r x y H Q →
    wpAny (model X.prog X.w) X.A (f v u) (EP X pins σ Q) X.xe s
def UnR (X : Cx) (f : Value → Sem Value) (r : V → Hp → VK → Prop) : Prop :=
  ∀ (pins : List (Addr × Obj)) (s : Shared) (σ : St) (H : Hp) (x : V) (v : Value) (Q : VK), Inv X pins σ H s → RelV x v → r x H Q →
    wpAny (model X.prog X.w) X.A (f v) (EP X pins σ Q) X.xe s
def CallR (X : Cx) (f : Value) (r : List V → Hp → VK → Prop) : Prop :=
  ∀ (pins : List (Addr × Obj)) (s : Shared) (σ : St) (H : Hp) (xs : List V) (us : List Value) (Q : VK), Inv X pins σ H s → Vals xs us → r xs H Q →
    wpAny (model X.prog X.w) X.A (call f us) (EP X pins σ Q) X.xe s
def TruR (X : Cx) (r : V → Hp → (Bool → Hp → Prop) → Prop) : Prop :=
  ∀ (pins : List (Addr × Obj)) (s : Shared) (σ : St) (H : Hp) (x : V) (v : Value) (Q : Bool → Hp → Prop), Inv X pins σ H s → RelV x v → r x H Q →
    wpAny (model X.prog X.w) X.A (truthy v) (TP X pins σ Q) X.xe s
def tOp (r : R2) (ta tb : TE) : TE := fun σ H Q => ta σ H fun x H1 => tb σ H1 fun y H2 => r x y H2 Q
def tUn (r : V → Hp → VK → Prop) (ta : TE) : TE := fun σ H Q => ta σ H fun x H1 => r x H1 Q
def rI (C : Int → Int → Prop) (g : Int → Int → V) : R2 := fun x y H Q => ∃ i j, x = .int i ∧ y = .int j ∧ C i j ∧ Q (g i j) H
def rI0 (g : Int → Int → V) : R2 := fun x y H Q => ∃ i j, x = .int i ∧ y = .int j ∧ Q (g i j) H
def rU (g : Int → V) : V → Hp → VK → Prop := fun x H Q => ∃ i, x = .int i ∧ Q (g i) H
section
variable {X : Cx} {a b c : Expr} {ta tb tc : TE} {pos : Pos}
theorem binT (ha : PE X a ta) (hb : PE X b tb) {pins : List (Addr × Obj)} {s : Shared} {σ : St} {H : Hp} {R : V → V → Hp → Prop} (I : Inv X pins σ H s)
    (h : ta σ H fun x H1 => tb σ H1 fun y H2 => R x y H2) {Q : Value → Shared → Prop} {f : Value → Value → Sem Value}
    (hf : ∀ v u s2 x y H2, Inv X pins σ H2 s2 → RelV x v → RelV y u → R x y H2 → wpAny (model X.prog X.w) X.A (f v u) Q X.xe s2) :
    wpAny (model X.prog X.w) X.A (eval a X.env) (fun v s₁ => wpAny (model X.prog X.w) X.A (eval b X.env) (fun u s₂ => wpAny (model X.prog X.w) X.A (f v u) Q X.xe s₂) X.xe s₁) X.xe s := by
  refine thn (ha pins s σ H _ I h) fun v s1 ⟨x, H1, I1, r1, q1⟩ => ?_
  refine thn (hb pins s1 σ H1 _ I1 q1) fun u s2 ⟨y, H2, I2, r2, q2⟩ => ?_
  exact hf v u s2 x y H2 I2 r1 r2 q2
theorem pe_op {op : Operator} {r : R2} (ho : OpR X (binaryOp op) r) (ha : PE X a ta) (hb : PE X b tb) : PE X (.BinOp a op b pos) (tOp r ta tb) := by
  intro pins s σ H Q I h
  exact wpAny_BinOp (binT ha hb I h fun v u s2 x y H2 I2 rx ry q => ho pins s2 σ H2 x y v u Q I2 rx ry q)
theorem pe_un {op : UnaryOp} {r : V → Hp → VK → Prop} (ho : UnR X (unaryOp op) r) (ha : PE X a ta) : PE X (.UnaryOp op a pos) (tUn r ta) := by
  intro pins s σ H Q I h
  exact UnaryOp_ (thn (ha pins s σ H _ I h) fun v s1 ⟨x, H1, I1, r1, q1⟩ => ho pins s1 σ H1 x v Q I1 r1 q1)
theorem opI {f : Value → Value → Sem Value} {C : Int → Int → Prop} {g : Int → Int → Int}
    (rule : ∀ (i j : Int) (t u : Tok) (s : Shared) (Q : Value → Shared → Prop) (E : Value → Shared → Prop), C i j → Q (.int (g i j) s.toks) { s with toks := s.toks + 1 } → wpAny (model X.prog X.w) X.A (f (.int i t) (.int j u)) Q E s) :
    OpR X f (rI C fun i j => .int (g i j)) := by
  intro pins s σ H x y v u Q I rx ry h
  obtain ⟨i, j, rfl, rfl, hc, q⟩ := h
  obtain ⟨t, rfl⟩ := rx
  obtain ⟨t', rfl⟩ := ry
  exact rule i j t t' s _ _ hc ⟨.int (g i j), H, I.tok _, ⟨_, rfl⟩, q⟩
theorem opI0 {f : Value → Value → Sem Value} {g : Int → Int → Int}
    (rule : ∀ (i j : Int) (t u : Tok) (s : Shared) (Q : Value → Shared → Prop) (E : Value → Shared → Prop), Q (.int (g i j) s.toks) { s with toks := s.toks + 1 } → wpAny (model X.prog X.w) X.A (f (.int i t) (.int j u)) Q E s) :
    OpR X f (rI0 fun i j => .int (g i j)) := by
  intro pins s σ H x y v u Q I rx ry h
  obtain ⟨i, j, rfl, rfl, q⟩ := h
  obtain ⟨t, rfl⟩ := rx
  obtain ⟨t', rfl⟩ := ry
  exact rule i j t t' s _ _ ⟨.int (g i j), H, I.tok _, ⟨_, rfl⟩, q⟩
theorem opB0 {f : Value → Value → Sem Value} {g : Int → Int → Bool}
    (rule : ∀ (i j : Int) (t u : Tok) (s : Shared) (Q : Value → Shared → Prop) (E : Value → Shared → Prop), Q (.bool (g i j)) s → wpAny (model X.prog X.w) X.A (f (.int i t) (.int j u)) Q E s) :
    OpR X f (rI0 fun i j => .bl (g i j)) := by
  intro pins s σ H x y v u Q I rx ry h
  obtain ⟨i, j, rfl, rfl, q⟩ := h
  obtain ⟨t, rfl⟩ := rx
  obtain ⟨t', rfl⟩ := ry
  exact rule i j t t' s _ _ ⟨.bl (g i j), H, I, rfl, q⟩
def CDiv (i j : Int) : Prop := 0 < j ∧ j < 1073741824
def CMul (i j : Int) : Prop := (-(2 ^ 64) < i ∧ i < 2 ^ 64) ∨ (-(2 ^ 64) < j ∧ j < 2 ^ 64)
theorem CMul.ok {i j : Int} (h : CMul i j) : IntMulOk i j := by
  rcases h with ⟨h1, h2⟩ | ⟨h1, h2⟩
  · exact .of_left (intBits_le_64 h1 h2)
  · exact .of_right (intBits_le_64 h1 h2)
theorem two_pow_nn (k : Nat) : (0 : Int) ≤ 2 ^ k := by
  rw [two_pow_cast]
  exact Int.natCast_nonneg _
theorem op_add : OpR X (binaryOp .Add) (rI0 fun i j => .int (i + j)) := opI0 fun _ _ _ _ _ _ _ q => add_int q
theorem op_sub : OpR X (binaryOp .Sub) (rI0 fun i j => .int (i - j)) := opI0 fun _ _ _ _ _ _ _ q => sub_int q
theorem op_mul : OpR X (binaryOp .Mult) (rI CMul fun i j => .int (i * j)) := opI fun _ _ _ _ _ _ _ hc q => mul_int q hc.ok
theorem op_fdiv : OpR X (binaryOp .FloorDiv) (rI CDiv fun i j => .int (i / j)) := opI fun i j _ _ _ _ _ hc q => by
  have h1 : (0 : Int) < j := hc.1
  have h2 : j < 1073741824 := hc.2
  exact floordiv_int (by omega) (by rw [Int.fdiv_eq_ediv_of_nonneg i (by omega)]; exact q) (.inl (PyProof.noPylong_small (by omega)))
theorem op_mod : OpR X (binaryOp .Mod) (rI (fun _ j => 0 < j) fun i j => .int (i % j)) := opI fun i j _ _ _ _ _ hc q => by
  have h1 : (0 : Int) < j := hc
  exact mod_int' (by omega) (by rw [Int.fmod_eq_emod_of_nonneg i (by omega)]; exact q)
theorem op_shr : OpR X (binaryOp .RShift) (rI (fun _ j => 0 ≤ j) fun i j => .int (i / 2 ^ j.toNat)) := opI fun i j _ _ _ _ _ hc q =>
  rshift_int hc (by rw [Int.fdiv_eq_ediv_of_nonneg i (two_pow_nn _)]; exact q)
theorem op_and : OpR X (binaryOp .BitAnd) (rI0 fun i j => .int (Builtin.bitAnd i j)) := opI0 fun _ _ _ _ _ _ _ q => and_int q
theorem op_xor : OpR X (binaryOp .BitXor) (rI0 fun i j => .int (Builtin.bitXor i j)) := opI0 fun _ _ _ _ _ _ _ q => xor_int q
theorem unI {f : Value → Sem Value} {g : Int → Int}
    (rule : ∀ (i : Int) (t : Tok) (s : Shared) (Q : Value → Shared → Prop) (E : Value → Shared → Prop), Q (.int (g i) s.toks) { s with toks := s.toks + 1 } → wpAny (model X.prog X.w) X.A (f (.int i t)) Q E s) :
    UnR X f (rU fun i => .int (g i)) := by
  intro pins s σ H x v Q I rx h
  obtain ⟨i, rfl, q⟩ := h
  obtain ⟨t, rfl⟩ := rx
  exact rule i t s _ _ ⟨.int (g i), H, I.tok _, ⟨_, rfl⟩, q⟩
theorem un_neg : UnR X (unaryOp .USub) (rU fun i => .int (-i)) := unI fun _ _ _ _ _ q => neg_int q
end
def scal : V → V → Bool
  | .non, .non => true | .non, .int _ => true | .int _, .non => true | .non, .bl _ => true | .bl _, .non => true | .non, .str _ => true | .str _, .non => true
  | .int _, .int _ => true | .bl _, .bl _ => true | .str _, .str _ => true | .byt _, .byt _ => true
  | .int _, .str _ => true | .str _, .int _ => true | .bl _, .str _ => true | .str _, .bl _ => true
  | _, _ => false
def rEq : R2 := fun x y H Q => scal x y = true ∧ Q (.bl (decide (x = y))) H
def rNe : R2 := fun x y H Q => scal x y = true ∧ Q (.bl (!decide (x = y))) H
theorem dec_int {i j : Int} : decide (V.int i = V.int j) = (i == j) := by
  rw [Bool.eq_iff_iff]
  simp
theorem dec_bl {i j : Bool} : decide (V.bl i = V.bl j) = (i == j) := by
  rw [Bool.eq_iff_iff]
  simp
theorem dec_str {i j : Str} : decide (V.str i = V.str j) = (i == j) := by
  rw [Bool.eq_iff_iff]
  simp
theorem dec_byt {i j : Array UInt8} : decide (V.byt i = V.byt j) = (i.toList == j.toList) := by
  rw [Bool.eq_iff_iff]
  cases i
  cases j
  simp
section
variable {X : Cx} {a b c : Expr} {ta tb tc : TE} {pos : Pos}
theorem fin_bl {pins : List (Addr × Obj)} {σ : St} {H : Hp} {s : Shared} {Q : VK} {k k' : Bool} (I : Inv X pins σ H s) (q : Q (.bl k) H) (e : k = k') : EP X pins σ Q (.bool k') s := by
  subst e
  exact ⟨.bl k, H, I, rfl, q⟩
theorem op_eq : OpR X (compareOp .Eq) rEq := by
  intro pins s σ H x y v u Q I rx ry h
  obtain ⟨hs, q⟩ := h
  cases x with
  | non =>
    cases rx
    cases y with
    | non => cases ry; exact PySem.EqNone.eq_none_none (fin_bl I q (by simp))
    | bl j => cases ry; exact PySem.EqNone.eq_none_bool (fin_bl I q (by simp))
    | int j => obtain ⟨t', rfl⟩ := ry; exact PySem.EqNone.eq_none_int (fin_bl I q (by simp))
    | str j => obtain ⟨t', rfl⟩ := ry; exact PySem.EqNone.eq_none_str (fin_bl I q (by simp))
    | _ => exact absurd (show false = true from hs) Bool.false_ne_true
  | bl i =>
    cases rx
    cases y with
    | non => cases ry; exact PySem.EqNone.eq_bool_none (fin_bl I q (by simp))
    | bl j => cases ry; exact eq_bool (fin_bl I q dec_bl)
    | str j => obtain ⟨t', rfl⟩ := ry; exact PySem.EqMixed.eq_bool_str (fin_bl I q (by simp))
    | _ => exact absurd (show false = true from hs) Bool.false_ne_true
  | int i =>
    obtain ⟨t, rfl⟩ := rx
    cases y with
    | non => cases ry; exact PySem.EqNone.eq_int_none (fin_bl I q (by simp))
    | int j => obtain ⟨t', rfl⟩ := ry; exact eq_int (fin_bl I q dec_int)
    | str j => obtain ⟨t', rfl⟩ := ry; exact PySem.EqMixed.eq_int_str (fin_bl I q (by simp))
    | _ => exact absurd (show false = true from hs) Bool.false_ne_true
  | str i =>
    obtain ⟨t, rfl⟩ := rx
    cases y with
    | non => cases ry; exact PySem.EqNone.eq_str_none (fin_bl I q (by simp))
    | bl j => cases ry; exact PySem.EqMixed.eq_str_bool (fin_bl I q (by simp))
    | int j => obtain ⟨t', rfl⟩ := ry; exact PySem.EqMixed.eq_str_int (fin_bl I q (by simp))
    | str j => obtain ⟨t', rfl⟩ := ry; exact eq_str (fin_bl I q dec_str)
    | _ => exact absurd (show false = true from hs) Bool.false_ne_true
  | byt i =>
    obtain ⟨t, rfl⟩ := rx
    cases y with
    | byt j => obtain ⟨t', rfl⟩ := ry; exact PySem.W.eq_bytes (fin_bl I q dec_byt)
    | _ => exact absurd (show false = true from hs) Bool.false_ne_true
  | _ => cases y <;> exact absurd (show false = true from hs) Bool.false_ne_true
theorem op_ne : OpR X (compareOp .NotEq) rNe := by
  intro pins s σ H x y v u Q I rx ry h
  obtain ⟨hs, q⟩ := h
  cases x with
  | non =>
    cases rx
    cases y with
    | non => cases ry; exact PySem.EqNone.ne_none_none (fin_bl I q (by simp))
    | bl j => cases ry; exact PySem.EqNone.ne_none_bool (fin_bl I q (by simp))
    | int j => obtain ⟨t', rfl⟩ := ry; exact PySem.EqNone.ne_none_int (fin_bl I q (by simp))
    | str j => obtain ⟨t', rfl⟩ := ry; exact PySem.EqNone.ne_none_str (fin_bl I q (by simp))
    | _ => exact absurd (show false = true from hs) Bool.false_ne_true
  | bl i =>
    cases rx
    cases y with
    | non => cases ry; exact PySem.EqNone.ne_bool_none (fin_bl I q (by simp))
    | bl j => cases ry; exact ne_bool (fin_bl I q (congrArg not dec_bl))
    | str j => obtain ⟨t', rfl⟩ := ry; exact PySem.EqMixed.ne_bool_str (fin_bl I q (by simp))
    | _ => exact absurd (show false = true from hs) Bool.false_ne_true
  | int i =>
    obtain ⟨t, rfl⟩ := rx
    cases y with
    | non => cases ry; exact PySem.EqNone.ne_int_none (fin_bl I q (by simp))
    | int j => obtain ⟨t', rfl⟩ := ry; exact ne_int (fin_bl I q (congrArg not dec_int))
    | str j => obtain ⟨t', rfl⟩ := ry; exact PySem.EqMixed.ne_int_str (fin_bl I q (by simp))
    | _ => exact absurd (show false = true from hs) Bool.false_ne_true
  | str i =>
    obtain ⟨t, rfl⟩ := rx
    cases y with
    | non => cases ry; exact PySem.EqNone.ne_str_none (fin_bl I q (by simp))
    | bl j => cases ry; exact PySem.EqMixed.ne_str_bool (fin_bl I q (by simp))
    | int j => obtain ⟨t', rfl⟩ := ry; exact PySem.EqMixed.ne_str_int (fin_bl I q (by simp))
    | str j => obtain ⟨t', rfl⟩ := ry; exact ne_str (fin_bl I q (congrArg not dec_str))
    | _ => exact absurd (show false = true from hs) Bool.false_ne_true
  | byt i =>
    obtain ⟨t, rfl⟩ := rx
    cases y with
    | byt j => obtain ⟨t', rfl⟩ := ry; exact PySem.W.ne_bytes (fin_bl I q (congrArg not dec_byt))
    | _ => exact absurd (show false = true from hs) Bool.false_ne_true
  | _ => cases y <;> exact absurd (show false = true from hs) Bool.false_ne_true
theorem op_lt : OpR X (compareOp .Lt) (rI0 fun i j => .bl (decide (i < j))) := opB0 fun _ _ _ _ _ _ _ q => lt_int q
theorem op_le : OpR X (compareOp .LtE) (rI0 fun i j => .bl (decide (i ≤ j))) := opB0 fun _ _ _ _ _ _ _ q => le_int q
theorem op_gt : OpR X (compareOp .Gt) (rI0 fun i j => .bl (decide (j < i))) := opB0 fun _ _ _ _ _ _ _ q => gt_int q
theorem op_ge : OpR X (compareOp .GtE) (rI0 fun i j => .bl (decide (j ≤ i))) := opB0 fun _ _ _ _ _ _ _ q => ge_int q
theorem OpR.or {f : Value → Value → Sem Value} {r r' : R2} (h : OpR X f r) (h' : OpR X f r') : OpR X f (fun x y H Q => r x y H Q ∨ r' x y H Q) := by
  intro pins s σ H x y v u Q I rx ry q
  rcases q with q | q
  · exact h pins s σ H x y v u Q I rx ry q
  · exact h' pins s σ H x y v u Q I rx ry q
theorem nomark (b : Expr) {op : CmpOp} (h : op ≠ .In := by decide) (h2 : op ≠ .NotIn := by decide) : behindInMarks op b = false := by
  have e1 : (op == CmpOp.In) = false := by cases op <;> first | rfl | exact absurd rfl h
  have e2 : (op == CmpOp.NotIn) = false := by cases op <;> first | rfl | exact absurd rfl h2
  cases b <;> simp [behindInMarks, e1, e2]
theorem pe_cmpR {op : CmpOp} {r : R2} (ho : OpR X (compareOp op) r) (ha : PE X a ta) (hb : PE X b tb) (hm : behindInMarks op b = false) : PE X (.Compare a [op] [b] pos) (tOp r ta tb) := by
  intro pins s σ H Q I h
  exact wpAny_Compare1 (binT ha hb I h fun v u s2 x y H2 I2 rx ry q => ho pins s2 σ H2 x y v u Q I2 rx ry q) hm
def tTest (t : TE) : TT := fun σ H Q => t σ H fun x H' => ∃ k, x = .bl k ∧ Q k H'
theorem pt_cmpR {op : CmpOp} {r : R2} (ho : OpR X (compareOp op) r) (ha : PE X a ta) (hb : PE X b tb) (hm : behindInMarks op b = false) : PT X (.Compare a [op] [b] pos) (tTest (tOp r ta tb)) := by
  intro pins s σ H Q I h
  refine wpAny_isTrue_Compare1 (thn (ha pins s σ H _ I h) fun v s1 ⟨x, H1, I1, r1, q1⟩ => thn (hb pins s1 σ H1 _ I1 q1) fun u s2 ⟨y, H2, I2, r2, q2⟩ =>
    thn (ho pins s2 σ H2 x y v u _ I2 r1 r2 q2) fun c s3 ⟨z, H3, I3, r3, k, e, q3⟩ => ?_) hm
  subst e
  cases r3
  exact wpAny_truthy_bool ⟨H3, I3, q3⟩
def TruV (K : PySem.W.Frag) (x : V) (H : Hp) (k : Bool) : Prop :=
  match x with
  | .non => k = false
  | .bl b => k = b
  | .int i => k = (i != 0)
  | .str y => y.length ≤ sizeLine ∧ k = ((y.length : Int) != 0)
  | .byt y => y.size ≤ sizeLine ∧ k = ((y.size : Int) != 0)
  | .ref p => (∃ xs, SqL K H p xs ∧ k = !xs.isEmpty) ∨ (∃ xs, SqT K H p xs ∧ k = !xs.isEmpty) ∨ ∃ kvs, H p = some (.dK kvs) ∧ k = !kvs.isEmpty
  | _ => False
theorem isEmpty_kv {κ : Type} {kvs : List (κ × V)} {vs : List (κ × Value)} (r : KV kvs vs) : (!vs.isEmpty) = !kvs.isEmpty := by
  cases r <;> rfl
theorem isEmpty_of {xs : List V} {its : List Value} (r : Vals xs its) : (!its.toArray.isEmpty) = !xs.isEmpty := by
  cases r <;> simp
theorem line63 : (sizeLine : Nat) < 2 ^ 63 := by rw [sizeLine_eq]; decide
theorem tru_ok : TruR X (fun x H Q => ∃ k, TruV X.K x H k ∧ Q k H) := by
  intro pins s σ H x v Q I rx h
  obtain ⟨k, e, q⟩ := h
  have hl := line63
  have hs : sizeLine = 16777216 := sizeLine_eq
  cases x with
  | non =>
    cases rx
    have e' : k = false := e
    subst e'
    exact truthy_none ⟨H, I, q⟩
  | bl b =>
    cases rx
    have e' : k = b := e
    subst e'
    exact wpAny_truthy_bool ⟨H, I, q⟩
  | int i =>
    obtain ⟨t, rfl⟩ := rx
    have e' : k = (i != 0) := e
    subst e'
    exact PySem.P.truthy_int ⟨H, I, q⟩
  | str y =>
    obtain ⟨t, rfl⟩ := rx
    obtain ⟨hy, e'⟩ : y.length ≤ sizeLine ∧ k = ((y.length : Int) != 0) := e
    subst e'
    exact PySem.P.truthy_str (by omega) ⟨H, I.tok _, q⟩
  | byt y =>
    obtain ⟨t, rfl⟩ := rx
    obtain ⟨hy, e'⟩ : y.size ≤ sizeLine ∧ k = ((y.size : Int) != 0) := e
    subst e'
    exact PySem.W.truthy_bytes (by omega) ⟨H, I.tok _, q⟩
  | ref p =>
    cases rx
    have e' : (∃ xs, SqL X.K H p xs ∧ k = !xs.isEmpty) ∨ (∃ xs, SqT X.K H p xs ∧ k = !xs.isEmpty) ∨ ∃ kvs, H p = some (.dK kvs) ∧ k = !kvs.isEmpty := e
    rcases e' with ⟨xs, hx, e'⟩ | ⟨xs, hx, e'⟩ | ⟨kvs, hx, e'⟩
    · subst e'
      obtain ⟨its, r, pl, hz⟩ := I.list hx
      have hlen := r.length
      exact wpAny_truthy_list pl.isList (by simp only [List.size_toArray]; omega) ⟨H, I.tok _, by rw [isEmpty_of r]; exact q⟩
    · subst e'
      obtain ⟨its, r, pl, hz⟩ := I.tuple hx
      have hlen := r.length
      exact truthy_tuple pl (by simp only [List.size_toArray]; omega) ⟨H, I.tok _, by rw [isEmpty_of r]; exact q⟩
    · subst e'
      obtain ⟨hz, hS, vs, r, m⟩ : kvs.length ≤ sizeLine ∧ (p == sysModules) = false ∧ ∃ vs, KV kvs vs ∧ s.heap.DictOf (mixKind X.prog X.w) p vs := I.hok p _ hx
      have hlen : kvs.length = vs.length := Paired.length r
      exact wpAny_truthy_dict hS m (by omega) ⟨H, I.tok _, by rw [isEmpty_kv r]; exact q⟩
  | _ => exact (show False from e).elim
theorem pt_truth (ha : PE X a ta) (he : ∀ whole, isTrue a X.env whole = (do let v ← whole; standAt a.pos; holding [v] (truthy v))) :
    PT X a (fun σ H Q => ta σ H fun x H' => ∃ k, TruV X.K x H' k ∧ Q k H') := by
  intro pins s σ H Q I h
  exact isTrue_plain (thn (ha pins s σ H _ I h) fun v s1 ⟨x, H1, I1, r1, q1⟩ => tru_ok pins s1 σ H1 x v Q I1 r1 q1) (he _)
theorem vals1 {x : V} {us : List Value} (r : Vals [x] us) : ∃ u, us = [u] ∧ RelV x u := by
  cases r with
  | cons r1 r2 => cases r2; exact ⟨_, rfl, r1⟩
theorem vals2 {x y : V} {us : List Value} (r : Vals [x, y] us) : ∃ u w', us = [u, w'] ∧ RelV x u ∧ RelV y w' := by
  cases r with
  | cons r1 r2 =>
    cases r2 with
    | cons r3 r4 => cases r4; exact ⟨_, _, rfl, r1, r3⟩
theorem call_min2 (hc : X.calm = true) : CallR X (.builtin "min") (fun xs H Q => ∃ i j, xs = [.int i, .int j] ∧ Q (.int (if j < i then j else i)) H) := by
  intro pins s σ H xs us Q I r h
  obtain ⟨i, j, rfl, q⟩ := h
  obtain ⟨u, w', rfl, ⟨t, rfl⟩, ⟨t', rfl⟩⟩ := vals2 r
  refine min_two_ints (I.ok.hd hc) fun h' tk k => ⟨_, H, I.kept k, ?_, q⟩
  by_cases hj : j < i
  · rw [if_pos hj, if_pos hj]; exact ⟨_, rfl⟩
  · rw [if_neg hj, if_neg hj]; exact ⟨_, rfl⟩
end
end L2
namespace L2
open PySem PySem.Spec PyProof.Rows
structure ObjM (h : Heap) (x dx C : Addr) (mA : Str → Option Value) : Prop where
  obj : h.get? x = some (PySem.W.instObj C dx)
  ns : h.Ns1 dx mA
  ne : dx ≠ x
theorem lookIn_ns {h : Heap} {dx : Addr} {mA : Str → Option Value} (n : h.Ns1 dx mA) : ∃ od, h.get? dx = some od ∧ ∀ name, PySem.W.lookIn name od = some (mA name) := by
  obtain ⟨o, es, ep, ho, hd, hk, _, hm⟩ := n
  refine ⟨o, ho, fun name => ?_⟩
  have e := hm name
  unfold nsFind findBy at e
  rw [← Array.find?_toList] at e
  unfold PySem.W.lookIn
  rw [hd]
  dsimp only
  split
  · rename_i y q
    rw [q] at e
    exact congrArg some e
  · rename_i q
    rw [q] at e
    have a : es.toList.any (·.refKey) = false := by
      rw [List.any_eq_false]
      intro y hy
      obtain ⟨z, t, hkey⟩ := hk y (Array.mem_toList_iff.mp hy)
      simp [DictEntry.refKey, hkey]
    have a' : ¬ es.toList.any (·.refKey) = true := by rw [a]; exact Bool.false_ne_true
    rw [if_neg a']
    exact congrArg some e
theorem ObjM.look {h : Heap} {x dx C : Addr} {mA : Str → Option Value} (I : ObjM h x dx C mA) : ∃ od, PySem.W.InstAt h x (PySem.W.instObj C dx) C (some od) ∧ ∀ name, PySem.W.lookIn name od = some (mA name) :=
  let ⟨od, ho, hl⟩ := lookIn_ns I.ns
  ⟨od, ⟨I.obj, rfl, rfl, ho⟩, hl⟩
section
variable {prog : Program} {w : World} {A : Around} {E : Value → Shared → Prop} {s : Shared} {K : PySem.W.Frag} {x dx C f : Addr} {mA : Str → Option Value} {name : Str} {v : Value}
theorem get_map {expr : Bool} {Q : Value → Shared → Prop} (X : K.In s.heap) (I : ObjM s.heap x dx C mA) (hg : PySem.W.plainGet K C name = true) (hh : PySem.W.hasDictIn K C = true)
    (ha : PySem.W.findIn K (.ref C) name = some none) (hv : mA name = some v) (hv' : PySem.W.handedIn v = true) (h : Q v { s with toks := s.toks + 1 }) :
    wpAny (model prog w) A (getAttr (.ref x) name expr) Q E s := by
  obtain ⟨od, J, hl⟩ := I.look
  exact PySem.W.get_value X J (PySem.W.plainGet_of hg).1 (PySem.W.findObj_own hh ha rfl (by rw [hl, hv])) hv' h
theorem get_meth {pl : Sem Bool} {Q : Value × List Value → Shared → Prop} (X : K.In s.heap) (I : ObjM s.heap x dx C mA) (hg : PySem.W.plainGet K C name = true)
    (hf : PySem.W.findIn K (.ref C) name = some (some (.ref f))) (ht : PySem.W.isFn K (.ref f) = true) (hv : mA name = none) (h : Q (.ref f, [.ref x]) s) :
    wpAny (model prog w) A (getMethod (.ref x) name pl) Q E s := by
  obtain ⟨od, J, hl⟩ := I.look
  exact PySem.W.method_fn X J (PySem.W.plainGet_of hg).1 (PySem.W.plainGet_of hg).2 hf (beq_iff_eq.mp ht) (by show (PySem.W.lookIn name od).map (·.isSome) = some false; rw [hl, hv]; rfl) h
theorem set_map {ns : List Str} {Q : Unit → Shared → Prop} (X : K.In s.heap) (I : ObjM s.heap x dx C mA)
    (hs : PySem.W.findIn K (.ref C) "__setattr__" = some (some (.builtin "object.__setattr__"))) (hp : PySem.W.plainOver K C = true) (ht : PySem.W.takerIn K C name = some none) (hh : PySem.W.hasDictIn K C = true)
    (hw : PySem.Within mA ns) (hsz : ns.length ≤ sizeLine)
    (h : ∀ h', ObjM h' x dx C (fun y => if y = name then some v else mA y) → Heap.SameBut dx s.heap h' → Q () { s with heap := h', toks := s.toks + 2 }) :
    wpAny (model prog w) A (setAttr (.ref x) name v) Q E s := by
  obtain ⟨od, J, hl⟩ := I.look
  refine PySem.W.set_plain X J hs (PySem.W.osa_open (s := { s with toks := s.toks + 1 }) (r := none) X J hp ht fun b => ?_)
  obtain ⟨cd, hc, hd'⟩ := PySem.W.any_some hh
  have hx : s.heap.get? x = some ⟨.ref C, some dx, .plain, #[]⟩ := I.obj
  refine wpAny_bind (wpAny_pure (wpAny_bind (wpAny_bind (wpAny_loadPart hx (wpAny_bind (PySem.W.Looks.here (s := { s with toks := s.toks + 1 }) (PySem.W.looks_clsIn X hc) ?_))))))
  rw [hd']
  refine wpAny_pure (a := some dx) (wpAny_bind (wpAny_pure (wpAny_bind ?_)))
  refine wpAny_nsSet1 (s := { s with toks := s.toks + 1 }) I.ns fun h' hn2 hs2 => ?_
  obtain ⟨oD, esD, epD, hoD, hdD, hcD⟩ := hn2.count (PySem.Within.cons name v hw)
  refine wpAny_bind (wpAny_lookBehind hoD (by rw [hdD]; exact pastItsLine_dict (Nat.le_trans hcD (by rw [List.length_cons]; omega))) ?_)
  exact wpAny_pure (h _ ⟨(hs2.2 _ (Ne.symm I.ne)).trans I.obj, hn2, I.ne⟩ hs2)
theorem make_map {R : Result → Shared → Prop} {vs : List Value} {kw : List (Str × Value)} (X : K.In s.heap) (hm : PySem.W.makesIn K C = true)
    (hi : PySem.W.findIn K (.ref C) "__init__" = some (some (.ref f))) (hf : PySem.W.typeIn K (.ref f) = some (.type "function"))
    (h : codeAny (model prog w) (A.under (.builtin "type.__call__" ⟨.ref C :: vs, kw⟩)) (.call (.ref f) ⟨.ref (s.heap.objs.size + 1) :: vs, kw⟩) (PySem.W.InitBack (s.heap.objs.size + 1) R)
      { s with heap := (s.heap.push PySem.W.emptyDict).push (PySem.W.instObj C s.heap.objs.size) }) :
    codeAny (model prog w) A (.call (.ref C) ⟨vs, kw⟩) R s := by
  obtain ⟨hh, g, d, t, os⟩ := s
  exact PySem.W.make_core (PySem.W.makes_of X hm) (PySem.W.looks_findIn X hi) (fun self => PySem.W.bind_fn X self hf) (.inl rfl) h
end
def putF (f : Str) (v : V) : List (Str × V) → List (Str × V)
  | [] => [(f, v)]
  | (g, x) :: r => if g = f then (g, v) :: r else (g, x) :: putF f v r
theorem lookup_putF (f g : Str) (v : V) : ∀ fs : List (Str × V), (putF f v fs).lookup g = if g = f then some v else fs.lookup g
  | [] => by
    show List.lookup g [(f, v)] = _
    by_cases h : g = f
    · have hb : (g == f) = true := beq_iff_eq.mpr h
      simp only [List.lookup, hb, if_pos h]
    · have hb : (g == f) = false := beq_eq_false_iff_ne.mpr h
      simp only [List.lookup, hb, if_neg h]
  | (k, x) :: r => by
    have ih := lookup_putF f g v r
    rw [show putF f v ((k, x) :: r) = (if k = f then (k, v) :: r else (k, x) :: putF f v r) from rfl]
    by_cases hk : k = f
    · rw [if_pos hk]
      by_cases h : g = k
      · have hb : (g == k) = true := beq_iff_eq.mpr h
        simp only [List.lookup, hb, if_pos (h.trans hk)]
      · have hb : (g == k) = false := beq_eq_false_iff_ne.mpr h
        simp only [List.lookup, hb, if_neg (fun e : g = f => h (e.trans hk.symm))]
    · rw [if_neg hk]
      by_cases h : g = k
      · have hb : (g == k) = true := beq_iff_eq.mpr h
        simp only [List.lookup, hb, if_neg (fun e : g = f => hk (h.symm.trans e))]
      · have hb : (g == k) = false := beq_eq_false_iff_ne.mpr h
        simp only [List.lookup, hb]
        exact ih
theorem keys_putF (f : Str) (v : V) : ∀ fs : List (Str × V), f ∈ (putF f v fs).map (·.1) ∧ ∀ g, g ∈ fs.map (·.1) → g ∈ (putF f v fs).map (·.1)
  | [] => ⟨by simp [putF], fun g h => by simp at h⟩
  | (k, x) :: r => by
    obtain ⟨i1, i2⟩ := keys_putF f v r
    rw [show putF f v ((k, x) :: r) = (if k = f then (k, v) :: r else (k, x) :: putF f v r) from rfl]
    by_cases hk : k = f
    · rw [if_pos hk]
      subst hk
      exact ⟨by simp, fun g h => by simpa using h⟩
    · rw [if_neg hk]
      refine ⟨?_, fun g h => ?_⟩
      · rw [List.map_cons]
        exact List.mem_cons_of_mem _ i1
      · rw [List.map_cons] at h ⊢
        rcases List.mem_cons.mp h with e | e
        · exact List.mem_cons.mpr (.inl e)
        · exact List.mem_cons_of_mem _ (i2 g e)
theorem length_putF (f : Str) (v : V) : ∀ fs : List (Str × V), (putF f v fs).length ≤ fs.length + 1
  | [] => by simp [putF]
  | (k, x) :: r => by
    have ih := length_putF f v r
    rw [show putF f v ((k, x) :: r) = (if k = f then (k, v) :: r else (k, x) :: putF f v r) from rfl]
    by_cases hk : k = f
    · rw [if_pos hk, List.length_cons, List.length_cons]; omega
    · rw [if_neg hk, List.length_cons, List.length_cons]; omega
theorem RelO.some_of {v : V} {o : Option Value} (r : RelO (some v) o) : ∃ u, o = some u ∧ RelV v u := by
  cases o with
  | none => exact (show False from r).elim
  | some u => exact ⟨u, rfl, r⟩
theorem RelO.none_of {o : Option Value} (r : RelO none o) : o = none := by
  cases o with
  | none => rfl
  | some u => exact (show False from r).elim
theorem handed_of {v : V} {u : Value} (r : RelV v u) : PySem.W.handedIn u = true := by
  cases v with
  | non => cases (show u = Value.none from r); rfl
  | bl b => cases (show u = Value.bool b from r); rfl
  | int i => obtain ⟨t, e⟩ := (show ∃ t, u = Value.int i t from r); cases e; rfl
  | str x => obtain ⟨t, e⟩ := (show ∃ t, u = Value.str x t from r); cases e; rfl
  | byt b => obtain ⟨t, e⟩ := (show ∃ t, u = Value.bytes b t from r); cases e; rfl
  | flt b => obtain ⟨t, e⟩ := (show ∃ t, u = Value.float b t from r); cases e; rfl
  | ref a => cases (show u = Value.ref a from r); rfl
  | ty n => cases (show u = Value.type n from r); rfl
section
variable {P : Program} {w : World} {H H' : Hp} {h h' : Heap} {a C dx : Addr} {fs fs' : List (Str × V)}
theorem ins_get (hok : HOk P w H h) (e : H a = some (.ins C dx fs)) : ∃ mA, ObjM h a dx C mA ∧ (∀ f, RelO (fs.lookup f) (mA f)) ∧ PySem.Within mA (fs.map (·.1)) ∧ fs.length ≤ 1000 ∧ H dx = some (.own a) := by
  obtain ⟨d, z, ne, ob, mA, n, r, q⟩ := (show ObjOk P w H h a (.ins C dx fs) from hok a _ e)
  exact ⟨mA, ⟨ob, n, ne⟩, r, q, z, d⟩
end
structure Cls (K : PySem.W.Frag) (C : Addr) : Prop where
  pg : PySem.W.plainGet K C Str.empty = true
  hd : PySem.W.hasDictIn K C = true
  po : PySem.W.plainOver K C = true
  sa : PySem.W.findIn K (.ref C) "__setattr__" = some (some (.builtin "object.__setattr__"))
theorem Cls.get {K : PySem.W.Frag} {C : Addr} (c : Cls K C) (f : Str) : PySem.W.plainGet K C f = true := c.pg
def NoAttr (K : PySem.W.Frag) (C : Addr) (f : Str) : Prop := PySem.W.findIn K (.ref C) f = some none
theorem NoAttr.taker {K : PySem.W.Frag} {C : Addr} {f : Str} (n : NoAttr K C f) : PySem.W.takerIn K C f = some none := by
  unfold PySem.W.takerIn
  rw [show PySem.W.findIn K (.ref C) f = some none from n]
  rfl
structure Con (K : PySem.W.Frag) (C : Addr) (f : Str) (v : V) (u : Value) : Prop where
  at_ : PySem.W.findIn K (.ref C) f = some (some u)
  rel : RelV v u
  get : PySem.W.specialIn K u "__get__" = some none
  cp : PySem.W.copiedNames.contains f = false
structure Meth (K : PySem.W.Frag) (C : Addr) (m : Str) (f : Addr) : Prop where
  at_ : PySem.W.findIn K (.ref C) m = some (some (.ref f))
  fn : PySem.W.isFn K (.ref f) = true
  kp : PySem.W.keepIn K (.ref f) = true
section
variable {X : Cx} {pins : List (Addr × Obj)} {σ : St} {H : Hp} {s : Shared} {a C dx : Addr} {fs : List (Str × V)} {f : Str} {v : V} {A : Around} {E : Value → Shared → Prop}
theorem getattr_ok {b : Bool} {Q : Value → Shared → Prop} (I : Inv X pins σ H s) (e : H a = some (.ins C dx fs)) (c : Cls X.K C) (n : NoAttr X.K C f) (l : fs.lookup f = some v)
    (h : ∀ u s', Inv X pins σ H s' → RelV v u → Q u s') : wpAny (model X.prog X.w) A (getAttr (.ref a) f b) Q E s := by
  obtain ⟨mA, O, r, _, _, _⟩ := ins_get I.hok e
  obtain ⟨u, hu, ru⟩ := RelO.some_of (v := v) (o := mA f) (by rw [← l]; exact r f)
  exact get_map I.kIn O (c.get f) c.hd n hu (handed_of ru) (h u _ (I.tok _) ru)
theorem getmeth_ok {m : Str} {g : Addr} {pl : Sem Bool} {Q : Value × List Value → Shared → Prop} (I : Inv X pins σ H s) (e : H a = some (.ins C dx fs)) (c : Cls X.K C) (k : Meth X.K C m g) (l : fs.lookup m = none)
    (h : Q (.ref g, [.ref a]) s) : wpAny (model X.prog X.w) A (getMethod (.ref a) m pl) Q E s := by
  obtain ⟨mA, O, r, _, _, _⟩ := ins_get I.hok e
  have hn : mA m = none := RelO.none_of (by rw [← l]; exact r m)
  exact get_meth I.kIn O (c.get m) k.at_ k.fn hn h
theorem setattr_ok {y : V} {u : Value} {Q : Unit → Shared → Prop} (I : Inv X pins σ H s) (e : H a = some (.ins C dx fs)) (c : Cls X.K C) (n : NoAttr X.K C f) (hl : fs.length < 1000) (ry : RelV y u)
    (h : ∀ s', Inv X pins σ (upd H a (.ins C dx (putF f y fs))) s' → Q () s') : wpAny (model X.prog X.w) A (setAttr (.ref a) f u) Q E s := by
  obtain ⟨mA, O, r, wi, _, ho⟩ := ins_get I.hok e
  have hz : (fs.map (·.1)).length ≤ sizeLine := by rw [List.length_map, sizeLine_eq]; omega
  refine set_map I.kIn O c.sa c.po n.taker c.hd wi hz fun h' O' sb => h _ ?_
  have hd : ∃ o, h'.get? dx = some o := let ⟨o, _, _, e', _⟩ := O'.ns; ⟨o, e'⟩
  refine I.write (x := a) (e := dx) (by rw [e]; exact True.intro) (.inr ho) (fun b q hb z => (sb.2 b hb).trans z) hd ?_
  refine ⟨by rw [upd_ne O.ne]; exact ho, ?_, O.ne, O'.obj, _, O'.ns, fun g => ?_, fun g hg => ?_⟩
  · have := length_putF f y fs; omega
  · show RelO ((putF f y fs).lookup g) (if g = f then some u else mA g)
    rw [lookup_putF]
    by_cases q : g = f
    · rw [if_pos q, if_pos q]; exact ry
    · rw [if_neg q, if_neg q]; exact r g
  · by_cases q : g = f
    · rw [q]; exact (keys_putF f y fs).1
    · refine (keys_putF f y fs).2 g (wi g fun z => hg ?_)
      show (if g = f then some u else mA g) = none
      rw [if_neg q]; exact z
theorem Inv.made (I : Inv X pins σ H s) : Inv X pins σ (upd (upd H s.heap.objs.size (.own (s.heap.objs.size + 1))) (s.heap.objs.size + 1) (.ins C s.heap.objs.size []))
    { s with heap := (s.heap.push PySem.W.emptyDict).push (PySem.W.instObj C s.heap.objs.size) } := by
  have e1 : (s.heap.push PySem.W.emptyDict).get? s.heap.objs.size = some PySem.W.emptyDict := Heap.get?_push_size s.heap rfl
  have e2 : ((s.heap.push PySem.W.emptyDict).push (PySem.W.instObj C s.heap.objs.size)).get? (s.heap.objs.size + 1) = some (PySem.W.instObj C s.heap.objs.size) := by
    have := Heap.get?_push_size (s.heap.push PySem.W.emptyDict) (o := PySem.W.instObj C s.heap.objs.size) rfl
    rwa [Heap.size_push] at this
  have e3 : (s.heap.push PySem.W.emptyDict).Ns s.heap.objs.size (fun _ => none) := ⟨PySem.W.emptyDict, #[], _, e1, rfl, (fun e he => absurd he (by simp)), fun _ => rfl⟩
  have I1 := I.laid (a := s.heap.objs.size) (o := .own (s.heap.objs.size + 1)) (h' := s.heap.push PySem.W.emptyDict) (t' := s.toks) (fun b u q => Heap.get?_push_of_some _ q) (Nat.le_refl _) ⟨_, e1⟩
  refine I1.laid (a := s.heap.objs.size + 1) (o := .ins C s.heap.objs.size []) (t' := s.toks) (fun b u q => Heap.get?_push_of_some _ q) (Nat.le_of_eq (Heap.size_push _ _)) ?_
  have ne : s.heap.objs.size ≠ s.heap.objs.size + 1 := Nat.ne_of_lt (Nat.lt_succ_self _)
  refine ⟨by rw [upd_ne ne, upd_same], Nat.zero_le _, ne, e2, fun _ => none, (Heap.Ns1.of_empty e3).at fun o q => Heap.get?_push_of_some _ q, fun _ => True.intro, fun y hy => absurd rfl hy⟩
theorem attr_of {prog : Program} {w : World} {env : Env} {e : Expr} {f : Str} {pos : Pos} {s : Shared} {Q : Value → Shared → Prop} (hb : attributeBase e f env (eval e env) = eval e env)
    (h : wpAny (model prog w) A (eval e env) (fun o s₁ => wpAny (model prog w) A (getAttr o f true) Q E s₁) E s) : wpAny (model prog w) A (eval (.Attribute e f pos) env) Q E s :=
  Attribute_any_ h (by rw [arm_eval_Attribute, hb])
end
def tFld (K : PySem.W.Frag) (ta : TE) (f : Str) : TE := fun σ H Q => ta σ H fun x H1 => ∃ a C dx fs v, x = .ref a ∧ H1 a = some (.ins C dx fs) ∧ Cls K C ∧ NoAttr K C f ∧ fs.lookup f = some v ∧ Q v H1
def sFld (K : PySem.W.Frag) (ta tv : TE) (f : Str) : TS := fun D σ H => tv σ H fun y H1 => ta σ H1 fun x H2 => ∃ a C dx fs, x = .ref a ∧ H2 a = some (.ins C dx fs) ∧ Cls K C ∧ NoAttr K C f ∧ fs.length < 1000 ∧
  D.nx σ (upd H2 a (.ins C dx (putF f y fs)))
section
variable {X : Cx} {o e value : Expr} {f : Str} {pos pos' tpos : Pos} {ta tv : TE}
theorem pe_fld (he : PE X e ta) (hb : attributeBase e f X.env (eval e X.env) = eval e X.env) : PE X (.Attribute e f pos) (tFld X.K ta f) := by
  intro pins s σ H Q I h
  refine attr_of hb (thn (he pins s σ H _ I h) fun u s1 ⟨x, H1, I1, rx, a, C, dx, fs, v, ex, ea, c, n, l, q⟩ => ?_)
  subst ex
  obtain rfl : u = Value.ref a := rx
  exact getattr_ok I1 ea c n l fun u' s2 I2 ru => ⟨v, H1, I2, ru, q⟩
theorem ps_fld (ha : PE X o ta) (hv : PE X value tv) (hs : swapsWith value (some (.Attribute o f pos')) pos.line X.env = pure false) : PS X (.Assign [.Attribute o f pos'] value pos) (sFld X.K ta tv f) := by
  intro pins s σ H D I h
  refine plainObj_wpAny_Assign_Attribute (thn (hv pins s σ H _ I h) fun u s1 ⟨y, H1, I1, ry, q⟩ => thn (ha pins s1 σ H1 _ I1 q) fun ov s2 ⟨x, H2, I2, rx, a, C, dx, fs, ex, ea, c, n, l, q2⟩ => ?_) hs
  subst ex
  obtain rfl : ov = Value.ref a := rx
  exact setattr_ok I2 ea c n l ry fun s3 I3 => ⟨σ, _, I3, q2⟩
end
section
variable {X : Cx} {pins : List (Addr × Obj)} {σ : St} {H : Hp} {s : Shared} {A : Around} {E : Value → Shared → Prop} {Q : Value → Shared → Prop} {c : Value} {b : Bool}
inductive TyOf (K : PySem.W.Frag) (H : Hp) : V → Value → Prop where
  | non : TyOf K H .non (.type "NoneType")
  | bl (x : Bool) : TyOf K H (.bl x) (.type "bool")
  | int (i : Int) : TyOf K H (.int i) (.type "int")
  | str (x : Str) : TyOf K H (.str x) (.type "str")
  | flt (x : UInt64) : TyOf K H (.flt x) (.type "float")
  | lst {a : Addr} {xs : List V} (e : H a = some (.lst xs)) : TyOf K H (.ref a) (.type "list")
  | frz {a : Addr} {o : Obj} {xs : List V} (e : H a = some (.frz o (.lst xs))) : TyOf K H (.ref a) (.type "list")
  | tup {a : Addr} {xs : List V} (e : H a = some (.tup xs)) : TyOf K H (.ref a) (.type "tuple")
  | dK {a : Addr} {kvs : List (Key × V)} (e : H a = some (.dK kvs)) : TyOf K H (.ref a) (.type "dict")
  | dT {a : Addr} {kvs : List (List Key × V)} (e : H a = some (.dT kvs)) : TyOf K H (.ref a) (.type "dict")
  | ins {a C dx : Addr} {fs : List (Str × V)} (e : H a = some (.ins C dx fs)) (cl : Cls K C) (ha : PySem.W.findIn K (.ref C) "__class__" = some (some (.builtin "object.__class__")))
      (hn : PySem.W.specialIn K (.builtin "object.__class__") "__get__" = some (some (.builtin "getset_descriptor.__get__"))) (htk : PySem.W.takesIn K (.builtin "object.__class__") = some true)
      (hm : PySem.W.mroIn K C (.type "object") = some true) : TyOf K H (.ref a) (.ref C)
end
end L2
namespace L2
open PySem PySem.Spec PyProof.Rows
structure Room (k : Nat) (A : Around) : Prop where
  hd : A.handled = none
  dp : A.depth + 3 * k + 5 < recursionLimit
  un : A.units + 16 * k + 200 < cLine
theorem Room.mono {j k : Nat} {A : Around} (r : Room k A) (h : j ≤ k) : Room j A := ⟨r.hd, by have := r.dp; omega, by have := r.un; omega⟩
theorem Room.deeper {k : Nat} {A : Around} (r : Room (k + 1) A) (env : Env) : Room k (A.deeper env) :=
  ⟨r.hd, by have := r.dp; show A.depth + 1 + 3 * k + 5 < _; omega, by have := r.un; show A.units + 3 + 16 * k + 200 < _; omega⟩
theorem Room.in1 {k : Nat} {A : Around} (r : Room (k + 1) A) : Room k A.in1 :=
  ⟨r.hd, by have := r.dp; show A.depth + 3 * k + 5 < _; omega, by have := r.un; show A.units + 1 + 16 * k + 200 < _; omega⟩
theorem make_depth {A : Around} {C : Addr} {us : List Value} {kw : List (Str × Value)} : (A.under (.builtin "type.__call__" ⟨.ref C :: us, kw⟩)).depth = A.depth + 1 := by
  first | rfl | simp [Around.under, Code.weight, Code.isCreation, Code.isGuard, Code.isCaller, Code.frames, Code.isFrame, guardIds]
theorem make_units {A : Around} {C : Addr} {us : List Value} {kw : List (Str × Value)} : (A.under (.builtin "type.__call__" ⟨.ref C :: us, kw⟩)).units = A.units + 1 := by
  first | rfl | simp [Around.under, Code.cUnits, Code.frames, Code.isFrame]
theorem Room.make {k : Nat} {A : Around} (r : Room (k + 1) A) (C : Addr) (us : List Value) (kw : List (Str × Value)) : Room k (A.under (.builtin "type.__call__" ⟨.ref C :: us, kw⟩)) :=
  ⟨r.hd, by have := r.dp; rw [make_depth]; omega, by have := r.un; rw [make_units]; omega⟩
theorem Room.depth {k : Nat} {A : Around} (r : Room k A) : A.depth < recursionLimit := by have := r.dp; omega
theorem Room.units {k : Nat} {A : Around} (r : Room k A) : A.units + 64 < cLine := by have := r.un; omega
def tNil : TA := fun _ H Q => Q [] H
def tCons (ta : TE) (tr : TA) : TA := fun σ H Q => ta σ H fun x H1 => tr σ H1 fun xs H2 => Q (x :: xs) H2
section
variable {X : Cx} {e : Expr} {es : List Expr} {te : TE} {t : TA} {pos : Pos}
theorem pa_nil : PA X [] tNil := fun _ _ _ _ H Q I h => Calls.spliced_nil ⟨[], H, I, .nil, h⟩
theorem pa_cons (ha : PE X e te) (hr : PA X es t) (hs : starEach (e :: es) X.env = (false, eval e X.env) :: starEach es X.env := by rfl) : PA X (e :: es) (tCons te t) := by
  intro pos pins s σ H Q I h
  rw [hs]
  show wpAny _ _ (spliced ((false, eval e X.env) :: backTo pos (starEach es X.env))) _ _ s
  refine Calls.spliced_cons (thn (ha pins s σ H _ I h) fun u s1 ⟨x, H1, I1, r1, q1⟩ => ?_)
  exact thn (hr pos pins s1 σ H1 _ I1 q1) fun us s2 ⟨xs, H2, I2, r2, q2⟩ => ⟨x :: xs, H2, I2, .cons r1 r2, q2⟩
def tTup (t : TA) : TE := fun σ H Q => t σ H fun xs H1 => xs.length ≤ sizeLine ∧ ∀ p, H1 p = none → Q (.ref p) (upd H1 p (.tup xs))
def tLst (t : TA) : TE := fun σ H Q => t σ H fun xs H1 => xs.length ≤ sizeLine ∧ ∀ p, H1 p = none → Q (.ref p) (upd H1 p (.lst xs))
theorem pe_tup {x1} (h : PA X es t) : PE X (.Tuple es x1 pos) (tTup t) := by
  intro pins s σ H Q I hq
  refine wpAny_Tuple_spliced (thn (h pos pins s σ H _ I hq) fun us s1 ⟨xs, H1, I1, r, z, q⟩ => ⟨by rw [← r.length]; exact z, ?_⟩)
  have hf : H1 s1.heap.objs.size = none := I1.hok.fresh (Nat.le_refl _)
  refine ⟨.ref s1.heap.objs.size, upd H1 s1.heap.objs.size (.tup xs), I1.laid (t' := s1.toks) (fun b u e => Heap.get?_push_of_some _ e) (Nat.le_refl _) ?_, rfl, q _ hf⟩
  exact ⟨z, us, r, ⟨_, Heap.get?_push_size _ rfl, rfl, _, rfl⟩⟩
theorem pe_lst (h : PA X es t) : PE X (.List es pos) (tLst t) := by
  intro pins s σ H Q I hq
  refine wpAny_List_spliced (thn (h pos pins s σ H _ I hq) fun us s1 ⟨xs, H1, I1, r, z, q⟩ => ⟨by rw [← r.length]; exact z, ?_⟩)
  have hf : H1 s1.heap.objs.size = none := I1.hok.fresh (Nat.le_refl _)
  refine ⟨.ref s1.heap.objs.size, upd H1 s1.heap.objs.size (.lst xs), I1.laid (t' := s1.toks) (fun b u e => Heap.get?_push_of_some _ e) (Nat.le_refl _) ?_, rfl, q _ hf⟩
  exact ⟨z, us, 0, r, Heap.get?_push_size _ rfl⟩
end
abbrev Sp := List V → Hp → VK → XK → Prop
abbrev CXT := List Env → Hp → Shared → XK → Value → Shared → Prop
structure Env0 (P : Program) (w : World) (K : PySem.W.Frag) (mg : Str → Option Value) (base : Heap) (A : Around) (outer : List Env) (s : Shared) (H : Hp) : Prop where
  frames : A.frames = some outer
  mod : Mod K mg base
  bs : ∀ b o, base.get? b = some o → s.heap.get? b = some o ∧ H b = none
  bsz : base.objs.size ≤ s.heap.objs.size
  funs : s.heap.FunFrames base outer
  frf : ∀ b ∈ frs outer, H b = none
  hok : HOk P w H s.heap
  bare : AllBare s.gens
def CE (outer : List Env) (P : Program) (w : World) (H : Hp) (s : Shared) (Q : VK) (u : Value) (s' : Shared) : Prop :=
  ∃ v H', s'.os = s.os ∧ AllBare s'.gens ∧ Un (frs outer) [] H H' s.heap s'.heap ∧ HOk P w H' s'.heap ∧ RelV v u ∧ Q v H'
def CR (CX : CXT) (outer : List Env) (P : Program) (w : World) (H : Hp) (s : Shared) (Q : VK) (E : XK) (r : Result) (s' : Shared) : Prop :=
  match r with
  | .ok (.ret u) => CE outer P w H s Q u s'
  | .ok _ => False
  | .error e => CX outer H s E e s'
structure FnOk (P : Program) (w : World) (K : PySem.W.Frag) (mg : Str → Option Value) (base : Heap) (CX : CXT) (k : Nat) (f : Addr) (fd : FuncData) (ps : List Str) (sp : Sp) : Prop where
  len : ∀ vs H Q E, sp vs H Q E → vs.length = ps.length
  run : ∀ (A : Around) (outer : List Env) (s : Shared) (H : Hp) (args : Args) (us : List Value) (vs : List V) (Q : VK) (E : XK), Room k A → Env0 P w K mg base A outer s H → BindsTo s fd args (ps.zip us) → Vals vs us → sp vs H Q E →
    codeAny (model P w) A (.call (.ref f) args) (CR CX outer P w H s Q E) s
theorem FnOk.mono {P : Program} {w : World} {K : PySem.W.Frag} {mg : Str → Option Value} {base : Heap} {CX : CXT} {j k : Nat} {f : Addr} {fd : FuncData} {ps : List Str} {sp : Sp} (F : FnOk P w K mg base CX j f fd ps sp) (h : j ≤ k) :
    FnOk P w K mg base CX k f fd ps sp := ⟨F.len, fun A outer s H args us vs Q E hr => F.run A outer s H args us vs Q E (hr.mono h)⟩
theorem FnOk.imp {P : Program} {w : World} {K : PySem.W.Frag} {mg : Str → Option Value} {base : Heap} {CX : CXT} {k : Nat} {f : Addr} {fd : FuncData} {ps : List Str} {sp sp' : Sp} (F : FnOk P w K mg base CX k f fd ps sp)
    (h : ∀ vs H Q E, sp' vs H Q E → sp vs H Q E) : FnOk P w K mg base CX k f fd ps sp' :=
  ⟨fun vs H Q E q => F.len vs H Q E (h _ _ _ _ q), fun A outer s H args us vs Q E hr he hb hv hs => F.run A outer s H args us vs Q E hr he hb hv (h _ _ _ _ hs)⟩
theorem Env0.make {P : Program} {w : World} {K : PySem.W.Frag} {mg : Str → Option Value} {base : Heap} {A : Around} {outer : List Env} {s : Shared} {H : Hp} (e : Env0 P w K mg base A outer s H) (C : Addr) (us : List Value) (kw : List (Str × Value)) :
    Env0 P w K mg base (A.under (.builtin "type.__call__" ⟨.ref C :: us, kw⟩)) outer s H := ⟨by first | exact e.frames | (simpa [Around.under, Code.envs, Code.isFrame, pushEnvs] using e.frames), e.mod, e.bs, e.bsz, e.funs, e.frf, e.hok, e.bare⟩
theorem Env0.in1 {P : Program} {w : World} {K : PySem.W.Frag} {mg : Str → Option Value} {base : Heap} {A : Around} {outer : List Env} {s : Shared} {H : Hp} (e : Env0 P w K mg base A outer s H) :
    Env0 P w K mg base A.in1 outer s H := ⟨e.frames, e.mod, e.bs, e.bsz, e.funs, e.frf, e.hok, e.bare⟩
section
variable {X : Cx} {pins : List (Addr × Obj)} {σ : St} {H : Hp} {s s' : Shared}
theorem Inv.env0 (I : Inv X pins σ H s) : Env0 X.prog X.w X.K X.mg X.base X.A X.stack s H :=
  ⟨I.ok.frames, I.ok.mod, I.bs, Nat.le_trans I.ok.bsz I.sz, I.stack, I.stkFree, I.hok, I.bare⟩
theorem Inv.after {Q : VK} {u : Value} (I : Inv X pins σ H s) (h : CE X.stack X.prog X.w H s Q u s') : EP X pins σ Q u s' := by
  obtain ⟨v, H', os, bare, un, hok, r, q⟩ := h
  obtain ⟨hh, g, d, t, os'⟩ := s'
  obtain rfl : os' = s.os := os
  exact ⟨v, H', I.call (h' := hh) (g' := g) (d' := d) (t' := t) (ch := []) un hok bare (fun b z => absurd z (by simp)), r, q⟩
end
def tCall (sp : Sp) (dvs : List V) (E : XK) (t : TA) : TE := fun σ H Q => t σ H fun vs H1 => sp (vs ++ dvs) H1 Q E
def tMeth (C : Addr) (m : Str) (sp : Sp) (dvs : List V) (E : XK) (ta : TE) (t : TA) : TE := fun σ H Q => ta σ H fun x H1 => ∃ a dx fs, x = .ref a ∧ H1 a = some (.ins C dx fs) ∧ fs.lookup m = none ∧
  t σ H1 fun vs H2 => sp (x :: (vs ++ dvs)) H2 Q E
def tMake (C : Addr) (sp : Sp) (dvs : List V) (E : XK) (t : TA) : TE := fun σ H Q => t σ H fun vs H1 => ∀ x dx, H1 x = none → H1 dx = none → dx ≠ x →
  sp (.ref x :: (vs ++ dvs)) (upd (upd H1 dx (.own x)) x (.ins C dx [])) (fun v H2 => v = .non ∧ Q (.ref x) H2) E
def Binds (K : PySem.W.Frag) (fd : FuncData) (ps : List Str) (ds : List Value) : Prop :=
  ∀ (s : Shared) (us : List Value), K.In s.heap → (us ++ ds).length = ps.length → BindsTo s fd ⟨us, []⟩ (ps.zip (us ++ ds))
theorem Binds.all {K : PySem.W.Frag} {fd : FuncData} {ps : List Str} (h : ∀ us : List Value, us.length = ps.length → bindArgs fd ⟨us, []⟩ = pure (ps.zip us)) : Binds K fd ps [] := fun s us _ hl => by
  rw [List.append_nil] at hl ⊢
  exact .of_eq (h us hl)
def Passes (CX : CXT) (X : Cx) (E : XK) : Prop := ∀ (pins : List (Addr × Obj)) (σ : St) (H : Hp) (s : Shared) (e : Value) (s' : Shared), Inv X pins σ H s → CX X.stack H s E e s' → X.xe e s'
section
variable {X : Cx} {CX : CXT} {k : Nat} {f C : Addr} {fd : FuncData} {ps : List Str} {sp : Sp} {dvs : List V} {ds : List Value} {E : XK} {x m : Str} {p pos apos : Pos} {e o : Expr} {es : List Expr} {ta : TE} {t : TA}
theorem run_fn {pins : List (Addr × Obj)} {σ : St} {H : Hp} {s : Shared} {Q : VK} {us : List Value} {vs : List V} (F : FnOk X.prog X.w X.K X.mg X.base CX k f fd ps sp) (hr : Room k X.A) (hb : Binds X.K fd ps ds) (hd : Vals dvs ds) (hx : Passes CX X E)
    (I : Inv X pins σ H s) (r : Vals vs us) (h : sp (vs ++ dvs) H Q E) : wpAny (model X.prog X.w) X.A (call (.ref f) us) (EP X pins σ Q) X.xe s := by
  have r2 : Vals (vs ++ dvs) (us ++ ds) := r.append hd
  have hl : (us ++ ds).length = ps.length := by rw [← r2.length]; exact F.len _ _ _ _ h
  refine wpAny_call (codeAny_mono (F.run X.A X.stack s H ⟨us, []⟩ (us ++ ds) (vs ++ dvs) Q E hr I.env0 (hb s us I.kIn hl) r2 h) fun r s' hq => ?_)
  cases r with
  | error e => exact hx pins σ H s e s' I hq
  | ok fl =>
    cases fl with
    | ret u => exact I.after hq
    | next => exact False.elim hq
    | brk => exact False.elim hq
    | cont => exact False.elim hq
theorem pe_call (F : FnOk X.prog X.w X.K X.mg X.base CX k f fd ps sp) (hr : Room k X.A) (hg : Gl X x) (hm : X.mg x = some (.ref f)) (hk : PySem.W.keepIn X.K (.ref f) = true) (hb : Binds X.K fd ps ds) (hd : Vals dvs ds) (hx : Passes CX X E)
    (ha : PA X (e :: es) t) (hdb : (x == ("__debug__" : Str)) = false := by decide) (he : starEach (e :: es) X.env = (false, eval e X.env) :: starEach es X.env := by rfl) (hpl : (backTo pos (starEach es X.env)).any (·.1) = false := by rfl) :
    PE X (.Call (.Name x p) (e :: es) [] pos) (tCall sp dvs E t) := by
  intro pins s σ H Q I h
  refine wpAny_Call_Name_kw (ld_glob I hg hm ?_ hdb)
  refine PySem.W.callWith_K (h₀ := X.base) I.ok.mod.kin hk (thn (ha pos pins s σ H _ I h) fun us s1 ⟨vs, H1, I1, r, q⟩ => ⟨I1.kIn, ?_⟩) he hpl
  exact run_fn F hr hb hd hx I1 r q
theorem pe_call0 (F : FnOk X.prog X.w X.K X.mg X.base CX k f fd ps sp) (hr : Room k X.A) (hg : Gl X x) (hm : X.mg x = some (.ref f)) (hk : PySem.W.keepIn X.K (.ref f) = true) (hb : Binds X.K fd ps ds) (hd : Vals dvs ds) (hx : Passes CX X E)
    (hdb : (x == ("__debug__" : Str)) = false := by decide) : PE X (.Call (.Name x p) [] [] pos) (tCall sp dvs E tNil) := by
  intro pins s σ H Q I h
  refine wpAny_Call_Name_kw (ld_glob I hg hm ?_ hdb)
  exact PySem.W.callWith_K0 I.kIn hk (run_fn (us := []) F hr hb hd hx I .nil h)
theorem pe_meth {pl : Sem Bool} (he : PE X o ta) (c : Cls X.K C) (hm : Meth X.K C m f) (F : FnOk X.prog X.w X.K X.mg X.base CX k f fd ps sp) (hr : Room k X.A) (hb : Binds X.K fd ps ds) (hd : Vals dvs ds) (hx : Passes CX X E) (ha : PA X (e :: es) t)
    (hst : starEach (e :: es) X.env = (false, eval e X.env) :: starEach es X.env := by rfl) (hpl : (backTo pos (starEach es X.env)).any (·.1) = false := by rfl)
    (ht : eval (.Call (.Attribute o m apos) (e :: es) [] pos) X.env = (do
      let ov ← eval o X.env
      standAt apos.atName
      let (f, first) ← holding [ov] (getMethod ov m pl)
      callWith pos f first (backTo pos (starEach (e :: es) X.env)) (backToKw pos (keywordEach [] X.env))) := by rfl) :
    PE X (.Call (.Attribute o m apos) (e :: es) [] pos) (tMeth C m sp dvs E ta t) := by
  intro pins s σ H Q I h
  refine PySem.W.methodCall_KW (pl := pl) (thn (he pins s σ H _ I h) fun u s1 ⟨x, H1, I1, rx, a, dx, fs, ex, ea, l, q⟩ => ?_) ht
  subst ex
  obtain rfl : u = Value.ref a := rx
  refine getmeth_ok I1 ea c hm l ?_
  refine PySem.W.callWith_K (first := [.ref a]) (h₀ := X.base) I.ok.mod.kin hm.kp (thn (ha pos pins s1 σ H1 _ I1 q) fun us s2 ⟨vs, H2, I2, r, q2⟩ => ⟨I2.kIn, ?_⟩) hst hpl
  exact run_fn (us := .ref a :: us) (vs := .ref a :: vs) F hr hb hd hx I2 (.cons rfl r) q2
theorem pe_meth0 {pl : Sem Bool} (he : PE X o ta) (c : Cls X.K C) (hm : Meth X.K C m f) (F : FnOk X.prog X.w X.K X.mg X.base CX k f fd ps sp) (hr : Room k X.A) (hb : Binds X.K fd ps ds) (hd : Vals dvs ds) (hx : Passes CX X E)
    (ht : eval (.Call (.Attribute o m apos) [] [] pos) X.env = (do
      let ov ← eval o X.env
      standAt apos.atName
      let (f, first) ← holding [ov] (getMethod ov m pl)
      callWith pos f first (backTo pos (starEach [] X.env)) (backToKw pos (keywordEach [] X.env))) := by rfl) :
    PE X (.Call (.Attribute o m apos) [] [] pos) (tMeth C m sp dvs E ta tNil) := by
  intro pins s σ H Q I h
  refine PySem.W.methodCall_KW (pl := pl) (thn (he pins s σ H _ I h) fun u s1 ⟨x, H1, I1, rx, a, dx, fs, ex, ea, l, q⟩ => ?_) ht
  subst ex
  obtain rfl : u = Value.ref a := rx
  refine getmeth_ok I1 ea c hm l ?_
  exact PySem.W.callWith_K0 (first := [.ref a]) I1.kIn hm.kp (run_fn (us := [.ref a]) (vs := [.ref a]) F hr hb hd hx I1 (.cons rfl .nil) q)
structure Mk (K : PySem.W.Frag) (C f : Addr) : Prop where
  makes : PySem.W.makesIn K C = true
  init : PySem.W.findIn K (.ref C) "__init__" = some (some (.ref f))
  fn : PySem.W.isFn K (.ref f) = true
  kp : PySem.W.keepIn K (.ref C) = true
theorem run_make {pins : List (Addr × Obj)} {σ : St} {H : Hp} {s : Shared} {Q : VK} {us : List Value} {vs : List V} (M : Mk X.K C f) (F : FnOk X.prog X.w X.K X.mg X.base CX k f fd ps sp) (hr : Room (k + 1) X.A) (hb : Binds X.K fd ps ds) (hd : Vals dvs ds)
    (hx : Passes CX X E) (I : Inv X pins σ H s) (r : Vals vs us)
    (h : ∀ x dx, H x = none → H dx = none → dx ≠ x → sp (.ref x :: (vs ++ dvs)) (upd (upd H dx (.own x)) x (.ins C dx [])) (fun v H2 => v = .non ∧ Q (.ref x) H2) E) :
    wpAny (model X.prog X.w) X.A (call (.ref C) us) (EP X pins σ Q) X.xe s := by
  have hq := h (s.heap.objs.size + 1) s.heap.objs.size (I.hok.fresh (Nat.le_succ _)) (I.hok.fresh (Nat.le_refl _)) (Nat.ne_of_lt (Nat.lt_succ_self _))
  have I2 := Inv.made (C := C) I
  have r2 : Vals (V.ref (s.heap.objs.size + 1) :: (vs ++ dvs)) (Value.ref (s.heap.objs.size + 1) :: (us ++ ds)) := .cons rfl (r.append hd)
  have hl : (Value.ref (s.heap.objs.size + 1) :: us ++ ds).length = ps.length := by
    have e := r2.length
    rw [F.len _ _ _ _ hq] at e
    exact e.symm
  refine wpAny_call (make_map (f := f) I.kIn M.makes M.init (beq_iff_eq.mp M.fn) (codeAny_mono (F.run _ X.stack _ _ ⟨Value.ref (s.heap.objs.size + 1) :: us, []⟩ (Value.ref (s.heap.objs.size + 1) :: (us ++ ds)) _ _ E (hr.make C us [])
    (I2.env0.make C us []) (hb _ (Value.ref (s.heap.objs.size + 1) :: us) I2.kIn hl) r2 hq) fun r s' hq' => ?_))
  cases r with
  | error e => exact hx pins σ _ _ e s' I2 hq'
  | ok fl =>
    cases fl with
    | ret u =>
      obtain ⟨v, H', I3, rv, ev, q3⟩ := I2.after hq'
      subst ev
      exact ⟨rv, ⟨V.ref (s.heap.objs.size + 1), H', I3, rfl, q3⟩⟩
    | next => exact False.elim hq'
    | brk => exact False.elim hq'
    | cont => exact False.elim hq'
theorem pe_make (M : Mk X.K C f) (F : FnOk X.prog X.w X.K X.mg X.base CX k f fd ps sp) (hr : Room (k + 1) X.A) (hg : Gl X x) (hm : X.mg x = some (.ref C)) (hb : Binds X.K fd ps ds) (hd : Vals dvs ds) (hx : Passes CX X E)
    (ha : PA X (e :: es) t) (hdb : (x == ("__debug__" : Str)) = false := by decide) (he : starEach (e :: es) X.env = (false, eval e X.env) :: starEach es X.env := by rfl) (hpl : (backTo pos (starEach es X.env)).any (·.1) = false := by rfl) :
    PE X (.Call (.Name x p) (e :: es) [] pos) (tMake C sp dvs E t) := by
  intro pins s σ H Q I h
  refine wpAny_Call_Name_kw (ld_glob I hg hm ?_ hdb)
  refine PySem.W.callWith_K (h₀ := X.base) I.ok.mod.kin M.kp (thn (ha pos pins s σ H _ I h) fun us s1 ⟨vs, H1, I1, r, q⟩ => ⟨I1.kIn, ?_⟩) he hpl
  exact run_make M F hr hb hd hx I1 r q
theorem pe_make0 (M : Mk X.K C f) (F : FnOk X.prog X.w X.K X.mg X.base CX k f fd ps sp) (hr : Room (k + 1) X.A) (hg : Gl X x) (hm : X.mg x = some (.ref C)) (hb : Binds X.K fd ps ds) (hd : Vals dvs ds) (hx : Passes CX X E)
    (hdb : (x == ("__debug__" : Str)) = false := by decide) : PE X (.Call (.Name x p) [] [] pos) (tMake C sp dvs E tNil) := by
  intro pins s σ H Q I h
  refine wpAny_Call_Name_kw (ld_glob I hg hm ?_ hdb)
  exact PySem.W.callWith_K0 I.kIn M.kp (run_make (us := []) M F hr hb hd hx I .nil h)
end
def PK (X : Cx) (kws : List Keyword) (t : TA) : Prop :=
  ∀ (pos : Pos) (pins : List (Addr × Obj)) (s : Shared) (σ : St) (H : Hp) (Q : List V → Hp → Prop), Inv X pins σ H s → t σ H Q → wpAny (model X.prog X.w) X.A (evalAll ((backToKw pos (keywordEach kws X.env)).map (·.2))) (AP X pins σ Q) X.xe s
section
variable {X : Cx} {CX : CXT} {k : Nat} {f C : Addr} {fd : FuncData} {ps ks : List Str} {sp : Sp} {E : XK} {x m : Str} {p pos apos kpos : Pos} {e o : Expr} {es : List Expr} {kws : List Keyword} {te ta : TE} {t tk : TA} {nm : Option Str}
theorem pk_nil : PK X [] tNil := fun _ _ _ _ H Q I h => wpAny_evalAll_nil ⟨[], H, I, .nil, h⟩
theorem pk_cons (ha : PE X e te) (hr : PK X kws t) : PK X (⟨nm, e, kpos⟩ :: kws) (tCons te t) := by
  intro pos pins s σ H Q I h
  show wpAny _ _ (evalAll ((do let v ← eval e X.env; standAt pos; pure v) :: (backToKw pos (keywordEach kws X.env)).map (·.2))) _ _ s
  refine wpAny_evalAll_cons (wpAny_bind (thn (ha pins s σ H _ I h) fun u s1 ⟨x, H1, I1, r1, q1⟩ => wpAny_bind (wpAny_standAt (wpAny_pure ?_))))
  exact thn (hr pos pins s1 σ H1 _ I1 q1) fun us s2 ⟨xs, H2, I2, r2, q2⟩ => ⟨x :: xs, H2, I2, .cons r1 r2, q2⟩
structure KBinds (K : PySem.W.Frag) (fd : FuncData) (ps ks : List Str) (g : List Value → List Value → List Value) (gV : List V → List V → List V) : Prop where
  to : ∀ (s : Shared) (us ws : List Value), K.In s.heap → (g us ws).length = ps.length → BindsTo s fd ⟨us, ks.zip ws⟩ (ps.zip (g us ws))
  rel : ∀ {vs : List V} {us : List Value} {zs : List V} {ws : List Value}, Vals vs us → Vals zs ws → Vals (gV vs zs) (g us ws)
variable {g : List Value → List Value → List Value} {gV : List V → List V → List V}
end
structure FnScope (N P : List Str) (sc : Scope) : Prop where
  kind : sc.kind = .function
  co : sc.isCoroutine = false
  gen : sc.isGenerator = false
  nd : N.Nodup
  pre : N.take P.length = P
  par : ∀ x ∈ P, sc.names.lookup x = some .local ∨ sc.names.lookup x = some .cell
  nofree : ∀ y ∈ sc.names, y.2 ≠ .free
theorem bindL_out {kindOf : Str → Option NameKind} {x : Str} : ∀ {binds : List (Str × Value)} {m : Str → Option Value}, (∀ v, (x, v) ∉ binds) → bindL kindOf binds m x = m x
  | [], _, _ => rfl
  | (n, v) :: r, m, h => by
    unfold bindL
    rw [bindL_out fun w hw => h w (List.mem_cons_of_mem _ hw)]
    split
    · have : x ≠ n := by rintro rfl; exact h v List.mem_cons_self
      simp [this]
    · rfl
theorem bindC_out {kindOf : Str → Option NameKind} {x : Str} : ∀ {binds : List (Str × Value)} {m : Str → Option Value}, (∀ v, (x, v) ∉ binds) → bindC kindOf binds m x = m x
  | [], _, _ => rfl
  | (n, v) :: r, m, h => by
    unfold bindC
    rw [bindC_out fun w hw => h w (List.mem_cons_of_mem _ hw)]
    split
    · rfl
    · have : x ≠ n := by rintro rfl; exact h v List.mem_cons_self
      simp [this]
theorem bindL_get {kindOf : Str → Option NameKind} {x : Str} {v : Value} : ∀ {P : List Str} {vs : List Value} {i : Nat} {m : Str → Option Value}, P.Nodup → P[i]? = some x → vs[i]? = some v → kindOf x = some .local →
    bindL kindOf (P.zip vs) m x = some v
  | [], _, _, _, _, h, _, _ => by simp at h
  | _ :: _, [], _, _, _, _, h, _ => by simp at h
  | p :: P, w :: vs, 0, m, nd, h1, h2, hk => by
    simp at h1 h2; subst h1; subst h2
    show bindL kindOf ((p, w) :: P.zip vs) m p = _
    unfold bindL
    rw [bindL_out fun v hv => (List.nodup_cons.mp nd).1 (List.of_mem_zip hv).1, if_pos hk]
    simp
  | p :: P, w :: vs, i + 1, m, nd, h1, h2, hk => by
    show bindL kindOf ((p, w) :: P.zip vs) m x = _
    unfold bindL
    exact bindL_get (i := i) (List.nodup_cons.mp nd).2 (by simpa using h1) (by simpa using h2) hk
theorem bindC_get {kindOf : Str → Option NameKind} {x : Str} {v : Value} : ∀ {P : List Str} {vs : List Value} {i : Nat} {m : Str → Option Value}, P.Nodup → P[i]? = some x → vs[i]? = some v → kindOf x ≠ some .local →
    bindC kindOf (P.zip vs) m x = some v
  | [], _, _, _, _, h, _, _ => by simp at h
  | _ :: _, [], _, _, _, _, h, _ => by simp at h
  | p :: P, w :: vs, 0, m, nd, h1, h2, hk => by
    simp at h1 h2; subst h1; subst h2
    show bindC kindOf ((p, w) :: P.zip vs) m p = _
    unfold bindC
    rw [bindC_out fun v hv => (List.nodup_cons.mp nd).1 (List.of_mem_zip hv).1, if_neg hk]
    simp
  | p :: P, w :: vs, i + 1, m, nd, h1, h2, hk => by
    show bindC kindOf ((p, w) :: P.zip vs) m x = _
    unfold bindC
    exact bindC_get (i := i) (List.nodup_cons.mp nd).2 (by simpa using h1) (by simpa using h2) hk
def start (N : List Str) (vs : List V) : St := vs.map some ++ List.replicate (N.length - vs.length) none
def cxOf (CX : CXT) (P : Program) (w : World) (K : PySem.W.Frag) (mg : Str → Option Value) (base : Heap) (N : List Str) (qual : Str) (scope : Scope) (f : Addr) (cd : Value) (A : Around) (outer : List Env) (s : Shared) (H : Hp) (E : XK) : Cx where
  prog := P
  w := w
  K := K
  mg := mg
  base := base
  A := A.deeper (envOfC qual scope s.heap.objs.size f cd)
  N := N
  s_0 := s
  H_0 := H
  env := envOfC qual scope s.heap.objs.size f cd
  outer := outer
  stack := envOfC qual scope s.heap.objs.size f cd :: outer
  ex := []
  calm := true
  fn := fun _ => true
  pn := []
  xe := fun e s' => wpAny (model P w) (A.deeper (envOfC qual scope s.heap.objs.size f cd)) (leaving (envOfC qual scope s.heap.objs.size f cd) e) (fun _ s'' => CX outer H s E e s'') (fun e' s'' => CX outer H s E e' s'') s'
theorem cell_has {sc : Scope} {n : Nat} {x : Str} (h : sc.names.lookup x = some .cell) : ∃ c, (cellsFrom n sc.names []).lookup x = some c := by
  have q := PySem.W.cellsFrom_some sc.names n [] (.inl h)
  exact Option.isSome_iff_exists.mp q
theorem inv_start {CX : CXT} {P : Program} {w : World} {K : PySem.W.Frag} {mg : Str → Option Value} {base : Heap} {N ps : List Str} {qual : Str} {scope : Scope} {f : Addr} {cd : Value} {A : Around} {outer : List Env} {s s1 : Shared} {H : Hp} {E : XK} {us : List Value} {vs : List V}
    (S : FnScope N ps scope) (hd : A.handled = none) (e0 : Env0 P w K mg base A outer s H) (hl : vs.length = ps.length) (r : Vals vs us)
    (x : InCallC s s.heap.objs.size (bindL (envOfC qual scope s.heap.objs.size f cd).kindOf (ps.zip us) fun _ => none) (cellsFrom (s.heap.objs.size + 1) scope.names []) (bindC (envOfC qual scope s.heap.objs.size f cd).kindOf (ps.zip us) fun _ => none) s1) :
    Inv (cxOf CX P w K mg base N qual scope f cd A outer s H E) [] (start N vs) H s1 := by
  have hpl : ps.length ≤ N.length := by have := congrArg List.length S.pre; rw [List.length_take] at this; omega
  obtain ⟨h1, tk, rfl, hk⟩ := x.done
  have noA : ∀ b : Addr, b ∉ (cxOf CX P w K mg base N qual scope f cd A outer s H E).ex := fun b z => absurd (show b ∈ ([] : List Addr) from z) (by simp)
  refine ⟨⟨e0.mod, S.kind, rfl, rfl, Nat.le_refl _, fun y z c h1 h2 => ?_, fun y hy => ?_, fun y c _ h => ?_, fun _ => hd, Around.frames_deeper e0.frames, .inr ⟨rfl, rfl⟩, fun b z => absurd z (noA b), e0.bs, e0.bsz, fun b _ _ => noA b, fun b z => absurd z (noA b), e0.funs, e0.frf⟩,
    rfl, e0.bare, Un.kept hk, ⟨_, x.toInCall.ns, fun i y v h1 h2 h3 => ?_⟩, fun y c h => ⟨_, x.cell y c h⟩, e0.hok.fresh (Nat.le_refl _), fun y c h => ?_, fun p hp => absurd (show p ∈ ([] : List (Addr × Obj)) from hp) (by simp), e0.hok.kept hk, ?_⟩
  · exact name_of_addr x.apart (PySem.mem_of_lookup h1) (PySem.mem_of_lookup h2)
  · have hy : scope.names.lookup y = some .cell ∨ scope.names.lookup y = some .free := hy
    rcases hy with hy | hy
    · exact cell_has hy
    · exact absurd rfl (S.nofree _ (PySem.mem_of_lookup hy))
  · exact Nat.le_of_lt (x.above y c (PySem.mem_of_lookup h))
  · have hi : i < vs.length := by
      unfold start at h2
      by_cases hi : i < vs.length
      · exact hi
      · rw [List.getElem?_append_right (by simpa using hi)] at h2
        rw [List.getElem?_replicate] at h2
        split at h2 <;> cases h2
    have ha : vs[i]? = some v := by
      unfold start at h2
      rw [List.getElem?_append_left (by simpa using hi), List.getElem?_map] at h2
      cases e : vs[i]? with
      | none => rw [e] at h2; cases h2
      | some a => rw [e] at h2; cases h2; rfl
    obtain ⟨u, hu, rv⟩ := r.get ha
    have hp : ps[i]? = some y := by
      rw [← S.pre, List.getElem?_take_of_lt (by omega)]; exact h1
    have ndP : ps.Nodup := by rw [← S.pre]; exact S.nd.sublist (List.take_sublist _ _)
    refine ⟨u, rv, ?_⟩
    rcases S.par y (List.mem_of_getElem? hp) with k | k
    · exact .inl ⟨k, bindL_get ndP hp hu k⟩
    · obtain ⟨c, e⟩ := cell_has (n := s.heap.objs.size + 1) k
      refine .inr ⟨.inl k, c, e, ?_⟩
      have q := x.cell y c e
      rw [bindC_get ndP hp hu (by show scope.names.lookup y ≠ _; rw [k]; decide)] at q
      exact q
  · exact e0.hok.fresh (Nat.le_of_lt (x.above y c (PySem.mem_of_lookup h)))
  · unfold start
    show _ = N.length
    rw [List.length_append, List.length_map, List.length_replicate]
    omega
theorem fn_of {CX : CXT} {P : Program} {w : World} {K : PySem.W.Frag} {mg : Str → Option Value} {base : Heap} {k : Nat} {f : Addr} {name qual : Str} {params : Arguments} {body : List Stmt} {scope : Scope} {dV kV doc pm cdv ct oc : Value} {an od : Option Addr}
    {osl : Array (Option Value)} {N ps : List Str} {sp : Sp} (lk : K.lookup f = some ⟨oc, od, .func (PySem.W.fnOf name qual params body scope dV kV doc pm an cdv ct), osl⟩) (hcd : PySem.W.codeIn K cdv qual = true) (S : FnScope N ps scope)
    (len : ∀ vs H Q E, sp vs H Q E → vs.length = ps.length)
    (hbody : ∀ (A : Around) (outer : List Env) (s : Shared) (H : Hp) (vs : List V) (Q : VK) (E : XK), Room k (A.deeper (envOfC qual scope s.heap.objs.size f cdv)) → sp vs H Q E →
      ∃ t, PSs (cxOf CX P w K mg base N qual scope f cdv A outer s H E) body t ∧ t { nx := fun _ H' => Q .non H', rt := Q } (start N vs) H) :
    FnOk P w K mg base CX (k + 1) f (PySem.W.fnOf name qual params body scope dV kV doc pm an cdv ct) ps sp := by
  refine ⟨len, fun A outer s H args us vs Q E hr e0 hb r hsp => ?_⟩
  have hl := len _ _ _ _ hsp
  have KX : K.In s.heap := e0.mod.kin.keeps fun b o e => (e0.bs b o e).1
  have lim : s.heap.NoLimit := e0.mod.nolimit.keeps fun b o e => (e0.bs b o e).1
  have hkind : ∀ y ∈ ps.zip us, scope.names.lookup y.1 = some .local ∨ (scope.names.lookup y.1 = some .cell ∧ ((cellsFrom (s.heap.objs.size + 1) scope.names []).lookup y.1).isSome = true) := fun ⟨n, v⟩ hy => by
    rcases S.par n (List.of_mem_zip hy).1 with q | q
    · exact .inl q
    · exact .inr ⟨q, PySem.W.cellsFrom_some _ _ _ (.inl q)⟩
  refine codeAny_call_function hr.depth (KX _ _ lk) rfl S.co S.gen rfl (PySem.W.codeRec_of KX hcd) (hb _ _ _ _ ?_)
  refine wpAny_newFunctionEnv_cells S.kind hkind fun env he s1 x => ?_
  subst he
  refine ⟨lim.keeps x.toInCall.keep, codeAny_func ?_⟩
  obtain ⟨t, ht, hq⟩ := hbody A outer s H vs Q E (hr.deeper _) hsp
  have I : Inv (cxOf CX P w K mg base N qual scope f cdv A outer s H E) [] (start N vs) H s1 := inv_start S hr.hd e0 hl r x
  refine wpAny_mono (ht [] s1 (start N vs) H _ I hq) (fun fl s' hs => ?_) fun e s' hs => hs
  have fin : ∀ {σ' : St} {H' : Hp} {v : V} {u : Value}, Inv (cxOf CX P w K mg base N qual scope f cdv A outer s H E) [] σ' H' s' → RelV v u → Q v H' → CE outer P w H s Q u s' :=
    fun {σ' H' v u} J rv q => ⟨v, H', J.os, J.bare, J.base, J.hok, rv, q⟩
  cases fl with
  | ret u =>
    obtain ⟨v, σ', H', J, rv, q⟩ := hs
    exact fin J rv q
  | next =>
    obtain ⟨σ', H', J, q⟩ := hs
    exact fin (v := V.non) (u := Value.none) J rfl q
  | brk =>
    obtain ⟨_, _, _, q⟩ := hs
    exact False.elim q
  | cont =>
    obtain ⟨_, _, _, q⟩ := hs
    exact False.elim q
end L2
namespace L2
open PySem PySem.Spec PyProof.Rows
section
variable {X : Cx} {x : Str} {p pos : Pos} {e : Expr} {es : List Expr} {t : TA} {id T : String} {r : List V → Hp → VK → Prop}
def tCB (r : List V → Hp → VK → Prop) (t : TA) : TE := fun σ H Q => t σ H fun vs H1 => r vs H1 Q
theorem pe_callB (hc : CallR X (.builtin id) r) (hg : Gl X x) (hm : X.mg x = none) (hv : bootBuiltins x = some (.builtin id)) (ha : PA X (e :: es) t) (hn : x ≠ "__name__" := by decide) (hdb : (x == ("__debug__" : Str)) = false := by decide)
    (he : starEach (e :: es) X.env = (false, eval e X.env) :: starEach es X.env := by rfl) (hpl : (backTo pos (starEach es X.env)).any (·.1) = false := by rfl) : PE X (.Call (.Name x p) (e :: es) [] pos) (tCB r t) := by
  intro pins s σ H Q I h
  refine wpAny_Call_Name_kw (ld_blt I hg hm hv ?_ hn hdb)
  exact PyProof.Rows.callWith_builtin1 (thn (ha pos pins s σ H _ I h) fun us s1 ⟨vs, H1, I1, r1, q1⟩ => hc pins s1 σ H1 vs us Q I1 r1 q1) he hpl
theorem pe_callTy (hc : CallR X (.type T) r) (hg : Gl X x) (hm : X.mg x = none) (hv : bootBuiltins x = some (.type T)) (ha : PA X (e :: es) t) (hn : x ≠ "__name__" := by decide) (hdb : (x == ("__debug__" : Str)) = false := by decide)
    (he : starEach (e :: es) X.env = (false, eval e X.env) :: starEach es X.env := by rfl) (hpl : (backTo pos (starEach es X.env)).any (·.1) = false := by rfl) : PE X (.Call (.Name x p) (e :: es) [] pos) (tCB r t) := by
  intro pins s σ H Q I h
  refine wpAny_Call_Name_kw (ld_blt I hg hm hv ?_ hn hdb)
  exact PyProof.Rows.callWith_type1 (thn (ha pos pins s σ H _ I h) fun us s1 ⟨vs, H1, I1, r1, q1⟩ => hc pins s1 σ H1 vs us Q I1 r1 q1) he hpl
end
end L2
namespace HT
open PySem PyProof.Rows
section
open PySem.SeqAt
open PySem.AutoSeq1 (wpAny_loadPart')
open PySem.MeetsSeq PySem.MeetsSeq2 PySem.MeetsSeq3
end
section
variable {prog : Program} {w : World} {A : Around} {E : Value → Shared → Prop} {s : Shared}
def sIx (n d : Nat) : Option Int → Nat
  | none => d
  | some v => if v < 0 then (v + (n : Int)).toNat else min v.toNat n
theorem sIx_none (n d : Nat) : sIx n d none = d := rfl
theorem sIx_nat (n d k : Nat) : sIx n d (some (k : Int)) = min k n := by
  show (if (k : Int) < 0 then ((k : Int) + (n : Int)).toNat else min (k : Int).toNat n) = min k n
  rw [if_neg (by omega), Int.toNat_natCast]
end
end HT
namespace L2
open PySem PySem.Spec PyProof.Rows
abbrev TO := St → Hp → (Option Int → Hp → Prop) → Prop
def PO (X : Cx) (e : Option Expr) (t : TO) : Prop :=
  ∀ (pins : List (Addr × Obj)) (s : Shared) (σ : St) (H : Hp) (Q : Option Int → Hp → Prop), Inv X pins σ H s → t σ H Q →
    wpAny (model X.prog X.w) X.A (evalPart e X.env) (fun u s' => ∃ o H', Inv X pins σ H' s' ∧ IsPart u o ∧ Q o H') X.xe s
def tNoPart : TO := fun _ H Q => Q none H
def tPart (t : TE) : TO := fun σ H Q => t σ H fun x H1 => ∃ i, x = .int i ∧ Q (some i) H1
section
variable {X : Cx} {e : Expr} {te : TE} {lo hi : Option Expr} {tl th : TO} {pos p2 : Pos}
theorem po_none : PO X none tNoPart := by
  intro pins s σ H Q I h
  rw [evalPart_none]
  exact wpAny_pure ⟨none, H, I, .none, h⟩
theorem po_some (h : PE X e te) : PO X (some e) (tPart te) := by
  intro pins s σ H Q I hw
  rw [evalPart_some]
  refine thn (h pins s σ H _ I hw) fun u s1 ⟨x, H1, I1, r1, q1⟩ => ?_
  obtain ⟨i, rfl, q⟩ := q1
  obtain ⟨t, rfl⟩ := r1
  exact ⟨some i, H1, I1, .int i t, q⟩
def SlR (X : Cx) (r : V → Option Int → Option Int → Hp → VK → Prop) : Prop :=
  ∀ (pins : List (Addr × Obj)) (s : Shared) (σ : St) (H : Hp) (x : V) (v vl vu : Value) (lo hi : Option Int) (sl : Addr) (Q : VK), Inv X pins σ H s → RelV x v → s.heap.IsSliceOf sl vl vu .none → IsPart vl lo → IsPart vu hi → r x lo hi H Q →
    ∃ T id, typeLookup (.type T) "__getitem__" = pure (some (.builtin id)) ∧ s.TypeIs v T ∧ wpAny (model X.prog X.w) X.A (getItem v (.ref sl)) (EP X pins σ Q) X.xe s
theorem SlR.or {r r' : V → Option Int → Option Int → Hp → VK → Prop} (h : SlR X r) (h' : SlR X r') : SlR X (fun x lo hi H Q => r x lo hi H Q ∨ r' x lo hi H Q) := by
  intro pins s σ H x v vl vu lo hi sl Q I rx hs pl pu q
  rcases q with q | q
  · exact h pins s σ H x v vl vu lo hi sl Q I rx hs pl pu q
  · exact h' pins s σ H x v vl vu lo hi sl Q I rx hs pl pu q
def tSl (r : V → Option Int → Option Int → Hp → VK → Prop) (te : TE) (tl th : TO) : TE := fun σ H Q => te σ H fun x H1 => tl σ H1 fun l H2 => th σ H2 fun u H3 => r x l u H3 Q
theorem pe_slice {r : V → Option Int → Option Int → Hp → VK → Prop} (hr : SlR X r) (he : PE X e te) (hl : PO X lo tl) (hu : PO X hi th) : PE X (.Subscript e (.Slice lo hi none p2) pos) (tSl r te tl th) := by
  intro pins s σ H Q I h
  refine Subscript_ (thn (he pins s σ H _ I h) fun v s1 ⟨x, H1, I1, r1, q1⟩ => ?_)
  refine wpAny_Slice (thn (hl pins s1 σ H1 _ I1 q1) fun vl s2 ⟨l, H2, I2, pl, q2⟩ => thn (hu pins s2 σ H2 _ I2 q2) fun vu s3 ⟨u, H3, I3, pu, q3⟩ => ?_)
  rw [evalPart_none]
  refine wpAny_pure ?_
  have I4 : Inv X pins σ H3 { s3 with heap := s3.heap.push { cls := .type "slice", data := .fields #[vl, vu, .none] } } := I3.kept (t' := s3.toks) fun b ob q => Heap.get?_push_of_some _ q
  obtain ⟨T, id, hT, ht, hg⟩ := hr pins { s3 with heap := s3.heap.push { cls := .type "slice", data := .fields #[vl, vu, .none] } } σ H3 x v vl vu l u s3.heap.objs.size Q I4 r1 (Heap.IsSliceOf.new ..) pl pu q3
  show wpAny (model X.prog X.w) X.A (subscriptTail e (.Slice lo hi none p2) v (.ref s3.heap.objs.size)) (EP X pins σ Q) X.xe { s3 with heap := s3.heap.push { cls := .type "slice", data := .fields #[vl, vu, .none] } }
  exact tail_any (ops := [.ref s3.heap.objs.size, v]) ht hT hg (by with_unfolding_all rfl)
def cutV (xs : List V) (lo hi : Option Int) : List V := (xs.drop (HT.sIx xs.length 0 lo)).take (HT.sIx xs.length xs.length hi - HT.sIx xs.length 0 lo)
theorem cutV_length (xs : List V) (lo hi : Option Int) : (cutV xs lo hi).length ≤ xs.length := by
  unfold cutV
  rw [List.length_take, List.length_drop]
  omega
end
end L2
namespace L2
open PySem PySem.Spec PyProof.Rows
def ixN (n : Nat) (i : Int) : Option Nat := if 0 ≤ i then (if i < n then some i.toNat else none) else if -(n : Int) ≤ i then some (i + n).toNat else none
def atI {α : Type} (xs : List α) (i : Int) : Option α := (ixN xs.length i).bind fun j => xs[j]?
theorem ixN_seq {n : Nat} {i : Int} {j : Nat} (h : ixN n i = some j) : seqIndex? i n = some j ∧ j < n ∧ -(n : Int) ≤ i ∧ i < n := by
  unfold ixN at h
  by_cases h0 : 0 ≤ i
  · rw [if_pos h0] at h
    by_cases h1 : i < n
    · rw [if_pos h1] at h
      have e : i.toNat = j := Option.some.inj h
      exact ⟨by rw [seqIndex_of h0 h1, e], by omega, by omega, h1⟩
    · rw [if_neg h1] at h; cases h
  · rw [if_neg h0] at h
    by_cases h1 : -(n : Int) ≤ i
    · rw [if_pos h1] at h
      have e : (i + n).toNat = j := Option.some.inj h
      exact ⟨by rw [seqIndex_neg (by omega) h1, e], by omega, h1, by omega⟩
    · rw [if_neg h1] at h; cases h
theorem atI_get {α : Type} {xs : List α} {i : Int} {v : α} (h : atI xs i = some v) : ∃ j, seqIndex? i xs.length = some j ∧ xs[j]? = some v ∧ j < xs.length ∧ -(xs.length : Int) ≤ i ∧ i < xs.length := by
  unfold atI at h
  cases e : ixN xs.length i with
  | none => rw [e] at h; cases h
  | some j =>
    rw [e] at h
    obtain ⟨h1, h2, h3, h4⟩ := ixN_seq e
    exact ⟨j, h1, h, h2, h3, h4⟩
theorem atI_nat {α : Type} {xs : List α} {j : Nat} {v : α} (h : xs[j]? = some v) : atI xs (j : Int) = some v := by
  have hj : j < xs.length := (List.getElem?_eq_some_iff.mp h).1
  have e : ixN xs.length (j : Int) = some j := by
    unfold ixN
    rw [if_pos (by omega), if_pos (by omega)]; simp
  unfold atI; rw [e]; exact h
theorem atI_last {α : Type} (xs : List α) (v : α) : atI (xs ++ [v]) (-1) = some v := by
  have hl : (xs ++ [v]).length = xs.length + 1 := by simp
  have e : ixN (xs ++ [v]).length (-1) = some xs.length := by
    unfold ixN
    rw [hl, if_neg (by decide), if_pos (by omega)]
    congr 1
    omega
  unfold atI
  rw [e]
  show (xs ++ [v])[xs.length]? = some v
  simp
def PlainIx (b : Expr) : Prop := ∀ o i, subscripted b false o i = operate [o, i] (getItem o i)
def IxR (X : Cx) (r : R2) : Prop :=
  ∀ (value slice : Expr) (pins : List (Addr × Obj)) (s : Shared) (σ : St) (H : Hp) (x y : V) (v u : Value) (Q : VK), Inv X pins σ H s → RelV x v → RelV y u → r x y H Q →
    subscripted slice false v u = operate [v, u] (getItem v u) → wpAny (model X.prog X.w) X.A (subscriptTail value slice v u) (EP X pins σ Q) X.xe s
def MtR (X : Cx) (id : String) (r : V → List V → Hp → VK → Prop) : Prop :=
  ∀ (pins : List (Addr × Obj)) (s : Shared) (σ : St) (H : Hp) (x : V) (xs : List V) (v : Value) (us : List Value) (Q : VK), Inv X pins σ H s → RelV x v → Vals xs us → r x xs H Q →
    wpAny (model X.prog X.w) X.A (call (.builtin id) (v :: us)) (EP X pins σ Q) X.xe s
section
variable {X : Cx} {a b : Expr} {ta tb : TE} {pos : Pos}
theorem IxR.or {r r' : R2} (h : IxR X r) (h' : IxR X r') : IxR X (fun x y H Q => r x y H Q ∨ r' x y H Q) := by
  intro value slice pins s σ H x y v u Q I rx ry q hs
  rcases q with q | q
  · exact h value slice pins s σ H x y v u Q I rx ry q hs
  · exact h' value slice pins s σ H x y v u Q I rx ry q hs
theorem MtR.or {id : String} {r r' : V → List V → Hp → VK → Prop} (h : MtR X id r) (h' : MtR X id r') : MtR X id (fun x xs H Q => r x xs H Q ∨ r' x xs H Q) := by
  intro pins s σ H x xs v us Q I rx rs q
  rcases q with q | q
  · exact h pins s σ H x xs v us Q I rx rs q
  · exact h' pins s σ H x xs v us Q I rx rs q
theorem pe_ix {r : R2} (hr : IxR X r) (ha : PE X a ta) (hb : PE X b tb) (hs : PlainIx b) : PE X (.Subscript a b pos) (tOp r ta tb) := by
  intro pins s σ H Q I h
  exact Subscript_ (binT ha hb I h fun v u s2 x y H2 I2 rx ry q => hr a b pins s2 σ H2 x y v u Q I2 rx ry q (hs _ _))
def rIxL (K : PySem.W.Frag) : R2 := fun x y H Q => ∃ p xs i v, x = .ref p ∧ y = .int i ∧ SqL K H p xs ∧ atI xs i = some v ∧ Q v H
def rIxT (K : PySem.W.Frag) : R2 := fun x y H Q => ∃ p xs i v, x = .ref p ∧ y = .int i ∧ SqT K H p xs ∧ atI xs i = some v ∧ Q v H
theorem ix_list : IxR X (rIxL X.K) := by
  intro value slice pins s σ H x y v u Q I rx ry h hs
  obtain ⟨p, xs, i, z, rfl, rfl, hq, he, q⟩ := h
  cases rx
  obtain ⟨t, rfl⟩ := ry
  obtain ⟨its, r, pl, hz⟩ := I.list hq
  obtain ⟨j, h1, h2, h3, h4, h5⟩ := atI_get he
  obtain ⟨w, ew, rw'⟩ := r.get h2
  have hl := r.length
  have hn := line63
  have fin : EP X pins σ Q w s := ⟨z, H, I, rw', q⟩
  by_cases h0 : 0 ≤ i
  · have hj : i.toNat = j := by
      rw [seqIndex_of h0 h5] at h1
      exact Option.some.inj h1
    exact item_listR pl.isList h0 (by omega) (by rw [hj]; simpa using ew) fin hs
  · have hj : (i + (its.toArray.size : Int)).toNat = j := by
      rw [seqIndex_neg (by omega) h4] at h1
      rw [List.size_toArray, ← hl]
      exact Option.some.inj h1
    exact subscriptTail_builtinR (x := w) pl.isList.typeIs slot_list_getitem.lookup
      (wpAny_getItem_list_neg (Q := fun r s' => r = w ∧ EP X pins σ Q r s') pl.isList (by omega) (by rw [List.size_toArray] <;> omega) (by omega) (by rw [hj]; simpa using ew) ⟨rfl, fin⟩) hs
theorem ix_tup : IxR X (rIxT X.K) := by
  intro value slice pins s σ H x y v u Q I rx ry h hs
  obtain ⟨p, xs, i, z, rfl, rfl, hq, he, q⟩ := h
  cases rx
  obtain ⟨t, rfl⟩ := ry
  obtain ⟨its, r, pl, hz⟩ := I.tuple hq
  obtain ⟨j, h1, h2, h3, h4, h5⟩ := atI_get he
  obtain ⟨w, ew, rw'⟩ := r.get h2
  have hl := r.length
  have hn := line63
  have fin : EP X pins σ Q w s := ⟨z, H, I, rw', q⟩
  exact subscriptTail_builtinR (x := w) pl.typeIs slot_tuple_getitem.lookup
    (getItem_tuple (j := j) (Q := fun r s' => r = w ∧ EP X pins σ Q r s') pl (by omega) (by omega) (by rw [List.size_toArray, ← hl]; exact h1) (by simpa using ew) ⟨rfl, fin⟩) hs
theorem mapSeq_set (its : List Value) (n j : Nat) (u : Value) : Obj.mapSeq (·.setIfInBounds j u) { cls := .type "list", data := .seq its.toArray n } = { cls := .type "list", data := .seq (its.set j u).toArray n } := by
  simp [Obj.mapSeq]
theorem Inv.lst {pins : List (Addr × Obj)} {σ : St} {H : Hp} {s : Shared} {p : Addr} {xs : List V} (I : Inv X pins σ H s) (h : H p = some (.lst xs)) :
    ∃ (its : List Value) (n : Nat), Vals xs its ∧ s.heap.get? p = some { cls := .type "list", data := .seq its.toArray n } ∧ xs.length ≤ sizeLine := by
  obtain ⟨z, its, n, r, e⟩ := I.hok p _ h
  exact ⟨its, n, r, e, z⟩
theorem Inv.lstUpd {pins : List (Addr × Obj)} {σ : St} {H : Hp} {s : Shared} {p : Addr} {xs ys : List V} {its its' : List Value} {n n' : Nat} {f : Obj → Obj} (I : Inv X pins σ H s) (h : H p = some (.lst xs))
    (ho : s.heap.get? p = some { cls := .type "list", data := .seq its.toArray n }) (hf : f { cls := .type "list", data := .seq its.toArray n } = { cls := .type "list", data := .seq its'.toArray n' }) (r : Vals ys its') (hz : ys.length ≤ sizeLine) (t : Nat) :
    Inv X pins σ (upd H p (.lst ys)) { s with heap := s.heap.update p f, toks := t } := by
  have e : (s.heap.update p f).get? p = some { cls := .type "list", data := .seq its'.toArray n' } := by
    rw [Heap.get?_update_self f ho (by rw [hf] <;> rfl), hf]
  refine I.write (x := p) (e := p) (by rw [h]; trivial) (.inl rfl) (fun b u hb q => (Heap.get?_update_other _ _ (Ne.symm hb)).trans q) ⟨_, e⟩ ?_
  exact ⟨hz, its', n', r, e⟩
def rSetL : V → V → V → Hp → (Hp → Prop) → Prop := fun o i v H Q => ∃ p xs k j, o = .ref p ∧ i = .int k ∧ H p = some (.lst xs) ∧ ixN xs.length k = some j ∧ Q (upd H p (.lst (xs.set j v)))
theorem set_list : PSet X rSetL := by
  intro pins s σ H o i v ov iv u Q I ro ri rv h
  obtain ⟨p, xs, k, j, rfl, rfl, hp, hj, q⟩ := h
  cases ro
  obtain ⟨t, rfl⟩ := ri
  obtain ⟨its, n, r, ho, hz⟩ := I.lst hp
  obtain ⟨h1, h2, h3, h4⟩ := ixN_seq hj
  have hl := r.length
  have hn := line63
  have I' : Inv X pins σ (upd H p (.lst (xs.set j v))) { s with heap := s.heap.update p (Obj.mapSeq (·.setIfInBounds j u)) } :=
    I.lstUpd hp ho (mapSeq_set its n j u) (r.set rv j) (by rw [List.length_set]; exact hz) s.toks
  by_cases h0 : 0 ≤ k
  · have hk : k.toNat = j := by
      rw [seqIndex_of h0 h4] at h1
      exact Option.some.inj h1
    exact PySem.W.ki_setAt ho h0 (by omega) (by rw [List.size_toArray, ← hl]; exact h4) (by rw [hk]; exact ⟨_, I', q⟩)
  · have hk : (k + (its.toArray.size : Int)).toNat = j := by
      rw [seqIndex_neg (by omega) h3] at h1
      rw [List.size_toArray, ← hl]
      exact Option.some.inj h1
    exact PySem.W.ki_setBack ho (by omega) (by rw [List.size_toArray, ← hl]; exact h3) (by omega) (by rw [hk]; exact ⟨_, I', q⟩)
theorem slice_bounds (lo hi : Option Int) (n : Nat) : (sliceBounds lo hi none n).1 = ((HT.sIx n 0 lo : Nat) : Int) ∧ (sliceBounds lo hi none n).2.1 = ((HT.sIx n n hi : Nat) : Int) ∧ (sliceBounds lo hi none n).2.2 = 1 := by
  refine ⟨?_, ?_, rfl⟩
  · cases lo with
    | none => simp [sliceBounds, HT.sIx]
    | some i =>
      simp only [sliceBounds, HT.sIx, Option.getD_none, show (1 : Int) > 0 by decide, if_true]
      by_cases h : i < 0
      · simp only [h, if_true] <;> omega
      · simp only [h, if_false] <;> omega
  · cases hi with
    | none => simp [sliceBounds, HT.sIx]
    | some i =>
      simp only [sliceBounds, HT.sIx, Option.getD_none, show (1 : Int) > 0 by decide, if_true]
      by_cases h : i < 0
      · simp only [h, if_true] <;> omega
      · simp only [h, if_false] <;> omega
theorem slicePick_cut (its : List Value) (lo hi : Option Int) : slicePick its.toArray lo hi none = ((its.drop (HT.sIx its.length 0 lo)).take (HT.sIx its.length its.length hi - HT.sIx its.length 0 lo)).toArray := by
  obtain ⟨h1, h2, h3⟩ := slice_bounds lo hi its.toArray.size
  unfold slicePick
  rw [h1, h2, h3]
  simp only [sliceRange_one, pick_run, List.size_toArray] <;> rfl
def rSlL (K : PySem.W.Frag) : V → Option Int → Option Int → Hp → VK → Prop := fun x lo hi H Q => ∃ a xs, x = .ref a ∧ SqL K H a xs ∧ ∀ p, H p = none → Q (.ref p) (upd H p (.lst (cutV xs lo hi)))
theorem sl_list : SlR X (rSlL X.K) := by
  intro pins s σ H x v vl vu lo hi sl Q I rx hs pl pu h
  obtain ⟨a, xs, rfl, hx, q⟩ := h
  cases rx
  obtain ⟨its, r, ht, hz⟩ := I.list hx
  have hlen := r.length
  refine ⟨"list", _, slot_list_getitem.lookup, ht.isList.typeIs, ?_⟩
  refine wpAny_getItem_list_slice ht.isList hs pl pu .none (by simp) ?_ (by rw [List.size_toArray] <;> omega)
  rw [slicePick_cut, ← hlen]
  refine ⟨.ref s.heap.objs.size, _, I.laid (t' := s.toks) (o := .lst (cutV xs lo hi)) (fun b ob q => Heap.get?_push_of_some _ q) (Nat.le_refl _) ?_, rfl, q _ (I.hok.fresh (Nat.le_refl _))⟩
  exact ⟨Nat.le_trans (cutV_length xs lo hi) hz, _, 0, (r.drop (HT.sIx xs.length 0 lo)).take (HT.sIx xs.length xs.length hi - HT.sIx xs.length 0 lo), Heap.get?_push_size _ rfl⟩
def flatV : V → Bool
  | .non => true
  | .bl _ => true
  | .int _ => true
  | .str _ => true
  | _ => false
def eqV : V → V → Bool
  | .non, .non => true
  | .bl a, .bl b => a == b
  | .bl a, .int b => (if a then 1 else 0) == b
  | .int a, .bl b => a == (if b then 1 else 0)
  | .int a, .int b => a == b
  | .str a, .str b => a == b
  | _, _ => false
theorem eqAt_V {A : Around} {s : Shared} {y x : V} {u v : Value} (ry : RelV y u) (rx : RelV x v) (fy : flatV y = true) (fx : flatV x = true) : SeqAt.EqAt A s u v (eqV y x) := by
  cases y with
  | non =>
    cases ry
    cases x with
    | non => cases rx; exact SeqAt.EqAt.same _
    | bl b => cases rx; exact SeqAt.EqAt.none_bool b
    | int b => obtain ⟨t, rfl⟩ := rx; exact SeqAt.EqAt.none_int b t
    | str b => obtain ⟨t, rfl⟩ := rx; exact SeqAt.EqAt.none_str b t
    | _ => exact absurd (show false = true from fx) Bool.false_ne_true
  | bl a =>
    cases ry
    cases x with
    | non => cases rx; exact SeqAt.EqAt.bool_none a
    | bl b => cases rx; exact SeqAt.EqAt.bool_bool a b
    | int b => obtain ⟨t, rfl⟩ := rx; exact SeqAt.EqAt.bool_int a b t
    | str b => obtain ⟨t, rfl⟩ := rx; exact SeqAt.EqAt.bool_str a b t
    | _ => exact absurd (show false = true from fx) Bool.false_ne_true
  | int a =>
    obtain ⟨t', rfl⟩ := ry
    cases x with
    | non => cases rx; exact SeqAt.EqAt.int_none a t'
    | bl b => cases rx; exact SeqAt.EqAt.int_bool a t' b
    | int b => obtain ⟨t, rfl⟩ := rx; exact SeqAt.EqAt.int_int a t' b t
    | str b => obtain ⟨t, rfl⟩ := rx; exact SeqAt.EqAt.int_str a t' b t
    | _ => exact absurd (show false = true from fx) Bool.false_ne_true
  | str a =>
    obtain ⟨t', rfl⟩ := ry
    cases x with
    | non => cases rx; exact SeqAt.EqAt.str_none a t'
    | bl b => cases rx; exact SeqAt.EqAt.str_bool a t' b
    | int b => obtain ⟨t, rfl⟩ := rx; exact SeqAt.EqAt.str_int a t' b t
    | str b => obtain ⟨t, rfl⟩ := rx; exact SeqAt.EqAt.str_str a t' b t
    | _ => exact absurd (show false = true from fx) Bool.false_ne_true
  | _ => exact absurd (show false = true from fy) Bool.false_ne_true
def eqU (x : V) (u : Value) : Bool := match u with
  | .none => eqV .non x
  | .bool b => eqV (.bl b) x
  | .int i _ => eqV (.int i) x
  | .str z _ => eqV (.str z) x
  | _ => false
theorem eqU_of {x y : V} {u : Value} (r : RelV y u) (f : flatV y = true) : eqU x u = eqV y x := by
  cases y with
  | non => cases r; rfl
  | bl b => cases r; rfl
  | int i => obtain ⟨t, rfl⟩ := r; rfl
  | str z => obtain ⟨t, rfl⟩ := r; rfl
  | _ => exact absurd (show false = true from f) Bool.false_ne_true
theorem any_eqU {x : V} : ∀ {xs : List V} {us : List Value}, Vals xs us → xs.all flatV = true → us.any (eqU x) = xs.any fun y => eqV y x
  | _, _, .nil, _ => rfl
  | y :: xs, u :: us, .cons r t, f => by
    rw [List.all_cons, Bool.and_eq_true] at f
    rw [List.any_cons, List.any_cons, eqU_of r f.1, any_eqU t f.2]
theorem mem_eqAt {A : Around} {s : Shared} {x : V} {v : Value} (rx : RelV x v) (fx : flatV x = true) : ∀ {xs : List V} {us : List Value}, Vals xs us → xs.all flatV = true → ∀ u ∈ us, SeqAt.EqAt A s u v (eqU x u)
  | _, _, .nil, _ => fun u hu => by cases hu
  | y :: xs, u :: us, .cons r t, f => fun u' hu => by
    rw [List.all_cons, Bool.and_eq_true] at f
    rcases List.mem_cons.mp hu with rfl | hu
    · rw [eqU_of r f.1]; exact eqAt_V r rx f.1 fx
    · exact mem_eqAt rx fx t f.2 u' hu
def inV (x : V) (xs : List V) : Bool := xs.any fun y => eqV y x
def rIn (K : PySem.W.Frag) (neg : Bool) : R2 := fun x y H Q => ∃ p xs, y = .ref p ∧ (SqL K H p xs ∨ SqT K H p xs) ∧ flatV x = true ∧ xs.all flatV = true ∧ Q (.bl (if neg then !inV x xs else inV x xs)) H
theorem op_in_seq : OpR X (compareOp .In) (rIn X.K false) := by
  intro pins s σ H x y v u Q I rx ry h
  obtain ⟨p, xs, rfl, hq, fx, fs, q⟩ := h
  cases ry
  rcases hq with hq | hq
  · obtain ⟨its, r, pl, hz⟩ := I.list hq
    refine SeqAt.in_listAt (eqU x) pl.isList (fun w hw => mem_eqAt rx fx r fs w (by simpa using hw)) ⟨.bl _, H, I, rfl, ?_⟩
    rw [show its.toArray.any (eqU x) = its.any (eqU x) by simp, any_eqU r fs]
    exact q
  · obtain ⟨its, r, pl, hz⟩ := I.tuple hq
    refine SeqAt.in_tupleAt (eqU x) pl (fun w hw => mem_eqAt rx fx r fs w (by simpa using hw)) ⟨.bl _, H, I, rfl, ?_⟩
    rw [show its.toArray.any (eqU x) = its.any (eqU x) by simp, any_eqU r fs]
    exact q
theorem call_len_seq : CallR X (.builtin "len") (fun xs H Q => ∃ p ys, xs = [.ref p] ∧ (SqL X.K H p ys ∨ SqT X.K H p ys) ∧ Q (.int ys.length) H) := by
  intro pins s σ H xs us Q I r h
  obtain ⟨p, ys, rfl, hq, q⟩ := h
  obtain ⟨u, rfl, rx⟩ := vals1 r
  cases rx
  have hn := line63
  rcases hq with hq | hq
  · obtain ⟨its, r', pl, hz⟩ := I.list hq
    have hlen := r'.length
    exact Calls.call_len_list pl.isList (by simp only [List.size_toArray] <;> omega) ⟨.int ys.length, H, I.tok _, ⟨s.toks + 1, by rw [List.size_toArray, hlen]⟩, q⟩
  · obtain ⟨its, r', pl, hz⟩ := I.tuple hq
    have hlen := r'.length
    exact len_tuple pl (by simp only [List.size_toArray] <;> omega) ⟨.int ys.length, H, I.tok _, ⟨s.toks + 1, by rw [List.size_toArray, hlen]⟩, q⟩
theorem CallR.or {f : Value} {r r' : List V → Hp → VK → Prop} (h : CallR X f r) (h' : CallR X f r') : CallR X f (fun xs H Q => r xs H Q ∨ r' xs H Q) := by
  intro pins s σ H xs us Q I rs q
  rcases q with q | q
  · exact h pins s σ H xs us Q I rs q
  · exact h' pins s σ H xs us Q I rs q
theorem call_list_of : CallR X (.type "list") (fun xs H Q => ∃ p ys, xs = [.ref p] ∧ (SqL X.K H p ys ∨ SqT X.K H p ys) ∧ ∀ l, H l = none → Q (.ref l) (upd H l (.lst ys))) := by
  intro pins s σ H xs us Q I r h
  obtain ⟨p, ys, rfl, hq, q⟩ := h
  obtain ⟨u, rfl, rx⟩ := vals1 r
  cases rx
  have fin : ∀ (its : List Value), Vals ys its → ys.length ≤ sizeLine → ∀ (h' : Heap) (c' : Nat), (∀ b o', s.heap.get? b = some o' → h'.get? b = some o') →
      h'.get? s.heap.objs.size = some { cls := .type "list", dict := none, data := .seq its.toArray c', slots := #[] } → EP X pins σ Q (.ref s.heap.objs.size) { s with heap := h' } := fun its r' hz h' c' kp e =>
    ⟨.ref s.heap.objs.size, _, I.laid (t' := s.toks) kp (Nat.le_refl _) (show ObjOk X.prog X.w _ h' _ (.lst ys) from ⟨hz, its, c', r', e⟩), rfl, q _ (I.hok.fresh (Nat.le_refl _))⟩
  rcases hq with hq | hq
  · obtain ⟨its, r', pl, hz⟩ := I.list hq
    have hlen := r'.length
    obtain ⟨o, ho, hc, n, hd⟩ := pl.isList
    exact call_list_seq p (.inl rfl) ho hc hd (fun h' c' kp e => fin its r' hz h' c' kp e) (by simp only [List.size_toArray] <;> omega)
  · obtain ⟨its, r', pl, hz⟩ := I.tuple hq
    have hlen := r'.length
    obtain ⟨o, ho, hc, n, hd⟩ := pl
    exact call_list_seq p (.inr rfl) ho hc hd (fun h' c' kp e => fin its r' hz h' c' kp e) (by simp only [List.size_toArray] <;> omega)
def tyV (K : PySem.W.Frag) (T : String) (x : V) (H : Hp) : Prop := match x with
  | .str _ => T = "str"
  | .int _ => T = "int"
  | .ref p => (T = "list" ∧ ∃ xs, SqL K H p xs) ∨ (T = "tuple" ∧ ∃ o, K.lookup p = some o ∧ o.cls = .type "tuple" ∧ o.dict = none) ∨
      (T = "dict" ∧ ((∃ kvs, H p = some (.dK kvs)) ∨ ∃ kvs, H p = some (.dT kvs))) ∨ (T = "set" ∧ ∃ S n, H p = some (.set S n))
  | _ => False
theorem tyV_is {pins : List (Addr × Obj)} {σ : St} {H : Hp} {s : Shared} {T : String} {x : V} {v : Value} (I : Inv X pins σ H s) (r : RelV x v) (ty : tyV X.K T x H) :
    s.TypeIs v T ∧ ∀ a, v = .ref a → ∃ ob, s.heap.get? a = some ob ∧ ob.dict = none := by
  cases x with
  | str z =>
    obtain ⟨t, rfl⟩ := r
    cases (show T = "str" from ty)
    exact ⟨typeIs_str s z t, fun _ e => nomatch e⟩
  | int i =>
    obtain ⟨t, rfl⟩ := r
    cases (show T = "int" from ty)
    exact ⟨typeIs_int s i t, fun _ e => nomatch e⟩
  | ref p =>
    cases r
    rcases ty with ⟨rfl, xs, hq⟩ | ⟨rfl, o, hk, hc, hd⟩ | ⟨rfl, hk⟩ | ⟨rfl, S, n, hk⟩
    · obtain ⟨its, _, pl, _⟩ := I.list hq
      refine ⟨pl.isList.typeIs, fun a e => ?_⟩
      cases e
      obtain ⟨o, n, e, c, hd, _⟩ := pl
      exact ⟨o, e, hd⟩
    · refine ⟨⟨o, I.kIn p o hk, hc⟩, fun a e => ?_⟩
      cases e
      exact ⟨o, I.kIn _ o hk, hd⟩
    · have z : ∃ o, s.heap.get? p = some o ∧ o.ExactDict := by
        rcases hk with ⟨kvs, hk⟩ | ⟨kvs, hk⟩
        · obtain ⟨_, _, _, _, o, _, _, e, ex, _⟩ := I.hok p _ hk
          exact ⟨o, e, ex⟩
        · obtain ⟨_, _, _, _, o, _, _, e, ex, _⟩ := I.hok p _ hk
          exact ⟨o, e, ex⟩
      obtain ⟨o, e, ex⟩ := z
      refine ⟨⟨o, e, ex.1⟩, fun a e2 => ?_⟩
      cases e2
      exact ⟨o, e, ex.2.1⟩
    · obtain ⟨o, _, _, _, e, ex, _⟩ := I.hok p _ hk
      refine ⟨⟨o, e, ex.1⟩, fun a e2 => ?_⟩
      cases e2
      exact ⟨o, e, ex.2.1⟩
  | _ => exact False.elim ty
def tBM (K : PySem.W.Frag) (T : String) (r : V → List V → Hp → VK → Prop) (to : TE) (t : TA) : TE := fun σ H Q => to σ H fun x H1 => tyV K T x H1 ∧ t σ H1 fun xs H2 => r x xs H2 Q
variable {o e : Expr} {es : List Expr} {to : TE} {t : TA} {name : Str} {apos cpos : Pos} {T id : String} {r : V → List V → Hp → VK → Prop}
theorem pe_bm (pa : PlainAttrs T) (slot : Slot T name id) (hty : typeOf (.builtin id) = pure (.type "method_descriptor")) (hm : MtR X id r) (ho : PE X o to) (ha : PA X (e :: es) t)
    (hbase : attributeBase o name X.env (eval o X.env) = eval o X.env := by rfl)
    (hfew : ((backTo cpos (starEach (e :: es) X.env)).all (fun x => !x.1) && (backToKw cpos (keywordEach [] X.env)).all (fun x => x.1.isSome)
      && decide ((e :: es).length + ([] : List Keyword).length + (if ([] : List Keyword).isEmpty then 0 else 1) < 30)) = true := by rfl)
    (hline : (apos.endLine == cpos.line) = true := by rfl) (hs : starEach (e :: es) X.env = (false, eval e X.env) :: starEach es X.env := by rfl) (hplain : (backTo cpos (starEach es X.env)).any (·.1) = false := by rfl) :
    PE X (.Call (.Attribute o name apos) (e :: es) [] cpos) (tBM X.K T r to t) := by
  intro pins s σ H Q I h
  refine wpAny_Call_method_late hbase hfew hline rfl (thn (ho pins s σ H _ I h) fun v s1 ⟨x, H1, I1, r1, ty, q1⟩ => ?_)
  obtain ⟨h1, h2⟩ := tyV_is I1 r1 ty
  refine ⟨T, id, pa, slot, hty, h1, h2, ?_⟩
  have hA := ha cpos pins s1 σ H1 _ I1 q1
  rw [hs] at hA ⊢
  refine Calls.callWith_builtin (by show (false || (backTo cpos (starEach es X.env)).any (·.1)) = false; rw [hplain] <;> rfl) (Calls.evalArgs_plain ?_)
  exact thn hA fun us s2 ⟨vs, H2, I2, r2, q2⟩ => hm pins s2 σ H2 x vs v us Q I2 r1 r2 q2
end
end L2
namespace L2
open PySem PySem.Spec PyProof.Rows
def MtM (X : Cx) (id : String) (r : V → List V → Hp → VK → Prop) : Prop :=
  ∀ (pins : List (Addr × Obj)) (s : Shared) (σ : St) (H : Hp) (x : V) (xs : List V) (v : Value) (us : List Value) (Q : VK), Inv X pins σ H s → RelV x v → Vals xs us → r x xs H Q →
    wpAny (model X.prog X.w) X.A (call (.builtin id) (v :: us)) (EP X pins σ Q) X.xe s
theorem Vals.one : ∀ {x : V} {us : List Value}, Vals [x] us → ∃ u, us = [u] ∧ RelV x u
  | _, _, .cons r .nil => ⟨_, rfl, r⟩
theorem Vals.zero : ∀ {us : List Value}, Vals [] us → us = []
  | _, .nil => rfl
theorem Vals.eraseIdx : ∀ {xs : List V} {us : List Value} (i : Nat), Vals xs us → Vals (xs.eraseIdx i) (us.eraseIdx i)
  | _, _, _, .nil => .nil
  | _, _, 0, .cons _ t => t
  | _, _, i + 1, .cons r t => .cons r (Vals.eraseIdx i t)
theorem Vals.rep {xs : List V} {us : List Value} (h : Vals xs us) : ∀ k : Nat, Vals (List.replicate k xs).flatten (List.replicate k us).flatten
  | 0 => .nil
  | k + 1 => by
    rw [List.replicate_succ, List.replicate_succ, List.flatten_cons, List.flatten_cons]
    exact Vals.append h (Vals.rep h k)
theorem len_erase {α : Type} : ∀ (l : List α) (i : Nat), (l.eraseIdx i).length ≤ l.length
  | [], _ => Nat.le_refl _
  | _ :: _, 0 => Nat.le_succ _
  | _ :: r, i + 1 => Nat.succ_le_succ (len_erase r i)
theorem foldl_rep (its : List Value) : ∀ (k : Nat) (acc : List Value),
    List.foldl (fun x1 x2 => x1 ++ x2) acc.toArray (List.replicate k its.toArray) = (acc ++ (List.replicate k its).flatten).toArray
  | 0, acc => by simp
  | k + 1, acc => by
    have e : acc.toArray ++ its.toArray = (acc ++ its).toArray := by simp
    have e2 : (acc ++ its) ++ (List.replicate k its).flatten = acc ++ (List.replicate (k + 1) its).flatten := by
      rw [List.replicate_succ, List.flatten_cons, List.append_assoc]
    rw [← e2, ← foldl_rep its k (acc ++ its), ← e, List.replicate_succ, List.foldl_cons]
section
variable {X : Cx} {pins : List (Addr × Obj)} {σ : St} {H : Hp} {s : Shared} {l b : Addr} {xs ys zs : List V}
theorem Inv.lset {its its' : List Value} {n : Nat} {f : Array Value → Array Value} {t' : Nat} (I : Inv X pins σ H s) (hH : H l = some (.lst xs))
    (e : s.heap.get? l = some { cls := .type "list", data := .seq its.toArray n }) (hf : f its.toArray = its'.toArray) (hv : Vals ys its') (hz : ys.length ≤ sizeLine) :
    Inv X pins σ (upd H l (.lst ys)) { s with heap := s.heap.update l (Obj.mapSeq f), toks := t' } := by
  have q := PySem.IsL.update e f
  rw [hf] at q
  refine I.write (x := l) (e := l) (by rw [hH]; exact trivial) (.inl rfl) (fun b' u hb hu => (Heap.get?_update_other s.heap (Obj.mapSeq f) (Ne.symm hb)).trans hu) ⟨_, q⟩ ?_
  exact ⟨hz, its', _, hv, q⟩
theorem Inv.lnew {its : List Value} {t' : Nat} (I : Inv X pins σ H s) (hv : Vals ys its) (hz : ys.length ≤ sizeLine) :
    Inv X pins σ (upd H s.heap.objs.size (.lst ys)) { s with heap := s.heap.push { cls := .type "list", data := .seq its.toArray }, toks := t' } :=
  I.laid (fun _ _ q => Heap.get?_push_of_some _ q) (Nat.le_refl _) ⟨hz, its, 0, hv, Heap.get?_push_size _ rfl⟩
theorem Inv.fresh (I : Inv X pins σ H s) : H s.heap.objs.size = none := I.hok.fresh (Nat.le_refl _)
theorem Inv.lstM (I : Inv X pins σ H s) (hH : H l = some (.lst xs)) : xs.length ≤ sizeLine ∧ ∃ (its : List Value) (n : Nat), Vals xs its ∧ xs.length = its.length ∧ s.heap.get? l = some { cls := .type "list", data := .seq its.toArray n } := by
  obtain ⟨z, its, n, r, e⟩ := I.hok l _ hH
  exact ⟨z, its, n, r, r.length, e⟩
theorem notLongL {n : Nat} (h : n ≤ sizeLine) : Builtin.List.listTooLong n = false := by
  unfold Builtin.List.listTooLong
  exact decide_eq_false (by omega)
end
section
variable {X : Cx}
def rAppend : V → List V → Hp → VK → Prop := fun x vs H Q => ∃ l xs y, x = .ref l ∧ vs = [y] ∧ H l = some (.lst xs) ∧ xs.length < sizeLine ∧ Q .non (upd H l (.lst (xs ++ [y])))
theorem mt_append : MtM X "list.append" rAppend := by
  intro pins s σ H x vs v us Q I rx rv h
  obtain ⟨l, xs, y, rfl, rfl, hH, hz, q⟩ := h
  cases rx
  obtain ⟨u, rfl, ru⟩ := rv.one
  obtain ⟨z, its, n, r, hl, e⟩ := I.lstM hH
  refine call_meets F.slot_list_append ⟨_, e, rfl⟩ F.entry_list_append (F.args_list_append_2 _ _) (PySem.list_append l its.toArray n u (by rw [List.size_toArray]; omega)) ⟨e, ?_⟩
  refine ⟨.non, _, I.lset (its' := its ++ [u]) hH e (by simp) (r.append (.cons ru .nil)) ?_, rfl, q⟩
  rw [List.length_append, List.length_singleton]
  omega
def rExtend : V → List V → Hp → VK → Prop := fun x vs H Q => ∃ l b xs zs, x = .ref l ∧ vs = [.ref b] ∧ H l = some (.lst xs) ∧ H b = some (.lst zs) ∧ xs.length + zs.length ≤ sizeLine ∧ Q .non (upd H l (.lst (xs ++ zs)))
theorem mt_extend : MtM X "list.extend" rExtend := by
  intro pins s σ H x vs v us Q I rx rv h
  obtain ⟨l, b, xs, zs, rfl, rfl, hH, hB, hz, q⟩ := h
  cases rx
  obtain ⟨u, rfl, ru⟩ := rv.one
  cases ru
  obtain ⟨z, its, n, r, hl, e⟩ := I.lstM hH
  obtain ⟨z2, its2, n2, r2, hl2, e2⟩ := I.lstM hB
  have hsz : its.toArray.size + its2.toArray.size ≤ sizeLine := by rw [List.size_toArray, List.size_toArray]; omega
  have hlong : ¬ (!its.toArray.isEmpty && Builtin.List.listTooLong (its.toArray.size + its2.toArray.size)) = true := by
    rw [notLongL hsz, Bool.and_false]
    exact Bool.false_ne_true
  refine call_meets F.slot_list_extend ⟨_, e, rfl⟩ F.entry_list_extend (F.args_list_extend_2 _ _)
    (AutoSeq1.list_extend_list_list_0 l its.toArray n b its2.toArray n2 hlong (by rw [List.size_toArray]; omega) (by omega)) ⟨e, e2, ?_⟩
  refine ⟨.non, _, I.lset (its' := its ++ its2) hH e (by simp) (r.append r2) ?_, rfl, q⟩
  rw [List.length_append]
  omega
def rPopAt : V → List V → Hp → VK → Prop := fun x vs H Q => ∃ l xs i k y, x = .ref l ∧ vs = [.int i] ∧ H l = some (.lst xs) ∧ -(2 ^ 63) ≤ i ∧ i < 2 ^ 63 ∧ seqIndex? i xs.length = some k ∧ xs[k]? = some y ∧ Q y (upd H l (.lst (xs.eraseIdx k)))
theorem mt_popAt : MtM X "list.pop" rPopAt := by
  intro pins s σ H x vs v us Q I rx rv h
  obtain ⟨l, xs, i, k, y, rfl, rfl, hH, h1, h2, hk, hy, q⟩ := h
  cases rx
  obtain ⟨u, rfl, ru⟩ := rv.one
  obtain ⟨t, rfl⟩ := ru
  obtain ⟨z, its, n, r, hl, e⟩ := I.lstM hH
  obtain ⟨w, hw, rw'⟩ := r.get hy
  refine call_meets F.slot_list_pop ⟨_, e, rfl⟩ F.entry_list_pop (F.args_list_pop_2 _ _)
    (MeetsSeq.list_pop_at l its.toArray n i t k w (fitsIndex_both h1 h2) (by rw [List.size_toArray, ← hl]; exact hk) (by rw [← Array.getElem?_toList]; exact hw) (by rw [List.size_toArray]; omega)) ⟨e, ?_⟩
  refine ⟨y, _, I.lset (its' := its.eraseIdx k) hH e ?_ (r.eraseIdx k) ?_, rw', q⟩
  · show its.toArray.eraseIdxIfInBounds k = (its.eraseIdx k).toArray
    rw [List.eraseIdxIfInBounds_toArray]
  · have := len_erase xs k
    omega
def rCat : R2 := fun x y H Q => ∃ l b xs zs, x = .ref l ∧ y = .ref b ∧ H l = some (.lst xs) ∧ H b = some (.lst zs) ∧ xs.length + zs.length ≤ sizeLine ∧ ∀ p, H p = none → Q (.ref p) (upd H p (.lst (xs ++ zs)))
theorem op_cat : OpR X (binaryOp .Add) rCat := by
  intro pins s σ H x y v u Q I rx ry h
  obtain ⟨l, b, xs, zs, rfl, rfl, hH, hB, hz, q⟩ := h
  cases rx
  cases ry
  obtain ⟨z, its, n, r, hl, e⟩ := I.lstM hH
  obtain ⟨z2, its2, n2, r2, hl2, e2⟩ := I.lstM hB
  refine PySem.P.add_list e e2 ?_ (by rw [List.size_toArray, List.size_toArray]; omega)
  have ea : its.toArray ++ its2.toArray = (its ++ its2).toArray := by simp
  rw [ea]
  exact ⟨.ref _, _, I.lnew (t' := s.toks) (r.append r2) (by rw [List.length_append]; omega), rfl, q _ I.fresh⟩
def rRep : R2 := fun x y H Q => ∃ l k xs, x = .ref l ∧ y = .int k ∧ H l = some (.lst xs) ∧ -(2 ^ 63) ≤ k ∧ k < 2 ^ 63 ∧ xs.length * k.toNat ≤ sizeLine ∧
  ∀ p, H p = none → Q (.ref p) (upd H p (.lst (List.replicate k.toNat xs).flatten))
theorem len_rep {α : Type} (xs : List α) (k : Nat) : (List.replicate k xs).flatten.length = k * xs.length := by
  induction k with
  | zero => simp
  | succ k ih => rw [List.replicate_succ, List.flatten_cons, List.length_append, ih, Nat.succ_mul, Nat.add_comm]
theorem op_rep : OpR X (binaryOp .Mult) rRep := by
  intro pins s σ H x y v u Q I rx ry h
  obtain ⟨l, k, xs, rfl, rfl, hH, h1, h2, hz, q⟩ := h
  cases rx
  obtain ⟨t, rfl⟩ := ry
  obtain ⟨z, its, n, r, hl, e⟩ := I.lstM hH
  have hlen : its.toArray.size * k.toNat ≤ sizeLine := by rw [List.size_toArray, ← hl]; exact hz
  have hcap : ¬ its.toArray.size * k.toNat > (2 ^ 63 - 1) / 8 := by
    have : (sizeLine : Nat) ≤ (2 ^ 63 - 1) / 8 := by decide
    omega
  have hfit : ¬ (!Builtin.List.listFitsIndex k) = true := by
    rw [fitsIndex_both h1 h2]
    exact Bool.false_ne_true
  have hlong : ¬ Builtin.List.listTooLong (its.toArray.size * k.toNat) = true := by
    rw [notLongL hlen]
    exact Bool.false_ne_true
  have hnew : List.foldl (fun x1 x2 => x1 ++ x2) #[] (List.replicate (if its.toArray.isEmpty = true then 0 else k.toNat) its.toArray) = (List.replicate k.toNat its).flatten.toArray := by
    have f0 : ∀ m : Nat, List.foldl (fun x1 x2 => x1 ++ x2) #[] (List.replicate m its.toArray) = (List.replicate m its).flatten.toArray := fun m => by
      have := foldl_rep its m []
      rw [List.nil_append] at this
      exact this
    rw [f0]
    cases its with
    | nil => simp
    | cons a r' => rw [if_neg (by simp)]
  refine wpAny_binaryOp_repeat_ref (T := "list") (U := "int") (by decide) ⟨_, e, rfl⟩ (fun s' => typeIs_int s' k t) noFill_list_mul F.fills_int_mul F.slot_int_rmul repeat_list F.slot_int_index.lookup
    (call_meets F.slot_int_rmul (typeIs_int s k t) F.entry_int_rmul (F.args_int_rmul_2 _ _) (int___rmul___int_list k t l its.toArray n)
      ⟨e, rfl, ⟨_, e, rfl⟩, call_meets F.slot_list_mul ⟨_, e, rfl⟩ F.entry_list_mul (F.args_list_mul_2 _ _) (AutoListH.list___mul___list_int_3 l its.toArray n k t hfit hcap hlong) ⟨e, ?_⟩⟩)
  rw [hnew]
  exact ⟨.ref _, _, I.lnew (t' := s.toks) (r.rep k.toNat) (by rw [len_rep, Nat.mul_comm]; exact hz), rfl, q _ I.fresh⟩
end
section
variable {prog : Program} {w : World} {A : Around} {E : Value → Shared → Prop} {s : Shared}
set_option maxRecDepth 100000 in
end
section
variable {X : Cx}
end
end L2
namespace L2
open PySem PySem.Spec PyProof.Rows
theorem Vals.ints : ∀ {ns : List Int} {us : List Value}, Vals (ns.map V.int) us → IntsAre us ns
  | [], us, h => by
    rw [List.map_nil] at h
    cases h
    exact IntsAre.nil
  | n :: ns, us, h => by
    rw [List.map_cons] at h
    cases h with
    | cons r t =>
      obtain ⟨k, rfl⟩ := r
      exact IntsAre.cons n k (Vals.ints t)
theorem vals_of_ints : ∀ {us : List Value} {ns : List Int}, IntsAre us ns → Vals (ns.map V.int) us
  | _, _, .nil => by rw [List.map_nil]; exact Paired.nil
  | _, _, .cons n t h => by rw [List.map_cons]; exact Paired.cons (show RelV (V.int n) (Value.int n t) from ⟨t, rfl⟩) (vals_of_ints h)
theorem Vals.strs : ∀ {xs : List Str} {us : List Value}, Vals (xs.map V.str) us → StrsAre us xs
  | [], us, h => by
    rw [List.map_nil] at h
    cases h
    exact StrsAre.nil
  | x :: xs, us, h => by
    rw [List.map_cons] at h
    cases h with
    | cons r t =>
      obtain ⟨k, rfl⟩ := r
      exact StrsAre.cons x k (Vals.strs t)
theorem Vals.bls : ∀ {bs : List Bool} {us : List Value}, Vals (bs.map V.bl) us → us = bs.map Value.bool
  | [], us, h => by
    rw [List.map_nil] at h
    cases h
    rfl
  | b :: bs, us, h => by
    rw [List.map_cons] at h
    cases h with
    | cons r t =>
      cases r
      rw [Vals.bls t, List.map_cons]
theorem Vals.ref1 {a : Addr} {us : List Value} (r : Vals [V.ref a] us) : us = [Value.ref a] := by
  cases r with
  | cons r t =>
    cases t
    cases r
    rfl
section
variable {prog : Program} {w : World} {A : Around} {E : Value → Shared → Prop} {s : Shared} {l : Addr} {its : List Value} {ns : List Int} {Q : Value → Shared → Prop}
end
section
variable {X : Cx}
theorem small64 {n : Nat} (h : n < 64) : n ≤ sizeLine := by rw [sizeLine_eq]; omega
end
section
variable {X : Cx}
end
section
variable {X : Cx}
end
theorem iter_any {prog : Program} {w : World} {A : Around} {E : Value → Shared → Prop} {s : Shared} {l : Addr} {items : Array Value} {Q : Value → Shared → Prop} (hl : s.heap.IsList l items)
    (h : ∀ s₂ : Shared, s₂ = { s with heap := s.heap.push { cls := .type "list_iterator", data := .fields #[.ref l, .int 0 0] } } →
      (s₂.heap.IsListIter s.heap.objs.size l 0 ∧ s₂.heap.IsList l items) → l ≠ s.heap.objs.size → Q (.ref s.heap.objs.size) s₂) : wpAny (model prog w) A (pyIter (.ref l)) Q E s := by
  have hlt : l < s.heap.objs.size := by obtain ⟨_, e, _⟩ := hl; exact Heap.lt_size e
  exact wpAny_pyIter_list hl (h _ rfl ⟨⟨_, Heap.get?_push_size _ rfl, rfl, rfl⟩, hl.push _⟩ (Nat.ne_of_lt hlt))
theorem truth_bools {prog : Program} {w : World} {A : Around} {bs : List Bool} {its : List Value} (e : its = bs.map Value.bool) :
    TruthOf prog w A (fun i v => its.toArray[i]? = some v) (fun i => bs.getD i false) := fun i v s Q E hv hq => by
  have hv' : its[i]? = some v := by simpa using hv
  rw [e, List.getElem?_map] at hv'
  obtain ⟨b, hb, rfl⟩ := Option.map_eq_some_iff.mp hv'
  have hg : bs.getD i false = b := by rw [List.getD_eq_getElem?_getD, hb] <;> rfl
  have hq' : Q (bs.getD i false) s := hq
  rw [hg] at hq'
  exact wpAny_truthy_bool hq'
theorem any_range : ∀ bs : List Bool, (List.range bs.length).any (fun i => bs.getD i false) = bs.any id
  | [] => rfl
  | b :: bs => by
    rw [List.length_cons, List.range_succ_eq_map, List.any_cons, List.any_map, List.any_cons, ← any_range bs]
    all_goals rfl
section
variable {X : Cx}
def rAny (K : PySem.W.Frag) : List V → Hp → VK → Prop := fun vs H Q => ∃ (a : Addr) (bs : List Bool), vs = [V.ref a] ∧ SqL K H a (bs.map V.bl) ∧ Q (.bl (bs.any id)) H
theorem cr_any (hc : X.calm = true) : CallR X (.builtin "any") (rAny X.K) := by
  intro pins s σ H vs us Q I r h
  obtain ⟨a, bs, rfl, hs, q⟩ := h
  obtain ⟨its, rv, hl, _⟩ := I.list hs
  rw [Vals.ref1 r]
  have hb := rv.bls
  refine call_any_walk (iter_any hl.isList fun s₂ e2 st hne => ?_)
  subst e2
  refine ⟨_, _, _, _, _, _, _, rfl, Walks.list (A := X.A.in1) (I.ok.hd hc) _ a hne its.toArray, st, truth_bools hb, fun h' tk hk => ?_⟩
  refine ⟨.bl _, H, I.kept fun b o eo => hk b o (fun hmem => ?_) (Heap.get?_push_of_some _ eo), ?_, q⟩
  · rcases List.mem_cons.mp hmem with e1 | hmem
    · exact absurd (e1 ▸ Heap.lt_size eo) (Nat.lt_irrefl _)
    · cases hmem
  · show Value.bool _ = Value.bool _
    rw [← any_range, hb, List.size_toArray, List.length_map]
end
mutual
inductive Dp (K : PySem.W.Frag) (H : Hp) : V → PyData → Prop
  | non : Dp K H .non .none
  | bl (b : Bool) : Dp K H (.bl b) (.bool b)
  | int (i : Int) : Dp K H (.int i) (.int i)
  | str (x : Str) : Dp K H (.str x) (.str x)
  | lst {a : Addr} {xs : List V} {ds : List PyData} : SqL K H a xs → DpAll K H xs ds → Dp K H (.ref a) (.list ds)
  | tup {a : Addr} {xs : List V} {ds : List PyData} : SqT K H a xs → DpAll K H xs ds → Dp K H (.ref a) (.tuple ds)
inductive DpAll (K : PySem.W.Frag) (H : Hp) : List V → List PyData → Prop
  | nil : DpAll K H [] []
  | cons {v : V} {vs : List V} {d : PyData} {ds : List PyData} : Dp K H v d → DpAll K H vs ds → DpAll K H (v :: vs) (d :: ds)
end
section
variable {X : Cx} {pins : List (Addr × Obj)} {σ : St} {H : Hp} {s : Shared}
mutual
theorem Dp.reads (I : Inv X pins σ H s) : ∀ (d : PyData) (v : V) (u : Value), Dp X.K H v d → RelV v u → ∃ as, Reads s.heap u d as
  | .none, _, _, h, r => by
    cases h
    cases r
    exact ⟨_, Reads.none⟩
  | .bool b, _, _, h, r => by
    cases h
    cases r
    exact ⟨_, Reads.bool b⟩
  | .int i, _, _, h, r => by
    cases h
    obtain ⟨t, rfl⟩ := r
    exact ⟨_, Reads.int i t⟩
  | .str x, _, _, h, r => by
    cases h
    obtain ⟨t, rfl⟩ := r
    exact ⟨_, Reads.str x t⟩
  | .list ds, _, _, h, r => by
    cases h with
    | lst hs ha =>
      cases r
      obtain ⟨its, rv, ⟨o, n, ho, hc, _, hd⟩, _⟩ := I.list hs
      obtain ⟨as, hr⟩ := Dp.readsAll I ds _ its ha rv
      exact ⟨_, Reads.list ho hc hd hr⟩
  | .tuple ds, _, _, h, r => by
    cases h with
    | tup hs ha =>
      cases r
      obtain ⟨its, rv, ⟨o, ho, hc, n, hd⟩, _⟩ := I.tuple hs
      obtain ⟨as, hr⟩ := Dp.readsAll I ds _ its ha rv
      exact ⟨_, Reads.tuple ho hc hd hr⟩
  | .dict _, _, _, h, _ => by cases h
theorem Dp.readsAll (I : Inv X pins σ H s) : ∀ (ds : List PyData) (vs : List V) (us : List Value), DpAll X.K H vs ds → Vals vs us → ∃ as, ReadsAll s.heap us ds as
  | [], _, _, h, r => by
    cases h
    cases r
    exact ⟨_, ReadsAll.nil⟩
  | d :: ds, _, _, h, r => by
    cases h with
    | cons h1 h2 =>
      cases r with
      | cons r1 r2 =>
        obtain ⟨as, q1⟩ := Dp.reads I d _ _ h1 r1
        obtain ⟨bs, q2⟩ := Dp.readsAll I ds _ _ h2 r2
        exact ⟨_, ReadsAll.cons q1 q2⟩
end
end
section
variable {X : Cx}
def rEqD (K : PySem.W.Frag) : R2 := fun x y H Q => ∃ d e, Dp K H x d ∧ Dp K H y e ∧ SeqAt.shaped d = true ∧ SeqAt.shaped e = true ∧ Q (.bl (PyData.eqv d e)) H
theorem op_eqD (hu : X.A.units + 64 < cLine) : OpR X (compareOp .Eq) (rEqD X.K) := by
  intro pins s σ H x y v u Q I rx ry h
  obtain ⟨d, e, hd, he, sd, se, q⟩ := h
  obtain ⟨as, r1⟩ := Dp.reads I d x v hd rx
  obtain ⟨bs, r2⟩ := Dp.reads I e y u he ry
  exact SeqAt.compareEq_shaped r1 r2 sd se hu ⟨.bl _, H, I, rfl, q⟩
end
end L2
namespace L2
open PySem PySem.Spec PyProof.Rows
abbrev CellAt (h : Heap) (c : Addr) (v : Option Value) : Prop := h.IsCell c v
def relS (scope sc : Scope) : Scope :=
  { scope with names := scope.names.map fun (n, k) => if (k == .free && sc.kind == .function && sc.names.lookup n == some .cell) then (n, .cell) else (n, k) }
def cloFrom (cells : List (Str × Addr)) : List (Str × NameKind) → List (Str × Addr) → List (Str × Addr)
  | [], acc => acc
  | (n, k) :: r, acc => if k == .free then cloFrom cells r ((n, (cells.lookup n).getD 0) :: acc) else cloFrom cells r acc
theorem closure_loop (env : Env) (f : Str × NameKind → List (Str × Addr) → Sem (ForInStep (List (Str × Addr))))
    (hf : ∀ n k c, f (n, k) c = if k == .free then (do let a ← cellOf env n; pure (.yield ((n, a) :: c))) else pure (.yield c)) :
    ∀ (names : List (Str × NameKind)) (acc : List (Str × Addr)), (∀ y ∈ names, y.2 = .free → ∃ c, env.cells.lookup y.1 = some c) → forIn names acc f = pure (cloFrom env.cells names acc)
  | [], acc, _ => by rw [List.forIn_nil]; rfl
  | (n, k) :: r, acc, h => by
    rw [List.forIn_cons, hf]
    have ih := fun acc => closure_loop env f hf r acc fun y hy => h y (List.mem_cons_of_mem _ hy)
    unfold cloFrom
    by_cases hk : (k == NameKind.free) = true
    · rw [if_pos hk, if_pos hk]
      obtain ⟨c, hc⟩ := h (n, k) List.mem_cons_self (by simpa using hk)
      have e : cellOf env n = pure c := by unfold cellOf; rw [hc]
      rw [e]
      have e2 : (env.cells.lookup n).getD 0 = c := by rw [hc]; rfl
      rw [e2]
      exact ih _
    · rw [if_neg hk, if_neg hk]
      exact ih _
theorem closure_ok {scope : Scope} {env : Env} (h : ∀ y ∈ scope.names, y.2 = .free → ∃ c, env.cells.lookup y.1 = some c) : closureFor scope env = pure (cloFrom env.cells scope.names []) := by
  simp only [closureFor]
  rw [closure_loop env _ (fun n k c => rfl) scope.names [] h]
  rfl
theorem mem_lookup {α : Type} : ∀ {l : List (Str × α)} {n : Str} {c : α}, (n, c) ∈ l → ∃ c', l.lookup n = some c'
  | (k, v) :: r, n, c, h => by
    rw [List.lookup_cons]
    cases hb : n == k with
    | true => exact ⟨_, rfl⟩
    | false =>
      rcases List.mem_cons.mp h with e | h
      · cases e; simp at hb
      · exact mem_lookup h
theorem cloFrom_mem {cells : List (Str × Addr)} : ∀ {names : List (Str × NameKind)} {acc : List (Str × Addr)} {n : Str} {c : Addr}, (n, c) ∈ cloFrom cells names acc → (n, c) ∈ acc ∨ ((n, .free) ∈ names ∧ c = (cells.lookup n).getD 0)
  | [], _, _, _, h => .inl h
  | (m, k) :: r, acc, n, c, h => by
    unfold cloFrom at h
    split at h
    · rename_i hk
      have hk : k = .free := by simpa using hk
      rcases cloFrom_mem h with h | ⟨h1, h2⟩
      · rcases List.mem_cons.mp h with e | h
        · cases e; exact .inr ⟨hk ▸ List.mem_cons_self, rfl⟩
        · exact .inl h
      · exact .inr ⟨List.mem_cons_of_mem _ h1, h2⟩
    · rcases cloFrom_mem h with h | ⟨h1, h2⟩
      · exact .inl h
      · exact .inr ⟨List.mem_cons_of_mem _ h1, h2⟩
theorem cloFrom_acc {cells : List (Str × Addr)} : ∀ {names : List (Str × NameKind)} {acc : List (Str × Addr)} {p : Str × Addr}, p ∈ acc → p ∈ cloFrom cells names acc
  | [], _, _, h => h
  | (m, k) :: r, acc, p, h => by
    unfold cloFrom
    split
    · exact cloFrom_acc (List.mem_cons_of_mem _ h)
    · exact cloFrom_acc h
theorem cloFrom_has {cells : List (Str × Addr)} : ∀ {names : List (Str × NameKind)} {acc : List (Str × Addr)} {n : Str}, (n, .free) ∈ names → (n, (cells.lookup n).getD 0) ∈ cloFrom cells names acc
  | (m, k) :: r, acc, n, h => by
    unfold cloFrom
    rcases List.mem_cons.mp h with e | h
    · cases e
      exact cloFrom_acc List.mem_cons_self
    · split
      · exact cloFrom_has h
      · exact cloFrom_has h
theorem cells_mem : ∀ {names : List (Str × NameKind)} {h : Heap} {acc : List (Str × Addr)} {x : Str} {c : Addr}, (x, c) ∈ cellsFrom h.objs.size names acc →
    (x, c) ∈ acc ∨ ((x, .cell) ∈ names ∧ h.objs.size ≤ c ∧ CellAt (pushCells h names) c none)
  | [], _, _, _, _, h => .inl h
  | (n, k) :: r, h, acc, x, c, hm => by
    unfold cellsFrom at hm
    unfold pushCells
    split at hm
    · rename_i hk
      rw [if_pos hk]
      have hk : k = .cell := by simpa using hk
      rw [← Heap.size_push h { cls := .type "cell", data := .cell none }] at hm
      rcases cells_mem hm with hm | ⟨h1, h2, h3⟩
      · rcases List.mem_cons.mp hm with e | hm
        · cases e
          exact .inr ⟨hk ▸ List.mem_cons_self, Nat.le_refl _, _, pushCells_keeps r _ _ _ (Heap.get?_push_size _ rfl), rfl⟩
        · exact .inl hm
      · rw [Heap.size_push] at h2
        exact .inr ⟨List.mem_cons_of_mem _ h1, Nat.le_of_succ_le h2, h3⟩
    · rename_i hk
      rw [if_neg hk]
      rcases cells_mem hm with hm | ⟨h1, h2, h3⟩
      · exact .inl hm
      · exact .inr ⟨List.mem_cons_of_mem _ h1, h2, h3⟩
theorem cells_acc : ∀ {names : List (Str × NameKind)} {n : Nat} {acc : List (Str × Addr)} {p : Str × Addr}, p ∈ acc → p ∈ cellsFrom n names acc
  | [], _, _, _, h => h
  | (m, k) :: r, n, acc, p, h => by
    unfold cellsFrom
    split
    · exact cells_acc (List.mem_cons_of_mem _ h)
    · exact cells_acc h
theorem cells_has : ∀ {names : List (Str × NameKind)} {n : Nat} {acc : List (Str × Addr)} {x : Str}, (x, .cell) ∈ names → ∃ c, (x, c) ∈ cellsFrom n names acc
  | (m, k) :: r, n, acc, x, h => by
    unfold cellsFrom
    rcases List.mem_cons.mp h with e | h
    · cases e
      exact ⟨n, cells_acc List.mem_cons_self⟩
    · split
      · exact cells_has h
      · exact cells_has h
theorem cells_inj : ∀ {names : List (Str × NameKind)} {h : Heap} {acc : List (Str × Addr)} {x y : Str} {c : Addr}, (∀ p ∈ acc, p.2 < h.objs.size) → (∀ x y c, (x, c) ∈ acc → (y, c) ∈ acc → x = y) →
    (x, c) ∈ cellsFrom h.objs.size names acc → (y, c) ∈ cellsFrom h.objs.size names acc → x = y
  | [], _, _, _, _, _, _, hi, h1, h2 => hi _ _ _ h1 h2
  | (n, k) :: r, h, acc, x, y, c, hl, hi, h1, h2 => by
    unfold cellsFrom at h1 h2
    split at h1
    · rename_i hk
      rw [if_pos hk] at h2
      rw [← Heap.size_push h { cls := .type "cell", data := .cell none }] at h1 h2
      refine cells_inj (h := h.push _) (fun p hp => ?_) (fun x y c a b => ?_) h1 h2
      · rw [Heap.size_push]
        rcases List.mem_cons.mp hp with rfl | hp
        · exact Nat.lt_succ_self _
        · exact Nat.lt_succ_of_lt (hl p hp)
      · rcases List.mem_cons.mp a with e | a <;> rcases List.mem_cons.mp b with e' | b
        · cases e; cases e'; rfl
        · cases e; exact absurd (hl _ b) (Nat.lt_irrefl _)
        · cases e'; exact absurd (hl _ a) (Nat.lt_irrefl _)
        · exact hi _ _ _ a b
    · rename_i hk
      rw [if_neg hk] at h2
      exact cells_inj hl hi h1 h2
theorem newEnv_comp {M : Model} {A : Around} {E : Value → Shared → Prop} {s : Shared} {scope : Scope} {globals : Addr} {closure : List (Str × Addr)} {qual : Str} {func : Option Addr} {code : Value} {around : Env} {builtins : Addr} {Q : Env → Shared → Prop}
    (h : Q (newEnv scope s.heap.objs.size globals (cellsFrom (s.heap.objs.size + 1) scope.names closure) qual func code (some around) builtins)
      { s with heap := pushCells (s.heap.push { cls := .type "dict", data := .dict #[] }) scope.names }) :
    wpAny M A (newFunctionEnv scope globals closure [] qual func code (some around) builtins) Q E s := by
  simp only [newFunctionEnv, Option.isSome_some, if_true]
  refine wpAny_bind (wpAny_alloc ?_)
  refine wpAny_bind (wpAny_layCells _ (fun n k c => rfl) scope.names closure _ _ ?_)
  rw [show ({ s with heap := s.heap.push { cls := .type "dict", data := .dict #[] } } : Shared).heap.objs.size = s.heap.objs.size + 1 from Heap.size_push ..]
  rw [List.forIn_nil]
  exact wpAny_bind (wpAny_pure (wpAny_pure h))
theorem lookup_relS {sc : Scope} : ∀ {names : List (Str × NameKind)} {x : Str} {k : NameKind},
    (names.map fun (n, k) => if (k == NameKind.free && sc.kind == .function && sc.names.lookup n == some .cell) then (n, NameKind.cell) else (n, k)).lookup x = some k →
    ∃ k', names.lookup x = some k' ∧ (k = k' ∨ (k' = .free ∧ k = .cell))
  | [], _, _, h => by simp at h
  | (n, k₀) :: r, x, k, h => by
    have ih := @lookup_relS sc r x k
    have h' : List.lookup x ((if (k₀ == NameKind.free && sc.kind == .function && sc.names.lookup n == some .cell) = true then (n, NameKind.cell) else (n, k₀)) :: (r.map _)) = some k := h
    cases hx : x == n with
    | true =>
      simp only [List.lookup_cons, hx]
      by_cases hc : (k₀ == NameKind.free && sc.kind == .function && sc.names.lookup n == some .cell) = true
      · rw [if_pos hc] at h'
        simp only [List.lookup_cons, hx] at h'
        cases h'
        simp only [Bool.and_eq_true, beq_iff_eq] at hc
        exact ⟨k₀, rfl, .inr ⟨hc.1.1, rfl⟩⟩
      · rw [if_neg hc] at h'
        simp only [List.lookup_cons, hx] at h'
        cases h'
        exact ⟨_, rfl, .inl rfl⟩
    | false =>
      simp only [List.lookup_cons, hx]
      by_cases hc : (k₀ == NameKind.free && sc.kind == .function && sc.names.lookup n == some .cell) = true
      · rw [if_pos hc] at h'
        simp only [List.lookup_cons, hx] at h'
        exact ih h'
      · rw [if_neg hc] at h'
        simp only [List.lookup_cons, hx] at h'
        exact ih h'
structure BlkOk (N : List Str) (sc scope : Scope) (own : List (Str × Nat)) : Prop where
  kind : scope.kind = .function
  uniq : ∀ y ∈ scope.names, scope.names.lookup y.1 = some y.2
  ix : ∀ p ∈ own, N[p.2]? = some p.1
  free : ∀ y ∈ scope.names, y.2 = .free → sc.names.lookup y.1 = some .cell ∨ sc.names.lookup y.1 = some .free
  own : ∀ y ∈ scope.names, y.2 = .local ∨ y.2 = .cell → y.1 ∈ own.map (·.1) ∨ y.1 ∉ N
def wipe (σ : St) : List Nat → St
  | [] => σ
  | v :: vs => (wipe σ vs).set v none
theorem wipe_length (σ : St) : ∀ vs : List Nat, (wipe σ vs).length = σ.length
  | [] => rfl
  | v :: vs => by unfold wipe; rw [List.length_set, wipe_length σ vs]
theorem wipe_some {σ : St} {i : Nat} {x : V} : ∀ {vs : List Nat}, (wipe σ vs)[i]? = some (some x) → σ[i]? = some (some x) ∧ i ∉ vs
  | [], h => ⟨h, by simp⟩
  | v :: vs, h => by
    unfold wipe at h
    by_cases hi : v = i
    · subst hi
      by_cases hv : v < (wipe σ vs).length
      · rw [List.getElem?_set_self hv] at h; cases h
      · rw [List.getElem?_eq_none (by simpa using hv)] at h; cases h
    · rw [List.getElem?_set_ne hi] at h
      obtain ⟨h1, h2⟩ := wipe_some h
      exact ⟨h1, by simp only [List.mem_cons, not_or]; exact ⟨fun e => hi e.symm, h2⟩⟩
abbrev Cx.blk (X : Cx) (s : Shared) (H : Hp) (scope : Scope) (cenv : Env) (fp : List Addr) : Cx := { X with s_0 := s, H_0 := H, env := cenv, outer := X.stack, ex := fp, fn := fun x => scope.names.lookup x == some .cell, pn := [], xe := fun _ _ => False }
section
variable {X : Cx} {pins : List (Addr × Obj)} {σ : St} {H : Hp} {s : Shared}
theorem block_start {scope : Scope} {own : List (Str × Nat)} {fp : List Addr} (I : Inv X pins σ H s) (ok : BlkOk X.N X.env.scope scope own) (hN : X.N.Nodup) (hfp : ∀ b ∈ fp, FpOk X pins H b ∧ b < s.heap.objs.size) :
    Inv (X.blk s H scope (compEnvC scope (cellsFrom (s.heap.objs.size + 1) scope.names (cloFrom X.env.cells scope.names [])) s.heap.objs.size X.env) fp) [] (wipe σ (own.map (·.2))) H { s with heap := pushCells (s.heap.push { cls := .type "dict", data := .dict #[] }) scope.names } := by
  have hfree : ∀ y ∈ scope.names, y.2 = .free → ∃ c, X.env.cells.lookup y.1 = some c := fun y hy e => by
    rcases ok.free y hy e with k | k
    · exact I.ok.has _ (.inl k)
    · exact I.ok.has _ (.inr k)
  generalize hcenv : compEnvC scope (cellsFrom (s.heap.objs.size + 1) scope.names (cloFrom X.env.cells scope.names [])) s.heap.objs.size X.env = cenv
  have kp : ∀ b o, s.heap.get? b = some o → (pushCells (s.heap.push { cls := .type "dict", data := .dict #[] }) scope.names).get? b = some o := fun b o e => pushCells_keeps _ _ _ _ (Heap.get?_push_of_some _ e)
  have hL : cenv.locals = s.heap.objs.size := by rw [← hcenv]; rfl
  have hcl : cenv.cells = cellsFrom (s.heap.objs.size + 1) scope.names (cloFrom X.env.cells scope.names []) := by rw [← hcenv]; rfl
  have hsc : cenv.scope = relS scope X.env.scope := by rw [← hcenv]; rfl
  rw [← Heap.size_push s.heap { cls := .type "dict", data := .dict #[] }] at hcl
  have cm : ∀ {y c}, (y, c) ∈ cloFrom X.env.cells scope.names [] → X.env.cells.lookup y = some c ∧ c < s.heap.objs.size := fun {y c} hm => by
    rcases cloFrom_mem hm with hm | ⟨h1, rfl⟩
    · cases hm
    · obtain ⟨c, hc⟩ := hfree _ h1 rfl
      rw [hc]
      obtain ⟨w, z⟩ := I.cell _ _ hc
      exact ⟨rfl, z.lt⟩
  have mem : ∀ {y c}, cenv.cells.lookup y = some c → (X.env.cells.lookup y = some c ∧ c < s.heap.objs.size) ∨ (s.heap.objs.size + 1 ≤ c ∧ CellAt (pushCells (s.heap.push { cls := .type "dict", data := .dict #[] }) scope.names) c none) := fun {y c} e => by
    rw [hcl] at e
    rcases cells_mem (PySem.mem_of_lookup e) with hm | ⟨_, h2, h3⟩
    · exact .inl (cm hm)
    · rw [Heap.size_push] at h2; exact .inr ⟨h2, h3⟩
  have look : ∀ {y}, scope.names.lookup y = some .free → ∃ c, cenv.cells.lookup y = some c ∧ X.env.cells.lookup y = some c := fun {y} hl => by
    have hy : (y, NameKind.free) ∈ scope.names := PySem.mem_of_lookup hl
    obtain ⟨c', e'⟩ := mem_lookup (cells_acc (names := scope.names) (n := (s.heap.push { cls := .type "dict", data := .dict #[] }).objs.size) (cloFrom_has (cells := X.env.cells) (acc := []) hy))
    rw [← hcl] at e'
    refine ⟨c', e', ?_⟩
    rw [hcl] at e'
    rcases cells_mem (PySem.mem_of_lookup e') with hm | ⟨h1, _, _⟩
    · exact (cm hm).1
    · have := ok.uniq _ h1
      rw [hl] at this; cases this
  have okB : (X.blk s H scope cenv fp).Ok := by
    refine ⟨I.ok.mod, by show cenv.scope.kind = _; rw [hsc]; exact ok.kind, by show cenv.globals = _; rw [← hcenv]; exact I.ok.glob, by show cenv.builtins = _; rw [← hcenv]; exact I.ok.blt, by show s.heap.objs.size ≤ cenv.locals; rw [hL]; exact Nat.le_refl _,
      fun y z c e1 e2 => ?_, fun y hy => ?_, fun y c z e => ?_, I.ok.hd, I.ok.frames, .inl rfl, fun b hb => ⟨?_, fun y c e z => ?_⟩, I.bs, Nat.le_trans I.ok.bsz I.sz, fun b o e hb => ?_, fun b hb z => ?_, I.stack, I.stkFree⟩
    · have e1 : cenv.cells.lookup y = some c := e1
      have e2 : cenv.cells.lookup z = some c := e2
      rw [hcl] at e1 e2
      refine cells_inj (fun p hp => ?_) (fun y z c a b => I.ok.inj y z c (cm a).1 (cm b).1) (PySem.mem_of_lookup e1) (PySem.mem_of_lookup e2)
      rw [Heap.size_push]
      exact Nat.lt_succ_of_lt (cm (y := p.1) (c := p.2) hp).2
    · show ∃ c, cenv.cells.lookup y = some c
      have key : ∀ k, cenv.kindOf y = some k → (k = .cell ∨ k = .free) → ∃ c, cenv.cells.lookup y = some c := fun k hk hk' => by
        unfold Env.kindOf at hk
        rw [hsc] at hk
        obtain ⟨k', e, r⟩ := lookup_relS hk
        have : k' = .cell ∨ k' = .free := by
          rcases r with rfl | ⟨rfl, _⟩
          · exact hk'
          · exact .inr rfl
        rcases this with rfl | rfl
        · obtain ⟨c, hm⟩ := cells_has (n := (s.heap.push { cls := .type "dict", data := .dict #[] }).objs.size) (acc := cloFrom X.env.cells scope.names []) (PySem.mem_of_lookup e)
          obtain ⟨c', e'⟩ := mem_lookup hm
          exact ⟨c', by rw [hcl]; exact e'⟩
        · obtain ⟨c, h1, _⟩ := look e
          exact ⟨c, h1⟩
      rcases hy with hy | hy
      · exact key _ hy (.inl rfl)
      · exact key _ hy (.inr rfl)
    · have z : (scope.names.lookup y == some NameKind.cell) = true := z
      have z : scope.names.lookup y = some .cell := by simpa using z
      have e : cenv.cells.lookup y = some c := e
      rw [hcl] at e
      rcases cells_mem (PySem.mem_of_lookup e) with hm | ⟨_, h2, _⟩
      · rcases cloFrom_mem hm with hm | ⟨h1, _⟩
        · cases hm
        · have q := ok.uniq _ h1
          rw [z] at q; cases q
      · rw [Heap.size_push] at h2
        exact Nat.le_of_succ_le h2
    · show b ≠ cenv.locals
      rw [hL]; exact Nat.ne_of_lt (hfp b hb).2
    · have e : cenv.cells.lookup y = some c := e
      rcases mem e with ⟨h1, _⟩ | ⟨h1, _⟩
      · exact (hfp b hb).1.2.2.2.2.1 y c h1 z
      · have h2 : s.heap.objs.size + 1 ≤ b := by rw [← z]; exact h1
        exact absurd (Nat.lt_of_lt_of_le (hfp b hb).2 (Nat.le_of_succ_le h2)) (Nat.lt_irrefl _)
    · rcases (hfp b hb).1.2.2.2.1 with z | z
      · exact I.ok.noex b o e z
      · exact absurd (Nat.lt_of_lt_of_le (Heap.lt_size e) (Nat.le_trans I.ok.bsz z)) (Nat.lt_irrefl _)
    · rcases List.mem_cons.mp (I.stkSub b z) with z | z
      · exact (hfp b hb).1.2.1 z
      · exact (hfp b hb).1.2.2.1 z
  refine ⟨okB, rfl, I.bare, Un.kept kp, ⟨fun _ => none, ?_, fun i y av e1 e2 e3 => ?_⟩, fun y c e => ?_, ?_, fun y c e => ?_, fun p hp => ?_, I.hok.kept kp, by rw [wipe_length]; exact I.len⟩
  · show Heap.Ns _ cenv.locals _
    rw [hL]
    exact Heap.Ns.keeps (Heap.Ns.new ..) fun b o e => pushCells_keeps _ _ _ _ e
  · obtain ⟨e2, hne⟩ := wipe_some e2
    have hfr : scope.names.lookup y = some .free ∧ (cenv.kindOf y = some .cell ∨ cenv.kindOf y = some .free) := by
      have key : ∀ k, cenv.scope.names.lookup y = some k → k = .local ∨ k = .cell ∨ k = .free → scope.names.lookup y = some .free ∧ (cenv.kindOf y = some .cell ∨ cenv.kindOf y = some .free) := fun k hk hk' => by
        have hk0 := hk
        rw [hsc] at hk
        obtain ⟨k', e, r⟩ := lookup_relS hk
        have no : ¬ (k' = .local ∨ k' = .cell) := fun hh => by
          rcases ok.own _ (PySem.mem_of_lookup e) hh with e' | e'
          · obtain ⟨p, hp, hpy⟩ := List.mem_map.mp e'
            have e3 := ok.ix p hp
            have : p.1 = y := hpy
            rw [this] at e3
            exact hne (List.mem_map.mpr ⟨p, hp, nodup_ix hN e3 e1⟩)
          · exact e' (List.mem_of_getElem? e1)
        rcases r with rfl | ⟨rfl, rfl⟩
        · rcases hk' with rfl | rfl | rfl
          · exact absurd (.inl rfl) no
          · exact absurd (.inr rfl) no
          · exact ⟨e, .inr hk0⟩
        · exact ⟨e, .inl hk0⟩
      have e3 : Vis cenv.scope y := e3
      rcases e3 with e3 | e3 | e3
      · exact key _ e3 (.inl rfl)
      · exact key _ e3 (.inr (.inl rfl))
      · exact key _ e3 (.inr (.inr rfl))
    obtain ⟨m, hn, hl⟩ := I.loc
    have hvis : Vis X.env.scope y := (ok.free _ (PySem.mem_of_lookup hfr.1) rfl).elim (fun k => .inr (.inl k)) (fun k => .inr (.inr k))
    obtain ⟨w, r, q⟩ := hl i y av e1 e2 hvis
    refine ⟨w, r, .inr ⟨hfr.2, ?_⟩⟩
    obtain ⟨c, h1, h2⟩ := look hfr.1
    rcases q with ⟨k, _⟩ | ⟨_, c', e', z⟩
    · have k : X.env.scope.names.lookup y = some .local := k
      rcases ok.free _ (PySem.mem_of_lookup hfr.1) rfl with k' | k' <;> rw [show X.env.scope.names.lookup y = _ from k'] at k <;> cases k
    · rw [h2] at e'; cases e'
      exact ⟨c, h1, z.keeps kp⟩
  · have e : cenv.cells.lookup y = some c := e
    rcases mem e with ⟨h1, _⟩ | ⟨_, z⟩
    · obtain ⟨w, z⟩ := I.cell y c h1
      exact ⟨w, z.keeps kp⟩
    · exact ⟨_, z⟩
  · show H cenv.locals = none
    rw [hL]; exact I.hok.fresh (Nat.le_refl _)
  · have e : cenv.cells.lookup y = some c := e
    rcases mem e with ⟨h1, _⟩ | ⟨h1, _⟩
    · exact I.freeC y c h1
    · exact I.hok.fresh (Nat.le_of_succ_le h1)
  · exact absurd (show p ∈ ([] : List (Addr × Obj)) ++ [] from hp) (by simp)
theorem app_ok {E : Value → Shared → Prop} {D : Addr} {xs : List V} {y : V} {v : Value} {Q : Value → Shared → Prop} (I : Inv X pins σ H s) (hD : H D = some (.lst xs)) (hz : xs.length < sizeLine) (r : RelV y v)
    (h : ∀ s', Inv X pins σ (upd H D (.lst (xs ++ [y]))) s' → Q .none s') : wpAny (model X.prog X.w) X.A (call (.builtin "list.append") [.ref D, v]) Q E s := by
  obtain ⟨hz', its, n, ri, e⟩ := I.hok D _ hD
  have hl := ri.length
  refine append_at (hsz := by rw [List.size_toArray]; omega) e fun h' sb ho' => ?_
  refine h { s with heap := h' } (I.write (t' := s.toks) (by rw [hD]; trivial) (.inl rfl) (fun b u hb q => (sb.2 b hb).trans q) ⟨_, ho'⟩ ⟨by rw [List.length_append]; exact hz, its ++ [v], n + 1, ri.append (.cons r .nil), ?_⟩)
  rw [ho']
  simp
def PTs (X : Cx) (ifs : List Expr) (t : TT) : Prop :=
  ∀ (pins : List (Addr × Obj)) (s : Shared) (σ : St) (H : Hp) (Q : Bool → Hp → Prop), Inv X pins σ H s → t σ H Q →
    wpAny (model X.prog X.w) X.A (forIn ifs true fun c r => if r = true then do let ok ← isTrue c X.env (eval c X.env); pure (ForInStep.yield ok) else pure (ForInStep.yield r)) (TP X pins σ Q) X.xe s
def tYes : TT := fun _ H Q => Q true H
theorem pts_nil : PTs X [] tYes := fun _ _ _ H _ I h => wpAny_tests_nil ⟨H, I, h⟩
theorem pts_one {c : Expr} {t : TT} (h : PT X c t) : PTs X [c] t := fun pins s σ H Q I hw => wpAny_tests_one (h pins s σ H Q I hw)
end
theorem thnF {α : Type} {t : Sem α} {Q Q' : α → Shared → Prop} {M : Model} {A : Around} {E : Value → Shared → Prop} {s : Shared} (h : wpAny M A t Q (fun _ _ => False) s) (hQ : ∀ a s, Q a s → Q' a s) : wpAny M A t Q' E s := wpAny_mono h hQ fun _ _ z => False.elim z
theorem compLoop_any {prog : Program} {w : World} {A : Around} {R : Result → Shared → Prop} {s : Shared} {elt target iter : Expr} {ifs : List Expr} {scope : Scope} {pos : Pos} {it acc : Value} {env : Env} (I : Nat → Shared → Prop)
    (turn : ∀ n s, I n s → wpAny (model prog w) A (pyNext it) (fun r s₁ => match r with
      | none => R (.ok .next) s₁
      | some v => wpAny (model prog w) A (letOwnedTupleGo target it v) (fun _ s₁' => wpAny (model prog w) A (assign target env v) (fun _ s₂ =>
          wpAny (model prog w) A (forIn ifs true fun c r => if r = true then do let ok ← isTrue c env (eval c env); pure (ForInStep.yield ok) else pure (ForInStep.yield r)) (fun ok s₃ =>
            if ok = true then wpAny (model prog w) A (eval elt env) (fun x s₄ =>
              wpAny (model prog w) A (call (.builtin "list.append") [acc, x]) (fun _ s₅ => ∃ m, m < n ∧ I m s₅) (notedBy (model prog w) A env fun e s' => R (.error e) s') s₄) (notedBy (model prog w) A env fun e s' => R (.error e) s') s₃
            else ∃ m, m < n ∧ I m s₃) (notedBy (model prog w) A env fun e s' => R (.error e) s') s₂) (notedBy (model prog w) A env fun e s' => R (.error e) s') s₁') (notedBy (model prog w) A env fun e s' => R (.error e) s') s₁) (notedBy (model prog w) A env fun e s' => R (.error e) s') s)
    (n : Nat) (h : I n s) :
    codeAny (model prog w) A (.compLoop (.ListComp elt [⟨target, iter, ifs, 0⟩] scope pos) 0 it acc env) R s := by
  refine codeAny_loop rfl I (fun n s hI => ?_) n h
  show wpAny _ A ((compTurn (.ListComp elt [⟨target, iter, ifs, 0⟩] scope pos) 0 it acc env).onRaise (fun x => do noteFrame x env; theTreesLotGoes x)) _ _ s
  refine wpAny_noted ?_
  rw [compTurn_list]
  refine wpAny_bind (wpAny_standAt (wpAny_bind (wpAny_mono (turn n s hI) (fun r s₁ h₁ => ?_) fun _ _ h' => h')))
  cases r with
  | none => exact wpAny_pure h₁
  | some v =>
    refine wpAny_bind (wpAny_mono h₁ (fun _ s₁' h₁' => ?_) fun _ _ h' => h')
    refine wpAny_bind (wpAny_mono h₁' (fun _ s₂ h₂ => wpAny_bind (wpAny_mono h₂ (fun ok s₃ h₃ => ?_) fun _ _ h' => h')) fun _ _ h' => h')
    cases ok with
    | false => exact wpAny_pure ⟨rfl, h₃⟩
    | true =>
      exact wpAny_bind (wpAny_bind (wpAny_mono h₃ (fun x s₄ h₄ => wpAny_bind (wpAny_mono h₄ (fun _ s₅ h₅ => wpAny_pure (wpAny_pure ⟨rfl, h₅⟩)) fun _ _ h' => h')) fun _ _ h' => h'))
section
variable {X : Cx}
def tLc (wi : TI) (g : TG) (tt : TT) (te : TE) (vs : List Nat) : TE := fun σ H Q => wi σ H fun J H1 => ∀ D, H1 D = none → ∃ W : Nat → Nat → Hp → Prop, (∃ m, W 0 m (upd H1 D (.lst []))) ∧ ∀ i m H, W i m H →
  (J.stop i H ∧ Q (.ref D) H) ∨ (J.go i H ∧ ∃ Nx : Hp → Prop, (∀ H', Nx H' → ∃ m', m' < m ∧ W (i + 1) m' H') ∧ ∀ x H', J.yld i H x H' → g x (wipe σ vs) H' fun σ2 H2 => wipe σ2 vs = wipe σ vs ∧ tt σ2 H2 fun b H3 =>
    if b = true then te σ2 H3 fun y H4 => ∃ acc, H4 D = some (.lst acc) ∧ acc.length < sizeLine ∧ Nx (upd H4 D (.lst (acc ++ [y]))) else Nx H3)
theorem lc_core {pins : List (Addr × Obj)} {s : Shared} {σ : St} {H : Hp} {Q : VK} {elt tg iter : Expr} {ifs : List Expr} {scope : Scope} {own : List (Str × Nat)} {pos pos' : Pos} {wi : TI} {g : TG} {tt : TT} {te : TE} {use : Option (Value → Sem Unit)} {Qf : Value → Shared → Prop}
    (hc : X.calm = true) (hN : X.N.Nodup) (I : Inv X pins σ H s) (hi : PI X tg iter wi) (ok : BlkOk X.N X.env.scope scope own)
    (hg : ∀ (s : Shared) (H : Hp) (C : Addr) (cl : List (Str × Addr)) (fp : List Addr), PG (X.blk s H scope (compEnvC scope cl C X.env) fp) tg g) (ht : ∀ (s : Shared) (H : Hp) (C : Addr) (cl : List (Str × Addr)) (fp : List Addr), PTs (X.blk s H scope (compEnvC scope cl C X.env) fp) ifs tt)
    (he : ∀ (s : Shared) (H : Hp) (C : Addr) (cl : List (Str × Addr)) (fp : List Addr), PE (X.blk s H scope (compEnvC scope cl C X.env) fp) elt te) (hs : ∀ x, foldedSetIterable iter X.env x = pure x)
    (h : tLc wi g tt te (own.map (·.2)) σ H Q)
    (hRR : ∀ D C s' m H', Inv X pins σ H' s' → Q (.ref D) H' → s'.heap.Ns C m → FpOk X pins H' C → compPost (model X.prog X.w) X.A X.xe use Qf (.ref D) C (.ok .next) s') :
    wpAny (model X.prog X.w) X.A (comprehension (.ListComp elt [⟨tg, iter, ifs, 0⟩] scope pos) scope X.env pos' (newList []) false (eval iter X.env) use) Qf X.xe s := by
  have hfree : ∀ y ∈ scope.names, y.2 = .free → ∃ c, X.env.cells.lookup y.1 = some c := fun y hy e => by
    rcases ok.free y hy e with k | k
    · exact I.ok.has _ (.inl k)
    · exact I.ok.has _ (.inr k)
  refine wpAny_comprehension_free (use := use) rfl hs (closure_ok hfree) ok.kind (fun y hy e => by rw [ok.uniq y hy, e])
    (thn (hi pins s σ H _ I h) fun xv s1 hx => thn hx fun itv s2 h2 => ?_)
  obtain ⟨it, fp, tn, J, H2, e, I2, T, st2, f2, q⟩ := h2
  subst e
  refine wpAny_newObj_type (newEnv_comp ?_) (by show 0 ≤ sizeLine; decide)
  generalize hD : s2.heap.objs.size = D
  have hDn : H2 D = none := I2.hok.fresh (Nat.le_of_eq hD)
  obtain ⟨W, ⟨m0, w0⟩, turn⟩ := q D hDn
  -- the new list
  generalize hs3 : ({ s2 with heap := s2.heap.push { cls := .type "list", data := .seq ([] : List Value).toArray } } : Shared) = s3
  have I3 : Inv X pins σ (upd H2 D (.lst [])) s3 := by
    rw [← hs3]
    refine I2.laid (t' := s2.toks) (fun b o e => Heap.get?_push_of_some _ e) (Nat.le_of_eq hD) ⟨Nat.zero_le _, [], 0, .nil, ?_⟩
    rw [← hD]
    exact Heap.get?_push_size _ rfl
  have h3 : s3.heap = s2.heap.push { cls := .type "list", data := .seq ([] : List Value).toArray } := by rw [← hs3]
  have sz : ∀ b ∈ fp, b < s2.heap.objs.size := fun b hb => by
    obtain ⟨o, e, _⟩ := T.obj _ _ st2 b hb
    exact Heap.lt_size e
  have f3 : ∀ b ∈ fp, FpOk X pins (upd H2 D (.lst [])) b ∧ b < s3.heap.objs.size := fun b hb => by
    have hlt := sz b hb
    refine ⟨⟨?_, (f2 b hb).2⟩, by rw [h3, Heap.size_push]; exact Nat.lt_succ_of_lt hlt⟩
    rw [upd_ne (by rw [← hD]; exact Nat.ne_of_lt hlt)]
    exact (f2 b hb).1
  have st3 : tn 0 s3.heap := T.keep _ _ _ st2 fun b _ o e => by rw [h3]; exact Heap.get?_push_of_some _ e
  have I4 := block_start I3 ok hN f3
  have pg := hg s3 (upd H2 D (.lst [])) s3.heap.objs.size (cellsFrom (s3.heap.objs.size + 1) scope.names (cloFrom X.env.cells scope.names [])) fp
  have pt := ht s3 (upd H2 D (.lst [])) s3.heap.objs.size (cellsFrom (s3.heap.objs.size + 1) scope.names (cloFrom X.env.cells scope.names [])) fp
  have pe := he s3 (upd H2 D (.lst [])) s3.heap.objs.size (cellsFrom (s3.heap.objs.size + 1) scope.names (cloFrom X.env.cells scope.names [])) fp
  show codeAny _ _ (.compStart (.ListComp elt [⟨tg, iter, ifs, 0⟩] scope pos) 0 (.ref it) (.ref D) (compEnvC scope (cellsFrom (s3.heap.objs.size + 1) scope.names (cloFrom X.env.cells scope.names [])) s3.heap.objs.size X.env)) (compPost (model X.prog X.w) X.A X.xe use Qf (.ref D) s3.heap.objs.size) { s3 with heap := pushCells (s3.heap.push { cls := .type "dict", data := .dict #[] }) scope.names }
  have nfp : ∀ b ∈ fp, (upd H2 D (.lst [])) b = none := fun b hb => (f3 b hb).1.1
  generalize hce : compEnvC scope (cellsFrom (s3.heap.objs.size + 1) scope.names (cloFrom X.env.cells scope.names [])) s3.heap.objs.size X.env = ce at I4 pg pt pe ⊢
  have cL : ce.locals = s3.heap.objs.size := by subst hce; rfl
  generalize hH3 : upd H2 D (.lst []) = H3 at I3 I4 pg pt pe w0 nfp f3
  generalize hs4 : ({ s3 with heap := pushCells (s3.heap.push { cls := .type "dict", data := .dict #[] }) scope.names } : Shared) = s4 at I4 ⊢
  have st4 : tn 0 s4.heap := T.keep _ _ _ st3 fun b _ o e => by rw [← hs4]; exact pushCells_keeps _ _ _ _ (Heap.get?_push_of_some _ e)
  have stat : ∀ {σ' : St} {H' : Hp} {s' : Shared}, Inv (X.blk s3 H3 scope ce fp) [] σ' H' s' → (∀ b ∈ fp, H' b = none) → ∀ b ∈ fp, FpOk (X.blk s3 H3 scope ce fp) [] H' b := fun {σ' H' s'} I' hn b hb =>
    ⟨hn b hb, (I'.ok.exf b hb).1, I'.ok.exfs b hb, .inl hb, fun x c e => (I'.ok.exf b hb).2 x c e, fun p hp => absurd (show p ∈ ([] : List (Addr × Obj)) ++ [] from hp) (by simp)⟩
  have loop : codeAny (model X.prog X.w) X.A (.compLoop (.ListComp elt [⟨tg, iter, ifs, 0⟩] scope pos) 0 (.ref it) (.ref D) ce) (compPost (model X.prog X.w) X.A X.xe use Qf (.ref D) s3.heap.objs.size) s4 := by
    refine compLoop_any (fun n s' => ∃ i H', Inv (X.blk s3 H3 scope ce fp) [] (wipe σ (own.map (·.2))) H' s' ∧ tn i s'.heap ∧ (∀ b ∈ fp, H' b = none) ∧ W i n H') ?_ m0 ⟨0, H3, I4, st4, nfp, w0⟩
    rintro n s5 ⟨i, H5, I5, st5, n5, w5⟩
    rcases turn i n H5 w5 with ⟨stop, qq⟩ | ⟨go, Nx, hNx, step⟩
    · have td := T.done (X.blk s3 H3 scope ce fp) rfl rfl rfl hc i [] s5 _ H5 (fun _ _ => False) I5 (stat I5 n5) st5 stop
      refine thnF td fun r s6 ⟨hr, I6⟩ => ?_
      subst hr
      -- back in the def's context
      have I7 : Inv X pins σ H5 s6 := I3.call' (ch := fp) I6.os I6.base I6.hok I6.bare fun b hb => ⟨(f3 b hb).1.2.2.2.1, (f3 b hb).1.2.1, (f3 b hb).1.2.2.2.2.1, (f3 b hb).1.2.2.2.2.2⟩
      have nC : H5 s3.heap.objs.size = none := by
        have z : H5 ce.locals = none := I6.free
        rw [cL] at z
        exact z
      obtain ⟨m, hn, _⟩ := I6.loc
      have hn : s6.heap.Ns ce.locals m := hn
      rw [cL] at hn
      exact hRR D s3.heap.objs.size s6 m H5 I7 qq hn (I3.fpOk (Nat.le_refl _) nC)
    · have ti := T.item (X.blk s3 H3 scope ce fp) rfl rfl rfl hc i [] s5 _ H5 (fun _ _ => False) I5 (stat I5 n5) st5 go
      refine thnF ti fun r s6 ⟨u, hr, h6⟩ => ?_
      subst hr
      refine thnF h6 fun _ s7 ⟨x, H7, I7, r7, y7, st7, n7⟩ => ?_
      have I7' := I7.pinned (stat I7 n7) (T.obj _ _ st7)
      refine thnF (pg _ s7 _ H7 x u _ I7' r7 (step x H7 y7)) fun _ s8 ⟨σ8, H8, I8, hw8, q8⟩ => ?_
      refine thnF (pt _ s8 σ8 H8 _ I8 q8) fun b s9 ⟨H9, I9, q9⟩ => ?_
      -- the turn's end
      have fin : ∀ {s' : Shared} {H' : Hp}, Inv (X.blk s3 H3 scope ce fp) ([] ++ pinsAt fp s7.heap) σ8 H' s' → Nx H' → ∃ m, m < n ∧ ∃ i H', Inv (X.blk s3 H3 scope ce fp) [] (wipe σ (own.map (·.2))) H' s' ∧ tn i s'.heap ∧ (∀ b ∈ fp, H' b = none) ∧ W i m H' := fun {s' H'} I' nx => by
        obtain ⟨m', hm, w'⟩ := hNx H' nx
        have pin' : ∀ b ∈ fp, ∀ o, s7.heap.get? b = some o → s'.heap.get? b = some o ∧ H' b = none := fun b hb o e =>
          let z := I'.pin (b, o) (List.mem_append_right _ (List.mem_append_right _ (mem_pinsAt hb e)))
          ⟨z.1, z.2.1⟩
        have hl : (wipe σ (own.map (·.2))).length = σ8.length := by rw [← hw8, wipe_length]
        refine ⟨m', hm, i + 1, H', (I'.unpinned (pins := [])).weak hl (fun j v e => ?_), T.keep _ _ _ st7 fun b hb o e => (pin' b hb o e).1, fun b hb => ?_, w'⟩
        · rw [← hw8] at e
          exact (wipe_some e).1
        · obtain ⟨o, e, _⟩ := T.obj _ _ st7 b hb
          exact (pin' b hb o e).2
      cases b with
      | false =>
        simp only [Bool.false_eq_true, if_false] at q9 ⊢
        exact fin I9 q9
      | true =>
        simp only [if_true] at q9 ⊢
        refine thnF (pe _ s9 σ8 H9 _ I9 q9) fun z s10 ⟨yv, H10, I10, r10, acc, hD10, hz10, nx⟩ => ?_
        exact app_ok (X := X.blk s3 H3 scope ce fp) I10 hD10 hz10 r10 fun s11 I11 => fin I11 nx
  exact codeAny_compStart_list loop (T.self X.A 0 _ _ _ st4 loop)
theorem pe_lc {elt tg iter : Expr} {ifs : List Expr} {scope : Scope} {own : List (Str × Nat)} {pos : Pos} {wi : TI} {g : TG} {tt : TT} {te : TE} (hc : X.calm = true) (hN : X.N.Nodup) (hi : PI X tg iter wi) (ok : BlkOk X.N X.env.scope scope own)
    (hg : ∀ (s : Shared) (H : Hp) (C : Addr) (cl : List (Str × Addr)) (fp : List Addr), PG (X.blk s H scope (compEnvC scope cl C X.env) fp) tg g) (ht : ∀ (s : Shared) (H : Hp) (C : Addr) (cl : List (Str × Addr)) (fp : List Addr), PTs (X.blk s H scope (compEnvC scope cl C X.env) fp) ifs tt)
    (he : ∀ (s : Shared) (H : Hp) (C : Addr) (cl : List (Str × Addr)) (fp : List Addr), PE (X.blk s H scope (compEnvC scope cl C X.env) fp) elt te) (hs : ∀ x, foldedSetIterable iter X.env x = pure x := by intro _; rfl) :
    PE X (.ListComp elt [⟨tg, iter, ifs, 0⟩] scope pos) (tLc wi g tt te (own.map (·.2))) := by
  intro pins s σ H Q I h
  rw [eval_ListComp]
  refine lc_core hc hN I hi ok hg ht he hs h fun D C s' m H' I' q hn f => ⟨m, hn, fun h'' sb => ?_⟩
  obtain ⟨f0, f1, f2, f3, f4, f5⟩ := f
  exact ⟨.ref D, H', I'.turned (t' := s'.toks) (fun b o hb e => (sb.2 b hb).trans e) f0 f1 f3 f4 f5, rfl, q⟩
end
theorem lc_list {K : PySem.W.Frag} {a : Addr} {xs : List V} {g : TG} {tt : TT} {te : TE} {vs : List Nat} {σ : St} {H1 : Hp} {D : Addr} {Qd : Hp → Prop} (Pv : Nat → Hp → Prop) (h0 : Pv 0 (upd H1 D (.lst []))) (hl : ∀ i H, i ≤ xs.length → Pv i H → SqL K H a xs)
    (hs : ∀ i x H, xs[i]? = some x → Pv i H → g x (wipe σ vs) H fun σ2 H2 => wipe σ2 vs = wipe σ vs ∧ tt σ2 H2 fun b H3 =>
      if b = true then te σ2 H3 fun y H4 => ∃ acc, H4 D = some (.lst acc) ∧ acc.length < sizeLine ∧ Pv (i + 1) (upd H4 D (.lst (acc ++ [y]))) else Pv (i + 1) H3) (hd : ∀ H, Pv xs.length H → Qd H) :
    ∃ W : Nat → Nat → Hp → Prop, (∃ m, W 0 m (upd H1 D (.lst []))) ∧ ∀ i m H, W i m H →
      ((Itl K a).stop i H ∧ Qd H) ∨ ((Itl K a).go i H ∧ ∃ Nx : Hp → Prop, (∀ H', Nx H' → ∃ m', m' < m ∧ W (i + 1) m' H') ∧ ∀ x H', (Itl K a).yld i H x H' → g x (wipe σ vs) H' fun σ2 H2 => wipe σ2 vs = wipe σ vs ∧ tt σ2 H2 fun b H3 =>
        if b = true then te σ2 H3 fun y H4 => ∃ acc, H4 D = some (.lst acc) ∧ acc.length < sizeLine ∧ Nx (upd H4 D (.lst (acc ++ [y]))) else Nx H3) := by
  refine ⟨fun i m H => m = xs.length - i ∧ i ≤ xs.length ∧ Pv i H, ⟨xs.length, by simp, Nat.zero_le _, h0⟩, ?_⟩
  rintro i m H ⟨rfl, hi, p⟩
  have q := hl i H hi p
  by_cases hlt : i < xs.length
  · refine .inr ⟨⟨xs, xs[i], q, by simp [hlt]⟩, Pv (i + 1), fun H' p' => ⟨xs.length - (i + 1), by omega, rfl, hlt, p'⟩, fun x H' y => ?_⟩
    obtain ⟨e, y⟩ := y
    subst e
    exact hs i x _ (y xs q) p
  · have e : i = xs.length := by omega
    subst e
    exact .inl ⟨⟨xs, q, Nat.le_refl _⟩, hd H p⟩
def blkC (N : List Str) (sc scope : Scope) (own : List (Str × Nat)) : Bool :=
  (match scope.kind with | .function => true | _ => false) && (scope.names.all fun y => decide (scope.names.lookup y.1 = some y.2)) && (own.all fun p => decide (N[p.2]? = some p.1)) &&
    (scope.names.all fun y => match y.2 with
      | .free => (match sc.names.lookup y.1 with | some .cell => true | some .free => true | _ => false)
      | .local => decide (y.1 ∈ own.map (·.1)) || decide (y.1 ∉ N)
      | .cell => decide (y.1 ∈ own.map (·.1)) || decide (y.1 ∉ N)
      | _ => true)
theorem blkOk_by {N : List Str} {sc scope : Scope} {own : List (Str × Nat)} (h : blkC N sc scope own = true) : BlkOk N sc scope own := by
  unfold blkC at h
  simp only [Bool.and_eq_true, List.all_eq_true, decide_eq_true_eq] at h
  obtain ⟨⟨⟨h1, h2⟩, h3⟩, h4⟩ := h
  refine ⟨?_, h2, h3, fun y hy e => ?_, fun y hy e => ?_⟩
  · split at h1
    · assumption
    · cases h1
  · have q := h4 y hy
    simp only [e] at q
    split at q <;> first | exact .inl (by assumption) | exact .inr (by assumption) | cases q
  · have q := h4 y hy
    rcases e with e | e <;> (simp only [e, Bool.or_eq_true, decide_eq_true_eq] at q; exact q)
end L2
namespace L2
open PySem PySem.Spec PyProof.Rows
section
variable {prog : Program} {w : World} {A : Around} {R : Result → Shared → Prop} {s : Shared} {elt t0 i0 t1 i1 : Expr} {ifs0 ifs1 : List Expr} {scope : Scope} {pos : Pos} {it acc : Value} {env : Env}
end
section
variable {X : Cx}
end
end L2
namespace L2
open PySem PySem.Spec PyProof.Rows
section
variable {κ : Type} [DecidableEq κ]
def valV (kvs : List (κ × V)) (k : κ) : Option V := (kvs.find? fun kv => decide (kv.1 = k)).map (·.2)
def putK (kvs : List (κ × V)) (k : κ) (v : V) : List (κ × V) :=
  if (kvs.any fun kv => decide (kv.1 = k)) = true then kvs.map (fun kv => if kv.1 = k then (kv.1, v) else kv) else kvs ++ [(k, v)]
def dropK (kvs : List (κ × V)) (k : κ) : List (κ × V) := kvs.filter fun kv => decide (kv.1 ≠ k)
theorem valV_nil {k : κ} : valV ([] : List (κ × V)) k = none := rfl
theorem valV_pos {p : κ × V} {r : List (κ × V)} {k : κ} (e : p.1 = k) : valV (p :: r) k = some p.2 := by simp [valV, List.find?_cons, e]
theorem valV_neg {p : κ × V} {r : List (κ × V)} {k : κ} (e : ¬ p.1 = k) : valV (p :: r) k = valV r k := by simp [valV, List.find?_cons, e]
theorem valV_any (k : κ) : ∀ kvs : List (κ × V), (kvs.any fun kv => decide (kv.1 = k)) = (valV kvs k).isSome
  | [] => rfl
  | p :: r => by
    rw [List.any_cons]
    by_cases e : p.1 = k
    · simp only [valV_pos e, decide_eq_true e, Bool.true_or, Option.isSome_some]
    · rw [valV_neg e, decide_eq_false e, Bool.false_or]; exact valV_any k r
theorem length_putK (kvs : List (κ × V)) (k : κ) (v : V) : (putK kvs k v).length ≤ kvs.length + 1 := by
  unfold putK
  split
  · rw [List.length_map]; omega
  · rw [List.length_append, List.length_cons, List.length_nil]; omega
theorem putK_new {kvs : List (κ × V)} {k : κ} (v : V) (h : valV kvs k = none) : putK kvs k v = kvs ++ [(k, v)] := by
  unfold putK
  rw [valV_any, h]
  exact if_neg (by decide)
theorem RelO.isSome_eq {o : Option V} {u : Option Value} (r : RelO o u) : o.isSome = u.isSome := by
  cases o with
  | none => cases u with
    | none => rfl
    | some _ => exact (show False from r).elim
  | some _ => cases u with
    | none => exact (show False from r).elim
    | some _ => rfl
theorem RelO.getD {o : Option V} {u : Option Value} {d : V} {d' : Value} (r : RelO o u) (rd : RelV d d') : RelV (o.getD d) (u.getD d') := by
  cases o with
  | none => cases u with
    | none => exact rd
    | some _ => exact (show False from r).elim
  | some _ => cases u with
    | none => exact (show False from r).elim
    | some _ => exact r
theorem KV.val {kvs : List (κ × V)} {vs : List (κ × Value)} (r : KV kvs vs) (k : κ) : RelO (valV kvs k) (valueAt vs k) := by
  unfold KV at r
  induction r with
  | nil => exact True.intro
  | @cons p q ps qs h t ih =>
    obtain ⟨h1, h2⟩ := h
    by_cases e : p.1 = k
    · have e' : q.1 = k := h1.symm.trans e
      have b : valueAt (q :: qs) k = some q.2 := by simp [valueAt, List.find?_cons, e']
      rw [valV_pos e, b]; exact h2
    · have e' : ¬ q.1 = k := fun z => e (h1.trans z)
      have b : valueAt (q :: qs) k = valueAt qs k := by simp [valueAt, List.find?_cons, e']
      rw [valV_neg e, b]; exact ih
theorem KV.any {kvs : List (κ × V)} {vs : List (κ × Value)} (r : KV kvs vs) (k : κ) : (kvs.any fun kv => decide (kv.1 = k)) = vs.any fun kv => decide (kv.1 = k) := by
  unfold KV at r
  induction r with
  | nil => rfl
  | cons h t ih => rw [List.any_cons, List.any_cons, ih, h.1]
theorem KV.repl {kvs : List (κ × V)} {vs : List (κ × Value)} (r : KV kvs vs) (k : κ) {y : V} {u : Value} (ry : RelV y u) :
    KV (kvs.map fun kv => if kv.1 = k then (kv.1, y) else kv) (vs.map fun kv => if kv.1 = k then (kv.1, u) else kv) := by
  unfold KV at r ⊢
  induction r with
  | nil => exact .nil
  | @cons p q ps qs h t ih =>
    rw [List.map_cons, List.map_cons]
    refine .cons ?_ ih
    obtain ⟨h1, h2⟩ := h
    by_cases e : p.1 = k
    · rw [if_pos e, if_pos (h1.symm.trans e)]; exact ⟨h1, ry⟩
    · rw [if_neg e, if_neg (fun z => e (h1.trans z))]; exact ⟨h1, h2⟩
theorem KV.put {kvs : List (κ × V)} {vs : List (κ × Value)} (r : KV kvs vs) (k : κ) {y : V} {u : Value} (ry : RelV y u) : KV (putK kvs k y) (stored vs k u) := by
  unfold putK stored
  rw [r.any k]
  by_cases e : (vs.any fun kv => decide (kv.1 = k)) = true
  · rw [if_pos e, if_pos e]; exact r.repl k ry
  · rw [if_neg e, if_neg e]; exact Paired.snoc r ⟨rfl, ry⟩
theorem KV.drop {kvs : List (κ × V)} {vs : List (κ × Value)} (r : KV kvs vs) (k : κ) : KV (dropK kvs k) (without vs k) := by
  unfold KV at r ⊢
  unfold dropK without
  induction r with
  | nil => exact .nil
  | @cons p q ps qs h t ih =>
    obtain ⟨h1, h2⟩ := h
    rw [List.filter_cons, List.filter_cons]
    by_cases e : p.1 = k
    · have a : ¬ decide (p.1 ≠ k) = true := by simp [e]
      have b : ¬ decide (q.1 ≠ k) = true := by simp [h1.symm.trans e]
      rw [if_neg a, if_neg b]; exact ih
    · have e' : ¬ q.1 = k := fun z => e (h1.trans z)
      have a : decide (p.1 ≠ k) = true := by simp [e]
      have b : decide (q.1 ≠ k) = true := by simp [e']
      rw [if_pos a, if_pos b]; exact .cons ⟨h1, h2⟩ ih
theorem KV.keys {kvs : List (κ × V)} {vs : List (κ × Value)} (r : KV kvs vs) : kvs.map (·.1) = vs.map (·.1) := by
  unfold KV at r
  induction r with
  | nil => rfl
  | cons h t ih => rw [List.map_cons, List.map_cons, ih, h.1]
theorem KV.length {kvs : List (κ × V)} {vs : List (κ × Value)} (r : KV kvs vs) : kvs.length = vs.length := Paired.length r
end
theorem kV_is {P : Program} {w : World} {k : Key} {u : Value} (r : RelV (kV k) u) : (mixKind P w).is k u = true := by
  cases k with
  | inl i => obtain ⟨t, e⟩ := (show ∃ t, u = Value.int i t from r); subst e; exact mixKind_int P w i t
  | inr x => obtain ⟨t, e⟩ := (show ∃ t, u = Value.str x t from r); subst e; exact mixKind_str P w x t
theorem items_are {P : Program} {w : World} : ∀ {ks : List Key} {us : List Value}, Vals (ks.map kV) us → ItemsAre (mixKind P w) ks us
  | [], _, r => by rw [List.map_nil] at r; cases r; exact .nil
  | k :: ks, _, r => by
    rw [List.map_cons] at r
    cases r with
    | cons h t => exact .cons (kV_is h) (items_are t)
abbrev KT (H : Hp) : List (List Key × V) → List (List Key × Addr × Value) → Prop := Paired fun p q => p.1 = q.1 ∧ H q.2.1 = some (.tup (p.1.map kV)) ∧ RelV p.2 q.2.2
theorem KT.val {H : Hp} {kvs : List (List Key × V)} {xs : List (List Key × Addr × Value)} (r : KT H kvs xs) (k : List Key) : RelO (valV kvs k) ((atKey xs k).map (·.2)) := by
  induction r with
  | nil => exact True.intro
  | @cons p q ps qs h t ih =>
    obtain ⟨h1, _, h2⟩ := h
    by_cases e : p.1 = k
    · have e' : q.1 = k := h1.symm.trans e
      have b : atKey (q :: qs) k = some q.2 := by simp [atKey, List.find?_cons, e']
      rw [valV_pos e, b]; exact h2
    · have e' : ¬ q.1 = k := fun z => e (h1.trans z)
      have b : atKey (q :: qs) k = atKey qs k := by simp [atKey, List.find?_cons, e']
      rw [valV_neg e, b]; exact ih
theorem KT.repl {H : Hp} {kvs : List (List Key × V)} {xs : List (List Key × Addr × Value)} (r : KT H kvs xs) (k : List Key) {y : V} {u : Value} (ry : RelV y u) :
    KT H (kvs.map fun kv => if kv.1 = k then (kv.1, y) else kv) (xs.map (putAt k u)) := by
  induction r with
  | nil => exact .nil
  | @cons p q ps qs h t ih =>
    rw [List.map_cons, List.map_cons]
    refine .cons ?_ ih
    obtain ⟨h1, h2, h3⟩ := h
    unfold putAt
    by_cases e : p.1 = k
    · rw [if_pos e, if_pos (h1.symm.trans e)]; exact ⟨h1, h2, ry⟩
    · rw [if_neg e, if_neg (fun z => e (h1.trans z))]; exact ⟨h1, h2, h3⟩
theorem KT.put {H : Hp} {kvs : List (List Key × V)} {xs : List (List Key × Addr × Value)} (r : KT H kvs xs) (k : List Key) {b : Addr} {y : V} {u : Value} (hb : H b = some (.tup (k.map kV))) (ry : RelV y u) :
    KT H (putK kvs k y) (storedH xs k b u) := by
  have e : (kvs.any fun kv => decide (kv.1 = k)) = (atKey xs k).isSome := by
    rw [valV_any, (r.val k).isSome_eq, Option.isSome_map]
  unfold putK storedH
  rw [e]
  by_cases q : (atKey xs k).isSome = true
  · rw [if_pos q, if_pos q]; exact r.repl k ry
  · rw [if_neg q, if_neg q]; exact Paired.snoc r ⟨rfl, hb, ry⟩
theorem KT.keeps {H H' : Hp} {kvs : List (List Key × V)} {xs : List (List Key × Addr × Value)} (r : KT H kvs xs) (ht : ∀ b ys, H b = some (.tup ys) → H' b = some (.tup ys)) : KT H' kvs xs :=
  Paired.mapP r fun _ _ z => ⟨z.1, ht _ _ z.2.1, z.2.2⟩
section
variable {P : Program} {w : World} {H : Hp} {h : Heap} {a : Addr}
theorem rd_of {u : HO} (ok : HOk P w H h) (e : Rd H a u) : ObjOk P w H h a u := e.ok ok
theorem dk_rd {kvs : List (Key × V)} (ok : HOk P w H h) (e : Rd H a (.dK kvs)) : kvs.length ≤ sizeLine ∧ (a == sysModules) = false ∧ ∃ vs, KV kvs vs ∧ h.DictOf (mixKind P w) a vs :=
  show ObjOk P w H h a (.dK kvs) from rd_of ok e
theorem dk_of {kvs : List (Key × V)} (ok : HOk P w H h) (e : H a = some (.dK kvs)) : kvs.length ≤ sizeLine ∧ (a == sysModules) = false ∧ ∃ vs, KV kvs vs ∧ h.DictOf (mixKind P w) a vs := dk_rd ok (.inl e)
theorem key_of {ks : List Key} (ok : HOk P w H h) (e : H a = some (.tup (ks.map kV))) : (tupleKind (mixKind P w)).is h ks a := by
  obtain ⟨_, its, r, o, h1, h2, n, h3⟩ := (show ObjOk P w H h a (.tup (ks.map kV)) from ok a _ e)
  exact ⟨o, its.toArray, n, h1, h2, h3, by simpa using items_are r⟩
theorem dt_rd {kvs : List (List Key × V)} (ok : HOk P w H h) (e : Rd H a (.dT kvs)) : kvs.length ≤ sizeLine ∧ (a == sysModules) = false ∧
    ∃ xs, KT H kvs xs ∧ h.DictOfH (tupleKind (mixKind P w)) a xs := by
  obtain ⟨z, y, xs, r, o, es, ep, h1, h2, h3, h4, h5⟩ := (show ObjOk P w H h a (.dT kvs) from rd_of ok e)
  refine ⟨z, y, xs, r, o, es, ep, h1, h2, h3, h4, fun x hx => ?_, h5⟩
  have all : ∀ {l : List (List Key × V)} {m : List (List Key × Addr × Value)}, KT H l m → ∀ x ∈ m, (tupleKind (mixKind P w)).is h x.1 x.2.1 := by
    intro l m q
    induction q with
    | nil => intro x hx; exact nomatch hx
    | @cons p q ps qs hq t ih =>
      intro x hx
      rcases List.mem_cons.mp hx with e | hx
      · subst e
        exact key_of ok (by rw [← hq.1]; exact hq.2.1)
      · exact ih x hx
  exact all r x hx
theorem dt_of {kvs : List (List Key × V)} (ok : HOk P w H h) (e : H a = some (.dT kvs)) : kvs.length ≤ sizeLine ∧ (a == sysModules) = false ∧
    ∃ xs, KT H kvs xs ∧ h.DictOfH (tupleKind (mixKind P w)) a xs := dt_rd ok (.inl e)
end
def DGet (H : Hp) (a : Addr) (y : V) (r : Option V) : Prop :=
  (∃ kvs k, Rd H a (.dK kvs) ∧ y = kV k ∧ r = valV kvs k) ∨ ∃ kvs k b, Rd H a (.dT kvs) ∧ y = .ref b ∧ H b = some (.tup (k.map kV)) ∧ r = valV kvs k
def DPut (H : Hp) (a : Addr) (y v : V) (H' : Hp) : Prop :=
  (∃ kvs k, H a = some (.dK kvs) ∧ y = kV k ∧ kvs.length < sizeLine ∧ H' = upd H a (.dK (putK kvs k v))) ∨
  ∃ kvs k b, H a = some (.dT kvs) ∧ y = .ref b ∧ H b = some (.tup (k.map kV)) ∧ kvs.length < sizeLine ∧ H' = upd H a (.dT (putK kvs k v))
theorem DGet.k {H : Hp} {a : Addr} {kvs : List (Key × V)} {k : Key} (e : H a = some (.dK kvs)) : DGet H a (kV k) (valV kvs k) := .inl ⟨kvs, k, .inl e, rfl, rfl⟩
theorem DGet.t {H : Hp} {a b : Addr} {kvs : List (List Key × V)} {k : List Key} (e : H a = some (.dT kvs)) (eb : H b = some (.tup (k.map kV))) : DGet H a (.ref b) (valV kvs k) := .inr ⟨kvs, k, b, .inl e, rfl, eb, rfl⟩
theorem DPut.k {H : Hp} {a : Addr} {kvs : List (Key × V)} {k : Key} {v : V} (e : H a = some (.dK kvs)) (hl : kvs.length < sizeLine) : DPut H a (kV k) v (upd H a (.dK (putK kvs k v))) := .inl ⟨kvs, k, e, rfl, hl, rfl⟩
theorem DPut.t {H : Hp} {a b : Addr} {kvs : List (List Key × V)} {k : List Key} {v : V} (e : H a = some (.dT kvs)) (eb : H b = some (.tup (k.map kV))) (hl : kvs.length < sizeLine) :
    DPut H a (.ref b) v (upd H a (.dT (putK kvs k v))) := .inr ⟨kvs, k, b, e, rfl, eb, hl, rfl⟩
section
variable {X : Cx} {pins : List (Addr × Obj)} {σ : St} {H : Hp} {s : Shared} {a : Addr} {y v : V} {u r : Value} {o : Option V} {A : Around} {E : Value → Shared → Prop}
theorem Inv.big (I : Inv X pins σ H s) : sysModules < s.heap.objs.size := by
  have h : mainGlobals < s.heap.objs.size := (I.mod.glob.keeps I.bk).lt
  exact Nat.lt_trans (by decide) h
theorem d_getItem {Q : Value → Shared → Prop} (hu : A.units + 1 < cLine) (I : Inv X pins σ H s) (g : DGet H a y (some v)) (ry : RelV y u) (h : ∀ w' s', Inv X pins σ H s' → RelV v w' → Q w' s') :
    wpAny (model X.prog X.w) A (getItem (.ref a) u) Q E s := by
  rcases g with ⟨kvs, k, e, ey, l⟩ | ⟨kvs, k, b, e, ey, eb, l⟩
  · subst ey
    obtain ⟨z, hd, vs, rel, dd⟩ := dk_rd I.hok e
    obtain ⟨w', hw, rw'⟩ := RelO.some_of (v := v) (o := valueAt vs k) (by rw [l]; exact rel.val k)
    exact wpAny_getItem_of (kV_is ry) dd.mapOf hw (h w' _ (I.tok _) rw')
  · subst ey
    cases (show u = Value.ref b from ry)
    obtain ⟨z, hd, xs, rel, dd⟩ := dt_rd I.hok e
    obtain ⟨w', hw, rw'⟩ := RelO.some_of (v := v) (o := (atKey xs k).map (·.2)) (by rw [l]; exact rel.val k)
    obtain ⟨p, hp, hp2⟩ := Option.map_eq_some_iff.mp hw
    refine wpAny_getItem_heap (tupleKind_room_in1 hu) (key_of I.hok eb) dd hp ?_
    rw [hp2]
    exact h w' _ (I.tok _) rw'
theorem d_in {Q : Value → Shared → Prop} (hu : A.units + 1 < cLine) (I : Inv X pins σ H s) (g : DGet H a y o) (ry : RelV y u) (h : ∀ s', Inv X pins σ H s' → Q (.bool o.isSome) s') :
    wpAny (model X.prog X.w) A (compareOp .In u (.ref a)) Q E s := by
  rcases g with ⟨kvs, k, e, ey, l⟩ | ⟨kvs, k, b, e, ey, eb, l⟩
  · subst ey
    obtain ⟨z, hd, vs, rel, dd⟩ := dk_rd I.hok e
    refine wpAny_in_of (kV_is ry) hd dd.mapOf ?_
    rw [← (rel.val k).isSome_eq, ← l]
    exact h _ (I.tok _)
  · subst ey
    cases (show u = Value.ref b from ry)
    obtain ⟨z, hd, xs, rel, dd⟩ := dt_rd I.hok e
    refine wpAny_in_heap (tupleKind_room_in1 hu) (key_of I.hok eb) hd dd ?_
    have q := (rel.val k).isSome_eq
    rw [Option.isSome_map] at q
    rw [← q, ← l]
    exact h _ (I.tok _)
theorem d_notIn {Q : Value → Shared → Prop} (hu : A.units + 1 < cLine) (I : Inv X pins σ H s) (g : DGet H a y o) (ry : RelV y u) (h : ∀ s', Inv X pins σ H s' → Q (.bool (!o.isSome)) s') :
    wpAny (model X.prog X.w) A (compareOp .NotIn u (.ref a)) Q E s := by
  rcases g with ⟨kvs, k, e, ey, l⟩ | ⟨kvs, k, b, e, ey, eb, l⟩
  · subst ey
    obtain ⟨z, hd, vs, rel, dd⟩ := dk_rd I.hok e
    refine wpAny_notIn_of (kV_is ry) hd dd.mapOf ?_
    rw [← (rel.val k).isSome_eq, ← l]
    exact h _ (I.tok _)
  · subst ey
    cases (show u = Value.ref b from ry)
    obtain ⟨z, hd, xs, rel, dd⟩ := dt_rd I.hok e
    refine wpAny_notIn_heap (tupleKind_room_in1 hu) (key_of I.hok eb) hd dd ?_
    have q := (rel.val k).isSome_eq
    rw [Option.isSome_map] at q
    rw [← q, ← l]
    exact h _ (I.tok _)
theorem d_write {h' : Heap} {t' : Nat} {ob : HO} (I : Inv X pins σ H s) (mu : Mut (H a)) (hs : Heap.SameBut a s.heap h') (he : ∃ q, h'.get? a = some q) (new : ObjOk X.prog X.w (upd H a ob) h' a ob) :
    Inv X pins σ (upd H a ob) { s with heap := h', toks := t' } :=
  I.write (x := a) (e := a) mu (.inl rfl) (fun b q hb z => (hs.2 b hb).trans z) he new
theorem dk_new {P : Program} {w : World} {H' : Hp} {h' : Heap} {kvs : List (Key × V)} {vs : List (Key × Value)} (z : kvs.length ≤ sizeLine) (hd : (a == sysModules) = false) (rel : KV kvs vs) (dd : h'.DictOf (mixKind P w) a vs) :
    ObjOk P w H' h' a (.dK kvs) := ⟨z, hd, vs, rel, dd⟩
theorem d_setItem {H' : Hp} {Q : Unit → Shared → Prop} (hu : A.units + 1 < cLine) (I : Inv X pins σ H s) (g : DPut H a y v H') (ry : RelV y u) (rv : RelV v r) (h : ∀ s', Inv X pins σ H' s' → Q () s') :
    wpAny (model X.prog X.w) A (setItem (.ref a) u r) Q E s := by
  rcases g with ⟨kvs, k, e, ey, l, eH⟩ | ⟨kvs, k, b, e, ey, eb, l, eH⟩
  · subst ey eH
    obtain ⟨z, hd, vs, rel, dd⟩ := dk_of I.hok e
    have hz : vs.length ≤ sizeLine := by rw [← rel.length]; exact z
    have hl : (putK kvs k v).length ≤ sizeLine := by have := length_putK kvs k v; omega
    refine wpAny_setItem_pairs (hsz := hz) (kV_is ry) dd fun h' dd' hs => h _ ?_
    have he : ∃ q, h'.get? a = some q := let ⟨q, _, _, hq, _⟩ := dd'; ⟨q, hq⟩
    exact d_write I (by rw [e]; exact True.intro) hs he (dk_new hl hd (rel.put k rv) dd')
  · subst ey eH
    cases (show u = Value.ref b from ry)
    obtain ⟨z, hd, xs, rel, dd⟩ := dt_of I.hok e
    have hz : xs.length ≤ sizeLine := by rw [← Paired.length rel]; exact z
    have hl : (putK kvs k v).length ≤ sizeLine := by have := length_putK kvs k v; omega
    refine wpAny_setItem_heap (hsz := hz) (tupleKind_room_in1 hu) (key_of I.hok eb) dd fun h' dd' hs => h _ ?_
    obtain ⟨q, es, ep, hq, h2, h3, h4, _, h5⟩ := dd'
    refine d_write I (by rw [e]; exact True.intro) hs ⟨q, hq⟩ ⟨hl, hd, _, (rel.put k eb rv).keeps fun c ys ec => ?_, q, es, ep, hq, h2, h3, h4, h5⟩
    rw [upd_ne (ne_of ec e (fun z => nomatch z))]
    exact ec
end
section
variable {X : Cx} {pins : List (Addr × Obj)} {σ : St} {H : Hp} {s : Shared} {a : Addr} {kvs : List (Key × V)} {k : Key} {u : Value} {A : Around} {E : Value → Shared → Prop}
theorem d_len {Q : Value → Shared → Prop} (I : Inv X pins σ H s) (e : Rd H a (.dK kvs)) (h : ∀ t s', Inv X pins σ H s' → Q (.int kvs.length t) s') : wpAny (model X.prog X.w) A (call (.builtin "len") [.ref a]) Q E s := by
  obtain ⟨z, hd, vs, rel, dd⟩ := dk_rd I.hok e
  refine call_len_dict hd dd (by rw [← rel.length]; rw [sizeLine_eq] at z; omega) ?_
  rw [← rel.length]
  exact h _ _ (I.tok _)
end
def NoSl (i : Expr) : Prop := ∀ ov iv, subscripted i false ov iv = operate [ov, iv] (getItem ov iv)
theorem subD_of {prog : Program} {w : World} {A : Around} {E : Value → Shared → Prop} {s : Shared} {env : Env} {value slice : Expr} {pos : Pos} {T id : String} {Q : Value → Shared → Prop}
    (hl : typeLookup (.type T) "__getitem__" = pure (some (.builtin id))) (hs : NoSl slice)
    (h : wpAny (model prog w) A (eval value env) (fun o s₁ => wpAny (model prog w) A (eval slice env) (fun i s₂ => s₂.TypeIs o T ∧ wpAny (model prog w) A (getItem o i) Q E s₂) E s₁) E s) :
    wpAny (model prog w) A (eval (.Subscript value slice pos) env) Q E s := by
  refine Subscript_ (wpAny_mono h (fun o s₁ h₁ => wpAny_mono h₁ (fun i s₂ h₂ => ?_) fun _ _ x => x) fun _ _ x => x)
  obtain ⟨hT, h₂⟩ := h₂
  unfold subscriptTail
  refine wpAny_bind ?_
  rw [getitemInPython_of_ne hT.not_modules]
  refine wpAny_bind (wpAny_specialOf hT hl ?_)
  have fin : wpAny (model prog w) A (subscripted slice false o i) (fun r s₃ => wpAny (model prog w) A (letTemporaryGo value o r >>= fun _ => pure r) Q E s₃) E s₂ := by
    rw [hs o i]
    exact wpAny_operating (wpAny_mono h₂ (fun r s₃ h₃ => wpAny_bind (wpAny_letTemporaryGo (wpAny_pure h₃))) fun _ _ x => x)
  first
    | exact wpAny_pure (wpAny_bind fin)
    | exact wpAny_bind (wpAny_pure (wpAny_bind fin))
    | exact wpAny_bind fin
theorem dict_typeIs {X : Cx} {pins : List (Addr × Obj)} {σ : St} {H : Hp} {s : Shared} {a : Addr} {y : V} {o : Option V} (I : Inv X pins σ H s) (g : DGet H a y o) : s.TypeIs (.ref a) "dict" := by
  rcases g with ⟨kvs, k, e, _, _⟩ | ⟨kvs, k, b, e, _, _, _⟩
  · obtain ⟨_, _, vs, _, dd⟩ := dk_rd I.hok e
    exact dd.typeIs
  · obtain ⟨_, _, xs, _, dd⟩ := dt_rd I.hok e
    exact dd.typeIs
def tDGet (td ty : TE) : TE := fun σ H Q => td σ H fun x H1 => ty σ H1 fun y H2 => ∃ a v, x = .ref a ∧ DGet H2 a y (some v) ∧ Q v H2
def tDIn (ty td : TE) : TE := fun σ H Q => ty σ H fun y H1 => td σ H1 fun x H2 => ∃ a o, x = .ref a ∧ DGet H2 a y o ∧ Q (.bl o.isSome) H2
def tDNotIn (ty td : TE) : TE := fun σ H Q => ty σ H fun y H1 => td σ H1 fun x H2 => ∃ a o, x = .ref a ∧ DGet H2 a y o ∧ Q (.bl (!o.isSome)) H2
def sDPut (td ty tv : TE) : TS := fun D σ H => tv σ H fun v H1 => td σ H1 fun x H2 => ty σ H2 fun y H3 => ∃ a H4, x = .ref a ∧ DPut H3 a y v H4 ∧ D.nx σ H4
section
variable {X : Cx} {o i e value : Expr} {pos pos' tpos : Pos} {td ty tv : TE}
theorem pe_dget (hu : X.A.units + 1 < cLine) (ho : PE X o td) (hi : PE X i ty) (hs : NoSl i) : PE X (.Subscript o i pos) (tDGet td ty) := by
  intro pins s σ H Q I h
  refine subD_of PySem.F.slot_dict_getitem.lookup hs (thn (ho pins s σ H _ I h) fun u s1 ⟨x, H1, I1, rx, q1⟩ => thn (hi pins s1 σ H1 _ I1 q1) fun iv s2 ⟨y, H2, I2, ry, a, v, ex, g, q2⟩ => ?_)
  subst ex
  obtain rfl : u = Value.ref a := rx
  exact ⟨dict_typeIs I2 g, d_getItem hu I2 g ry fun w' s3 I3 rw' => ⟨v, H2, I3, rw', q2⟩⟩
theorem pc_din (hu : X.A.units + 1 < cLine) (hi : PE X i ty) (ho : PE X o td) : PC X .In i o (tDIn ty td) := by
  intro pins s σ H Q I h
  refine thn (hi pins s σ H _ I h) fun iv s1 ⟨y, H1, I1, ry, q1⟩ => thn (ho pins s1 σ H1 _ I1 q1) fun u s2 ⟨x, H2, I2, rx, a, ov, ex, g, q2⟩ => ?_
  subst ex
  obtain rfl : u = Value.ref a := rx
  exact d_in hu I2 g ry fun s3 I3 => ⟨.bl ov.isSome, H2, I3, rfl, q2⟩
theorem pc_dnotin (hu : X.A.units + 1 < cLine) (hi : PE X i ty) (ho : PE X o td) : PC X .NotIn i o (tDNotIn ty td) := by
  intro pins s σ H Q I h
  refine thn (hi pins s σ H _ I h) fun iv s1 ⟨y, H1, I1, ry, q1⟩ => thn (ho pins s1 σ H1 _ I1 q1) fun u s2 ⟨x, H2, I2, rx, a, ov, ex, g, q2⟩ => ?_
  subst ex
  obtain rfl : u = Value.ref a := rx
  exact d_notIn hu I2 g ry fun s3 I3 => ⟨.bl (!ov.isSome), H2, I3, rfl, q2⟩
theorem ps_dput (hu : X.A.units + 1 < cLine) (ho : PE X o td) (hi : PE X i ty) (hv : PE X value tv) (hs : swapsWith value (some (.Subscript o i pos')) pos.line X.env = pure false) :
    PS X (.Assign [.Subscript o i pos'] value pos) (sDPut td ty tv) := by
  intro pins s σ H D I h
  refine wpAny_Assign_Subscript (thn (hv pins s σ H _ I h) fun r s1 ⟨v, H1, I1, rv, q1⟩ => thn (ho pins s1 σ H1 _ I1 q1) fun u s2 ⟨x, H2, I2, rx, q2⟩ => thn (hi pins s2 σ H2 _ I2 q2) fun iv s3 ⟨y, H3, I3, ry, a, H4, ex, g, q3⟩ => ?_) hs
  subst ex
  obtain rfl : u = Value.ref a := rx
  exact d_setItem hu I3 g ry rv fun s4 I4 => ⟨σ, H4, I4, q3⟩
end
theorem dk_empty {P : Program} {w : World} {H : Hp} (h : Heap) (hb : sysModules < h.objs.size) : ObjOk P w H (h.push { cls := .type "dict", data := .dict #[] }) h.objs.size (.dK []) :=
  ⟨Nat.zero_le _, beq_eq_false_iff_ne.mpr (Ne.symm (Nat.ne_of_lt hb)), [], .nil, Heap.DictOf.new h⟩
def tDNewK : TE := fun _ H Q => ∀ p, H p = none → Q (.ref p) (upd H p (.dK []))
section
variable {X : Cx} {pos : Pos}
theorem pe_dnewK : PE X (.Dict [] [] pos) tDNewK := fun pins s σ H Q I h =>
  wpAny_Dict_empty ⟨.ref s.heap.objs.size, _, I.laid (a := s.heap.objs.size) (o := .dK []) (t' := s.toks) (fun _ _ q => Heap.get?_push_of_some _ q) (Nat.le_refl _) (dk_empty s.heap I.big), rfl, h _ (I.hok.fresh (Nat.le_refl _))⟩
end
abbrev VV : List (V × V) → List (Value × Value) → Prop := Paired fun p q => RelV p.1 q.1 ∧ RelV p.2 q.2
structure M1 (X : Cx) (o : Expr) (m : Str) (apos : Pos) (e : Expr) (cpos : Pos) : Prop where
  base : attributeBase o m X.env (eval o X.env) = eval o X.env
  few : ((backTo cpos (starEach [e] X.env)).all (fun x => !x.1) && (backToKw cpos (keywordEach [] X.env)).all (fun x => x.1.isSome)
    && decide (([e] : List Expr).length + ([] : List Keyword).length + (if ([] : List Keyword).isEmpty then 0 else 1) < 30)) = true
  line : (apos.endLine == cpos.line) = true
  trees : backTo cpos (starEach [e] X.env) = [(false, eval e X.env)]
structure M2 (X : Cx) (o : Expr) (m : Str) (apos : Pos) (e f : Expr) (cpos : Pos) : Prop where
  base : attributeBase o m X.env (eval o X.env) = eval o X.env
  few : ((backTo cpos (starEach [e, f] X.env)).all (fun x => !x.1) && (backToKw cpos (keywordEach [] X.env)).all (fun x => x.1.isSome)
    && decide (([e, f] : List Expr).length + ([] : List Keyword).length + (if ([] : List Keyword).isEmpty then 0 else 1) < 30)) = true
  line : (apos.endLine == cpos.line) = true
  trees : backTo cpos (starEach [e, f] X.env) = [(false, eval e X.env), (false, eval f X.env)]
section
variable {X : Cx} {pins : List (Addr × Obj)} {σ : St} {H : Hp} {s : Shared} {a : Addr} {y d : V} {u r : Value} {o : Option V} {A : Around} {E : Value → Shared → Prop}
end
section
variable {X : Cx} {o e f : Expr} {apos cpos : Pos} {td ty tx : TE}
end
section
variable {X : Cx} {pins : List (Addr × Obj)} {σ : St} {H : Hp} {s : Shared} {a : Addr} {kvs : List (Key × V)} {A : Around} {E : Value → Shared → Prop}
end
section
variable {X : Cx} {pins : List (Addr × Obj)} {σ : St} {H : Hp} {s : Shared} {a : Addr} {y : V} {u : Value} {A : Around} {E : Value → Shared → Prop}
end
end L2
namespace L2
open PySem PySem.Spec PyProof.Rows
section
variable {prog : Program} {w : World} {A : Around} {E : Value → Shared → Prop}
end
section
variable {X : Cx}
end
end L2
namespace L2
open PySem PySem.Spec PyProof.Rows
theorem boot_reversed5 : bootBuiltins "reversed" = some (.type "reversed") := by decide +kernel
section
variable {X : Cx} {pins : List (Addr × Obj)} {σ : St} {H : Hp} {s : Shared} {h' : Heap}
theorem Inv.turnedNew {t' : Nat} {ch : List Addr} {T : Addr} {ob : HO} (I : Inv X pins σ H s) (k : ∀ b o, b ∉ ch → s.heap.get? b = some o → h'.get? b = some o) (hf : ∀ b ∈ ch, FpOk X pins H b) (hT : s.heap.objs.size ≤ T)
    (new : ObjOk X.prog X.w (upd H T ob) h' T ob) : Inv X pins σ (upd H T ob) { s with heap := h', toks := t' } := by
  have hn : H T = none := I.hok.fresh hT
  have nit : ∀ b u, H b = some u → b ∉ ch := fun b u e z => by
    have q := (hf b z).1
    rw [q] at e; cases e
  refine I.step (g' := s.gens) (d' := s.drawn) (ch := ch) (fun b hb => ⟨(hf b hb).2.2.2.1, (hf b hb).2.1, (hf b hb).2.2.2.2.1, (hf b hb).2.2.2.2.2⟩) (fun b o _ _ hc e _ => k b o hc e) (fun b o _ _ hc e _ => ⟨o.slots, k b o hc e⟩)
    (fun b o _ e n => ?_) (fun b o hc e => ⟨o, k b o hc e⟩) (fun b xs e => ?_) (fun b o u e => ?_) (fun b ps e => ⟨#[], ?_⟩) (fun m hm => ?_) (fun b u e => ?_) I.bare
  · rw [upd_ne (Nat.ne_of_lt (Nat.lt_of_lt_of_le (Heap.lt_size e) hT))]; exact n
  · rw [upd_ne (ne_of_none e hn)]; exact e
  · rw [upd_ne (ne_of_none e hn)]; exact e
  · rw [upd_ne (ne_of_none e hn), e]; simp
  · obtain ⟨o, es, ep, ho, r⟩ := hm
    exact ⟨o, es, ep, k _ o (fun z => (hf _ z).2.1 rfl) ho, r⟩
  · by_cases hb : b = T
    · subst hb
      rw [upd_same] at e
      cases e
      exact new
    · rw [upd_ne hb] at e
      refine (I.hok b u e).stay (fun c v hc q => k c v ?_ q) (fun c q => by rw [upd_ne (ne_of_none q hn)]; exact q) fun c xs q => by rw [upd_ne (ne_of_none q hn)]; exact q
      rcases hc with z | z
      · rw [z]; exact nit b u e
      · exact nit c _ z
theorem Inv.lock {d : Addr} {u : HO} (I : Inv X pins σ H s) (h : H d = some u) (mu : Mut (some u)) : ∃ od, Inv X pins σ (upd H d (.frz od u)) s := by
  have x := I.hok d u h
  have ex : ∃ od, s.heap.get? d = some od := by
    cases u with
    | lst xs => obtain ⟨_, _, _, _, e⟩ := x; exact ⟨_, e⟩
    | dK kvs => obtain ⟨_, _, _, _, o, _, _, e, _⟩ := x; exact ⟨o, e⟩
    | dT kvs => obtain ⟨_, _, _, _, o, _, _, e, _⟩ := x; exact ⟨o, e⟩
    | set S n => obtain ⟨o, _, _, _, e, _⟩ := x; exact ⟨o, e⟩
    | ins C dx fs => obtain ⟨_, _, _, e, _⟩ := x; exact ⟨_, e⟩
    | ext φ => obtain ⟨_, ⟨_, e⟩, _⟩ := x; exact ⟨_, e⟩
    | _ => exact False.elim mu
  obtain ⟨od, e⟩ := ex
  have new : ObjOk X.prog X.w (upd H d (.frz od u)) s.heap d (.frz od u) := by
    refine ⟨e, x.stay (fun b v _ q => q) (fun b q => ?_) fun b xs q => ?_⟩
    · rw [upd_ne (fun z => by rw [z, h] at q; cases q; exact mu)]; exact q
    · rw [upd_ne (fun z => by rw [z, h] at q; cases q; exact mu)]; exact q
  exact ⟨od, I.write (x := d) (e := d) (t' := s.toks) (h' := s.heap) (by rw [h]; exact mu) (.inl rfl) (fun b v _ q => q) ⟨od, e⟩ new⟩
theorem Inv.nofrz {d : Addr} {u : HO} (I : Inv X pins σ H s) (h : H d = some u) (mu : Mut (some u)) : ∀ o' u', X.H_0 d ≠ some (.frz o' u') := fun o' u' e => by
  have q := I.base.frzs d o' u' e
  rw [h] at q
  cases q
  exact mu
theorem Inv.unlock {d : Addr} {od : Obj} {u : HO} (I : Inv X pins σ H s) (h : H d = some (.frz od u)) (hn : ∀ o' u', X.H_0 d ≠ some (.frz o' u')) : Inv X pins σ (upd H d u) s := by
  have neH : ∀ b o, H b = some o → (∀ o' u', o ≠ .frz o' u') → b ≠ d := fun b o e hne z => by
    rw [z, h] at e
    cases e
    exact hne _ _ rfl
  have neN : ∀ b, H b = none → b ≠ d := fun b e z => by rw [z, h] at e; cases e
  refine ⟨I.ok, I.os, I.bare, ⟨I.base.keep, I.base.slot, fun b o e n hx => ?_, I.base.there, fun b xs e => ?_, fun b o x e => ?_, fun b ps e => ?_⟩, I.loc, I.cell, ?_, fun x c e => ?_, fun p hp => ?_, fun b o e => ?_, I.len⟩
  · rw [upd_ne (neN b (I.base.free b o e n hx))]; exact I.base.free b o e n hx
  · have q := I.base.tups b xs e
    rw [upd_ne (neH b _ q (fun _ _ z => nomatch z))]; exact q
  · have q := I.base.frzs b o x e
    rw [upd_ne (fun z => by rw [z] at e; exact hn _ _ e)]; exact q
  · obtain ⟨m, q⟩ := I.base.tbls b ps e
    exact ⟨m, by rw [upd_ne (neH b _ q (fun _ _ z => nomatch z))]; exact q⟩
  · rw [upd_ne (neN _ I.free)]; exact I.free
  · rw [upd_ne (neN c (I.freeC x c e))]; exact I.freeC x c e
  · obtain ⟨e, n, r⟩ := I.pin p hp
    exact ⟨e, by rw [upd_ne (neN _ n)]; exact n, r⟩
  · by_cases hb : b = d
    · rw [hb, upd_same] at e
      cases e
      rw [hb]
      obtain ⟨_, x⟩ := I.hok d _ h
      exact x.stay (fun c v _ q => q) (fun c q => by rw [upd_ne (neH c _ q (fun _ _ z => nomatch z))]; exact q) fun c xs q => by rw [upd_ne (neH c _ q (fun _ _ z => nomatch z))]; exact q
    · rw [upd_ne hb] at e
      exact (I.hok b o e).stay (fun c v _ q => q) (fun c q => by rw [upd_ne (neH c _ q (fun _ _ z => nomatch z))]; exact q) fun c xs q => by rw [upd_ne (neH c _ q (fun _ _ z => nomatch z))]; exact q
end
def tLock (t : TS) : TS := fun D σ H => ∃ d u, H d = some u ∧ Mut (some u) ∧ ∀ od, t ⟨fun σ' H' => H' d = some (.frz od u) ∧ D.nx σ' (upd H' d u), fun v H' => H' d = some (.frz od u) ∧ D.rt v (upd H' d u), fun σ' H' => H' d = some (.frz od u) ∧ D.bk σ' (upd H' d u), fun σ' H' => H' d = some (.frz od u) ∧ D.ct σ' (upd H' d u)⟩ σ (upd H d (.frz od u))
def tLockE (t : TE) : TE := fun σ H Q => ∃ d u, H d = some u ∧ Mut (some u) ∧ ∀ od, t σ (upd H d (.frz od u)) fun v H' => H' d = some (.frz od u) ∧ Q v (upd H' d u)
section
variable {X : Cx}
theorem ps_lock {st : Stmt} {t : TS} (h : PS X st t) : PS X st (tLock t) := by
  intro pins s σ H D I hw
  obtain ⟨d, u, hd, mu, hw⟩ := hw
  obtain ⟨od, I1⟩ := I.lock hd mu
  refine thn (h pins s σ _ _ I1 (hw od)) fun f s1 q => ?_
  cases f with
  | next => obtain ⟨σ', H', I2, e, q⟩ := q; exact ⟨σ', _, I2.unlock e (I.nofrz hd mu), q⟩
  | brk => obtain ⟨σ', H', I2, e, q⟩ := q; exact ⟨σ', _, I2.unlock e (I.nofrz hd mu), q⟩
  | cont => obtain ⟨σ', H', I2, e, q⟩ := q; exact ⟨σ', _, I2.unlock e (I.nofrz hd mu), q⟩
  | ret v => obtain ⟨x, σ', H', I2, r, e, q⟩ := q; exact ⟨x, σ', _, I2.unlock e (I.nofrz hd mu), r, q⟩
theorem pe_lock {e : Expr} {t : TE} (h : PE X e t) : PE X e (tLockE t) := by
  intro pins s σ H Q I hw
  obtain ⟨d, u, hd, mu, hw⟩ := hw
  obtain ⟨od, I1⟩ := I.lock hd mu
  refine thn (h pins s σ _ _ I1 (hw od)) fun v s1 ⟨x, H1, I2, r, e2, q⟩ => ?_
  exact ⟨x, _, I2.unlock e2 (I.nofrz hd mu), r, q⟩
theorem pi_one {tg : Expr} {pins : List (Addr × Obj)} {σ : St} {H : Hp} {s : Shared} {R : It → Hp → Prop} {J : It} {tn : Nat → Heap → Prop} {tk : Nat} (I : Inv X pins σ H s) (o : Obj)
    (T : Turn X.prog X.w X.K tg J [s.heap.objs.size] s.heap.objs.size tn) (st : tn 0 (s.heap.push o)) (q : R J H) : PIE X pins σ tg R (.ref s.heap.objs.size) { s with heap := s.heap.push o, toks := tk } := by
  refine ⟨s.heap.objs.size, [s.heap.objs.size], tn, J, H, rfl, I.kept fun b ob e => Heap.get?_push_of_some _ e, T, st, fun b hb => ?_, q⟩
  have e : b = s.heap.objs.size := by simpa using hb
  subst e
  exact I.fpOk (Nat.le_refl _) (I.hok.fresh (Nat.le_refl _))
end
def Itc (lo c : Int) (n : Nat) : It := ⟨fun i _ => i < n, fun i H x H' => H' = H ∧ x = .int (lo + (i : Nat) * c), fun i _ => n ≤ i⟩
theorem turn_rangeC {P : Program} {w : World} {K : PySem.W.Frag} {tg : Expr} (it : Addr) (lo c : Int) (n : Nat) : Turn P w K tg (Itc lo c n) [it] it (fun i h => IsRangeIter h it (lo + (i : Nat) * c) ((n : Int) - (i : Nat)) c) where
  mem := by simp
  obj := fun i h st b hb => by
    have e : b = it := by simpa using hb
    subst e
    exact ⟨_, st, fun v z => nomatch z⟩
  keep := fun i h h' st k => k it (by simp) _ st
  item := by
    intro X hP hw hK hc i pins s σ H E I hf st hg
    subst hP hw hK
    obtain ⟨f0, f1, f2, f3, f4, f5⟩ := hf it (by simp)
    have W := Walks.range (prog := X.prog) (w := X.w) (I.ok.hd hc) it lo c n
    refine W.item i s _ _ hg st fun v h' tk hv st' kk => ?_
    obtain ⟨t, rfl⟩ := hv
    have I1 : Inv X pins σ H { s with heap := h', toks := tk } := I.turned (fun b o hb e => kk b o (by simpa using hb) e) f0 f1 f3 f4 f5
    exact ⟨_, rfl, go_of (s := { s with heap := h', toks := tk }) (n := "range_iterator") st' rfl rfl (by decide) ⟨.int (lo + (i : Nat) * c), H, I1, ⟨t, rfl⟩, ⟨rfl, rfl⟩, st', fun b hb => (hf b hb).1⟩⟩
  done := by
    intro X hP hw hK hc i pins s σ H E I hf st hg
    subst hP hw hK
    obtain ⟨f0, f1, f2, f3, f4, f5⟩ := hf it (by simp)
    exact wpAny_pyNext_range_end (I.ok.hd hc) st (by have : n ≤ i := hg; omega) fun h' eb => ⟨rfl, I.turned (t' := s.toks) (fun b o hb e => eb b o hb e) f0 f1 f3 f4 f5⟩
  self := fun A i s Q E st h => wpAny_pyIter_rangeiter st h
def RgC (i j c : Int) (n : Nat) : Prop := c ≠ 0 ∧ c.natAbs < 1073741824 ∧ Builtin.Range.small i j c = true ∧ Builtin.Range.rangeSize i j c = n
theorem RgC.neg {i j : Int} (ha : -(2 ^ 62) ≤ i) (ha' : i < 2 ^ 62) (hb : -(2 ^ 62) ≤ j) (hb' : j < 2 ^ 62) : RgC i j (-1) (i - j).toNat :=
  ⟨by decide, by decide, PySem.W.small_down ha ha' hb hb', PySem.W.rangeSize_downNat i j⟩
def iRng3 (ta : TA) : TI := fun σ H R => ta σ H fun vs H1 => ∃ (i j c : Int) (n : Nat), vs = [.int i, .int j, .int c] ∧ RgC i j c n ∧ R (Itc i c n) H1
section
variable {X : Cx} {tg : Expr}
theorem pi_range3 {a b c : Expr} {ta : TA} {p pos : Pos} (hg : Gl X "range") (hm : X.mg "range" = none) (ha : PA X [a, b, c] ta)
    (hs : starEach [a, b, c] X.env = (false, eval a X.env) :: starEach [b, c] X.env := by rfl) (hpl : (backTo pos (starEach [b, c] X.env)).any (·.1) = false := by rfl) :
    PI X tg (.Call (.Name "range" p) [a, b, c] [] pos) (iRng3 ta) := by
  intro pins s σ H R I h
  refine Call_ (ld_blt I hg hm boot_range (PyProof.Rows.callWith_type1 (thn (ha pos pins s σ H _ I h) fun us s1 ⟨vs, H1, I1, r1, q1⟩ => ?_) hs hpl))
  obtain ⟨i, j, k, n, e, ⟨c0, c1, c2, c3⟩, q⟩ := q1
  subst e
  cases r1 with
  | cons r rr =>
    cases rr with
    | cons r' rr =>
      cases rr with
      | cons r'' rr =>
        cases rr
        obtain ⟨t, rfl⟩ := r
        obtain ⟨t', rfl⟩ := r'
        obtain ⟨t'', rfl⟩ := r''
        refine call_range_3 c0 ?_ (.inl (PyProof.noPylong_small c1))
        refine wpAny_pyIter_range (IsRange.new ..) c2 ?_
        have I2 : Inv X pins σ H1 { s1 with heap := s1.heap.push { cls := .type "range", data := .fields #[.int i t, .int j t', .int k t''] } } := I1.kept (t' := s1.toks) fun b o e => Heap.get?_push_of_some _ e
        refine pi_one (tk := s1.toks) I2 _ (turn_rangeC _ i k n) ?_ q
        have e1 : i + ((0 : Nat) : Int) * k = i := by simp
        have e2 : (n : Int) - ((0 : Nat) : Int) = Builtin.Range.rangeSize i j k := by rw [c3]; simp
        show IsRangeIter _ _ (i + ((0 : Nat) : Int) * k) ((n : Int) - ((0 : Nat) : Int)) k
        rw [e1, e2]
        exact Heap.get?_push_size _ rfl
end
theorem for_rangeC {lo c : Int} {n : Nat} {g : TG} {tb : TS} {D : Ends} {σ : St} {H : Hp} (Pv : Nat → St → Hp → Prop) (h0 : Pv 0 σ H)
    (hs : ∀ i σ H, i < n → Pv i σ H → g (.int (lo + (i : Nat) * c)) σ H fun σ2 H2 => tb { D with nx := Pv (i + 1), ct := Pv (i + 1), bk := D.nx } σ2 H2) (hd : ∀ σ H, Pv n σ H → D.nx σ H) :
    ∃ W : Nat → Nat → St → Hp → Prop, (∃ m, W 0 m σ H) ∧ ∀ i m σ H, W i m σ H →
      ((Itc lo c n).stop i H ∧ D.nx σ H) ∨ ((Itc lo c n).go i H ∧ ∃ N : St → Hp → Prop, (∀ σ' H', N σ' H' → ∃ m', m' < m ∧ W (i + 1) m' σ' H') ∧ ∀ x H', (Itc lo c n).yld i H x H' → g x σ H' fun σ2 H2 => tb { D with nx := N, ct := N, bk := D.nx } σ2 H2) := by
  refine ⟨fun i m σ H => m = n - i ∧ i ≤ n ∧ Pv i σ H, ⟨n, by simp, Nat.zero_le _, h0⟩, ?_⟩
  rintro i m σ H ⟨rfl, hi, p⟩
  by_cases hlt : i < n
  · refine .inr ⟨hlt, Pv (i + 1), fun σ' H' p' => ⟨n - (i + 1), by omega, rfl, hlt, p'⟩, fun x H' y => ?_⟩
    obtain ⟨e, y⟩ := y
    subst e y
    exact hs i σ _ hlt p
  · have e : i = n := by omega
    subst e
    exact .inl ⟨Nat.le_refl _, hd σ H p⟩
def Itv (K : PySem.W.Frag) (a : Addr) (n : Nat) : It :=
  ⟨fun i H => i < n ∧ ∃ (xs : List V) (x : V), SqL K H a xs ∧ xs[n - 1 - i]? = some x, fun i H x H' => H' = H ∧ ∀ xs, SqL K H a xs → xs[n - 1 - i]? = some x, fun i _ => n ≤ i⟩
theorem turn_rev {P : Program} {w : World} {K : PySem.W.Frag} {tg : Expr} (a it : Addr) (n : Nat) : Turn P w K tg (Itv K a n) [it] it (fun i h => i ≤ n ∧ h.IsRevIter it a ((n : Int) - 1 - (i : Nat))) where
  mem := by simp
  obj := fun i h st b hb => by
    have e : b = it := by simpa using hb
    subst e
    obtain ⟨_, o, e, c, d⟩ := st
    exact ⟨o, e, fun v z => by rw [d] at z; cases z⟩
  keep := fun i h h' st k => ⟨st.1, st.2.at fun o e => k it (by simp) o e⟩
  item := by
    intro X hP hw hK hc i pins s σ H E I hf st hg
    subst hP hw hK
    obtain ⟨hin, xs, x, hq, hx⟩ := hg
    obtain ⟨its, rv, p, hz⟩ := I.list hq
    obtain ⟨u, hu, ru⟩ := rv.get hx
    obtain ⟨f0, f1, f2, f3, f4, f5⟩ := hf it (by simp)
    obtain ⟨_, hit⟩ := st
    have e1 : (n : Int) - 1 - ((i : Nat) : Int) = ((n - 1 - i : Nat) : Int) := by omega
    rw [e1] at hit
    refine wpAny_pyNext_rev_item hit p.isList (x := u) (by simpa using hu) fun h' st' sb => ?_
    have e2 : ((n - 1 - i : Nat) : Int) - 1 = (n : Int) - 1 - ((i + 1 : Nat) : Int) := by omega
    rw [e2] at st'
    have I1 : Inv X pins σ H { s with heap := h' } := I.turned (t' := s.toks) (fun b o hb e => (sb.2 b hb).trans e) f0 f1 f3 f4 f5
    obtain ⟨o, e, c, d⟩ := id st'
    exact ⟨u, rfl, go_of (s := { s with heap := h' }) e c d (by decide) ⟨x, H, I1, ru, ⟨rfl, fun ys hy => by rw [I.list_inj hy hq]; exact hx⟩, ⟨hin, st'⟩, fun b hb => (hf b hb).1⟩⟩
  done := by
    intro X hP hw hK hc i pins s σ H E I hf st hg
    subst hP hw hK
    obtain ⟨f0, f1, f2, f3, f4, f5⟩ := hf it (by simp)
    obtain ⟨hin, hit⟩ := st
    have hge : n ≤ i := hg
    have e1 : (n : Int) - 1 - ((i : Nat) : Int) = -1 := by omega
    rw [e1] at hit
    exact wpAny_pyNext_rev_end (I.ok.hd hc) hit fun h' eb => ⟨rfl, I.turned (t' := s.toks) (fun b o hb e => eb b o hb e) f0 f1 f3 f4 f5⟩
  self := fun A i s Q E st h => wpAny_pyIter_revIter st.2 h
def iRev (K : PySem.W.Frag) (ta : TA) : TI := fun σ H R => ta σ H fun vs H1 => ∃ (a : Addr) (xs : List V), vs = [.ref a] ∧ SqL K H1 a xs ∧ R (Itv K a xs.length) H1
section
variable {X : Cx} {tg : Expr}
theorem pi_reversed {e : Expr} {ta : TA} {p pos : Pos} (hg : Gl X "reversed") (hm : X.mg "reversed" = none) (ha : PA X [e] ta) (hs : starEach [e] X.env = [(false, eval e X.env)] := by rfl) : PI X tg (.Call (.Name "reversed" p) [e] [] pos) (iRev X.K ta) := by
  intro pins s σ H R I h
  refine Call_ (ld_blt I hg hm boot_reversed5 (PyProof.Rows.callWith_type1 (thn (ha pos pins s σ H _ I h) fun us s1 ⟨vs, H1, I1, r1, q1⟩ => ?_) hs rfl))
  obtain ⟨a, xs, e, hq, q⟩ := q1
  subst e
  cases r1 with
  | cons r rr =>
    cases rr
    cases r
    obtain ⟨its, rv, p', hz⟩ := I1.list hq
    have hl := rv.length
    have e1 : ((its.toArray.size : Nat) : Int) - 1 = (xs.length : Int) - 1 - ((0 : Nat) : Int) := by simp only [List.size_toArray]; omega
    refine call_reversed_list p'.isList (wpAny_pyIter_revIter (l := a) (i := ((its.toArray.size : Nat) : Int) - 1) ⟨_, Heap.get?_push_size _ rfl, rfl, rfl⟩ ?_)
    refine pi_one (tk := s1.toks) I1 _ (turn_rev a _ xs.length) ⟨Nat.zero_le _, ?_⟩ q
    rw [← e1]
    exact ⟨_, Heap.get?_push_size _ rfl, rfl, rfl⟩
end
section
variable {prog : Program} {w : World} {A : Around} {E : Value → Shared → Prop} {s : Shared}
end
theorem kv_get {κ : Type} {kvs : List (κ × V)} {vs : List (κ × Value)} (h : KV kvs vs) : ∀ {i : Nat} {k : κ} {v : V}, kvs[i]? = some (k, v) → ∃ u, vs[i]? = some (k, u) ∧ RelV v u := by
  unfold KV at h
  induction h with
  | nil => intro i k v e; simp at e
  | @cons a b l₁ l₂ r t ih =>
    intro i k v e
    cases i with
    | zero =>
      simp only [List.getElem?_cons_zero, Option.some.injEq] at e
      subst e
      refine ⟨b.2, ?_, r.2⟩
      simp only [List.getElem?_cons_zero]
      exact congrArg some (Prod.ext r.1.symm rfl)
    | succ j =>
      simp only [List.getElem?_cons_succ] at e ⊢
      exact ih e
theorem paired_get {α β : Type} {G : α → β → Prop} {l₁ : List α} {l₂ : List β} (h : Paired G l₁ l₂) : ∀ {i : Nat} {a : α}, l₁[i]? = some a → ∃ b, l₂[i]? = some b ∧ G a b := by
  induction h with
  | nil => intro i a e; simp at e
  | @cons a b l₁ l₂ r t ih =>
    intro i a' e
    cases i with
    | zero =>
      simp only [List.getElem?_cons_zero, Option.some.injEq] at e
      subst e
      exact ⟨b, rfl, r⟩
    | succ j =>
      simp only [List.getElem?_cons_succ] at e ⊢
      exact ih e
theorem relV_key {k : Key} {u : Value} (h : keyIs k u = true) : RelV (kV k) u := by
  rcases keyIs_shape h with ⟨i, t, rfl, rfl⟩ | ⟨x, t, rfl, rfl⟩
  · exact ⟨t, rfl⟩
  · exact ⟨t, rfl⟩
section
variable {X : Cx} {pins : List (Addr × Obj)} {σ : St} {H : Hp} {s : Shared} {d : Addr} {o : Obj}
theorem Inv.frzK {kvs : List (Key × V)} (I : Inv X pins σ H s) (h : H d = some (.frz o (.dK kvs))) :
    (d == sysModules) = false ∧ s.heap.get? d = some o ∧ o.ExactDict ∧ ∃ (es : Array DictEntry) (ep : Nat) (vs : List (Key × Value)), o.data = .dict es ep ∧ es.size = kvs.length ∧ KV kvs vs ∧ s.heap.DictAt (mixKind X.prog X.w) d vs ep := by
  obtain ⟨hd, z, hs, vs, kv, o', es, ep, ho, hx, hdt, r⟩ := I.hok d _ h
  rw [hd] at ho
  cases ho
  refine ⟨hs, hd, hx, es, ep, vs, hdt, ?_, kv, o, es, hd, hx, hdt, r⟩
  have l1 := r.2.1.length
  have l2 : kvs.length = vs.length := Paired.length kv
  rw [Array.length_toList] at l1
  omega
end
def Itd (d : Addr) (o : Obj) (kvs : List (Key × V)) : It :=
  ⟨fun i H => H d = some (.frz o (.dK kvs)) ∧ i < kvs.length, fun i H x H' => H' = H ∧ ∃ k, kvs[i]? = some (k, x), fun i H => H d = some (.frz o (.dK kvs)) ∧ kvs.length ≤ i⟩
def Iti (d : Addr) (o : Obj) (kvs : List (Key × V)) : It :=
  ⟨fun i H => H d = some (.frz o (.dK kvs)) ∧ i < kvs.length, fun i H x H' => ∃ T k v, kvs[i]? = some (k, v) ∧ x = .ref T ∧ H T = none ∧ H' = upd H T (.tup [kV k, v]), fun i H => H d = some (.frz o (.dK kvs)) ∧ kvs.length ≤ i⟩
theorem dict_ep {o : Obj} {es es' : Array DictEntry} {ep ep' : Nat} (h : o.data = .dict es ep) (h' : o.data = .dict es' ep') : es' = es ∧ ep' = ep := by
  rw [h] at h'
  cases h'
  exact ⟨rfl, rfl⟩
section
variable {P : Program} {w : World} {K : PySem.W.Frag} {tg : Expr} {d : Addr} {o : Obj} {es : Array DictEntry} {ep : Nat}
theorem turn_vals {kvs : List (Key × V)} (it : Addr) (hod : o.data = .dict es ep) : Turn P w K tg (Itd d o kvs) [it] it (fun i h => h.IsValIter it d i kvs.length ep) where
  mem := by simp
  obj := fun i h st b hb => by
    have e : b = it := by simpa using hb
    subst e
    obtain ⟨oi, e, c, dd⟩ := st
    exact ⟨oi, e, fun v z => by rw [dd] at z; cases z⟩
  keep := fun i h h' st k => st.at fun oi e => k it (by simp) oi e
  item := by
    intro X hP hw hK hc i pins s σ H E I hf st hg
    subst hP hw hK
    obtain ⟨hd, hi⟩ := hg
    obtain ⟨f0, f1, f2, f3, f4, f5⟩ := hf it (by simp)
    obtain ⟨hs, hgd, hx, es', ep', vs, hdt, hsz, kv, hm⟩ := I.frzK hd
    obtain ⟨rfl, rfl⟩ := dict_ep hod hdt
    obtain ⟨⟨k, v⟩, hkv⟩ : ∃ p, kvs[i]? = some p := ⟨kvs[i], List.getElem?_eq_getElem hi⟩
    obtain ⟨u, hu, ru⟩ := kv_get kv hkv
    have hl : kvs.length = vs.length := Paired.length kv
    rw [hl] at st
    refine wpAny_pyNext_values_item st hm hu fun h' st' sb => ?_
    have I1 : Inv X pins σ H { s with heap := h' } := I.turned (t' := s.toks) (fun b ob hb e => (sb.2 b hb).trans e) f0 f1 f3 f4 f5
    obtain ⟨oi, e, c, dd⟩ := id st'
    refine ⟨u, rfl, go_of (s := { s with heap := h' }) e c dd (by decide) ⟨v, H, I1, ru, ⟨rfl, k, hkv⟩, ?_, fun b hb => (hf b hb).1⟩⟩
    show h'.IsValIter it d (i + 1) kvs.length _
    rw [hl]
    exact st'
  done := by
    intro X hP hw hK hc i pins s σ H E I hf st hg
    subst hP hw hK
    obtain ⟨hd, hi⟩ := hg
    obtain ⟨f0, f1, f2, f3, f4, f5⟩ := hf it (by simp)
    obtain ⟨hs, hgd, hx, es', ep', vs, hdt, hsz, kv, hm⟩ := I.frzK hd
    obtain ⟨rfl, rfl⟩ := dict_ep hod hdt
    have hl : kvs.length = vs.length := Paired.length kv
    rw [hl] at st
    exact wpAny_pyNext_values_end (I.ok.hd hc) st hm (List.getElem?_eq_none (by omega)) fun h' eb => ⟨rfl, I.turned (t' := s.toks) (fun b ob hb e => eb b ob hb e) f0 f1 f3 f4 f5⟩
  self := fun A i s Q E st h => wpAny_pyIter_valiter st h
theorem turn_items {kvs : List (Key × V)} {elts : List Expr} {kk : Nat} {tpos : Pos} (it : Addr) (hod : o.data = .dict es ep) :
    Turn P w K (.Tuple elts kk tpos) (Iti d o kvs) [it] it (fun i h => ∃ ok ov, IsItemIter h it d i kvs.length ep ok ov) where
  mem := by simp
  obj := fun i h st b hb => by
    have e : b = it := by simpa using hb
    subst e
    obtain ⟨ok, ov, e⟩ := st
    exact ⟨_, e, fun v z => nomatch z⟩
  keep := fun i h h' st k => let ⟨ok, ov, e⟩ := st; ⟨ok, ov, k it (by simp) _ e⟩
  item := by
    intro X hP hw hK hc i pins s σ H E I hf st hg
    subst hP hw hK
    obtain ⟨hd, hi⟩ := hg
    obtain ⟨hs, hgd, hx, es', ep', vs, hdt, hsz, kv, hm⟩ := I.frzK hd
    obtain ⟨rfl, rfl⟩ := dict_ep hod hdt
    obtain ⟨⟨k, v⟩, hkv⟩ : ∃ p, kvs[i]? = some p := ⟨kvs[i], List.getElem?_eq_getElem hi⟩
    obtain ⟨u, hu, ru⟩ := kv_get kv hkv
    have hl : kvs.length = vs.length := Paired.length kv
    obtain ⟨ok, ov, he⟩ := st
    rw [hl] at he
    have hlt : it < s.heap.objs.size := Heap.lt_size he
    refine wpAny_pyNext_items_item he hm hu fun key h' hkey ho hT hz hk => ?_
    refine ⟨_, rfl, wpAny_letOwnedTupleGo_items (s := { s with heap := h' }) ho fun h'' he' sb => ?_⟩
    have hT2 : h''.get? s.heap.objs.size = some { cls := .type "tuple", data := .seq #[key, u] } := (sb.2 _ (Nat.ne_of_gt hlt)).trans hT
    have new : ObjOk X.prog X.w (upd H s.heap.objs.size (.tup [kV k, v])) h'' s.heap.objs.size (.tup [kV k, v]) :=
      ⟨by show 2 ≤ sizeLine; decide, [key, u], .cons (relV_key (show keyIs k key = true from hkey)) (.cons ru .nil), ⟨_, hT2, rfl, _, rfl⟩⟩
    have I1 : Inv X pins σ (upd H s.heap.objs.size (.tup [kV k, v])) { s with heap := h'' } :=
      I.turnedNew (t' := s.toks) (ch := [it]) (fun b ob hb e => (sb.2 b (by simpa using hb)).trans (hk b ob (by simpa using hb) e)) hf (Nat.le_refl _) new
    refine ⟨.ref s.heap.objs.size, _, I1, rfl, ⟨_, k, v, hkv, rfl, I.hok.fresh (Nat.le_refl _), rfl⟩, ⟨key, u, ?_⟩, fun b hb => ?_⟩
    · rw [hl]; exact he'
    · have e : b = it := by simpa using hb
      rw [e, upd_ne (Nat.ne_of_lt hlt)]
      exact (hf it (by simp)).1
  done := by
    intro X hP hw hK hc i pins s σ H E I hf st hg
    subst hP hw hK
    obtain ⟨hd, hi⟩ := hg
    obtain ⟨f0, f1, f2, f3, f4, f5⟩ := hf it (by simp)
    obtain ⟨hs, hgd, hx, es', ep', vs, hdt, hsz, kv, hm⟩ := I.frzK hd
    obtain ⟨rfl, rfl⟩ := dict_ep hod hdt
    have hl : kvs.length = vs.length := Paired.length kv
    obtain ⟨ok, ov, he⟩ := st
    rw [hl] at he
    exact wpAny_pyNext_items_end (I.ok.hd hc) he hm (List.getElem?_eq_none (by omega)) fun h' eb => ⟨rfl, I.turned (t' := s.toks) (fun b ob hb e => eb b ob hb e) f0 f1 f3 f4 f5⟩
  self := fun A i s Q E st h => let ⟨_, _, e⟩ := st; PySem.W.kcp_self e h
end
def iVals (td : TE) : TI := fun σ H R => td σ H fun x H1 => ∃ d o kvs, x = .ref d ∧ H1 d = some (.frz o (.dK kvs)) ∧ R (Itd d o kvs) H1
def iItems (td : TE) : TI := fun σ H R => td σ H fun x H1 => ∃ d o kvs, x = .ref d ∧ H1 d = some (.frz o (.dK kvs)) ∧ R (Iti d o kvs) H1
section
variable {X : Cx} {tg e : Expr} {td : TE} {apos cpos : Pos}
theorem pi_values (he : PE X e td) (hbase : attributeBase e "values" X.env (eval e X.env) = eval e X.env := by rfl) (hline : (apos.endLine == cpos.line) = true := by rfl) : PI X tg (.Call (.Attribute e "values" apos) [] [] cpos) (iVals td) := by
  intro pins s σ H R I h
  refine wpAny_Call_method (T := "dict") (id := "dict.values") hbase rfl hline F.plainAttrs_dict F.slot_dict_values F.type_dict_values (thn (he pins s σ H _ I h) fun u s1 ⟨x, H1, I1, rx, d, o, kvs, ex, hd, q⟩ => ?_)
  subst ex
  obtain rfl : u = Value.ref d := rx
  obtain ⟨hs, hgd, hx, es, ep, vs, hdt, hsz, kv, hm⟩ := I1.frzK hd
  have hl : kvs.length = vs.length := Paired.length kv
  refine ⟨hm.dictOf.typeIs, hm.dictOf.mapOf.noDict, ?_⟩
  have I2 : Inv X pins σ H1 { s1 with heap := s1.heap.push { cls := .type "dict_values", data := .fields #[.ref d] } } := I1.kept (t' := s1.toks) fun b ob q => Heap.get?_push_of_some _ q
  have fin : wpAny (model X.prog X.w) X.A (pyIter (.ref s1.heap.objs.size)) (PIE X pins σ tg R) X.xe { s1 with heap := s1.heap.push { cls := .type "dict_values", data := .fields #[.ref d] } } := by
    refine wpAny_pyIter_values (d := d) (knd := mixKind X.prog X.w) ⟨_, Heap.get?_push_size _ rfl, rfl, rfl⟩ (hm.push _) (pi_one (tk := s1.toks) I2 _ (turn_vals _ hdt) ⟨_, Heap.get?_push_size _ rfl, rfl, ?_⟩ q)
    rw [hl] <;> rfl
  show wpAny _ _ (callWith cpos (.builtin "dict.values") [.ref d] [] []) _ X.xe s1
  exact method_meetsIn F.slot_dict_values F.entry_dict_values rfl (PySem.evalArgs_none ⟨rfl, hm.dictOf.typeIs, F.args_dict_values_1 _, _, meets_dict_values (mixKind X.prog X.w) d hs, ⟨vs, hm.dictOf⟩, fin⟩)
theorem pi_items {elts : List Expr} {kk : Nat} {tpos : Pos} (he : PE X e td) (hbase : attributeBase e "items" X.env (eval e X.env) = eval e X.env := by rfl) (hline : (apos.endLine == cpos.line) = true := by rfl) :
    PI X (.Tuple elts kk tpos) (.Call (.Attribute e "items" apos) [] [] cpos) (iItems td) := by
  intro pins s σ H R I h
  refine wpAny_Call_method (T := "dict") (id := "dict.items") hbase rfl hline F.plainAttrs_dict F.slot_dict_items F.type_dict_items (thn (he pins s σ H _ I h) fun u s1 ⟨x, H1, I1, rx, d, o, kvs, ex, hd, q⟩ => ?_)
  subst ex
  obtain rfl : u = Value.ref d := rx
  obtain ⟨hs, hgd, hx, es, ep, vs, hdt, hsz, kv, hm⟩ := I1.frzK hd
  have hl : kvs.length = vs.length := Paired.length kv
  refine ⟨hm.dictOf.typeIs, hm.dictOf.mapOf.noDict, ?_⟩
  have I2 : Inv X pins σ H1 { s1 with heap := s1.heap.push { cls := .type "dict_items", data := .fields #[.ref d] } } := I1.kept (t' := s1.toks) fun b ob q => Heap.get?_push_of_some _ q
  have fin : wpAny (model X.prog X.w) X.A (pyIter (.ref s1.heap.objs.size)) (PIE X pins σ (.Tuple elts kk tpos) R) X.xe { s1 with heap := s1.heap.push { cls := .type "dict_items", data := .fields #[.ref d] } } := by
    refine wpAny_pyIter_items (d := d) (knd := mixKind X.prog X.w) ⟨_, Heap.get?_push_size _ rfl, rfl, rfl⟩ (hm.push _) (pi_one (tk := s1.toks) I2 _ (turn_items _ hdt) ⟨.none, .none, ?_⟩ q)
    rw [hl]
    exact Heap.get?_push_size _ rfl
  show wpAny _ _ (callWith cpos (.builtin "dict.items") [.ref d] [] []) _ X.xe s1
  exact method_meetsIn F.slot_dict_items F.entry_dict_items rfl (PySem.evalArgs_none ⟨rfl, hm.dictOf.typeIs, F.args_dict_items_1 _, _, meets_dict_items (mixKind X.prog X.w) d hs, ⟨vs, hm.dictOf⟩, fin⟩)
end
end L2
section
namespace Bits
open PySem PyProof.Rows
theorem bitAnd_mask {x : Int} (k : Nat) (hx : 0 ≤ x) : Builtin.bitAnd x (2 ^ k - 1) = x % 2 ^ k := by
  obtain ⟨n, rfl⟩ := Int.eq_ofNat_of_zero_le hx
  have hp : 0 < 2 ^ k := Nat.two_pow_pos k
  rw [two_pow_cast]
  have e : ((2 ^ k : Nat) : Int) - 1 = ((2 ^ k - 1 : Nat) : Int) := by
    generalize (2 : Nat) ^ k = m at hp
    omega
  rw [e, bitAnd_pp (by omega) (by omega), Int.toNat_natCast, Int.toNat_natCast, Nat.and_two_pow_sub_one_eq_mod]
  first
    | rfl
    | exact Int.natCast_emod _ _
    | simp
theorem nat_xor_add_and (m : Nat) : ∀ n : Nat, (m ^^^ n) + 2 * (m &&& n) = m + n := by
  induction m using Nat.strongRecOn with
  | _ m ih =>
    intro n
    by_cases h0 : m = 0
    · subst h0
      simp
    · have ih' := ih (m / 2) (by omega) (n / 2)
      rw [← Nat.xor_div_two, ← Nat.and_div_two] at ih'
      have o1 := @Nat.xor_mod_two_eq_one m n
      have a1 := @Nat.and_mod_two_eq_one m n
      omega
theorem bitXor_pp {x y : Int} (hx : 0 ≤ x) (hy : 0 ≤ y) : Builtin.bitXor x y = ((x.toNat ^^^ y.toNat : Nat) : Int) := by
  have e := nat_xor_add_and x.toNat y.toNat
  rw [bitXor_and, bitAnd_pp hx hy]
  omega
end Bits
end
section
namespace TL
open PySem PySem.Builtin PySem.Builtin.Str PySem.StrLaws
abbrev tl (x : Str) : List Nat := x.cps.toList
def pre (S l : List Nat) : Bool := l.take S.length == S
def par (S : List Nat) : List Nat → List Nat → Option (List Nat × List Nat)
  | _, [] => none
  | acc, c :: r => if pre S (c :: r) = true then some (acc, (c :: r).drop S.length) else par S (acc ++ [c]) r
end TL
end
namespace L2
open PySem PySem.Spec PyProof.Rows
section
variable {X : Cx} {pins : List (Addr × Obj)} {σ : St} {H : Hp} {s : Shared} {Q : VK}
end
section
variable {X : Cx}
end
section
variable {X : Cx} {o e : Expr} {to te : TE}
end
end L2
namespace L2
open PySem PySem.Spec PyProof.Rows
section
variable {X : Cx}
end
end L2
namespace Att
open PySem PySem.W PySem.Calls PyProof.Rows
section
variable {prog : Program} {w : World} {A : Around} {E : Value → Shared → Prop} {s : Shared} {K : Frag}
end
end Att
namespace L2
open PySem PySem.Spec PyProof.Rows
end L2
namespace L2
open PySem PySem.Spec PyProof.Rows
abbrev KOf {K : PySem.W.Frag} {h : Heap} (_ : K.In h) : PySem.W.Frag := K
end L2
namespace L2
open PySem PySem.Spec PyProof.Rows
def inClass (s : Stmt) (j : Nat) : Stmt := match s with
  | .ClassDef _ _ _ body _ _ _ _ _ _ _ => body.getD j (.Pass ⟨0, 0, 0, 0⟩)
  | _ => .Pass ⟨0, 0, 0, 0⟩
def defArgs (s : Stmt) : Arguments := match s with
  | .FunctionDef _ a _ _ _ _ _ _ _ _ => a
  | _ => { posonlyargs := [], args := [], vararg := none, kwonlyargs := [], kw_defaults := [], kwarg := none, defaults := [] }
def defBody (s : Stmt) : List Stmt := match s with
  | .FunctionDef _ _ b _ _ _ _ _ _ _ => b
  | _ => []
def defScope (s : Stmt) : Scope := match s with
  | .FunctionDef _ _ _ _ _ _ sc _ _ _ => sc
  | _ => { kind := .function, names := [], isGenerator := false, isCoroutine := false }
abbrev CX0 : CXT := fun _ _ _ _ _ _ => False
abbrev E0 : XK := fun _ _ _ => False
theorem pass0 {X : Cx} : Passes CX0 X E0 := fun _ _ _ _ _ _ _ h => h.elim
structure Fun (K : PySem.W.Frag) (x qual : Str) (st : Stmt) (f : Addr) (fd : FuncData) : Prop where
  ex : ∃ (oc : Value) (od : Option Addr) (kV doc pm : Value) (an : Option Addr) (cdv ct : Value) (osl : Array (Option Value)),
    fd = PySem.W.fnOf x qual (defArgs st) (defBody st) (defScope st) .none kV doc pm an cdv ct ∧ K.lookup f = some ⟨oc, od, .func fd, osl⟩ ∧ PySem.W.codeIn K cdv qual = true
  kp : PySem.W.keepIn K (.ref f) = true
section
variable {P : Program} {w : World} {K : PySem.W.Frag} {mg : Str → Option Value} {base : Heap}
theorem Fun.ok {x qual : Str} {st : Stmt} {f : Addr} {fd : FuncData} {N ps : List Str} {k : Nat} {sp : Sp} (F : Fun K x qual st f fd) (S : FnScope N ps (defScope st)) (len : ∀ vs H Q E, sp vs H Q E → vs.length = ps.length)
    (hbody : ∀ (cdv : Value) (A : Around) (outer : List Env) (s : Shared) (H : Hp) (vs : List V) (Q : VK) (E : XK), Room k (A.deeper (envOfC qual (defScope st) s.heap.objs.size f cdv)) → sp vs H Q E →
      ∃ t, PSs (cxOf CX0 P w K mg base N qual (defScope st) f cdv A outer s H E).nox (defBody st) t ∧ t { nx := fun _ H' => Q .non H', rt := Q } (start N vs) H) : FnOk P w K mg base CX0 (k + 1) f fd ps sp := by
  obtain ⟨oc, od, kV, doc, pm, an, cdv, ct, osl, rfl, lk, hcd⟩ := F.ex
  refine fn_of lk hcd S len fun A outer s H vs Q E hr hsp => ?_
  obtain ⟨t, h, q⟩ := hbody cdv A outer s H vs Q E hr hsp
  exact ⟨t, h.nox, q⟩
theorem Fun.binds {x qual : Str} {st : Stmt} {f : Addr} {fd : FuncData} {ps : List Str} (F : Fun K x qual st f fd)
    (h : ∀ (kV doc pm : Value) (an : Option Addr) (cdv ct : Value) (us : List Value), us.length = ps.length → bindArgs (PySem.W.fnOf x qual (defArgs st) (defBody st) (defScope st) .none kV doc pm an cdv ct) ⟨us, []⟩ = pure (ps.zip us)) : Binds K fd ps [] := by
  obtain ⟨oc, od, kV, doc, pm, an, cdv, ct, osl, rfl, lk, hcd⟩ := F.ex
  exact .all (h kV doc pm an cdv ct)
theorem fun_mk {x qual : Str} {st : Stmt} {f : Addr} {oc : Value} {od an : Option Addr} {osl : Array (Option Value)} {kV doc pm cdv ct : Value} (l : K.lookup f = some ⟨oc, od, .func (PySem.W.fnOf x qual (defArgs st) (defBody st) (defScope st) .none kV doc pm an cdv ct), osl⟩)
    (c : PySem.W.codeIn K cdv qual = true) (k : PySem.W.keepIn K (.ref f) = true) : Fun K x qual st f (PySem.W.fnOf x qual (defArgs st) (defBody st) (defScope st) .none kV doc pm an cdv ct) := ⟨⟨oc, od, kV, doc, pm, an, cdv, ct, osl, rfl, l, c⟩, k⟩
end
theorem hu_of {A : Around} {k : Nat} (hr : Room k A) : A.units + 1 < cLine := Nat.lt_of_le_of_lt (Nat.add_le_add_left (by decide : 1 ≤ 64) _) hr.units
section
variable {X : Cx}
theorem pv (i : Nat) {x : Str} {pos : Pos} (hN : X.N[i]? = some x := by rfl) (hv : Vis X.env.scope x := by first | exact Or.inl rfl | exact Or.inr (Or.inl rfl) | exact Or.inr (Or.inr rfl)) (hd : (x == ("__debug__" : Str)) = false := by decide)
    (hcd : (x == ("__classdict__" : Str)) = false := by decide) : PE X (.Name x pos) (tVar i) := pe_var hN hv hd hcd
theorem call_lenD : CallR X (.builtin "len") (fun xs H Q => ∃ a kvs, xs = [V.ref a] ∧ H a = some (.dK kvs) ∧ Q (.int kvs.length) H) := by
  intro pins s σ H xs us Q I r h
  obtain ⟨a, kvs, rfl, ha, q⟩ := h
  obtain ⟨u, rfl, ru⟩ := vals1 r
  cases ru
  exact d_len I (.inl ha) fun t s' I' => ⟨.int kvs.length, H, I', ⟨t, rfl⟩, q⟩
end
theorem iteF {A B : Prop} (h : B) : if false = true then A else B := by
  rw [if_neg Bool.false_ne_true]
  exact h
theorem iteT {A B : Prop} (h : A) : if true = true then A else B := by
  rw [if_pos rfl]
  exact h
theorem ite2 {c A B : Prop} [Decidable c] (h1 : c → A) (h2 : ¬ c → B) : if c then A else B := by
  by_cases h : c
  · rw [if_pos h]
    exact h1 h
  · rw [if_neg h]
    exact h2 h
def Same (H H' : Hp) : Prop := ∀ b o, H b = some o → H' b = some o
theorem Same.refl (H : Hp) : Same H H := fun _ _ h => h
theorem Same.trans {H H1 H2 : Hp} (a : Same H H1) (b : Same H1 H2) : Same H H2 := fun c o h => b c o (a c o h)
theorem Same.free {H H' : Hp} (e : Same H H') {l : Addr} (h : H' l = Option.none) : H l = Option.none := by
  cases q : H l with
  | none => rfl
  | some o =>
    rw [e l o q] at h
    cases h
theorem Same.seq {K : PySem.W.Frag} {H H' : Hp} {a : Addr} {xs : List V} (e : Same H H') (h : SqL K H a xs) : SqL K H' a xs := by
  rcases h with (h | ⟨o, h⟩) | h
  · exact .inl (.inl (e _ _ h))
  · exact .inl (.inr ⟨o, e _ _ h⟩)
  · exact .inr h
section
variable {κ : Type} [DecidableEq κ]
theorem valV_in {kvs : List (κ × V)} {k : κ} {v : V} (h : valV kvs k = some v) : k ∈ kvs.map (·.1) := by
  have q : (kvs.any fun kv => decide (kv.1 = k)) = true := by
    rw [valV_any, h]
    all_goals rfl
  obtain ⟨p, hp, e⟩ := List.any_eq_true.mp q
  exact List.mem_map.mpr ⟨p, hp, of_decide_eq_true e⟩
theorem nd_snoc : ∀ {l : List κ} {k : κ}, l.Nodup → ¬ k ∈ l → (l ++ [k]).Nodup
  | [], k, _, _ => by simp
  | a :: r, k, h, hk => by
    obtain ⟨h1, h2⟩ := List.nodup_cons.mp h
    show (a :: (r ++ [k])).Nodup
    refine List.nodup_cons.mpr ⟨fun m => ?_, nd_snoc h2 fun m => hk (List.mem_cons.mpr (Or.inr m))⟩
    rcases List.mem_append.mp m with q | q
    · exact h1 q
    · exact hk (List.mem_cons.mpr (Or.inl (List.mem_singleton.mp q).symm))
end
theorem nd_ix {α : Type} {l : List α} (hN : l.Nodup) {i j : Nat} {x : α} (a : l[i]? = some x) (b : l[j]? = some x) : i = j := by
  obtain ⟨h1, e1⟩ := List.getElem?_eq_some_iff.mp a
  obtain ⟨h2, e2⟩ := List.getElem?_eq_some_iff.mp b
  exact (List.getElem_inj hN).mp (e1.trans e2.symm)
theorem Same.made {H H1 : Hp} {x dx C : Addr} (nx : H x = Option.none) (nd : H dx = Option.none) (k : ∀ b o, (upd (upd H dx (.own x)) x (.ins C dx [])) b = some o → b ≠ x → H1 b = some o) : Same H H1 := fun b o e =>
  k b o (by rw [upd_ne (ne_of_none e nx), upd_ne (ne_of_none e nd)]; exact e) (ne_of_none e nx)
end L2
section
set_option Elab.async false
set_option linter.all false
set_option maxRecDepth 100000
set_option maxHeartbeats 2000000
namespace L2
open PySem PySem.Spec PyProof.Rows
open PySem.W (WData Codec OpenSpec Well WellAll ReadsW ReadsAllW)
mutual
/-- x stands for the datum d, lists and tuples all the way -/
inductive Dw (K : PySem.W.Frag) (H : Hp) : V → WData → Prop
  | non : Dw K H .non .none
  | bl (b : Bool) : Dw K H (.bl b) (.bool b)
  | int (i : Int) : Dw K H (.int i) (.int i)
  | str (x : Str) : Dw K H (.str x) (.str x)
  | byt (b : Array UInt8) : Dw K H (.byt b) (.bytes b.toList)
  | lst {a : Addr} {xs : List V} {ds : List WData} : SqL K H a xs → DwAll K H xs ds → Dw K H (.ref a) (.list ds)
  | tup {a : Addr} {xs : List V} {ds : List WData} : SqT K H a xs → DwAll K H xs ds → Dw K H (.ref a) (.tuple ds)
inductive DwAll (K : PySem.W.Frag) (H : Hp) : List V → List WData → Prop
  | nil : DwAll K H [] []
  | cons {v : V} {vs : List V} {d : WData} {ds : List WData} : Dw K H v d → DwAll K H vs ds → DwAll K H (v :: vs) (d :: ds)
end
theorem dw_ints {K : PySem.W.Frag} {H : Hp} : ∀ ns : List Int, DwAll K H (ns.map V.int) (ns.map WData.int)
  | [] => .nil
  | n :: r => .cons (.int n) (dw_ints r)
theorem ints_dw {K : PySem.W.Frag} {H : Hp} : ∀ (ns : List Int) (xs : List V), DwAll K H xs (ns.map WData.int) → xs = ns.map V.int
  | [], xs, h => by
    cases h
    rfl
  | n :: r, xs, h => by
    cases h with
    | cons h1 h2 =>
      cases h1
      rw [ints_dw r _ h2] <;> rfl
section
variable {P : Program} {w : World} {K : PySem.W.Frag} {H : Hp} {h : Heap} {R : PySem.W.WRecords} {cl : Str → Option Addr}
theorem sqL_at {a : Addr} {xs : List V} (hok : HOk P w H h) (KX : K.In h) (q : SqL K H a xs) : ∃ (its : List Value) (o : Obj) (n : Nat), Vals xs its ∧ h.get? a = some o ∧ o.cls = .type "list" ∧ o.data = .seq its.toArray n := by
  rcases q with q | ⟨o, its, n, e, hc, _, hd, _, hv⟩
  · obtain ⟨_, its, n, hv, e⟩ := (show ObjOk P w H h a (.lst xs) from q.ok hok)
    exact ⟨its, _, n, hv, e, rfl, rfl⟩
  · exact ⟨its.toList, o, n, hv, KX _ _ e, hc, by simp [hd]⟩
theorem sqT_at {a : Addr} {xs : List V} (hok : HOk P w H h) (KX : K.In h) (q : SqT K H a xs) : ∃ (its : List Value) (o : Obj) (n : Nat), Vals xs its ∧ h.get? a = some o ∧ o.cls = .type "tuple" ∧ o.data = .seq its.toArray n := by
  rcases q with q | ⟨o, its, n, e, hc, hd, _, hv⟩
  · obtain ⟨_, its, hv, o, e, hc, n, hd⟩ := (show ObjOk P w H h a (.tup xs) from q.ok hok)
    exact ⟨its, o, n, hv, e, hc, hd⟩
  · exact ⟨its.toList, o, n, hv, KX _ _ e, hc, by simp [hd]⟩
mutual
theorem Dw.reads (hok : HOk P w H h) (KX : K.In h) : ∀ (d : WData) (v : V) (u : Value), Dw K H v d → RelV v u → ∃ as, ReadsW R cl h u d as
  | .none, _, _, x, r => by
    cases x
    cases r
    exact ⟨_, ReadsW.none⟩
  | .bool b, _, _, x, r => by
    cases x
    cases r
    exact ⟨_, ReadsW.bool b⟩
  | .int i, _, _, x, r => by
    cases x
    obtain ⟨t, rfl⟩ := r
    exact ⟨_, ReadsW.int i t⟩
  | .str s, _, _, x, r => by
    cases x
    obtain ⟨t, rfl⟩ := r
    exact ⟨_, ReadsW.str s t⟩
  | .bytes b, _, _, x, r => by
    cases x
    obtain ⟨t, rfl⟩ := r
    exact ⟨_, ReadsW.bytes _ t⟩
  | .list ds, _, _, x, r => by
    cases x with
    | lst hs ha =>
      cases r
      obtain ⟨its, o, n, rv, ho, hc, hd⟩ := sqL_at hok KX hs
      obtain ⟨as, hr⟩ := Dw.readsAll hok KX ds _ its ha rv
      exact ⟨_, ReadsW.list ho hc hd hr⟩
  | .tuple ds, _, _, x, r => by
    cases x with
    | tup hs ha =>
      cases r
      obtain ⟨its, o, n, rv, ho, hc, hd⟩ := sqT_at hok KX hs
      obtain ⟨as, hr⟩ := Dw.readsAll hok KX ds _ its ha rv
      exact ⟨_, ReadsW.tuple ho hc hd hr⟩
  | .float _, _, _, x, _ => by cases x
  | .dict _, _, _, x, _ => by cases x
  | .bytearray _, _, _, x, _ => by cases x
  | .set _, _, _, x, _ => by cases x
  | .frozenset _, _, _, x, _ => by cases x
  | .obj _ _, _, _, x, _ => by cases x
theorem Dw.readsAll (hok : HOk P w H h) (KX : K.In h) : ∀ (ds : List WData) (vs : List V) (us : List Value), DwAll K H vs ds → Vals vs us → ∃ as, ReadsAllW R cl h us ds as
  | [], _, _, x, r => by
    cases x
    cases r
    exact ⟨_, ReadsAllW.nil⟩
  | d :: ds, _, _, x, r => by
    cases x with
    | cons h1 h2 =>
      cases r with
      | cons r1 r2 =>
        obtain ⟨as, q1⟩ := Dw.reads hok KX d _ _ h1 r1
        obtain ⟨bs, q2⟩ := Dw.readsAll hok KX ds _ _ h2 r2
        exact ⟨_, ReadsAllW.cons q1 q2⟩
end
end
mutual
/-- data that a codec tells -/
def plW : WData → Bool
  | .none => true
  | .bool _ => true
  | .int _ => true
  | .str _ => true
  | .bytes _ => true
  | .list xs => plWs xs
  | .tuple xs => plWs xs
  | _ => false
def plWs : List WData → Bool
  | [] => true
  | x :: r => plW x && plWs r
end
theorem plWs_map {α : Type} {f : α → WData} (h : ∀ a, plW (f a) = true) : ∀ l : List α, plWs (l.map f) = true
  | [] => rfl
  | x :: r => by
    show (plW (f x) && plWs (r.map f)) = true
    rw [h x, plWs_map h r] <;> rfl
theorem pl_enc : ∀ (c : Codec) (a : c.denote), plW (c.enc a) = true
  | .unit, _ => rfl
  | .bool, _ => rfl
  | .int _ _, _ => rfl
  | .nat _ _, _ => rfl
  | .u8, _ => rfl
  | .bytes _ _, _ => rfl
  | .text _ _ _ _, _ => rfl
  | .list _ _ c, a => plWs_map (fun x => pl_enc c x) a
  | .pair c d, a => by
    show (plW (c.enc a.1) && (plW (d.enc a.2) && true)) = true
    rw [pl_enc c a.1, pl_enc d a.2] <;> rfl
  | .triple c d e, a => by
    show (plW (c.enc a.1) && (plW (d.enc a.2.1) && (plW (e.enc a.2.2) && true))) = true
    rw [pl_enc c a.1, pl_enc d a.2.1, pl_enc e a.2.2] <;> rfl
  | .option c, none => rfl
  | .option c, some x => pl_enc c x
theorem pl_encAll : ∀ (cs : List Codec) (a : Codec.denoteAll cs), plWs (Codec.encAll cs a) = true
  | [], _ => rfl
  | c :: cs, a => by
    show (plW (c.enc a.1) && plWs (Codec.encAll cs a.2)) = true
    rw [pl_enc c a.1, pl_encAll cs a.2] <;> rfl
theorem weight_mem : ∀ {xs : List WData} {d : WData}, d ∈ xs → d.weight ≤ WData.weightAll xs
  | [], d, h => absurd h (by simp)
  | x :: r, d, h => by
    show d.weight ≤ x.weight + 1 + WData.weightAll r
    rcases List.mem_cons.mp h with e | m
    · rw [e]
      omega
    · have z := weight_mem m
      omega
def toV : Value → V
  | .none => .non
  | .bool b => .bl b
  | .int i _ => .int i
  | .str x _ => .str x
  | .bytes b _ => .byt b
  | .ref a => .ref a
  | _ => .non
def OkU (A : List Addr) : Value → Prop
  | .none => True
  | .bool _ => True
  | .int _ _ => True
  | .str _ _ => True
  | .bytes _ _ => True
  | .ref a => a ∈ A
  | _ => False
theorem OkU.mono {A B : List Addr} (h : ∀ a ∈ A, a ∈ B) : ∀ {u : Value}, OkU A u → OkU B u := fun {u} x => by
  cases u with
  | ref a => exact h a x
  | none => trivial
  | bool b => trivial
  | int i t => trivial
  | str s t => trivial
  | bytes b t => trivial
  | _ => exact False.elim x
theorem relV_toV {A : List Addr} {u : Value} (x : OkU A u) : RelV (toV u) u := by
  cases u with
  | ref a => rfl
  | none => rfl
  | bool b => rfl
  | int i t => exact ⟨t, rfl⟩
  | str s t => exact ⟨t, rfl⟩
  | bytes b t => exact ⟨t, rfl⟩
  | _ => exact False.elim x
theorem vals_toV {A : List Addr} : ∀ {vs : List Value}, (∀ u ∈ vs, OkU A u) → Vals (vs.map toV) vs
  | [], _ => .nil
  | u :: r, h => .cons (relV_toV (h u (List.mem_cons_self ..))) (vals_toV fun x hx => h x (List.mem_cons_of_mem _ hx))
def ArgOb (h : Heap) (A : List Addr) (a : Addr) : Prop := ∃ vs : List Value, vs.length ≤ sizeLine ∧ (∀ u ∈ vs, OkU A u) ∧
  (h.get? a = some { cls := .type "list", data := .seq vs.toArray } ∨ h.get? a = some { cls := .type "tuple", data := .seq vs.toArray })
theorem ArgOb.mono {h : Heap} {A B : List Addr} {a : Addr} (k : ∀ a ∈ A, a ∈ B) (x : ArgOb h A a) : ArgOb h B a := by
  obtain ⟨vs, h1, h2, h3⟩ := x
  exact ⟨vs, h1, fun u hu => (h2 u hu).mono k, h3⟩
theorem wellAll_len {P : Params} {h : Heap} : ∀ {vs : List Value} {ds : List WData}, WellAll P h vs ds → vs.length = ds.length
  | _, _, .nil => rfl
  | _, _, .cons _ b => by
    show _ + 1 = _ + 1
    rw [wellAll_len b]
theorem well_list {P : Params} {h : Heap} {v : Value} {ds : List WData} (x : Well P h v (.list ds)) : ∃ (a : Addr) (vs : List Value), v = .ref a ∧ h.get? a = some { cls := .type "list", data := .seq vs.toArray } ∧ WellAll P h vs ds := by
  cases x with
  | list ho hall => exact ⟨_, _, rfl, ho, hall⟩
theorem well_tuple {P : Params} {h : Heap} {v : Value} {ds : List WData} (x : Well P h v (.tuple ds)) : ∃ (a : Addr) (vs : List Value), v = .ref a ∧ h.get? a = some { cls := .type "tuple", data := .seq vs.toArray } ∧ WellAll P h vs ds := by
  cases x with
  | tuple ho hall => exact ⟨_, _, rfl, ho, hall⟩
theorem well_cons {P : Params} {h : Heap} {us : List Value} {d : WData} {ds : List WData} (x : WellAll P h us (d :: ds)) : ∃ (v : Value) (vs : List Value), us = v :: vs ∧ Well P h v d ∧ WellAll P h vs ds := by
  cases x with
  | cons a b => exact ⟨_, _, rfl, a, b⟩
theorem line_of {n : Nat} (h : n ≤ 1048576) : n ≤ sizeLine := Nat.le_trans h (by decide)
section
variable {P : Params} {h : Heap}
mutual
theorem area_one : ∀ (d : WData) (v : Value), Well P h v d → plW d = true → d.weight ≤ 1048576 → ∃ A : List Addr, OkU A v ∧ ∀ a ∈ A, ArgOb h A a
  | .none, _, x, _, _ => by
    cases x
    exact ⟨[], trivial, fun a m => absurd m (by simp)⟩
  | .bool b, _, x, _, _ => by
    cases x
    exact ⟨[], trivial, fun a m => absurd m (by simp)⟩
  | .int i, _, x, _, _ => by
    cases x
    exact ⟨[], trivial, fun a m => absurd m (by simp)⟩
  | .str s, _, x, _, _ => by
    cases x
    exact ⟨[], trivial, fun a m => absurd m (by simp)⟩
  | .bytes b, _, x, _, _ => by
    cases x
    exact ⟨[], trivial, fun a m => absurd m (by simp)⟩
  | .list ds, _, x, p, z => by
    obtain ⟨a, vs, rfl, ho, hall⟩ := well_list x
    have z2 : WData.weightAll ds ≤ 1048576 := z
    obtain ⟨A, h1, h2⟩ := area_all ds _ hall p fun d hd => Nat.le_trans (weight_mem hd) z2
    have k : ∀ b ∈ A, b ∈ a :: A := fun b hb => List.mem_cons_of_mem _ hb
    refine ⟨a :: A, List.mem_cons_self .., fun b hb => ?_⟩
    rcases List.mem_cons.mp hb with e | m
    · rw [e]
      exact ⟨vs, line_of (by rw [wellAll_len hall]; exact Nat.le_trans (PySem.W.length_le_weightAllW ds) z2), fun u hu => (h1 u hu).mono k, .inl ho⟩
    · exact (h2 b m).mono k
  | .tuple ds, _, x, p, z => by
    obtain ⟨a, vs, rfl, ho, hall⟩ := well_tuple x
    have z2 : WData.weightAll ds ≤ 1048576 := z
    obtain ⟨A, h1, h2⟩ := area_all ds _ hall p fun d hd => Nat.le_trans (weight_mem hd) z2
    have k : ∀ b ∈ A, b ∈ a :: A := fun b hb => List.mem_cons_of_mem _ hb
    refine ⟨a :: A, List.mem_cons_self .., fun b hb => ?_⟩
    rcases List.mem_cons.mp hb with e | m
    · rw [e]
      exact ⟨vs, line_of (by rw [wellAll_len hall]; exact Nat.le_trans (PySem.W.length_le_weightAllW ds) z2), fun u hu => (h1 u hu).mono k, .inr ho⟩
    · exact (h2 b m).mono k
  | .float _, _, _, p, _ => Bool.noConfusion (show false = true from p)
  | .dict _, _, _, p, _ => Bool.noConfusion (show false = true from p)
  | .bytearray _, _, _, p, _ => Bool.noConfusion (show false = true from p)
  | .set _, _, _, p, _ => Bool.noConfusion (show false = true from p)
  | .frozenset _, _, _, p, _ => Bool.noConfusion (show false = true from p)
  | .obj _ _, _, _, p, _ => Bool.noConfusion (show false = true from p)
theorem area_all : ∀ (ds : List WData) (vs : List Value), WellAll P h vs ds → plWs ds = true → (∀ d ∈ ds, d.weight ≤ 1048576) → ∃ A : List Addr, (∀ u ∈ vs, OkU A u) ∧ ∀ a ∈ A, ArgOb h A a
  | [], _, x, _, _ => by
    cases x
    exact ⟨[], fun u m => absurd m (by simp), fun a m => absurd m (by simp)⟩
  | d :: ds, _, x, p, z => by
    obtain ⟨v, vs, rfl, x1, x2⟩ := well_cons x
    have q : plW d = true ∧ plWs ds = true := Bool.and_eq_true_iff.mp p
    obtain ⟨A, a1, a2⟩ := area_one d v x1 q.1 (z d (List.mem_cons_self ..))
    obtain ⟨B, b1, b2⟩ := area_all ds vs x2 q.2 fun e he => z e (List.mem_cons_of_mem _ he)
    have kA : ∀ b ∈ A, b ∈ A ++ B := fun b hb => List.mem_append.mpr (.inl hb)
    have kB : ∀ b ∈ B, b ∈ A ++ B := fun b hb => List.mem_append.mpr (.inr hb)
    refine ⟨A ++ B, fun u hu => ?_, fun b hb => ?_⟩
    · rcases List.mem_cons.mp hu with e | m
      · rw [e]
        exact a1.mono kA
      · exact (b1 u m).mono kB
    · rcases List.mem_append.mp hb with m | m
      · exact (a2 b m).mono kA
      · exact (b2 b m).mono kB
end
end
def hoOf (o : Obj) : Option HO := match o.data with
  | .seq vs _ => if (o.cls == Value.type "list") = true then some (.frz o (.lst (vs.toList.map toV))) else some (.frz o (.tup (vs.toList.map toV)))
  | _ => none
def argH (K : PySem.W.Frag) (h : Heap) (A : List Addr) : Hp := fun b => if b ∈ A then (if (K.lookup b).isNone = true then (h.get? b).bind hoOf else none) else none
def OnlyF (H : Hp) : Prop := ∀ b, H b = none ∨ ∃ o u, H b = some (.frz o u)
theorem hoOf_lst (vs : List Value) : hoOf { cls := .type "list", data := .seq vs.toArray } = some (.frz { cls := .type "list", data := .seq vs.toArray } (.lst (vs.map toV))) := by
  show (if (Value.type "list" == Value.type "list") = true then some (HO.frz { cls := .type "list", data := .seq vs.toArray } (.lst (vs.toArray.toList.map toV))) else some (HO.frz { cls := .type "list", data := .seq vs.toArray } (.tup (vs.toArray.toList.map toV)))) = _
  rw [if_pos (beq_self_eq_true _)]
theorem hoOf_tup (vs : List Value) : hoOf { cls := .type "tuple", data := .seq vs.toArray } = some (.frz { cls := .type "tuple", data := .seq vs.toArray } (.tup (vs.map toV))) := by
  show (if (Value.type "tuple" == Value.type "list") = true then some (HO.frz { cls := .type "tuple", data := .seq vs.toArray } (.lst (vs.toArray.toList.map toV))) else some (HO.frz { cls := .type "tuple", data := .seq vs.toArray } (.tup (vs.toArray.toList.map toV)))) = _
  rw [if_neg (by decide)]
section
variable {P : Program} {w : World} {K : PySem.W.Frag} {h : Heap} {A : List Addr}
theorem argH_at {b : Addr} {o : Obj} (hb : b ∈ A) (hk : K.lookup b = none) (e : h.get? b = some o) : argH K h A b = hoOf o := by
  unfold argH
  rw [if_pos hb, hk, if_pos (show (none : Option Obj).isNone = true from rfl), e] <;> rfl
theorem of_argH {b : Addr} {u : HO} (q : argH K h A b = some u) : b ∈ A ∧ K.lookup b = none := by
  unfold argH at q
  by_cases hb : b ∈ A
  · rw [if_pos hb] at q
    cases hk : K.lookup b with
    | none => exact ⟨hb, rfl⟩
    | some o =>
      rw [hk, if_neg (by simp)] at q
      cases q
  · rw [if_neg hb] at q
    cases q
theorem argH_is (ar : ∀ a ∈ A, ArgOb h A a) {b : Addr} {u : HO} (q : argH K h A b = some u) : K.lookup b = none ∧ ∃ vs : List Value, vs.length ≤ sizeLine ∧ (∀ u ∈ vs, OkU A u) ∧
    ((h.get? b = some { cls := .type "list", data := .seq vs.toArray } ∧ u = .frz { cls := .type "list", data := .seq vs.toArray } (.lst (vs.map toV))) ∨
     (h.get? b = some { cls := .type "tuple", data := .seq vs.toArray } ∧ u = .frz { cls := .type "tuple", data := .seq vs.toArray } (.tup (vs.map toV)))) := by
  obtain ⟨hb, hk⟩ := of_argH q
  obtain ⟨vs, h1, h2, h3⟩ := ar b hb
  refine ⟨hk, vs, h1, h2, ?_⟩
  rcases h3 with e | e
  · rw [argH_at hb hk e, hoOf_lst] at q
    exact .inl ⟨e, (Option.some.inj q).symm⟩
  · rw [argH_at hb hk e, hoOf_tup] at q
    exact .inr ⟨e, (Option.some.inj q).symm⟩
theorem argH_only (ar : ∀ a ∈ A, ArgOb h A a) : OnlyF (argH K h A) := fun b => by
  cases q : argH K h A b with
  | none => exact .inl rfl
  | some u =>
    obtain ⟨_, vs, _, _, ⟨_, e⟩ | ⟨_, e⟩⟩ := argH_is ar q
    · exact .inr ⟨_, _, by rw [e]⟩
    · exact .inr ⟨_, _, by rw [e]⟩
theorem argH_ok (ar : ∀ a ∈ A, ArgOb h A a) : HOk P w (argH K h A) h := fun b u q => by
  obtain ⟨_, vs, h1, h2, ⟨e, rfl⟩ | ⟨e, rfl⟩⟩ := argH_is ar q
  · exact ⟨e, by rw [List.length_map]; exact h1, vs, _, vals_toV h2, e⟩
  · exact ⟨e, by rw [List.length_map]; exact h1, vs, vals_toV h2, _, e, rfl, _, rfl⟩
theorem seq_inj {c c' : Value} {vs us : List Value} (e : (some { cls := c, data := .seq vs.toArray } : Option Obj) = some { cls := c', data := .seq us.toArray }) : c = c' ∧ vs = us := by
  have e1 := Option.some.inj e
  have e2 : c = c' := congrArg Obj.cls e1
  have e3 : Data.seq vs.toArray = Data.seq us.toArray := congrArg Obj.data e1
  injection e3 with e4
  refine ⟨e2, ?_⟩
  have e5 := congrArg Array.toList e4
  simpa using e5
theorem argL (KX : K.In h) (ar : ∀ a ∈ A, ArgOb h A a) {a : Addr} {vs : List Value} (ha : a ∈ A) (e : h.get? a = some { cls := .type "list", data := .seq vs.toArray }) : (∀ u ∈ vs, OkU A u) ∧ SqL K (argH K h A) a (vs.map toV) := by
  obtain ⟨us, h1, h2, h3⟩ := ar a ha
  have hu : us = vs := by
    rcases h3 with q | q
    · rw [e] at q
      exact (seq_inj q).2.symm
    · rw [e] at q
      exact absurd (Value.type.inj (seq_inj q).1) (by decide)
  subst hu
  refine ⟨h2, ?_⟩
  cases hk : K.lookup a with
  | none => exact .inl (.inr ⟨_, by rw [argH_at ha hk e, hoOf_lst]⟩)
  | some o =>
    have e2 := KX a o hk
    rw [e] at e2
    obtain rfl := Option.some.inj e2
    exact .inr ⟨_, us.toArray, _, hk, rfl, rfl, rfl, by rw [List.size_toArray]; exact h1, by simpa using vals_toV h2⟩
theorem argT (KX : K.In h) (ar : ∀ a ∈ A, ArgOb h A a) {a : Addr} {vs : List Value} (ha : a ∈ A) (e : h.get? a = some { cls := .type "tuple", data := .seq vs.toArray }) : (∀ u ∈ vs, OkU A u) ∧ SqT K (argH K h A) a (vs.map toV) := by
  obtain ⟨us, h1, h2, h3⟩ := ar a ha
  have hu : us = vs := by
    rcases h3 with q | q
    · rw [e] at q
      exact absurd (Value.type.inj (seq_inj q).1) (by decide)
    · rw [e] at q
      exact (seq_inj q).2.symm
  subst hu
  refine ⟨h2, ?_⟩
  cases hk : K.lookup a with
  | none => exact .inl (.inr ⟨_, by rw [argH_at ha hk e, hoOf_tup]⟩)
  | some o =>
    have e2 := KX a o hk
    rw [e] at e2
    obtain rfl := Option.some.inj e2
    exact .inr ⟨_, us.toArray, _, hk, rfl, rfl, by rw [List.size_toArray]; exact h1, by simpa using vals_toV h2⟩
mutual
theorem dw_one {Pm : Params} (KX : K.In h) (ar : ∀ a ∈ A, ArgOb h A a) : ∀ (d : WData) (v : Value), Well Pm h v d → plW d = true → OkU A v → Dw K (argH K h A) (toV v) d
  | .none, _, x, _, _ => by
    cases x
    exact .non
  | .bool b, _, x, _, _ => by
    cases x
    exact .bl b
  | .int i, _, x, _, _ => by
    cases x
    exact .int i
  | .str s, _, x, _, _ => by
    cases x
    exact .str s
  | .bytes b, _, x, _, _ => by
    cases x
    have z := Dw.byt (K := K) (H := argH K h A) b.toArray
    exact z
  | .list ds, _, x, p, hu => by
    obtain ⟨a, vs, rfl, ho, hall⟩ := well_list x
    obtain ⟨h2, hs⟩ := argL KX ar hu ho
    exact .lst hs (dw_all KX ar ds _ hall p h2)
  | .tuple ds, _, x, p, hu => by
    obtain ⟨a, vs, rfl, ho, hall⟩ := well_tuple x
    obtain ⟨h2, hs⟩ := argT KX ar hu ho
    exact .tup hs (dw_all KX ar ds _ hall p h2)
  | .float _, _, _, p, _ => Bool.noConfusion (show false = true from p)
  | .dict _, _, _, p, _ => Bool.noConfusion (show false = true from p)
  | .bytearray _, _, _, p, _ => Bool.noConfusion (show false = true from p)
  | .set _, _, _, p, _ => Bool.noConfusion (show false = true from p)
  | .frozenset _, _, _, p, _ => Bool.noConfusion (show false = true from p)
  | .obj _ _, _, _, p, _ => Bool.noConfusion (show false = true from p)
theorem dw_all {Pm : Params} (KX : K.In h) (ar : ∀ a ∈ A, ArgOb h A a) : ∀ (ds : List WData) (vs : List Value), WellAll Pm h vs ds → plWs ds = true → (∀ u ∈ vs, OkU A u) → DwAll K (argH K h A) (vs.map toV) ds
  | [], _, x, _, _ => by
    cases x
    exact .nil
  | d :: ds, _, x, p, hu => by
    obtain ⟨v, vs, rfl, x1, x2⟩ := well_cons x
    have q : plW d = true ∧ plWs ds = true := Bool.and_eq_true_iff.mp p
    exact .cons (dw_one KX ar d v x1 q.1 (hu _ (List.mem_cons_self ..))) (dw_all KX ar ds vs x2 q.2 fun u m => hu u (List.mem_cons_of_mem _ m))
end
end
theorem spec_call {P : Program} {w : World} {K : PySem.W.Frag} {mg mb : Str → Option Value} {CX : CXT} {k : Nat} {fa : Addr} {fd : FuncData} {ps : List Str} {sp : Sp} {s₁ : Shared} {vals : List Value} {ds : List WData} {R : PySem.W.WRecords} {cl : Str → Option Addr} {d0 : WData}
    (KX : K.In s₁.heap) (hns : s₁.heap.Ns mainGlobals mg) (hb : s₁.heap.Ns builtinsNs mb) (hbb : ∀ x : Str, x ≠ "__name__" → mb x = bootBuiltins x) (hlim : s₁.heap.NoLimit) (hg : s₁.gens = #[])
    (hwl : WellAll w.params s₁.heap vals ds) (hpl : plWs ds = true) (hwt : ∀ d ∈ ds, d.weight ≤ 1048576) (hr : Room k callerA)
    (F : ∀ base : Heap, K.In base → base.Ns mainGlobals mg → FnOk P w K mg base CX k fa fd ps sp) (hbind : ∀ (s : Shared) (us : List Value), us.length = ps.length → BindsTo s fd ⟨us, []⟩ (ps.zip us)) (hlen : ds.length = ps.length)
    (hsp : ∀ (H : Hp) (xs : List V), OnlyF H → DwAll K H xs ds → sp xs H (fun v H' => Dw K H' v d0) fun _ _ _ => False)
    (hCX : ∀ H e s', CX [] H s₁ (fun _ _ _ => False) e s' → False) :
    codeAny (model P w) callerA (.call (.ref fa) ⟨vals, []⟩) (fun r s' => ∃ u as, r = .ok (.ret u) ∧ ReadsW R cl s'.heap u d0 as ∧ OldK s₁.heap s'.heap ∧ s'.os = s₁.os ∧ AllBare s'.gens) s₁ := by
  obtain ⟨A, ho, ar⟩ := area_all ds vals hwl hpl hwt
  have hO : OnlyF (argH K s₁.heap A) := argH_only ar
  have hok : HOk P w (argH K s₁.heap A) s₁.heap := argH_ok ar
  have hS := dw_all KX ar ds vals hwl hpl ho
  have hV := vals_toV ho
  have hK : ∀ b u, argH K s₁.heap A b = some u → K.lookup b = none := fun b u q => (argH_is ar q).1
  have noA : ∀ {b : Addr} {o : Obj} {es : Array DictEntry} {ep : Nat}, s₁.heap.get? b = some o → o.data = .dict es ep → argH K s₁.heap A b = none := fun {b o es ep} e d => by
    cases q : argH K s₁.heap A b with
    | none => rfl
    | some u =>
      obtain ⟨_, vs, _, _, ⟨e2, _⟩ | ⟨e2, _⟩⟩ := argH_is ar q
      · rw [e2] at e
        cases e
        have d' : Data.seq vs.toArray _ = Data.dict es ep := d
        cases d'
      · rw [e2] at e
        cases e
        have d' : Data.seq vs.toArray _ = Data.dict es ep := d
        cases d'
  generalize argH K s₁.heap A = H at hO hok hS hK noA
  have base_of : ∀ {b : Addr} {o : Obj}, s₁.heap.get? b = some o → H b = none → (hidT s₁.heap H).get? b = some o := fun e n => hidT_get e n
  have nsK : ∀ {b : Addr} {m : Str → Option Value}, s₁.heap.Ns b m → (hidT s₁.heap H).Ns b m := fun {b m} ⟨o, es, ep, e, d, r⟩ => ⟨o, es, ep, base_of e (noA e d), d, r⟩
  have nK : ∀ b o, K.lookup b = some o → H b = none := fun b o e => by
    cases q : H b with
    | none => rfl
    | some u =>
      rw [hK b u q] at e
      cases e
  have hKb : K.In (hidT s₁.heap H) := fun b o e => base_of (KX b o e) (nK b o e)
  have hM : Mod K mg (hidT s₁.heap H) := ⟨hKb, nsK hns, ⟨mb, nsK hb, hbb⟩, let ⟨mc, h1, h2⟩ := hlim; ⟨mc, nsK h1, h2⟩⟩
  have e0 : Env0 P w K mg (hidT s₁.heap H) callerA [] s₁ H := ⟨rfl, hM, fun b o e => of_hidT e, Nat.le_of_eq (hidT_size _ _), trivial, fun b hb => absurd (show b ∈ ([] : List Addr) from hb) (by simp), hok, .of_eq hg⟩
  have hl : vals.length = ps.length := by rw [wellAll_len hwl]; exact hlen
  refine codeAny_mono ((F _ hKb (nsK hns)).run callerA [] s₁ H ⟨vals, []⟩ vals (vals.map toV) _ _ hr e0 (hbind s₁ vals hl) hV (hsp H _ hO hS)) fun r s' x => ?_
  cases r with
  | error e => exact (hCX H e s' x).elim
  | ok fl =>
    cases fl with
    | next => exact False.elim x
    | brk => exact False.elim x
    | cont => exact False.elim x
    | ret u =>
      obtain ⟨v, H', os, bare, un, hok', r', q⟩ := x
      have kept : ∀ b o, s₁.heap.get? b = some o → s'.heap.get? b = some o := fun b o e => by
        cases q2 : H b with
        | none => exact un.keep b o e q2 (by intro z; exact absurd (show b ∈ ([] : List Addr) from z) (by simp)) (by simp)
        | some u2 =>
          rcases hO b with z | ⟨ob, u3, z⟩
          · rw [q2] at z
            cases z
          · have z2 := un.frzs b ob _ z
            obtain ⟨e1, _⟩ := hok b _ z
            obtain ⟨e2, _⟩ := hok' b _ z2
            rw [e] at e1
            cases e1
            exact e2
      have KX' : K.In s'.heap := fun b o e => kept b o (KX b o e)
      obtain ⟨as, hrd⟩ := Dw.reads (R := R) (cl := cl) hok' KX' d0 v u q r'
      exact ⟨u, as, rfl, hrd, OldK.of_keep kept, os, bare⟩
theorem layable_weight {ds : List WData} (h : WData.layableAll ds = true) : ∀ d ∈ ds, d.weight ≤ 1048576 := fun d hd =>
  (PySem.W.layableW_iff.mp (List.all_eq_true.mp h d hd)).2.2
theorem encAll_len : ∀ (cs : List Codec) (a : Codec.denoteAll cs), (Codec.encAll cs a).length = cs.length
  | [], _ => rfl
  | c :: cs, a => by
    show (Codec.encAll cs a.2).length + 1 = cs.length + 1
    rw [encAll_len cs a.2]
theorem walk_spec {r : OpenSpec} {k : Nat} {q : Program} {loose : List Str} {XP : (Str → Option Value) → Heap → Prop} {YP : World → Heap → Prop} {d : DefRec} {K : Params → PySem.W.Frag} {CX : World → CXT} {ps : List Str} {sp : World → Sp}
    (hwell : r.wellSaid = true) (hdf : d.params.defaults = []) (hlen : r.args.length = ps.length) (hr : Room k callerA)
    (hY : ∀ (w : World) (h : Heap), YP w h → (K w.params).In h)
    (F : ∀ (w : World) (mg : Str → Option Value) (fa : Addr) (h : Heap), YP w h → (K w.params).In h → h.Ns mainGlobals mg → mg d.name = some (.ref fa) →
      ∃ fd : FuncData, (∀ (s : Shared) (us : List Value), us.length = ps.length → BindsTo s fd ⟨us, []⟩ (ps.zip us)) ∧
        ∀ base : Heap, (K w.params).In base → base.Ns mainGlobals mg → FnOk r.prog w (K w.params) mg base (CX w) k fa fd ps (sp w))
    (hsp : ∀ (w : World) (H : Hp) (xs : List V) (a : Codec.denoteAll r.args), OnlyF H → Codec.withinAll r.args a = true → Codec.app r.args r.asked a = true → DwAll (K w.params) H xs (Codec.encAll r.args a) →
      sp w xs H (fun v H' => Dw (K w.params) H' v (r.ret.enc (Codec.app r.args r.f a))) fun _ _ _ => False)
    (hCX : ∀ (w : World) (H : Hp) (s : Shared) (e : Value) (s' : Shared), CX w [] H s (fun _ _ _ => False) e s' → False) :
    PySem.W.WalkOS q loose XP YP r d [] (fun f vs => PySem.call f vs) := by
  intro w s_0 s₁ mg mb G Y fa o pm cd doc dV kV ho hd hcd hD hmg hg args vals as hpre hlay hrd hwl hlo
  obtain ⟨a, e1, e2⟩ := PySem.W.os_pre_some hpre
  obtain ⟨e3, hwi⟩ := Codec.encAll_of_decAll r.args args a e1
  subst e3
  have KX := hY w _ Y
  obtain ⟨fd, hb, hF⟩ := F w mg fa _ Y KX G.T.g hmg
  refine PySem.W.enter_call (codeAny_mono (spec_call (R := []) (cl := classAt s_0.heap) (d0 := r.ret.enc (Codec.app r.args r.f a)) KX G.T.g G.T.b G.T.builtins G.T.nolimit hg hwl (pl_encAll _ _) (layable_weight hlay) hr hF hb (by rw [encAll_len]; exact hlen)
    (fun H xs hO hS => hsp w H xs a hO hwi e2 hS) fun H e s' => hCX w H s₁ e s') fun r' s' hq => ?_)
  obtain ⟨u, as', rfl, h1, h2, h3, h4⟩ := hq
  exact ⟨.inl ⟨u, _, as', rfl, fun _ => rfl, h1, (OpenSpec.post_iff hwell hwi _ _).mpr rfl, fun z => Bool.noConfusion (show false = true from z)⟩, h2, h3, h4⟩
theorem walk_specK {r : OpenSpec} {k : Nat} {q : Program} {loose : List Str} {XP : (Str → Option Value) → Heap → Prop} {YP : World → Heap → Prop} {d : DefRec} {K : Params → PySem.W.Frag} {CX : CXT} {ps : List Str} {sp : PySem.W.Frag → Sp}
    (hwell : r.wellSaid = true) (hdf : d.params.defaults = []) (hlen : r.args.length = ps.length) (hr : Room k callerA)
    (hY : ∀ (w : World) (h : Heap), YP w h → (K w.params).In h)
    (F : ∀ (w : World) (mg : Str → Option Value) (fa : Addr) (h : Heap), YP w h → (K w.params).In h → h.Ns mainGlobals mg → mg d.name = some (.ref fa) →
      ∃ fd : FuncData, (∀ (s : Shared) (us : List Value), us.length = ps.length → BindsTo s fd ⟨us, []⟩ (ps.zip us)) ∧
        ∀ base : Heap, (K w.params).In base → base.Ns mainGlobals mg → FnOk r.prog w (K w.params) mg base CX k fa fd ps (sp (K w.params)))
    (hsp : ∀ (K : PySem.W.Frag) (H : Hp) (xs : List V) (a : Codec.denoteAll r.args), OnlyF H → Codec.withinAll r.args a = true → Codec.app r.args r.asked a = true → DwAll K H xs (Codec.encAll r.args a) →
      sp K xs H (fun v H' => Dw K H' v (r.ret.enc (Codec.app r.args r.f a))) fun _ _ _ => False)
    (hCX : ∀ (H : Hp) (s : Shared) (e : Value) (s' : Shared), CX [] H s (fun _ _ _ => False) e s' → False) :
    PySem.W.WalkOS q loose XP YP r d [] (fun f vs => PySem.call f vs) :=
  walk_spec (K := K) (CX := fun _ => CX) (sp := fun w => sp (K w.params)) hwell hdf hlen hr hY F (fun w H xs a h1 h2 h3 h4 => hsp (K w.params) H xs a h1 h2 h3 h4) fun _ H s e s' => hCX H s e s'
end L2
end
end
section
set_option Elab.async false
set_option linter.all false
set_option maxRecDepth 100000
/-! Own rules over the layer: extend by a tuple, any over ints, sorted over a dict, a dict of the module, forms of loops. -/
namespace L2
open PySem PySem.Spec PyProof.Rows
open AutoSeq1 (wpAny_loadPart' idx_int)

/-! ### xs.extend(a tuple) -/
theorem extend_tup_any (l : Addr) (items : Array Value) (n : Nat) (b : Addr) (items2 : Array Value) (n2 : Nat) (dd : Option Addr) (sl : Array (Option Value)) (hs0 : ¬(!items.isEmpty && Builtin.List.listTooLong (items.size + items2.size)) = true) (hs1 : items.size ≤ sizeLine) (hs2 : items.size + items2.size ≤ sizeLine + 1) :
    Meets (Builtin.«list.extend» ⟨[.ref l, .ref b], []⟩) (fun _ R s => s.heap.get? l = some { cls := .type "list", dict := none, data := .seq items n, slots := #[] } ∧ s.heap.get? b = some { cls := .type "tuple", dict := dd, data := .seq items2 n2, slots := sl } ∧ R (.ok (.ret Value.none)) { s with heap := s.heap.update l (Obj.mapSeq fun x => x ++ items2), toks := s.toks }) :=
  .of_wp fun prog w A R s h => by
    obtain ⟨hp, g, d, tk, os⟩ := s; obtain ⟨hl, hb, h⟩ := h; have f1 := idx_int; have f2 := AutoSeq1.sub_tuple_tuple; have f3 := AutoSeq1.sub_list_list; have f4 := AutoSeq1.sub_tuple_list; have f5 := AutoSeq1.sub_list_tuple;
    have hz' : (items ++ items2).size ≤ sizeLine + 1 := by rw [Array.size_append]; exact hs2
    wp_walk using (wpAny_updateSeq hl rfl (hz := hs1) (_hz' := hz')), wpAny_loadPart' hl, wpAny_loadPart' hb; exact ⟨_, rfl, h⟩
section
variable {X : Cx}
def rExtendT (K : PySem.W.Frag) : V → List V → Hp → VK → Prop := fun x vs H Q => ∃ l b xs zs, x = .ref l ∧ vs = [.ref b] ∧ H l = some (.lst xs) ∧ SqT K H b zs ∧ xs.length + zs.length ≤ sizeLine ∧ Q .non (upd H l (.lst (xs ++ zs)))
theorem mt_extendT : MtM X "list.extend" (rExtendT X.K) := by
  intro pins s σ H x vs v us Q I rx rv h
  obtain ⟨l, b, xs, zs, rfl, rfl, hH, hB, hz, q⟩ := h
  cases rx
  obtain ⟨u, rfl, ru⟩ := rv.one
  cases ru
  obtain ⟨z, its, n, r, hl, e⟩ := I.lstM hH
  obtain ⟨its2, r2, ⟨⟨oc, od, odt, osl⟩, e2, ec, n2, ed⟩, z2⟩ := I.tuple hB
  replace ec : oc = .type "tuple" := ec
  replace ed : odt = .seq its2.toArray n2 := ed
  subst ec ed
  have hl2 := r2.length
  have hsz : its.toArray.size + its2.toArray.size ≤ sizeLine := by rw [List.size_toArray, List.size_toArray]; omega
  have hlong : ¬ (!its.toArray.isEmpty && Builtin.List.listTooLong (its.toArray.size + its2.toArray.size)) = true := by
    rw [notLongL hsz, Bool.and_false]
    exact Bool.false_ne_true
  refine call_meets F.slot_list_extend ⟨_, e, rfl⟩ F.entry_list_extend (F.args_list_extend_2 _ _)
    (extend_tup_any l its.toArray n b its2.toArray n2 od osl hlong (by rw [List.size_toArray]; omega) (by omega)) ⟨e, e2, ?_⟩
  refine ⟨.non, _, I.lset (its' := its ++ its2) hH e (by simp) (r.append r2) ?_, rfl, q⟩
  rw [List.length_append]
  omega

/-! ### any(xs) of a list of ints -/
theorem truth_ints {prog : Program} {w : World} {A : Around} {ns : List Int} {its : List Value} (e : IntsAre its ns) :
    TruthOf prog w A (fun i v => its.toArray[i]? = some v) (fun i => ns.getD i 0 != 0) := fun i v s Q E hv hq => by
  have hv' : its[i]? = some v := by simpa using hv
  obtain ⟨x, hx, hg⟩ : ∃ x : Int, (∃ t, v = .int x t) ∧ ns.getD i 0 = x := by
    have q := vals_of_ints e
    have hl := q.length
    rw [List.length_map] at hl
    have hi : i < ns.length := by have := (List.getElem?_eq_some_iff.mp hv').1; omega
    obtain ⟨u, hu, ru⟩ := q.get (i := i) (x := V.int ns[i]) (by simp [hi])
    rw [hv'] at hu
    cases hu
    obtain ⟨t, rfl⟩ := ru
    exact ⟨ns[i], ⟨t, rfl⟩, by simp [List.getD_eq_getElem?_getD, hi]⟩
  obtain ⟨t, rfl⟩ := hx
  have hq' : Q (ns.getD i 0 != 0) s := hq
  rw [hg] at hq'
  exact PySem.P.truthy_int hq'
theorem any_rangeI : ∀ ns : List Int, (List.range ns.length).any (fun i => ns.getD i 0 != 0) = ns.any (· != 0)
  | [] => rfl
  | b :: bs => by
    rw [List.length_cons, List.range_succ_eq_map, List.any_cons, List.any_map, List.any_cons, ← any_rangeI bs]
    all_goals rfl
def rAnyI (K : PySem.W.Frag) : List V → Hp → VK → Prop := fun vs H Q => ∃ (a : Addr) (ns : List Int), vs = [V.ref a] ∧ SqL K H a (ns.map V.int) ∧ Q (.bl (ns.any (· != 0))) H
theorem cr_anyI (hc : X.calm = true) : CallR X (.builtin "any") (rAnyI X.K) := by
  intro pins s σ H vs us Q I r h
  obtain ⟨a, ns, rfl, hs, q⟩ := h
  obtain ⟨its, rv, hl, _⟩ := I.list hs
  rw [Vals.ref1 r]
  have hb := rv.ints
  refine call_any_walk (iter_any hl.isList fun s₂ e2 st hne => ?_)
  subst e2
  refine ⟨_, _, _, _, _, _, _, rfl, Walks.list (A := X.A.in1) (I.ok.hd hc) _ a hne its.toArray, st, truth_ints hb, fun h' tk hk => ?_⟩
  refine ⟨.bl _, H, I.kept fun b o eo => hk b o (fun hmem => ?_) (Heap.get?_push_of_some _ eo), ?_, q⟩
  · rcases List.mem_cons.mp hmem with e1 | hmem
    · exact absurd (e1 ▸ Heap.lt_size eo) (Nat.lt_irrefl _)
    · cases hmem
  · show Value.bool _ = Value.bool _
    rw [← any_rangeI, List.size_toArray, ← hb.length]
end

/-! ### a dict of the module, read -/
/-- the dict at a, in the written part -/
def KDict (P : Program) (w : World) (K : PySem.W.Frag) (a : Addr) (kvs : List (Key × V)) : Prop :=
  ∃ (vs : List (Key × Value)) (o : Obj) (es : Array DictEntry) (ep : Nat), KV kvs vs ∧ K.lookup a = some o ∧ o.ExactDict ∧ o.data = .dict es ep ∧ KeysOf (mixKind P w) es ∧ Pairs (mixKind P w) es.toList vs ∧ (vs.map (·.1)).Nodup
theorem KDict.dict {P : Program} {w : World} {K : PySem.W.Frag} {a : Addr} {kvs : List (Key × V)} {h : Heap} (d : KDict P w K a kvs) (k : K.In h) : ∃ vs, KV kvs vs ∧ h.DictOf (mixKind P w) a vs := by
  obtain ⟨vs, o, es, ep, r, e, h1, h2, h3⟩ := d
  exact ⟨vs, r, o, es, ep, k a o e, h1, h2, h3⟩
def tKDGet (P : Program) (w : World) (K : PySem.W.Frag) (td ty : TE) : TE := fun σ H Q => td σ H fun x H1 => ty σ H1 fun y H2 => ∃ a kvs k v, x = .ref a ∧ KDict P w K a kvs ∧ y = kV k ∧ valV kvs k = some v ∧ Q v H2
theorem pe_kdget {X : Cx} {o i : Expr} {pos : Pos} {td ty : TE} (ho : PE X o td) (hi : PE X i ty) (hs : NoSl i) : PE X (.Subscript o i pos) (tKDGet X.prog X.w X.K td ty) := by
  intro pins s σ H Q I h
  refine subD_of PySem.F.slot_dict_getitem.lookup hs (thn (ho pins s σ H _ I h) fun u s1 ⟨x, H1, I1, rx, q1⟩ => thn (hi pins s1 σ H1 _ I1 q1) fun iv s2 ⟨y, H2, I2, ry, a, kvs, k, v, ex, g, ey, l, q2⟩ => ?_)
  subst ex ey
  obtain rfl : u = Value.ref a := rx
  obtain ⟨vs, rel, dd⟩ := g.dict I2.kIn
  obtain ⟨w', hw, rw'⟩ := RelO.some_of (v := v) (o := valueAt vs k) (by rw [← l]; exact rel.val k)
  exact ⟨dd.typeIs, wpAny_getItem_of (kV_is ry) dd.mapOf hw ⟨v, H2, I2.tok _, rw', q2⟩⟩

/-! ### sorted(d) of a dict with int keys -/
/-- a walk gathered, with the place where it was gathered -/
theorem gather_at {prog : Program} {w : World} {A : Around} {E : Value → Shared → Prop} {s : Shared} {T : String} {r d : Addr} {n : Nat} {P : Nat → Value → Prop} {OK : Heap → Prop} {G : List Value → Shared → Prop} (src : PySem.W.KdlSrc prog w T r d n P OK) (calm : A.handled = none) (there : OK s.heap) (few : n ≤ sizeLine)
    (h : ∀ (h' : Heap) (tk : Nat) (acc : Array Value), s.heap.objs.size < h'.objs.size → (∀ b o, s.heap.get? b = some o → h'.get? b = some o) → ItemsOf P acc n → G acc.toList { s with heap := h', toks := tk }) : wpAny (model prog w) A (collect (.ref r)) G E s := by
  have below := src.there _ there
  unfold collect
  refine wpAny_bind (wpAny_runValue (codeAny_builtin PySem.F.entry_proto_collect ?_))
  rw [Around.under_plainId PySem.F.plain_proto_collect (_ : Args)]
  show wpAny _ A.in1 (newList [] >>= fun made => again (.builtin "list.__iadd__" ⟨[made, .ref r], []⟩)) _ _ s
  refine wpAny_bind (wpAny_newObj_type ?_)
  refine wpAny_pure ⟨plainId_quiet PySem.F.plain_list_iadd (_ : Args), codeAny_builtin PySem.F.entry_list_iadd ?_⟩
  rw [Around.under_plainId PySem.F.plain_list_iadd (_ : Args)]
  have made : (s.heap.push { cls := .type "list", data := .seq ([] : List Value).toArray }).get? s.heap.objs.size = some { cls := .type "list", data := .seq #[] } := Heap.get?_push_size (_ : Heap) rfl
  show wpAny _ A.in1 (Builtin.List.listExtendWith (.ref s.heap.objs.size) (.ref r) (.ref s.heap.objs.size)) (_ : Fin → Shared → Prop) _ _
  have run := PySem.W.kdl_extend (A := A) (s := { s with heap := s.heap.push { cls := .type "list", data := .seq ([] : List Value).toArray } })
    (R := fun (q : Result) (s' : Shared) => ∃ (g : Heap) (tk : Nat) (all : Array Value) (c : Nat), q = .ok (.ret (.ref s.heap.objs.size)) ∧ s' = { s with heap := g, toks := tk } ∧
      (∀ b o, s.heap.get? b = some o → g.get? b = some o) ∧ g.get? s.heap.objs.size = some { cls := .type "list", dict := none, data := .seq all c, slots := #[] } ∧ ItemsOf P all n)
    src calm (src.keep _ _ there fun b _ o e => Heap.get?_push_of_some (_ : Obj) e) s.heap.objs.size (Nat.ne_of_gt below.1) (Nat.ne_of_gt below.2) (.ref s.heap.objs.size) 0 made
    (fun g tk all c kp at_ ok => ⟨g, tk, all, c, rfl, rfl, fun b o e => kp b o (Nat.ne_of_lt (Heap.lt_size e)) (Heap.get?_push_of_some (_ : Obj) e), at_, ok⟩) few
  refine wpAny_mono run (fun fin s' x => ?_) fun e s' x => ?_
  · cases fin with
    | done f =>
      obtain ⟨g, tk, all, c, e, rfl, kp, at_, ok⟩ := x
      cases e
      show wpAny _ A (load s.heap.objs.size >>= (_ : Obj → Sem (List Value))) _ _ _
      refine wpAny_bind (wpAny_load at_ ?_)
      exact wpAny_pure (h g tk all (Heap.lt_size at_) kp ok)
    | again c₁ =>
      refine ⟨x.1, codeAny_mono x.2 fun q s₂ y => ?_⟩
      obtain ⟨g, tk, all, c, rfl, rfl, kp, at_, ok⟩ := y
      show wpAny _ A (load s.heap.objs.size >>= (_ : Obj → Sem (List Value))) _ _ _
      refine wpAny_bind (wpAny_load at_ ?_)
      exact wpAny_pure (h g tk all (Heap.lt_size at_) kp ok)
  · obtain ⟨_, _, _, _, z, _⟩ := x
    cases z
section
variable {X : Cx}
def rSortedD : List V → Hp → VK → Prop := fun vs H Q => ∃ (a : Addr) (kvs : List (Key × V)) (ks : List Int), vs = [V.ref a] ∧ H a = some (.dK kvs) ∧ kvs.map (·.1) = ks.map Sum.inl ∧ ks.length < 64 ∧
  ∀ (ns : List Int) (p : Addr), ns.Perm ks → ns.Pairwise (· ≤ ·) → H p = none → Q (.ref p) (upd H p (.lst (ns.map V.int)))
theorem ints_of_keys {vs : List Value} {ks : List Int} (hl : vs.length = ks.length) (h : ∀ (j : Nat) (v : Value), vs[j]? = some v → ∃ k, ks[j]? = some k ∧ ∃ t, v = .int k t) : IntsAre vs ks := by
  have q : Vals (ks.map V.int) vs := by
    induction vs generalizing ks with
    | nil =>
      cases ks with
      | nil => exact .nil
      | cons _ _ => simp at hl
    | cons v r ih =>
      cases ks with
      | nil => simp at hl
      | cons k ks' =>
        obtain ⟨k', e, t, ev⟩ := h 0 v rfl
        have e' : k = k' := Option.some.inj e
        subst e'
        exact .cons ⟨t, ev⟩ (ih (by simpa using hl) fun j v' hv => h (j + 1) v' hv)
  exact q.ints
theorem cr_sortedD (hc : X.calm = true) : CallR X (.builtin "sorted") rSortedD := by
  intro pins s σ H vs us Q I r h
  obtain ⟨a, kvs, ks, rfl, ha, hk, h64, q⟩ := h
  rw [Vals.ref1 r]
  obtain ⟨z, hd, ws, rel, dd⟩ := dk_of I.hok ha
  obtain ⟨ep, hat⟩ := dd.dictAt
  have hlen : ws.length = ks.length := by
    have e1 := rel.length
    have e2 := congrArg List.length hk
    rw [List.length_map, List.length_map] at e2
    omega
  refine Calls.call_function_entry kind_sorted plain_sorted entry_sorted (args_sorted1 _) ?_
  unfold Builtin.«sorted»
  refine wpAny_bind (m := checkCount "sorted" 1 1 _) (wpAny_pure ?_)
  refine wpAny_bind (gather_at (A := X.A.in1) (PySem.W.kdl_dict (knd := mixKind X.prog X.w) (kvs := ws) (ep := ep) hd) (I.ok.hd hc) hat (by rw [hlen]; exact small64 h64) fun h' tk acc hgt hkp hacc => ?_)
  have hl : acc.toList.length = ks.length := by rw [Array.length_toList, ← hlen]; exact hacc.1
  refine wpAny_bind (wpAny_newList ?_ (by rw [hl]; exact small64 h64))
  have hints : IntsAre acc.toList ks := ints_of_keys hl fun j v e => by
    obtain ⟨k, x, hx, hki⟩ := hacc.2 j v (by rw [← Array.getElem?_toList]; exact e)
    have e3 : (ws.map (·.1))[j]? = some k := by rw [List.getElem?_map, hx]; rfl
    rw [← rel.keys, hk, List.getElem?_map] at e3
    obtain ⟨k', hk', e4⟩ := Option.map_eq_some_iff.mp e3
    subst e4
    obtain ⟨t, e5⟩ := Value.isInt_shape (k := k') (v := v) hki
    exact ⟨k', hk', t, e5⟩
  have hob : (h'.push { cls := .type "list", data := .seq acc.toList.toArray }).get? h'.objs.size = some (seqObj "list" acc.toList.toArray 0) := Heap.get?_push_size _ rfl
  refine wpAny_bind (wpAny_holding ?_)
  refine wpAny_call_entry PyProof.Rows.slot_list_sort ⟨_, hob, rfl⟩ PyProof.Rows.entry_list_sort
    (PyProof.Rows.list_sort_tree hob hints (by rw [hl]; exact h64) fun out ns' h1 h2 h3 => ⟨.none, rfl, ?_⟩) (PyProof.Rows.args_list_sort _)
  obtain ⟨ep2, he'⟩ := PyProof.Rows.sortedHeap_at (vs := acc.toList) (out := out) hob
  have hlen2 : (ns'.map V.int).length ≤ sizeLine := by rw [List.length_map, h2.length_eq]; exact small64 h64
  have hsz : s.heap.objs.size ≤ h'.objs.size := Nat.le_of_lt hgt
  refine wpAny_pure ⟨_, rfl, .ref h'.objs.size, upd H h'.objs.size (.lst (ns'.map V.int)), I.laid (t' := tk) (fun b u hu => ?_) hsz ⟨hlen2, out.toList, ep2, vals_of_ints h1, he'⟩, rfl, q ns' _ h2 h3 (I.hok.fresh hsz)⟩
  have hu' := hkp b u hu
  have hne : b ≠ h'.objs.size := Nat.ne_of_lt (Heap.lt_size hu')
  rw [PyProof.Rows.sortedHeap_old hne (by rw [Heap.size_push]; exact Nat.lt_succ_of_lt (Heap.lt_size hu'))]
  exact Heap.get?_push_of_some _ hu'
end

/-! ### loops over any iterator that has just n turns -/
theorem for_gen {J : It} {n : Nat} {g : TG} {tb : TS} {D : Ends} {σ : St} {H : Hp} (Pv : Nat → St → Hp → Prop) (h0 : Pv 0 σ H) (hgo : ∀ i σ H, i < n → Pv i σ H → J.go i H) (hstop : ∀ σ H, Pv n σ H → J.stop n H)
    (hs : ∀ i σ H, i < n → Pv i σ H → ∀ x H', J.yld i H x H' → g x σ H' fun σ2 H2 => tb { D with nx := Pv (i + 1), ct := Pv (i + 1), bk := D.nx } σ2 H2) (hd : ∀ σ H, Pv n σ H → D.nx σ H) :
    ∃ W : Nat → Nat → St → Hp → Prop, (∃ m, W 0 m σ H) ∧ ∀ i m σ H, W i m σ H →
      (J.stop i H ∧ D.nx σ H) ∨ (J.go i H ∧ ∃ N : St → Hp → Prop, (∀ σ' H', N σ' H' → ∃ m', m' < m ∧ W (i + 1) m' σ' H') ∧ ∀ x H', J.yld i H x H' → g x σ H' fun σ2 H2 => tb { D with nx := N, ct := N, bk := D.nx } σ2 H2) := by
  refine ⟨fun i m σ H => m = n - i ∧ i ≤ n ∧ Pv i σ H, ⟨n, by simp, Nat.zero_le _, h0⟩, ?_⟩
  rintro i m σ H ⟨rfl, hi, p⟩
  by_cases hlt : i < n
  · exact .inr ⟨hgo i σ H hlt p, Pv (i + 1), fun σ' H' p' => ⟨n - (i + 1), by omega, rfl, hlt, p'⟩, fun x H' y => hs i σ H hlt p x H' y⟩
  · have e : i = n := by omega
    subst e
    exact .inl ⟨hstop σ H p, hd σ H p⟩
theorem lc_gen {J : It} {n : Nat} {g : TG} {tt : TT} {te : TE} {vs : List Nat} {σ : St} {H1 : Hp} {D : Addr} {Qd : Hp → Prop} (Pv : Nat → Hp → Prop) (h0 : Pv 0 (upd H1 D (.lst []))) (hgo : ∀ i H, i < n → Pv i H → J.go i H) (hstop : ∀ H, Pv n H → J.stop n H)
    (hs : ∀ i H, i < n → Pv i H → ∀ x H', J.yld i H x H' → g x (wipe σ vs) H' fun σ2 H2 => wipe σ2 vs = wipe σ vs ∧ tt σ2 H2 fun b H3 =>
      if b = true then te σ2 H3 fun y H4 => ∃ acc, H4 D = some (.lst acc) ∧ acc.length < sizeLine ∧ Pv (i + 1) (upd H4 D (.lst (acc ++ [y]))) else Pv (i + 1) H3) (hd : ∀ H, Pv n H → Qd H) :
    ∃ W : Nat → Nat → Hp → Prop, (∃ m, W 0 m (upd H1 D (.lst []))) ∧ ∀ i m H, W i m H →
      (J.stop i H ∧ Qd H) ∨ (J.go i H ∧ ∃ Nx : Hp → Prop, (∀ H', Nx H' → ∃ m', m' < m ∧ W (i + 1) m' H') ∧ ∀ x H', J.yld i H x H' → g x (wipe σ vs) H' fun σ2 H2 => wipe σ2 vs = wipe σ vs ∧ tt σ2 H2 fun b H3 =>
        if b = true then te σ2 H3 fun y H4 => ∃ acc, H4 D = some (.lst acc) ∧ acc.length < sizeLine ∧ Nx (upd H4 D (.lst (acc ++ [y]))) else Nx H3) := by
  refine ⟨fun i m H => m = n - i ∧ i ≤ n ∧ Pv i H, ⟨n, by simp, Nat.zero_le _, h0⟩, ?_⟩
  rintro i m H ⟨rfl, hi, p⟩
  by_cases hlt : i < n
  · exact .inr ⟨hgo i H hlt p, Pv (i + 1), fun H' p' => ⟨n - (i + 1), by omega, rfl, hlt, p'⟩, fun x H' y => hs i H hlt p x H' y⟩
  · have e : i = n := by omega
    subst e
    exact .inl ⟨hstop H p, hd H p⟩
end L2
end
section
set_option Elab.async false
set_option linter.all false
set_option maxRecDepth 100000
/-! enumerate(a tuple, start = a number from 0 on) -/
namespace Enu
open PySem
open AutoSeq1 (wpAny_loadPart')
section
variable {prog : Program} {w : World} {A : Around} {E : Value → Shared → Prop} {s : Shared}

/-! ### the next item of a tuple's walk, as the enumerating object asks for it -/
theorem nextT {jt tp : Addr} {i : Nat} {all : Array Value} {x : Value} {G : Value → Shared → Prop} (mark : s.heap.IsTupleIter jt tp i) (ht : s.heap.IsTuple tp all) (hx : all[i]? = some x)
    (hG : ∀ h', h'.IsTupleIter jt tp (i + 1) → Heap.SameBut jt s.heap h' → G x { s with heap := h' }) : wpAny (model prog w) A (Builtin.SmallTypes.nextOf (.ref jt)) G E s := by
  obtain ⟨ob, there, hc, hd⟩ := id mark
  obtain ⟨tob, tthere, _, nl, tdata⟩ := ht
  unfold Builtin.SmallTypes.nextOf
  refine wpAny_bind (wpAny_callSpecial?_slot (name := Str.ofString "__next__") mark.typeIs F.slot_tuple_iterator_next (wpAny_call_entry F.slot_tuple_iterator_next mark.typeIs F.entry_tuple_iterator_next ?_ (F.args_tuple_iterator_next_1 _)))
  show wpAny _ _ (field (.ref jt) 0 >>= (_ : Value → Sem Fin)) _ _ s
  refine wpAny_bind (wpAny_field there hd (x := .ref tp) rfl ?_)
  show wpAny _ _ (if (Value.ref tp == Value.none) = true then (_ : Sem Fin) else _) _ _ s
  rw [if_neg (show ¬ ((Value.ref tp == Value.none) = true) from Bool.false_ne_true)]
  show wpAny _ _ (field (.ref jt) 1 >>= (_ : Value → Sem Fin)) _ _ s
  refine wpAny_bind (wpAny_field there hd (x := .int i 0) rfl ?_)
  show wpAny _ _ (seqItems? (.ref tp) >>= (_ : Option (Array Value) → Sem Fin)) _ _ s
  refine wpAny_bind (wpAny_seqItems tthere tdata ?_)
  simp only [Int.toNat_natCast, hx]
  refine wpAny_bind (wpAny_setField there hd (by simp) (wpAny_pure ⟨x, rfl, wpAny_pure (hG _ ?_ (Heap.SameBut.update ..))⟩))
  exact ⟨_, Heap.get?_update_self _ there (Obj.isFreed_of_fields (Obj.data_mapFields hd _)), (Obj.cls_mapFields ..).trans hc, by rw [Obj.data_mapFields hd]; simp [rawInt]⟩
theorem nextT_end {jt tp : Addr} {i : Nat} {all : Array Value} {G : Value → Shared → Prop} (calm : A.handled = none) (mark : s.heap.IsTupleIter jt tp i) (ht : s.heap.IsTuple tp all) (hx : all[i]? = none)
    (hE : ∀ h' e, Heap.ExtBut jt s.heap h' → (∃ o, h'.get? e = some o ∧ o.cls = .type "StopIteration") → E (.ref e) { s with heap := h' }) : wpAny (model prog w) A (Builtin.SmallTypes.nextOf (.ref jt)) G E s := by
  obtain ⟨ob, there, hc, hd⟩ := id mark
  obtain ⟨tob, tthere, _, nl, tdata⟩ := ht
  unfold Builtin.SmallTypes.nextOf
  refine wpAny_bind (wpAny_callSpecial?_slot (name := Str.ofString "__next__") mark.typeIs F.slot_tuple_iterator_next (wpAny_call_entry F.slot_tuple_iterator_next mark.typeIs F.entry_tuple_iterator_next ?_ (F.args_tuple_iterator_next_1 _)))
  show wpAny _ _ (field (.ref jt) 0 >>= (_ : Value → Sem Fin)) _ _ s
  refine wpAny_bind (wpAny_field there hd (x := .ref tp) rfl ?_)
  show wpAny _ _ (if (Value.ref tp == Value.none) = true then (_ : Sem Fin) else _) _ _ s
  rw [if_neg (show ¬ ((Value.ref tp == Value.none) = true) from Bool.false_ne_true)]
  show wpAny _ _ (field (.ref jt) 1 >>= (_ : Value → Sem Fin)) _ _ s
  refine wpAny_bind (wpAny_field there hd (x := .int i 0) rfl ?_)
  show wpAny _ _ (seqItems? (.ref tp) >>= (_ : Option (Array Value) → Sem Fin)) _ _ s
  refine wpAny_bind (wpAny_seqItems tthere tdata ?_)
  simp only [Int.toNat_natCast, hx]
  refine wpAny_bind (wpAny_rule (wpAny_bind (wpAny_setField there hd (by simp) ?_)))
  show wpAny _ _ (newExc (.type "StopIteration") [] >>= (_ : Value → Sem Fin)) _ _ _
  refine wpAny_bind ?_
  simp only [newExc, newTuple]
  refine wpAny_bind (wpAny_newObj_type ?_ (by size_fits))
  refine wpAny_bind (m := firstArgMember _ _) (wpAny_of_eq (a := (Value.none : Value)) (by first | rfl | (simp only [firstArgMember]; rfl)) ?_)
  refine wpAny_newObj_type ?_ (by size_fits)
  simp only [raiseNew]
  refine wpAny_bind (wpAny_handled ?_)
  first | rw [show A.in1.handled = none from calm] | rw [calm]
  refine wpAny_bind (wpAny_pure (wpAny_throw ?_))
  exact hE _ _ (((Heap.SameBut.update ..).extBut.push _).push _) ⟨_, Heap.get?_push_size _ rfl, rfl⟩
end

/-- a tuple's items, counted from c on -/
theorem drawsT {prog : Program} {w : World} {A : Around} (calm : A.handled = none) (jt tp : Addr) (hne : tp ≠ jt) (all : Array Value) (c : Nat) :
    Draws prog w A jt [jt, tp] (c + all.size) (fun i v => all[i - c]? = some v) (fun i h => c ≤ i ∧ h.IsTupleIter jt tp (i - c) ∧ h.IsTuple tp all) where
  live := fun _ _ st => let ⟨o, ho, _⟩ := st.2.1; ⟨o, ho⟩
  frame := fun _ _ _ st hk => ⟨st.1, let ⟨o, ho, r⟩ := st.2.1; ⟨o, hk jt (by simp) o ho, r⟩, let ⟨o, ho, r⟩ := st.2.2; ⟨o, hk tp (by simp) o ho, r⟩⟩
  item := fun i s Q E hi st hQ => by
    obtain ⟨hc, hit, ht⟩ := st
    have hlt : i - c < all.size := by omega
    refine nextT hit ht (x := all[i - c]) (by simp [hlt]) fun h' hit' hs' => ?_
    have e : i + 1 - c = i - c + 1 := by omega
    refine hQ _ h' s.toks (by simp [hlt]) ⟨by omega, by rw [e]; exact hit', ?_⟩ hs'
    obtain ⟨o, ho, r⟩ := ht
    exact ⟨o, (hs'.2 tp hne).trans ho, r⟩
  done := fun s Q E st hE => by
    obtain ⟨hc, hit, ht⟩ := st
    exact nextT_end calm hit ht (by simp) hE

/-! ### enumerate(t, start = n) -/
theorem meets_start (tp : Addr) (all : Array Value) (n : Nat) (dct : Option Addr) (sl : Array (Option Value)) (c : Int) (u : Tok) (hc : Builtin.SmallTypes.fitsIndex c = true) :
    Meets (Builtin.«enumerate.__new__» ⟨[.type "enumerate", .ref tp], [(Str.ofString "start", .int c u)]⟩) (fun _ R s => s.heap.get? tp = some { cls := .type "tuple", dict := dct, data := .seq all n, slots := sl } ∧
      R (.ok (.ret (.ref (s.heap.push { cls := .type "tuple_iterator", data := .fields #[.ref tp, .int 0 0] }).objs.size)))
        { s with heap := (s.heap.push { cls := .type "tuple_iterator", data := .fields #[.ref tp, .int 0 0] }).push { cls := .type "enumerate", data := .fields #[.none, .bool false, .ref s.heap.objs.size, rawInt c, .none, .none] } }) :=
  .of_wp fun prog w A R s h => by
    obtain ⟨hp, g, d, tk, os⟩ := s; obtain ⟨hl, h⟩ := h
    have hsub := sub_enumerate
    have hL : Heap.IsTuple (Shared.heap ⟨hp, g, d, tk, os⟩) tp all := ⟨_, hl, rfl, n, rfl⟩
    wp_walk using wpAny_loadPart' hl
    refine wpAny_stack_any fun st => wpAny_pure ?_
    split
    · rename_i c' _ _ _ _ _
      cases (c' == Value.type "enumerate")
      · wp_walk using wpAny_loadPart' hl, wpAny_pyIter_tuple hL
        exact ⟨_, rfl, h⟩
      · wp_walk using wpAny_loadPart' hl, wpAny_pyIter_tuple hL
        exact ⟨_, rfl, h⟩
    · wp_walk using wpAny_loadPart' hl, wpAny_pyIter_tuple hL
      exact ⟨_, rfl, h⟩

/-! ### a type that is called with keywords, whose __init__ is object's -/
theorem init_kw {T newId : String} {self : Value} {rest : List Value} {kw : List (Str × Value)} (hl : typeLookup (.type T) "__init__" = pure (some (.builtin "object.__init__")))
    (hm : Bind.madeBy (.type T) = pure (some newId)) (hne : (some newId != some "object.__new__") = true) : Meets (Builtin.«object.__init__» ⟨self :: rest, kw⟩) (fun _ R s => s.TypeIs self T ∧ R (.ok (.ret .none)) s) := by
  refine Meets.of_wp fun prog w A R s hs => ?_
  obtain ⟨hT, hq⟩ := hs
  cases rest with
  | nil =>
    cases kw with
    | nil => exact wpAny_pure ⟨_, rfl, hq⟩
    | cons k kr =>
      repeat (any_goals (first | assumption | wp_step))
      exact ⟨_, rfl, hq⟩
  | cons a rest =>
    repeat (any_goals (first | assumption | wp_step))
    exact ⟨_, rfl, hq⟩
section
variable {prog : Program} {w : World} {A : Around} {E : Value → Shared → Prop} {s : Shared}
theorem callKw {T newId : String} {Bn : Builtin} {us : List Value} {kw : List (Str × Value)} {S : Spec} {Q : Value → Shared → Prop} (ft : TypeCalled T newId "object.__init__") (hne : (some newId != some "object.__new__") = true)
    (hct : checkTypeCall T ⟨us, kw⟩ = pure ()) (hcn : checkBuiltinCall newId ⟨.type T :: us, kw⟩ = pure ()) (hok : ∀ obj, argsOk "object.__init__" ⟨obj :: us, kw⟩) (entryN : entryFor table newId = some Bn)
    (g : Meets (Bn ⟨.type T :: us, kw⟩) S) (h : S A.in1 (wants (fun obj s₁ => s₁.TypeIs obj T ∧ Q obj s₁) E) s) : wpAny (model prog w) A (call (.type T) us kw) Q E s := by
  obtain ⟨c, tl, hmro⟩ := ft.mro
  have hmade := ft.made
  have hsub := ft.sub
  refine wpAny_call (codeAny_of_tree ?_)
  show wpAny _ _ (callAny (.type T) (_ : Args)) _ _ _
  refine wpAny_pure ⟨Code.quiet_builtin (_ : Args) (by decide +kernel), codeAny_builtin F.entry_type_call ?_⟩
  rw [Around.under_plain (weight_type_call_type T us kw) (units_type_call_type T us kw)]
  have h1 := ft.notType
  have h2 := ft.canCreate
  repeat (any_goals (first | assumption | wp_step))
  refine codeAny_mono (codeAny_call_builtin ft.plain entryN (wpAny_of_eq hcn (g prog w A.in1 _ s h))) fun r s₁ hr => ?_
  cases r with
  | error e => exact hr
  | ok fl =>
    cases fl with
    | ret obj =>
      obtain ⟨hT, hq⟩ := hr
      have hli := ft.init.lookup
      have hbi := ft.init.bind obj
      repeat (any_goals (first | assumption | wp_step))
      refine codeAny_mono (codeAny_call_builtin ft.init.plain F.entry_object_init (ft.init.check _ _ _ _ _ _ _ _ hT (hok obj) (init_kw (rest := us) (kw := kw) ft.init.lookup ft.made hne prog w A.in1 (wants (fun r s₂ => r = .none ∧ Q obj s₂) E) s₁ ⟨hT, rfl, hq⟩))) fun r₂ s₂ hr₂ => ?_
      cases r₂ with
      | error e => exact hr₂
      | ok fl₂ =>
        cases fl₂ with
        | ret r =>
          obtain ⟨rfl, hq⟩ := hr₂
          repeat (any_goals (first | assumption | wp_step))
        | _ => exact hr₂.elim
    | _ => exact hr.elim
theorem tc_start (a b : Value) : checkTypeCall "enumerate" ⟨[a], [(Str.ofString "start", b)]⟩ = pure () := by kernel_rfl
theorem nc_start (a b : Value) : checkBuiltinCall "enumerate.__new__" ⟨[.type "enumerate", a], [(Str.ofString "start", b)]⟩ = pure () := by kernel_rfl
theorem oi_start (o a b : Value) : argsOk "object.__init__" ⟨[o, a], [(Str.ofString "start", b)]⟩ := by unfold argsOk; kernel_rfl
theorem call_start {tp : Addr} {all : Array Value} {c : Int} {u : Tok} {Q : Value → Shared → Prop} (hL : s.heap.IsTuple tp all) (hc : Builtin.SmallTypes.fitsIndex c = true)
    (h : ∀ h', IsEnum h' (s.heap.objs.size + 1) s.heap.objs.size c .none → h'.IsTupleIter s.heap.objs.size tp 0 → h'.objs.size = s.heap.objs.size + 2 →
      (∀ b o, s.heap.get? b = some o → h'.get? b = some o) → Q (.ref (s.heap.objs.size + 1)) { s with heap := h' }) :
    wpAny (model prog w) A (call (.type "enumerate") [.ref tp] [(Str.ofString "start", .int c u)]) Q E s := by
  obtain ⟨⟨cl, dct, dt, sl⟩, hl, ec, n, ed⟩ := hL
  replace ec : cl = .type "tuple" := ec
  replace ed : dt = .seq all n := ed
  subst ec ed
  refine callKw F.called_enumerate (by decide) (tc_start _ _) (nc_start _ _) (fun obj => oi_start obj _ _) F.entry_enumerate_new (meets_start tp all n dct sl c u hc) ⟨hl, ?_⟩
  have hz : (s.heap.push { cls := .type "tuple_iterator", data := .fields #[.ref tp, .int 0 0] }).objs.size = s.heap.objs.size + 1 := Heap.size_push ..
  show _ ∧ _
  rw [hz]
  have he : IsEnum ((s.heap.push { cls := .type "tuple_iterator", data := .fields #[.ref tp, .int 0 0] }).push { cls := .type "enumerate", data := .fields #[.none, .bool false, .ref s.heap.objs.size, rawInt c, .none, .none] }) (s.heap.objs.size + 1) s.heap.objs.size c .none := by
    have q := Heap.get?_push_size (s.heap.push { cls := .type "tuple_iterator", data := .fields #[.ref tp, .int 0 0] }) (o := { cls := .type "enumerate", data := .fields #[.none, .bool false, .ref s.heap.objs.size, rawInt c, .none, .none] }) rfl
    rw [hz] at q; exact q
  exact ⟨⟨_, he, rfl⟩, h _ he ⟨_, Heap.get?_push_of_some _ (Heap.get?_push_size _ rfl), rfl, rfl⟩ (by rw [Heap.size_push, hz]) fun b o x => Heap.get?_push_of_some _ (Heap.get?_push_of_some _ x)⟩
end
end Enu

namespace L2
open PySem PySem.Spec PyProof.Rows
/-- the tuple at a, its items counted from c on, each in a new pair -/
def Ites (K : PySem.W.Frag) (a : Addr) (c : Nat) : It :=
  ⟨fun i H => ∃ (xs : List V) (x : V), SqT K H a xs ∧ xs[i]? = some x, fun i H v H' => ∃ T x, v = .ref T ∧ H T = none ∧ H' = upd H T (.tup [.int ((c + i : Nat) : Int), x]) ∧ ∀ xs, SqT K H a xs → xs[i]? = some x, fun i H => ∃ xs : List V, SqT K H a xs ∧ xs.length = i⟩
theorem isTup_isTuple {h : Heap} {a : Addr} {its : Array Value} (t : IsTup h a its) : h.IsTuple a its := t
theorem turn_enumS {P : Program} {w : World} {K : PySem.W.Frag} {elts : List Expr} {kk : Nat} {tpos : Pos} (a e it : Addr) (c : Nat) :
    Turn P w K (.Tuple elts kk tpos) (Ites K a c) [e, it] e (fun i h => (∃ old, IsEnum h e it ((c + i : Nat) : Int) old) ∧ h.IsTupleIter it a i ∧ e ≠ it ∧ a ≠ e ∧ a ≠ it) where
  mem := by simp
  obj := fun i h st b hb => by
    obtain ⟨⟨old, he⟩, ⟨o, ho, hc, hd⟩, _⟩ := st
    have e' : b = e ∨ b = it := by simpa using hb
    rcases e' with z | z
    · rw [z]; exact ⟨_, he, fun v q => nomatch q⟩
    · rw [z]; exact ⟨o, ho, fun v q => by rw [hd] at q; cases q⟩
  keep := fun i h h' st k => let ⟨⟨old, he⟩, hi, hne⟩ := st; ⟨⟨old, k e (by simp) _ he⟩, hi.at fun o q => k it (by simp) o q, hne⟩
  item := by
    intro X hP hw hK hc i pins s σ H E I hf st hg
    subst hP hw hK
    obtain ⟨⟨old, he⟩, hit, hne, hae, hai⟩ := st
    obtain ⟨xs, x, hq, hx⟩ := hg
    obtain ⟨its, rv, p, hz⟩ := I.tuple hq
    obtain ⟨u, hu, ru⟩ := rv.get hx
    have hl := rv.length
    have hlt : i < xs.length := (List.getElem?_eq_some_iff.mp hx).1
    have hel : e < s.heap.objs.size := Heap.lt_size he
    have hil : it < s.heap.objs.size := by obtain ⟨_, q, _⟩ := hit; exact Heap.lt_size q
    have D := Enu.drawsT (prog := X.prog) (w := X.w) (A := X.A.in1) (I.ok.hd hc) it a hai its.toArray c
    have ec : c + i - c = i := by omega
    refine wpAny_pyNext_enum_itemD D he ⟨by omega, by rw [ec]; exact hit, isTup_isTuple p⟩ (by rw [List.size_toArray]; omega) hne (by simp; exact ⟨hne, Ne.symm hae⟩) fun x' h' tk hP ho hst hT hsz hk => ?_
    have hP' : its[i]? = some x' := by rw [ec] at hP; simpa using hP
    rw [hu] at hP'
    cases hP'
    refine ⟨_, rfl, wpAny_letOwnedTupleGo_enum (s := { s with heap := h', toks := tk + 1 }) ho fun h'' he' sb => ?_⟩
    have hT2 : h''.get? s.heap.objs.size = some { cls := .type "tuple", data := .seq #[.int ((c + i : Nat) : Int) tk, u] } := (sb.2 _ (Nat.ne_of_gt hel)).trans hT
    have new : ObjOk X.prog X.w (upd H s.heap.objs.size (.tup [.int ((c + i : Nat) : Int), x])) h'' s.heap.objs.size (.tup [.int ((c + i : Nat) : Int), x]) :=
      ⟨by show 2 ≤ sizeLine; decide, [.int ((c + i : Nat) : Int) tk, u], .cons ⟨_, rfl⟩ (.cons ru .nil), ⟨_, hT2, rfl, _, rfl⟩⟩
    have I1 : Inv X pins σ (upd H s.heap.objs.size (.tup [.int ((c + i : Nat) : Int), x])) { s with heap := h'', toks := tk + 1 } :=
      I.turnedNew (ch := [e, it]) (fun b ob hb q => (sb.2 b (fun z => hb (by simp [z]))).trans (hk b ob (fun z => hb (by simp [z])) (fun z => hb (by simp [z])) q)) hf (Nat.le_refl _) new
    refine ⟨.ref s.heap.objs.size, _, I1, rfl, ⟨_, x, rfl, I.hok.fresh (Nat.le_refl _), rfl, fun ys hy => by rw [I.tuple_inj hy hq]; exact hx⟩, ⟨⟨u, ?_⟩, ?_, hne, hae, hai⟩, fun b hb => ?_⟩
    · have e1 : ((c + (i + 1) : Nat) : Int) = ((c + i : Nat) : Int) + 1 := by omega
      rw [e1]; exact he'
    · have e2 : c + i + 1 - c = i + 1 := by omega
      have q := hst.2.1
      rw [e2] at q
      exact q.at fun o q => (sb.2 it (Ne.symm hne)).trans q
    · have hb' : b < s.heap.objs.size := by
        have e' : b = e ∨ b = it := by simpa using hb
        rcases e' with z | z
        · rw [z]; exact hel
        · rw [z]; exact hil
      rw [upd_ne (Nat.ne_of_lt hb')]
      exact (hf b hb).1
  done := by
    intro X hP hw hK hc i pins s σ H E I hf st hg
    subst hP hw hK
    obtain ⟨⟨old, he⟩, hit, hne, hae, hai⟩ := st
    obtain ⟨xs, hq, hx⟩ := hg
    obtain ⟨its, rv, p, hz⟩ := I.tuple hq
    obtain ⟨f0, f1, f2, f3, f4, f5⟩ := hf it (by simp)
    have hl := rv.length
    have D := Enu.drawsT (prog := X.prog) (w := X.w) (A := X.A.in1) (I.ok.hd hc) it a hai its.toArray c
    have ec : c + its.toArray.size - c = i := by rw [List.size_toArray]; omega
    exact wpAny_pyNext_enum_endD D he ⟨by omega, by rw [ec]; exact hit, isTup_isTuple p⟩ fun h' eb => ⟨rfl, I.turned (t' := s.toks) (fun b o hb q => eb b o hb q) f0 f1 f3 f4 f5⟩
  self := fun A i s Q E st h => let ⟨⟨_, he⟩, _⟩ := st; wpAny_pyIter_enum he h
def iEnumS (K : PySem.W.Frag) (ta tk : TA) : TI := fun σ H R => ta σ H fun vs H1 => tk σ H1 fun zs H2 => ∃ a xs, ∃ c : Nat, vs = [.ref a] ∧ zs = [.int (c : Int)] ∧ SqT K H2 a xs ∧ Builtin.SmallTypes.fitsIndex (c : Int) = true ∧ R (Ites K a c) H2
theorem keep_enum {M : Model} (h : Heap) (_ : True) : ∃ k, (k = Keeper.frame ∨ k = Keeper.machine ∨ k = Keeper.boundFrame) ∧ PySem.W.Looks M h (keeperOf (.type "enumerate")) k := ⟨_, by first | exact .inl rfl | exact .inr (.inl rfl) | exact .inr (.inr rfl), PySem.W.Looks.of_pure rfl⟩
theorem pi_enumS {X : Cx} {e e2 : Expr} {ta tk : TA} {p pos tpos kpos : Pos} {elts : List Expr} {kk : Nat} (hg : Gl X "enumerate") (hm : X.mg "enumerate" = none) (ha : PA X [e] ta) (hk : PK X [⟨some "start", e2, kpos⟩] tk) (hs : starEach [e] X.env = [(false, eval e X.env)] := by rfl)
    (hall : (backToKw pos (keywordEach [⟨some "start", e2, kpos⟩] X.env)).all (·.1.isSome) = true := by rfl) (hks : (backToKw pos (keywordEach [⟨some "start", e2, kpos⟩] X.env)).filterMap (·.1) = [Str.ofString "start"] := by rfl)
    (hpl : ((backTo pos (starEach [e] X.env)).any (·.1) || (backToKw pos (keywordEach [⟨some "start", e2, kpos⟩] X.env)).any (·.1.isNone)) = false := by rfl) :
    PI X (.Tuple elts kk tpos) (.Call (.Name "enumerate" p) [e] [⟨some "start", e2, kpos⟩] pos) (iEnumS X.K ta tk) := by
  intro pins s σ H R I h
  refine wpAny_Call_Name_kw (ld_blt I hg hm boot_enumerate ?_)
  refine PySem.W.callWith_of (P := fun _ => True) hpl keep_enum (evalArgs_kw2 hall (thn (ha pos pins s σ H _ I h) fun us s1 ⟨vs, H1, I1, r, q⟩ => ?_) hs)
  refine thn (hk pos pins s1 σ H1 _ I1 q) fun ws s2 ⟨zs, H2, I2, rz, q2⟩ => ⟨trivial, ?_⟩
  rw [hks]
  obtain ⟨a, xs, c, ev, ez, hq, hfit, qr⟩ := q2
  subst ev ez
  rw [Vals.ref1 r]
  obtain ⟨u, rfl, ru⟩ := rz.one
  obtain ⟨t, rfl⟩ := ru
  obtain ⟨its, rv, p', hz⟩ := I2.tuple hq
  have hal : a < s2.heap.objs.size := by obtain ⟨_, q, _⟩ := p'; exact Heap.lt_size q
  refine Enu.call_start (isTup_isTuple p') hfit fun h' he hit hsz hkp => wpAny_pyIter_enum he ?_
  have I3 : Inv X pins σ H2 { s2 with heap := h' } := I2.kept (t' := s2.toks) hkp
  refine ⟨s2.heap.objs.size + 1, [s2.heap.objs.size + 1, s2.heap.objs.size], _, _, H2, rfl, I3, turn_enumS a (s2.heap.objs.size + 1) s2.heap.objs.size c, ⟨⟨.none, he⟩, hit, Nat.succ_ne_self _, Nat.ne_of_lt (Nat.lt_succ_of_lt hal), Nat.ne_of_lt hal⟩, fun b hb => ?_, qr⟩
  have e' : b = s2.heap.objs.size + 1 ∨ b = s2.heap.objs.size := by simpa using hb
  have hle : s2.heap.objs.size ≤ b := by
    rcases e' with z | z
    · rw [z]; exact Nat.le_add_right _ _
    · rw [z]; exact Nat.le_refl _
  exact I2.fpOk hle (I2.hok.fresh hle)
end L2
end
section
set_option Elab.async false
set_option linter.all false
set_option maxRecDepth 100000
namespace Tw
open PySem PySem.Spec PyProof.Rows L2
def top (i : Nat) : Stmt := PySem.Challenge.pw_taskwatch_s01_answers.main.body.getD i (.Pass ⟨0, 0, 0, 0⟩)
abbrev BindsAs (x qual : Str) (st : Stmt) (ps : List Str) : Prop := ∀ (kV doc pm : Value) (an : Option Addr) (cdv ct : Value) (us : List Value), us.length = ps.length → bindArgs (PySem.W.fnOf x qual (defArgs st) (defBody st) (defScope st) .none kV doc pm an cdv ct) ⟨us, []⟩ = pure (ps.zip us)
abbrev s_Kept_init : Stmt := inClass (top 23) 0
abbrev n_Kept_init : List Str := ["self", "starts", "quick", "doomed", "crumbs"]
theorem sc_Kept_init : FnScope n_Kept_init ["self", "starts", "quick", "doomed", "crumbs"] (defScope s_Kept_init) := ⟨rfl, rfl, rfl, by decide +kernel, rfl, by decide +kernel, by decide +kernel⟩
theorem bd_Kept_init : BindsAs "__init__" "Kept.__init__" s_Kept_init ["self", "starts", "quick", "doomed", "crumbs"] := fun _ _ _ _ _ _ us hl => match us, hl with | [_, _, _, _, _], _ => rfl
abbrev s_Kept_lay_crumb : Stmt := inClass (top 23) 1
abbrev n_Kept_lay_crumb : List Str := ["self", "k", "place", "crumb"]
theorem sc_Kept_lay_crumb : FnScope n_Kept_lay_crumb ["self", "k", "place"] (defScope s_Kept_lay_crumb) := ⟨rfl, rfl, rfl, by decide +kernel, rfl, by decide +kernel, by decide +kernel⟩
theorem bd_Kept_lay_crumb : BindsAs "lay_crumb" "Kept.lay_crumb" s_Kept_lay_crumb ["self", "k", "place"] := fun _ _ _ _ _ _ us hl => match us, hl with | [_, _, _], _ => rfl
abbrev s_Kept_doom : Stmt := inClass (top 23) 2
abbrev n_Kept_doom : List Str := ["self", "k"]
theorem sc_Kept_doom : FnScope n_Kept_doom ["self", "k"] (defScope s_Kept_doom) := ⟨rfl, rfl, rfl, by decide +kernel, rfl, by decide +kernel, by decide +kernel⟩
theorem bd_Kept_doom : BindsAs "doom" "Kept.doom" s_Kept_doom ["self", "k"] := fun _ _ _ _ _ _ us hl => match us, hl with | [_, _], _ => rfl
abbrev s_Kept_forget_quick : Stmt := inClass (top 23) 3
abbrev n_Kept_forget_quick : List Str := ["self"]
theorem sc_Kept_forget_quick : FnScope n_Kept_forget_quick ["self"] (defScope s_Kept_forget_quick) := ⟨rfl, rfl, rfl, by decide +kernel, rfl, by decide +kernel, by decide +kernel⟩
theorem bd_Kept_forget_quick : BindsAs "forget_quick" "Kept.forget_quick" s_Kept_forget_quick ["self"] := fun _ _ _ _ _ _ us hl => match us, hl with | [_], _ => rfl
abbrev s_nothing_kept : Stmt := top 24
abbrev n_nothing_kept : List Str := []
theorem sc_nothing_kept : FnScope n_nothing_kept [] (defScope s_nothing_kept) := ⟨rfl, rfl, rfl, by decide +kernel, rfl, by decide +kernel, by decide +kernel⟩
theorem bd_nothing_kept : BindsAs "nothing_kept" "nothing_kept" s_nothing_kept [] := fun _ _ _ _ _ _ us hl => match us, hl with | [], _ => rfl
abbrev s_kept_from : Stmt := top 25
abbrev n_kept_from : List Str := ["before", "cause", "starts", "quick"]
theorem sc_kept_from : FnScope n_kept_from ["before", "cause"] (defScope s_kept_from) := ⟨rfl, rfl, rfl, by decide +kernel, rfl, by decide +kernel, by decide +kernel⟩
theorem bd_kept_from : BindsAs "kept_from" "kept_from" s_kept_from ["before", "cause"] := fun _ _ _ _ _ _ us hl => match us, hl with | [_, _], _ => rfl
abbrev s_checksum : Stmt := top 26
abbrev n_checksum : List Str := ["octets", "rest", "octet", "bit", "low"]
theorem sc_checksum : FnScope n_checksum ["octets"] (defScope s_checksum) := ⟨rfl, rfl, rfl, by decide +kernel, rfl, by decide +kernel, by decide +kernel⟩
theorem bd_checksum : BindsAs "checksum" "checksum" s_checksum ["octets"] := fun _ _ _ _ _ _ us hl => match us, hl with | [_], _ => rfl
abbrev s_number_from : Stmt := top 27
abbrev n_number_from : List Str := ["octets", "number", "octet"]
theorem sc_number_from : FnScope n_number_from ["octets"] (defScope s_number_from) := ⟨rfl, rfl, rfl, by decide +kernel, rfl, by decide +kernel, by decide +kernel⟩
theorem bd_number_from : BindsAs "number_from" "number_from" s_number_from ["octets"] := fun _ _ _ _ _ _ us hl => match us, hl with | [_], _ => rfl
abbrev s_octets_from : Stmt := top 28
abbrev n_octets_from : List Str := ["number", "size", "octets", "rest"]
theorem sc_octets_from : FnScope n_octets_from ["number", "size"] (defScope s_octets_from) := ⟨rfl, rfl, rfl, by decide +kernel, rfl, by decide +kernel, by decide +kernel⟩
theorem bd_octets_from : BindsAs "octets_from" "octets_from" s_octets_from ["number", "size"] := fun _ _ _ _ _ _ us hl => match us, hl with | [_, _], _ => rfl
abbrev s_crumbs_end : Stmt := top 29
abbrev n_crumbs_end : List Str := ["octets"]
theorem sc_crumbs_end : FnScope n_crumbs_end ["octets"] (defScope s_crumbs_end) := ⟨rfl, rfl, rfl, by decide +kernel, rfl, by decide +kernel, by decide +kernel⟩
theorem bd_crumbs_end : BindsAs "crumbs_end" "crumbs_end" s_crumbs_end ["octets"] := fun _ _ _ _ _ _ us hl => match us, hl with | [_], _ => rfl
abbrev s_crumbs_fit : Stmt := top 30
abbrev n_crumbs_fit : List Str := ["octets", "end", "at"]
theorem sc_crumbs_fit : FnScope n_crumbs_fit ["octets"] (defScope s_crumbs_fit) := ⟨rfl, rfl, rfl, by decide +kernel, rfl, by decide +kernel, by decide +kernel⟩
theorem bd_crumbs_fit : BindsAs "crumbs_fit" "crumbs_fit" s_crumbs_fit ["octets"] := fun _ _ _ _ _ _ us hl => match us, hl with | [_], _ => rfl
abbrev s_is_block : Stmt := top 31
abbrev n_is_block : List Str := ["octets"]
theorem sc_is_block : FnScope n_is_block ["octets"] (defScope s_is_block) := ⟨rfl, rfl, rfl, by decide +kernel, rfl, by decide +kernel, by decide +kernel⟩
theorem bd_is_block : BindsAs "is_block" "is_block" s_is_block ["octets"] := fun _ _ _ _ _ _ us hl => match us, hl with | [_], _ => rfl
abbrev s_read_block : Stmt := top 32
abbrev n_read_block : List Str := ["octets", "starts", "at", "crumbs"]
theorem sc_read_block : FnScope n_read_block ["octets"] (defScope s_read_block) := ⟨rfl, rfl, rfl, by decide +kernel, rfl, by decide +kernel, by decide +kernel⟩
theorem bd_read_block : BindsAs "read_block" "read_block" s_read_block ["octets"] := fun _ _ _ _ _ _ us hl => match us, hl with | [_], _ => rfl
abbrev s_write_block : Stmt := top 33
abbrev n_write_block : List Str := ["kept", "octets", "number", "crumb"]
theorem sc_write_block : FnScope n_write_block ["kept"] (defScope s_write_block) := ⟨rfl, rfl, rfl, by decide +kernel, rfl, by decide +kernel, by decide +kernel⟩
theorem bd_write_block : BindsAs "write_block" "write_block" s_write_block ["kept"] := fun _ _ _ _ _ _ us hl => match us, hl with | [_], _ => rfl
abbrev s_Call_init : Stmt := inClass (top 47) 0
abbrev n_Call_init : List Str := ["self", "number", "given", "octets"]
theorem sc_Call_init : FnScope n_Call_init ["self", "number", "given", "octets"] (defScope s_Call_init) := ⟨rfl, rfl, rfl, by decide +kernel, rfl, by decide +kernel, by decide +kernel⟩
theorem bd_Call_init : BindsAs "__init__" "Call.__init__" s_Call_init ["self", "number", "given", "octets"] := fun _ _ _ _ _ _ us hl => match us, hl with | [_, _, _, _], _ => rfl
abbrev s_read_call : Stmt := top 48
abbrev n_read_call : List Str := ["numbers", "at", "number", "names", "given", "where", "name", "octets", "row"]
theorem sc_read_call : FnScope n_read_call ["numbers", "at"] (defScope s_read_call) := ⟨rfl, rfl, rfl, by decide +kernel, rfl, by decide +kernel, by decide +kernel⟩
theorem bd_read_call : BindsAs "read_call" "read_call" s_read_call ["numbers", "at"] := fun _ _ _ _ _ _ us hl => match us, hl with | [_, _], _ => rfl
abbrev s_size_of : Stmt := top 49
abbrev n_size_of : List Str := ["call", "size"]
theorem sc_size_of : FnScope n_size_of ["call"] (defScope s_size_of) := ⟨rfl, rfl, rfl, by decide +kernel, rfl, by decide +kernel, by decide +kernel⟩
theorem bd_size_of : BindsAs "size_of" "size_of" s_size_of ["call"] := fun _ _ _ _ _ _ us hl => match us, hl with | [_], _ => rfl
abbrev s_split_calls : Stmt := top 50
abbrev n_split_calls : List Str := ["numbers", "found", "at", "call"]
theorem sc_split_calls : FnScope n_split_calls ["numbers"] (defScope s_split_calls) := ⟨rfl, rfl, rfl, by decide +kernel, rfl, by decide +kernel, by decide +kernel⟩
theorem bd_split_calls : BindsAs "split_calls" "split_calls" s_split_calls ["numbers"] := fun _ _ _ _ _ _ us hl => match us, hl with | [_], _ => rfl
abbrev s_in_ranges : Stmt := top 51
abbrev n_in_ranges : List Str := ["given", "name", "number", "ends"]
theorem sc_in_ranges : FnScope n_in_ranges ["given"] (defScope s_in_ranges) := ⟨rfl, rfl, rfl, by decide +kernel, rfl, by decide +kernel, by decide +kernel⟩
theorem bd_in_ranges : BindsAs "in_ranges" "in_ranges" s_in_ranges ["given"] := fun _ _ _ _ _ _ us hl => match us, hl with | [_], _ => rfl
abbrev s_Task_init : Stmt := inClass (top 65) 0
abbrev n_Task_init : List Str := ["self", "limit", "rank", "most", "span", "first", "main", "now"]
theorem sc_Task_init : FnScope n_Task_init ["self", "limit", "rank", "most", "span", "first", "main", "now"] (defScope s_Task_init) := ⟨rfl, rfl, rfl, by decide +kernel, rfl, by decide +kernel, by decide +kernel⟩
theorem bd_Task_init : BindsAs "__init__" "Task.__init__" s_Task_init ["self", "limit", "rank", "most", "span", "first", "main", "now"] := fun _ _ _ _ _ _ us hl => match us, hl with | [_, _, _, _, _, _, _, _], _ => rfl
abbrev s_Task_enter : Stmt := inClass (top 65) 1
abbrev n_Task_enter : List Str := ["self", "phase", "moment"]
theorem sc_Task_enter : FnScope n_Task_enter ["self", "phase", "moment"] (defScope s_Task_enter) := ⟨rfl, rfl, rfl, by decide +kernel, rfl, by decide +kernel, by decide +kernel⟩
theorem bd_Task_enter : BindsAs "enter" "Task.enter" s_Task_enter ["self", "phase", "moment"] := fun _ _ _ _ _ _ us hl => match us, hl with | [_, _, _], _ => rfl
abbrev s_Task_stand : Stmt := inClass (top 65) 2
abbrev n_Task_stand : List Str := ["self"]
theorem sc_Task_stand : FnScope n_Task_stand ["self"] (defScope s_Task_stand) := ⟨rfl, rfl, rfl, by decide +kernel, rfl, by decide +kernel, by decide +kernel⟩
theorem bd_Task_stand : BindsAs "stand" "Task.stand" s_Task_stand ["self"] := fun _ _ _ _ _ _ us hl => match us, hl with | [_], _ => rfl
abbrev s_Task_halt : Stmt := inClass (top 65) 3
abbrev n_Task_halt : List Str := ["self"]
theorem sc_Task_halt : FnScope n_Task_halt ["self"] (defScope s_Task_halt) := ⟨rfl, rfl, rfl, by decide +kernel, rfl, by decide +kernel, by decide +kernel⟩
theorem bd_Task_halt : BindsAs "halt" "Task.halt" s_Task_halt ["self"] := fun _ _ _ _ _ _ us hl => match us, hl with | [_], _ => rfl
abbrev s_Task_is_overdue : Stmt := inClass (top 65) 4
abbrev n_Task_is_overdue : List Str := ["self", "now"]
theorem sc_Task_is_overdue : FnScope n_Task_is_overdue ["self", "now"] (defScope s_Task_is_overdue) := ⟨rfl, rfl, rfl, by decide +kernel, rfl, by decide +kernel, by decide +kernel⟩
theorem bd_Task_is_overdue : BindsAs "is_overdue" "Task.is_overdue" s_Task_is_overdue ["self", "now"] := fun _ _ _ _ _ _ us hl => match us, hl with | [_, _], _ => rfl
abbrev s_Task_times_of_late : Stmt := inClass (top 65) 5
abbrev n_Task_times_of_late : List Str := ["self", "now", "then"]
theorem sc_Task_times_of_late : FnScope n_Task_times_of_late ["self", "now"] (defScope s_Task_times_of_late) := ⟨rfl, rfl, rfl, by decide +kernel, rfl, by decide +kernel, by decide +kernel⟩
theorem bd_Task_times_of_late : BindsAs "times_of_late" "Task.times_of_late" s_Task_times_of_late ["self", "now"] := fun _ _ _ _ _ _ us hl => match us, hl with | [_, _], _ => rfl
abbrev s_Task_look_at : Stmt := inClass (top 65) 6
abbrev n_Task_look_at : List Str := ["self", "now"]
theorem sc_Task_look_at : FnScope n_Task_look_at ["self", "now"] (defScope s_Task_look_at) := ⟨rfl, rfl, rfl, by decide +kernel, rfl, by decide +kernel, by decide +kernel⟩
theorem bd_Task_look_at : BindsAs "look_at" "Task.look_at" s_Task_look_at ["self", "now"] := fun _ _ _ _ _ _ us hl => match us, hl with | [_, _], _ => rfl
abbrev s_Task_turn_late : Stmt := inClass (top 65) 7
abbrev n_Task_turn_late : List Str := ["self", "thing"]
theorem sc_Task_turn_late : FnScope n_Task_turn_late ["self", "thing"] (defScope s_Task_turn_late) := ⟨rfl, rfl, rfl, by decide +kernel, rfl, by decide +kernel, by decide +kernel⟩
theorem bd_Task_turn_late : BindsAs "turn_late" "Task.turn_late" s_Task_turn_late ["self", "thing"] := fun _ _ _ _ _ _ us hl => match us, hl with | [_, _], _ => rfl
abbrev s_Task_stop_silent : Stmt := inClass (top 65) 8
abbrev n_Task_stop_silent : List Str := ["self", "now"]
theorem sc_Task_stop_silent : FnScope n_Task_stop_silent ["self", "now"] (defScope s_Task_stop_silent) := ⟨rfl, rfl, rfl, by decide +kernel, rfl, by decide +kernel, by decide +kernel⟩
theorem bd_Task_stop_silent : BindsAs "stop_silent" "Task.stop_silent" s_Task_stop_silent ["self", "now"] := fun _ _ _ _ _ _ us hl => match us, hl with | [_, _], _ => rfl
abbrev s_Task_look_in_time : Stmt := inClass (top 65) 9
abbrev n_Task_look_in_time : List Str := ["self", "now"]
theorem sc_Task_look_in_time : FnScope n_Task_look_in_time ["self", "now"] (defScope s_Task_look_in_time) := ⟨rfl, rfl, rfl, by decide +kernel, rfl, by decide +kernel, by decide +kernel⟩
theorem bd_Task_look_in_time : BindsAs "look_in_time" "Task.look_in_time" s_Task_look_in_time ["self", "now"] := fun _ _ _ _ _ _ us hl => match us, hl with | [_, _], _ => rfl
abbrev s_Task_hear : Stmt := inClass (top 65) 10
abbrev n_Task_hear : List Str := ["self", "place", "now", "was_late"]
theorem sc_Task_hear : FnScope n_Task_hear ["self", "place", "now"] (defScope s_Task_hear) := ⟨rfl, rfl, rfl, by decide +kernel, rfl, by decide +kernel, by decide +kernel⟩
theorem bd_Task_hear : BindsAs "hear" "Task.hear" s_Task_hear ["self", "place", "now"] := fun _ _ _ _ _ _ us hl => match us, hl with | [_, _, _], _ => rfl
abbrev s_Task_wait_afresh : Stmt := inClass (top 65) 11
abbrev n_Task_wait_afresh : List Str := ["self", "now"]
theorem sc_Task_wait_afresh : FnScope n_Task_wait_afresh ["self", "now"] (defScope s_Task_wait_afresh) := ⟨rfl, rfl, rfl, by decide +kernel, rfl, by decide +kernel, by decide +kernel⟩
theorem bd_Task_wait_afresh : BindsAs "wait_afresh" "Task.wait_afresh" s_Task_wait_afresh ["self", "now"] := fun _ _ _ _ _ _ us hl => match us, hl with | [_, _], _ => rfl
abbrev s_Task_shown : Stmt := inClass (top 65) 12
abbrev n_Task_shown : List Str := ["self", "now", "times", "late"]
theorem sc_Task_shown : FnScope n_Task_shown ["self", "now"] (defScope s_Task_shown) := ⟨rfl, rfl, rfl, by decide +kernel, rfl, by decide +kernel, by decide +kernel⟩
theorem bd_Task_shown : BindsAs "shown" "Task.shown" s_Task_shown ["self", "now"] := fun _ _ _ _ _ _ us hl => match us, hl with | [_, _], _ => rfl
abbrev s_Station_init : Stmt := inClass (top 72) 0
abbrev n_Station_init : List Str := ["self"]
theorem sc_Station_init : FnScope n_Station_init ["self"] (defScope s_Station_init) := ⟨rfl, rfl, rfl, by decide +kernel, rfl, by decide +kernel, by decide +kernel⟩
theorem bd_Station_init : BindsAs "__init__" "Station.__init__" s_Station_init ["self"] := fun _ _ _ _ _ _ us hl => match us, hl with | [_], _ => rfl
abbrev s_Station_begin : Stmt := inClass (top 72) 1
abbrev n_Station_begin : List Str := ["self", "cause", "now", "octets", "known"]
theorem sc_Station_begin : FnScope n_Station_begin ["self", "cause", "now", "octets"] (defScope s_Station_begin) := ⟨rfl, rfl, rfl, by decide +kernel, rfl, by decide +kernel, by decide +kernel⟩
theorem bd_Station_begin : BindsAs "begin" "Station.begin" s_Station_begin ["self", "cause", "now", "octets"] := fun _ _ _ _ _ _ us hl => match us, hl with | [_, _, _, _], _ => rfl
abbrev s_Station_add_task : Stmt := inClass (top 72) 2
abbrev n_Station_add_task : List Str := ["self", "k", "task"]
theorem sc_Station_add_task : FnScope n_Station_add_task ["self", "k", "task"] (defScope s_Station_add_task) := ⟨rfl, rfl, rfl, by decide +kernel, rfl, by decide +kernel, by decide +kernel⟩
theorem bd_Station_add_task : BindsAs "add_task" "Station.add_task" s_Station_add_task ["self", "k", "task"] := fun _ _ _ _ _ _ us hl => match us, hl with | [_, _, _], _ => rfl
abbrev s_Station_report : Stmt := inClass (top 72) 3
abbrev n_Station_report : List Str := ["self", "k", "place", "was_late"]
theorem sc_Station_report : FnScope n_Station_report ["self", "k", "place"] (defScope s_Station_report) := ⟨rfl, rfl, rfl, by decide +kernel, rfl, by decide +kernel, by decide +kernel⟩
theorem bd_Station_report : BindsAs "report" "Station.report" s_Station_report ["self", "k", "place"] := fun _ _ _ _ _ _ us hl => match us, hl with | [_, _, _], _ => rfl
abbrev s_Station_ask : Stmt := inClass (top 72) 4
abbrev n_Station_ask : List Str := ["self", "k"]
theorem sc_Station_ask : FnScope n_Station_ask ["self", "k"] (defScope s_Station_ask) := ⟨rfl, rfl, rfl, by decide +kernel, rfl, by decide +kernel, by decide +kernel⟩
theorem bd_Station_ask : BindsAs "ask" "Station.ask" s_Station_ask ["self", "k"] := fun _ _ _ _ _ _ us hl => match us, hl with | [_, _], _ => rfl
abbrev s_Station_halt : Stmt := inClass (top 72) 5
abbrev n_Station_halt : List Str := ["self", "k"]
theorem sc_Station_halt : FnScope n_Station_halt ["self", "k"] (defScope s_Station_halt) := ⟨rfl, rfl, rfl, by decide +kernel, rfl, by decide +kernel, by decide +kernel⟩
theorem bd_Station_halt : BindsAs "halt" "Station.halt" s_Station_halt ["self", "k"] := fun _ _ _ _ _ _ us hl => match us, hl with | [_, _], _ => rfl
abbrev s_Station_tick : Stmt := inClass (top 72) 6
abbrev n_Station_tick : List Str := ["self", "wanted", "k"]
theorem sc_Station_tick : FnScope n_Station_tick ["self"] (defScope s_Station_tick) := ⟨rfl, rfl, rfl, by decide +kernel, rfl, by decide +kernel, by decide +kernel⟩
theorem bd_Station_tick : BindsAs "tick" "Station.tick" s_Station_tick ["self"] := fun _ _ _ _ _ _ us hl => match us, hl with | [_], _ => rfl
abbrev s_Station_look_at_task : Stmt := inClass (top 72) 7
abbrev n_Station_look_at_task : List Str := ["self", "k", "things", "thing"]
theorem sc_Station_look_at_task : FnScope n_Station_look_at_task ["self", "k"] (defScope s_Station_look_at_task) := ⟨rfl, rfl, rfl, by decide +kernel, rfl, by decide +kernel, by decide +kernel⟩
theorem bd_Station_look_at_task : BindsAs "look_at_task" "Station.look_at_task" s_Station_look_at_task ["self", "k"] := fun _ _ _ _ _ _ us hl => match us, hl with | [_, _], _ => rfl
abbrev s_Station_all_well_for_long : Stmt := inClass (top 72) 8
abbrev n_Station_all_well_for_long : List Str := ["self", "task"]
theorem sc_Station_all_well_for_long : FnScope n_Station_all_well_for_long ["self"] (defScope s_Station_all_well_for_long) := ⟨rfl, rfl, rfl, by decide +kernel, rfl, by decide +kernel, by decide +kernel⟩
theorem bd_Station_all_well_for_long : BindsAs "all_well_for_long" "Station.all_well_for_long" s_Station_all_well_for_long ["self"] := fun _ _ _ _ _ _ us hl => match us, hl with | [_], _ => rfl
abbrev s_Station_runs : Stmt := inClass (top 72) 9
abbrev n_Station_runs : List Str := ["self", "k"]
theorem sc_Station_runs : FnScope n_Station_runs ["self", "k"] (defScope s_Station_runs) := ⟨rfl, rfl, rfl, by decide +kernel, rfl, by decide +kernel, by decide +kernel⟩
theorem bd_Station_runs : BindsAs "runs" "Station.runs" s_Station_runs ["self", "k"] := fun _ _ _ _ _ _ us hl => match us, hl with | [_, _], _ => rfl
abbrev s_Station_said : Stmt := inClass (top 72) 10
abbrev n_Station_said : List Str := ["self", "numbers", "crumb"]
theorem sc_Station_said : FnScope n_Station_said ["self"] (defScope s_Station_said) := ⟨rfl, rfl, rfl, by decide +kernel, rfl, by decide +kernel, by decide +kernel⟩
theorem bd_Station_said : BindsAs "said" "Station.said" s_Station_said ["self"] := fun _ _ _ _ _ _ us hl => match us, hl with | [_], _ => rfl
abbrev s_Station_look : Stmt := inClass (top 72) 11
abbrev n_Station_look : List Str := ["self", "k"]
theorem sc_Station_look : FnScope n_Station_look ["self", "k"] (defScope s_Station_look) := ⟨rfl, rfl, rfl, by decide +kernel, rfl, by decide +kernel, by decide +kernel⟩
theorem bd_Station_look : BindsAs "look" "Station.look" s_Station_look ["self", "k"] := fun _ _ _ _ _ _ us hl => match us, hl with | [_, _], _ => rfl
abbrev s_Station_listed : Stmt := inClass (top 72) 12
abbrev n_Station_listed : List Str := ["self"]
theorem sc_Station_listed : FnScope n_Station_listed ["self"] (defScope s_Station_listed) := ⟨rfl, rfl, rfl, by decide +kernel, rfl, by decide +kernel, by decide +kernel⟩
theorem bd_Station_listed : BindsAs "listed" "Station.listed" s_Station_listed ["self"] := fun _ _ _ _ _ _ us hl => match us, hl with | [_], _ => rfl
abbrev s_task_from : Stmt := top 73
abbrev n_task_from : List Str := ["given"]
theorem sc_task_from : FnScope n_task_from ["given"] (defScope s_task_from) := ⟨rfl, rfl, rfl, by decide +kernel, rfl, by decide +kernel, by decide +kernel⟩
theorem bd_task_from : BindsAs "task_from" "task_from" s_task_from ["given"] := fun _ _ _ _ _ _ us hl => match us, hl with | [_], _ => rfl
abbrev s_told : Stmt := top 74
abbrev n_told : List Str := ["wanted", "numbers", "thing"]
theorem sc_told : FnScope n_told ["wanted"] (defScope s_told) := ⟨rfl, rfl, rfl, by decide +kernel, rfl, by decide +kernel, by decide +kernel⟩
theorem bd_told : BindsAs "told" "told" s_told ["wanted"] := fun _ _ _ _ _ _ us hl => match us, hl with | [_], _ => rfl
abbrev s_refused_by_promise : Stmt := top 75
abbrev n_refused_by_promise : List Str := ["station", "call"]
theorem sc_refused_by_promise : FnScope n_refused_by_promise ["station", "call"] (defScope s_refused_by_promise) := ⟨rfl, rfl, rfl, by decide +kernel, rfl, by decide +kernel, by decide +kernel⟩
theorem bd_refused_by_promise : BindsAs "refused_by_promise" "refused_by_promise" s_refused_by_promise ["station", "call"] := fun _ _ _ _ _ _ us hl => match us, hl with | [_, _], _ => rfl
abbrev s_refusal_of : Stmt := top 76
abbrev n_refusal_of : List Str := ["station", "call"]
theorem sc_refusal_of : FnScope n_refusal_of ["station", "call"] (defScope s_refusal_of) := ⟨rfl, rfl, rfl, by decide +kernel, rfl, by decide +kernel, by decide +kernel⟩
theorem bd_refusal_of : BindsAs "refusal_of" "refusal_of" s_refusal_of ["station", "call"] := fun _ _ _ _ _ _ us hl => match us, hl with | [_, _], _ => rfl
abbrev s_act : Stmt := top 77
abbrev n_act : List Str := ["station", "call", "given"]
theorem sc_act : FnScope n_act ["station", "call"] (defScope s_act) := ⟨rfl, rfl, rfl, by decide +kernel, rfl, by decide +kernel, by decide +kernel⟩
theorem bd_act : BindsAs "act" "act" s_act ["station", "call"] := fun _ _ _ _ _ _ us hl => match us, hl with | [_, _], _ => rfl
abbrev s_tell : Stmt := top 78
abbrev n_tell : List Str := ["station", "call"]
theorem sc_tell : FnScope n_tell ["station", "call"] (defScope s_tell) := ⟨rfl, rfl, rfl, by decide +kernel, rfl, by decide +kernel, by decide +kernel⟩
theorem bd_tell : BindsAs "tell" "tell" s_tell ["station", "call"] := fun _ _ _ _ _ _ us hl => match us, hl with | [_, _], _ => rfl
abbrev s_carry_out : Stmt := top 79
abbrev n_carry_out : List Str := ["station", "call", "given"]
theorem sc_carry_out : FnScope n_carry_out ["station", "call"] (defScope s_carry_out) := ⟨rfl, rfl, rfl, by decide +kernel, rfl, by decide +kernel, by decide +kernel⟩
theorem bd_carry_out : BindsAs "carry_out" "carry_out" s_carry_out ["station", "call"] := fun _ _ _ _ _ _ us hl => match us, hl with | [_, _], _ => rfl
abbrev s_answer_to : Stmt := top 80
abbrev n_answer_to : List Str := ["station", "call", "refusal"]
theorem sc_answer_to : FnScope n_answer_to ["station", "call"] (defScope s_answer_to) := ⟨rfl, rfl, rfl, by decide +kernel, rfl, by decide +kernel, by decide +kernel⟩
theorem bd_answer_to : BindsAs "answer_to" "answer_to" s_answer_to ["station", "call"] := fun _ _ _ _ _ _ us hl => match us, hl with | [_, _], _ => rfl
abbrev s_answers : Stmt := top 81
abbrev n_answers : List Str := ["calls", "station", "answered", "call", "numbers"]
theorem sc_answers : FnScope n_answers ["calls"] (defScope s_answers) := ⟨rfl, rfl, rfl, by decide +kernel, rfl, by decide +kernel, by decide +kernel⟩
theorem bd_answers : BindsAs "answers" "answers" s_answers ["calls"] := fun _ _ _ _ _ _ us hl => match us, hl with | [_], _ => rfl
end Tw
end
section
set_option Elab.async false
set_option linter.all false
set_option maxRecDepth 100000
/-! What a def, a method, a class is worth to its callers; short rules. -/
namespace Tw
open PySem PySem.Spec PyProof.Rows L2
section
variable (P : Program) (w : World) (K : PySem.W.Frag) (mg : Str → Option Value) (base : Heap)
/-- the def x of the module keeps the promise sp -/
def Fn (k : Nat) (x : Str) (ps : List Str) (sp : Sp) : Prop := ∃ f fd, mg x = some (.ref f) ∧ PySem.W.keepIn K (.ref f) = true ∧ FnOk P w K mg base CX0 k f fd ps sp ∧ Binds K fd ps []
/-- the method m of the class at C keeps the promise sp -/
def Mt (k : Nat) (C : Addr) (m : Str) (ps : List Str) (sp : Sp) : Prop := Cls K C ∧ ∃ f fd, Meth K C m f ∧ FnOk P w K mg base CX0 k f fd ps sp ∧ Binds K fd ps []
/-- the class x at C is made by an __init__ that keeps the promise sp -/
def Mkr (k : Nat) (C : Addr) (x : Str) (ps : List Str) (sp : Sp) : Prop := ∃ f fd, Mk K C f ∧ mg x = some (.ref C) ∧ FnOk P w K mg base CX0 k f fd ps sp ∧ Binds K fd ps []
/-- the text of a def, a method, a class's __init__ -/
def FnT (x : Str) (st : Stmt) : Prop := ∃ f fd, mg x = some (.ref f) ∧ Fun K x x st f fd
def MtT (C : Addr) (m qual : Str) (st : Stmt) : Prop := ∃ f fd, Meth K C m f ∧ Fun K m qual st f fd
def MkT (C : Addr) (x qual : Str) (st : Stmt) : Prop := ∃ f fd, Mk K C f ∧ mg x = some (.ref C) ∧ Fun K "__init__" qual st f fd
end
/-- a number of the module -/
def Cn (mg : Str → Option Value) (x : Str) (i : Int) : Prop := ∃ t, mg x = some (.int i t)
section
variable {P : Program} {w : World} {K : PySem.W.Frag} {mg : Str → Option Value} {base : Heap}
/-- what a body has to show -/
abbrev Body (P : Program) (w : World) (K : PySem.W.Frag) (mg : Str → Option Value) (base : Heap) (k : Nat) (qual : Str) (st : Stmt) (N : List Str) (sp : Sp) : Prop :=
  ∀ (f : Addr) (cdv : Value) (A : Around) (outer : List Env) (s : Shared) (H : Hp) (vs : List V) (Q : VK) (E : XK), Room k (A.deeper (envOfC qual (defScope st) s.heap.objs.size f cdv)) → sp vs H Q E →
      ∃ t, PSs (cxOf CX0 P w K mg base N qual (defScope st) f cdv A outer s H E).nox (defBody st) t ∧ t { nx := fun _ H' => Q .non H', rt := Q } (start N vs) H
theorem Fn.mk {x : Str} {st : Stmt} {N ps : List Str} {k : Nat} {sp : Sp} (t : FnT K mg x st) (S : FnScope N ps (defScope st)) (b : BindsAs x x st ps) (len : ∀ vs H Q E, sp vs H Q E → vs.length = ps.length) (h : Body P w K mg base k x st N sp) : Fn P w K mg base (k + 1) x ps sp := by
  obtain ⟨f, fd, e, F⟩ := t
  exact ⟨f, fd, e, F.kp, F.ok S len (h f), F.binds b⟩
theorem Mt.mk {C : Addr} {m qual : Str} {st : Stmt} {N ps : List Str} {k : Nat} {sp : Sp} (c : Cls K C) (t : MtT K C m qual st) (S : FnScope N ps (defScope st)) (b : BindsAs m qual st ps) (len : ∀ vs H Q E, sp vs H Q E → vs.length = ps.length) (h : Body P w K mg base k qual st N sp) : Mt P w K mg base (k + 1) C m ps sp := by
  obtain ⟨f, fd, e, F⟩ := t
  exact ⟨c, f, fd, e, F.ok S len (h f), F.binds b⟩
theorem Mkr.mk {C : Addr} {x qual : Str} {st : Stmt} {N ps : List Str} {k : Nat} {sp : Sp} (t : MkT K mg C x qual st) (S : FnScope N ps (defScope st)) (b : BindsAs "__init__" qual st ps) (len : ∀ vs H Q E, sp vs H Q E → vs.length = ps.length) (h : Body P w K mg base k qual st N sp) : Mkr P w K mg base (k + 1) C x ps sp := by
  obtain ⟨f, fd, e, e2, F⟩ := t
  exact ⟨f, fd, e, e2, F.ok S len (h f), F.binds b⟩
theorem Fn.mono {x : Str} {ps : List Str} {j k : Nat} {sp : Sp} (h : Fn P w K mg base j x ps sp) (l : j ≤ k) : Fn P w K mg base k x ps sp := let ⟨f, fd, a, b, c, d⟩ := h; ⟨f, fd, a, b, c.mono l, d⟩
theorem Mt.mono {C : Addr} {m : Str} {ps : List Str} {j k : Nat} {sp : Sp} (h : Mt P w K mg base j C m ps sp) (l : j ≤ k) : Mt P w K mg base k C m ps sp := let ⟨c, f, fd, a, b, d⟩ := h; ⟨c, f, fd, a, b.mono l, d⟩
theorem Mkr.mono {C : Addr} {x : Str} {ps : List Str} {j k : Nat} {sp : Sp} (h : Mkr P w K mg base j C x ps sp) (l : j ≤ k) : Mkr P w K mg base k C x ps sp := let ⟨f, fd, a, b, c, d⟩ := h; ⟨f, fd, a, b, c.mono l, d⟩
end
section
variable {X : Cx} {k : Nat} {x m : Str} {ps : List Str} {sp : Sp} {C : Addr} {p pos apos : Pos} {e o : Expr} {es : List Expr} {t : TA} {ta : TE}
theorem pe_cn {i : Int} (c : Cn X.mg x i) (hg : Gl X x := by rfl) (hd : (x == ("__debug__" : Str)) = false := by decide) : PE X (.Name x pos) (tC (.int i)) := by
  obtain ⟨t, h⟩ := c
  exact pe_glob hg h ⟨t, rfl⟩ hd
theorem pe_fn (c : Fn X.prog X.w X.K X.mg X.base k x ps sp) (hr : Room k X.A) (ha : PA X (e :: es) t) (hg : Gl X x := by rfl) (hdb : (x == ("__debug__" : Str)) = false := by decide) (he : starEach (e :: es) X.env = (false, eval e X.env) :: starEach es X.env := by rfl)
    (hpl : (backTo pos (starEach es X.env)).any (·.1) = false := by rfl) : PE X (.Call (.Name x p) (e :: es) [] pos) (tCall sp [] E0 t) := by
  obtain ⟨f, fd, h1, h2, h3, h4⟩ := c
  exact pe_call h3 hr hg h1 h2 h4 .nil pass0 ha hdb he hpl
theorem pe_fn0 (c : Fn X.prog X.w X.K X.mg X.base k x ps sp) (hr : Room k X.A) (hg : Gl X x := by rfl) (hdb : (x == ("__debug__" : Str)) = false := by decide) : PE X (.Call (.Name x p) [] [] pos) (tCall sp [] E0 tNil) := by
  obtain ⟨f, fd, h1, h2, h3, h4⟩ := c
  exact pe_call0 h3 hr hg h1 h2 h4 .nil pass0 hdb
theorem pe_mt {pl : Sem Bool} (ho : PE X o ta) (c : Mt X.prog X.w X.K X.mg X.base k C m ps sp) (hr : Room k X.A) (ha : PA X (e :: es) t) (hst : starEach (e :: es) X.env = (false, eval e X.env) :: starEach es X.env := by rfl) (hpl : (backTo pos (starEach es X.env)).any (·.1) = false := by rfl)
    (ht : eval (.Call (.Attribute o m apos) (e :: es) [] pos) X.env = (do
      let ov ← eval o X.env
      standAt apos.atName
      let (f, first) ← holding [ov] (getMethod ov m pl)
      callWith pos f first (backTo pos (starEach (e :: es) X.env)) (backToKw pos (keywordEach [] X.env))) := by rfl) : PE X (.Call (.Attribute o m apos) (e :: es) [] pos) (tMeth C m sp [] E0 ta t) := by
  obtain ⟨cl, f, fd, h1, h2, h3⟩ := c
  exact pe_meth ho cl h1 h2 hr h3 .nil pass0 ha hst hpl ht
theorem pe_mt0 {pl : Sem Bool} (ho : PE X o ta) (c : Mt X.prog X.w X.K X.mg X.base k C m ps sp) (hr : Room k X.A)
    (ht : eval (.Call (.Attribute o m apos) [] [] pos) X.env = (do
      let ov ← eval o X.env
      standAt apos.atName
      let (f, first) ← holding [ov] (getMethod ov m pl)
      callWith pos f first (backTo pos (starEach [] X.env)) (backToKw pos (keywordEach [] X.env))) := by rfl) : PE X (.Call (.Attribute o m apos) [] [] pos) (tMeth C m sp [] E0 ta tNil) := by
  obtain ⟨cl, f, fd, h1, h2, h3⟩ := c
  exact pe_meth0 ho cl h1 h2 hr h3 .nil pass0 ht
theorem pe_mk (c : Mkr X.prog X.w X.K X.mg X.base k C x ps sp) (hr : Room (k + 1) X.A) (ha : PA X (e :: es) t) (hg : Gl X x := by rfl) (hdb : (x == ("__debug__" : Str)) = false := by decide) (he : starEach (e :: es) X.env = (false, eval e X.env) :: starEach es X.env := by rfl)
    (hpl : (backTo pos (starEach es X.env)).any (·.1) = false := by rfl) : PE X (.Call (.Name x p) (e :: es) [] pos) (tMake C sp [] E0 t) := by
  obtain ⟨f, fd, h1, h2, h3, h4⟩ := c
  exact pe_make h1 h3 hr hg h2 h4 .nil pass0 ha hdb he hpl
theorem pe_mk0 (c : Mkr X.prog X.w X.K X.mg X.base k C x ps sp) (hr : Room (k + 1) X.A) (hg : Gl X x := by rfl) (hdb : (x == ("__debug__" : Str)) = false := by decide) : PE X (.Call (.Name x p) [] [] pos) (tMake C sp [] E0 tNil) := by
  obtain ⟨f, fd, h1, h2, h3, h4⟩ := c
  exact pe_make0 h1 h3 hr hg h2 h4 .nil pass0 hdb
end
end Tw
end
section
set_option Elab.async false
set_option linter.all false
set_option maxRecDepth 100000
set_option maxHeartbeats 2000000
namespace Tw
open PySem PySem.Spec PyProof.Rows L2
/-! ### lists -/
theorem take_snoc {α : Type} : ∀ {l : List α} {i : Nat} {x : α}, l[i]? = some x → l.take (i + 1) = l.take i ++ [x]
  | [], i, x, h => by simp at h
  | a :: l, 0, x, h => by
    have e : a = x := Option.some.inj h
    subst e
    rfl
  | a :: l, i + 1, x, h => by
    have ih := take_snoc (l := l) (i := i) (x := x) h
    show a :: l.take (i + 1) = a :: l.take i ++ [x]
    rw [ih]
    rfl
/-- bytes and the like as the program's numbers -/
abbrev nv (b : List Nat) : List V := b.map fun (n : Nat) => V.int (n : Int)
theorem nv_get {b : List Nat} {i : Nat} {v : V} (h : (nv b)[i]? = some v) : ∃ n, b[i]? = some n ∧ v = V.int (n : Int) := by
  rw [List.getElem?_map] at h
  cases e : b[i]? with
  | none => rw [e] at h; cases h
  | some z => rw [e] at h; exact ⟨z, rfl, (Option.some.inj h).symm⟩
/-! ### the sum -/
def crcF (x : Nat) : Nat := if x % 2 = 1 then (x / 2) ^^^ 0x82F63B78 else x / 2
theorem crcBits_comm : ∀ (n x : Nat), Se05.crcBits n (crcF x) = crcF (Se05.crcBits n x)
  | 0, _ => rfl
  | n + 1, x => by
    show Se05.crcBits n (crcF (crcF x)) = crcF (Se05.crcBits n (crcF x))
    exact crcBits_comm n (crcF x)
theorem crcBits_succ (n x : Nat) : Se05.crcBits (n + 1) x = crcF (Se05.crcBits n x) := crcBits_comm n x
def crcG (x c : Nat) : Nat := Se05.crcBits 8 (x ^^^ c)
theorem crc_eq (b : List Nat) : Se05.crc b = (b.foldl crcG 0xFFFFFFFF) ^^^ 0xFFFFFFFF := rfl
theorem xor_nn (x y : Nat) : Builtin.bitXor (x : Int) (y : Int) = ((x ^^^ y : Nat) : Int) := by
  rw [Bits.bitXor_pp (Int.natCast_nonneg x) (Int.natCast_nonneg y)]
  rfl
theorem and_one (x : Nat) : Builtin.bitAnd (x : Int) 1 = ((x % 2 : Nat) : Int) := by
  have h := Bits.bitAnd_mask (x := (x : Int)) 1 (Int.natCast_nonneg x)
  exact h
theorem half (x : Nat) : ((x : Int) / 2 ^ (1 : Int).toNat) = ((x / 2 : Nat) : Int) := rfl
section
variable {P : Program} {w : World} {K : PySem.W.Frag} {mg : Str → Option Value} {base : Heap}
/-- a row of numbers is handed in, one number comes out, nothing that was there is changed -/
def spRow (K : PySem.W.Frag) (ok : List Nat → Prop) (f : List Nat → V) : Sp := fun vs H Q _ => ∃ (a : Addr) (b : List Nat), vs = [.ref a] ∧ SqL K H a (nv b) ∧ ok b ∧ ∀ H', Same H H' → Q (f b) H'
theorem ok_checksum (t : FnT K mg "checksum" s_checksum) (c1 : Cn mg "ALL_ONES" 4294967295) (c2 : Cn mg "POLYNOMIAL" 2197175160) (r : mg "range" = none) :
    Fn P w K mg base 1 "checksum" ["octets"] (spRow K (fun _ => True) fun b => .int (Se05.crc b : Int)) := by
  refine Fn.mk t sc_checksum bd_checksum (fun vs H Q E h => by obtain ⟨a, b, rfl, _⟩ := h; rfl) (fun f cdv A outer s H vs Q E hr h => ?_)
  obtain ⟨a, b, rfl, hS, _, k⟩ := h
  have nd := sc_checksum.nd
  refine ⟨_, pss_cons (ps_set (i := 1) nd rfl (Or.inl rfl) (pe_cn c1))
    (pss_cons (ps_for PassesOwn.never rfl (pi_list (pv 0)) (pg_name (i := 2) nd rfl (Or.inl rfl))
      (pss_cons (ps_set (i := 1) nd rfl (Or.inl rfl) (pe_op op_xor (pv 1) (pv 2)))
        (pss_one (ps_for PassesOwn.never rfl (pi_range1 rfl r (pa_cons pe_int pa_nil)) (pg_name (i := 3) nd rfl (Or.inl rfl))
          (pss_cons (ps_set (i := 4) nd rfl (Or.inl rfl) (pe_op op_and (pv 1) pe_int))
            (pss_cons (ps_set (i := 1) nd rfl (Or.inl rfl) (pe_op op_shr (pv 1) pe_int))
              (pss_one (ps_if (pt_cmpR op_eq (pv 4) pe_int (nomark _)) (pss_one (ps_set (i := 1) nd rfl (Or.inl rfl) (pe_op op_xor (pv 1) (pe_cn c2)))) pss_nil))))))))
    (pss_one (ps_ret (pe_op op_xor (pv 1) (pe_cn c1))))), ?_⟩
  refine ⟨_, rfl, a, rfl, ⟨_, hS⟩, for_list (K := K) (a := a) (xs := nv b) (fun i σ H' => Same H H' ∧ ∃ v2 v3 v4 : Option V, σ = [some (.ref a), some (.int (((b.take i).foldl crcG 0xFFFFFFFF : Nat) : Int)), v2, v3, v4])
    ⟨Same.refl H, none, none, none, rfl⟩ (fun i σ H' _ ⟨s5, _⟩ => s5.seq hS) ?_ ?_⟩
  · rintro i y σ H' hi ⟨s5, v2, v3, v4, rfl⟩
    obtain ⟨n, hn, rfl⟩ := nv_get hi
    generalize hx : (b.take i).foldl crcG 0xFFFFFFFF = x
    refine ⟨_, rfl, _, rfl, _, _, rfl, rfl, ?_⟩
    refine ⟨8, rfl, by decide, by decide, for_range (n := 8) (fun j σ H'' => H'' = H' ∧ ∃ z : Int, z = (Se05.crcBits j (x ^^^ n) : Nat) ∧ ∃ v3 v4 : Option V, σ = [some (.ref a), some (.int z), some (.int (n : Int)), v3, v4]) ⟨rfl, _, xor_nn x n, v3, v4, rfl⟩ ?_ ?_⟩
    · rintro j σ H'' hj ⟨rfl, z0, hz0, v3, v4, rfl⟩
      generalize hz : Se05.crcBits j (x ^^^ n) = z at hz0
      subst hz0
      refine ⟨_, rfl, _, _, rfl, rfl, ?_⟩
      refine ⟨_, rfl, _, _, rfl, rfl, (by show (0 : Int) ≤ 1; decide), ?_⟩
      refine ⟨_, rfl, rfl, _, rfl, ?_⟩
      have e1 : Se05.crcBits (j + 1) (x ^^^ n) = crcF z := by rw [crcBits_succ, hz]
      refine ite2 (fun h1 => ?_) (fun h1 => ?_)
      · refine ⟨_, rfl, _, _, rfl, rfl, ?_⟩
        have h2 : z % 2 = 1 := by
          have q := V.int.inj (of_decide_eq_true h1)
          rw [and_one] at q
          omega
        refine ⟨rfl, _, ?_, _, _, rfl⟩
        have e2 : crcF z = (z / 2) ^^^ 2197175160 := if_pos h2
        rw [e1, e2]
        exact xor_nn (z / 2) 2197175160
      · have h2 : ¬ z % 2 = 1 := fun q => h1 (decide_eq_true (by show V.int (Builtin.bitAnd (z : Int) 1) = V.int 1; rw [and_one, q]; rfl))
        refine ⟨rfl, _, ?_, _, _, rfl⟩
        have e2 : crcF z = z / 2 := if_neg h2
        rw [e1, e2]
        exact half z
    · rintro σ H'' ⟨rfl, z, hz, v3, v4, rfl⟩
      subst hz
      have e5 : (b.take (i + 1)).foldl crcG 0xFFFFFFFF = Se05.crcBits 8 (x ^^^ n) := by rw [take_snoc hn, List.foldl_append, hx]; rfl
      refine ⟨s5, some (.int (n : Int)), v3, v4, ?_⟩
      rw [e5]
  · rintro σ H' ⟨s5, v2, v3, v4, rfl⟩
    have e : (b.take (nv b).length) = b := by rw [List.length_map, List.take_length]
    have e4 : Builtin.bitXor ((b.foldl crcG 0xFFFFFFFF : Nat) : Int) 4294967295 = (Se05.crc b : Int) := xor_nn (b.foldl crcG 0xFFFFFFFF) 4294967295
    have q : Q (V.int (Se05.crc b : Int)) H' := k H' s5
    rw [← e4] at q
    rw [e]
    exact ⟨_, rfl, _, _, rfl, rfl, q⟩
end
end Tw
end
section
set_option Elab.async false
set_option linter.all false
set_option maxRecDepth 100000
namespace Tw
open PySem PySem.Spec PyProof.Rows L2
section
variable {K : PySem.W.Frag} {h : Heap} {mg : Str → Option Value}
theorem cn_mk {x : Str} {i : Int} {t : Tok} (X : K.In h) (G : h.Ns mainGlobals mg) (e : PySem.W.nsIn K mainGlobals x = some (some (.int i t))) : Cn mg x i := ⟨t, PySem.W.mg_of X G e⟩
theorem fnT_mk {x : Str} {st : Stmt} {f : Addr} {oc : Value} {od an : Option Addr} {osl : Array (Option Value)} {kV doc pm cdv ct : Value} (X : K.In h) (G : h.Ns mainGlobals mg) (e : PySem.W.nsIn K mainGlobals x = some (some (.ref f)))
    (l : K.lookup f = some ⟨oc, od, .func (PySem.W.fnOf x x (defArgs st) (defBody st) (defScope st) .none kV doc pm an cdv ct), osl⟩) (c : PySem.W.codeIn K cdv x = true) (k : PySem.W.keepIn K (.ref f) = true) : FnT K mg x st := ⟨f, _, PySem.W.mg_of X G e, fun_mk l c k⟩
end
structure Txc_Kept (K : PySem.W.Frag) (mg : Str → Option Value) (C : Addr) : Prop where
  k_Kept : Cls K C
  a_Kept_starts : NoAttr K C "starts"
  a_Kept_quick : NoAttr K C "quick"
  a_Kept_doomed : NoAttr K C "doomed"
  a_Kept_crumbs : NoAttr K C "crumbs"
  i_Kept : MkT K mg C "Kept" "Kept.__init__" s_Kept_init
  m_Kept_lay_crumb : MtT K C "lay_crumb" "Kept.lay_crumb" s_Kept_lay_crumb
  m_Kept_doom : MtT K C "doom" "Kept.doom" s_Kept_doom
  m_Kept_forget_quick : MtT K C "forget_quick" "Kept.forget_quick" s_Kept_forget_quick
theorem txc_Kept_mk {K : PySem.W.Frag} {h : Heap} {mg : Str → Option Value} (X : K.In h) (G : h.Ns mainGlobals mg) {C : Addr} {oc0 : Value} {od0 an0 : Option Addr} {osl0 : Array (Option Value)} {kV0 doc0 pm0 cdv0 ct0 : Value} {f0 : Addr} {oc1 : Value} {od1 an1 : Option Addr} {osl1 : Array (Option Value)} {kV1 doc1 pm1 cdv1 ct1 : Value} {f1 : Addr} {oc2 : Value} {od2 an2 : Option Addr} {osl2 : Array (Option Value)} {kV2 doc2 pm2 cdv2 ct2 : Value} {f2 : Addr} {oc3 : Value} {od3 an3 : Option Addr} {osl3 : Array (Option Value)} {kV3 doc3 pm3 cdv3 ct3 : Value} {f3 : Addr}
    (ex : PySem.W.nsIn K mainGlobals "Kept" = some (some (.ref C)))
    (pg : PySem.W.plainGet K C Str.empty = true) (hd : PySem.W.hasDictIn K C = true) (po : PySem.W.plainOver K C = true) (sa : PySem.W.findIn K (.ref C) "__setattr__" = some (some (.builtin "object.__setattr__"))) (mk : PySem.W.makesIn K C = true) (kc : PySem.W.keepIn K (.ref C) = true)
    (a_starts : PySem.W.findIn K (.ref C) "starts" = some none)
    (a_quick : PySem.W.findIn K (.ref C) "quick" = some none)
    (a_doomed : PySem.W.findIn K (.ref C) "doomed" = some none)
    (a_crumbs : PySem.W.findIn K (.ref C) "crumbs" = some none)
    (g0 : PySem.W.findIn K (.ref C) "__init__" = some (some (.ref f0))) (i0 : PySem.W.isFn K (.ref f0) = true) (l0 : K.lookup f0 = some ⟨oc0, od0, .func (PySem.W.fnOf "__init__" "Kept.__init__" (defArgs s_Kept_init) (defBody s_Kept_init) (defScope s_Kept_init) .none kV0 doc0 pm0 an0 cdv0 ct0), osl0⟩) (c0 : PySem.W.codeIn K cdv0 "Kept.__init__" = true) (q0 : PySem.W.keepIn K (.ref f0) = true)
    (g1 : PySem.W.findIn K (.ref C) "lay_crumb" = some (some (.ref f1))) (i1 : PySem.W.isFn K (.ref f1) = true) (l1 : K.lookup f1 = some ⟨oc1, od1, .func (PySem.W.fnOf "lay_crumb" "Kept.lay_crumb" (defArgs s_Kept_lay_crumb) (defBody s_Kept_lay_crumb) (defScope s_Kept_lay_crumb) .none kV1 doc1 pm1 an1 cdv1 ct1), osl1⟩) (c1 : PySem.W.codeIn K cdv1 "Kept.lay_crumb" = true) (q1 : PySem.W.keepIn K (.ref f1) = true)
    (g2 : PySem.W.findIn K (.ref C) "doom" = some (some (.ref f2))) (i2 : PySem.W.isFn K (.ref f2) = true) (l2 : K.lookup f2 = some ⟨oc2, od2, .func (PySem.W.fnOf "doom" "Kept.doom" (defArgs s_Kept_doom) (defBody s_Kept_doom) (defScope s_Kept_doom) .none kV2 doc2 pm2 an2 cdv2 ct2), osl2⟩) (c2 : PySem.W.codeIn K cdv2 "Kept.doom" = true) (q2 : PySem.W.keepIn K (.ref f2) = true)
    (g3 : PySem.W.findIn K (.ref C) "forget_quick" = some (some (.ref f3))) (i3 : PySem.W.isFn K (.ref f3) = true) (l3 : K.lookup f3 = some ⟨oc3, od3, .func (PySem.W.fnOf "forget_quick" "Kept.forget_quick" (defArgs s_Kept_forget_quick) (defBody s_Kept_forget_quick) (defScope s_Kept_forget_quick) .none kV3 doc3 pm3 an3 cdv3 ct3), osl3⟩) (c3 : PySem.W.codeIn K cdv3 "Kept.forget_quick" = true) (q3 : PySem.W.keepIn K (.ref f3) = true) :
    ∃ C, Txc_Kept K mg C := ⟨C, ⟨pg, hd, po, sa⟩, a_starts, a_quick, a_doomed, a_crumbs, ⟨f0, _, ⟨mk, g0, i0, kc⟩, PySem.W.mg_of X G ex, fun_mk l0 c0 q0⟩, ⟨f1, _, ⟨g1, i1, q1⟩, fun_mk l1 c1 q1⟩, ⟨f2, _, ⟨g2, i2, q2⟩, fun_mk l2 c2 q2⟩, ⟨f3, _, ⟨g3, i3, q3⟩, fun_mk l3 c3 q3⟩⟩
structure Txc_Call (K : PySem.W.Frag) (mg : Str → Option Value) (C : Addr) : Prop where
  k_Call : Cls K C
  a_Call_number : NoAttr K C "number"
  a_Call_given : NoAttr K C "given"
  a_Call_octets : NoAttr K C "octets"
  i_Call : MkT K mg C "Call" "Call.__init__" s_Call_init
theorem txc_Call_mk {K : PySem.W.Frag} {h : Heap} {mg : Str → Option Value} (X : K.In h) (G : h.Ns mainGlobals mg) {C : Addr} {oc0 : Value} {od0 an0 : Option Addr} {osl0 : Array (Option Value)} {kV0 doc0 pm0 cdv0 ct0 : Value} {f0 : Addr}
    (ex : PySem.W.nsIn K mainGlobals "Call" = some (some (.ref C)))
    (pg : PySem.W.plainGet K C Str.empty = true) (hd : PySem.W.hasDictIn K C = true) (po : PySem.W.plainOver K C = true) (sa : PySem.W.findIn K (.ref C) "__setattr__" = some (some (.builtin "object.__setattr__"))) (mk : PySem.W.makesIn K C = true) (kc : PySem.W.keepIn K (.ref C) = true)
    (a_number : PySem.W.findIn K (.ref C) "number" = some none)
    (a_given : PySem.W.findIn K (.ref C) "given" = some none)
    (a_octets : PySem.W.findIn K (.ref C) "octets" = some none)
    (g0 : PySem.W.findIn K (.ref C) "__init__" = some (some (.ref f0))) (i0 : PySem.W.isFn K (.ref f0) = true) (l0 : K.lookup f0 = some ⟨oc0, od0, .func (PySem.W.fnOf "__init__" "Call.__init__" (defArgs s_Call_init) (defBody s_Call_init) (defScope s_Call_init) .none kV0 doc0 pm0 an0 cdv0 ct0), osl0⟩) (c0 : PySem.W.codeIn K cdv0 "Call.__init__" = true) (q0 : PySem.W.keepIn K (.ref f0) = true) :
    ∃ C, Txc_Call K mg C := ⟨C, ⟨pg, hd, po, sa⟩, a_number, a_given, a_octets, ⟨f0, _, ⟨mk, g0, i0, kc⟩, PySem.W.mg_of X G ex, fun_mk l0 c0 q0⟩⟩
structure Txc_Task (K : PySem.W.Frag) (mg : Str → Option Value) (C : Addr) : Prop where
  k_Task : Cls K C
  a_Task_limit : NoAttr K C "limit"
  a_Task_rank : NoAttr K C "rank"
  a_Task_most : NoAttr K C "most"
  a_Task_span : NoAttr K C "span"
  a_Task_first : NoAttr K C "first"
  a_Task_main : NoAttr K C "main"
  a_Task_phase : NoAttr K C "phase"
  a_Task_moment : NoAttr K C "moment"
  a_Task_heard : NoAttr K C "heard"
  a_Task_place : NoAttr K C "place"
  a_Task_late : NoAttr K C "late"
  a_Task_wait : NoAttr K C "wait"
  a_Task_times : NoAttr K C "times"
  i_Task : MkT K mg C "Task" "Task.__init__" s_Task_init
  m_Task_enter : MtT K C "enter" "Task.enter" s_Task_enter
  m_Task_stand : MtT K C "stand" "Task.stand" s_Task_stand
  m_Task_halt : MtT K C "halt" "Task.halt" s_Task_halt
  m_Task_is_overdue : MtT K C "is_overdue" "Task.is_overdue" s_Task_is_overdue
  m_Task_times_of_late : MtT K C "times_of_late" "Task.times_of_late" s_Task_times_of_late
  m_Task_look_at : MtT K C "look_at" "Task.look_at" s_Task_look_at
  m_Task_turn_late : MtT K C "turn_late" "Task.turn_late" s_Task_turn_late
  m_Task_stop_silent : MtT K C "stop_silent" "Task.stop_silent" s_Task_stop_silent
  m_Task_look_in_time : MtT K C "look_in_time" "Task.look_in_time" s_Task_look_in_time
  m_Task_hear : MtT K C "hear" "Task.hear" s_Task_hear
  m_Task_wait_afresh : MtT K C "wait_afresh" "Task.wait_afresh" s_Task_wait_afresh
  m_Task_shown : MtT K C "shown" "Task.shown" s_Task_shown
theorem txc_Task_mk {K : PySem.W.Frag} {h : Heap} {mg : Str → Option Value} (X : K.In h) (G : h.Ns mainGlobals mg) {C : Addr} {oc0 : Value} {od0 an0 : Option Addr} {osl0 : Array (Option Value)} {kV0 doc0 pm0 cdv0 ct0 : Value} {f0 : Addr} {oc1 : Value} {od1 an1 : Option Addr} {osl1 : Array (Option Value)} {kV1 doc1 pm1 cdv1 ct1 : Value} {f1 : Addr} {oc2 : Value} {od2 an2 : Option Addr} {osl2 : Array (Option Value)} {kV2 doc2 pm2 cdv2 ct2 : Value} {f2 : Addr} {oc3 : Value} {od3 an3 : Option Addr} {osl3 : Array (Option Value)} {kV3 doc3 pm3 cdv3 ct3 : Value} {f3 : Addr} {oc4 : Value} {od4 an4 : Option Addr} {osl4 : Array (Option Value)} {kV4 doc4 pm4 cdv4 ct4 : Value} {f4 : Addr} {oc5 : Value} {od5 an5 : Option Addr} {osl5 : Array (Option Value)} {kV5 doc5 pm5 cdv5 ct5 : Value} {f5 : Addr} {oc6 : Value} {od6 an6 : Option Addr} {osl6 : Array (Option Value)} {kV6 doc6 pm6 cdv6 ct6 : Value} {f6 : Addr} {oc7 : Value} {od7 an7 : Option Addr} {osl7 : Array (Option Value)} {kV7 doc7 pm7 cdv7 ct7 : Value} {f7 : Addr} {oc8 : Value} {od8 an8 : Option Addr} {osl8 : Array (Option Value)} {kV8 doc8 pm8 cdv8 ct8 : Value} {f8 : Addr} {oc9 : Value} {od9 an9 : Option Addr} {osl9 : Array (Option Value)} {kV9 doc9 pm9 cdv9 ct9 : Value} {f9 : Addr} {oc10 : Value} {od10 an10 : Option Addr} {osl10 : Array (Option Value)} {kV10 doc10 pm10 cdv10 ct10 : Value} {f10 : Addr} {oc11 : Value} {od11 an11 : Option Addr} {osl11 : Array (Option Value)} {kV11 doc11 pm11 cdv11 ct11 : Value} {f11 : Addr} {oc12 : Value} {od12 an12 : Option Addr} {osl12 : Array (Option Value)} {kV12 doc12 pm12 cdv12 ct12 : Value} {f12 : Addr}
    (ex : PySem.W.nsIn K mainGlobals "Task" = some (some (.ref C)))
    (pg : PySem.W.plainGet K C Str.empty = true) (hd : PySem.W.hasDictIn K C = true) (po : PySem.W.plainOver K C = true) (sa : PySem.W.findIn K (.ref C) "__setattr__" = some (some (.builtin "object.__setattr__"))) (mk : PySem.W.makesIn K C = true) (kc : PySem.W.keepIn K (.ref C) = true)
    (a_limit : PySem.W.findIn K (.ref C) "limit" = some none)
    (a_rank : PySem.W.findIn K (.ref C) "rank" = some none)
    (a_most : PySem.W.findIn K (.ref C) "most" = some none)
    (a_span : PySem.W.findIn K (.ref C) "span" = some none)
    (a_first : PySem.W.findIn K (.ref C) "first" = some none)
    (a_main : PySem.W.findIn K (.ref C) "main" = some none)
    (a_phase : PySem.W.findIn K (.ref C) "phase" = some none)
    (a_moment : PySem.W.findIn K (.ref C) "moment" = some none)
    (a_heard : PySem.W.findIn K (.ref C) "heard" = some none)
    (a_place : PySem.W.findIn K (.ref C) "place" = some none)
    (a_late : PySem.W.findIn K (.ref C) "late" = some none)
    (a_wait : PySem.W.findIn K (.ref C) "wait" = some none)
    (a_times : PySem.W.findIn K (.ref C) "times" = some none)
    (g0 : PySem.W.findIn K (.ref C) "__init__" = some (some (.ref f0))) (i0 : PySem.W.isFn K (.ref f0) = true) (l0 : K.lookup f0 = some ⟨oc0, od0, .func (PySem.W.fnOf "__init__" "Task.__init__" (defArgs s_Task_init) (defBody s_Task_init) (defScope s_Task_init) .none kV0 doc0 pm0 an0 cdv0 ct0), osl0⟩) (c0 : PySem.W.codeIn K cdv0 "Task.__init__" = true) (q0 : PySem.W.keepIn K (.ref f0) = true)
    (g1 : PySem.W.findIn K (.ref C) "enter" = some (some (.ref f1))) (i1 : PySem.W.isFn K (.ref f1) = true) (l1 : K.lookup f1 = some ⟨oc1, od1, .func (PySem.W.fnOf "enter" "Task.enter" (defArgs s_Task_enter) (defBody s_Task_enter) (defScope s_Task_enter) .none kV1 doc1 pm1 an1 cdv1 ct1), osl1⟩) (c1 : PySem.W.codeIn K cdv1 "Task.enter" = true) (q1 : PySem.W.keepIn K (.ref f1) = true)
    (g2 : PySem.W.findIn K (.ref C) "stand" = some (some (.ref f2))) (i2 : PySem.W.isFn K (.ref f2) = true) (l2 : K.lookup f2 = some ⟨oc2, od2, .func (PySem.W.fnOf "stand" "Task.stand" (defArgs s_Task_stand) (defBody s_Task_stand) (defScope s_Task_stand) .none kV2 doc2 pm2 an2 cdv2 ct2), osl2⟩) (c2 : PySem.W.codeIn K cdv2 "Task.stand" = true) (q2 : PySem.W.keepIn K (.ref f2) = true)
    (g3 : PySem.W.findIn K (.ref C) "halt" = some (some (.ref f3))) (i3 : PySem.W.isFn K (.ref f3) = true) (l3 : K.lookup f3 = some ⟨oc3, od3, .func (PySem.W.fnOf "halt" "Task.halt" (defArgs s_Task_halt) (defBody s_Task_halt) (defScope s_Task_halt) .none kV3 doc3 pm3 an3 cdv3 ct3), osl3⟩) (c3 : PySem.W.codeIn K cdv3 "Task.halt" = true) (q3 : PySem.W.keepIn K (.ref f3) = true)
    (g4 : PySem.W.findIn K (.ref C) "is_overdue" = some (some (.ref f4))) (i4 : PySem.W.isFn K (.ref f4) = true) (l4 : K.lookup f4 = some ⟨oc4, od4, .func (PySem.W.fnOf "is_overdue" "Task.is_overdue" (defArgs s_Task_is_overdue) (defBody s_Task_is_overdue) (defScope s_Task_is_overdue) .none kV4 doc4 pm4 an4 cdv4 ct4), osl4⟩) (c4 : PySem.W.codeIn K cdv4 "Task.is_overdue" = true) (q4 : PySem.W.keepIn K (.ref f4) = true)
    (g5 : PySem.W.findIn K (.ref C) "times_of_late" = some (some (.ref f5))) (i5 : PySem.W.isFn K (.ref f5) = true) (l5 : K.lookup f5 = some ⟨oc5, od5, .func (PySem.W.fnOf "times_of_late" "Task.times_of_late" (defArgs s_Task_times_of_late) (defBody s_Task_times_of_late) (defScope s_Task_times_of_late) .none kV5 doc5 pm5 an5 cdv5 ct5), osl5⟩) (c5 : PySem.W.codeIn K cdv5 "Task.times_of_late" = true) (q5 : PySem.W.keepIn K (.ref f5) = true)
    (g6 : PySem.W.findIn K (.ref C) "look_at" = some (some (.ref f6))) (i6 : PySem.W.isFn K (.ref f6) = true) (l6 : K.lookup f6 = some ⟨oc6, od6, .func (PySem.W.fnOf "look_at" "Task.look_at" (defArgs s_Task_look_at) (defBody s_Task_look_at) (defScope s_Task_look_at) .none kV6 doc6 pm6 an6 cdv6 ct6), osl6⟩) (c6 : PySem.W.codeIn K cdv6 "Task.look_at" = true) (q6 : PySem.W.keepIn K (.ref f6) = true)
    (g7 : PySem.W.findIn K (.ref C) "turn_late" = some (some (.ref f7))) (i7 : PySem.W.isFn K (.ref f7) = true) (l7 : K.lookup f7 = some ⟨oc7, od7, .func (PySem.W.fnOf "turn_late" "Task.turn_late" (defArgs s_Task_turn_late) (defBody s_Task_turn_late) (defScope s_Task_turn_late) .none kV7 doc7 pm7 an7 cdv7 ct7), osl7⟩) (c7 : PySem.W.codeIn K cdv7 "Task.turn_late" = true) (q7 : PySem.W.keepIn K (.ref f7) = true)
    (g8 : PySem.W.findIn K (.ref C) "stop_silent" = some (some (.ref f8))) (i8 : PySem.W.isFn K (.ref f8) = true) (l8 : K.lookup f8 = some ⟨oc8, od8, .func (PySem.W.fnOf "stop_silent" "Task.stop_silent" (defArgs s_Task_stop_silent) (defBody s_Task_stop_silent) (defScope s_Task_stop_silent) .none kV8 doc8 pm8 an8 cdv8 ct8), osl8⟩) (c8 : PySem.W.codeIn K cdv8 "Task.stop_silent" = true) (q8 : PySem.W.keepIn K (.ref f8) = true)
    (g9 : PySem.W.findIn K (.ref C) "look_in_time" = some (some (.ref f9))) (i9 : PySem.W.isFn K (.ref f9) = true) (l9 : K.lookup f9 = some ⟨oc9, od9, .func (PySem.W.fnOf "look_in_time" "Task.look_in_time" (defArgs s_Task_look_in_time) (defBody s_Task_look_in_time) (defScope s_Task_look_in_time) .none kV9 doc9 pm9 an9 cdv9 ct9), osl9⟩) (c9 : PySem.W.codeIn K cdv9 "Task.look_in_time" = true) (q9 : PySem.W.keepIn K (.ref f9) = true)
    (g10 : PySem.W.findIn K (.ref C) "hear" = some (some (.ref f10))) (i10 : PySem.W.isFn K (.ref f10) = true) (l10 : K.lookup f10 = some ⟨oc10, od10, .func (PySem.W.fnOf "hear" "Task.hear" (defArgs s_Task_hear) (defBody s_Task_hear) (defScope s_Task_hear) .none kV10 doc10 pm10 an10 cdv10 ct10), osl10⟩) (c10 : PySem.W.codeIn K cdv10 "Task.hear" = true) (q10 : PySem.W.keepIn K (.ref f10) = true)
    (g11 : PySem.W.findIn K (.ref C) "wait_afresh" = some (some (.ref f11))) (i11 : PySem.W.isFn K (.ref f11) = true) (l11 : K.lookup f11 = some ⟨oc11, od11, .func (PySem.W.fnOf "wait_afresh" "Task.wait_afresh" (defArgs s_Task_wait_afresh) (defBody s_Task_wait_afresh) (defScope s_Task_wait_afresh) .none kV11 doc11 pm11 an11 cdv11 ct11), osl11⟩) (c11 : PySem.W.codeIn K cdv11 "Task.wait_afresh" = true) (q11 : PySem.W.keepIn K (.ref f11) = true)
    (g12 : PySem.W.findIn K (.ref C) "shown" = some (some (.ref f12))) (i12 : PySem.W.isFn K (.ref f12) = true) (l12 : K.lookup f12 = some ⟨oc12, od12, .func (PySem.W.fnOf "shown" "Task.shown" (defArgs s_Task_shown) (defBody s_Task_shown) (defScope s_Task_shown) .none kV12 doc12 pm12 an12 cdv12 ct12), osl12⟩) (c12 : PySem.W.codeIn K cdv12 "Task.shown" = true) (q12 : PySem.W.keepIn K (.ref f12) = true) :
    ∃ C, Txc_Task K mg C := ⟨C, ⟨pg, hd, po, sa⟩, a_limit, a_rank, a_most, a_span, a_first, a_main, a_phase, a_moment, a_heard, a_place, a_late, a_wait, a_times, ⟨f0, _, ⟨mk, g0, i0, kc⟩, PySem.W.mg_of X G ex, fun_mk l0 c0 q0⟩, ⟨f1, _, ⟨g1, i1, q1⟩, fun_mk l1 c1 q1⟩, ⟨f2, _, ⟨g2, i2, q2⟩, fun_mk l2 c2 q2⟩, ⟨f3, _, ⟨g3, i3, q3⟩, fun_mk l3 c3 q3⟩, ⟨f4, _, ⟨g4, i4, q4⟩, fun_mk l4 c4 q4⟩, ⟨f5, _, ⟨g5, i5, q5⟩, fun_mk l5 c5 q5⟩, ⟨f6, _, ⟨g6, i6, q6⟩, fun_mk l6 c6 q6⟩, ⟨f7, _, ⟨g7, i7, q7⟩, fun_mk l7 c7 q7⟩, ⟨f8, _, ⟨g8, i8, q8⟩, fun_mk l8 c8 q8⟩, ⟨f9, _, ⟨g9, i9, q9⟩, fun_mk l9 c9 q9⟩, ⟨f10, _, ⟨g10, i10, q10⟩, fun_mk l10 c10 q10⟩, ⟨f11, _, ⟨g11, i11, q11⟩, fun_mk l11 c11 q11⟩, ⟨f12, _, ⟨g12, i12, q12⟩, fun_mk l12 c12 q12⟩⟩
structure Txc_Station (K : PySem.W.Frag) (mg : Str → Option Value) (C : Addr) : Prop where
  k_Station : Cls K C
  a_Station_begun : NoAttr K C "begun"
  a_Station_began : NoAttr K C "began"
  a_Station_now : NoAttr K C "now"
  a_Station_cause : NoAttr K C "cause"
  a_Station_known : NoAttr K C "known"
  a_Station_doubt : NoAttr K C "doubt"
  a_Station_before : NoAttr K C "before"
  a_Station_kept : NoAttr K C "kept"
  a_Station_tasks : NoAttr K C "tasks"
  i_Station : MkT K mg C "Station" "Station.__init__" s_Station_init
  m_Station_begin : MtT K C "begin" "Station.begin" s_Station_begin
  m_Station_add_task : MtT K C "add_task" "Station.add_task" s_Station_add_task
  m_Station_report : MtT K C "report" "Station.report" s_Station_report
  m_Station_ask : MtT K C "ask" "Station.ask" s_Station_ask
  m_Station_halt : MtT K C "halt" "Station.halt" s_Station_halt
  m_Station_tick : MtT K C "tick" "Station.tick" s_Station_tick
  m_Station_look_at_task : MtT K C "look_at_task" "Station.look_at_task" s_Station_look_at_task
  m_Station_all_well_for_long : MtT K C "all_well_for_long" "Station.all_well_for_long" s_Station_all_well_for_long
  m_Station_runs : MtT K C "runs" "Station.runs" s_Station_runs
  m_Station_said : MtT K C "said" "Station.said" s_Station_said
  m_Station_look : MtT K C "look" "Station.look" s_Station_look
  m_Station_listed : MtT K C "listed" "Station.listed" s_Station_listed
theorem txc_Station_mk {K : PySem.W.Frag} {h : Heap} {mg : Str → Option Value} (X : K.In h) (G : h.Ns mainGlobals mg) {C : Addr} {oc0 : Value} {od0 an0 : Option Addr} {osl0 : Array (Option Value)} {kV0 doc0 pm0 cdv0 ct0 : Value} {f0 : Addr} {oc1 : Value} {od1 an1 : Option Addr} {osl1 : Array (Option Value)} {kV1 doc1 pm1 cdv1 ct1 : Value} {f1 : Addr} {oc2 : Value} {od2 an2 : Option Addr} {osl2 : Array (Option Value)} {kV2 doc2 pm2 cdv2 ct2 : Value} {f2 : Addr} {oc3 : Value} {od3 an3 : Option Addr} {osl3 : Array (Option Value)} {kV3 doc3 pm3 cdv3 ct3 : Value} {f3 : Addr} {oc4 : Value} {od4 an4 : Option Addr} {osl4 : Array (Option Value)} {kV4 doc4 pm4 cdv4 ct4 : Value} {f4 : Addr} {oc5 : Value} {od5 an5 : Option Addr} {osl5 : Array (Option Value)} {kV5 doc5 pm5 cdv5 ct5 : Value} {f5 : Addr} {oc6 : Value} {od6 an6 : Option Addr} {osl6 : Array (Option Value)} {kV6 doc6 pm6 cdv6 ct6 : Value} {f6 : Addr} {oc7 : Value} {od7 an7 : Option Addr} {osl7 : Array (Option Value)} {kV7 doc7 pm7 cdv7 ct7 : Value} {f7 : Addr} {oc8 : Value} {od8 an8 : Option Addr} {osl8 : Array (Option Value)} {kV8 doc8 pm8 cdv8 ct8 : Value} {f8 : Addr} {oc9 : Value} {od9 an9 : Option Addr} {osl9 : Array (Option Value)} {kV9 doc9 pm9 cdv9 ct9 : Value} {f9 : Addr} {oc10 : Value} {od10 an10 : Option Addr} {osl10 : Array (Option Value)} {kV10 doc10 pm10 cdv10 ct10 : Value} {f10 : Addr} {oc11 : Value} {od11 an11 : Option Addr} {osl11 : Array (Option Value)} {kV11 doc11 pm11 cdv11 ct11 : Value} {f11 : Addr} {oc12 : Value} {od12 an12 : Option Addr} {osl12 : Array (Option Value)} {kV12 doc12 pm12 cdv12 ct12 : Value} {f12 : Addr}
    (ex : PySem.W.nsIn K mainGlobals "Station" = some (some (.ref C)))
    (pg : PySem.W.plainGet K C Str.empty = true) (hd : PySem.W.hasDictIn K C = true) (po : PySem.W.plainOver K C = true) (sa : PySem.W.findIn K (.ref C) "__setattr__" = some (some (.builtin "object.__setattr__"))) (mk : PySem.W.makesIn K C = true) (kc : PySem.W.keepIn K (.ref C) = true)
    (a_begun : PySem.W.findIn K (.ref C) "begun" = some none)
    (a_began : PySem.W.findIn K (.ref C) "began" = some none)
    (a_now : PySem.W.findIn K (.ref C) "now" = some none)
    (a_cause : PySem.W.findIn K (.ref C) "cause" = some none)
    (a_known : PySem.W.findIn K (.ref C) "known" = some none)
    (a_doubt : PySem.W.findIn K (.ref C) "doubt" = some none)
    (a_before : PySem.W.findIn K (.ref C) "before" = some none)
    (a_kept : PySem.W.findIn K (.ref C) "kept" = some none)
    (a_tasks : PySem.W.findIn K (.ref C) "tasks" = some none)
    (g0 : PySem.W.findIn K (.ref C) "__init__" = some (some (.ref f0))) (i0 : PySem.W.isFn K (.ref f0) = true) (l0 : K.lookup f0 = some ⟨oc0, od0, .func (PySem.W.fnOf "__init__" "Station.__init__" (defArgs s_Station_init) (defBody s_Station_init) (defScope s_Station_init) .none kV0 doc0 pm0 an0 cdv0 ct0), osl0⟩) (c0 : PySem.W.codeIn K cdv0 "Station.__init__" = true) (q0 : PySem.W.keepIn K (.ref f0) = true)
    (g1 : PySem.W.findIn K (.ref C) "begin" = some (some (.ref f1))) (i1 : PySem.W.isFn K (.ref f1) = true) (l1 : K.lookup f1 = some ⟨oc1, od1, .func (PySem.W.fnOf "begin" "Station.begin" (defArgs s_Station_begin) (defBody s_Station_begin) (defScope s_Station_begin) .none kV1 doc1 pm1 an1 cdv1 ct1), osl1⟩) (c1 : PySem.W.codeIn K cdv1 "Station.begin" = true) (q1 : PySem.W.keepIn K (.ref f1) = true)
    (g2 : PySem.W.findIn K (.ref C) "add_task" = some (some (.ref f2))) (i2 : PySem.W.isFn K (.ref f2) = true) (l2 : K.lookup f2 = some ⟨oc2, od2, .func (PySem.W.fnOf "add_task" "Station.add_task" (defArgs s_Station_add_task) (defBody s_Station_add_task) (defScope s_Station_add_task) .none kV2 doc2 pm2 an2 cdv2 ct2), osl2⟩) (c2 : PySem.W.codeIn K cdv2 "Station.add_task" = true) (q2 : PySem.W.keepIn K (.ref f2) = true)
    (g3 : PySem.W.findIn K (.ref C) "report" = some (some (.ref f3))) (i3 : PySem.W.isFn K (.ref f3) = true) (l3 : K.lookup f3 = some ⟨oc3, od3, .func (PySem.W.fnOf "report" "Station.report" (defArgs s_Station_report) (defBody s_Station_report) (defScope s_Station_report) .none kV3 doc3 pm3 an3 cdv3 ct3), osl3⟩) (c3 : PySem.W.codeIn K cdv3 "Station.report" = true) (q3 : PySem.W.keepIn K (.ref f3) = true)
    (g4 : PySem.W.findIn K (.ref C) "ask" = some (some (.ref f4))) (i4 : PySem.W.isFn K (.ref f4) = true) (l4 : K.lookup f4 = some ⟨oc4, od4, .func (PySem.W.fnOf "ask" "Station.ask" (defArgs s_Station_ask) (defBody s_Station_ask) (defScope s_Station_ask) .none kV4 doc4 pm4 an4 cdv4 ct4), osl4⟩) (c4 : PySem.W.codeIn K cdv4 "Station.ask" = true) (q4 : PySem.W.keepIn K (.ref f4) = true)
    (g5 : PySem.W.findIn K (.ref C) "halt" = some (some (.ref f5))) (i5 : PySem.W.isFn K (.ref f5) = true) (l5 : K.lookup f5 = some ⟨oc5, od5, .func (PySem.W.fnOf "halt" "Station.halt" (defArgs s_Station_halt) (defBody s_Station_halt) (defScope s_Station_halt) .none kV5 doc5 pm5 an5 cdv5 ct5), osl5⟩) (c5 : PySem.W.codeIn K cdv5 "Station.halt" = true) (q5 : PySem.W.keepIn K (.ref f5) = true)
    (g6 : PySem.W.findIn K (.ref C) "tick" = some (some (.ref f6))) (i6 : PySem.W.isFn K (.ref f6) = true) (l6 : K.lookup f6 = some ⟨oc6, od6, .func (PySem.W.fnOf "tick" "Station.tick" (defArgs s_Station_tick) (defBody s_Station_tick) (defScope s_Station_tick) .none kV6 doc6 pm6 an6 cdv6 ct6), osl6⟩) (c6 : PySem.W.codeIn K cdv6 "Station.tick" = true) (q6 : PySem.W.keepIn K (.ref f6) = true)
    (g7 : PySem.W.findIn K (.ref C) "look_at_task" = some (some (.ref f7))) (i7 : PySem.W.isFn K (.ref f7) = true) (l7 : K.lookup f7 = some ⟨oc7, od7, .func (PySem.W.fnOf "look_at_task" "Station.look_at_task" (defArgs s_Station_look_at_task) (defBody s_Station_look_at_task) (defScope s_Station_look_at_task) .none kV7 doc7 pm7 an7 cdv7 ct7), osl7⟩) (c7 : PySem.W.codeIn K cdv7 "Station.look_at_task" = true) (q7 : PySem.W.keepIn K (.ref f7) = true)
    (g8 : PySem.W.findIn K (.ref C) "all_well_for_long" = some (some (.ref f8))) (i8 : PySem.W.isFn K (.ref f8) = true) (l8 : K.lookup f8 = some ⟨oc8, od8, .func (PySem.W.fnOf "all_well_for_long" "Station.all_well_for_long" (defArgs s_Station_all_well_for_long) (defBody s_Station_all_well_for_long) (defScope s_Station_all_well_for_long) .none kV8 doc8 pm8 an8 cdv8 ct8), osl8⟩) (c8 : PySem.W.codeIn K cdv8 "Station.all_well_for_long" = true) (q8 : PySem.W.keepIn K (.ref f8) = true)
    (g9 : PySem.W.findIn K (.ref C) "runs" = some (some (.ref f9))) (i9 : PySem.W.isFn K (.ref f9) = true) (l9 : K.lookup f9 = some ⟨oc9, od9, .func (PySem.W.fnOf "runs" "Station.runs" (defArgs s_Station_runs) (defBody s_Station_runs) (defScope s_Station_runs) .none kV9 doc9 pm9 an9 cdv9 ct9), osl9⟩) (c9 : PySem.W.codeIn K cdv9 "Station.runs" = true) (q9 : PySem.W.keepIn K (.ref f9) = true)
    (g10 : PySem.W.findIn K (.ref C) "said" = some (some (.ref f10))) (i10 : PySem.W.isFn K (.ref f10) = true) (l10 : K.lookup f10 = some ⟨oc10, od10, .func (PySem.W.fnOf "said" "Station.said" (defArgs s_Station_said) (defBody s_Station_said) (defScope s_Station_said) .none kV10 doc10 pm10 an10 cdv10 ct10), osl10⟩) (c10 : PySem.W.codeIn K cdv10 "Station.said" = true) (q10 : PySem.W.keepIn K (.ref f10) = true)
    (g11 : PySem.W.findIn K (.ref C) "look" = some (some (.ref f11))) (i11 : PySem.W.isFn K (.ref f11) = true) (l11 : K.lookup f11 = some ⟨oc11, od11, .func (PySem.W.fnOf "look" "Station.look" (defArgs s_Station_look) (defBody s_Station_look) (defScope s_Station_look) .none kV11 doc11 pm11 an11 cdv11 ct11), osl11⟩) (c11 : PySem.W.codeIn K cdv11 "Station.look" = true) (q11 : PySem.W.keepIn K (.ref f11) = true)
    (g12 : PySem.W.findIn K (.ref C) "listed" = some (some (.ref f12))) (i12 : PySem.W.isFn K (.ref f12) = true) (l12 : K.lookup f12 = some ⟨oc12, od12, .func (PySem.W.fnOf "listed" "Station.listed" (defArgs s_Station_listed) (defBody s_Station_listed) (defScope s_Station_listed) .none kV12 doc12 pm12 an12 cdv12 ct12), osl12⟩) (c12 : PySem.W.codeIn K cdv12 "Station.listed" = true) (q12 : PySem.W.keepIn K (.ref f12) = true) :
    ∃ C, Txc_Station K mg C := ⟨C, ⟨pg, hd, po, sa⟩, a_begun, a_began, a_now, a_cause, a_known, a_doubt, a_before, a_kept, a_tasks, ⟨f0, _, ⟨mk, g0, i0, kc⟩, PySem.W.mg_of X G ex, fun_mk l0 c0 q0⟩, ⟨f1, _, ⟨g1, i1, q1⟩, fun_mk l1 c1 q1⟩, ⟨f2, _, ⟨g2, i2, q2⟩, fun_mk l2 c2 q2⟩, ⟨f3, _, ⟨g3, i3, q3⟩, fun_mk l3 c3 q3⟩, ⟨f4, _, ⟨g4, i4, q4⟩, fun_mk l4 c4 q4⟩, ⟨f5, _, ⟨g5, i5, q5⟩, fun_mk l5 c5 q5⟩, ⟨f6, _, ⟨g6, i6, q6⟩, fun_mk l6 c6 q6⟩, ⟨f7, _, ⟨g7, i7, q7⟩, fun_mk l7 c7 q7⟩, ⟨f8, _, ⟨g8, i8, q8⟩, fun_mk l8 c8 q8⟩, ⟨f9, _, ⟨g9, i9, q9⟩, fun_mk l9 c9 q9⟩, ⟨f10, _, ⟨g10, i10, q10⟩, fun_mk l10 c10 q10⟩, ⟨f11, _, ⟨g11, i11, q11⟩, fun_mk l11 c11 q11⟩, ⟨f12, _, ⟨g12, i12, q12⟩, fun_mk l12 c12 q12⟩⟩
/-- the classes' places -/
structure Ad where
  Kept : Addr
  Call : Addr
  Task : Addr
  Station : Addr
structure Txt (K : PySem.W.Frag) (mg : Str → Option Value) (a : Ad) : Prop extends Txc_Kept K mg a.Kept, Txc_Call K mg a.Call, Txc_Task K mg a.Task, Txc_Station K mg a.Station where
  c_BLOCK_SIZE : Cn mg "BLOCK_SIZE" (49)
  c_SUMMED_SIZE : Cn mg "SUMMED_SIZE" (45)
  c_FIRST_BYTE : Cn mg "FIRST_BYTE" (87)
  c_SECOND_BYTE : Cn mg "SECOND_BYTE" (1)
  c_STARTS_AT : Cn mg "STARTS_AT" (2)
  c_QUICK_AT : Cn mg "QUICK_AT" (18)
  c_DOOMED_AT : Cn mg "DOOMED_AT" (19)
  c_CRUMB_COUNT_AT : Cn mg "CRUMB_COUNT_AT" (20)
  c_CRUMBS_AT : Cn mg "CRUMBS_AT" (21)
  c_CRUMB_SIZE : Cn mg "CRUMB_SIZE" (3)
  c_PLACE_SIZE : Cn mg "PLACE_SIZE" (2)
  c_START_SIZE : Cn mg "START_SIZE" (4)
  c_SUM_SIZE : Cn mg "SUM_SIZE" (4)
  c_CAUSES : Cn mg "CAUSES" (4)
  c_MOST_CRUMBS : Cn mg "MOST_CRUMBS" (8)
  c_MOST_DOOMED : Cn mg "MOST_DOOMED" (16)
  c_MOST_TASK : Cn mg "MOST_TASK" (15)
  c_MOST_STARTS : Cn mg "MOST_STARTS" (4294967295)
  c_MOST_QUICK : Cn mg "MOST_QUICK" (255)
  c_BY_THE_WATCH : Cn mg "BY_THE_WATCH" (1)
  c_ALL_ONES : Cn mg "ALL_ONES" (4294967295)
  c_POLYNOMIAL : Cn mg "POLYNOMIAL" (2197175160)
  c_BEGIN : Cn mg "BEGIN" (0)
  c_TASK : Cn mg "TASK" (1)
  c_REPORT : Cn mg "REPORT" (2)
  c_TICK : Cn mg "TICK" (3)
  c_ASK : Cn mg "ASK" (4)
  c_HALT : Cn mg "HALT" (5)
  c_KEEP : Cn mg "KEEP" (6)
  c_SAID : Cn mg "SAID" (7)
  c_LOOK : Cn mg "LOOK" (8)
  c_LIST : Cn mg "LIST" (9)
  c_WAITS : Cn mg "WAITS" (0)
  c_RUNS : Cn mg "RUNS" (1)
  c_STANDS : Cn mg "STANDS" (2)
  c_NOTED : Cn mg "NOTED" (0)
  c_STARTED_AGAIN : Cn mg "STARTED_AGAIN" (1)
  c_START : Cn mg "START" (0)
  c_STOP : Cn mg "STOP" (1)
  c_NOTE : Cn mg "NOTE" (2)
  c_ANEW : Cn mg "ANEW" (3)
  c_FEED : Cn mg "FEED" (4)
  c_GIVE_UP : Cn mg "GIVE_UP" (5)
  c_MOST_WAITS : Cn mg "MOST_WAITS" (64)
  c_OUT_OF_RANGE : Cn mg "OUT_OF_RANGE" (-1)
  c_NO_SUCH_TASK : Cn mg "NO_SUCH_TASK" (-2)
  c_NOT_NOW : Cn mg "NOT_NOW" (-4)
  c_QUICK_IN_DOUBT : Cn mg "QUICK_IN_DOUBT" (3)
  c_CALM_AFTER : Cn mg "CALM_AFTER" (600000000)
  b_len : mg "len" = none
  b_range : mg "range" = none
  b_min : mg "min" = none
  b_any : mg "any" = none
  b_reversed : mg "reversed" = none
  b_sorted : mg "sorted" = none
  b_list : mg "list" = none
  b_enumerate : mg "enumerate" = none
  f_nothing_kept : FnT K mg "nothing_kept" s_nothing_kept
  f_kept_from : FnT K mg "kept_from" s_kept_from
  f_checksum : FnT K mg "checksum" s_checksum
  f_number_from : FnT K mg "number_from" s_number_from
  f_octets_from : FnT K mg "octets_from" s_octets_from
  f_crumbs_end : FnT K mg "crumbs_end" s_crumbs_end
  f_crumbs_fit : FnT K mg "crumbs_fit" s_crumbs_fit
  f_is_block : FnT K mg "is_block" s_is_block
  f_read_block : FnT K mg "read_block" s_read_block
  f_write_block : FnT K mg "write_block" s_write_block
  f_read_call : FnT K mg "read_call" s_read_call
  f_size_of : FnT K mg "size_of" s_size_of
  f_split_calls : FnT K mg "split_calls" s_split_calls
  f_in_ranges : FnT K mg "in_ranges" s_in_ranges
  f_task_from : FnT K mg "task_from" s_task_from
  f_told : FnT K mg "told" s_told
  f_refused_by_promise : FnT K mg "refused_by_promise" s_refused_by_promise
  f_refusal_of : FnT K mg "refusal_of" s_refusal_of
  f_act : FnT K mg "act" s_act
  f_tell : FnT K mg "tell" s_tell
  f_carry_out : FnT K mg "carry_out" s_carry_out
  f_answer_to : FnT K mg "answer_to" s_answer_to
  f_answers : FnT K mg "answers" s_answers
/-- the names of each call's numbers -/
def NM : List (Int × List Str) := [(0, ["cause", "now"]), (1, ["k", "limit", "rank", "most", "span", "first", "main", "now"]), (2, ["k", "place", "now"]), (3, ["now"]), (4, ["k", "now"]), (5, ["k", "now"]), (6, []), (7, []), (8, ["k"]), (9, [])]
/-- the range of each name -/
def RM : List (Str × Int × Int) := [("cause", 0, 3), ("now", 0, 4611686018427387904), ("k", 0, 15), ("limit", 1, 86400000000), ("rank", 0, 2), ("most", 1, 16), ("span", 1, 86400000000), ("first", 1, 3600000000), ("main", 0, 1), ("place", 0, 65535)]
structure Tbl (P : Program) (w : World) (K : PySem.W.Frag) (mg : Str → Option Value) : Prop where
  nm : ∃ x kvs, mg "NAMES" = some (.ref x) ∧ KDict P w K x kvs ∧ ∀ p ns, (p, ns) ∈ NM → ∃ b, valV kvs (Sum.inl p) = some (.ref b) ∧ ∀ H : Hp, SqT K H b (ns.map V.str)
  rm : ∃ x kvs, mg "RANGES" = some (.ref x) ∧ KDict P w K x kvs ∧ ∀ n lo hi, (n, lo, hi) ∈ RM → ∃ b, valV kvs (Sum.inr n) = some (.ref b) ∧ ∀ H : Hp, SqT K H b [.int lo, .int hi]
theorem tup_mk {K : PySem.W.Frag} {b : Addr} {od : Option Addr} {osl : Array (Option Value)} {its : Array Value} {n : Nat} {xs : List V} (l : K.lookup b = some ⟨.type "tuple", od, .seq its n, osl⟩) (hz : its.size ≤ sizeLine) (r : Vals xs its.toList) : ∀ H : Hp, SqT K H b xs :=
  fun H => .inr ⟨_, its, n, l, rfl, rfl, hz, r⟩
theorem d_NAMES_mk {P : Program} {w : World} {K : PySem.W.Frag} {h : Heap} {mg : Str → Option Value} (X : K.In h) (G : h.Ns mainGlobals mg) {x : Addr} {ep : Nat} {t0 : Tok} {b0 : Addr} {od0 : Option Addr} {sl0 : Array (Option Value)} {n0 : Nat} {u0_0 : Tok} {u0_1 : Tok} {t1 : Tok} {b1 : Addr} {od1 : Option Addr} {sl1 : Array (Option Value)} {n1 : Nat} {u1_0 : Tok} {u1_1 : Tok} {u1_2 : Tok} {u1_3 : Tok} {u1_4 : Tok} {u1_5 : Tok} {u1_6 : Tok} {u1_7 : Tok} {t2 : Tok} {b2 : Addr} {od2 : Option Addr} {sl2 : Array (Option Value)} {n2 : Nat} {u2_0 : Tok} {u2_1 : Tok} {u2_2 : Tok} {t3 : Tok} {b3 : Addr} {od3 : Option Addr} {sl3 : Array (Option Value)} {n3 : Nat} {u3_0 : Tok} {t4 : Tok} {b4 : Addr} {od4 : Option Addr} {sl4 : Array (Option Value)} {n4 : Nat} {u4_0 : Tok} {u4_1 : Tok} {t5 : Tok} {b5 : Addr} {od5 : Option Addr} {sl5 : Array (Option Value)} {n5 : Nat} {u5_0 : Tok} {u5_1 : Tok} {t6 : Tok} {b6 : Addr} {od6 : Option Addr} {sl6 : Array (Option Value)} {n6 : Nat}  {t7 : Tok} {b7 : Addr} {od7 : Option Addr} {sl7 : Array (Option Value)} {n7 : Nat}  {t8 : Tok} {b8 : Addr} {od8 : Option Addr} {sl8 : Array (Option Value)} {n8 : Nat} {u8_0 : Tok} {t9 : Tok} {b9 : Addr} {od9 : Option Addr} {sl9 : Array (Option Value)} {n9 : Nat} 
    (e : PySem.W.nsIn K mainGlobals "NAMES" = some (some (.ref x)))
    (l : K.lookup x = some ⟨.type "dict", none, .dict #[⟨0, .int 0 t0, .ref b0⟩, ⟨1, .int 1 t1, .ref b1⟩, ⟨2, .int 2 t2, .ref b2⟩, ⟨3, .int 3 t3, .ref b3⟩, ⟨4, .int 4 t4, .ref b4⟩, ⟨5, .int 5 t5, .ref b5⟩, ⟨6, .int 6 t6, .ref b6⟩, ⟨7, .int 7 t7, .ref b7⟩, ⟨8, .int 8 t8, .ref b8⟩, ⟨9, .int 9 t9, .ref b9⟩] ep, #[]⟩)
    (l0 : K.lookup b0 = some ⟨.type "tuple", od0, .seq #[.str "cause" u0_0, .str "now" u0_1] n0, sl0⟩)
    (l1 : K.lookup b1 = some ⟨.type "tuple", od1, .seq #[.str "k" u1_0, .str "limit" u1_1, .str "rank" u1_2, .str "most" u1_3, .str "span" u1_4, .str "first" u1_5, .str "main" u1_6, .str "now" u1_7] n1, sl1⟩)
    (l2 : K.lookup b2 = some ⟨.type "tuple", od2, .seq #[.str "k" u2_0, .str "place" u2_1, .str "now" u2_2] n2, sl2⟩)
    (l3 : K.lookup b3 = some ⟨.type "tuple", od3, .seq #[.str "now" u3_0] n3, sl3⟩)
    (l4 : K.lookup b4 = some ⟨.type "tuple", od4, .seq #[.str "k" u4_0, .str "now" u4_1] n4, sl4⟩)
    (l5 : K.lookup b5 = some ⟨.type "tuple", od5, .seq #[.str "k" u5_0, .str "now" u5_1] n5, sl5⟩)
    (l6 : K.lookup b6 = some ⟨.type "tuple", od6, .seq #[] n6, sl6⟩)
    (l7 : K.lookup b7 = some ⟨.type "tuple", od7, .seq #[] n7, sl7⟩)
    (l8 : K.lookup b8 = some ⟨.type "tuple", od8, .seq #[.str "k" u8_0] n8, sl8⟩)
    (l9 : K.lookup b9 = some ⟨.type "tuple", od9, .seq #[] n9, sl9⟩) :
    ∃ x kvs, mg "NAMES" = some (.ref x) ∧ KDict P w K x kvs ∧ ∀ p ns, (p, ns) ∈ NM → ∃ b, valV kvs (Sum.inl p) = some (.ref b) ∧ ∀ H : Hp, SqT K H b (ns.map V.str) := by
  refine ⟨x, [(Sum.inl 0, V.ref b0), (Sum.inl 1, V.ref b1), (Sum.inl 2, V.ref b2), (Sum.inl 3, V.ref b3), (Sum.inl 4, V.ref b4), (Sum.inl 5, V.ref b5), (Sum.inl 6, V.ref b6), (Sum.inl 7, V.ref b7), (Sum.inl 8, V.ref b8), (Sum.inl 9, V.ref b9)], PySem.W.mg_of X G e, ⟨[(Sum.inl 0, Value.ref b0), (Sum.inl 1, Value.ref b1), (Sum.inl 2, Value.ref b2), (Sum.inl 3, Value.ref b3), (Sum.inl 4, Value.ref b4), (Sum.inl 5, Value.ref b5), (Sum.inl 6, Value.ref b6), (Sum.inl 7, Value.ref b7), (Sum.inl 8, Value.ref b8), (Sum.inl 9, Value.ref b9)], _, _, _, .cons ⟨rfl, rfl⟩ (.cons ⟨rfl, rfl⟩ (.cons ⟨rfl, rfl⟩ (.cons ⟨rfl, rfl⟩ (.cons ⟨rfl, rfl⟩ (.cons ⟨rfl, rfl⟩ (.cons ⟨rfl, rfl⟩ (.cons ⟨rfl, rfl⟩ (.cons ⟨rfl, rfl⟩ (.cons ⟨rfl, rfl⟩ (.nil)))))))))), l, ⟨rfl, rfl, rfl⟩, rfl, fun en hen => ?_, .cons rfl rfl (.cons rfl rfl (.cons rfl rfl (.cons rfl rfl (.cons rfl rfl (.cons rfl rfl (.cons rfl rfl (.cons rfl rfl (.cons rfl rfl (.cons rfl rfl (.nil)))))))))), (by show ([Sum.inl 0, Sum.inl 1, Sum.inl 2, Sum.inl 3, Sum.inl 4, Sum.inl 5, Sum.inl 6, Sum.inl 7, Sum.inl 8, Sum.inl 9] : List Key).Nodup; decide +kernel)⟩, fun p ns hm => ?_⟩
  · simp only [List.mem_toArray, List.mem_cons, List.not_mem_nil, or_false] at hen
    rcases hen with rfl | rfl | rfl | rfl | rfl | rfl | rfl | rfl | rfl | rfl
    · exact ⟨Sum.inl 0, rfl, rfl⟩
    · exact ⟨Sum.inl 1, rfl, rfl⟩
    · exact ⟨Sum.inl 2, rfl, rfl⟩
    · exact ⟨Sum.inl 3, rfl, rfl⟩
    · exact ⟨Sum.inl 4, rfl, rfl⟩
    · exact ⟨Sum.inl 5, rfl, rfl⟩
    · exact ⟨Sum.inl 6, rfl, rfl⟩
    · exact ⟨Sum.inl 7, rfl, rfl⟩
    · exact ⟨Sum.inl 8, rfl, rfl⟩
    · exact ⟨Sum.inl 9, rfl, rfl⟩
  · unfold NM at hm
    simp only [List.mem_cons, List.not_mem_nil, or_false, Prod.mk.injEq] at hm
    rcases hm with ⟨rfl, rfl⟩ | ⟨rfl, rfl⟩ | ⟨rfl, rfl⟩ | ⟨rfl, rfl⟩ | ⟨rfl, rfl⟩ | ⟨rfl, rfl⟩ | ⟨rfl, rfl⟩ | ⟨rfl, rfl⟩ | ⟨rfl, rfl⟩ | ⟨rfl, rfl⟩
    · exact ⟨b0, rfl, tup_mk l0 (by show 2 ≤ sizeLine; decide) (.cons ⟨_, rfl⟩ (.cons ⟨_, rfl⟩ (.nil)))⟩
    · exact ⟨b1, rfl, tup_mk l1 (by show 8 ≤ sizeLine; decide) (.cons ⟨_, rfl⟩ (.cons ⟨_, rfl⟩ (.cons ⟨_, rfl⟩ (.cons ⟨_, rfl⟩ (.cons ⟨_, rfl⟩ (.cons ⟨_, rfl⟩ (.cons ⟨_, rfl⟩ (.cons ⟨_, rfl⟩ (.nil)))))))))⟩
    · exact ⟨b2, rfl, tup_mk l2 (by show 3 ≤ sizeLine; decide) (.cons ⟨_, rfl⟩ (.cons ⟨_, rfl⟩ (.cons ⟨_, rfl⟩ (.nil))))⟩
    · exact ⟨b3, rfl, tup_mk l3 (by show 1 ≤ sizeLine; decide) (.cons ⟨_, rfl⟩ (.nil))⟩
    · exact ⟨b4, rfl, tup_mk l4 (by show 2 ≤ sizeLine; decide) (.cons ⟨_, rfl⟩ (.cons ⟨_, rfl⟩ (.nil)))⟩
    · exact ⟨b5, rfl, tup_mk l5 (by show 2 ≤ sizeLine; decide) (.cons ⟨_, rfl⟩ (.cons ⟨_, rfl⟩ (.nil)))⟩
    · exact ⟨b6, rfl, tup_mk l6 (by show 0 ≤ sizeLine; decide) (.nil)⟩
    · exact ⟨b7, rfl, tup_mk l7 (by show 0 ≤ sizeLine; decide) (.nil)⟩
    · exact ⟨b8, rfl, tup_mk l8 (by show 1 ≤ sizeLine; decide) (.cons ⟨_, rfl⟩ (.nil))⟩
    · exact ⟨b9, rfl, tup_mk l9 (by show 0 ≤ sizeLine; decide) (.nil)⟩
theorem d_RANGES_mk {P : Program} {w : World} {K : PySem.W.Frag} {h : Heap} {mg : Str → Option Value} (X : K.In h) (G : h.Ns mainGlobals mg) {x : Addr} {ep : Nat} {t0 : Tok} {b0 : Addr} {od0 : Option Addr} {sl0 : Array (Option Value)} {n0 : Nat} {u0_0 : Tok} {u0_1 : Tok} {t1 : Tok} {b1 : Addr} {od1 : Option Addr} {sl1 : Array (Option Value)} {n1 : Nat} {u1_0 : Tok} {u1_1 : Tok} {t2 : Tok} {b2 : Addr} {od2 : Option Addr} {sl2 : Array (Option Value)} {n2 : Nat} {u2_0 : Tok} {u2_1 : Tok} {t3 : Tok} {b3 : Addr} {od3 : Option Addr} {sl3 : Array (Option Value)} {n3 : Nat} {u3_0 : Tok} {u3_1 : Tok} {t4 : Tok} {b4 : Addr} {od4 : Option Addr} {sl4 : Array (Option Value)} {n4 : Nat} {u4_0 : Tok} {u4_1 : Tok} {t5 : Tok} {b5 : Addr} {od5 : Option Addr} {sl5 : Array (Option Value)} {n5 : Nat} {u5_0 : Tok} {u5_1 : Tok} {t6 : Tok} {b6 : Addr} {od6 : Option Addr} {sl6 : Array (Option Value)} {n6 : Nat} {u6_0 : Tok} {u6_1 : Tok} {t7 : Tok} {b7 : Addr} {od7 : Option Addr} {sl7 : Array (Option Value)} {n7 : Nat} {u7_0 : Tok} {u7_1 : Tok} {t8 : Tok} {b8 : Addr} {od8 : Option Addr} {sl8 : Array (Option Value)} {n8 : Nat} {u8_0 : Tok} {u8_1 : Tok} {t9 : Tok} {b9 : Addr} {od9 : Option Addr} {sl9 : Array (Option Value)} {n9 : Nat} {u9_0 : Tok} {u9_1 : Tok}
    (e : PySem.W.nsIn K mainGlobals "RANGES" = some (some (.ref x)))
    (l : K.lookup x = some ⟨.type "dict", none, .dict #[⟨PyData.keyHash w.params "cause", .str "cause" t0, .ref b0⟩, ⟨PyData.keyHash w.params "now", .str "now" t1, .ref b1⟩, ⟨PyData.keyHash w.params "k", .str "k" t2, .ref b2⟩, ⟨PyData.keyHash w.params "limit", .str "limit" t3, .ref b3⟩, ⟨PyData.keyHash w.params "rank", .str "rank" t4, .ref b4⟩, ⟨PyData.keyHash w.params "most", .str "most" t5, .ref b5⟩, ⟨PyData.keyHash w.params "span", .str "span" t6, .ref b6⟩, ⟨PyData.keyHash w.params "first", .str "first" t7, .ref b7⟩, ⟨PyData.keyHash w.params "main", .str "main" t8, .ref b8⟩, ⟨PyData.keyHash w.params "place", .str "place" t9, .ref b9⟩] ep, #[]⟩)
    (l0 : K.lookup b0 = some ⟨.type "tuple", od0, .seq #[.int (0) u0_0, .int (3) u0_1] n0, sl0⟩)
    (l1 : K.lookup b1 = some ⟨.type "tuple", od1, .seq #[.int (0) u1_0, .int (4611686018427387904) u1_1] n1, sl1⟩)
    (l2 : K.lookup b2 = some ⟨.type "tuple", od2, .seq #[.int (0) u2_0, .int (15) u2_1] n2, sl2⟩)
    (l3 : K.lookup b3 = some ⟨.type "tuple", od3, .seq #[.int (1) u3_0, .int (86400000000) u3_1] n3, sl3⟩)
    (l4 : K.lookup b4 = some ⟨.type "tuple", od4, .seq #[.int (0) u4_0, .int (2) u4_1] n4, sl4⟩)
    (l5 : K.lookup b5 = some ⟨.type "tuple", od5, .seq #[.int (1) u5_0, .int (16) u5_1] n5, sl5⟩)
    (l6 : K.lookup b6 = some ⟨.type "tuple", od6, .seq #[.int (1) u6_0, .int (86400000000) u6_1] n6, sl6⟩)
    (l7 : K.lookup b7 = some ⟨.type "tuple", od7, .seq #[.int (1) u7_0, .int (3600000000) u7_1] n7, sl7⟩)
    (l8 : K.lookup b8 = some ⟨.type "tuple", od8, .seq #[.int (0) u8_0, .int (1) u8_1] n8, sl8⟩)
    (l9 : K.lookup b9 = some ⟨.type "tuple", od9, .seq #[.int (0) u9_0, .int (65535) u9_1] n9, sl9⟩) :
    ∃ x kvs, mg "RANGES" = some (.ref x) ∧ KDict P w K x kvs ∧ ∀ n lo hi, (n, lo, hi) ∈ RM → ∃ b, valV kvs (Sum.inr n) = some (.ref b) ∧ ∀ H : Hp, SqT K H b [.int lo, .int hi] := by
  refine ⟨x, [(Sum.inr "cause", V.ref b0), (Sum.inr "now", V.ref b1), (Sum.inr "k", V.ref b2), (Sum.inr "limit", V.ref b3), (Sum.inr "rank", V.ref b4), (Sum.inr "most", V.ref b5), (Sum.inr "span", V.ref b6), (Sum.inr "first", V.ref b7), (Sum.inr "main", V.ref b8), (Sum.inr "place", V.ref b9)], PySem.W.mg_of X G e, ⟨[(Sum.inr "cause", Value.ref b0), (Sum.inr "now", Value.ref b1), (Sum.inr "k", Value.ref b2), (Sum.inr "limit", Value.ref b3), (Sum.inr "rank", Value.ref b4), (Sum.inr "most", Value.ref b5), (Sum.inr "span", Value.ref b6), (Sum.inr "first", Value.ref b7), (Sum.inr "main", Value.ref b8), (Sum.inr "place", Value.ref b9)], _, _, _, .cons ⟨rfl, rfl⟩ (.cons ⟨rfl, rfl⟩ (.cons ⟨rfl, rfl⟩ (.cons ⟨rfl, rfl⟩ (.cons ⟨rfl, rfl⟩ (.cons ⟨rfl, rfl⟩ (.cons ⟨rfl, rfl⟩ (.cons ⟨rfl, rfl⟩ (.cons ⟨rfl, rfl⟩ (.cons ⟨rfl, rfl⟩ (.nil)))))))))), l, ⟨rfl, rfl, rfl⟩, rfl, fun en hen => ?_, .cons rfl rfl (.cons rfl rfl (.cons rfl rfl (.cons rfl rfl (.cons rfl rfl (.cons rfl rfl (.cons rfl rfl (.cons rfl rfl (.cons rfl rfl (.cons rfl rfl (.nil)))))))))), (by show ([Sum.inr "cause", Sum.inr "now", Sum.inr "k", Sum.inr "limit", Sum.inr "rank", Sum.inr "most", Sum.inr "span", Sum.inr "first", Sum.inr "main", Sum.inr "place"] : List Key).Nodup; decide +kernel)⟩, fun n lo hi hm => ?_⟩
  · simp only [List.mem_toArray, List.mem_cons, List.not_mem_nil, or_false] at hen
    rcases hen with rfl | rfl | rfl | rfl | rfl | rfl | rfl | rfl | rfl | rfl
    · exact ⟨Sum.inr "cause", rfl, rfl⟩
    · exact ⟨Sum.inr "now", rfl, rfl⟩
    · exact ⟨Sum.inr "k", rfl, rfl⟩
    · exact ⟨Sum.inr "limit", rfl, rfl⟩
    · exact ⟨Sum.inr "rank", rfl, rfl⟩
    · exact ⟨Sum.inr "most", rfl, rfl⟩
    · exact ⟨Sum.inr "span", rfl, rfl⟩
    · exact ⟨Sum.inr "first", rfl, rfl⟩
    · exact ⟨Sum.inr "main", rfl, rfl⟩
    · exact ⟨Sum.inr "place", rfl, rfl⟩
  · unfold RM at hm
    simp only [List.mem_cons, List.not_mem_nil, or_false, Prod.mk.injEq] at hm
    rcases hm with ⟨rfl, rfl, rfl⟩ | ⟨rfl, rfl, rfl⟩ | ⟨rfl, rfl, rfl⟩ | ⟨rfl, rfl, rfl⟩ | ⟨rfl, rfl, rfl⟩ | ⟨rfl, rfl, rfl⟩ | ⟨rfl, rfl, rfl⟩ | ⟨rfl, rfl, rfl⟩ | ⟨rfl, rfl, rfl⟩ | ⟨rfl, rfl, rfl⟩
    · exact ⟨b0, rfl, tup_mk l0 (by show 2 ≤ sizeLine; decide) (.cons ⟨_, rfl⟩ (.cons ⟨_, rfl⟩ (.nil)))⟩
    · exact ⟨b1, rfl, tup_mk l1 (by show 2 ≤ sizeLine; decide) (.cons ⟨_, rfl⟩ (.cons ⟨_, rfl⟩ (.nil)))⟩
    · exact ⟨b2, rfl, tup_mk l2 (by show 2 ≤ sizeLine; decide) (.cons ⟨_, rfl⟩ (.cons ⟨_, rfl⟩ (.nil)))⟩
    · exact ⟨b3, rfl, tup_mk l3 (by show 2 ≤ sizeLine; decide) (.cons ⟨_, rfl⟩ (.cons ⟨_, rfl⟩ (.nil)))⟩
    · exact ⟨b4, rfl, tup_mk l4 (by show 2 ≤ sizeLine; decide) (.cons ⟨_, rfl⟩ (.cons ⟨_, rfl⟩ (.nil)))⟩
    · exact ⟨b5, rfl, tup_mk l5 (by show 2 ≤ sizeLine; decide) (.cons ⟨_, rfl⟩ (.cons ⟨_, rfl⟩ (.nil)))⟩
    · exact ⟨b6, rfl, tup_mk l6 (by show 2 ≤ sizeLine; decide) (.cons ⟨_, rfl⟩ (.cons ⟨_, rfl⟩ (.nil)))⟩
    · exact ⟨b7, rfl, tup_mk l7 (by show 2 ≤ sizeLine; decide) (.cons ⟨_, rfl⟩ (.cons ⟨_, rfl⟩ (.nil)))⟩
    · exact ⟨b8, rfl, tup_mk l8 (by show 2 ≤ sizeLine; decide) (.cons ⟨_, rfl⟩ (.cons ⟨_, rfl⟩ (.nil)))⟩
    · exact ⟨b9, rfl, tup_mk l9 (by show 2 ≤ sizeLine; decide) (.cons ⟨_, rfl⟩ (.cons ⟨_, rfl⟩ (.nil)))⟩
end Tw
end
section
set_option Elab.async false
set_option linter.all false
set_option maxRecDepth 100000
set_option maxHeartbeats 2000000
namespace Tw
open PySem PySem.Spec PyProof.Rows L2
/-! ### mathematics of a row -/
def numLE : List Nat → Nat
  | [] => 0
  | c :: r => numLE r * 256 + c
theorem at_nv {b : List Nat} {i : Nat} (h : i < b.length) : atI (nv b) (i : Int) = some (V.int ((b.getD i 0 : Nat) : Int)) := by
  refine atI_nat ?_
  rw [List.getElem?_map, List.getElem?_eq_getElem h, List.getD_eq_getElem?_getD, List.getElem?_eq_getElem h]
  rfl
theorem at_nvI {b : List Nat} {z : Int} {i : Nat} (e : z = (i : Int)) (h : i < b.length) : atI (nv b) z = some (V.int ((b.getD i 0 : Nat) : Int)) := by
  rw [e]; exact at_nv h
/-- how the crumbs of a row must be -/
def crumbsFit (b : List Nat) : Bool := if 8 < b.getD 20 0 then false else if ((List.range (b.getD 20 0)).any fun i => decide (15 < b.getD (21 + 3 * i) 0)) = true then false else
  !((b.drop (21 + 3 * b.getD 20 0)).take (45 - (21 + 3 * b.getD 20 0))).any (· != 0)
def isBlk (b : List Nat) : Bool := if b.length ≠ 49 then false else if b.getD 0 0 ≠ 87 ∨ b.getD 1 0 ≠ 1 then false else if 16 < b.getD 19 0 ∨ crumbsFit b = false then false else
  decide (numLE (b.drop 45) = Se05.crc (b.take 45))
theorem cut_nv {b : List Nat} {lo hi : Nat} (h1 : lo ≤ hi) (h2 : hi ≤ b.length) : cutV (nv b) (some (lo : Int)) (some (hi : Int)) = nv ((b.drop lo).take (hi - lo)) := by
  unfold cutV
  rw [HT.sIx_nat, HT.sIx_nat, List.length_map, Nat.min_eq_left h2, Nat.min_eq_left (Nat.le_trans h1 h2)]
  show _ = List.map _ _
  rw [List.map_take, List.map_drop]
theorem cut_nv_end {b : List Nat} {lo : Nat} (h1 : lo ≤ b.length) : cutV (nv b) (some (lo : Int)) none = nv (b.drop lo) := by
  unfold cutV
  rw [HT.sIx_nat, HT.sIx_none, List.length_map, Nat.min_eq_left h1]
  show _ = List.map _ _
  rw [List.map_drop]
  rw [List.take_of_length_le (by rw [List.length_drop, List.length_map]; exact Nat.le_refl _)]
theorem cut_nv_start {b : List Nat} {hi : Nat} (h2 : hi ≤ b.length) : cutV (nv b) none (some (hi : Int)) = nv (b.take hi) := by
  unfold cutV
  rw [HT.sIx_nat, HT.sIx_none, List.length_map, Nat.min_eq_left h2, Nat.sub_zero, List.drop_zero]
  show _ = List.map _ _
  rw [List.map_take]
theorem nv_ints (b : List Nat) : nv b = (b.map fun (n : Nat) => (n : Int)).map V.int := by rw [List.map_map]; rfl
theorem any_nv : ∀ b : List Nat, ((b.map fun (n : Nat) => (n : Int)).any (· != 0)) = b.any (· != 0)
  | [] => rfl
  | x :: r => by
    rw [List.map_cons, List.any_cons, List.any_cons, any_nv r]
    congr 1
    rcases Nat.eq_zero_or_pos x with h | h
    · subst h; rfl
    · have h1 : ((x : Int) != 0) = true := bne_iff_ne.mpr (by omega)
      have h2 : (x != 0) = true := bne_iff_ne.mpr (by omega)
      rw [h1, h2]
theorem range_m {m : Nat} (h : m ≤ 8) : RgC 21 (21 + 3 * (m : Int)) 3 m := by
  have q : m = 0 ∨ m = 1 ∨ m = 2 ∨ m = 3 ∨ m = 4 ∨ m = 5 ∨ m = 6 ∨ m = 7 ∨ m = 8 := by omega
  rcases q with rfl | rfl | rfl | rfl | rfl | rfl | rfl | rfl | rfl <;> exact ⟨by decide, by decide, by decide, by decide⟩
section
variable {P : Program} {w : World} {K : PySem.W.Frag} {mg : Str → Option Value} {base : Heap} {a : Ad}
abbrev spLen (vs : List V) (n : Nat) : Prop := vs.length = n
theorem ok_number_from (T : Txt K mg a) : Fn P w K mg base 1 "number_from" ["octets"] (spRow K (fun _ => True) fun b => .int (numLE b : Int)) := by
  refine Fn.mk T.f_number_from sc_number_from bd_number_from (fun vs H Q E h => by obtain ⟨a, b, rfl, _⟩ := h; rfl) (fun f cdv A outer s H vs Q E hr h => ?_)
  obtain ⟨a, b, rfl, hS, _, k⟩ := h
  have nd := sc_number_from.nd
  refine ⟨_, pss_cons (ps_set (i := 1) nd rfl (Or.inl rfl) pe_int)
    (pss_cons (ps_for PassesOwn.never rfl (pi_reversed rfl T.b_reversed (pa_cons (pv 0) pa_nil)) (pg_name (i := 2) nd rfl (Or.inl rfl))
      (pss_one (ps_set (i := 1) nd rfl (Or.inl rfl) (pe_op op_add (pe_op op_mul (pv 1) pe_int) (pv 2)))))
    (pss_one (ps_ret (pv 1)))), ?_⟩
  refine ⟨_, rfl, a, nv b, rfl, hS, for_gen (n := b.length) (fun i σ H' => Same H H' ∧ ∃ z : Int, z = (numLE (b.drop (b.length - i)) : Nat) ∧ ∃ v2 : Option V, σ = [some (.ref a), some (.int z), v2])
    ⟨Same.refl H, 0, (by rw [Nat.sub_zero, List.drop_length]; rfl), none, rfl⟩ ?_ ?_ ?_ ?_⟩
  · rintro i σ H' hi ⟨s5, _⟩
    have hl : (nv b).length = b.length := List.length_map ..
    refine ⟨by omega, nv b, V.int ((b[b.length - 1 - i]'(by omega) : Nat) : Int), s5.seq hS, ?_⟩
    rw [hl, List.getElem?_map, List.getElem?_eq_getElem (by omega)]
    rfl
  · rintro σ H' ⟨s5, _⟩
    show (nv b).length ≤ b.length
    rw [List.length_map]
    exact Nat.le_refl _
  · rintro i σ H' hi ⟨s5, z, hz, v2, rfl⟩ x H'' ⟨rfl, hx⟩
    have e := hx (nv b) (s5.seq hS)
    have hl : (nv b).length = b.length := List.length_map ..
    rw [hl] at e
    obtain ⟨c, hc, rfl⟩ := nv_get e
    refine ⟨_, rfl, _, _, rfl, rfl, .inr ⟨by decide, by decide⟩, _, rfl, _, _, rfl, rfl, ?_⟩
    refine ⟨s5, _, ?_, _, rfl⟩
    have hlt : b.length - 1 - i < b.length := by omega
    have e2 : b.drop (b.length - (i + 1)) = c :: b.drop (b.length - i) := by
      have e3 : b.length - (i + 1) = b.length - 1 - i := by omega
      rw [e3, List.drop_eq_getElem_cons hlt]
      have e4 : b.length - 1 - i + 1 = b.length - i := by omega
      rw [e4]
      have e5 := List.getElem?_eq_getElem hlt
      rw [hc] at e5
      rw [Option.some.inj e5]
    rw [e2, hz]
    show (numLE (b.drop (b.length - i)) : Int) * 256 + (c : Int) = ((numLE (b.drop (b.length - i)) * 256 + c : Nat) : Int)
    rw [Int.natCast_add, Int.natCast_mul]
    rfl
  · rintro σ H' ⟨s5, z, hz, v2, rfl⟩
    refine ⟨_, rfl, ?_⟩
    rw [Nat.sub_self, List.drop_zero] at hz
    subst hz
    exact k H' s5
theorem ok_crumbs_end (T : Txt K mg a) : Fn P w K mg base 1 "crumbs_end" ["octets"] (spRow K (fun b => 20 < b.length) fun b => .int (21 + 3 * (b.getD 20 0 : Nat) : Int)) := by
  refine Fn.mk T.f_crumbs_end sc_crumbs_end bd_crumbs_end (fun vs H Q E h => by obtain ⟨a, b, rfl, _⟩ := h; rfl) (fun f cdv A outer s H vs Q E hr h => ?_)
  obtain ⟨a, b, rfl, hS, hl, k⟩ := h
  refine ⟨_, pss_one (ps_ret (pe_op op_add (pe_cn T.c_CRUMBS_AT) (pe_op op_mul (pe_cn T.c_CRUMB_SIZE) (pe_ix ix_list (pv 0) (pe_cn T.c_CRUMB_COUNT_AT) (fun _ _ => rfl))))), ?_⟩
  exact ⟨_, rfl, a, _, _, _, rfl, rfl, hS, at_nv (i := 20) hl, _, _, rfl, rfl, .inl ⟨by decide, by decide⟩, _, _, rfl, rfl, k H (Same.refl H)⟩
theorem ok_crumbs_fit (T : Txt K mg a) : Fn P w K mg base 2 "crumbs_fit" ["octets"] (spRow K (fun b => b.length = 49) fun b => .bl (crumbsFit b)) := by
  refine Fn.mk T.f_crumbs_fit sc_crumbs_fit bd_crumbs_fit (fun vs H Q E h => by obtain ⟨a, b, rfl, _⟩ := h; rfl) (fun f cdv A outer s H vs Q E hr h => ?_)
  obtain ⟨p, b, rfl, hS, hl, k⟩ := h
  have nd := sc_crumbs_fit.nd
  refine ⟨_, pss_cons (ps_if (pt_cmpR op_gt (pe_ix ix_list (pv 0) (pe_cn T.c_CRUMB_COUNT_AT) (fun _ _ => rfl)) (pe_cn T.c_MOST_CRUMBS) (nomark _)) (pss_one (ps_ret pe_bl)) pss_nil)
    (pss_cons (ps_set (i := 1) nd rfl (Or.inl rfl) (pe_fn (ok_crumbs_end T) hr (pa_cons (pv 0) pa_nil)))
    (pss_cons (ps_for PassesOwn.never rfl (pi_range3 rfl T.b_range (pa_cons (pe_cn T.c_CRUMBS_AT) (pa_cons (pv 1) (pa_cons (pe_cn T.c_CRUMB_SIZE) pa_nil)))) (pg_name (i := 2) nd rfl (Or.inl rfl))
      (pss_one (ps_if (pt_cmpR op_gt (pe_ix ix_list (pv 0) (pv 2) (fun _ _ => rfl)) (pe_cn T.c_MOST_TASK) (nomark _)) (pss_one (ps_ret pe_bl)) pss_nil)))
    (pss_one (ps_ret (pe_not (pe_callB (cr_anyI rfl) rfl T.b_any PyProof.Rows.boot_any (pa_cons (pe_slice sl_list (pv 0) (po_some (pv 1)) (po_some (pe_cn T.c_SUMMED_SIZE))) pa_nil))))))), ?_⟩
  refine ⟨_, rfl, p, _, _, _, rfl, rfl, hS, at_nv (i := 20) (by omega), _, _, rfl, rfl, _, rfl, ite2 (fun h1 => ?_) (fun h1 => ?_)⟩
  · have h2 : 8 < b.getD 20 0 := by
      have := of_decide_eq_true h1
      omega
    have q : Q (.bl (crumbsFit b)) H := k H (Same.refl H)
    rw [show crumbsFit b = false from if_pos h2] at q
    exact q
  · have hm : ¬ 8 < b.getD 20 0 := fun q => h1 (decide_eq_true (by omega))
    refine ⟨_, rfl, p, b, rfl, hS, by omega, fun H1 s1 => ?_⟩
    refine ⟨_, rfl, _, _, _, b.getD 20 0, rfl, range_m (by omega), for_rangeC (fun i σ H' => Same H H' ∧ (∀ j, j < i → ¬ 15 < b.getD (21 + 3 * j) 0) ∧ ∃ v2 : Option V, σ = [some (.ref p), some (.int (21 + 3 * (b.getD 20 0 : Nat) : Int)), v2])
      ⟨s1, fun j hj => absurd hj (Nat.not_lt_zero j), none, rfl⟩ ?_ ?_⟩
    · rintro i σ H' hi ⟨s5, hall, v2, rfl⟩
      have hz : (21 : Int) + (i : Nat) * 3 = ((21 + 3 * i : Nat) : Int) := by omega
      refine ⟨_, rfl, _, rfl, p, _, _, _, rfl, rfl, s5.seq hS, at_nvI (i := 21 + 3 * i) hz (by omega), _, _, rfl, rfl, _, rfl, ite2 (fun h2 => ?_) (fun h2 => ?_)⟩
      · have h3 : 15 < b.getD (21 + 3 * i) 0 := by
          have := of_decide_eq_true h2
          omega
        have q : Q (.bl (crumbsFit b)) H' := k H' s5
        have e : crumbsFit b = false := by
          unfold crumbsFit
          rw [if_neg hm, if_pos (List.any_eq_true.mpr ⟨i, List.mem_range.mpr hi, decide_eq_true h3⟩)]
        rw [e] at q
        exact q
      · have h3 : ¬ 15 < b.getD (21 + 3 * i) 0 := fun q => h2 (decide_eq_true (by omega))
        refine ⟨s5, fun j hj => ?_, _, rfl⟩
        rcases Nat.lt_succ_iff_lt_or_eq.mp hj with hj | rfl
        · exact hall j hj
        · exact h3
    · rintro σ H' ⟨s5, hall, v2, rfl⟩
      have ec : cutV (nv b) (some (21 + 3 * (b.getD 20 0 : Nat) : Int)) (some (45 : Int)) = nv ((b.drop (21 + 3 * b.getD 20 0)).take (45 - (21 + 3 * b.getD 20 0))) := cut_nv (lo := 21 + 3 * b.getD 20 0) (hi := 45) (by omega) (by omega)
      refine ⟨_, rfl, _, rfl, _, rfl, _, rfl, p, nv b, rfl, s5.seq hS, fun l hl' => ?_⟩
      refine ⟨l, _, rfl, SqL.of (upd_same.trans (congrArg (fun z => some (HO.lst z)) (ec.trans (nv_ints _)))), _, rfl, ?_⟩
      have s6 : Same H (upd H' l (.lst (cutV (nv b) (some (21 + 3 * (b.getD 20 0 : Nat) : Int)) (some (45 : Int))))) := fun x o e => by
        rw [upd_ne (ne_of_none (s5 _ _ e) hl')]
        exact s5 _ _ e
      have q : Q (.bl (crumbsFit b)) _ := k _ s6
      have e : crumbsFit b = !((b.drop (21 + 3 * b.getD 20 0)).take (45 - (21 + 3 * b.getD 20 0))).any (· != 0) := by
        unfold crumbsFit
        rw [if_neg hm, if_neg (fun z => ?_)]
        obtain ⟨i, hi, h3⟩ := List.any_eq_true.mp z
        exact hall i (List.mem_range.mp hi) (of_decide_eq_true h3)
      rw [e, ← any_nv] at q
      exact q
theorem ok_is_block (T : Txt K mg a) : Fn P w K mg base 3 "is_block" ["octets"] (spRow K (fun _ => True) fun b => .bl (isBlk b)) := by
  refine Fn.mk T.f_is_block sc_is_block bd_is_block (fun vs H Q E h => by obtain ⟨a, b, rfl, _⟩ := h; rfl) (fun f cdv A outer s H vs Q E hr h => ?_)
  obtain ⟨p, b, rfl, hS, _, k⟩ := h
  have nd := sc_is_block.nd
  have hr1 : Room 1 _ := hr.mono (by decide)
  refine ⟨_, pss_cons (ps_if (pt_cmpR op_ne (pe_callB call_len_seq rfl T.b_len PySem.boot_len (pa_cons (pv 0) pa_nil)) (pe_cn T.c_BLOCK_SIZE) (nomark _)) (pss_one (ps_ret pe_bl)) pss_nil)
    (pss_cons (ps_if (PW.pt (pw_or (pt_cmpR op_ne (pe_ix ix_list (pv 0) pe_int (fun _ _ => rfl)) (pe_cn T.c_FIRST_BYTE) (nomark _)) (pw_or1 (pt_cmpR op_ne (pe_ix ix_list (pv 0) pe_int (fun _ _ => rfl)) (pe_cn T.c_SECOND_BYTE) (nomark _))))) (pss_one (ps_ret pe_bl)) pss_nil)
    (pss_cons (ps_if (PW.pt (pw_or (pt_cmpR op_gt (pe_ix ix_list (pv 0) (pe_cn T.c_DOOMED_AT) (fun _ _ => rfl)) (pe_cn T.c_MOST_DOOMED) (nomark _)) (pw_or1 (pt_not (pt_val (pe_fn (ok_crumbs_fit T) hr (pa_cons (pv 0) pa_nil))))))) (pss_one (ps_ret pe_bl)) pss_nil)
    (pss_one (ps_ret (pe_cmpR op_eq (pe_fn (ok_number_from T) hr1 (pa_cons (pe_slice sl_list (pv 0) (po_some (pe_cn T.c_SUMMED_SIZE)) po_none) pa_nil)) (pe_fn (ok_checksum T.f_checksum T.c_ALL_ONES T.c_POLYNOMIAL T.b_range) hr1 (pa_cons (pe_slice sl_list (pv 0) po_none (po_some (pe_cn T.c_SUMMED_SIZE))) pa_nil)) (nomark _)))))), ?_⟩
  have nope : ∀ H', Same H H' → isBlk b = false → Q (.bl false) H' := fun H' s' e => by
    have q : Q (.bl (isBlk b)) H' := k H' s'
    rw [e] at q
    exact q
  have hlen : (nv b).length = b.length := List.length_map ..
  refine ⟨_, rfl, p, nv b, rfl, .inl hS, rfl, _, rfl, ite2 (fun h1 => ?_) (fun h1 => ?_)⟩
  · refine nope H (Same.refl H) ?_
    unfold isBlk
    rw [if_pos]
    intro e
    rw [hlen, e] at h1
    exact absurd h1 (by decide)
  · have hl : b.length = 49 := by
      rcases Nat.decEq b.length 49 with e | e
      · exfalso
        apply h1
        show (!decide (V.int ((nv b).length : Int) = V.int 49)) = true
        rw [decide_eq_false (fun z => e (by have := V.int.inj z; rw [hlen] at this; omega))]
        rfl
      · exact e
    have t1 : ∀ x y : Nat, (!decide (V.int (x : Int) = V.int (y : Int))) = true ↔ x ≠ y := fun x y => by
      rw [Bool.not_eq_true', decide_eq_false_iff_not]
      exact ⟨fun h e => h (by rw [e]), fun h e => h (by have := V.int.inj e; omega)⟩
    refine ⟨_, rfl, p, _, _, _, rfl, rfl, hS, at_nv (i := 0) (by omega), rfl, _, rfl, ite2 (fun h2 => ?_) (fun h2 => ?_)⟩
    · refine iteT (nope H (Same.refl H) ?_)
      unfold isBlk
      rw [if_neg (by omega), if_pos (.inl ((t1 _ 87).mp h2))]
    · have g0 : b.getD 0 0 = 87 := by
        rcases Nat.decEq (b.getD 0 0) 87 with e | e
        · exact absurd ((t1 _ 87).mpr e) h2
        · exact e
      refine ⟨_, rfl, p, _, _, _, rfl, rfl, hS, at_nv (i := 1) (by omega), rfl, _, rfl, ite2 (fun h3 => ?_) (fun h3 => ?_)⟩
      · refine nope H (Same.refl H) ?_
        unfold isBlk
        rw [if_neg (by omega), if_pos (.inr ((t1 _ 1).mp h3))]
      · have g1 : b.getD 1 0 = 1 := by
          rcases Nat.decEq (b.getD 1 0) 1 with e | e
          · exact absurd ((t1 _ 1).mpr e) h3
          · exact e
        have n01 : ¬ (b.getD 0 0 ≠ 87 ∨ b.getD 1 0 ≠ 1) := by omega
        refine ⟨_, rfl, p, _, _, _, rfl, rfl, hS, at_nv (i := 19) (by omega), _, _, rfl, rfl, _, rfl, ite2 (fun h4 => ?_) (fun h4 => ?_)⟩
        · have h4' : 16 < b.getD 19 0 := by
            have := of_decide_eq_true h4
            omega
          refine iteT (nope H (Same.refl H) ?_)
          unfold isBlk
          rw [if_neg (by omega), if_neg n01, if_pos (.inl h4')]
        · have g19 : ¬ 16 < b.getD 19 0 := fun q => h4 (decide_eq_true (by omega))
          refine ⟨_, rfl, p, b, rfl, hS, hl, fun H1 s1 => ⟨_, rfl, ?_⟩⟩
          refine ite2 (fun h5 => ?_) (fun h5 => ?_)
          · have h5' : crumbsFit b = false := by
              cases e : crumbsFit b with
              | false => rfl
              | true => rw [e] at h5; exact absurd h5 (by decide)
            refine nope H1 s1 ?_
            unfold isBlk
            rw [if_neg (by omega), if_neg n01, if_pos (.inr h5')]
          · have g5 : ¬ (16 < b.getD 19 0 ∨ crumbsFit b = false) := by
              rintro (z | z)
              · exact g19 z
              · rw [z] at h5; exact h5 rfl
            have c1 : cutV (nv b) (some (45 : Int)) none = nv (b.drop 45) := cut_nv_end (lo := 45) (by omega)
            have c2 : cutV (nv b) none (some (45 : Int)) = nv (b.take 45) := cut_nv_start (hi := 45) (by omega)
            refine ⟨_, rfl, _, rfl, p, nv b, rfl, s1.seq hS, fun l1 hl1 => ?_⟩
            have s2 : Same H (upd H1 l1 (.lst (cutV (nv b) (some (45 : Int)) none))) := fun x o e => by
              rw [upd_ne (ne_of_none (s1 _ _ e) hl1)]
              exact s1 _ _ e
            refine ⟨l1, b.drop 45, rfl, SqL.of (upd_same.trans (congrArg (fun z => some (HO.lst z)) c1)), trivial, fun H2 s3 => ?_⟩
            have s4 := s2.trans s3
            refine ⟨_, rfl, _, rfl, p, nv b, rfl, s4.seq hS, fun l2 hl2 => ?_⟩
            have s5 : Same H (upd H2 l2 (.lst (cutV (nv b) none (some (45 : Int))))) := fun x o e => by
              rw [upd_ne (ne_of_none (s4 _ _ e) hl2)]
              exact s4 _ _ e
            refine ⟨l2, b.take 45, rfl, SqL.of (upd_same.trans (congrArg (fun z => some (HO.lst z)) c2)), trivial, fun H3 s6 => ?_⟩
            refine ⟨rfl, ?_⟩
            have q : Q (.bl (isBlk b)) H3 := k H3 (s5.trans s6)
            have e : isBlk b = decide (numLE (b.drop 45) = Se05.crc (b.take 45)) := by
              unfold isBlk
              rw [if_neg (by omega), if_neg n01, if_neg g5]
            rw [e] at q
            have e2 : decide (V.int (numLE (b.drop 45) : Int) = V.int (Se05.crc (b.take 45) : Int)) = decide (numLE (b.drop 45) = Se05.crc (b.take 45)) := by
              rw [decide_eq_decide]
              exact ⟨fun h => by have := V.int.inj h; omega, fun h => by rw [h]⟩
            show Q (.bl (decide (V.int (numLE (b.drop 45) : Int) = V.int (Se05.crc (b.take 45) : Int)))) H3
            rw [e2]
            exact q
end
end Tw
end
section
set_option Elab.async false
set_option linter.all false
set_option maxRecDepth 100000
set_option maxHeartbeats 2000000
namespace Tw
open PySem PySem.Spec PyProof.Rows L2
/-! ### a row is a block just if the checks say so -/
def sub (b : List Nat) (i n : Nat) : List Nat := (b.drop i).take n
theorem sub_zero (b : List Nat) (i : Nat) : sub b i 0 = [] := rfl
theorem sub_cons {b : List Nat} {i n : Nat} (h : i < b.length) : sub b i (n + 1) = b.getD i 0 :: sub b (i + 1) n := by
  unfold sub
  rw [List.drop_eq_getElem_cons h, List.take_succ_cons, List.getD_eq_getElem?_getD, List.getElem?_eq_getElem h]
  rfl
theorem sub_add (b : List Nat) : ∀ (m i n : Nat), i + m ≤ b.length → sub b i (m + n) = sub b i m ++ sub b (i + m) n
  | 0, i, n, _ => by rw [Nat.zero_add, sub_zero, Nat.add_zero]; rfl
  | m + 1, i, n, h => by
    have e : m + 1 + n = m + n + 1 := by omega
    rw [e, sub_cons (by omega), sub_cons (by omega), sub_add b m (i + 1) n (by omega)]
    have e2 : i + 1 + m = i + (m + 1) := by omega
    rw [e2]
    rfl
theorem sub_len {b : List Nat} {i n : Nat} (h : i + n ≤ b.length) : (sub b i n).length = n := by
  unfold sub
  rw [List.length_take, List.length_drop]
  omega
theorem getD_lt {b : List Nat} (hb : ∀ x ∈ b, x < 256) (i : Nat) : b.getD i 0 < 256 := by
  rw [List.getD_eq_getElem?_getD]
  cases e : b[i]? with
  | none => exact (by decide : (0 : Nat) < 256)
  | some x => exact hb x (List.mem_of_getElem? e)
theorem le4_num4 {b : List Nat} (hb : ∀ x ∈ b, x < 256) {i : Nat} (h : i + 4 ≤ b.length) : Se05.le4 (Se05.num4 b i) = sub b i 4 := by
  have h0 := getD_lt hb i
  have h1 := getD_lt hb (i + 1)
  have h2 := getD_lt hb (i + 2)
  have h3 := getD_lt hb (i + 3)
  rw [sub_cons (by omega), sub_cons (by omega), sub_cons (by omega), sub_cons (by omega), sub_zero]
  unfold Se05.le4 Se05.num4
  show [_, _, _, _] = [b.getD i 0, b.getD (i + 1) 0, b.getD (i + 2) 0, b.getD (i + 3) 0]
  generalize b.getD i 0 = x0 at *
  generalize b.getD (i + 1) 0 = x1 at *
  generalize b.getD (i + 2) 0 = x2 at *
  generalize b.getD (i + 3) 0 = x3 at *
  congr 1
  · omega
  · congr 1
    · omega
    · congr 1
      · omega
      · congr 1
        omega
theorem crumbs_bytes {b : List Nat} (hb : ∀ x ∈ b, x < 256) : ∀ n : Nat, 21 + 3 * n ≤ b.length →
    ((List.range n).map fun (i : Nat) => (⟨b.getD (21 + 3 * i) 0, b.getD (22 + 3 * i) 0 + 256 * b.getD (23 + 3 * i) 0⟩ : Se05.Crumb)).flatMap Se05.crumbBytes = sub b 21 (3 * n)
  | 0, _ => rfl
  | n + 1, h => by
    have e : 3 * (n + 1) = 3 * n + 3 := by omega
    rw [List.range_succ, List.map_append, List.flatMap_append, crumbs_bytes hb n (by omega), e, sub_add b (3 * n) 21 3 (by omega)]
    congr 1
    rw [sub_cons (by omega), sub_cons (by omega), sub_cons (by omega), sub_zero]
    have h1 := getD_lt hb (22 + 3 * n)
    have e1 : 21 + 3 * n + 1 = 22 + 3 * n := by omega
    have e2 : 22 + 3 * n + 1 = 23 + 3 * n := by omega
    rw [e1, e2]
    show [b.getD (21 + 3 * n) 0, (b.getD (22 + 3 * n) 0 + 256 * b.getD (23 + 3 * n) 0) % 256, (b.getD (22 + 3 * n) 0 + 256 * b.getD (23 + 3 * n) 0) / 256] = _
    generalize b.getD (22 + 3 * n) 0 = x1 at *
    generalize b.getD (23 + 3 * n) 0 = x2 at *
    congr 1
    congr 1
    · omega
    · congr 1
      omega
theorem told_body {b : List Nat} (hb : ∀ x ∈ b, x < 256) (hl : b.length = 49) (hn : b.getD 20 0 ≤ 8) :
    Se05.body (Se05.told b) = [87, 1] ++ (sub b 2 16 ++ ([b.getD 18 0, b.getD 19 0, b.getD 20 0] ++ (sub b 21 (3 * b.getD 20 0) ++ List.replicate (3 * (8 - b.getD 20 0)) 0))) := by
  unfold Se05.body Se05.told
  dsimp only
  rw [crumbs_bytes hb _ (by omega), List.length_map, List.length_range]
  have e : [Se05.num4 b 2, Se05.num4 b 6, Se05.num4 b 10, Se05.num4 b 14].flatMap Se05.le4 = sub b 2 16 := by
    rw [List.flatMap_cons, List.flatMap_cons, List.flatMap_cons, List.flatMap_cons, List.flatMap_nil, le4_num4 hb (by omega), le4_num4 hb (by omega), le4_num4 hb (by omega), le4_num4 hb (by omega)]
    rw [show (16 : Nat) = 4 + 12 from rfl, sub_add b 4 2 12 (by omega), show (12 : Nat) = 4 + 8 from rfl, sub_add b 4 (2 + 4) 8 (by omega), show (8 : Nat) = 4 + 4 from rfl, sub_add b 4 (2 + 4 + 4) 4 (by omega), List.append_nil]
  rw [e]
  rfl
theorem take_body {b : List Nat} (hl : b.length = 49) (hn : b.getD 20 0 ≤ 8) :
    b.take 45 = [b.getD 0 0, b.getD 1 0] ++ (sub b 2 16 ++ ([b.getD 18 0, b.getD 19 0, b.getD 20 0] ++ (sub b 21 (3 * b.getD 20 0) ++ sub b (21 + 3 * b.getD 20 0) (3 * (8 - b.getD 20 0))))) := by
  have e0 : b.take 45 = sub b 0 45 := by unfold sub; rw [List.drop_zero]
  have e1 : 3 * b.getD 20 0 + 3 * (8 - b.getD 20 0) = 24 := by omega
  rw [← sub_add b (3 * b.getD 20 0) 21 (3 * (8 - b.getD 20 0)) (by omega), e1, e0]
  rw [show (45 : Nat) = 43 + 1 + 1 from rfl, sub_cons (by omega), sub_cons (by omega), show (43 : Nat) = 16 + 27 from rfl, sub_add b 16 2 27 (by omega), show (27 : Nat) = 24 + 1 + 1 + 1 from rfl]
  rw [sub_cons (b := b) (i := 2 + 16) (by omega), sub_cons (b := b) (i := 2 + 16 + 1) (by omega), sub_cons (b := b) (i := 2 + 16 + 1 + 1) (by omega)]
  rfl
theorem zeros_iff {l : List Nat} {n : Nat} (h : l.length = n) : l = List.replicate n 0 ↔ l.any (· != 0) = false := by
  rw [List.eq_replicate_iff, List.any_eq_false]
  constructor
  · rintro ⟨_, h2⟩ x hx
    rw [h2 x hx]
    decide
  · intro h2
    refine ⟨h, fun x hx => ?_⟩
    have := h2 x hx
    rcases Nat.eq_zero_or_pos x with z | z
    · exact z
    · exact absurd (bne_iff_ne.mpr (by omega)) this
theorem body_iff {b : List Nat} (hb : ∀ x ∈ b, x < 256) (hl : b.length = 49) (hn : b.getD 20 0 ≤ 8) :
    b.take 45 = Se05.body (Se05.told b) ↔ b.getD 0 0 = 87 ∧ b.getD 1 0 = 1 ∧ (sub b (21 + 3 * b.getD 20 0) (45 - (21 + 3 * b.getD 20 0))).any (· != 0) = false := by
  have e2 : 45 - (21 + 3 * b.getD 20 0) = 3 * (8 - b.getD 20 0) := by omega
  rw [told_body hb hl hn, take_body hl hn, e2, ← zeros_iff (sub_len (by omega))]
  constructor
  · intro h
    have h1 := List.append_inj h rfl
    have h2 := List.append_cancel_left (List.append_cancel_left (List.append_cancel_left h1.2))
    have h3 : b.getD 0 0 = 87 ∧ [b.getD 1 0] = [1] := List.cons.inj h1.1
    exact ⟨h3.1, (List.cons.inj h3.2).1, h2⟩
  · rintro ⟨h1, h2, h3⟩
    rw [h1, h2, h3]
theorem xor_lt {x y : Nat} (hx : x < 2 ^ 32) (hy : y < 2 ^ 32) : x ^^^ y < 2 ^ 32 := Nat.xor_lt_two_pow hx hy
theorem crcF_lt {x : Nat} (h : x < 2 ^ 32) : crcF x < 2 ^ 32 := by
  unfold crcF
  split
  · exact xor_lt (by omega) (by decide)
  · omega
theorem crcBits_lt : ∀ (n x : Nat), x < 2 ^ 32 → Se05.crcBits n x < 2 ^ 32
  | 0, _, h => h
  | n + 1, x, h => crcBits_lt n (crcF x) (crcF_lt h)
theorem fold_lt : ∀ (b : List Nat) (x : Nat), (∀ c ∈ b, c < 256) → x < 2 ^ 32 → b.foldl crcG x < 2 ^ 32
  | [], _, _, h => h
  | c :: r, x, hb, h => by
    rw [List.foldl_cons]
    refine fold_lt r _ (fun d hd => hb d (List.mem_cons_of_mem _ hd)) (crcBits_lt 8 _ (xor_lt h ?_))
    have := hb c (List.mem_cons_self ..)
    omega
theorem crc_lt {b : List Nat} (hb : ∀ c ∈ b, c < 256) : Se05.crc b < 2 ^ 32 := xor_lt (fold_lt b _ hb (by decide)) (by decide)
theorem le4_inj {x y : Nat} (hx : x < 2 ^ 32) (hy : y < 2 ^ 32) (h : Se05.le4 x = Se05.le4 y) : x = y := by
  unfold Se05.le4 at h
  have h0 := (List.cons.inj h).1
  have h1 := (List.cons.inj (List.cons.inj h).2).1
  have h2 := (List.cons.inj (List.cons.inj (List.cons.inj h).2).2).1
  have h3 := (List.cons.inj (List.cons.inj (List.cons.inj (List.cons.inj h).2).2).2).1
  omega
theorem drop45 {b : List Nat} (hl : b.length = 49) : b.drop 45 = [b.getD 45 0, b.getD 46 0, b.getD 47 0, b.getD 48 0] := by
  have e : b.drop 45 = sub b 45 4 := by unfold sub; rw [List.take_of_length_le (by rw [List.length_drop]; omega)]
  rw [e, sub_cons (by omega), sub_cons (by omega), sub_cons (by omega), sub_cons (by omega), sub_zero]
theorem num_tail {b : List Nat} (hb : ∀ x ∈ b, x < 256) (hl : b.length = 49) : numLE (b.drop 45) < 2 ^ 32 ∧ Se05.le4 (numLE (b.drop 45)) = b.drop 45 := by
  have h0 := getD_lt hb 45
  have h1 := getD_lt hb 46
  have h2 := getD_lt hb 47
  have h3 := getD_lt hb 48
  rw [drop45 hl]
  generalize b.getD 45 0 = x0 at *
  generalize b.getD 46 0 = x1 at *
  generalize b.getD 47 0 = x2 at *
  generalize b.getD 48 0 = x3 at *
  have e : numLE [x0, x1, x2, x3] = (((0 * 256 + x3) * 256 + x2) * 256 + x1) * 256 + x0 := rfl
  rw [e]
  refine ⟨by omega, ?_⟩
  unfold Se05.le4
  congr 1
  · omega
  · congr 1
    · omega
    · congr 1
      · omega
      · congr 1
        omega
theorem body_len {b : List Nat} (hb : ∀ x ∈ b, x < 256) (hl : b.length = 49) (hn : b.getD 20 0 ≤ 8) : (Se05.body (Se05.told b)).length = 45 := by
  rw [told_body hb hl hn]
  simp only [List.length_append, List.length_cons, List.length_nil, List.length_replicate]
  rw [sub_len (by omega), sub_len (by omega)]
  omega
theorem block_iff {b : List Nat} (hb : ∀ x ∈ b, x < 256) (hl : b.length = 49) (hn : b.getD 20 0 ≤ 8) :
    b = Se05.block (Se05.told b) ↔ b.take 45 = Se05.body (Se05.told b) ∧ numLE (b.drop 45) = Se05.crc (b.take 45) := by
  have hlen := body_len hb hl hn
  have hb45 : ∀ c ∈ b.take 45, c < 256 := fun c hc => hb c (List.mem_of_mem_take hc)
  obtain ⟨n1, n2⟩ := num_tail hb hl
  constructor
  · intro h
    have e1 : b.take 45 = Se05.body (Se05.told b) := by
      have q := congrArg (List.take 45) h
      rw [show Se05.block (Se05.told b) = Se05.body (Se05.told b) ++ Se05.le4 (Se05.crc (Se05.body (Se05.told b))) from rfl, ← hlen, List.take_left, hlen] at q
      exact q
    refine ⟨e1, ?_⟩
    have e2 : b.drop 45 = Se05.le4 (Se05.crc (Se05.body (Se05.told b))) := by
      have q := congrArg (List.drop 45) h
      rw [show Se05.block (Se05.told b) = Se05.body (Se05.told b) ++ Se05.le4 (Se05.crc (Se05.body (Se05.told b))) from rfl, ← hlen, List.drop_left, hlen] at q
      exact q
    rw [← e1] at e2
    exact le4_inj n1 (crc_lt hb45) (n2.trans e2)
  · rintro ⟨h1, h2⟩
    have e : b.take 45 ++ b.drop 45 = b := List.take_append_drop 45 b
    have e3 : b.drop 45 = Se05.le4 (Se05.crc (Se05.body (Se05.told b))) := by rw [← h1, ← h2]; exact n2.symm
    show b = Se05.body (Se05.told b) ++ Se05.le4 (Se05.crc (Se05.body (Se05.told b)))
    rw [← e3, ← h1]
    exact e.symm
theorem read_of_isBlk {b : List Nat} (hb : ∀ x ∈ b, x < 256) : Se05.readBlock b = if isBlk b = true then some (Se05.told b) else none := by
  have hall : (b.all fun (x : Nat) => decide (x < 256)) = true := List.all_eq_true.mpr fun x hx => decide_eq_true (hb x hx)
  have hcl : (Se05.told b).crumbs.length = b.getD 20 0 := by
    show (List.map _ _).length = _
    rw [List.length_map, List.length_range]
  have key : (b.length = Se05.BLOCK ∧ (b.all fun (x : Nat) => decide (x < 256)) = true ∧ (Se05.told b).doomed ≤ Se05.TASKS ∧ (Se05.told b).crumbs.length ≤ Se05.CRUMBS ∧ ((Se05.told b).crumbs.all fun (c : Se05.Crumb) => decide (c.task < Se05.TASKS)) = true ∧ b = Se05.block (Se05.told b)) ↔ isBlk b = true := by
    constructor
    · rintro ⟨h1, _, h3, h4, h5, h6⟩
      have hl : b.length = 49 := h1
      have h3 : b.getD 19 0 ≤ 16 := h3
      rw [hcl] at h4
      have h4 : b.getD 20 0 ≤ 8 := h4
      obtain ⟨g1, g2⟩ := (block_iff hb hl h4).mp h6
      obtain ⟨g3, g4, g5⟩ := (body_iff hb hl h4).mp g1
      have hc : crumbsFit b = true := by
        unfold crumbsFit
        rw [if_neg (by omega), if_neg]
        · have g5' : ((b.drop (21 + 3 * b.getD 20 0)).take (45 - (21 + 3 * b.getD 20 0))).any (· != 0) = false := g5
          rw [g5']
          rfl
        · intro z
          obtain ⟨i, hi, q⟩ := List.any_eq_true.mp z
          have q := of_decide_eq_true q
          have m := List.all_eq_true.mp h5 ⟨b.getD (21 + 3 * i) 0, b.getD (22 + 3 * i) 0 + 256 * b.getD (23 + 3 * i) 0⟩ (List.mem_map.mpr ⟨i, hi, rfl⟩)
          have m : b.getD (21 + 3 * i) 0 < 16 := of_decide_eq_true m
          omega
      unfold isBlk
      rw [if_neg (by omega), if_neg (by omega), if_neg (by rw [hc]; rintro (z | z); omega; cases z)]
      exact decide_eq_true g2
    · intro h
      unfold isBlk at h
      split at h
      · cases h
      · rename_i hl
        have hl : b.length = 49 := by omega
        split at h
        · cases h
        · rename_i h01
          split at h
          · cases h
          · rename_i hc
            have hf : crumbsFit b = true := by
              cases e : crumbsFit b with
              | true => rfl
              | false => exact absurd (Or.inr e) hc
            have h19 : b.getD 19 0 ≤ 16 := by
              rcases Nat.lt_or_ge 16 (b.getD 19 0) with z | z
              · exact absurd (Or.inl z) hc
              · exact z
            unfold crumbsFit at hf
            split at hf
            · cases hf
            · rename_i h20
              have h20 : b.getD 20 0 ≤ 8 := by omega
              split at hf
              · cases hf
              · rename_i hany
                have hz : (sub b (21 + 3 * b.getD 20 0) (45 - (21 + 3 * b.getD 20 0))).any (· != 0) = false := by
                  unfold sub
                  cases e : ((b.drop (21 + 3 * b.getD 20 0)).take (45 - (21 + 3 * b.getD 20 0))).any (· != 0) with
                  | false => rfl
                  | true => rw [e] at hf; cases hf
                have g1 := (body_iff hb hl h20).mpr ⟨by omega, by omega, hz⟩
                refine ⟨hl, hall, h19, by rw [hcl]; exact h20, ?_, (block_iff hb hl h20).mpr ⟨g1, of_decide_eq_true h⟩⟩
                rw [List.all_eq_true]
                intro c hc'
                obtain ⟨i, hi, rfl⟩ := List.mem_map.mp hc'
                refine decide_eq_true ?_
                show b.getD (21 + 3 * i) 0 < 16
                rcases Nat.lt_or_ge 15 (b.getD (21 + 3 * i) 0) with z | z
                · exact absurd (List.any_eq_true.mpr ⟨i, hi, decide_eq_true z⟩) hany
                · omega
  unfold Se05.readBlock
  dsimp only
  by_cases h : isBlk b = true
  · rw [if_pos h, if_pos (key.mpr h)]
  · rw [if_neg h, if_neg (fun z => h (key.mp z))]
end Tw
end
section
set_option Elab.async false
set_option linter.all false
set_option maxRecDepth 100000
set_option maxHeartbeats 2000000
namespace Tw
open PySem PySem.Spec PyProof.Rows L2
/-! ### what is kept of a heap behind a call -/
/-- all that was tracked, but what stands in L, is as it was -/
def Kp (L : List Addr) (H H' : Hp) : Prop := ∀ b o, H b = some o → b ∉ L → H' b = some o
/-- L' has nothing but L's and what is new -/
def New (L L' : List Addr) (H : Hp) : Prop := ∀ b ∈ L', b ∈ L ∨ H b = none
theorem same_kp {H H' : Hp} (h : Same H H') (L : List Addr) : Kp L H H' := fun b o e _ => h b o e
theorem same_upd {H : Hp} {t : Addr} {o : HO} (h : H t = none) : Same H (upd H t o) := fun b u e => by rw [upd_ne (ne_of_none e h)]; exact e
theorem Kp.upd {L : List Addr} {H H' : Hp} {t : Addr} {o : HO} (h : Kp L H H') (ht : t ∈ L ∨ H t = none) : Kp L H (L2.upd H' t o) := fun b u e hb => by
  have : b ≠ t := by
    rintro rfl
    rcases ht with z | z
    · exact hb z
    · rw [z] at e; cases e
  rw [upd_ne this]
  exact h b u e hb
theorem Kp.refl (L : List Addr) (H : Hp) : Kp L H H := fun _ _ e _ => e
/-- nothing that was tracked is forgotten -/
def Alive (H H' : Hp) : Prop := ∀ b, H' b = none → H b = none
theorem alive_refl (H : Hp) : Alive H H := fun _ e => e
theorem alive_same {H H' : Hp} (s : Same H H') : Alive H H' := fun _ e => s.free e
theorem Alive.upd {H H' : Hp} {t : Addr} {o : HO} (h : Alive H H') : Alive H (L2.upd H' t o) := fun b e => by
  by_cases q : b = t
  · rw [q, upd_same] at e; cases e
  · rw [upd_ne q] at e; exact h b e
theorem Alive.trans {H H1 H2 : Hp} (h : Alive H H1) (g : Alive H1 H2) : Alive H H2 := fun b e => h b (g b e)
/-! ### what is kept -/
def kf (sl : Addr) (q d : Int) (cl : Addr) : List (Str × V) := [("starts", .ref sl), ("quick", .int q), ("doomed", .int d), ("crumbs", .ref cl)]
def CrAt (H : Hp) (t : Addr) (c : Se05.Crumb) : Prop := H t = some (.tup [.int (c.task : Int), .int (c.place : Int)])
/-- an object of Kept stands at p for k; L: its parts -/
def KeptAt (C : Addr) (H : Hp) (p : Addr) (k : Se05.Kept) (L : List Addr) : Prop := ∃ dx sl cl ts, L = p :: sl :: cl :: ts ∧ L.Nodup ∧ H p = some (.ins C dx (kf sl k.quick k.doomed cl)) ∧ H sl = some (.lst (nv k.starts)) ∧ H cl = some (.lst (ts.map V.ref)) ∧ Paired (CrAt H) ts k.crumbs
theorem paired_imp {α β : Type} {F G : α → β → Prop} : ∀ {l : List α} {m : List β}, Paired F l m → (∀ a b, a ∈ l → F a b → G a b) → Paired G l m
  | _, _, .nil, _ => .nil
  | _, _, .cons r t, f => .cons (f _ _ (List.mem_cons_self ..) r) (paired_imp t fun a b ha => f a b (List.mem_cons_of_mem _ ha))
theorem KeptAt.mem {C : Addr} {H : Hp} {p : Addr} {k : Se05.Kept} {L : List Addr} (h : KeptAt C H p k L) : ∀ b ∈ L, H b ≠ none := by
  obtain ⟨dx, sl, cl, ts, rfl, nd, h1, h2, h3, h4⟩ := h
  intro b hb
  rcases List.mem_cons.mp hb with rfl | hb
  · rw [h1]; intro z; cases z
  rcases List.mem_cons.mp hb with rfl | hb
  · rw [h2]; intro z; cases z
  rcases List.mem_cons.mp hb with rfl | hb
  · rw [h3]; intro z; cases z
  have go : ∀ (l : List Addr) (m : List Se05.Crumb), Paired (CrAt H) l m → b ∈ l → H b ≠ none := by
    intro l m q
    induction q with
    | nil => intro hb; cases hb
    | @cons t c l1 l2 r _ ih =>
      intro hb
      rcases List.mem_cons.mp hb with rfl | hb
      · rw [show H b = some _ from r]; intro z; cases z
      · exact ih hb
  exact go _ _ h4 hb
/-- it leans on its own parts alone -/
theorem KeptAt.loc {C : Addr} {H H' : Hp} {p : Addr} {k : Se05.Kept} {L : List Addr} (h : KeptAt C H p k L) (e : ∀ b ∈ L, H' b = H b) : KeptAt C H' p k L := by
  obtain ⟨dx, sl, cl, ts, rfl, nd, h1, h2, h3, h4⟩ := h
  refine ⟨dx, sl, cl, ts, rfl, nd, (e _ (by simp)).trans h1, (e _ (by simp)).trans h2, (e _ (by simp)).trans h3, paired_imp h4 fun t c ht hc => ?_⟩
  exact (e t (by simp [ht])).trans hc
theorem KeptAt.kp {C : Addr} {H H' : Hp} {p : Addr} {k : Se05.Kept} {L M : List Addr} (h : KeptAt C H p k L) (f : Kp M H H') (d : ∀ b ∈ L, b ∉ M) : KeptAt C H' p k L := h.loc fun b hb => by
  cases e : H b with
  | none => exact absurd e (h.mem b hb)
  | some o => exact f b o e (d b hb)
theorem paired_snoc_inv {α β : Type} {F : α → β → Prop} {c : β} : ∀ {l : List α} {m : List β}, Paired F l (m ++ [c]) → ∃ l' t, l = l' ++ [t] ∧ Paired F l' m ∧ F t c
  | _, [], .cons r .nil => ⟨[], _, rfl, .nil, r⟩
  | _, x :: m, .cons r t => by
    obtain ⟨l', t', e, h1, h2⟩ := paired_snoc_inv (m := m) t
    exact ⟨_ :: l', t', by rw [e]; rfl, .cons r h1, h2⟩
section
variable {P : Program} {w : World} {K : PySem.W.Frag} {mg : Str → Option Value} {base : Heap} {a : Ad}
/-- Kept(..) -/
def spKept (C : Addr) : Sp := fun vs H Q _ => ∃ (p dx sl cl : Addr) (q d : Int), vs = [.ref p, .ref sl, .int q, .int d, .ref cl] ∧ H p = some (.ins C dx []) ∧ ∀ H', H' p = some (.ins C dx (kf sl q d cl)) → (∀ b, b ≠ p → H' b = H b) → Q .non H'
theorem ok_Kept (T : Txt K mg a) : Mkr P w K mg base 1 a.Kept "Kept" ["self", "starts", "quick", "doomed", "crumbs"] (spKept a.Kept) := by
  refine Mkr.mk T.i_Kept sc_Kept_init bd_Kept_init (fun vs H Q E h => by obtain ⟨p, dx, sl, cl, q, d, rfl, _⟩ := h; rfl) (fun f cdv A outer s H vs Q E hr h => ?_)
  obtain ⟨p, dx, sl, cl, q, d, rfl, hp, k⟩ := h
  refine ⟨_, pss_cons (ps_fld (pv 0) (pv 1) rfl) (pss_cons (ps_fld (pv 0) (pv 2) rfl) (pss_cons (ps_fld (pv 0) (pv 3) rfl) (pss_one (ps_fld (pv 0) (pv 4) rfl)))), ?_⟩
  refine ⟨_, rfl, _, rfl, p, a.Kept, dx, [], rfl, hp, T.k_Kept, T.a_Kept_starts, (by decide), ?_⟩
  refine ⟨_, rfl, _, rfl, p, a.Kept, dx, _, rfl, upd_same, T.k_Kept, T.a_Kept_quick, (by show 1 < 1000; decide), ?_⟩
  refine ⟨_, rfl, _, rfl, p, a.Kept, dx, _, rfl, upd_same, T.k_Kept, T.a_Kept_doomed, (by show 2 < 1000; decide), ?_⟩
  refine ⟨_, rfl, _, rfl, p, a.Kept, dx, _, rfl, upd_same, T.k_Kept, T.a_Kept_crumbs, (by show 3 < 1000; decide), ?_⟩
  exact k _ upd_same fun b hb => by rw [upd_ne hb, upd_ne hb, upd_ne hb, upd_ne hb]
theorem seq0 {n : Nat} (h : 0 < n) : seqIndex? 0 n = some 0 := by
  have q : (0 : Int) < (n : Int) := by omega
  unfold seqIndex?
  simp [h]
theorem eqv_crumb (i j x y : Int) : PyData.eqv (.tuple [.int i, .int j]) (.tuple [.int x, .int y]) = (decide (i = x) && decide (j = y)) := by
  rw [Bool.eq_iff_iff]
  simp [PyData.eqv, PyData.eqvAll]
theorem shaped_crumb (i j : Int) : SeqAt.shaped (.tuple [.int i, .int j]) = true := by
  first | rfl | simp [SeqAt.shaped, PyData.canLay0, PyData.depth]
def spLay (C : Addr) : Sp := fun vs H Q _ => ∃ (p : Addr) (c : Se05.Crumb) (k : Se05.Kept) (L : List Addr), vs = [.ref p, .int (c.task : Int), .int (c.place : Int)] ∧ KeptAt C H p k L ∧ k.crumbs.length ≤ 8 ∧
  ∀ H' L', KeptAt C H' p (k.crumb c) L' → Kp L H H' → Alive H H' → New L L' H → Q .non H'
theorem ok_lay_crumb (T : Txt K mg a) : Mt P w K mg base 1 a.Kept "lay_crumb" ["self", "k", "place"] (spLay a.Kept) := by
  refine Mt.mk T.k_Kept T.m_Kept_lay_crumb sc_Kept_lay_crumb bd_Kept_lay_crumb (fun vs H Q E h => by obtain ⟨p, c, k, L, rfl, _⟩ := h; rfl) (fun f cdv A outer s H vs Q E hr h => ?_)
  obtain ⟨p, c, kk, L, rfl, hK, h8, k⟩ := h
  have nd := sc_Kept_lay_crumb.nd
  refine ⟨_, pss_cons (ps_set (i := 3) nd rfl (Or.inl rfl) (pe_tup (pa_cons (pv 1) (pa_cons (pv 2) pa_nil))))
    (pss_cons (ps_if (PW.pt (pw_and (pt_truth (pe_fld (pv 0) rfl) (fun _ => rfl)) (pw_and1 (pt_cmpR (op_eqD hr.units) (pe_ix ix_list (pe_fld (pv 0) rfl) (pe_un un_neg pe_int) (fun _ _ => rfl)) (pv 3) (nomark _))))) (pss_one ps_retN) pss_nil)
    (pss_cons (ps_expr (pe_bm PySem.F.plainAttrs_list PySem.F.slot_list_append PySem.F.type_list_append mt_append (pe_fld (pv 0) rfl) (pa_cons (pv 3) pa_nil)))
    (pss_one (ps_if (pt_cmpR op_gt (pe_callB call_len_seq rfl T.b_len PySem.boot_len (pa_cons (pe_fld (pv 0) rfl) pa_nil)) (pe_cn T.c_MOST_CRUMBS) (nomark _))
      (pss_one (ps_expr (pe_bm PySem.F.plainAttrs_list PySem.F.slot_list_pop PySem.F.type_list_pop mt_popAt (pe_fld (pv 0) rfl) (pa_cons pe_int pa_nil)))) pss_nil)))), ?_⟩
  obtain ⟨dx, sl, cl, ts, rfl, ndL, h1, h2, h3, h4⟩ := hK
  refine ⟨_, rfl, _, rfl, (by show 2 ≤ sizeLine; decide), fun t ht => ?_⟩
  have s1 : Same H (upd H t (.tup [.int (c.task : Int), .int (c.place : Int)])) := same_upd ht
  generalize hH1 : upd H t (.tup [.int (c.task : Int), .int (c.place : Int)]) = H1 at *
  have g1 := s1 _ _ h1
  have g2 := s1 _ _ h2
  have g3 := s1 _ _ h3
  have gt : H1 t = some (.tup [.int (c.task : Int), .int (c.place : Int)]) := by rw [← hH1]; exact upd_same
  have g4 : Paired (CrAt H1) ts kk.crumbs := paired_imp h4 fun t' c' _ q => s1 _ _ q
  have tnew : t ∉ p :: sl :: cl :: ts := fun hm => by
    have := KeptAt.mem (C := a.Kept) (H := H) (p := p) (k := kk) (L := p :: sl :: cl :: ts) ⟨dx, sl, cl, ts, rfl, ndL, h1, h2, h3, h4⟩ t hm
    exact this ht
  have test : ∀ Qb : Bool → Hp → Prop, Qb (decide (kk.crumbs.getLast? = some c)) H1 →
      (tAnd (fun σ H Q => tFld K (tVar 0) "crumbs" σ H fun x H' => ∃ k, TruV K x H' k ∧ Q k H') (tTest (tOp (rEqD K) (tOp (rIxL K) (tFld K (tVar 0) "crumbs") (tUn (rU fun i => .int (-i)) (tC (.int 1)))) (tVar 3)))) [some (.ref p), some (.int (c.task : Int)), some (.int (c.place : Int)), some (.ref t)] H1 Qb := by
    intro Qb hq
    refine ⟨_, rfl, p, a.Kept, dx, _, _, rfl, g1, T.k_Kept, T.a_Kept_crumbs, rfl, _, .inl ⟨_, SqL.of g3, rfl⟩, ?_⟩
    rcases List.eq_nil_or_concat kk.crumbs with e | ⟨cs, c', e⟩
    · rw [e] at g4 hq
      cases g4
      exact iteF hq
    · rw [e] at g4 hq
      obtain ⟨ts', t', rfl, g5, g6⟩ := paired_snoc_inv (by rw [List.concat_eq_append] at g4; exact g4)
      have ne : (!(List.map V.ref (ts' ++ [t'])).isEmpty) = true := by cases ts' <;> rfl
      rw [ne]
      refine iteT ⟨_, rfl, p, a.Kept, dx, _, _, rfl, g1, T.k_Kept, T.a_Kept_crumbs, rfl, _, rfl, cl, _, _, _, rfl, rfl, SqL.of g3, ?_, _, rfl, _, _, .tup (SqT.of g6) (.cons (.int _) (.cons (.int _) .nil)), .tup (SqT.of gt) (.cons (.int _) (.cons (.int _) .nil)), shaped_crumb _ _, shaped_crumb _ _, _, rfl, ?_⟩
      · rw [List.map_append]
        exact atI_last _ _
      · rw [eqv_crumb]
        have e2 : decide ((cs.concat c').getLast? = some c) = (decide ((c'.task : Int) = (c.task : Int)) && decide ((c'.place : Int) = (c.place : Int))) := by
          rw [List.concat_eq_append, List.getLast?_append]
          show decide (some c' = some c) = _
          rw [Bool.eq_iff_iff, Bool.and_eq_true, decide_eq_true_eq, decide_eq_true_eq, decide_eq_true_eq]
          constructor
          · intro z
            cases z
            exact ⟨rfl, rfl⟩
          · rintro ⟨z1, z2⟩
            have y1 : c'.task = c.task := by omega
            have y2 : c'.place = c.place := by omega
            cases c'; cases c
            simp at y1 y2
            rw [y1, y2]
        rw [e2] at hq
        exact hq
  refine test _ (ite2 (fun hl => ?_) (fun hl => ?_))
  · -- the same as the last one
    have hl := of_decide_eq_true hl
    refine k H1 (p :: sl :: cl :: ts) ?_ (same_kp s1 _) (alive_same s1) (fun b hb => .inl hb)
    rw [show kk.crumb c = kk from if_pos hl]
    exact ⟨dx, sl, cl, ts, rfl, ndL, g1, g2, g3, g4⟩
  · have hl : ¬ kk.crumbs.getLast? = some c := fun q => hl (decide_eq_true q)
    have hlen : ts.length = kk.crumbs.length := Paired.length h4
    refine ⟨_, rfl, p, a.Kept, dx, _, _, rfl, g1, T.k_Kept, T.a_Kept_crumbs, rfl, .inl ⟨rfl, _, SqL.of g3⟩, _, rfl, cl, _, _, rfl, rfl, g3, ?_, ?_⟩
    · rw [List.length_map, hlen]
      exact Nat.lt_of_le_of_lt h8 (by decide)
    have ncl_p : p ≠ cl := ne_of g1 g3 (by intro q; cases q)
    have ncl_sl : sl ≠ cl := by
      intro q
      rw [q] at ndL
      simp at ndL
    have ncl_t : t ≠ cl := ne_of gt g3 (by intro q; cases q)
    have ncl_ts : ∀ t' ∈ ts, t' ≠ cl := fun t' ht' q => by
      rw [q] at ht'
      simp [ht'] at ndL
    have u1 : ∀ o, (upd H1 cl o) p = some (.ins a.Kept dx (kf sl kk.quick kk.doomed cl)) := fun o => by rw [upd_ne ncl_p]; exact g1
    refine ⟨_, rfl, p, a.Kept, dx, _, _, rfl, u1 _, T.k_Kept, T.a_Kept_crumbs, rfl, cl, _, rfl, .inl (SqL.of upd_same), _, _, rfl, rfl, _, rfl, ite2 (fun h9 => ?_) (fun h9 => ?_)⟩
    · -- nine: the oldest goes
      have h9 : 8 < (ts ++ [t]).length := by
        have q := of_decide_eq_true h9
        rw [List.length_append, List.length_map] at q
        rw [List.length_append]
        simp at q ⊢
        omega
      have h8' : ts.length = 8 := by rw [List.length_append] at h9; simp at h9; omega
      obtain ⟨t0, tr, rfl⟩ : ∃ t0 tr, ts = t0 :: tr := by
        cases ts with
        | nil => simp at h8'
        | cons x r => exact ⟨x, r, rfl⟩
      generalize hcs : kk.crumbs = cs at *
      cases g4 with
      | @cons _ c0 _ cr r0 rr =>
        refine ⟨_, rfl, p, a.Kept, dx, _, _, rfl, u1 _, T.k_Kept, T.a_Kept_crumbs, rfl, .inl ⟨rfl, _, SqL.of upd_same⟩, cl, _, _, 0, _, rfl, rfl, upd_same, by decide, by decide, seq0 (by simp), rfl, ?_⟩
        refine k _ (p :: sl :: cl :: (tr ++ [t])) ?_ (((same_kp s1 _).upd (.inl (by simp))).upd (.inl (by simp))) (alive_same s1).upd.upd (fun b hb => ?_)
        · have ec : kk.crumb c = { kk with crumbs := cr ++ [c] } := by
            have e1 : kk.crumb c = { kk with crumbs := (kk.crumbs ++ [c]).drop (kk.crumbs.length + 1 - Se05.CRUMBS) } := if_neg (by rw [hcs]; exact hl)
            rw [e1, hcs]
            have e2 : (c0 :: cr).length + 1 - Se05.CRUMBS = 1 := by
              rw [← hlen, h8']
              rfl
            rw [e2]
            rfl
          rw [ec]
          refine ⟨dx, sl, cl, tr ++ [t], rfl, ?_, ?_, ?_, upd_same.trans (by rw [List.map_append]; rfl), ?_⟩
          · have nd2 : (p :: sl :: cl :: tr).Nodup := by
              refine ndL.sublist ?_
              exact List.Sublist.cons₂ _ (List.Sublist.cons₂ _ (List.Sublist.cons₂ _ (List.sublist_cons_self _ _)))
            have nd3 := nd_snoc nd2 (k := t) (fun hm => tnew (by
              rcases List.mem_cons.mp hm with rfl | hm
              · simp
              rcases List.mem_cons.mp hm with rfl | hm
              · simp
              rcases List.mem_cons.mp hm with rfl | hm
              · simp
              simp [hm]))
            exact nd3
          · rw [upd_ne ncl_p, upd_ne ncl_p]; exact g1
          · rw [upd_ne ncl_sl, upd_ne ncl_sl]; exact g2
          · refine Paired.snoc (paired_imp rr fun t' c' ht' q => ?_) ?_
            · show (upd _ _ _) t' = _
              rw [upd_ne (ncl_ts t' (List.mem_cons_of_mem _ ht')), upd_ne (ncl_ts t' (List.mem_cons_of_mem _ ht'))]
              exact q
            · show (upd _ _ _) t = _
              rw [upd_ne ncl_t, upd_ne ncl_t]
              exact gt
        · simp at hb
          rcases hb with rfl | rfl | rfl | hb | rfl
          · simp
          · simp
          · simp
          · simp [hb]
          · exact .inr ht
    · have h9 : ¬ 8 < (ts ++ [t]).length := fun q => h9 (decide_eq_true (by
        rw [List.length_append, List.length_map]
        rw [List.length_append] at q
        simp at q ⊢
        omega))
      have h7 : kk.crumbs.length < 8 := by
        rw [List.length_append] at h9
        simp at h9
        omega
      refine k _ (p :: sl :: cl :: (ts ++ [t])) ?_ ((same_kp s1 _).upd (.inl (by simp))) (alive_same s1).upd (fun b hb => ?_)
      · have ec : kk.crumb c = { kk with crumbs := kk.crumbs ++ [c] } := by
          have e1 : kk.crumb c = { kk with crumbs := (kk.crumbs ++ [c]).drop (kk.crumbs.length + 1 - Se05.CRUMBS) } := if_neg hl
          have e2 : kk.crumbs.length + 1 - Se05.CRUMBS = 0 := by
            show kk.crumbs.length + 1 - 8 = 0
            omega
          rw [e1, e2]
          rfl
        rw [ec]
        refine ⟨dx, sl, cl, ts ++ [t], rfl, nd_snoc ndL tnew, ?_, ?_, upd_same.trans (by rw [List.map_append]; rfl), ?_⟩
        · rw [upd_ne ncl_p]; exact g1
        · rw [upd_ne ncl_sl]; exact g2
        · refine Paired.snoc (paired_imp g4 fun t' c' ht' q => ?_) ?_
          · show (upd _ _ _) t' = _
            rw [upd_ne (ncl_ts t' ht')]
            exact q
          · show (upd _ _ _) t = _
            rw [upd_ne ncl_t]
            exact gt
      · simp at hb
        rcases hb with rfl | rfl | rfl | hb | rfl
        · simp
        · simp
        · simp
        · simp [hb]
        · exact .inr ht
end
end Tw
end
section
set_option Elab.async false
set_option linter.all false
set_option maxRecDepth 100000
set_option maxHeartbeats 2000000
namespace Tw
open PySem PySem.Spec PyProof.Rows L2
section
variable {P : Program} {w : World} {K : PySem.W.Frag} {mg : Str → Option Value} {base : Heap} {a : Ad}
/-- a method that changes what is kept, and nothing else -/
def spKeptTo (C : Addr) (args : List V) (g : Se05.Kept → Se05.Kept) : Sp := fun vs H Q _ => ∃ (p : Addr) (k : Se05.Kept) (L : List Addr), vs = .ref p :: args ∧ KeptAt C H p k L ∧ ∀ H', KeptAt C H' p (g k) L → Kp L H H' → Q .non H'
theorem KeptAt.put {C : Addr} {H : Hp} {p : Addr} {k k' : Se05.Kept} {L : List Addr} {o : HO} (dx sl cl : Addr) (ts : List Addr) (hL : L = p :: sl :: cl :: ts) (nd : L.Nodup) (ho : o = .ins C dx (kf sl k'.quick k'.doomed cl))
    (h2 : H sl = some (.lst (nv k'.starts))) (h3 : H cl = some (.lst (ts.map V.ref))) (h4 : Paired (CrAt H) ts k'.crumbs) : KeptAt C (upd H p o) p k' L := by
  subst hL ho
  have n1 : sl ≠ p := by intro q; subst q; simp at nd
  have n2 : cl ≠ p := by intro q; subst q; simp at nd
  have n3 : ∀ t ∈ ts, t ≠ p := by intro t ht q; subst q; simp [ht] at nd
  exact ⟨dx, sl, cl, ts, rfl, nd, upd_same, by rw [upd_ne n1]; exact h2, by rw [upd_ne n2]; exact h3, paired_imp h4 fun t c ht q => (by show upd H p _ t = _; rw [upd_ne (n3 t ht)]; exact q)⟩
def spDoom (C : Addr) : Sp := fun vs H Q _ => ∃ (p : Addr) (n : Nat) (k : Se05.Kept) (L : List Addr), vs = [.ref p, .int (n : Int)] ∧ KeptAt C H p k L ∧ ∀ H', KeptAt C H' p { k with doomed := if k.doomed = 0 then n + 1 else k.doomed } L → Kp L H H' → Alive H H' → Q .non H'
theorem ok_doom (T : Txt K mg a) : Mt P w K mg base 1 a.Kept "doom" ["self", "k"] (spDoom a.Kept) := by
  refine Mt.mk T.k_Kept T.m_Kept_doom sc_Kept_doom bd_Kept_doom (fun vs H Q E h => by obtain ⟨p, n, k, L, rfl, _⟩ := h; rfl) (fun f cdv A outer s H vs Q E hr h => ?_)
  obtain ⟨p, n, kk, L, rfl, hK, k⟩ := h
  refine ⟨_, pss_one (ps_if (pt_cmpR op_eq (pe_fld (pv 0) rfl) pe_int (nomark _)) (pss_one (ps_fld (pv 0) (pe_op op_add (pv 1) pe_int) rfl)) pss_nil), ?_⟩
  obtain ⟨dx, sl, cl, ts, hL, ndL, h1, h2, h3, h4⟩ := id hK
  have hpL : p ∈ L := by rw [hL]; simp
  refine ⟨_, rfl, p, a.Kept, dx, _, _, rfl, h1, T.k_Kept, T.a_Kept_doomed, rfl, rfl, _, rfl, ite2 (fun e => ?_) (fun e => ?_)⟩
  · have e : kk.doomed = 0 := by have := V.int.inj (of_decide_eq_true e); omega
    refine ⟨_, rfl, _, _, rfl, rfl, _, rfl, p, a.Kept, dx, _, rfl, h1, T.k_Kept, T.a_Kept_doomed, (by show 4 < 1000; decide), ?_⟩
    refine k _ ?_ ((Kp.refl L H).upd (.inl hpL)) (alive_refl H).upd
    rw [if_pos e]
    exact KeptAt.put (k := kk) dx sl cl ts hL ndL rfl h2 h3 h4
  · have e : ¬ kk.doomed = 0 := fun q => e (decide_eq_true (by rw [q]; rfl))
    refine k H ?_ (Kp.refl L H) (alive_refl H)
    rw [if_neg e]
    exact hK
def spForget (C : Addr) : Sp := fun vs H Q _ => ∃ (p : Addr) (k : Se05.Kept) (L : List Addr), vs = [.ref p] ∧ KeptAt C H p k L ∧ ∀ H', KeptAt C H' p { k with quick := 0 } L → Kp L H H' → Alive H H' → Q .non H'
theorem ok_forget_quick (T : Txt K mg a) : Mt P w K mg base 1 a.Kept "forget_quick" ["self"] (spForget a.Kept) := by
  refine Mt.mk T.k_Kept T.m_Kept_forget_quick sc_Kept_forget_quick bd_Kept_forget_quick (fun vs H Q E h => by obtain ⟨p, k, L, rfl, _⟩ := h; rfl) (fun f cdv A outer s H vs Q E hr h => ?_)
  obtain ⟨p, kk, L, rfl, hK, k⟩ := h
  refine ⟨_, pss_one (ps_fld (pv 0) pe_int rfl), ?_⟩
  obtain ⟨dx, sl, cl, ts, hL, ndL, h1, h2, h3, h4⟩ := id hK
  have hpL : p ∈ L := by rw [hL]; simp
  refine ⟨_, rfl, p, a.Kept, dx, _, rfl, h1, T.k_Kept, T.a_Kept_quick, (by show 4 < 1000; decide), ?_⟩
  exact k _ (KeptAt.put (k := kk) dx sl cl ts hL ndL rfl h2 h3 h4) ((Kp.refl L H).upd (.inl hpL)) (alive_refl H).upd
/-- a new Kept for k, nothing that was there is changed -/
def Made (C : Addr) (H : Hp) (k : Se05.Kept) (Q : VK) : Prop := ∀ H' p L, KeptAt C H' p k L → Same H H' → (∀ b ∈ L, H b = none) → Q (.ref p) H'
def spNothing (C : Addr) : Sp := fun vs H Q _ => vs = [] ∧ Made C H {} Q
theorem made_of {C : Addr} {H H1 H2 : Hp} {x dx sl cl : Addr} {ts : List Addr} {k : Se05.Kept} {Q : VK} (h : Made C H k Q) (s1 : Same H H1) (nx : H1 x = none) (ndx : H1 dx = none)
    (h1 : H2 x = some (.ins C dx (kf sl k.quick k.doomed cl))) (hk : ∀ b, b ≠ x → H2 b = (upd (upd H1 dx (.own x)) x (.ins C dx [])) b) (h2 : H1 sl = some (.lst (nv k.starts))) (h3 : H1 cl = some (.lst (ts.map V.ref))) (h4 : Paired (CrAt H1) ts k.crumbs)
    (nsl : H sl = none) (ncl : H cl = none) (nts : ∀ t ∈ ts, H t = none) (nd : (sl :: cl :: ts).Nodup) : Q (.ref x) H2 := by
  have s2 : Same H1 H2 := fun b o e => by
    rw [hk b (ne_of_none e nx), upd_ne (ne_of_none e nx), upd_ne (ne_of_none e ndx)]
    exact e
  refine h H2 x (x :: sl :: cl :: ts) ⟨dx, sl, cl, ts, rfl, List.nodup_cons.mpr ⟨fun hm => ?_, nd⟩, h1, s2 _ _ h2, s2 _ _ h3, paired_imp h4 fun t c _ q => s2 _ _ q⟩ (s1.trans s2) (fun b hb => ?_)
  · rcases List.mem_cons.mp hm with rfl | hm
    · rw [nx] at h2; cases h2
    rcases List.mem_cons.mp hm with rfl | hm
    · rw [nx] at h3; cases h3
    have q : KeptAt C (upd H1 dx (.ins C dx (kf sl k.quick k.doomed cl))) dx k (dx :: sl :: cl :: ts) → True := fun _ => trivial
    have go : ∀ (l : List Addr) (m : List Se05.Crumb), Paired (CrAt H1) l m → x ∈ l → False := by
      intro l m q
      induction q with
      | nil => intro hb; cases hb
      | @cons t c l1 l2 r _ ih =>
        intro hb
        rcases List.mem_cons.mp hb with rfl | hb
        · rw [show CrAt H1 x c ↔ H1 x = some _ from Iff.rfl, nx] at r; cases r
        · exact ih hb
    exact go _ _ h4 hm
  · rcases List.mem_cons.mp hb with rfl | hb
    · exact s1.free nx
    rcases List.mem_cons.mp hb with rfl | hb
    · exact nsl
    rcases List.mem_cons.mp hb with rfl | hb
    · exact ncl
    exact nts b hb
theorem ok_nothing_kept (T : Txt K mg a) : Fn P w K mg base 3 "nothing_kept" [] (spNothing a.Kept) := by
  refine Fn.mk T.f_nothing_kept sc_nothing_kept bd_nothing_kept (fun vs H Q E h => by obtain ⟨rfl, _⟩ := h; rfl) (fun f cdv A outer s H vs Q E hr h => ?_)
  obtain ⟨rfl, k⟩ := h
  refine ⟨_, pss_one (ps_ret (pe_mk (ok_Kept T) hr (pa_cons (pe_op op_rep (pe_lst (pa_cons pe_int pa_nil)) (pe_cn T.c_CAUSES)) (pa_cons pe_int (pa_cons pe_int (pa_cons (pe_lst pa_nil) pa_nil)))))), ?_⟩
  refine ⟨(by show 1 ≤ sizeLine; decide), fun l0 hl0 => ⟨l0, 4, _, rfl, rfl, upd_same, by decide, by decide, (by show 4 ≤ sizeLine; decide), fun sl hsl => ⟨Nat.zero_le _, fun cl hcl => ?_⟩⟩⟩
  intro x dx nx ndx nxd
  refine ⟨x, dx, sl, cl, 0, 0, rfl, upd_same, fun H2 e1 e2 => ⟨rfl, ?_⟩⟩
  have s0 : Same H (upd H l0 (.lst [.int 0])) := same_upd hl0
  have s1 : Same (upd H l0 (.lst [.int 0])) _ := same_upd (o := .lst (List.replicate (4 : Int).toNat [V.int 0]).flatten) hsl
  have s2 := same_upd (o := .lst []) hcl
  refine made_of (k := {}) (ts := []) k ((s0.trans s1).trans s2) nx ndx e1 e2 (s2 _ _ upd_same) upd_same .nil (s0.free hsl) ((s0.trans s1).free hcl) (fun t ht => by cases ht) ?_
  have n : sl ≠ cl := fun q => by
    rw [← q, upd_same] at hcl
    cases hcl
  simp [n]
theorem counted_set {l : List Nat} (hl : l.length = 4) {c : Nat} (hc : c ≤ 3) : Se05.counted l c = l.set c (min (l.getD c 0 + 1) 4294967295) := by
  match l, hl with
  | [x0, x1, x2, x3], _ =>
    have q : c = 0 ∨ c = 1 ∨ c = 2 ∨ c = 3 := by omega
    rcases q with rfl | rfl | rfl | rfl <;> rfl
/-- what a station keeps at its beginning -/
def keptBy (k : Se05.Kept) (c : Nat) : Se05.Kept := { starts := Se05.counted k.starts c, quick := if c = 1 then Se05.upTo (k.quick + 1) 255 else k.quick }
def spKeptFrom (C : Addr) : Sp := fun vs H Q _ => ∃ (p : Addr) (c : Nat) (k : Se05.Kept) (L : List Addr), vs = [.ref p, .int (c : Int)] ∧ KeptAt C H p k L ∧ k.starts.length = 4 ∧ c ≤ 3 ∧ Made C H (keptBy k c) Q
theorem min_int (x y : Nat) : (if (y : Int) < (x : Int) then (y : Int) else (x : Int)) = ((min x y : Nat) : Int) := by
  by_cases h : y < x
  · rw [if_pos (by omega)]; omega
  · rw [if_neg (by omega)]; omega
theorem ok_kept_from (T : Txt K mg a) : Fn P w K mg base 3 "kept_from" ["before", "cause"] (spKeptFrom a.Kept) := by
  refine Fn.mk T.f_kept_from sc_kept_from bd_kept_from (fun vs H Q E h => by obtain ⟨p, c, k, L, rfl, _⟩ := h; rfl) (fun f cdv A outer s H vs Q E hr h => ?_)
  obtain ⟨p, c, kk, L, rfl, hK, h4, hc, k⟩ := h
  have nd := sc_kept_from.nd
  refine ⟨_, pss_cons (ps_set (i := 2) nd rfl (Or.inl rfl) (pe_callTy call_list_of rfl T.b_list PyProof.Rows.boot_list (pa_cons (pe_fld (pv 0) rfl) pa_nil)))
    (pss_cons (ps_asg (pe_callB (call_min2 rfl) rfl T.b_min PyProof.Rows.boot_min (pa_cons (pe_op op_add (pe_ix ix_list (pv 2) (pv 1) (fun _ _ => rfl)) pe_int) (pa_cons (pe_cn T.c_MOST_STARTS) pa_nil))) (pg_sub (pv 2) (pv 1) set_list))
    (pss_cons (ps_set (i := 3) nd rfl (Or.inl rfl) (pe_fld (pv 0) rfl))
    (pss_cons (ps_if (pt_cmpR op_eq (pv 1) (pe_cn T.c_BY_THE_WATCH) (nomark _)) (pss_one (ps_set (i := 3) nd rfl (Or.inl rfl) (pe_callB (call_min2 rfl) rfl T.b_min PyProof.Rows.boot_min (pa_cons (pe_op op_add (pv 3) pe_int) (pa_cons (pe_cn T.c_MOST_QUICK) pa_nil))))) pss_nil)
    (pss_one (ps_ret (pe_mk (ok_Kept T) hr (pa_cons (pv 2) (pa_cons (pv 3) (pa_cons pe_int (pa_cons (pe_lst pa_nil) pa_nil)))))))))), ?_⟩
  obtain ⟨dx, sl, cl, ts, hL, ndL, h1, h2, h3, h5⟩ := id hK
  refine ⟨_, rfl, p, a.Kept, dx, _, _, rfl, h1, T.k_Kept, T.a_Kept_starts, rfl, sl, _, rfl, .inl (SqL.of h2), fun l hl => ?_⟩
  have s1 := same_upd (o := .lst (nv kk.starts)) hl
  have hlt : c < kk.starts.length := by omega
  refine ⟨_, rfl, _, rfl, l, _, _, _, rfl, rfl, SqL.of upd_same, at_nv hlt, _, _, rfl, rfl, _, _, rfl, _, rfl, _, rfl, l, _, _, c, rfl, rfl, upd_same, ?_, ?_⟩
  · unfold ixN
    rw [List.length_map, if_pos (by omega), if_pos (by omega)]
    rfl
  generalize hH2 : upd (upd H l (.lst (nv kk.starts))) l _ = H2
  have s2 : Same H H2 := fun b o e => by
    rw [← hH2, upd_ne (ne_of_none e hl)]
    exact s1 _ _ e
  have gl : H2 l = some (.lst (nv (keptBy kk c).starts)) := by
    rw [← hH2, upd_same]
    refine congrArg (fun z => some (HO.lst z)) ?_
    show (nv kk.starts).set c (V.int (if (4294967295 : Int) < ((kk.starts.getD c 0 : Nat) : Int) + 1 then 4294967295 else ((kk.starts.getD c 0 : Nat) : Int) + 1)) = nv (Se05.counted kk.starts c)
    rw [counted_set h4 hc]
    show _ = List.map _ _
    rw [List.map_set]
    have e := min_int (kk.starts.getD c 0 + 1) 4294967295
    refine congrArg (fun z => (nv kk.starts).set c (V.int z)) ?_
    exact e
  have fin : ∀ q : Nat, q = (keptBy kk c).quick → ∀ cl', H2 cl' = none → ∀ x dx', (upd H2 cl' (.lst [])) x = none → (upd H2 cl' (.lst [])) dx' = none → ∀ H3, H3 x = some (.ins a.Kept dx' (kf l (q : Int) 0 cl')) →
      (∀ b, b ≠ x → H3 b = (upd (upd (upd H2 cl' (.lst [])) dx' (.own x)) x (.ins a.Kept dx' [])) b) → Q (.ref x) H3 := by
    intro q hq cl' hcl' x dx' nx ndx H3 e1 e2
    subst hq
    have s3 := same_upd (o := .lst []) hcl'
    have n : l ≠ cl' := ne_of_none gl hcl'
    exact made_of (k := keptBy kk c) (ts := []) k (s2.trans s3) nx ndx e1 e2 (s3 _ _ gl) upd_same .nil hl (s2.free hcl') (fun t ht => by cases ht) (by simp [n])
  refine ⟨_, rfl, p, a.Kept, dx, _, _, rfl, s2 _ _ h1, T.k_Kept, T.a_Kept_quick, rfl, ?_⟩
  refine ⟨_, rfl, rfl, _, rfl, ite2 (fun e => ?_) (fun e => ?_)⟩
  · have e : c = 1 := by have := V.int.inj (of_decide_eq_true e); omega
    refine ⟨_, rfl, _, _, rfl, rfl, _, _, rfl, ?_⟩
    refine ⟨_, rfl, _, rfl, Nat.zero_le _, fun cl' hcl' => ?_⟩
    intro x dx' nx ndx nxd
    refine ⟨x, dx', l, cl', _, 0, rfl, upd_same, fun H3 e1 e2 => ⟨rfl, ?_⟩⟩
    refine fin (min (kk.quick + 1) 255) ?_ cl' hcl' x dx' nx ndx H3 ?_ e2
    · show _ = if c = 1 then Se05.upTo (kk.quick + 1) 255 else kk.quick
      rw [if_pos e]
      rfl
    · rw [e1, ← min_int (kk.quick + 1) 255]
      rfl
  · have e : ¬ c = 1 := fun q => e (decide_eq_true (by rw [q]; rfl))
    refine ⟨_, rfl, _, rfl, Nat.zero_le _, fun cl' hcl' => ?_⟩
    intro x dx' nx ndx nxd
    refine ⟨x, dx', l, cl', _, 0, rfl, upd_same, fun H3 e1 e2 => ⟨rfl, ?_⟩⟩
    refine fin kk.quick ?_ cl' hcl' x dx' nx ndx H3 e1 e2
    show _ = if c = 1 then Se05.upTo (kk.quick + 1) 255 else kk.quick
    rw [if_neg e]
theorem num4_eq (b : List Nat) {i : Nat} (h : i + 4 ≤ b.length) : numLE (sub b i 4) = Se05.num4 b i := by
  rw [sub_cons (by omega), sub_cons (by omega), sub_cons (by omega), sub_cons (by omega), sub_zero]
  unfold Se05.num4
  show (((0 * 256 + b.getD (i + 3) 0) * 256 + b.getD (i + 2) 0) * 256 + b.getD (i + 1) 0) * 256 + b.getD i 0 = _
  omega
theorem num2_eq (b : List Nat) {i : Nat} (h : i + 2 ≤ b.length) : numLE (sub b i 2) = b.getD i 0 + 256 * b.getD (i + 1) 0 := by
  rw [sub_cons (by omega), sub_cons (by omega), sub_zero]
  show (0 * 256 + b.getD (i + 1) 0) * 256 + b.getD i 0 = _
  omega
def spRead (K : PySem.W.Frag) (C : Addr) : Sp := fun vs H Q _ => ∃ (p : Addr) (b : List Nat), vs = [.ref p] ∧ SqL K H p (nv b) ∧ b.length = 49 ∧ b.getD 20 0 ≤ 8 ∧ Made C H (Se05.told b) Q
theorem ok_read_block (T : Txt K mg a) : Fn P w K mg base 3 "read_block" ["octets"] (spRead K a.Kept) := by
  refine Fn.mk T.f_read_block sc_read_block bd_read_block (fun vs H Q E h => by obtain ⟨p, b, rfl, _⟩ := h; rfl) (fun f cdv A outer s H vs Q E hr h => ?_)
  obtain ⟨p, b, rfl, hS, hl, h8, k⟩ := h
  have nd := sc_read_block.nd
  have hr1 : Room 1 _ := hr.mono (by decide)
  refine ⟨_, pss_cons (ps_set (i := 1) nd rfl (Or.inl rfl) (pe_lst pa_nil))
    (pss_cons (ps_for PassesOwn.never rfl (pi_range3 rfl T.b_range (pa_cons (pe_cn T.c_STARTS_AT) (pa_cons (pe_cn T.c_QUICK_AT) (pa_cons (pe_cn T.c_START_SIZE) pa_nil)))) (pg_name (i := 2) nd rfl (Or.inl rfl))
      (pss_one (ps_expr (pe_bm PySem.F.plainAttrs_list PySem.F.slot_list_append PySem.F.type_list_append mt_append (pv 1) (pa_cons (pe_fn (ok_number_from T) hr1 (pa_cons (pe_slice sl_list (pv 0) (po_some (pv 2)) (po_some (pe_op op_add (pv 2) (pe_cn T.c_START_SIZE)))) pa_nil)) pa_nil)))))
    (pss_cons (ps_set (i := 3) nd rfl (Or.inl rfl) (pe_lst pa_nil))
    (pss_cons (ps_for PassesOwn.never rfl (pi_range3 rfl T.b_range (pa_cons (pe_cn T.c_CRUMBS_AT) (pa_cons (pe_fn (ok_crumbs_end T) hr1 (pa_cons (pv 0) pa_nil)) (pa_cons (pe_cn T.c_CRUMB_SIZE) pa_nil)))) (pg_name (i := 2) nd rfl (Or.inl rfl))
      (pss_one (ps_expr (pe_bm PySem.F.plainAttrs_list PySem.F.slot_list_append PySem.F.type_list_append mt_append (pv 3) (pa_cons (pe_tup (pa_cons (pe_ix ix_list (pv 0) (pv 2) (fun _ _ => rfl)) (pa_cons (pe_fn (ok_number_from T) hr1 (pa_cons (pe_slice sl_list (pv 0) (po_some (pe_op op_add (pv 2) pe_int)) (po_some (pe_op op_add (pv 2) (pe_cn T.c_CRUMB_SIZE)))) pa_nil)) pa_nil))) pa_nil)))))
    (pss_one (ps_ret (pe_mk (ok_Kept T) hr (pa_cons (pv 1) (pa_cons (pe_ix ix_list (pv 0) (pe_cn T.c_QUICK_AT) (fun _ _ => rfl)) (pa_cons (pe_ix ix_list (pv 0) (pe_cn T.c_DOOMED_AT) (fun _ _ => rfl)) (pa_cons (pv 3) pa_nil)))))))))), ?_⟩
  refine ⟨Nat.zero_le _, fun sl hsl => ?_⟩
  have s0 := same_upd (o := .lst []) hsl
  refine ⟨_, _, _, 4, rfl, ⟨by decide, by decide, by decide, by decide⟩, for_rangeC (fun i σ H' => Same H H' ∧ H' sl = some (.lst (nv ((List.range i).map fun j => Se05.num4 b (2 + 4 * j)))) ∧ ∃ v2 : Option V, σ = [some (.ref p), some (.ref sl), v2, none])
    ⟨s0, upd_same, none, rfl⟩ ?_ ?_⟩
  · rintro i σ H' hi ⟨s5, hs, v2, rfl⟩
    have ec : cutV (nv b) (some ((2 : Int) + (i : Nat) * 4)) (some ((2 : Int) + (i : Nat) * 4 + 4)) = nv (sub b (2 + 4 * i) 4) := by
      rw [show (2 : Int) + (i : Nat) * 4 = ((2 + 4 * i : Nat) : Int) by omega, show ((2 + 4 * i : Nat) : Int) + 4 = ((2 + 4 * i + 4 : Nat) : Int) by omega, cut_nv (by omega) (by omega)]
      unfold sub
      rw [show 2 + 4 * i + 4 - (2 + 4 * i) = 4 by omega]
    refine ⟨_, rfl, .inl ⟨rfl, _, SqL.of hs⟩, _, rfl, _, rfl, _, rfl, _, rfl, _, _, rfl, rfl, _, rfl, p, nv b, rfl, s5.seq hS, fun l hl' => ?_⟩
    have s6 := same_upd (o := .lst (cutV (nv b) (some ((2 : Int) + (i : Nat) * 4)) (some ((2 : Int) + (i : Nat) * 4 + 4)))) hl'
    refine ⟨l, sub b (2 + 4 * i) 4, rfl, SqL.of (upd_same.trans (congrArg (fun z => some (HO.lst z)) ec)), trivial, fun H2 s7 => ?_⟩
    have hs2 := s7 _ _ (s6 _ _ hs)
    refine ⟨sl, _, _, rfl, rfl, hs2, ?_, ?_⟩
    · rw [List.length_map, List.length_map, List.length_range]
      exact Nat.lt_of_lt_of_le hi (by decide)
    · refine ⟨fun x o e => ?_, ?_, _, rfl⟩
      · rw [upd_ne (ne_of_none e hsl)]
        exact s7 _ _ (s6 _ _ (s5 _ _ e))
      · rw [upd_same, List.range_succ, List.map_append]
        show some (HO.lst (nv ((List.range i).map fun j => Se05.num4 b (2 + 4 * j)) ++ [V.int (numLE (sub b (2 + 4 * i) 4) : Nat)])) = some (HO.lst (List.map (fun (n : Nat) => V.int (n : Int)) (((List.range i).map fun j => Se05.num4 b (2 + 4 * j)) ++ [Se05.num4 b (2 + 4 * i)])))
        rw [List.map_append, num4_eq b (by omega)]
        rfl
  · rintro σ H1 ⟨s5, hs, v2, rfl⟩
    refine ⟨Nat.zero_le _, fun cl hcl => ?_⟩
    have s6 := same_upd (o := .lst []) hcl
    have ncs : sl ≠ cl := ne_of_none hs hcl
    refine ⟨_, rfl, p, b, rfl, s6.seq (s5.seq hS), by omega, fun H2 s7 => ?_⟩
    have s8 := (s5.trans s6).trans s7
    refine ⟨_, _, _, b.getD 20 0, rfl, range_m h8, for_rangeC (fun i σ H' => Same H H' ∧ H' sl = some (.lst (nv ((List.range 4).map fun j => Se05.num4 b (2 + 4 * j)))) ∧
        (∃ ts, H' cl = some (.lst (ts.map V.ref)) ∧ Paired (CrAt H') ts ((List.range i).map fun (j : Nat) => (⟨b.getD (21 + 3 * j) 0, b.getD (22 + 3 * j) 0 + 256 * b.getD (23 + 3 * j) 0⟩ : Se05.Crumb)) ∧ (∀ t ∈ ts, H t = none) ∧ (sl :: cl :: ts).Nodup) ∧
        ∃ v2 : Option V, σ = [some (.ref p), some (.ref sl), v2, some (.ref cl)])
      ⟨s8, s7 _ _ (s6 _ _ hs), ⟨[], s7 _ _ upd_same, .nil, (fun t ht => by cases ht), by simp [ncs]⟩, _, rfl⟩ ?_ ?_⟩
    · rintro i σ H' hi ⟨t5, hs', ⟨ts, hc', hp', ht', nd'⟩, v2, rfl⟩
      have hz : (21 : Int) + (i : Nat) * 3 = ((21 + 3 * i : Nat) : Int) := by omega
      have ec : cutV (nv b) (some ((21 : Int) + (i : Nat) * 3 + 1)) (some ((21 : Int) + (i : Nat) * 3 + 3)) = nv (sub b (22 + 3 * i) 2) := by
        rw [show (21 : Int) + (i : Nat) * 3 + 1 = ((22 + 3 * i : Nat) : Int) by omega, show (21 : Int) + (i : Nat) * 3 + 3 = ((24 + 3 * i : Nat) : Int) by omega, cut_nv (by omega) (by omega)]
        unfold sub
        rw [show 24 + 3 * i - (22 + 3 * i) = 2 by omega]
      refine ⟨_, rfl, .inl ⟨rfl, _, SqL.of hc'⟩, _, rfl, _, rfl, p, _, _, _, rfl, rfl, t5.seq hS, at_nvI (i := 21 + 3 * i) hz (by omega), _, rfl, _, rfl, _, _, rfl, rfl, _, rfl, _, rfl, _, _, rfl, rfl, _, rfl, p, nv b, rfl, t5.seq hS, fun l hl' => ?_⟩
      have s9 := same_upd (o := .lst (cutV (nv b) (some ((21 : Int) + (i : Nat) * 3 + 1)) (some ((21 : Int) + (i : Nat) * 3 + 3)))) hl'
      refine ⟨l, sub b (22 + 3 * i) 2, rfl, SqL.of (upd_same.trans (congrArg (fun z => some (HO.lst z)) ec)), trivial, fun H3 s10 => ?_⟩
      refine ⟨(by show 2 ≤ sizeLine; decide), fun t htn => ?_⟩
      have s11 := (s9.trans s10)
      have s12 := same_upd (o := .tup [.int (b.getD (21 + 3 * i) 0 : Nat), .int (numLE (sub b (22 + 3 * i) 2) : Nat)]) htn
      have s13 := s11.trans s12
      have hlen : ts.length = i := by rw [Paired.length hp', List.length_map, List.length_range]
      have tcl : t ≠ cl := fun q => by
        have z := s11 _ _ hc'
        rw [← q, htn] at z
        cases z
      have ncl : ∀ t' ∈ ts, t' ≠ cl := fun t' h q => by
        subst q
        simp [h] at nd'
      refine ⟨cl, _, _, rfl, rfl, s13 _ _ hc', ?_, ?_⟩
      · rw [List.length_map, hlen]
        exact Nat.lt_of_lt_of_le hi (Nat.le_trans h8 (by decide))
      · refine ⟨fun x o e => ?_, ?_, ⟨ts ++ [t], ?_, ?_, fun t' h => ?_, ?_⟩, _, rfl⟩
        · rw [upd_ne (ne_of_none e ((s5.free hcl)))]
          exact s13 _ _ (t5 _ _ e)
        · rw [upd_ne ncs]
          exact s13 _ _ hs'
        · rw [upd_same, List.map_append]
          rfl
        · rw [List.range_succ, List.map_append]
          refine Paired.snoc (paired_imp hp' fun t' c h q => ?_) ?_
          · show upd _ _ _ t' = _
            rw [upd_ne (ncl t' h)]
            exact s13 _ _ q
          · show upd _ _ _ t = _
            rw [upd_ne tcl, upd_same]
            show some (HO.tup [V.int (b.getD (21 + 3 * i) 0 : Nat), V.int (numLE (sub b (22 + 3 * i) 2) : Nat)]) = some (HO.tup [V.int (b.getD (21 + 3 * i) 0 : Nat), V.int ((b.getD (22 + 3 * i) 0 + 256 * b.getD (23 + 3 * i) 0 : Nat) : Int)])
            have e1 : 22 + 3 * i + 1 = 23 + 3 * i := by omega
            rw [num2_eq b (by omega), e1]
        · rcases List.mem_append.mp h with h | h
          · exact ht' t' h
          · have e : t' = t := by simpa using h
            rw [e]
            exact (t5.trans s11).free htn
        · refine nd_snoc nd' (k := t) fun hm => ?_
          rcases List.mem_cons.mp hm with q | hm
          · have z := s11 _ _ hs'
            rw [← q, htn] at z
            cases z
          rcases List.mem_cons.mp hm with q | hm
          · exact tcl q
          have go : ∀ (l : List Addr) (m : List Se05.Crumb), Paired (CrAt H') l m → t ∈ l → False := by
            intro l m q
            induction q with
            | nil => intro hb; cases hb
            | @cons t0 c l1 l2 r _ ih =>
              intro hb
              rcases List.mem_cons.mp hb with rfl | hb
              · have z := s11 _ _ r
                rw [htn] at z; cases z
              · exact ih hb
          exact go _ _ hp' hm
    · rintro σ H' ⟨t5, hs', ⟨ts, hc', hp', ht', nd'⟩, v2, rfl⟩
      refine ⟨_, rfl, _, rfl, p, _, _, _, rfl, rfl, t5.seq hS, at_nv (i := 18) (by omega), _, rfl, p, _, _, _, rfl, rfl, t5.seq hS, at_nv (i := 19) (by omega), _, rfl, ?_⟩
      intro x dx nx ndx nxd
      refine ⟨x, dx, sl, cl, _, _, rfl, upd_same, fun H3 e1 e2 => ⟨rfl, ?_⟩⟩
      exact made_of (k := Se05.told b) (ts := ts) k t5 nx ndx e1 e2 hs' hc' hp' hsl (s5.free hcl) ht' nd'
end
end Tw
end
section
set_option Elab.async false
set_option linter.all false
set_option maxRecDepth 100000
set_option maxHeartbeats 2000000
namespace Tw
open PySem PySem.Spec PyProof.Rows L2
/-! ### a task -/
def phN : Se05.Phase → Nat
  | .waits _ => 0
  | .runs _ => 1
  | .stands => 2
def phM : Se05.Phase → Nat
  | .waits d => d
  | .runs d => d
  | .stands => 0
def tf (r : Se05.Rule) (ph : Se05.Phase) (heard place : Nat) (late : Bool) (wait : Nat) (tl : Addr) : List (Str × V) :=
  [("limit", .int (r.limit : Int)), ("rank", .int (r.rank : Int)), ("most", .int (r.most : Int)), ("span", .int (r.span : Int)), ("first", .int (r.first : Int)), ("main", .int (r.main.toNat : Int)),
   ("phase", .int (phN ph : Int)), ("moment", .int (phM ph : Int)), ("heard", .int (heard : Int)), ("place", .int (place : Int)), ("late", .bl late), ("wait", .int (wait : Int)), ("times", .ref tl)]
abbrev tfj (j : Se05.Job) (tl : Addr) : List (Str × V) := tf j.rule j.phase j.heard j.place j.late j.wait tl
/-- an object of Task stands at p for j (but for its number); L: its parts -/
def TaskAt (C : Addr) (H : Hp) (p : Addr) (j : Se05.Job) (L : List Addr) : Prop := ∃ dx tl, L = [p, tl] ∧ p ≠ tl ∧ H p = some (.ins C dx (tfj j tl)) ∧ H tl = some (.lst (nv j.again))
theorem TaskAt.mem {C : Addr} {H : Hp} {p : Addr} {j : Se05.Job} {L : List Addr} (h : TaskAt C H p j L) : ∀ b ∈ L, H b ≠ none := by
  obtain ⟨dx, tl, rfl, n, h1, h2⟩ := h
  intro b hb
  rcases List.mem_cons.mp hb with rfl | hb
  · rw [h1]; intro z; cases z
  rcases List.mem_cons.mp hb with rfl | hb
  · rw [h2]; intro z; cases z
  cases hb
theorem TaskAt.loc {C : Addr} {H H' : Hp} {p : Addr} {j : Se05.Job} {L : List Addr} (h : TaskAt C H p j L) (e : ∀ b ∈ L, H' b = H b) : TaskAt C H' p j L := by
  obtain ⟨dx, tl, rfl, n, h1, h2⟩ := h
  exact ⟨dx, tl, rfl, n, (e _ (by simp)).trans h1, (e _ (by simp)).trans h2⟩
theorem TaskAt.kp {C : Addr} {H H' : Hp} {p : Addr} {j : Se05.Job} {L M : List Addr} (h : TaskAt C H p j L) (f : Kp M H H') (d : ∀ b ∈ L, b ∉ M) : TaskAt C H' p j L := h.loc fun b hb => by
  cases e : H b with
  | none => exact absurd e (h.mem b hb)
  | some o => exact f b o e (d b hb)
/-- the number is not written in it -/
theorem TaskAt.num {C : Addr} {H : Hp} {p : Addr} {j : Se05.Job} {L : List Addr} (h : TaskAt C H p j L) (n : Nat) : TaskAt C H p { j with number := n } L := h
section
variable {P : Program} {w : World} {K : PySem.W.Frag} {mg : Str → Option Value} {base : Heap} {a : Ad}
/-- only p is written -/
abbrev At (p : Addr) (H H' : Hp) : Prop := ∀ b, b ≠ p → H' b = H b
theorem TaskAt.put {C : Addr} {H H' : Hp} {p dx tl : Addr} {j' : Se05.Job} (n : p ≠ tl) (h1 : H' p = some (.ins C dx (tfj j' tl))) (h2 : H tl = some (.lst (nv j'.again))) (f : At p H H') : TaskAt C H' p j' [p, tl] :=
  ⟨dx, tl, rfl, n, h1, (f tl (Ne.symm n)).trans h2⟩
theorem At.kp {p : Addr} {L : List Addr} {H H' : Hp} (h : At p H H') (hp : p ∈ L) : Kp L H H' := fun b o e hb => (h b (fun q => hb (by rw [q]; exact hp))).trans e
theorem At.alive {p : Addr} {H H' : Hp} (f : At p H H') (hp : H' p ≠ none) : Alive H H' := fun b e => by
  by_cases q : b = p
  · rw [q] at e; exact absurd e hp
  · rw [f b q] at e; exact e
theorem at0 {p : Addr} {H : Hp} : At p H H := fun _ _ => rfl
theorem at1 {p : Addr} {H H' : Hp} {o : HO} (h : At p H H') : At p H (upd H' p o) := fun b hb => (upd_ne hb).trans (h b hb)
/-- Task(..) -/
def spTask (C : Addr) : Sp := fun vs H Q _ => ∃ (p dx : Addr) (r : Se05.Rule) (now : Nat), vs = [.ref p, .int (r.limit : Int), .int (r.rank : Int), .int (r.most : Int), .int (r.span : Int), .int (r.first : Int), .int (r.main.toNat : Int), .int (now : Int)] ∧ H p = some (.ins C dx []) ∧
  ∀ H' L n, TaskAt C H' p { number := n, rule := r, phase := .waits now, heard := now, wait := r.first } L → Kp [p] H H' → (∀ b ∈ L, b = p ∨ H b = none) → Q .non H'
theorem ok_Task (T : Txt K mg a) : Mkr P w K mg base 1 a.Task "Task" ["self", "limit", "rank", "most", "span", "first", "main", "now"] (spTask a.Task) := by
  refine Mkr.mk T.i_Task sc_Task_init bd_Task_init (fun vs H Q E h => by obtain ⟨p, dx, r, now, rfl, _⟩ := h; rfl) (fun f cdv A outer s H vs Q E hr h => ?_)
  obtain ⟨p, dx, r, now, rfl, hp, k⟩ := h
  refine ⟨_, pss_cons (ps_fld (pv 0) (pv 1) rfl) (pss_cons (ps_fld (pv 0) (pv 2) rfl) (pss_cons (ps_fld (pv 0) (pv 3) rfl) (pss_cons (ps_fld (pv 0) (pv 4) rfl) (pss_cons (ps_fld (pv 0) (pv 5) rfl) (pss_cons (ps_fld (pv 0) (pv 6) rfl)
    (pss_cons (ps_fld (pv 0) (pe_cn T.c_WAITS) rfl) (pss_cons (ps_fld (pv 0) (pv 7) rfl) (pss_cons (ps_fld (pv 0) (pv 7) rfl) (pss_cons (ps_fld (pv 0) pe_int rfl) (pss_cons (ps_fld (pv 0) pe_bl rfl) (pss_cons (ps_fld (pv 0) (pv 5) rfl) (pss_one (ps_fld (pv 0) (pe_lst pa_nil) rfl))))))))))))), ?_⟩
  refine ⟨_, rfl, _, rfl, p, a.Task, dx, [], rfl, hp, T.k_Task, T.a_Task_limit, (by decide), ?_⟩
  refine ⟨_, rfl, _, rfl, p, a.Task, dx, _, rfl, upd_same, T.k_Task, T.a_Task_rank, (by show 1 < 1000; decide), ?_⟩
  refine ⟨_, rfl, _, rfl, p, a.Task, dx, _, rfl, upd_same, T.k_Task, T.a_Task_most, (by show 2 < 1000; decide), ?_⟩
  refine ⟨_, rfl, _, rfl, p, a.Task, dx, _, rfl, upd_same, T.k_Task, T.a_Task_span, (by show 3 < 1000; decide), ?_⟩
  refine ⟨_, rfl, _, rfl, p, a.Task, dx, _, rfl, upd_same, T.k_Task, T.a_Task_first, (by show 4 < 1000; decide), ?_⟩
  refine ⟨_, rfl, _, rfl, p, a.Task, dx, _, rfl, upd_same, T.k_Task, T.a_Task_main, (by show 5 < 1000; decide), ?_⟩
  refine ⟨_, rfl, p, a.Task, dx, _, rfl, upd_same, T.k_Task, T.a_Task_phase, (by show 6 < 1000; decide), ?_⟩
  refine ⟨_, rfl, _, rfl, p, a.Task, dx, _, rfl, upd_same, T.k_Task, T.a_Task_moment, (by show 7 < 1000; decide), ?_⟩
  refine ⟨_, rfl, _, rfl, p, a.Task, dx, _, rfl, upd_same, T.k_Task, T.a_Task_heard, (by show 8 < 1000; decide), ?_⟩
  refine ⟨_, rfl, p, a.Task, dx, _, rfl, upd_same, T.k_Task, T.a_Task_place, (by show 9 < 1000; decide), ?_⟩
  refine ⟨_, rfl, p, a.Task, dx, _, rfl, upd_same, T.k_Task, T.a_Task_late, (by show 10 < 1000; decide), ?_⟩
  refine ⟨_, rfl, _, rfl, p, a.Task, dx, _, rfl, upd_same, T.k_Task, T.a_Task_wait, (by show 11 < 1000; decide), ?_⟩
  refine ⟨Nat.zero_le _, fun tl htl => ?_⟩
  have n : p ≠ tl := fun q => by rw [← q, upd_same] at htl; cases htl
  refine ⟨_, rfl, p, a.Task, dx, _, rfl, (by rw [upd_ne n]; exact upd_same), T.k_Task, T.a_Task_times, (by show 12 < 1000; decide), ?_⟩
  have htl' : H tl = none := by
    have q := htl
    rw [upd_ne (Ne.symm n), upd_ne (Ne.symm n), upd_ne (Ne.symm n), upd_ne (Ne.symm n), upd_ne (Ne.symm n), upd_ne (Ne.symm n), upd_ne (Ne.symm n), upd_ne (Ne.symm n), upd_ne (Ne.symm n), upd_ne (Ne.symm n), upd_ne (Ne.symm n), upd_ne (Ne.symm n)] at q
    exact q
  refine k _ [p, tl] 0 ⟨dx, tl, rfl, n, upd_same, by rw [upd_ne (Ne.symm n), upd_same]; rfl⟩ (fun b o e hb => ?_) (fun b hb => ?_)
  · have hb : b ≠ p := fun q => hb (by rw [q]; simp)
    have hb2 : b ≠ tl := ne_of_none e htl'
    rw [upd_ne hb, upd_ne hb2, upd_ne hb, upd_ne hb, upd_ne hb, upd_ne hb, upd_ne hb, upd_ne hb, upd_ne hb, upd_ne hb, upd_ne hb, upd_ne hb, upd_ne hb, upd_ne hb]
    exact e
  · simp at hb
    rcases hb with rfl | rfl
    · exact .inl rfl
    · exact .inr htl'
/-- a method that writes the task alone and gives nothing -/
def spTo (C : Addr) (ar : List V → Prop) (g : List V → Se05.Job → Se05.Job → Prop) : Sp := fun vs H Q _ => ∃ (p : Addr) (rest : List V) (j j' : Se05.Job) (L : List Addr), vs = .ref p :: rest ∧ ar rest ∧ TaskAt C H p j L ∧ g rest j j' ∧ ∀ H', TaskAt C H' p j' L → At p H H' → Q .non H'
def spEnter (C : Addr) : Sp := fun vs H Q _ => ∃ (p : Addr) (ph : Se05.Phase) (j : Se05.Job) (L : List Addr), vs = [.ref p, .int (phN ph : Int), .int (phM ph : Int)] ∧ TaskAt C H p j L ∧ ∀ H', TaskAt C H' p { j with phase := ph } L → At p H H' → Q .non H'
theorem ok_enter (T : Txt K mg a) : Mt P w K mg base 1 a.Task "enter" ["self", "phase", "moment"] (spEnter a.Task) := by
  refine Mt.mk T.k_Task T.m_Task_enter sc_Task_enter bd_Task_enter (fun vs H Q E h => by obtain ⟨p, ph, j, L, rfl, _⟩ := h; rfl) (fun f cdv A outer s H vs Q E hr h => ?_)
  obtain ⟨p, ph, j, L, rfl, hT, k⟩ := h
  obtain ⟨dx, tl, rfl, n, h1, h2⟩ := hT
  refine ⟨_, pss_cons (ps_fld (pv 0) (pv 1) rfl) (pss_one (ps_fld (pv 0) (pv 2) rfl)), ?_⟩
  refine ⟨_, rfl, _, rfl, p, a.Task, dx, _, rfl, h1, T.k_Task, T.a_Task_phase, (by show 13 < 1000; decide), ?_⟩
  refine ⟨_, rfl, _, rfl, p, a.Task, dx, _, rfl, upd_same, T.k_Task, T.a_Task_moment, (by show 13 < 1000; decide), ?_⟩
  exact k _ (TaskAt.put n upd_same h2 (at1 (at1 at0))) (at1 (at1 at0))
def spStand (C : Addr) : Sp := fun vs H Q _ => ∃ (p : Addr) (j : Se05.Job) (L : List Addr), vs = [.ref p] ∧ TaskAt C H p j L ∧ ∀ H', TaskAt C H' p { j with phase := .stands } L → At p H H' → Q .non H'
theorem tfj_no (j : Se05.Job) (tl : Addr) : (tfj j tl).lookup ("enter" : Str) = none ∧ (tfj j tl).lookup ("stand" : Str) = none ∧ (tfj j tl).lookup ("is_overdue" : Str) = none ∧ (tfj j tl).lookup ("times_of_late" : Str) = none ∧ (tfj j tl).lookup ("look_in_time" : Str) = none ∧
    (tfj j tl).lookup ("turn_late" : Str) = none ∧ (tfj j tl).lookup ("stop_silent" : Str) = none := ⟨rfl, rfl, rfl, rfl, rfl, rfl, rfl⟩
theorem ok_stand (T : Txt K mg a) : Mt P w K mg base 2 a.Task "stand" ["self"] (spStand a.Task) := by
  refine Mt.mk T.k_Task T.m_Task_stand sc_Task_stand bd_Task_stand (fun vs H Q E h => by obtain ⟨p, j, L, rfl, _⟩ := h; rfl) (fun f cdv A outer s H vs Q E hr h => ?_)
  obtain ⟨p, j, L, rfl, hT, k⟩ := h
  obtain ⟨dx, tl, rfl, n, h1, h2⟩ := id hT
  refine ⟨_, pss_one (ps_expr (pe_mt (pv 0) (ok_enter T) hr (pa_cons (pe_cn T.c_STANDS) (pa_cons pe_int pa_nil)))), ?_⟩
  exact ⟨_, rfl, p, dx, _, rfl, h1, rfl, p, .stands, j, _, rfl, hT, fun H' h f => k H' h f⟩
def spOverdue (C : Addr) : Sp := fun vs H Q _ => ∃ (p : Addr) (now : Nat) (j : Se05.Job) (L : List Addr), vs = [.ref p, .int (now : Int)] ∧ TaskAt C H p j L ∧ Q (.bl (Se05.overdue now j)) H
theorem ok_is_overdue (T : Txt K mg a) : Mt P w K mg base 1 a.Task "is_overdue" ["self", "now"] (spOverdue a.Task) := by
  refine Mt.mk T.k_Task T.m_Task_is_overdue sc_Task_is_overdue bd_Task_is_overdue (fun vs H Q E h => by obtain ⟨p, now, j, L, rfl, _⟩ := h; rfl) (fun f cdv A outer s H vs Q E hr h => ?_)
  obtain ⟨p, now, j, L, rfl, hT, k⟩ := h
  obtain ⟨dx, tl, rfl, n, h1, h2⟩ := id hT
  refine ⟨_, pss_one (ps_ret (pe_and (pe_cmpR op_eq (pe_fld (pv 0) rfl) (pe_cn T.c_RUNS) (nomark _)) (pe_one (pe_cmpR op_le (pe_op op_add (pe_fld (pv 0) rfl) (pe_fld (pv 0) rfl)) (pv 1) (nomark _))))), ?_⟩
  refine ⟨_, rfl, p, a.Task, dx, _, _, rfl, h1, T.k_Task, T.a_Task_phase, rfl, rfl, _, rfl, ite2 (fun e => ?_) (fun e => ?_)⟩
  · refine ⟨_, rfl, p, a.Task, dx, _, _, rfl, h1, T.k_Task, T.a_Task_heard, rfl, _, rfl, p, a.Task, dx, _, _, rfl, h1, T.k_Task, T.a_Task_limit, rfl, _, _, rfl, rfl, _, rfl, _, _, rfl, rfl, ?_⟩
    have e : phN j.phase = 1 := by have := V.int.inj (of_decide_eq_true e); omega
    have e2 : Se05.overdue now j = decide ((j.heard : Int) + (j.rule.limit : Int) ≤ (now : Int)) := by
      unfold Se05.overdue
      cases q : j.phase with
      | runs d =>
        show decide (_ ≤ _) = _
        rw [decide_eq_decide]
        omega
      | waits d => rw [q] at e; cases e
      | stands => rw [q] at e; cases e
    rw [e2] at k
    exact k
  · have e : ¬ phN j.phase = 1 := fun q => e (decide_eq_true (by rw [q]; rfl))
    have e2 : Se05.overdue now j = false := by
      unfold Se05.overdue
      cases q : j.phase with
      | runs d => rw [q] at e; exact absurd rfl e
      | waits d => rfl
      | stands => rfl
    rw [e2] at k
    exact k
end
end Tw
end
section
set_option Elab.async false
set_option linter.all false
set_option maxRecDepth 100000
set_option maxHeartbeats 2000000
namespace Tw
open PySem PySem.Spec PyProof.Rows L2
section
variable {P : Program} {w : World} {K : PySem.W.Frag} {mg : Str → Option Value} {base : Heap} {a : Ad}
def spLate (C : Addr) : Sp := fun vs H Q _ => ∃ (p : Addr) (now : Nat) (j : Se05.Job) (L : List Addr), vs = [.ref p, .int (now : Int)] ∧ TaskAt C H p j L ∧ j.again.length ≤ 100000 ∧ ∀ l, H l = none → Q (.ref l) (upd H l (.lst (nv (Se05.lately now j))))
theorem ok_times_of_late (T : Txt K mg a) : Mt P w K mg base 1 a.Task "times_of_late" ["self", "now"] (spLate a.Task) := by
  refine Mt.mk T.k_Task T.m_Task_times_of_late sc_Task_times_of_late bd_Task_times_of_late (fun vs H Q E h => by obtain ⟨p, now, j, L, rfl, _⟩ := h; rfl) (fun f cdv A outer s H vs Q E hr h => ?_)
  obtain ⟨p, now, j, L, rfl, hT, hlen, k⟩ := h
  obtain ⟨dx, tl, rfl, n, h1, h2⟩ := id hT
  have nd := sc_Task_times_of_late.nd
  refine ⟨_, pss_one (ps_ret (pe_lc (tt := tTest (tOp (rI0 fun i j => .bl (decide (j < i))) (tOp (rI0 fun i j => .int (i + j)) (tVar 2) (tFld K (tVar 0) "span")) (tVar 1))) rfl nd (pi_list (pe_fld (pv 0) rfl)) (blkOk_by (own := [("then", 2)]) (by rfl)) (fun s H C cl fp => pg_name (i := 2) nd rfl (Or.inl rfl))
    (fun s H C cl fp => pts_one (pt_cmpR op_gt (pe_op op_add (pv 2) (pe_fld (pv 0) (by rfl))) (pv 1) (nomark _))) (fun s H C cl fp => pv 2))), ?_⟩
  refine ⟨_, rfl, p, a.Task, dx, _, _, rfl, h1, T.k_Task, T.a_Task_times, rfl, tl, rfl, ⟨_, SqL.of h2⟩, fun D hD => ?_⟩
  have npD : p ≠ D := ne_of_none h1 hD
  have ntD : tl ≠ D := ne_of_none h2 hD
  refine lc_list (K := K) (a := tl) (xs := nv j.again) (fun i H' => H' = upd H D (.lst (nv ((j.again.take i).filter fun (x : Nat) => decide (now < x + j.rule.span))))) rfl (fun i H' _ e => by subst e; exact SqL.of (by rw [upd_ne ntD]; exact h2)) ?_ ?_
  · rintro i x H' hi rfl
    obtain ⟨m, hm, rfl⟩ := nv_get hi
    refine ⟨rfl, _, rfl, _, rfl, p, a.Task, dx, _, _, rfl, (by rw [upd_ne npD]; exact h1), T.k_Task, T.a_Task_span, rfl, _, _, rfl, rfl, _, rfl, _, _, rfl, rfl, _, rfl, ite2 (fun e => ?_) (fun e => ?_)⟩
    · have e : now < m + j.rule.span := by have := of_decide_eq_true e; omega
      refine ⟨_, rfl, _, upd_same, ?_, ?_⟩
      · rw [List.length_map]
        have q1 := List.length_filter_le (fun (x : Nat) => decide (now < x + j.rule.span)) (j.again.take i)
        have q2 : (j.again.take i).length ≤ j.again.length := by rw [List.length_take]; omega
        exact Nat.lt_of_le_of_lt (Nat.le_trans q1 (Nat.le_trans q2 hlen)) (by decide)
      · rw [upd_upd, take_snoc hm, List.filter_append]
        have e2 : [m].filter (fun (x : Nat) => decide (now < x + j.rule.span)) = [m] := by rw [List.filter_cons, if_pos (decide_eq_true e)]; rfl
        rw [e2]
        refine congrArg (fun z => upd H D (HO.lst z)) ?_
        show _ = List.map _ _
        rw [List.map_append]
        rfl
    · have e : ¬ now < m + j.rule.span := fun q => e (decide_eq_true (by omega))
      show upd H D _ = upd H D _
      rw [take_snoc hm, List.filter_append]
      have e2 : [m].filter (fun (x : Nat) => decide (now < x + j.rule.span)) = [] := by rw [List.filter_cons, if_neg (by simpa using e)]; rfl
      rw [e2, List.append_nil]
  · rintro H' rfl
    rw [List.length_map, List.take_length]
    exact k D hD
/-- a look's end: the task is j' then, a new list tells ws -/
def Looked (C : Addr) (H : Hp) (p : Addr) (L : List Addr) (j' : Se05.Job) (ws : List Nat) (Q : VK) : Prop :=
  ∀ H' l L', TaskAt C H' p j' L' → H l = none → H' l = some (.lst (nv ws)) → Kp L H H' → Alive H H' → New L L' H → l ∉ L' → Q (.ref l) H'
def spTurnLate (C : Addr) : Sp := fun vs H Q _ => ∃ (p : Addr) (n : Nat) (j : Se05.Job) (L : List Addr), vs = [.ref p, .int (n : Int)] ∧ TaskAt C H p j L ∧ Looked C H p L { j with late := true } (if j.late = true then [] else [n]) Q
theorem ok_turn_late (T : Txt K mg a) : Mt P w K mg base 1 a.Task "turn_late" ["self", "thing"] (spTurnLate a.Task) := by
  refine Mt.mk T.k_Task T.m_Task_turn_late sc_Task_turn_late bd_Task_turn_late (fun vs H Q E h => by obtain ⟨p, n, j, L, rfl, _⟩ := h; rfl) (fun f cdv A outer s H vs Q E hr h => ?_)
  obtain ⟨p, m, j, L, rfl, hT, k⟩ := h
  obtain ⟨dx, tl, rfl, n, h1, h2⟩ := id hT
  refine ⟨_, pss_cons (ps_if (pt_val (pe_fld (pv 0) rfl)) (pss_one (ps_ret (pe_lst pa_nil))) pss_nil) (pss_cons (ps_fld (pv 0) pe_bl rfl) (pss_one (ps_ret (pe_lst (pa_cons (pv 1) pa_nil))))), ?_⟩
  refine ⟨_, rfl, p, a.Task, dx, _, _, rfl, h1, T.k_Task, T.a_Task_late, rfl, _, rfl, ite2 (fun e => ?_) (fun e => ?_)⟩
  · refine ⟨Nat.zero_le _, fun l hl => ?_⟩
    have np : p ≠ l := ne_of_none h1 hl
    have nt : tl ≠ l := ne_of_none h2 hl
    have ej : { j with late := true } = j := by cases j; simp at e; subst e; rfl
    refine k _ l [p, tl] ?_ hl (by rw [upd_same, if_pos e]; rfl) (same_kp (same_upd hl) _) (alive_refl H).upd (fun b hb => .inl hb) (by simp [Ne.symm np, Ne.symm nt])
    rw [ej]
    exact hT.loc fun b hb => upd_ne (by simp at hb; rcases hb with rfl | rfl; exact np; exact nt)
  · have e : j.late = false := by cases q : j.late; rfl; exact absurd q e
    refine ⟨_, rfl, p, a.Task, dx, _, rfl, h1, T.k_Task, T.a_Task_late, (by show 13 < 1000; decide), ?_⟩
    refine ⟨_, rfl, (by show 1 ≤ sizeLine; decide), fun l hl => ?_⟩
    have np : p ≠ l := fun q => by rw [← q, upd_same] at hl; cases hl
    have hl' : H l = none := by rw [upd_ne (Ne.symm np)] at hl; exact hl
    have nt : tl ≠ l := ne_of_none h2 hl'
    have t1 : TaskAt a.Task (upd H p (.ins a.Task dx (tfj { j with late := true } tl))) p { j with late := true } [p, tl] := TaskAt.put n upd_same h2 (at1 at0)
    refine k _ l [p, tl] ?_ hl' (by rw [upd_same, if_neg (by rw [e]; exact Bool.false_ne_true)]; rfl) (Kp.upd (at1 (o := .ins a.Task dx (tfj { j with late := true } tl)) at0 |>.kp (by simp)) (.inr hl')) (alive_refl H).upd.upd (fun b hb => .inl hb) (by simp [Ne.symm np, Ne.symm nt])
    exact t1.loc fun b hb => upd_ne (by simp at hb; rcases hb with rfl | rfl; exact np; exact nt)
/-- rank 1, overdue -/
def stopped (now : Nat) (j : Se05.Job) : Se05.Job × List Nat :=
  if j.rule.most ≤ (Se05.lately now j).length then ({ j with phase := .stands, again := Se05.lately now j }, [1, 5])
  else ({ j with phase := .waits (now + j.wait), again := Se05.lately now j ++ [now], wait := min (2 * j.wait) (64 * j.rule.first) }, [1])
def spStop (C : Addr) : Sp := fun vs H Q _ => ∃ (p : Addr) (now : Nat) (j : Se05.Job) (L : List Addr), vs = [.ref p, .int (now : Int)] ∧ TaskAt C H p j L ∧ j.again.length ≤ 100000 ∧ Looked C H p L (stopped now j).1 (stopped now j).2 Q
theorem ok_stop_silent (T : Txt K mg a) : Mt P w K mg base 3 a.Task "stop_silent" ["self", "now"] (spStop a.Task) := by
  refine Mt.mk T.k_Task T.m_Task_stop_silent sc_Task_stop_silent bd_Task_stop_silent (fun vs H Q E h => by obtain ⟨p, n, j, L, rfl, _⟩ := h; rfl) (fun f cdv A outer s H vs Q E hr h => ?_)
  obtain ⟨p, now, j, L, rfl, hT, hlen, k⟩ := h
  obtain ⟨dx, tl, rfl, n, h1, h2⟩ := id hT
  have hr1 : Room 1 _ := hr.mono (by decide)
  refine ⟨_, pss_cons (ps_fld (pv 0) (pe_mt (pv 0) (ok_times_of_late T) hr1 (pa_cons (pv 1) pa_nil)) rfl)
    (pss_cons (ps_if (pt_cmpR op_ge (pe_callB call_len_seq rfl T.b_len PySem.boot_len (pa_cons (pe_fld (pv 0) rfl) pa_nil)) (pe_fld (pv 0) rfl) (nomark _))
      (pss_cons (ps_expr (pe_mt0 (pv 0) (ok_stand T) hr)) (pss_one (ps_ret (pe_lst (pa_cons (pe_cn T.c_STOP) (pa_cons (pe_cn T.c_GIVE_UP) pa_nil)))))) pss_nil)
    (pss_cons (ps_expr (pe_mt (pv 0) (ok_enter T) hr1 (pa_cons (pe_cn T.c_WAITS) (pa_cons (pe_op op_add (pv 1) (pe_fld (pv 0) rfl)) pa_nil))))
    (pss_cons (ps_expr (pe_bm PySem.F.plainAttrs_list PySem.F.slot_list_append PySem.F.type_list_append mt_append (pe_fld (pv 0) rfl) (pa_cons (pv 1) pa_nil)))
    (pss_cons (ps_fld (pv 0) (pe_callB (call_min2 rfl) rfl T.b_min PyProof.Rows.boot_min (pa_cons (pe_op op_mul (pe_fld (pv 0) rfl) pe_int) (pa_cons (pe_op op_mul (pe_fld (pv 0) rfl) (pe_cn T.c_MOST_WAITS)) pa_nil))) rfl)
    (pss_one (ps_ret (pe_lst (pa_cons (pe_cn T.c_STOP) pa_nil)))))))), ?_⟩
  refine ⟨_, rfl, p, dx, _, rfl, h1, rfl, _, rfl, p, now, j, _, rfl, hT, hlen, fun l hl => ?_⟩
  have np : p ≠ l := ne_of_none h1 hl
  refine ⟨_, rfl, p, a.Task, dx, _, rfl, (by rw [upd_ne np]; exact h1), T.k_Task, T.a_Task_times, (by show 13 < 1000; decide), ?_⟩
  -- the task has a new list of times now
  generalize hH1 : upd (upd H l (.lst (nv (Se05.lately now j)))) p _ = H1
  have g1 : H1 p = some (.ins a.Task dx (tfj { j with again := Se05.lately now j } l)) := by rw [← hH1, upd_same]; rfl
  have g2 : H1 l = some (.lst (nv (Se05.lately now j))) := by rw [← hH1, upd_ne (Ne.symm np), upd_same]
  have k1 : Kp [p, tl] H H1 := by rw [← hH1]; exact Kp.upd (Kp.upd (Kp.refl _ _) (.inr hl)) (.inl (by simp))
  have t1 : TaskAt a.Task H1 p { j with again := Se05.lately now j } [p, l] := ⟨dx, l, rfl, np, g1, g2⟩
  have al1 : Alive H H1 := by rw [← hH1]; exact (alive_refl H).upd.upd
  have al2 : ∀ {H2 : Hp}, At p H1 H2 → H2 p ≠ none → Alive H H2 := fun {H2} f2 hp b e => by
    by_cases q : b = p
    · rw [q] at e; exact absurd e hp
    · rw [f2 b q] at e; exact al1 b e
  have hll : (Se05.lately now j).length ≤ 100000 := Nat.le_trans (List.length_filter_le _ _) hlen
  refine ⟨_, rfl, p, a.Task, dx, _, _, rfl, g1, T.k_Task, T.a_Task_times, rfl, l, _, rfl, .inl (SqL.of g2), _, rfl, p, a.Task, dx, _, _, rfl, g1, T.k_Task, T.a_Task_most, rfl, _, _, rfl, rfl, _, rfl, ite2 (fun e => ?_) (fun e => ?_)⟩
  · have e : j.rule.most ≤ (Se05.lately now j).length := by
      have := of_decide_eq_true e
      rw [List.length_map] at this
      have q : (j.rule.most : Int) ≤ ((Se05.lately now j).length : Int) := this
      omega
    refine ⟨_, rfl, p, dx, _, rfl, g1, rfl, p, _, _, rfl, t1, fun H2 t2 f2 => ?_⟩
    refine ⟨(by show 2 ≤ sizeLine; decide), fun l2 hl2 => ?_⟩
    have n2 : p ≠ l2 := fun q => by subst q; exact t2.mem p (by simp) hl2
    have n3 : l ≠ l2 := fun q => by subst q; exact t2.mem l (by simp) hl2
    have k2 : Kp [p, tl] H H2 := fun b o e' hb => by
      rw [f2 b (fun q => hb (by rw [q]; simp))]
      exact k1 b o e' hb
    have hl2' : H l2 = none := by
      cases q : H l2 with
      | none => rfl
      | some o =>
        by_cases hm : l2 ∈ [p, tl]
        · simp at hm
          rcases hm with rfl | rfl
          · exact absurd rfl n2
          · rw [f2 l2 (Ne.symm n2), ← hH1, upd_ne (Ne.symm n2), upd_ne (Ne.symm n3), h2] at hl2
            cases hl2
        · rw [k2 l2 o q hm] at hl2
          cases hl2
    have es : stopped now j = ({ j with phase := .stands, again := Se05.lately now j }, [1, 5]) := if_pos e
    rw [es] at k
    refine k _ l2 [p, l] ?_ hl2' upd_same (Kp.upd k2 (.inr hl2')) (al2 f2 (t2.mem p (by simp))).upd (fun b hb => ?_) (by simp [Ne.symm n2, Ne.symm n3])
    · exact t2.loc fun b hb => upd_ne (by simp at hb; rcases hb with rfl | rfl; exact n2; exact n3)
    · simp at hb
      rcases hb with rfl | rfl
      · exact .inl (by simp)
      · exact .inr hl
  · have e : ¬ j.rule.most ≤ (Se05.lately now j).length := fun q => e (decide_eq_true (by
      show (j.rule.most : Int) ≤ _
      rw [List.length_map]
      omega))
    refine ⟨_, rfl, p, dx, _, rfl, g1, rfl, _, rfl, _, rfl, p, a.Task, dx, _, _, rfl, g1, T.k_Task, T.a_Task_wait, rfl, _, _, rfl, rfl, p, .waits (now + j.wait), _, _, rfl, t1, fun H2 t2 f2 => ?_⟩
    obtain ⟨dx2, l', eL, _, q1, q2⟩ := id t2
    have el : l' = l := (List.cons.inj (List.cons.inj eL).2).1.symm
    subst el
    refine ⟨_, rfl, p, a.Task, dx2, _, _, rfl, q1, T.k_Task, T.a_Task_times, rfl, .inl ⟨rfl, _, SqL.of q2⟩, _, rfl, l', _, _, rfl, rfl, q2, ?_, ?_⟩
    · rw [List.length_map]
      exact Nat.lt_of_le_of_lt hll (by decide)
    have u1 : ∀ o, upd H2 l' o p = some (.ins a.Task dx2 (tfj { j with again := Se05.lately now j, phase := .waits (now + j.wait) } l')) := fun o => by rw [upd_ne np]; exact q1
    refine ⟨_, rfl, p, a.Task, dx2, _, _, rfl, u1 _, T.k_Task, T.a_Task_wait, rfl, _, _, rfl, rfl, .inr ⟨by decide, by decide⟩, _, rfl, p, a.Task, dx2, _, _, rfl, u1 _, T.k_Task, T.a_Task_first, rfl, _, _, rfl, rfl, .inr ⟨by decide, by decide⟩, _, _, rfl, _, rfl, p, a.Task, dx2, _, rfl, u1 _, T.k_Task, T.a_Task_wait, (by show 13 < 1000; decide), ?_⟩
    generalize hH3 : upd (upd H2 l' _) p _ = H3
    have es : stopped now j = ({ j with phase := .waits (now + j.wait), again := Se05.lately now j ++ [now], wait := min (2 * j.wait) (64 * j.rule.first) }, [1]) := if_neg e
    rw [es] at k
    have g3 : H3 p = some (.ins a.Task dx2 (tfj { j with phase := .waits (now + j.wait), again := Se05.lately now j ++ [now], wait := min (2 * j.wait) (64 * j.rule.first) } l')) := by
      rw [← hH3, upd_same]
      have ew : (if ((j.rule.first : Int) * 64) < ((j.wait : Int) * 2) then ((j.rule.first : Int) * 64) else ((j.wait : Int) * 2)) = ((min (2 * j.wait) (64 * j.rule.first) : Nat) : Int) := by
        by_cases h : 64 * j.rule.first < 2 * j.wait
        · rw [if_pos (by omega)]; omega
        · rw [if_neg (by omega)]; omega
      show some (HO.ins a.Task dx2 (tf j.rule (.waits (now + j.wait)) j.heard j.place j.late 0 l' |> putF "wait" (.int (if ((j.rule.first : Int) * 64) < ((j.wait : Int) * 2) then ((j.rule.first : Int) * 64) else ((j.wait : Int) * 2))))) = _
      rw [ew]
      rfl
    have g4 : H3 l' = some (.lst (nv (Se05.lately now j ++ [now]))) := by
      rw [← hH3, upd_ne (Ne.symm np), upd_same]
      refine congrArg (fun z => some (HO.lst z)) ?_
      show _ = List.map _ _
      rw [List.map_append]
      rfl
    have k3 : Kp [p, tl] H H3 := fun b o e' hb => by
      have b1 : b ≠ p := fun q => hb (by rw [q]; simp)
      have b2 : b ≠ l' := ne_of_none e' hl
      rw [← hH3, upd_ne b1, upd_ne b2, f2 b b1]
      exact k1 b o e' hb
    have t3 : TaskAt a.Task H3 p { j with phase := .waits (now + j.wait), again := Se05.lately now j ++ [now], wait := min (2 * j.wait) (64 * j.rule.first) } [p, l'] := ⟨dx2, l', rfl, np, g3, g4⟩
    refine ⟨(by show 1 ≤ sizeLine; decide), fun l2 hl2 => ?_⟩
    have n2 : p ≠ l2 := fun q => by subst q; exact t3.mem p (by simp) hl2
    have n3 : l' ≠ l2 := fun q => by subst q; exact t3.mem l' (by simp) hl2
    have htl3 : tl ≠ l' → H3 tl = some (.lst (nv j.again)) := fun q => by rw [← hH3, upd_ne (Ne.symm n), upd_ne q, f2 tl (Ne.symm n), ← hH1, upd_ne (Ne.symm n), upd_ne q]; exact h2
    have hl2' : H l2 = none := by
      cases q : H l2 with
      | none => rfl
      | some o =>
        by_cases hm : l2 ∈ [p, tl]
        · simp at hm
          rcases hm with rfl | rfl
          · exact absurd rfl n2
          · rw [htl3 (Ne.symm n3)] at hl2
            cases hl2
        · rw [k3 l2 o q hm] at hl2
          cases hl2
    refine k _ l2 [p, l'] ?_ hl2' upd_same (Kp.upd k3 (.inr hl2')) (by rw [← hH3]; exact (al2 f2 (t2.mem p (by simp))).upd.upd.upd) (fun b hb => ?_) (by simp [Ne.symm n2, Ne.symm n3])
    · exact t3.loc fun b hb => upd_ne (by simp at hb; rcases hb with rfl | rfl; exact n2; exact n3)
    · simp at hb
      rcases hb with rfl | rfl
      · exact .inl (by simp)
      · exact .inr hl
/-- not overdue -/
def inTime (now : Nat) (j : Se05.Job) : Se05.Job × List Nat := match j.phase with
  | .waits due => if due ≤ now then ({ j with phase := .runs now, heard := now, late := false }, [0]) else (j, [])
  | .runs since => (if since + j.rule.span ≤ now then { j with wait := j.rule.first } else j, [])
  | .stands => (j, [])
def spInTime (C : Addr) : Sp := fun vs H Q _ => ∃ (p : Addr) (now : Nat) (j : Se05.Job) (L : List Addr), vs = [.ref p, .int (now : Int)] ∧ TaskAt C H p j L ∧ Looked C H p L (inTime now j).1 (inTime now j).2 Q
/-- the end of a look that wrote the task alone, with a new list -/
theorem Looked.end_ {C : Addr} {H H1 : Hp} {p tl : Addr} {j' : Se05.Job} {ws : List Nat} {Q : VK} (k : Looked C H p [p, tl] j' ws Q) (t1 : TaskAt C H1 p j' [p, tl]) (f : At p H H1) (hp : H p ≠ none) : ∀ l, H1 l = none → Q (.ref l) (upd H1 l (.lst (nv ws))) := fun l hl => by
  have np : p ≠ l := fun q => by subst q; exact t1.mem p (by simp) hl
  have nt : tl ≠ l := fun q => by subst q; exact t1.mem tl (by simp) hl
  have hl' : H l = none := (f l (Ne.symm np)).symm.trans hl
  exact k _ l [p, tl] (t1.loc fun b hb => upd_ne (by simp at hb; rcases hb with rfl | rfl; exact np; exact nt)) hl' upd_same (Kp.upd (f.kp (by simp)) (.inr hl')) (At.alive f (t1.mem p (by simp))).upd (fun b hb => .inl hb) (by simp [Ne.symm np, Ne.symm nt])
theorem ok_look_in_time (T : Txt K mg a) : Mt P w K mg base 2 a.Task "look_in_time" ["self", "now"] (spInTime a.Task) := by
  refine Mt.mk T.k_Task T.m_Task_look_in_time sc_Task_look_in_time bd_Task_look_in_time (fun vs H Q E h => by obtain ⟨p, n, j, L, rfl, _⟩ := h; rfl) (fun f cdv A outer s H vs Q E hr h => ?_)
  obtain ⟨p, now, j, L, rfl, hT, k⟩ := h
  obtain ⟨dx, tl, rfl, n, h1, h2⟩ := id hT
  refine ⟨_, pss_cons (ps_if (PW.pt (pw_and (pt_cmpR op_eq (pe_fld (pv 0) rfl) (pe_cn T.c_WAITS) (nomark _)) (pw_and1 (pt_cmpR op_le (pe_fld (pv 0) rfl) (pv 1) (nomark _)))))
      (pss_cons (ps_expr (pe_mt (pv 0) (ok_enter T) hr (pa_cons (pe_cn T.c_RUNS) (pa_cons (pv 1) pa_nil)))) (pss_cons (ps_fld (pv 0) (pv 1) rfl) (pss_cons (ps_fld (pv 0) pe_bl rfl) (pss_one (ps_ret (pe_lst (pa_cons (pe_cn T.c_START) pa_nil))))))) pss_nil)
    (pss_cons (ps_if (PW.pt (pw_and (pt_cmpR op_eq (pe_fld (pv 0) rfl) (pe_cn T.c_RUNS) (nomark _)) (pw_and1 (pt_cmpR op_le (pe_op op_add (pe_fld (pv 0) rfl) (pe_fld (pv 0) rfl)) (pv 1) (nomark _)))))
      (pss_one (ps_fld (pv 0) (pe_fld (pv 0) rfl) rfl)) pss_nil)
    (pss_one (ps_ret (pe_lst pa_nil)))), ?_⟩
  have hp : H p ≠ none := by rw [h1]; intro z; cases z
  -- the tests, for any end
  have second : (∀ due, j.phase = .waits due → ¬ due ≤ now) → ∀ Qd : Bool → Hp → Prop, (∀ since, j.phase = .runs since → Qd (decide (since + j.rule.span ≤ now)) H) → ((∀ since, j.phase ≠ .runs since) → Qd false H) →
      tAnd (tTest (tOp rEq (tFld K (tVar 0) "phase") (tC (.int 1)))) (tTest (tOp (rI0 fun i j => .bl (decide (i ≤ j))) (tOp (rI0 fun i j => .int (i + j)) (tFld K (tVar 0) "moment") (tFld K (tVar 0) "span")) (tVar 1))) [some (.ref p), some (.int (now : Int))] H Qd := by
    intro _ Qd q1 q2
    refine ⟨_, rfl, p, a.Task, dx, _, _, rfl, h1, T.k_Task, T.a_Task_phase, rfl, ⟨rfl, _, rfl, ite2 (fun e => ?_) (fun e => ?_)⟩⟩
    · have e : phN j.phase = 1 := by have := V.int.inj (of_decide_eq_true e); omega
      cases q : j.phase with
      | waits d => rw [q] at e; cases e
      | stands => rw [q] at e; cases e
      | runs d =>
        refine ⟨_, rfl, p, a.Task, dx, _, _, rfl, h1, T.k_Task, T.a_Task_moment, rfl, ⟨_, rfl, p, a.Task, dx, _, _, rfl, h1, T.k_Task, T.a_Task_span, rfl, ⟨_, _, rfl, rfl, _, rfl, _, _, rfl, rfl, _, rfl, ?_⟩⟩⟩
        have z := q1 d q
        have ez : decide (((phM j.phase : Nat) : Int) + (j.rule.span : Int) ≤ (now : Int)) = decide (d + j.rule.span ≤ now) := by
          rw [q, decide_eq_decide]
          show ((d : Nat) : Int) + _ ≤ _ ↔ _
          omega
        rw [← ez] at z
        exact z
    · refine q2 fun d q => e (decide_eq_true ?_)
      rw [q]
      rfl
  have done_ : ∀ (j' : Se05.Job) (ws : List Nat), inTime now j = (j', ws) → Looked a.Task H p [p, tl] j' ws Q := fun j' ws e => by rw [e] at k; exact k
  -- behind the first test
  have rest : (∀ due, j.phase = .waits due → ¬ due ≤ now) → ∀ D : Ends, D.rt = Q →
      tSeq (tIfS (tAnd (tTest (tOp rEq (tFld K (tVar 0) "phase") (tC (.int 1)))) (tTest (tOp (rI0 fun i j => .bl (decide (i ≤ j))) (tOp (rI0 fun i j => .int (i + j)) (tFld K (tVar 0) "moment") (tFld K (tVar 0) "span")) (tVar 1)))) (sFld K (tVar 0) (tFld K (tVar 0) "first") "wait") tNext) (tRet (tLst tNil)) D [some (.ref p), some (.int (now : Int))] H := by
    intro nw D hD
    have plain : inTime now j = (j, []) → tRet (tLst tNil) D [some (.ref p), some (.int (now : Int))] H := fun e => by
      refine ⟨Nat.zero_le _, fun l hl => ?_⟩
      rw [hD]
      exact (done_ _ _ e).end_ hT at0 hp l hl
    refine second nw _ (fun since q => ?_) (fun q => ?_)
    · refine ite2 (fun e => ?_) (fun e => ?_)
      · have e := of_decide_eq_true e
        have ei : inTime now j = ({ j with wait := j.rule.first }, []) := by
          unfold inTime
          rw [q]
          show (if since + j.rule.span ≤ now then _ else _, _) = _
          rw [if_pos e]
        refine ⟨_, rfl, p, a.Task, dx, _, _, rfl, h1, T.k_Task, T.a_Task_first, rfl, ⟨_, rfl, p, a.Task, dx, _, rfl, h1, T.k_Task, T.a_Task_wait, (by show 13 < 1000; decide), Nat.zero_le _, fun l hl => ?_⟩⟩
        show D.rt _ _
        rw [hD]
        exact (done_ _ _ ei).end_ (TaskAt.put n upd_same h2 (at1 at0)) (at1 at0) hp l hl
      · have e : ¬ since + j.rule.span ≤ now := fun z => e (decide_eq_true z)
        refine plain ?_
        unfold inTime
        rw [q]
        show (if since + j.rule.span ≤ now then _ else _, _) = _
        rw [if_neg e]
    · refine plain ?_
      unfold inTime
      cases q2 : j.phase with
      | waits d =>
        show (if d ≤ now then _ else _) = _
        rw [if_neg (nw d q2)]
      | stands => rfl
      | runs d => exact absurd q2 (q d)
  refine ⟨_, rfl, p, a.Task, dx, _, _, rfl, h1, T.k_Task, T.a_Task_phase, rfl, ⟨rfl, _, rfl, ite2 (fun e => ?_) (fun e => ?_)⟩⟩
  · have e : phN j.phase = 0 := by have := V.int.inj (of_decide_eq_true e); omega
    obtain ⟨due, q⟩ : ∃ due, j.phase = .waits due := by
      cases q : j.phase with
      | waits d => exact ⟨d, rfl⟩
      | stands => rw [q] at e; cases e
      | runs d => rw [q] at e; cases e
    refine ⟨_, rfl, p, a.Task, dx, _, _, rfl, h1, T.k_Task, T.a_Task_moment, rfl, ⟨_, rfl, _, _, rfl, rfl, _, rfl, ite2 (fun e2 => ?_) (fun e2 => ?_)⟩⟩
    · have e2 : due ≤ now := by
        have z : ((phM j.phase : Nat) : Int) ≤ (now : Int) := of_decide_eq_true e2
        rw [q] at z
        have z : ((due : Nat) : Int) ≤ (now : Int) := z
        omega
      have ei : inTime now j = ({ j with phase := .runs now, heard := now, late := false }, [0]) := by
        unfold inTime
        rw [q]
        show (if due ≤ now then _ else _) = _
        rw [if_pos e2]
      refine ⟨_, rfl, p, dx, _, rfl, h1, rfl, _, rfl, p, .runs now, j, _, rfl, hT, fun H1 t1 f1 => ?_⟩
      obtain ⟨dx1, tl1, eL, n1, q1, q2⟩ := id t1
      have el : tl1 = tl := (List.cons.inj (List.cons.inj eL).2).1.symm
      subst el
      refine ⟨_, rfl, _, rfl, p, a.Task, dx1, _, rfl, q1, T.k_Task, T.a_Task_heard, (by show 13 < 1000; decide), ?_⟩
      refine ⟨_, rfl, p, a.Task, dx1, _, rfl, upd_same, T.k_Task, T.a_Task_late, (by show 13 < 1000; decide), ?_⟩
      refine ⟨(by show 1 ≤ sizeLine; decide), fun l hl => ?_⟩
      exact (done_ _ _ ei).end_ (TaskAt.put n upd_same h2 (at1 (at1 f1))) (at1 (at1 f1)) hp l hl
    · refine rest (fun d qd hd => e2 (decide_eq_true ?_)) _ rfl
      show ((phM j.phase : Nat) : Int) ≤ (now : Int)
      rw [qd]
      show ((d : Nat) : Int) ≤ (now : Int)
      omega
  · refine rest (fun d qd hd => e (decide_eq_true ?_)) _ rfl
    rw [qd]
    rfl
/-- what is wanted, by the program's numbers -/
def kindOf : Se05.Want → Nat
  | .start _ => 0
  | .halt_ _ => 1
  | .note _ => 2
  | .anew _ => 3
  | .feed => 4
  | .giveUp _ => 5
theorem look_eq (now : Nat) (j : Se05.Job) (hr : j.rule.rank ≤ 2) : ((Se05.look now j).1, (Se05.look now j).2.map kindOf) = if Se05.overdue now j = true then (if j.rule.rank = 0 then ({ j with late := true }, if j.late = true then [] else [2]) else if j.rule.rank = 1 then stopped now j else ({ j with late := true }, if j.late = true then [] else [3])) else inTime now j := by
  unfold Se05.look
  by_cases h : Se05.overdue now j = true
  · rw [if_pos h, if_pos h]
    by_cases h0 : j.rule.rank = 0
    · rw [if_pos h0, if_pos h0]
      cases j.late <;> rfl
    · rw [if_neg h0, if_neg h0]
      by_cases h1 : j.rule.rank = 1
      · rw [if_pos h1, if_pos h1]
        unfold stopped
        dsimp only
        by_cases h2 : j.rule.most ≤ (Se05.lately now j).length
        · rw [if_pos h2, if_pos h2]; rfl
        · rw [if_neg h2, if_neg h2]; rfl
      · rw [if_neg h1, if_neg h1]
        cases j.late <;> rfl
  · rw [if_neg h, if_neg h]
    unfold inTime
    cases q : j.phase with
    | waits d =>
      dsimp only
      by_cases hd : d ≤ now
      · rw [if_pos hd, if_pos hd]; rfl
      · rw [if_neg hd, if_neg hd]; rfl
    | runs d => rfl
    | stands => rfl
def spLookAt (C : Addr) : Sp := fun vs H Q _ => ∃ (p : Addr) (now : Nat) (j : Se05.Job) (L : List Addr), vs = [.ref p, .int (now : Int)] ∧ TaskAt C H p j L ∧ j.again.length ≤ 100000 ∧ j.rule.rank ≤ 2 ∧ Looked C H p L (Se05.look now j).1 ((Se05.look now j).2.map kindOf) Q
theorem ok_look_at (T : Txt K mg a) : Mt P w K mg base 4 a.Task "look_at" ["self", "now"] (spLookAt a.Task) := by
  refine Mt.mk T.k_Task T.m_Task_look_at sc_Task_look_at bd_Task_look_at (fun vs H Q E h => by obtain ⟨p, n, j, L, rfl, _⟩ := h; rfl) (fun f cdv A outer s H vs Q E hr h => ?_)
  obtain ⟨p, now, j, L, rfl, hT, hlen, h2r, k⟩ := h
  obtain ⟨dx, tl, rfl, n, h1, h2⟩ := id hT
  have hr1 : Room 1 _ := hr.mono (by decide)
  have hr2 : Room 2 _ := hr.mono (by decide)
  have le := look_eq now j h2r
  have kk : ∀ j' ws, ((Se05.look now j).1, (Se05.look now j).2.map kindOf) = (j', ws) → Looked a.Task H p [p, tl] j' ws Q := fun j' ws e => by
    have e1 := congrArg Prod.fst e
    have e2 := congrArg Prod.snd e
    dsimp only at e1 e2
    rw [e1, e2] at k
    exact k
  refine ⟨_, pss_cons (ps_if (pt_not (pt_val (pe_mt (pv 0) (ok_is_overdue T) hr1 (pa_cons (pv 1) pa_nil)))) (pss_one (ps_ret (pe_mt (pv 0) (ok_look_in_time T) hr2 (pa_cons (pv 1) pa_nil)))) pss_nil)
    (pss_cons (ps_if (pt_cmpR op_eq (pe_fld (pv 0) rfl) (pe_cn T.c_NOTED) (nomark _)) (pss_one (ps_ret (pe_mt (pv 0) (ok_turn_late T) hr1 (pa_cons (pe_cn T.c_NOTE) pa_nil)))) pss_nil)
    (pss_cons (ps_if (pt_cmpR op_eq (pe_fld (pv 0) rfl) (pe_cn T.c_STARTED_AGAIN) (nomark _)) (pss_one (ps_ret (pe_mt (pv 0) (ok_stop_silent T) hr (pa_cons (pv 1) pa_nil)))) pss_nil)
    (pss_one (ps_ret (pe_mt (pv 0) (ok_turn_late T) hr1 (pa_cons (pe_cn T.c_ANEW) pa_nil)))))), ?_⟩
  refine ⟨_, rfl, p, dx, _, rfl, h1, rfl, _, rfl, p, now, j, _, rfl, hT, _, rfl, ite2 (fun e => ?_) (fun e => ?_)⟩
  · have e : ¬ Se05.overdue now j = true := by cases q : Se05.overdue now j <;> simp [q] at e ⊢
    rw [if_neg e] at le
    exact ⟨_, rfl, p, dx, _, rfl, h1, rfl, _, rfl, p, now, j, _, rfl, hT, kk _ _ le⟩
  · have e : Se05.overdue now j = true := by cases q : Se05.overdue now j <;> simp [q] at e ⊢
    rw [if_pos e] at le
    refine ⟨_, rfl, p, a.Task, dx, _, _, rfl, h1, T.k_Task, T.a_Task_rank, rfl, rfl, _, rfl, ite2 (fun e0 => ?_) (fun e0 => ?_)⟩
    · have e0 : j.rule.rank = 0 := by have := V.int.inj (of_decide_eq_true e0); omega
      rw [if_pos e0] at le
      exact ⟨_, rfl, p, dx, _, rfl, h1, rfl, p, 2, j, _, rfl, hT, kk _ _ le⟩
    · have e0 : ¬ j.rule.rank = 0 := fun q => e0 (decide_eq_true (by rw [q]; rfl))
      rw [if_neg e0] at le
      refine ⟨_, rfl, p, a.Task, dx, _, _, rfl, h1, T.k_Task, T.a_Task_rank, rfl, rfl, _, rfl, ite2 (fun e1 => ?_) (fun e1 => ?_)⟩
      · have e1 : j.rule.rank = 1 := by have := V.int.inj (of_decide_eq_true e1); omega
        rw [if_pos e1] at le
        exact ⟨_, rfl, p, dx, _, rfl, h1, rfl, _, rfl, p, now, j, _, rfl, hT, hlen, kk _ _ le⟩
      · have e1 : ¬ j.rule.rank = 1 := fun q => e1 (decide_eq_true (by rw [q]; rfl))
        rw [if_neg e1] at le
        exact ⟨_, rfl, p, dx, _, rfl, h1, rfl, p, 3, j, _, rfl, hT, kk _ _ le⟩
def spHear (C : Addr) : Sp := fun vs H Q _ => ∃ (p : Addr) (pl now : Nat) (j : Se05.Job) (L : List Addr), vs = [.ref p, .int (pl : Int), .int (now : Int)] ∧ TaskAt C H p j L ∧ ∀ H', TaskAt C H' p { j with heard := now, place := pl, late := false } L → At p H H' → Q (.bl j.late) H'
theorem ok_hear (T : Txt K mg a) : Mt P w K mg base 1 a.Task "hear" ["self", "place", "now"] (spHear a.Task) := by
  refine Mt.mk T.k_Task T.m_Task_hear sc_Task_hear bd_Task_hear (fun vs H Q E h => by obtain ⟨p, pl, now, j, L, rfl, _⟩ := h; rfl) (fun f cdv A outer s H vs Q E hr h => ?_)
  obtain ⟨p, pl, now, j, L, rfl, hT, k⟩ := h
  obtain ⟨dx, tl, rfl, n, h1, h2⟩ := id hT
  have nd := sc_Task_hear.nd
  refine ⟨_, pss_cons (ps_set (i := 3) nd rfl (Or.inl rfl) (pe_fld (pv 0) rfl)) (pss_cons (ps_fld (pv 0) (pv 2) rfl) (pss_cons (ps_fld (pv 0) (pv 1) rfl) (pss_cons (ps_fld (pv 0) pe_bl rfl) (pss_one (ps_ret (pv 3)))))), ?_⟩
  refine ⟨_, rfl, p, a.Task, dx, _, _, rfl, h1, T.k_Task, T.a_Task_late, rfl, ?_⟩
  refine ⟨_, rfl, _, rfl, p, a.Task, dx, _, rfl, h1, T.k_Task, T.a_Task_heard, (by show 13 < 1000; decide), ?_⟩
  refine ⟨_, rfl, _, rfl, p, a.Task, dx, _, rfl, upd_same, T.k_Task, T.a_Task_place, (by show 13 < 1000; decide), ?_⟩
  refine ⟨_, rfl, p, a.Task, dx, _, rfl, upd_same, T.k_Task, T.a_Task_late, (by show 13 < 1000; decide), ?_⟩
  exact ⟨_, rfl, k _ (TaskAt.put n upd_same h2 (at1 (at1 (at1 at0)))) (at1 (at1 (at1 at0)))⟩
def spAfresh (C : Addr) : Sp := fun vs H Q _ => ∃ (p : Addr) (now : Nat) (j : Se05.Job) (L : List Addr), vs = [.ref p, .int (now : Int)] ∧ TaskAt C H p j L ∧ ∀ H' L', TaskAt C H' p { j with phase := .waits now, wait := j.rule.first, again := [], late := false } L' → Kp L H H' → Alive H H' → New L L' H → Q .non H'
theorem ok_wait_afresh (T : Txt K mg a) : Mt P w K mg base 2 a.Task "wait_afresh" ["self", "now"] (spAfresh a.Task) := by
  refine Mt.mk T.k_Task T.m_Task_wait_afresh sc_Task_wait_afresh bd_Task_wait_afresh (fun vs H Q E h => by obtain ⟨p, now, j, L, rfl, _⟩ := h; rfl) (fun f cdv A outer s H vs Q E hr h => ?_)
  obtain ⟨p, now, j, L, rfl, hT, k⟩ := h
  obtain ⟨dx, tl, rfl, n, h1, h2⟩ := id hT
  refine ⟨_, pss_cons (ps_expr (pe_mt (pv 0) (ok_enter T) hr (pa_cons (pe_cn T.c_WAITS) (pa_cons (pv 1) pa_nil)))) (pss_cons (ps_fld (pv 0) pe_bl rfl) (pss_cons (ps_fld (pv 0) (pe_fld (pv 0) rfl) rfl) (pss_one (ps_fld (pv 0) (pe_lst pa_nil) rfl)))), ?_⟩
  refine ⟨_, rfl, p, dx, _, rfl, h1, rfl, _, rfl, p, .waits now, j, _, rfl, hT, fun H1 t1 f1 => ?_⟩
  obtain ⟨dx1, tl1, eL, n1, q1, q2⟩ := id t1
  have el : tl1 = tl := (List.cons.inj (List.cons.inj eL).2).1.symm
  subst el
  refine ⟨_, rfl, p, a.Task, dx1, _, rfl, q1, T.k_Task, T.a_Task_late, (by show 13 < 1000; decide), ?_⟩
  refine ⟨_, rfl, p, a.Task, dx1, _, _, rfl, upd_same, T.k_Task, T.a_Task_first, rfl, _, rfl, p, a.Task, dx1, _, rfl, upd_same, T.k_Task, T.a_Task_wait, (by show 13 < 1000; decide), ?_⟩
  refine ⟨Nat.zero_le _, fun l hl => ?_⟩
  have np : p ≠ l := fun q => by rw [← q, upd_same] at hl; cases hl
  have hl' : H l = none := by
    rw [upd_ne (Ne.symm np), upd_ne (Ne.symm np), f1 l (Ne.symm np)] at hl
    exact hl
  refine ⟨_, rfl, p, a.Task, dx1, _, rfl, (by rw [upd_ne np]; exact upd_same), T.k_Task, T.a_Task_times, (by show 13 < 1000; decide), ?_⟩
  refine k _ [p, l] ⟨dx1, l, rfl, np, upd_same, by rw [upd_ne (Ne.symm np), upd_same]; rfl⟩ (fun b o e hb => ?_) (At.alive f1 (t1.mem p (by simp))).upd.upd.upd.upd (fun b hb => ?_)
  · have b1 : b ≠ p := fun q => hb (by rw [q]; simp)
    rw [upd_ne b1, upd_ne (ne_of_none e hl'), upd_ne b1, upd_ne b1, f1 b b1]
    exact e
  · simp at hb
    rcases hb with rfl | rfl
    · exact .inl (by simp)
    · exact .inr hl'
end
end Tw
end
section
set_option Elab.async false
set_option linter.all false
set_option maxRecDepth 100000
set_option maxHeartbeats 2000000
namespace Tw
open PySem PySem.Spec PyProof.Rows L2
/-! ### the module's tables -/
/-- a dict of texts and ints -/
def gk (g : List (Str × Int)) : List (Key × V) := g.map fun p => (Sum.inr p.1, V.int p.2)
/-- a number is in the range of its name -/
def inR (x : Str) (v : Int) : Bool := match RM.lookup x with
  | some (lo, hi) => decide (lo ≤ v) && decide (v ≤ hi)
  | none => false
section
variable {P : Program} {w : World} {K : PySem.W.Frag} {mg : Str → Option Value} {base : Heap} {a : Ad}
theorem mem_of_lookup {α β : Type} [BEq α] [LawfulBEq α] {x : α} {v : β} : ∀ {l : List (α × β)}, l.lookup x = some v → (x, v) ∈ l
  | [], h => by simp at h
  | (y, u) :: r, h => by
    rw [List.lookup_cons] at h
    by_cases e : (x == y) = true
    · rw [e] at h
      have e' := eq_of_beq e
      subst e'
      cases h
      exact List.mem_cons_self ..
    · have e2 : (x == y) = false := by cases q : (x == y); rfl; exact absurd q e
      rw [e2] at h
      exact List.mem_cons_of_mem _ (mem_of_lookup h)
def spInRanges : Sp := fun vs H Q _ => ∃ (d : Addr) (g : List (Str × Int)), vs = [.ref d] ∧ H d = some (.dK (gk g)) ∧ (∀ p ∈ g, (RM.lookup p.1).isSome = true) ∧ ∀ H', Same H H' → Q (.bl (g.all fun p => inR p.1 p.2)) H'
theorem ok_in_ranges (T : Txt K mg a) (B : Tbl P w K mg) : Fn P w K mg base 1 "in_ranges" ["given"] spInRanges := by
  refine Fn.mk T.f_in_ranges sc_in_ranges bd_in_ranges (fun vs H Q E h => by obtain ⟨p, g, rfl, _⟩ := h; rfl) (fun f cdv A outer s H vs Q E hr h => ?_)
  obtain ⟨d, g, rfl, hd, hg, k⟩ := h
  have nd := sc_in_ranges.nd
  obtain ⟨x, kvs, hx, hK, hall⟩ := B.rm
  refine ⟨_, pss_cons (ps_lock (ps_for PassesOwn.never rfl (pi_items (pv 0)) (pg_tup (n := 2) rfl (pgs_cons (pg_name (i := 1) nd rfl (Or.inl rfl)) (pgs_cons (pg_name (i := 2) nd rfl (Or.inl rfl)) pgs_nil)))
      (pss_cons (ps_set (i := 3) nd rfl (Or.inl rfl) (pe_kdget (pe_glob (v := V.ref x) rfl hx rfl) (pv 1) (fun _ _ => rfl)))
      (pss_one (ps_if (PW.pt (pw_or (pt_cmpR op_lt (pv 2) (pe_ix ix_tup (pv 3) pe_int (fun _ _ => rfl)) (nomark _)) (pw_or1 (pt_cmpR op_gt (pv 2) (pe_ix ix_tup (pv 3) pe_int (fun _ _ => rfl)) (nomark _))))) (pss_one (ps_ret pe_bl)) pss_nil)))))
    (pss_one (ps_ret pe_bl)), ?_⟩
  refine ⟨d, _, hd, trivial, fun od => ?_⟩
  have back : ∀ H', H' d = some (.frz od (.dK (gk g))) → (∀ b o, H b = some o → b ≠ d → H' b = some o) → Same H (upd H' d (.dK (gk g))) := fun H' _ q b o e => by
    by_cases hb : b = d
    · subst hb
      rw [upd_same, ← hd]
      exact e
    · rw [upd_ne hb]
      exact q b o e hb
  refine ⟨_, rfl, d, od, gk g, rfl, upd_same, for_gen (n := g.length) (fun i σ H' => H' d = some (.frz od (.dK (gk g))) ∧ (∀ b o, H b = some o → b ≠ d → H' b = some o) ∧ ((g.take i).all fun p => inR p.1 p.2) = true ∧ ∃ v1 v2 v3 : Option V, σ = [some (.ref d), v1, v2, v3])
    ⟨upd_same, fun b o e hb => (by rw [upd_ne hb]; exact e), rfl, none, none, none, rfl⟩ ?_ ?_ ?_ ?_⟩
  · rintro i σ H' hi ⟨h1, _⟩
    exact ⟨h1, by unfold gk; rw [List.length_map]; exact hi⟩
  · rintro σ H' ⟨h1, _⟩
    exact ⟨h1, by unfold gk; rw [List.length_map]; exact Nat.le_refl _⟩
  · rintro i σ H' hi ⟨h1, h2, h3, v1, v2, v3, rfl⟩ y H'' ⟨U, kk, v, he, rfl, hU, rfl⟩
    obtain ⟨pr, hpr, e1⟩ : ∃ pr, g[i]? = some pr ∧ (kk, v) = (Sum.inr pr.1, V.int pr.2) := by
      unfold gk at he
      rw [List.getElem?_map] at he
      cases e : g[i]? with
      | none => rw [e] at he; cases he
      | some z => rw [e] at he; exact ⟨z, rfl, (Option.some.inj he).symm⟩
    cases e1
    obtain ⟨nm, z⟩ := pr
    have hm : (nm, z) ∈ g := List.mem_of_getElem? hpr
    obtain ⟨⟨lo, hi'⟩, hr2⟩ := Option.isSome_iff_exists.mp (hg _ hm)
    obtain ⟨b, hb, hsq⟩ := hall nm lo hi' (mem_of_lookup hr2)
    have hUd : d ≠ U := ne_of_none h1 hU
    have g1 : (upd H' U (.tup [kV (Sum.inr nm), V.int z])) d = some (.frz od (.dK (gk g))) := by rw [upd_ne hUd]; exact h1
    have g2 : ∀ b o, H b = some o → b ≠ d → (upd H' U (.tup [kV (Sum.inr nm), V.int z])) b = some o := fun b o e hb => by
      have q := h2 b o e hb
      rw [upd_ne (ne_of_none q hU)]
      exact q
    have hin : inR nm z = (decide (lo ≤ z) && decide (z ≤ hi')) := by unfold inR; rw [hr2]
    have bad : inR nm z = false → (g.all fun p => inR p.1 p.2) = false := fun q => by
      cases e : (g.all fun p => inR p.1 p.2) with
      | false => rfl
      | true => have := List.all_eq_true.mp e _ hm; rw [q] at this; cases this
    have no : inR nm z = false → Q (.bl false) (upd (upd H' U (.tup [kV (Sum.inr nm), V.int z])) d (.dK (gk g))) := fun q => by
      have z2 := k _ (back _ g1 g2)
      rw [bad q] at z2
      exact z2
    refine ⟨U, _, rfl, SqT.of upd_same, rfl, _, _, rfl, _, _, rfl, rfl, ?_⟩
    refine ⟨_, rfl, x, kvs, Sum.inr nm, _, rfl, hK, rfl, hb, ?_⟩
    refine ⟨_, rfl, _, rfl, b, _, _, _, rfl, rfl, hsq _, rfl, _, _, rfl, rfl, _, rfl, ite2 (fun e => ?_) (fun e => ?_)⟩
    · have e : z < lo := of_decide_eq_true e
      refine iteT ⟨g1, no ?_⟩
      rw [hin, decide_eq_false (by omega)]
      rfl
    · have e : ¬ z < lo := fun q => e (decide_eq_true q)
      refine ⟨_, rfl, _, rfl, b, _, _, _, rfl, rfl, hsq _, rfl, _, _, rfl, rfl, _, rfl, ite2 (fun e2 => ?_) (fun e2 => ?_)⟩
      · have e2 : hi' < z := of_decide_eq_true e2
        refine ⟨g1, no ?_⟩
        rw [hin, decide_eq_false (show ¬ z ≤ hi' by omega), Bool.and_false]
      · have e2 : ¬ hi' < z := fun q => e2 (decide_eq_true q)
        refine ⟨g1, g2, ?_, _, _, _, rfl⟩
        rw [take_snoc hpr, List.all_append, h3]
        show (true && (inR nm z && true)) = true
        rw [hin, decide_eq_true (show lo ≤ z by omega), decide_eq_true (show z ≤ hi' by omega)]
        rfl
  · rintro σ H' ⟨h1, h2, h3, v1, v2, v3, rfl⟩
    refine ⟨h1, ?_⟩
    have z := k _ (back _ h1 h2)
    rw [List.take_length] at h3
    rw [h3] at z
    exact z
/-! ### a call -/
def cf (n : Int) (g o : Addr) : List (Str × V) := [("number", .int n), ("given", .ref g), ("octets", .ref o)]
/-- an object of Call stands at q -/
def CallAt (C : Addr) (H : Hp) (q : Addr) (n : Int) (g : List (Str × Int)) (o : List Int) (L : List Addr) : Prop := ∃ dx gd ol, L = [q, gd, ol] ∧ H q = some (.ins C dx (cf n gd ol)) ∧ H gd = some (.dK (gk g)) ∧ H ol = some (.lst (o.map V.int))
theorem CallAt.kp {C : Addr} {H H' : Hp} {q : Addr} {n : Int} {g : List (Str × Int)} {o : List Int} {L M : List Addr} (h : CallAt C H q n g o L) (s : Kp M H H') (d : ∀ b ∈ L, b ∉ M) : CallAt C H' q n g o L := by
  obtain ⟨dx, gd, ol, rfl, h1, h2, h3⟩ := h
  exact ⟨dx, gd, ol, rfl, s _ _ h1 (d _ (by simp)), s _ _ h2 (d _ (by simp)), s _ _ h3 (d _ (by simp))⟩
theorem CallAt.same {C : Addr} {H H' : Hp} {q : Addr} {n : Int} {g : List (Str × Int)} {o : List Int} {L : List Addr} (h : CallAt C H q n g o L) (s : Same H H') : CallAt C H' q n g o L := h.kp (M := []) (same_kp s _) (fun _ _ => by simp)
theorem CallAt.mem {C : Addr} {H : Hp} {q : Addr} {n : Int} {g : List (Str × Int)} {o : List Int} {L : List Addr} (h : CallAt C H q n g o L) : ∀ b ∈ L, H b ≠ none := by
  obtain ⟨dx, gd, ol, rfl, h1, h2, h3⟩ := h
  intro b hb
  simp at hb
  rcases hb with rfl | rfl | rfl
  · rw [h1]; intro z; cases z
  · rw [h2]; intro z; cases z
  · rw [h3]; intro z; cases z
def spCall (C : Addr) : Sp := fun vs H Q _ => ∃ (p dx g o : Addr) (n : Int), vs = [.ref p, .int n, .ref g, .ref o] ∧ H p = some (.ins C dx []) ∧ ∀ H', H' p = some (.ins C dx (cf n g o)) → At p H H' → Q .non H'
theorem ok_Call (T : Txt K mg a) : Mkr P w K mg base 1 a.Call "Call" ["self", "number", "given", "octets"] (spCall a.Call) := by
  refine Mkr.mk T.i_Call sc_Call_init bd_Call_init (fun vs H Q E h => by obtain ⟨p, dx, g, o, n, rfl, _⟩ := h; rfl) (fun f cdv A outer s H vs Q E hr h => ?_)
  obtain ⟨p, dx, g, o, n, rfl, hp, k⟩ := h
  refine ⟨_, pss_cons (ps_fld (pv 0) (pv 1) rfl) (pss_cons (ps_fld (pv 0) (pv 2) rfl) (pss_one (ps_fld (pv 0) (pv 3) rfl))), ?_⟩
  refine ⟨_, rfl, _, rfl, p, a.Call, dx, [], rfl, hp, T.k_Call, T.a_Call_number, (by decide), ?_⟩
  refine ⟨_, rfl, _, rfl, p, a.Call, dx, _, rfl, upd_same, T.k_Call, T.a_Call_given, (by show 1 < 1000; decide), ?_⟩
  refine ⟨_, rfl, _, rfl, p, a.Call, dx, _, rfl, upd_same, T.k_Call, T.a_Call_octets, (by show 2 < 1000; decide), ?_⟩
  exact k _ upd_same (at1 (at1 (at1 at0)))
def spSize (C : Addr) : Sp := fun vs H Q _ => ∃ (q : Addr) (n : Int) (g : List (Str × Int)) (o : List Int) (L : List Addr), vs = [.ref q] ∧ CallAt C H q n g o L ∧ Q (.int (if n = 0 then 2 + (g.length : Int) + (o.length : Int) else 1 + (g.length : Int))) H
theorem ok_size_of (T : Txt K mg a) : Fn P w K mg base 1 "size_of" ["call"] (spSize a.Call) := by
  refine Fn.mk T.f_size_of sc_size_of bd_size_of (fun vs H Q E h => by obtain ⟨p, n, g, o, L, rfl, _⟩ := h; rfl) (fun f cdv A outer s H vs Q E hr h => ?_)
  obtain ⟨q, n, g, o, L, rfl, hC, k⟩ := h
  obtain ⟨dx, gd, ol, rfl, h1, h2, h3⟩ := hC
  have nd := sc_size_of.nd
  refine ⟨_, pss_cons (ps_set (i := 1) nd rfl (Or.inl rfl) (pe_op op_add pe_int (pe_callB call_lenD rfl T.b_len PySem.boot_len (pa_cons (pe_fld (pv 0) rfl) pa_nil))))
    (pss_cons (ps_if (pt_cmpR op_eq (pe_fld (pv 0) rfl) (pe_cn T.c_BEGIN) (nomark _)) (pss_one (ps_aug (i := 1) nd rfl (Or.inl rfl) (pe_op op_add pe_int (pe_callB call_len_seq rfl T.b_len PySem.boot_len (pa_cons (pe_fld (pv 0) rfl) pa_nil))) ip_add)) pss_nil)
    (pss_one (ps_ret (pv 1)))), ?_⟩
  have e1 : (gk g).length = g.length := by unfold gk; rw [List.length_map]
  refine ⟨_, rfl, q, a.Call, dx, _, _, rfl, h1, T.k_Call, T.a_Call_given, rfl, gd, _, rfl, h2, _, _, rfl, rfl, ?_⟩
  refine ⟨_, rfl, q, a.Call, dx, _, _, rfl, h1, T.k_Call, T.a_Call_number, rfl, rfl, _, rfl, ite2 (fun e => ?_) (fun e => ?_)⟩
  · have e : n = 0 := V.int.inj (of_decide_eq_true e)
    refine ⟨_, rfl, _, rfl, q, a.Call, dx, _, _, rfl, h1, T.k_Call, T.a_Call_octets, rfl, ol, _, rfl, .inl (SqL.of h3), _, _, rfl, rfl, _, _, rfl, rfl, _, rfl, ?_⟩
    rw [if_pos e] at k
    have e2 : (1 : Int) + ((gk g).length : Int) + (1 + ((o.map V.int).length : Int)) = 2 + (g.length : Int) + (o.length : Int) := by rw [e1, List.length_map]; omega
    rw [← e2] at k
    exact k
  · have e : ¬ n = 0 := fun q => e (decide_eq_true (by rw [q]))
    refine ⟨_, rfl, ?_⟩
    rw [if_neg e, ← e1] at k
    exact k
/-- one call of the list: its number, its numbers, its row -/
structure PC where
  num : Int
  args : List Int
  row : List Int
def PC.flat (c : PC) : List Int := c.num :: (c.args ++ if c.num = 0 then (c.row.length : Int) :: c.row else [])
structure PC.Ok (c : PC) (ns : List Str) : Prop where
  nm : (c.num, ns) ∈ NM
  len : c.args.length = ns.length
  row : c.num ≠ 0 → c.row = []
def PC.given (c : PC) (ns : List Str) : List (Str × Int) := ns.zip c.args
theorem nm_nodup : ∀ {p : Int} {ns : List Str}, (p, ns) ∈ NM → ns.Nodup ∧ ns.length ≤ 8 := by
  have h : ∀ q ∈ NM, q.2.Nodup ∧ q.2.length ≤ 8 := by decide +kernel
  exact fun {p ns} m => h (p, ns) m
theorem cut_list {α : Type} (f : α → V) (l : List α) {lo hi : Nat} (h1 : lo ≤ hi) (h2 : hi ≤ l.length) : cutV (l.map f) (some (lo : Int)) (some (hi : Int)) = ((l.drop lo).take (hi - lo)).map f := by
  unfold cutV
  rw [HT.sIx_nat, HT.sIx_nat, List.length_map, Nat.min_eq_left h2, Nat.min_eq_left (Nat.le_trans h1 h2), List.map_take, List.map_drop]
def spReadCall (K : PySem.W.Frag) (C : Addr) : Sp := fun vs H Q _ => ∃ (p : Addr) (l : List Int) (i : Nat) (c : PC) (ns : List Str) (rest : List Int), vs = [.ref p, .int (i : Int)] ∧ SqL K H p (l.map V.int) ∧ l.length ≤ 16000 ∧ l.drop i = c.flat ++ rest ∧ c.Ok ns ∧
  ∀ H' q L, CallAt C H' q c.num (c.given ns) c.row L → Same H H' → (∀ b ∈ L, H b = none) → Q (.ref q) H'
theorem fits_small {n : Nat} (h : n ≤ 20000) : Builtin.SmallTypes.fitsIndex (n : Int) = true := by
  unfold Builtin.SmallTypes.fitsIndex
  simp
  omega
theorem ok_read_call (T : Txt K mg a) (B : Tbl P w K mg) : Fn P w K mg base 3 "read_call" ["numbers", "at"] (spReadCall K a.Call) := by
  refine Fn.mk T.f_read_call sc_read_call bd_read_call (fun vs H Q E h => by obtain ⟨p, l, i, c, ns, rest, rfl, _⟩ := h; rfl) (fun f cdv A outer s H vs Q E hr h => ?_)
  obtain ⟨p, l, i, c, ns, rest, rfl, hS, hll, hd, hok, k⟩ := h
  have nd := sc_read_call.nd
  obtain ⟨x, kvs, hx, hK, hall⟩ := B.nm
  obtain ⟨b, hb, hsq⟩ := hall _ _ hok.nm
  obtain ⟨nsd, ns8⟩ := nm_nodup hok.nm
  refine ⟨_, pss_cons (ps_set (i := 2) nd rfl (Or.inl rfl) (pe_ix ix_list (pv 0) (pv 1) (fun _ _ => rfl)))
    (pss_cons (ps_set (i := 3) nd rfl (Or.inl rfl) (pe_kdget (pe_glob (v := V.ref x) rfl hx rfl) (pv 2) (fun _ _ => rfl)))
    (pss_cons (ps_set (i := 4) nd rfl (Or.inl rfl) pe_dnewK)
    (pss_cons (ps_for PassesOwn.never rfl (pi_enumS rfl T.b_enumerate (pa_cons (pv 3) pa_nil) (pk_cons (pe_op op_add (pv 1) pe_int) pk_nil)) (pg_tup (n := 2) rfl (pgs_cons (pg_name (i := 5) nd rfl (Or.inl rfl)) (pgs_cons (pg_name (i := 6) nd rfl (Or.inl rfl)) pgs_nil)))
      (pss_one (ps_dput (hu_of hr) (pv 4) (pv 6) (pe_ix ix_list (pv 0) (pv 5) (fun _ _ => rfl)) rfl)))
    (pss_cons (ps_set (i := 7) nd rfl (Or.inl rfl) (pe_lst pa_nil))
    (pss_cons (ps_if (pt_cmpR op_eq (pv 2) (pe_cn T.c_BEGIN) (nomark _))
      (pss_cons (ps_set (i := 8) nd rfl (Or.inl rfl) (pe_op op_add (pe_op op_add (pv 1) pe_int) (pe_callB call_len_seq rfl T.b_len PySem.boot_len (pa_cons (pv 3) pa_nil))))
      (pss_one (ps_set (i := 7) nd rfl (Or.inl rfl) (pe_slice sl_list (pv 0) (po_some (pe_op op_add (pv 8) pe_int)) (po_some (pe_op op_add (pe_op op_add (pv 8) pe_int) (pe_ix ix_list (pv 0) (pv 8) (fun _ _ => rfl)))))))) pss_nil)
    (pss_one (ps_ret (pe_mk (ok_Call T) hr (pa_cons (pv 2) (pa_cons (pv 4) (pa_cons (pv 7) pa_nil))))))))))), ?_⟩
  have hil : i + c.flat.length ≤ l.length := by
    have q := congrArg List.length hd
    rw [List.length_drop, List.length_append] at q
    have : 0 < c.flat.length := by unfold PC.flat; simp
    omega
  have at_ : ∀ (m : Nat) (z : Int), c.flat[m]? = some z → atI (l.map V.int) ((i + m : Nat) : Int) = some (V.int z) := fun m z e => by
    refine atI_nat ?_
    rw [List.getElem?_map]
    have e2 : l[i + m]? = some z := by
      have q : (l.drop i)[m]? = some z := by
        rw [hd, List.getElem?_append_left (List.getElem?_eq_some_iff.mp e).1]
        exact e
      rw [List.getElem?_drop] at q
      exact q
    rw [e2]
    rfl
  have flen : c.flat.length = 1 + c.args.length + (if c.num = 0 then (c.row.length : Int) :: c.row else []).length := by
    unfold PC.flat
    rw [List.length_cons, List.length_append]
    omega
  refine ⟨_, rfl, _, rfl, p, _, _, _, rfl, rfl, hS, at_ 0 c.num rfl, ?_⟩
  refine ⟨_, rfl, x, kvs, Sum.inl c.num, _, rfl, hK, rfl, hb, ?_⟩
  intro gd hgd
  have s1 := same_upd (o := .dK []) hgd
  refine ⟨_, rfl, _, rfl, _, _, rfl, rfl, b, ns.map V.str, i + 1, rfl, rfl, hsq _, fits_small (by omega), for_gen (n := ns.length) (fun m σ H' => Same H H' ∧ H' gd = some (.dK (gk ((c.given ns).take m))) ∧ ∃ v5 v6 : Option V, σ = [some (.ref p), some (.int (i : Int)), some (.int c.num), some (.ref b), some (.ref gd), v5, v6, none, none])
    ⟨s1, upd_same, none, none, rfl⟩ ?_ ?_ ?_ ?_⟩
  · rintro m σ H' hm ⟨s5, _⟩
    exact ⟨ns.map V.str, V.str (ns[m]'hm), hsq _, by rw [List.getElem?_map, List.getElem?_eq_getElem hm]; rfl⟩
  · rintro σ H' ⟨s5, _⟩
    exact ⟨ns.map V.str, hsq _, List.length_map ..⟩
  · rintro m σ H' hm ⟨s5, hg, v5, v6, rfl⟩ y H'' ⟨U, yv, rfl, hU, rfl, hy⟩
    have e1 := hy _ (hsq _)
    rw [List.getElem?_map, List.getElem?_eq_getElem hm] at e1
    have e1 : V.str (ns[m]'hm) = yv := Option.some.inj e1
    subst e1
    have hgU : gd ≠ U := ne_of_none hg hU
    have hm2 : m < c.args.length := by rw [hok.len]; exact hm
    refine ⟨U, _, rfl, SqT.of upd_same, rfl, _, _, rfl, _, _, rfl, rfl, ?_⟩
    have s6 : Same H (upd H' U (.tup [.int ((i + 1 + m : Nat) : Int), V.str (ns[m]'hm)])) := s5.trans (same_upd hU)
    have ea : c.flat[1 + m]? = some (c.args[m]'hm2) := by
      unfold PC.flat
      rw [Nat.add_comm 1 m, List.getElem?_cons_succ, List.getElem?_append_left hm2, List.getElem?_eq_getElem hm2]
    have ez : ((i + 1 + m : Nat) : Int) = ((i + (1 + m) : Nat) : Int) := by omega
    refine ⟨_, rfl, _, rfl, p, _, _, _, rfl, rfl, s6.seq hS, (by rw [ez]; exact at_ (1 + m) _ ea), _, rfl, _, rfl, gd, _, rfl, DPut.k (k := Sum.inr (ns[m]'hm)) (by rw [upd_ne hgU]; exact hg) ?_, ?_⟩
    · unfold gk
      rw [List.length_map, List.length_take]
      exact Nat.lt_of_le_of_lt (Nat.le_trans (Nat.min_le_left _ _) (Nat.le_of_lt hm)) (Nat.lt_of_le_of_lt ns8 (by decide))
    · have hz : (c.given ns)[m]? = some (ns[m]'hm, c.args[m]'hm2) := by
        unfold PC.given
        rw [List.getElem?_zip_eq_some]
        exact ⟨List.getElem?_eq_getElem hm, List.getElem?_eq_getElem hm2⟩
      refine ⟨fun y o e => ?_, ?_, _, _, rfl⟩
      · rw [upd_ne (ne_of_none e hgd)]
        exact s6 _ _ e
      · rw [upd_same]
        refine congrArg (fun z => some (HO.dK z)) ?_
        rw [putK_new]
        · rw [take_snoc hz]
          unfold gk
          rw [List.map_append]
          rfl
        · cases q : valV (gk ((c.given ns).take m)) (Sum.inr (ns[m]'hm)) with
          | none => rfl
          | some v =>
            exfalso
            have hin := valV_in q
            unfold gk at hin
            rw [List.map_map] at hin
            obtain ⟨pr, hpr, e⟩ := List.mem_map.mp hin
            obtain ⟨j, hj, ej⟩ := List.mem_iff_getElem.mp hpr
            have hj' : j < m := by rw [List.length_take] at hj; omega
            have ej2 : (c.given ns)[j]? = some pr := by
              rw [List.getElem_take] at ej
              rw [← ej]
              exact List.getElem?_eq_getElem _
            unfold PC.given at ej2
            rw [List.getElem?_zip_eq_some] at ej2
            have e' : pr.1 = ns[m]'hm := Sum.inr.inj e
            have q1 := ej2.1
            rw [e'] at q1
            have := nd_ix nsd q1 (List.getElem?_eq_getElem hm)
            omega
  · rintro σ H1 ⟨s5, hg, v5, v6, rfl⟩
    have hg : H1 gd = some (.dK (gk (c.given ns))) := by
      have e : (c.given ns).take ns.length = c.given ns := List.take_of_length_le (by unfold PC.given; rw [List.length_zip]; omega)
      rw [e] at hg
      exact hg
    refine ⟨Nat.zero_le _, fun ol hol => ?_⟩
    have s6 := s5.trans (same_upd (o := .lst []) hol)
    have go : gd ≠ ol := ne_of_none hg hol
    have fin : ∀ (H2 : Hp) (o2 : Addr), Same H H2 → H2 gd = some (.dK (gk (c.given ns))) → H2 o2 = some (.lst (c.row.map V.int)) → H o2 = none → ∀ q dx, H2 q = none → H2 dx = none → ∀ H3, H3 q = some (.ins a.Call dx (cf c.num gd o2)) → At q (upd (upd H2 dx (.own q)) q (.ins a.Call dx [])) H3 → Q (.ref q) H3 := by
      intro H2 o2 t1 t2 t3 t4 q dx nq ndx H3 e1 e2
      have t5 : Same H2 H3 := fun y o e => by
        rw [e2 y (ne_of_none e nq), upd_ne (ne_of_none e nq), upd_ne (ne_of_none e ndx)]
        exact e
      refine k H3 q [q, gd, o2] ⟨dx, gd, o2, rfl, e1, t5 _ _ t2, t5 _ _ t3⟩ (t1.trans t5) (fun y hy => ?_)
      simp at hy
      rcases hy with rfl | rfl | rfl
      · exact t1.free nq
      · exact hgd
      · exact t4
    refine ⟨_, rfl, rfl, _, rfl, ite2 (fun e => ?_) (fun e => ?_)⟩
    · have e : c.num = 0 := V.int.inj (of_decide_eq_true e)
      rw [if_pos e] at flen
      rw [List.length_cons] at flen
      have en : ((i : Int) + 1 + (ns.map V.str).length) = ((i + (1 + ns.length) : Nat) : Int) := by rw [List.length_map]; omega
      have ea : c.flat[1 + ns.length]? = some (c.row.length : Int) := by
        unfold PC.flat
        rw [Nat.add_comm 1, List.getElem?_cons_succ, ← hok.len, List.getElem?_append_right (Nat.le_refl _), Nat.sub_self, if_pos e]
        rfl
      have hdrop : (l.drop (i + (1 + ns.length) + 1)).take c.row.length = c.row := by
        have q1 : l.drop (i + (1 + ns.length) + 1) = (l.drop i).drop (1 + ns.length + 1) := by rw [List.drop_drop]; congr 1 <;> omega
        have q2 : c.flat ++ rest = (c.num :: c.args ++ [(c.row.length : Int)]) ++ (c.row ++ rest) := by
          unfold PC.flat
          rw [if_pos e]
          simp
        have q3 : (c.num :: c.args ++ [(c.row.length : Int)]).length = 1 + ns.length + 1 := by simp [hok.len]; omega
        rw [q1, hd, q2, ← q3, List.drop_left, List.take_left]
      refine ⟨_, rfl, _, _, rfl, rfl, _, rfl, b, _, rfl, .inr (hsq _), _, _, rfl, rfl, ?_⟩
      refine ⟨_, rfl, _, rfl, _, _, rfl, rfl, _, rfl, _, rfl, _, _, rfl, rfl, _, rfl, _, rfl, p, _, _, _, rfl, rfl, s6.seq hS, (by rw [en]; exact at_ _ _ ea), _, _, rfl, rfl, _, rfl, p, _, rfl, s6.seq hS, fun o2 ho2 => ?_⟩
      have ec : cutV (l.map V.int) (some ((i : Int) + 1 + (ns.map V.str).length + 1)) (some ((i : Int) + 1 + (ns.map V.str).length + 1 + (c.row.length : Int))) = c.row.map V.int := by
        rw [en, show ((i + (1 + ns.length) : Nat) : Int) + 1 = ((i + (1 + ns.length) + 1 : Nat) : Int) by omega, show ((i + (1 + ns.length) + 1 : Nat) : Int) + (c.row.length : Int) = ((i + (1 + ns.length) + 1 + c.row.length : Nat) : Int) by omega]
        rw [cut_list V.int l (by omega) (by rw [hok.len] at flen; omega), Nat.add_sub_cancel_left, hdrop]
      have s7 := same_upd (o := .lst (cutV (l.map V.int) (some ((i : Int) + 1 + (ns.map V.str).length + 1)) (some ((i : Int) + 1 + (ns.map V.str).length + 1 + (c.row.length : Int))))) ho2
      refine ⟨_, rfl, _, rfl, _, rfl, ?_⟩
      intro q dx nq ndx nqd
      refine ⟨q, dx, gd, o2, c.num, rfl, upd_same, fun H3 e1 e2 => ⟨rfl, ?_⟩⟩
      refine fin _ o2 (s6.trans s7) (s7 _ _ (by rw [upd_ne go]; exact hg)) (upd_same.trans (congrArg (fun z => some (HO.lst z)) ec)) (s6.free ho2) q dx nq ndx H3 e1 e2
    · have e : ¬ c.num = 0 := fun q => e (decide_eq_true (by rw [q]))
      refine ⟨_, rfl, _, rfl, _, rfl, ?_⟩
      intro q dx nq ndx nqd
      refine ⟨q, dx, gd, ol, c.num, rfl, upd_same, fun H3 e1 e2 => ⟨rfl, ?_⟩⟩
      exact fin _ ol s6 (by rw [upd_ne go]; exact hg) (upd_same.trans (by rw [hok.row e]; rfl)) (s5.free hol) q dx nq ndx H3 e1 e2
/-- the calls of a list, as objects that were not there in H0 -/
def CallsAt (C : Addr) (H0 H : Hp) (qs : List Addr) (cs : List (PC × List Str)) : Prop := Paired (fun q c => ∃ L, CallAt C H q c.1.num (c.1.given c.2) c.1.row L ∧ ∀ b ∈ L, H0 b = none) qs cs
theorem CallsAt.same {C : Addr} {H0 H H' : Hp} {qs : List Addr} {cs : List (PC × List Str)} (h : CallsAt C H0 H qs cs) (s : Same H H') : CallsAt C H0 H' qs cs := Paired.mapP h fun q c ⟨L, h1, h2⟩ => ⟨L, h1.same s, h2⟩
def spSplit (K : PySem.W.Frag) (C : Addr) : Sp := fun vs H Q _ => ∃ (p : Addr) (l : List Int) (cs : List (PC × List Str)), vs = [.ref p] ∧ SqL K H p (l.map V.int) ∧ l.length ≤ 16000 ∧ l = cs.flatMap (fun c => c.1.flat) ∧ (∀ c ∈ cs, c.1.Ok c.2) ∧
  ∀ H' fl qs, H' fl = some (.lst (qs.map V.ref)) → H fl = none → CallsAt C H H' qs cs → Same H H' → Q (.ref fl) H'
theorem flat_pos (c : PC) : 0 < c.flat.length := by unfold PC.flat; simp
theorem flat_size (c : PC) {ns : List Str} (h : c.Ok ns) : (c.flat.length : Int) = if c.num = 0 then 2 + ((c.given ns).length : Int) + (c.row.length : Int) else 1 + ((c.given ns).length : Int) := by
  have e : (c.given ns).length = c.args.length := by unfold PC.given; rw [List.length_zip, h.len]; exact Nat.min_self _
  rw [e]
  unfold PC.flat
  rw [List.length_cons, List.length_append]
  by_cases h0 : c.num = 0
  · rw [if_pos h0, if_pos h0, List.length_cons]; omega
  · rw [if_neg h0, if_neg h0, List.length_nil]; omega
theorem flat_many (cs : List (PC × List Str)) : cs.length ≤ (cs.flatMap (fun c => c.1.flat)).length := by
  induction cs with
  | nil => exact Nat.zero_le _
  | cons c r ih =>
    rw [List.flatMap_cons, List.length_append, List.length_cons]
    have := flat_pos c.1
    omega
theorem ok_split_calls (T : Txt K mg a) (B : Tbl P w K mg) : Fn P w K mg base 4 "split_calls" ["numbers"] (spSplit K a.Call) := by
  refine Fn.mk T.f_split_calls sc_split_calls bd_split_calls (fun vs H Q E h => by obtain ⟨p, l, cs, rfl, _⟩ := h; rfl) (fun f cdv A outer s H vs Q E hr h => ?_)
  obtain ⟨p, l, cs, rfl, hS, hll, hl, hok, k⟩ := h
  have nd := sc_split_calls.nd
  have hr1 : Room 1 _ := hr.mono (by decide)
  refine ⟨_, pss_cons (ps_set (i := 1) nd rfl (Or.inl rfl) (pe_lst pa_nil))
    (pss_cons (ps_set (i := 2) nd rfl (Or.inl rfl) pe_int)
    (pss_cons (ps_while PassesOwn.never (pt_cmpR op_lt (pv 2) (pe_callB call_len_seq rfl T.b_len PySem.boot_len (pa_cons (pv 0) pa_nil)) (nomark _))
      (pss_cons (ps_set (i := 3) nd rfl (Or.inl rfl) (pe_fn (ok_read_call T B) hr (pa_cons (pv 0) (pa_cons (pv 2) pa_nil))))
      (pss_cons (ps_expr (pe_bm PySem.F.plainAttrs_list PySem.F.slot_list_append PySem.F.type_list_append mt_append (pv 1) (pa_cons (pv 3) pa_nil)))
      (pss_one (ps_aug (i := 2) nd rfl (Or.inl rfl) (pe_fn (ok_size_of T) hr1 (pa_cons (pv 3) pa_nil)) ip_add)))))
    (pss_one (ps_ret (pv 1))))), ?_⟩
  refine ⟨Nat.zero_le _, fun fl hfl => ?_⟩
  have s0 := same_upd (o := .lst []) hfl
  have hcl : cs.length ≤ 16000 := Nat.le_trans (flat_many cs) (by rw [← hl]; exact hll)
  refine while_by (fun σ H' => ∃ (dn rs : List (PC × List Str)) (qs : List Addr) (v3 : Option V), cs = dn ++ rs ∧ Same H H' ∧ H' fl = some (.lst (qs.map V.ref)) ∧ Paired (fun q c => ∃ L, CallAt a.Call H' q c.1.num (c.1.given c.2) c.1.row L ∧ ∀ b ∈ L, H b = none ∧ b ≠ fl) qs dn ∧ σ = [some (.ref p), some (.ref fl), some (.int ((dn.flatMap (fun c => c.1.flat)).length : Int)), v3])
    (fun σ H' => match σ with | [_, _, some (.int z), _] => l.length - z.toNat | _ => 0) ⟨[], cs, [], none, rfl, s0, upd_same, .nil, rfl⟩ ?_ ?_
  · rintro σ H' ⟨dn, rs, qs, v3, hcs, s5, hf, hc, rfl⟩
    refine ⟨_, rfl, _, rfl, p, _, rfl, .inl (s5.seq hS), _, _, rfl, rfl, _, rfl, ite2 (fun e => ?_) (fun e => ?_)⟩
    · have e : (dn.flatMap (fun c => c.1.flat)).length < l.length := by
        have := of_decide_eq_true e
        rw [List.length_map] at this
        omega
      obtain ⟨c, rs', rfl⟩ : ∃ c rs', rs = c :: rs' := by
        cases rs with
        | nil => rw [hl, hcs, List.append_nil] at e; exact absurd e (Nat.lt_irrefl _)
        | cons c r => exact ⟨c, r, rfl⟩
      have hd : l.drop (dn.flatMap (fun c => c.1.flat)).length = c.1.flat ++ rs'.flatMap (fun c => c.1.flat) := by
        rw [hl, hcs, List.flatMap_append, List.drop_left, List.flatMap_cons]
      have hokc : c.1.Ok c.2 := hok c (by rw [hcs]; simp)
      have hql : qs.length = dn.length := Paired.length hc
      refine ⟨_, rfl, _, rfl, p, l, (dn.flatMap (fun c => c.1.flat)).length, c.1, c.2, _, rfl, s5.seq hS, hll, hd, hokc, fun H2 q L cq s6 nL => ?_⟩
      have hf2 := s6 _ _ hf
      have hqf : ∀ b ∈ L, b ≠ fl := fun b hb z => by
        have := nL b hb
        rw [z, hf] at this
        cases this
      refine ⟨_, rfl, .inl ⟨rfl, _, SqL.of hf2⟩, _, rfl, fl, _, _, rfl, rfl, hf2, ?_, ?_⟩
      · rw [List.length_map, hql]
        have : dn.length ≤ cs.length := by rw [hcs, List.length_append]; omega
        exact Nat.lt_of_le_of_lt (Nat.le_trans this hcl) (by decide)
      have cq2 : CallAt a.Call (upd H2 fl (.lst (qs.map V.ref ++ [.ref q]))) q c.1.num (c.1.given c.2) c.1.row L := cq.kp (M := [fl]) (Kp.upd (Kp.refl _ _) (.inl (by simp))) (fun b hb => by simpa using hqf b hb)
      refine ⟨_, rfl, _, rfl, q, _, _, _, L, rfl, cq2, _, _, rfl, rfl, ?_⟩
      have esz : ((dn.flatMap (fun c => c.1.flat)).length : Int) + (if c.1.num = 0 then 2 + ((c.1.given c.2).length : Int) + (c.1.row.length : Int) else 1 + ((c.1.given c.2).length : Int)) = (((dn ++ [c]).flatMap (fun c => c.1.flat)).length : Int) := by
        rw [← flat_size c.1 hokc, List.flatMap_append, List.length_append]
        simp
      refine ⟨⟨dn ++ [c], rs', qs ++ [q], some (.ref q), by rw [hcs]; simp, fun y o e => ?_, by rw [upd_same, List.map_append]; rfl, ?_, ?_⟩, ?_⟩
      · rw [upd_ne (ne_of_none e hfl)]
        exact s6 _ _ (s5 _ _ e)
      · refine Paired.snoc (Paired.mapP hc fun q' c' ⟨L', h1, h2⟩ => ⟨L', ?_, h2⟩) ⟨L, cq2, fun b hb => ⟨s5.free (nL b hb), hqf b hb⟩⟩
        exact (h1.same s6).kp (M := [fl]) (Kp.upd (Kp.refl _ _) (.inl (by simp))) (fun b hb => by simpa using (h2 b hb).2)
      · rw [← esz]
        rfl
      · show l.length - (((dn.flatMap (fun c => c.1.flat)).length : Int) + (if c.1.num = 0 then 2 + ((c.1.given c.2).length : Int) + (c.1.row.length : Int) else 1 + ((c.1.given c.2).length : Int))).toNat < l.length - ((dn.flatMap (fun c => c.1.flat)).length : Int).toNat
        have hpos := flat_pos c.1
        have elen : ((dn ++ [c]).flatMap (fun c => c.1.flat)).length = (dn.flatMap (fun c => c.1.flat)).length + c.1.flat.length := by rw [List.flatMap_append, List.length_append, List.flatMap_cons, List.flatMap_nil, List.append_nil]
        rw [esz, elen, Int.toNat_natCast, Int.toNat_natCast]
        omega
    · have e : ¬ (dn.flatMap (fun c => c.1.flat)).length < l.length := fun q => e (decide_eq_true (by rw [List.length_map]; omega))
      have hrs : rs = [] := by
        cases rs with
        | nil => rfl
        | cons c r =>
          exfalso
          apply e
          rw [hl, hcs, List.flatMap_append, List.length_append, List.flatMap_cons, List.length_append]
          have := flat_pos c.1
          omega
      subst hrs
      rw [List.append_nil] at hcs
      subst hcs
      exact ⟨_, rfl, k H' fl qs hf hfl (Paired.mapP hc fun q c ⟨L, h1, h2⟩ => ⟨L, h1, fun b hb => (h2 b hb).1⟩) s5⟩
  · rintro σ H' Q1 Q2 h ⟨v, e, v2, e2, q1, q2, e3, e4, i1, i2, e5, e6, b1, e7, q3⟩
    exact ⟨v, e, v2, e2, q1, q2, e3, e4, i1, i2, e5, e6, b1, e7, h _ _ q3⟩
end
end Tw
end
section
set_option Elab.async false
set_option linter.all false
set_option maxRecDepth 100000
set_option maxHeartbeats 2000000
namespace Tw
open PySem PySem.Spec PyProof.Rows L2
/-! ### the station's tasks: a dict by their numbers -/
theorem valV_mem {kvs : List (Key × V)} {k : Key} {v : V} (hn : (kvs.map (·.1)).Nodup) : valV kvs k = some v ↔ (k, v) ∈ kvs := by
  induction kvs with
  | nil => simp [valV_nil]
  | cons q r ih =>
    obtain ⟨k0, v0⟩ := q
    have hn' : (k0 :: r.map (·.1)).Nodup := hn
    obtain ⟨h1, h2⟩ := List.nodup_cons.mp hn'
    by_cases e : k0 = k
    · subst e
      rw [valV_pos rfl]
      constructor
      · intro h
        cases h
        exact List.mem_cons_self ..
      · intro h
        rcases List.mem_cons.mp h with h | h
        · cases h; rfl
        · exact absurd (List.mem_map.mpr ⟨_, h, rfl⟩) h1
    · rw [valV_neg (p := (k0, v0)) e, ih h2]
      constructor
      · exact fun h => List.mem_cons_of_mem _ h
      · intro h
        rcases List.mem_cons.mp h with h | h
        · cases h; exact absurd rfl e
        · exact h
abbrev TP := Addr × List Addr
/-- the dict's pairs, in the order of the tasks -/
def kvsOf (ts : List TP) (js : List Se05.Job) : List (Key × V) := (ts.zip js).map fun q => (Sum.inl (q.2.number : Int), V.ref q.1.1)
theorem kvsOf_keys {ts : List TP} {js : List Se05.Job} (h : ts.length = js.length) : (kvsOf ts js).map (·.1) = js.map fun j => (Sum.inl (j.number : Int) : Key) := by
  unfold kvsOf
  rw [List.map_map]
  induction ts generalizing js with
  | nil =>
    cases js with
    | nil => rfl
    | cons _ _ => simp at h
  | cons t r ih =>
    cases js with
    | nil => simp at h
    | cons j js =>
      rw [List.zip_cons_cons, List.map_cons, List.map_cons, ih (by simpa using h)]
      rfl
/-- the tasks js stand in the dict at td; L: all parts -/
def TasksAt (C : Addr) (H : Hp) (td : Addr) (js : List Se05.Job) (L : List Addr) : Prop := ∃ (ts : List TP) (kvs : List (Key × V)), L = td :: ts.flatMap (·.2) ∧ L.Nodup ∧ H td = some (.dK kvs) ∧ kvs.Perm (kvsOf ts js) ∧ Paired (fun t j => TaskAt C H t.1 j t.2) ts js
/-- tasks in their order -/
def Sorted (js : List Se05.Job) : Prop := (js.map (·.number)).Pairwise (· < ·)
theorem Sorted.nodup {js : List Se05.Job} (h : Sorted js) : (js.map fun j => (Sum.inl (j.number : Int) : Key)).Nodup := by
  have q : (js.map (·.number)).Nodup := List.Pairwise.imp (fun h => Nat.ne_of_lt h) h
  have e : (js.map fun j => (Sum.inl (j.number : Int) : Key)) = (js.map (·.number)).map fun (n : Nat) => (Sum.inl (n : Int) : Key) := by rw [List.map_map]; rfl
  rw [e]
  refine List.Pairwise.map _ (fun a b h e => ?_) q
  have z := Sum.inl.inj e
  exact h (by omega)
theorem TasksAt.mem {C : Addr} {H : Hp} {td : Addr} {js : List Se05.Job} {L : List Addr} (h : TasksAt C H td js L) : ∀ b ∈ L, H b ≠ none := by
  obtain ⟨ts, kvs, rfl, nd, h1, h2, h3⟩ := h
  intro b hb
  rcases List.mem_cons.mp hb with rfl | hb
  · rw [h1]; intro z; cases z
  have go : ∀ (l : List TP) (m : List Se05.Job), Paired (fun t j => TaskAt C H t.1 j t.2) l m → b ∈ l.flatMap (·.2) → H b ≠ none := by
    intro l m q
    induction q with
    | nil => intro hb; cases hb
    | @cons t j l1 l2 r _ ih =>
      intro hb
      rw [List.flatMap_cons] at hb
      rcases List.mem_append.mp hb with hb | hb
      · exact r.mem b hb
      · exact ih hb
  exact go _ _ h3 hb
theorem TasksAt.loc {C : Addr} {H H' : Hp} {td : Addr} {js : List Se05.Job} {L : List Addr} (h : TasksAt C H td js L) (e : ∀ b ∈ L, H' b = H b) : TasksAt C H' td js L := by
  obtain ⟨ts, kvs, rfl, nd, h1, h2, h3⟩ := h
  refine ⟨ts, kvs, rfl, nd, (e _ (by simp)).trans h1, h2, paired_imp h3 fun t j ht q => q.loc fun b hb => e b ?_⟩
  exact List.mem_cons_of_mem _ (List.mem_flatMap.mpr ⟨t, ht, hb⟩)
theorem TasksAt.kp {C : Addr} {H H' : Hp} {td : Addr} {js : List Se05.Job} {L M : List Addr} (h : TasksAt C H td js L) (f : Kp M H H') (d : ∀ b ∈ L, b ∉ M) : TasksAt C H' td js L := h.loc fun b hb => by
  cases e : H b with
  | none => exact absurd e (h.mem b hb)
  | some o => exact f b o e (d b hb)
theorem paired_split {α β : Type} {F : α → β → Prop} {b : β} {m2 : List β} : ∀ {m1 : List β} {l : List α}, Paired F l (m1 ++ b :: m2) → ∃ l1 a l2, l = l1 ++ a :: l2 ∧ Paired F l1 m1 ∧ F a b ∧ Paired F l2 m2
  | [], _, .cons r t => ⟨[], _, _, rfl, .nil, r, t⟩
  | x :: m1, _, .cons r t => by
    obtain ⟨l1, a, l2, e, h1, h2, h3⟩ := paired_split (m1 := m1) t
    exact ⟨_ :: l1, a, l2, by rw [e]; rfl, .cons r h1, h2, h3⟩
theorem paired_join {α β : Type} {F : α → β → Prop} {a : α} {b : β} {l2 : List α} {m2 : List β} : ∀ {l1 : List α} {m1 : List β}, Paired F l1 m1 → F a b → Paired F l2 m2 → Paired F (l1 ++ a :: l2) (m1 ++ b :: m2)
  | _, _, .nil, h, h2 => .cons h h2
  | _, _, .cons r t, h, h2 => .cons r (paired_join t h h2)
theorem zip_split {α β : Type} {a : α} {b : β} {l2 : List α} {m2 : List β} : ∀ {l1 : List α} {m1 : List β}, l1.length = m1.length → (l1 ++ a :: l2).zip (m1 ++ b :: m2) = l1.zip m1 ++ (a, b) :: l2.zip m2
  | [], [], _ => rfl
  | [], _ :: _, h => by simp at h
  | _ :: _, [], h => by simp at h
  | x :: l1, y :: m1, h => by
    show (x, y) :: (l1 ++ a :: l2).zip (m1 ++ b :: m2) = (x, y) :: (l1.zip m1 ++ (a, b) :: l2.zip m2)
    rw [zip_split (by simpa using h)]
/-- one of the tasks: where it stands, and how it is put back -/
theorem TasksAt.one {C : Addr} {H : Hp} {td : Addr} {pre post : List Se05.Job} {j : Se05.Job} {L : List Addr} (h : TasksAt C H td (pre ++ j :: post) L) (hs : Sorted (pre ++ j :: post)) :
    ∃ p Lp, TaskAt C H p j Lp ∧ (∀ b ∈ Lp, b ∈ L) ∧ (∃ kvs, H td = some (.dK kvs) ∧ valV kvs (Sum.inl (j.number : Int)) = some (.ref p)) ∧ td ∉ Lp ∧
      ∀ H' j' Lp', TaskAt C H' p j' Lp' → j'.number = j.number → Kp Lp H H' → New Lp Lp' H → ∃ L', TasksAt C H' td (pre ++ j' :: post) L' ∧ New L L' H ∧ (∀ b ∈ L', b ∈ L ∨ b ∈ Lp') := by
  obtain ⟨ts, kvs, rfl, nd, h1, h2, h3⟩ := h
  obtain ⟨l1, t, l2, rfl, p1, p2, p3⟩ := paired_split h3
  have hl1 : l1.length = pre.length := Paired.length p1
  have hl : (l1 ++ t :: l2).length = (pre ++ j :: post).length := Paired.length h3
  have hnd : (kvs.map (·.1)).Nodup := by
    have q := hs.nodup
    rw [← kvsOf_keys hl] at q
    exact ((h2.map (·.1)).nodup_iff).mpr q
  have tdL : td ∉ t.2 := fun hm => by
    have := (List.nodup_cons.mp nd).1
    exact this (List.mem_flatMap.mpr ⟨t, by simp, hm⟩)
  refine ⟨t.1, t.2, p2, fun b hb => List.mem_cons_of_mem _ (List.mem_flatMap.mpr ⟨t, by simp, hb⟩), ⟨kvs, h1, ?_⟩, tdL, ?_⟩
  · rw [valV_mem hnd]
    refine h2.mem_iff.mpr ?_
    unfold kvsOf
    rw [zip_split hl1, List.map_append]
    simp
  · intro H' j' Lp' t' hn f nw
    have tNd : Lp'.Nodup := by
      obtain ⟨dx, tl, e, n, _⟩ := t'
      rw [e]
      simp [n]
    have ndr : (l1.flatMap (·.2) ++ (t.2 ++ l2.flatMap (·.2))).Nodup := by
      have q := (List.nodup_cons.mp nd).2
      rw [List.flatMap_append, List.flatMap_cons] at q
      exact q
    have alive : ∀ b ∈ l1.flatMap (·.2) ++ l2.flatMap (·.2), H b ≠ none ∧ b ∉ t.2 := fun b hb => by
      refine ⟨?_, fun hm => ?_⟩
      · have q := TasksAt.mem (C := C) (H := H) (td := td) (js := pre ++ j :: post) (L := td :: (l1 ++ t :: l2).flatMap (·.2)) ⟨_, kvs, rfl, nd, h1, h2, h3⟩ b
        refine q (List.mem_cons_of_mem _ ?_)
        rw [List.flatMap_append, List.flatMap_cons]
        rcases List.mem_append.mp hb with hb | hb
        · exact List.mem_append_left _ hb
        · exact List.mem_append_right _ (List.mem_append_right _ hb)
      · rcases List.mem_append.mp hb with hb | hb
        · exact (List.nodup_append.mp ndr).2.2 b hb b (List.mem_append_left _ hm) rfl
        · exact (List.nodup_append.mp (List.nodup_append.mp ndr).2.1).2.2 b hm b hb rfl
    have fresh : ∀ b ∈ Lp', b ∉ l1.flatMap (·.2) ++ l2.flatMap (·.2) := fun b hb hm => by
      obtain ⟨g1, g2⟩ := alive b hm
      rcases nw b hb with z | z
      · exact g2 z
      · exact g1 z
    have ftd : td ∉ Lp' := fun hm => by
      rcases nw td hm with z | z
      · exact tdL z
      · rw [h1] at z; cases z
    refine ⟨td :: (l1 ++ (t.1, Lp') :: l2).flatMap (·.2), ⟨l1 ++ (t.1, Lp') :: l2, kvs, rfl, ?_, ?_, ?_, ?_⟩, ?_, ?_⟩
    · refine List.nodup_cons.mpr ⟨fun hm => ?_, ?_⟩
      · rw [List.flatMap_append, List.flatMap_cons] at hm
        have q := (List.nodup_cons.mp nd).1
        rw [List.flatMap_append, List.flatMap_cons] at q
        rcases List.mem_append.mp hm with hm | hm
        · exact q (List.mem_append_left _ hm)
        rcases List.mem_append.mp hm with hm | hm
        · exact ftd hm
        · exact q (List.mem_append_right _ (List.mem_append_right _ hm))
      · rw [List.flatMap_append, List.flatMap_cons]
        have q1 := List.nodup_append.mp ndr
        have q2 := List.nodup_append.mp q1.2.1
        refine List.nodup_append.mpr ⟨q1.1, List.nodup_append.mpr ⟨tNd, q2.2.1, fun x hx y hy e => ?_⟩, fun x hx y hy e => ?_⟩
        · subst e
          exact fresh x hx (List.mem_append_right _ hy)
        · subst e
          rcases List.mem_append.mp hy with hy | hy
          · exact fresh x hy (List.mem_append_left _ hx)
          · exact q1.2.2 x hx x (List.mem_append_right _ hy) rfl
    · exact f td _ h1 tdL
    · have e : kvsOf (l1 ++ (t.1, Lp') :: l2) (pre ++ j' :: post) = kvsOf (l1 ++ t :: l2) (pre ++ j :: post) := by
        unfold kvsOf
        rw [zip_split hl1, zip_split hl1, List.map_append, List.map_append, List.map_cons, List.map_cons, hn]
      rw [e]
      exact h2
    · refine paired_join (paired_imp p1 fun u i hu q => ?_) t' (paired_imp p3 fun u i hu q => ?_)
      · exact q.kp f fun b hb => (alive b (List.mem_append_left _ (List.mem_flatMap.mpr ⟨u, hu, hb⟩))).2
      · exact q.kp f fun b hb => (alive b (List.mem_append_right _ (List.mem_flatMap.mpr ⟨u, hu, hb⟩))).2
    · intro b hb
      rcases List.mem_cons.mp hb with rfl | hb
      · exact .inl (by simp)
      · rw [List.flatMap_append, List.flatMap_cons] at hb
        rw [List.flatMap_append, List.flatMap_cons]
        rcases List.mem_append.mp hb with hb | hb
        · exact .inl (List.mem_cons_of_mem _ (List.mem_append_left _ hb))
        rcases List.mem_append.mp hb with hb | hb
        · rcases nw b hb with z | z
          · exact .inl (List.mem_cons_of_mem _ (List.mem_append_right _ (List.mem_append_left _ z)))
          · exact .inr z
        · exact .inl (List.mem_cons_of_mem _ (List.mem_append_right _ (List.mem_append_right _ hb)))
    · intro b hb
      rcases List.mem_cons.mp hb with rfl | hb
      · exact .inl (by simp)
      · rw [List.flatMap_append, List.flatMap_cons] at hb
        rw [List.flatMap_append, List.flatMap_cons]
        rcases List.mem_append.mp hb with hb | hb
        · exact .inl (List.mem_cons_of_mem _ (List.mem_append_left _ hb))
        rcases List.mem_append.mp hb with hb | hb
        · exact .inr hb
        · exact .inl (List.mem_cons_of_mem _ (List.mem_append_right _ (List.mem_append_right _ hb)))
/-- no task of this number -/
theorem TasksAt.no {C : Addr} {H : Hp} {td : Addr} {js : List Se05.Job} {L : List Addr} (h : TasksAt C H td js L) {k : Nat} (hk : ∀ j ∈ js, j.number ≠ k) : ∃ kvs, H td = some (.dK kvs) ∧ valV kvs (Sum.inl (k : Int)) = none := by
  obtain ⟨ts, kvs, rfl, nd, h1, h2, h3⟩ := h
  refine ⟨kvs, h1, ?_⟩
  cases e : valV kvs (Sum.inl (k : Int)) with
  | none => rfl
  | some v =>
    exfalso
    have m := (h2.map (·.1)).mem_iff.mp (valV_in e)
    rw [kvsOf_keys (Paired.length h3)] at m
    obtain ⟨j, hj, q⟩ := List.mem_map.mp m
    exact hk j hj (by have := Sum.inl.inj q; omega)
/-- the dict's keys are the numbers -/
theorem TasksAt.keys {C : Addr} {H : Hp} {td : Addr} {js : List Se05.Job} {L : List Addr} (h : TasksAt C H td js L) : ∃ kvs, ∃ ks : List Int, H td = some (.dK kvs) ∧ kvs.map (·.1) = ks.map Sum.inl ∧ ks.Perm (js.map fun j => (j.number : Int)) := by
  obtain ⟨ts, kvs, rfl, nd, h1, h2, h3⟩ := h
  have hp := h2.map (·.1)
  rw [kvsOf_keys (Paired.length h3)] at hp
  have all : ∀ q ∈ kvs, ∃ i : Int, q.1 = Sum.inl i := fun q hq => by
    have m := hp.mem_iff.mp (List.mem_map.mpr ⟨q, hq, rfl⟩)
    obtain ⟨j, _, e⟩ := List.mem_map.mp m
    exact ⟨_, e.symm⟩
  have f : ∀ l : List (Key × V), (∀ q ∈ l, ∃ i : Int, q.1 = Sum.inl i) → ∃ ks : List Int, l.map (·.1) = ks.map Sum.inl := by
    intro l
    induction l with
    | nil => exact fun _ => ⟨[], rfl⟩
    | cons q r ih =>
      intro h
      obtain ⟨i, hi⟩ := h q (List.mem_cons_self ..)
      obtain ⟨ks, e⟩ := ih fun z hz => h z (List.mem_cons_of_mem _ hz)
      exact ⟨i :: ks, by rw [List.map_cons, List.map_cons, hi, e]⟩
  obtain ⟨ks, e⟩ := f kvs all
  refine ⟨kvs, ks, h1, e, ?_⟩
  have e2 : (js.map fun j => (Sum.inl (j.number : Int) : Key)) = (js.map fun j => (j.number : Int)).map Sum.inl := by rw [List.map_map]; rfl
  rw [e, e2] at hp
  have g := hp.map (fun k : Key => match k with | .inl i => i | .inr _ => 0)
  rw [List.map_map, List.map_map] at g
  have id1 : ((fun k : Key => match k with | .inl i => i | .inr _ => (0 : Int)) ∘ Sum.inl) = id := by funext i; rfl
  rw [id1, List.map_id, List.map_id] at g
  exact g
/-- numbers in rising order that are the tasks' are just theirs -/
theorem sorted_unique : ∀ {a b : List Int}, a.Perm b → a.Pairwise (· ≤ ·) → b.Pairwise (· < ·) → a = b
  | [], b, p, _, _ => (List.nil_perm.mp p).symm
  | x :: a, [], p, _, _ => absurd (List.perm_nil.mp p) (by simp)
  | x :: a, y :: b, p, ha, hb => by
    have h1 := List.pairwise_cons.mp ha
    have h2 := List.pairwise_cons.mp hb
    have e : x = y := by
      have m1 : x ∈ y :: b := p.mem_iff.mp (List.mem_cons_self ..)
      have m2 : y ∈ x :: a := p.mem_iff.mpr (List.mem_cons_self ..)
      rcases List.mem_cons.mp m1 with z | z
      · exact z
      · rcases List.mem_cons.mp m2 with u | u
        · exact u.symm
        · have := h1.1 y u
          have := h2.1 x z
          omega
    subst e
    rw [sorted_unique (List.perm_cons x |>.mp p) h1.2 h2.2]
theorem Sorted.ints {js : List Se05.Job} (h : Sorted js) : (js.map fun j => (j.number : Int)).Pairwise (· < ·) := by
  have e : (js.map fun j => (j.number : Int)) = (js.map (·.number)).map fun (n : Nat) => (n : Int) := by rw [List.map_map]; rfl
  rw [e]
  exact List.Pairwise.map _ (fun a b h => by omega) h
end Tw
end
section
set_option Elab.async false
set_option linter.all false
set_option maxRecDepth 100000
set_option maxHeartbeats 2000000
namespace Tw
open PySem PySem.Spec PyProof.Rows L2
/-! ### the station -/
/-- the station's own numbers; bp: where before stands -/
structure Sv where
  begun : Bool
  began : Nat
  now : Nat
  cause : Nat
  known : Bool
  doubt : Bool
  before : Se05.Kept
  bp : Addr
def stf (v : Sv) (kp td : Addr) : List (Str × V) := [("begun", .bl v.begun), ("began", .int (v.began : Int)), ("now", .int (v.now : Int)), ("cause", .int (v.cause : Int)), ("known", .int (v.known.toNat : Int)), ("doubt", .bl v.doubt), ("before", .ref v.bp), ("kept", .ref kp), ("tasks", .ref td)]
/-- a station stands at p; L: all its parts -/
def StAt (a : Ad) (H : Hp) (p : Addr) (v : Sv) (k : Se05.Kept) (js : List Se05.Job) (L : List Addr) : Prop :=
  ∃ dx kp td Lk Lt Lb, L = p :: (Lb ++ (Lk ++ Lt)) ∧ L.Nodup ∧ H p = some (.ins a.Station dx (stf v kp td)) ∧ KeptAt a.Kept H kp k Lk ∧ TasksAt a.Task H td js Lt ∧ KeptAt a.Kept H v.bp v.before Lb
theorem StAt.mem {a : Ad} {H : Hp} {p : Addr} {v : Sv} {k : Se05.Kept} {js : List Se05.Job} {L : List Addr} (h : StAt a H p v k js L) : ∀ b ∈ L, H b ≠ none := by
  obtain ⟨dx, kp, td, Lk, Lt, Lb, rfl, nd, h1, h2, h3, h4⟩ := h
  intro b hb
  rcases List.mem_cons.mp hb with rfl | hb
  · rw [h1]; intro z; cases z
  rcases List.mem_append.mp hb with hb | hb
  · exact h4.mem b hb
  rcases List.mem_append.mp hb with hb | hb
  · exact h2.mem b hb
  · exact h3.mem b hb
theorem StAt.kp {a : Ad} {H H' : Hp} {p : Addr} {v : Sv} {k : Se05.Kept} {js : List Se05.Job} {L M : List Addr} (h : StAt a H p v k js L) (f : Kp M H H') (d : ∀ b ∈ L, b ∉ M) : StAt a H' p v k js L := by
  obtain ⟨dx, kp, td, Lk, Lt, Lb, rfl, nd, h1, h2, h3, h4⟩ := h
  exact ⟨dx, kp, td, Lk, Lt, Lb, rfl, nd, f _ _ h1 (d _ (by simp)), h2.kp f fun b hb => d b (by simp [hb]), h3.kp f fun b hb => d b (by simp [hb]), h4.kp f fun b hb => d b (by simp [hb])⟩
theorem StAt.same {a : Ad} {H H' : Hp} {p : Addr} {v : Sv} {k : Se05.Kept} {js : List Se05.Job} {L : List Addr} (h : StAt a H p v k js L) (s : Same H H') : StAt a H' p v k js L := h.kp (M := []) (same_kp s _) (fun _ _ => by simp)
theorem nodup_mid {X B B' Y : List Addr} {H : Hp} (nd : (X ++ (B ++ Y)).Nodup) (nd' : B'.Nodup) (nw : New B B' H) (al : ∀ b ∈ X ++ Y, H b ≠ none) : (X ++ (B' ++ Y)).Nodup := by
  obtain ⟨n1, n2, n3⟩ := List.nodup_append.mp nd
  obtain ⟨n4, n5, n6⟩ := List.nodup_append.mp n2
  refine List.nodup_append.mpr ⟨n1, List.nodup_append.mpr ⟨nd', n5, fun x hx y hy e => ?_⟩, fun x hx y hy e => ?_⟩
  · subst e
    rcases nw x hx with z | z
    · exact n6 x z x hy rfl
    · exact al x (List.mem_append_right _ hy) z
  · subst e
    rcases List.mem_append.mp hy with hy | hy
    · rcases nw x hy with z | z
      · exact n3 x hx x (List.mem_append_left _ z) rfl
      · exact al x (List.mem_append_left _ hx) z
    · exact n3 x hx x (List.mem_append_right _ hy) rfl
/-- its kept part, and how another is put there -/
theorem StAt.kept {a : Ad} {H : Hp} {p : Addr} {v : Sv} {k : Se05.Kept} {js : List Se05.Job} {L : List Addr} (h : StAt a H p v k js L) : ∃ dx kp td Lk, H p = some (.ins a.Station dx (stf v kp td)) ∧ KeptAt a.Kept H kp k Lk ∧ (∀ b ∈ Lk, b ∈ L) ∧
    ∀ H' k' Lk', KeptAt a.Kept H' kp k' Lk' → Kp Lk H H' → New Lk Lk' H → ∃ L', StAt a H' p v k' js L' ∧ New L L' H := by
  have hm := h.mem
  obtain ⟨dx, kp, td, Lk, Lt, Lb, rfl, nd, h1, h2, h3, h4⟩ := h
  refine ⟨dx, kp, td, Lk, h1, h2, fun b hb => by simp [hb], fun H' k' Lk' hk f nw => ?_⟩
  have nd0 : ((p :: Lb) ++ (Lk ++ Lt)).Nodup := nd
  obtain ⟨n1, n2, n3⟩ := List.nodup_append.mp nd0
  obtain ⟨n4, n5, n6⟩ := List.nodup_append.mp n2
  have nd' : Lk'.Nodup := by obtain ⟨_, _, _, _, e, q, _⟩ := hk; exact q
  have x1 : ∀ b ∈ p :: Lb, b ∉ Lk := fun b hb hk => n3 b hb b (List.mem_append_left _ hk) rfl
  refine ⟨p :: (Lb ++ (Lk' ++ Lt)), ⟨dx, kp, td, Lk', Lt, Lb, rfl, ?_, f _ _ h1 (x1 p (by simp)), hk, h3.kp f fun b hb hm => n6 b hm b hb rfl, h4.kp f fun b hb => x1 b (by simp [hb])⟩, fun b hb => ?_⟩
  · exact nodup_mid (X := p :: Lb) nd0 nd' nw fun b hb => hm b (by
      rcases List.mem_append.mp hb with hb | hb
      · exact List.mem_append_left (as := p :: Lb) _ hb
      · simp [hb])
  · rcases List.mem_cons.mp hb with rfl | hb
    · exact .inl (by simp)
    rcases List.mem_append.mp hb with hb | hb
    · exact .inl (by simp [hb])
    rcases List.mem_append.mp hb with hb | hb
    · rcases nw b hb with z | z
      · exact .inl (by simp [z])
      · exact .inr z
    · exact .inl (by simp [hb])
/-- its tasks, and how others are put there -/
theorem StAt.tasks {a : Ad} {H : Hp} {p : Addr} {v : Sv} {k : Se05.Kept} {js : List Se05.Job} {L : List Addr} (h : StAt a H p v k js L) : ∃ dx kp td Lt, H p = some (.ins a.Station dx (stf v kp td)) ∧ TasksAt a.Task H td js Lt ∧ (∀ b ∈ Lt, b ∈ L) ∧
    ∀ H' js' Lt', TasksAt a.Task H' td js' Lt' → Kp Lt H H' → New Lt Lt' H → ∃ L', StAt a H' p v k js' L' ∧ New L L' H ∧ ∀ b ∈ L', b ∈ L ∨ b ∈ Lt' := by
  have hm := h.mem
  obtain ⟨dx, kp, td, Lk, Lt, Lb, rfl, nd, h1, h2, h3, h4⟩ := h
  refine ⟨dx, kp, td, Lt, h1, h3, fun b hb => by simp [hb], fun H' js' Lt' ht f nw => ?_⟩
  have nd0 : ((p :: (Lb ++ Lk)) ++ (Lt ++ [])).Nodup := by
    have e : (p :: (Lb ++ Lk)) ++ (Lt ++ []) = p :: (Lb ++ (Lk ++ Lt)) := by simp
    rw [e]; exact nd
  obtain ⟨n1, n2, n3⟩ := List.nodup_append.mp nd0
  have nd' : Lt'.Nodup := by obtain ⟨_, _, e, q, _⟩ := ht; exact q
  have x1 : ∀ b ∈ p :: (Lb ++ Lk), b ∉ Lt := fun b hb hk => n3 b hb b (List.mem_append_left _ hk) rfl
  refine ⟨p :: (Lb ++ (Lk ++ Lt')), ⟨dx, kp, td, Lk, Lt', Lb, rfl, ?_, f _ _ h1 (x1 p (by simp)), h2.kp f fun b hb => x1 b (by simp [hb]), ht, h4.kp f fun b hb => x1 b (by simp [hb])⟩, fun b hb => ?_, fun b hb => ?_⟩
  · have z := nodup_mid (X := p :: (Lb ++ Lk)) nd0 nd' nw fun b hb => hm b (by
      have : b ∈ p :: (Lb ++ Lk) := by simpa using hb
      rcases List.mem_cons.mp this with rfl | q
      · simp
      · rcases List.mem_append.mp q with q | q <;> simp [q])
    have e : (p :: (Lb ++ Lk)) ++ (Lt' ++ []) = p :: (Lb ++ (Lk ++ Lt')) := by simp
    rw [e] at z
    exact z
  · rcases List.mem_cons.mp hb with rfl | hb
    · exact .inl (by simp)
    rcases List.mem_append.mp hb with hb | hb
    · exact .inl (by simp [hb])
    rcases List.mem_append.mp hb with hb | hb
    · exact .inl (by simp [hb])
    · rcases nw b hb with z | z
      · exact .inl (by simp [z])
      · exact .inr z
  · rcases List.mem_cons.mp hb with rfl | hb
    · exact .inl (by simp)
    rcases List.mem_append.mp hb with hb | hb
    · exact .inl (by simp [hb])
    rcases List.mem_append.mp hb with hb | hb
    · exact .inl (by simp [hb])
    · exact .inr hb
/-- another number of its own -/
theorem StAt.put {a : Ad} {H : Hp} {p dx kp td : Addr} {v v' : Sv} {k : Se05.Kept} {js : List Se05.Job} {L : List Addr} (h : StAt a H p v k js L) (h1 : H p = some (.ins a.Station dx (stf v kp td))) (e1 : v'.before = v.before) (e2 : v'.bp = v.bp) : StAt a (upd H p (.ins a.Station dx (stf v' kp td))) p v' k js L := by
  obtain ⟨dx1, kp1, td1, Lk, Lt, Lb, rfl, nd, g1, h2, h3, h4⟩ := h
  rw [h1] at g1
  obtain ⟨e3, e4, e5⟩ : dx = dx1 ∧ kp = kp1 ∧ td = td1 := by
    have q := Option.some.inj g1
    injection q with q1 q2 q3
    unfold stf at q3
    simp at q3
    exact ⟨q2, q3.1, q3.2⟩
  subst e3 e4 e5
  have f : Kp [p] H (upd H p (.ins a.Station dx (stf v' kp td))) := (Kp.refl [p] H).upd (.inl (by simp))
  have np := (List.nodup_cons.mp nd).1
  have dj : ∀ b ∈ Lb ++ (Lk ++ Lt), b ∉ [p] := fun b hb hm => np (by simp at hm; rw [← hm]; exact hb)
  refine ⟨dx, kp, td, Lk, Lt, Lb, rfl, nd, upd_same, h2.kp f fun b hb => dj b (by simp [hb]), h3.kp f fun b hb => dj b (by simp [hb]), ?_⟩
  rw [e1, e2]
  exact h4.kp f fun b hb => dj b (by simp [hb])
/-- its before -/
theorem StAt.bef {a : Ad} {H : Hp} {p : Addr} {v : Sv} {k : Se05.Kept} {js : List Se05.Job} {L : List Addr} (h : StAt a H p v k js L) : ∃ Lb, KeptAt a.Kept H v.bp v.before Lb ∧ ∀ b ∈ Lb, b ∈ L := by
  obtain ⟨dx, kp, td, Lk, Lt, Lb, rfl, nd, h1, h2, h3, h4⟩ := h
  exact ⟨Lb, h4, fun b hb => by simp [hb]⟩
/-! ### what is wanted, as a list of tuples -/
def TupsAt (H : Hp) (l : Addr) (rows : List (List Int)) (L : List Addr) : Prop := ∃ ts, L = l :: ts ∧ H l = some (.lst (ts.map V.ref)) ∧ Paired (fun t r => H t = some (.tup (r.map V.int))) ts rows
theorem New.trans {L1 L2 L3 : List Addr} {H H1 : Hp} (h1 : New L1 L2 H) (h2 : New L2 L3 H1) (f : Kp L1 H H1) : New L1 L3 H := fun b hb => by
  rcases h2 b hb with z | z
  · exact h1 b z
  · by_cases hm : b ∈ L1
    · exact .inl hm
    · cases e : H b with
      | none => exact .inr rfl
      | some o => rw [f b o e hm] at z; cases z
theorem Kp.trans {L1 L2 : List Addr} {H H1 H2 : Hp} (f : Kp L1 H H1) (g : Kp L2 H1 H2) (n : New L1 L2 H) : Kp L1 H H2 := fun b o e hb => by
  refine g b o (f b o e hb) fun hm => ?_
  rcases n b hm with z | z
  · exact hb z
  · rw [e] at z; cases z
theorem in_three (ws : List Nat) : inV (.int 3) (nv ws) = decide (3 ∈ ws) := by
  unfold inV
  rw [Bool.eq_iff_iff, List.any_eq_true, decide_eq_true_eq]
  constructor
  · rintro ⟨x, hx, e⟩
    obtain ⟨n, hn, rfl⟩ := List.mem_map.mp hx
    have e : ((n : Int) == 3) = true := e
    have := eq_of_beq e
    have : n = 3 := by omega
    rw [← this]
    exact hn
  · intro h
    exact ⟨V.int 3, List.mem_map.mpr ⟨3, h, rfl⟩, rfl⟩
theorem flat_nv (ws : List Nat) : (nv ws).all flatV = true := by
  rw [List.all_eq_true]
  intro x hx
  obtain ⟨n, hn, rfl⟩ := List.mem_map.mp hx
  rfl
section
variable {P : Program} {w : World} {K : PySem.W.Frag} {mg : Str → Option Value} {base : Heap} {a : Ad}
/-- what a task's look does to what is doomed -/
def doomK (k : Se05.Kept) (ws : List Nat) (n : Nat) : Se05.Kept := if 3 ∈ ws then { k with doomed := if k.doomed = 0 then n + 1 else k.doomed } else k
def spLookTask (a : Ad) : Sp := fun vs H Q _ => ∃ (p : Addr) (v : Sv) (k : Se05.Kept) (pre post : List Se05.Job) (j : Se05.Job) (L : List Addr), vs = [.ref p, .int (j.number : Int)] ∧ StAt a H p v k (pre ++ j :: post) L ∧ Sorted (pre ++ j :: post) ∧ j.again.length ≤ 100000 ∧ j.rule.rank ≤ 2 ∧ (Se05.look v.now j).1.number = j.number ∧
  ∀ H' L' l Lw, StAt a H' p v (doomK k ((Se05.look v.now j).2.map kindOf) j.number) (pre ++ (Se05.look v.now j).1 :: post) L' → TupsAt H' l (((Se05.look v.now j).2.map kindOf).map fun (n : Nat) => [(n : Int), (j.number : Int)]) Lw → Kp L H H' → Alive H H' → New L L' H → (∀ b ∈ Lw, H b = none ∧ b ∉ L') → Q (.ref l) H'
theorem ok_look_at_task (T : Txt K mg a) : Mt P w K mg base 5 a.Station "look_at_task" ["self", "k"] (spLookTask a) := by
  refine Mt.mk T.k_Station T.m_Station_look_at_task sc_Station_look_at_task bd_Station_look_at_task (fun vs H Q E h => by obtain ⟨p, v, k, pre, post, j, L, rfl, _⟩ := h; rfl) (fun f cdv A outer s H vs Q E hr h => ?_)
  obtain ⟨p, v, kk, pre, post, j, L, rfl, hSt, hso, h16, h2r, hnum, k⟩ := h
  have nd := sc_Station_look_at_task.nd
  have hr1 : Room 1 _ := hr.mono (by decide)
  refine ⟨_, pss_cons (ps_set (i := 2) nd rfl (Or.inl rfl) (pe_mt (pe_dget (hu_of hr) (pe_fld (pv 0) rfl) (pv 1) (fun _ _ => rfl)) (ok_look_at T) hr (pa_cons (pe_fld (pv 0) rfl) pa_nil)))
    (pss_cons (ps_if (pt_cmpR op_in_seq (pe_cn T.c_ANEW) (pv 2) rfl) (pss_one (ps_expr (pe_mt (pe_fld (pv 0) rfl) (ok_doom T) hr1 (pa_cons (pv 1) pa_nil)))) pss_nil)
    (pss_one (ps_ret (pe_lc (te := tTup (tCons (tVar 3) (tCons (tVar 1) tNil))) rfl nd (pi_list (pv 2)) (blkOk_by (own := [("thing", 3)]) (by rfl)) (fun s H C cl fp => pg_name (i := 3) nd rfl (Or.inl rfl)) (fun s H C cl fp => pts_nil) (fun s H C cl fp => pe_tup (pa_cons (pv 3) (pa_cons (pv 1) pa_nil))))))), ?_⟩
  obtain ⟨dx, kp, td, Lt, g1, g2, g3, g4⟩ := hSt.tasks
  obtain ⟨tp, Lp, t1, t2, ⟨kvs, t3, t4⟩, t5, t6⟩ := g2.one hso
  obtain ⟨dxt, tlt, _, _, t7, _⟩ := id t1
  refine ⟨_, rfl, p, a.Station, dx, _, _, rfl, g1, T.k_Station, T.a_Station_tasks, rfl, _, rfl, td, _, rfl, (t4 ▸ DGet.k (k := Sum.inl (j.number : Int)) t3), tp, dxt, _, rfl, t7, rfl, _, rfl, p, a.Station, dx, _, _, rfl, g1, T.k_Station, T.a_Station_now, rfl, tp, v.now, j, Lp, rfl, t1, h16, h2r, fun H1 l Lp' q1 q2 q3 q4 q4a q5 q6 => ?_⟩
  generalize hws : (Se05.look v.now j).2.map kindOf = ws at *
  obtain ⟨Lt', u1, u2, u3⟩ := t6 H1 _ Lp' q1 hnum q4 q5
  have kLt : Kp Lt H H1 := fun b o e hb => q4 b o e fun hm => hb (t2 b hm)
  obtain ⟨L1, w1, w2, w3⟩ := g4 H1 _ Lt' u1 kLt u2
  have kL : Kp L H H1 := fun b o e hb => kLt b o e fun hm => hb (g3 b hm)
  have lL1 : l ∉ L1 := fun hm => by
    rcases w3 l hm with z | z
    · exact hSt.mem l z q2
    · rcases u3 l z with y | y
      · exact hSt.mem l (g3 l y) q2
      · exact q6 y
  have wlen : ws.length ≤ 2 := by
    rw [← hws, List.length_map]
    unfold Se05.look
    split
    · split
      · split <;> simp
      · split
        · dsimp only
          split <;> simp
        · split <;> simp
    · split
      · split <;> simp
      · simp
      · simp
  have fin : ∀ (H2 : Hp) (L2 : List Addr), StAt a H2 p v (doomK kk ws j.number) (pre ++ (Se05.look v.now j).1 :: post) L2 → Kp L H H2 → Alive H H2 → New L L2 H → l ∉ L2 → H2 l = some (.lst (nv ws)) → ∀ D : Ends, D.rt = Q →
      tRet (tLc (iList K (tVar 2)) (gName 3) tYes (tTup (tCons (tVar 3) (tCons (tVar 1) tNil))) [3]) D [some (.ref p), some (.int (j.number : Int)), some (.ref l), none] H2 := by
    intro H2 L2 x1 x2 x2a x3 x4 x5 D hD
    refine ⟨_, rfl, l, rfl, ⟨_, SqL.of x5⟩, fun D1 hD1 => ?_⟩
    have nlD : l ≠ D1 := ne_of_none x5 hD1
    refine lc_list (K := K) (a := l) (xs := nv ws) (fun i H' => Same H2 H' ∧ ∃ ts, H' D1 = some (.lst (ts.map V.ref)) ∧ Paired (fun t r => H' t = some (.tup (r.map V.int))) ts ((ws.take i).map fun (n : Nat) => [(n : Int), (j.number : Int)]) ∧ ∀ t ∈ ts, H2 t = none ∧ t ≠ D1)
      ⟨same_upd hD1, [], upd_same, .nil, fun t ht => by cases ht⟩ (fun i H' _ ⟨sm, _⟩ => SqL.of (sm _ _ x5)) ?_ ?_
    · rintro i x H' hi ⟨sm, ts, y1, y2, y3⟩
      obtain ⟨n, hn, rfl⟩ := nv_get hi
      refine ⟨rfl, ?_⟩
      unfold tYes
      dsimp only
      rw [if_pos rfl]
      refine ⟨_, rfl, _, rfl, (by show 2 ≤ sizeLine; decide), fun t ht => ?_⟩
      have ntD : t ≠ D1 := fun z => by rw [z, y1] at ht; cases ht
      have hlen : ts.length ≤ 2 := by
        rw [Paired.length y2, List.length_map, List.length_take]
        exact Nat.le_trans (Nat.min_le_right _ _) wlen
      refine ⟨_, (by rw [upd_ne (Ne.symm ntD)]; exact y1), (by rw [List.length_map]; exact Nat.lt_of_le_of_lt hlen (by decide)), ?_⟩
      refine ⟨fun b o e => ?_, ts ++ [t], by rw [upd_same, List.map_append]; rfl, ?_, fun t' h => ?_⟩
      · rw [upd_ne (ne_of_none e hD1), upd_ne (ne_of_none (sm _ _ e) ht)]
        exact sm _ _ e
      · rw [take_snoc hn, List.map_append]
        refine Paired.snoc (paired_imp y2 fun t' r h q => ?_) ?_
        · rw [upd_ne (y3 t' h).2, upd_ne (ne_of_none q ht)]
          exact q
        · rw [upd_ne ntD, upd_same]
          rfl
      · rcases List.mem_append.mp h with h | h
        · exact y3 t' h
        · have e : t' = t := by simpa using h
          rw [e]
          exact ⟨sm.free ht, ntD⟩
    · rintro H' ⟨sm, ts, y1, y2, y3⟩
      rw [List.length_map, List.take_length] at y2
      show D.rt _ _
      rw [hD]
      have old : ∀ b, H2 b = none → H b = none := x2a
      refine k H' L2 D1 (D1 :: ts) (x1.same sm) ⟨ts, rfl, y1, y2⟩ (fun b o e hb => sm _ _ (x2 b o e hb)) (x2a.trans (alive_same sm)) x3 (fun b hb => ?_)
      rcases List.mem_cons.mp hb with rfl | hb
      · exact ⟨old _ hD1, fun hm => x1.mem _ hm hD1⟩
      · exact ⟨old _ (y3 b hb).1, fun hm => x1.mem _ hm (y3 b hb).1⟩
  refine ⟨_, rfl, l, nv ws, rfl, .inl (SqL.of q3), rfl, flat_nv _, _, rfl, ?_⟩
  rw [show (if false = true then !inV (.int 3) (nv ws) else inV (.int 3) (nv ws)) = decide (3 ∈ ws) from in_three ws]
  refine ite2 (fun e => ?_) (fun e => ?_)
  · have e := of_decide_eq_true e
    obtain ⟨dx1, kp1, td1, Lk, z1, z2, z3, z4⟩ := w1.kept
    obtain ⟨dxk, _, _, _, _, _, z5, _⟩ := id z2
    refine ⟨_, rfl, p, a.Station, dx1, _, _, rfl, z1, T.k_Station, T.a_Station_kept, rfl, kp1, dxk, _, rfl, z5, rfl, _, rfl, kp1, j.number, kk, Lk, rfl, z2, fun H2 hk2 f2 f2a => ?_⟩
    obtain ⟨L2, y1, y2⟩ := z4 H2 _ Lk hk2 f2 (fun b hb => .inl hb)
    have lLk : l ∉ Lk := fun hm => lL1 (z3 l hm)
    refine fin H2 L2 ?_ (fun b o e' hb => f2 b o (kL b o e' hb) fun hm => ?_) (q4a.trans f2a) (w2.trans y2 kL) (fun hm => ?_) (f2 _ _ q3 lLk) _ rfl
    · unfold doomK
      rw [if_pos e]
      exact y1
    · rcases w2 b (z3 b hm) with y | y
      · exact hb y
      · rw [e'] at y; cases y
    · rcases y2 l hm with y | y
      · exact lL1 y
      · rw [q3] at y; cases y
  · have e : ¬ 3 ∈ ws := fun q => e (decide_eq_true q)
    refine fin H1 L1 ?_ kL q4a w2 lL1 q3 _ rfl
    unfold doomK
    rw [if_neg e]
    exact w1
end
end Tw
end
section
set_option Elab.async false
set_option linter.all false
set_option maxRecDepth 100000
set_option maxHeartbeats 2000000
namespace Tw
open PySem PySem.Spec PyProof.Rows L2
theorem perm_paired {α β : Type} {F : α → β → Prop} {l l' : List α} (p : l.Perm l') : ∀ {m' : List β}, Paired F l' m' → ∃ m, m.Perm m' ∧ Paired F l m := by
  induction p with
  | nil => intro m' h; cases h; exact ⟨[], .refl _, .nil⟩
  | cons x _ ih =>
    intro m' h
    cases h with
    | cons r t =>
      obtain ⟨m, h1, h2⟩ := ih t
      exact ⟨_ :: m, h1.cons _, .cons r h2⟩
  | swap x y l =>
    intro m' h
    cases h with
    | cons r t =>
      cases t with
      | cons r2 t2 => exact ⟨_ :: _ :: _, .swap _ _ _, .cons r2 (.cons r t2)⟩
  | trans _ _ ih1 ih2 =>
    intro m' h
    obtain ⟨m, h1, h2⟩ := ih2 h
    obtain ⟨m2, h3, h4⟩ := ih1 h2
    exact ⟨m2, h3.trans h1, h4⟩
theorem look_number (now : Nat) (j : Se05.Job) : (Se05.look now j).1.number = j.number := by
  unfold Se05.look
  split
  · split
    · rfl
    · split
      · dsimp only
        split <;> rfl
      · rfl
  · split
    · split <;> rfl
    · split <;> rfl
    · rfl
theorem paired_at {α β : Type} {F : α → β → Prop} : ∀ {l : List α} {m : List β} {i : Nat} {a : α}, Paired F l m → l[i]? = some a → ∃ b, m[i]? = some b ∧ F a b
  | _, _, _, _, .nil, h => by simp at h
  | _, _, 0, _, .cons r _, h => by cases h; exact ⟨_, rfl, r⟩
  | _, _, i + 1, _, .cons _ t, h => paired_at (i := i) t h
section
variable {P : Program} {w : World} {K : PySem.W.Frag} {mg : Str → Option Value} {base : Heap} {a : Ad}
/-- the tasks, as the dict's values are walked -/
theorem TasksAt.walk {C : Addr} {H : Hp} {td : Addr} {js : List Se05.Job} {L : List Addr} (h : TasksAt C H td js L) : ∃ kvs, ∃ bs : List Bool, H td = some (.dK kvs) ∧ td ∈ L ∧ bs.any id = js.any (·.late) ∧ kvs.length = js.length ∧
    Paired (fun (kv : Key × V) b => ∃ t dx fs, kv.2 = .ref t ∧ t ≠ td ∧ H t = some (.ins C dx fs) ∧ fs.lookup ("late" : Str) = some (.bl b)) kvs bs := by
  obtain ⟨ts, kvs, rfl, nd, h1, h2, h3⟩ := h
  have tdn : ∀ t ∈ ts, ∀ b ∈ t.2, b ≠ td := fun t ht b hb q => (List.nodup_cons.mp nd).1 (List.mem_flatMap.mpr ⟨t, ht, q ▸ hb⟩)
  have q : Paired (fun (kv : Key × V) (b : Bool) => ∃ t dx fs, kv.2 = V.ref t ∧ t ≠ td ∧ H t = some (.ins C dx fs) ∧ fs.lookup ("late" : Str) = some (.bl b)) (kvsOf ts js) (js.map (·.late)) := by
    clear h1 h2 nd
    unfold kvsOf
    induction h3 with
    | nil => exact .nil
    | @cons t j l1 l2 r _ ih =>
      rw [List.zip_cons_cons, List.map_cons, List.map_cons]
      refine .cons ?_ (ih fun t' ht' => tdn t' (List.mem_cons_of_mem _ ht'))
      obtain ⟨dx, tl, e, n, g1, g2⟩ := r
      exact ⟨t.1, dx, _, rfl, tdn t (List.mem_cons_self ..) t.1 (by rw [e]; simp), g1, rfl⟩
  obtain ⟨bs, p1, p2⟩ := perm_paired h2 q
  refine ⟨kvs, bs, h1, by simp, ?_, ?_, p2⟩
  · have e : bs.any id = (js.map (·.late)).any id := by
      rw [Bool.eq_iff_iff, List.any_eq_true, List.any_eq_true]
      exact ⟨fun ⟨x, hx, e⟩ => ⟨x, p1.mem_iff.mp hx, e⟩, fun ⟨x, hx, e⟩ => ⟨x, p1.mem_iff.mpr hx, e⟩⟩
    rw [e, List.any_map]
    rfl
  · rw [h2.length_eq]
    unfold kvsOf
    rw [List.length_map, List.length_zip, Paired.length h3, Nat.min_self]
def spWell (a : Ad) : Sp := fun vs H Q _ => ∃ (p : Addr) (v : Sv) (k : Se05.Kept) (js : List Se05.Job) (L : List Addr), vs = [.ref p] ∧ StAt a H p v k js L ∧ js.length ≤ 16 ∧ ∀ H', Same H H' → Q (.bl (!(js.any (·.late)) && decide (v.began + 600000000 ≤ v.now))) H'
theorem ok_all_well (T : Txt K mg a) : Mt P w K mg base 1 a.Station "all_well_for_long" ["self"] (spWell a) := by
  refine Mt.mk T.k_Station T.m_Station_all_well_for_long sc_Station_all_well_for_long bd_Station_all_well_for_long (fun vs H Q E h => by obtain ⟨p, v, k, js, L, rfl, _⟩ := h; rfl) (fun f cdv A outer s H vs Q E hr h => ?_)
  obtain ⟨p, v, kk, js, L, rfl, hSt, h16, k⟩ := h
  have nd := sc_Station_all_well_for_long.nd
  refine ⟨_, pss_cons (ps_if (pt_val (pe_callB (cr_any rfl) rfl T.b_any PyProof.Rows.boot_any (pa_cons (pe_lock (pe_lc (te := tFld K (tVar 1) "late") rfl nd (pi_values (pe_fld (pv 0) rfl)) (blkOk_by (own := [("task", 1)]) (by rfl)) (fun s H C cl fp => pg_name (i := 1) nd rfl (Or.inl rfl)) (fun s H C cl fp => pts_nil) (fun s H C cl fp => pe_fld (pv 1) (by rfl)))) pa_nil)))
      (pss_one (ps_ret pe_bl)) pss_nil)
    (pss_one (ps_ret (pe_cmpR op_le (pe_op op_add (pe_fld (pv 0) rfl) (pe_cn T.c_CALM_AFTER)) (pe_fld (pv 0) rfl) (nomark _)))), ?_⟩
  obtain ⟨dx, kp, td, Lt, g1, g2, g3, g4⟩ := hSt.tasks
  obtain ⟨kvs, bs, w1, w2, w3, w4, w5⟩ := g2.walk
  have npt : p ≠ td := ne_of g1 w1 (by intro z; cases z)
  have hbl : bs.length = js.length := by rw [← w4]; exact (Paired.length w5).symm
  refine ⟨td, _, w1, trivial, fun od => ?_⟩
  refine ⟨_, rfl, p, a.Station, dx, _, _, rfl, (by rw [upd_ne npt]; exact g1), T.k_Station, T.a_Station_tasks, rfl, td, od, kvs, rfl, upd_same, fun D hD => ?_⟩
  have nDt : D ≠ td := fun z => by rw [z, upd_same] at hD; cases hD
  have hD' : H D = none := by rw [upd_ne nDt] at hD; exact hD
  refine lc_gen (n := kvs.length) (fun i H' => H' = upd (upd H td (.frz od (.dK kvs))) D (.lst ((bs.take i).map V.bl))) rfl (fun i H' hi e => ?_) (fun H' e => ?_) ?_ ?_
  · subst e
    exact ⟨by rw [upd_ne (Ne.symm nDt), upd_same], hi⟩
  · subst e
    exact ⟨by rw [upd_ne (Ne.symm nDt), upd_same], Nat.le_refl _⟩
  · rintro i H' hi rfl x H'' ⟨rfl, key, hkv⟩
    obtain ⟨b, hb, t, dxt, fs, e1, e2, e3, e4⟩ := paired_at w5 hkv
    have e1 : x = V.ref t := e1
    subst e1
    have ntD : t ≠ D := ne_of_none e3 hD'
    refine ⟨rfl, ?_⟩
    unfold tYes
    dsimp only
    rw [if_pos rfl]
    refine ⟨_, rfl, t, a.Task, dxt, _, _, rfl, (by rw [upd_ne ntD, upd_ne e2]; exact e3), T.k_Task, T.a_Task_late, e4, _, upd_same, ?_, ?_⟩
    · rw [List.length_map, List.length_take]
      exact Nat.lt_of_le_of_lt (Nat.le_trans (Nat.min_le_right _ _) (by rw [hbl]; exact h16)) (by decide)
    · rw [upd_upd, take_snoc hb, List.map_append]
      rfl
  · rintro H' rfl
    have e0 : bs.take kvs.length = bs := List.take_of_length_le (by omega)
    refine ⟨by rw [upd_ne (Ne.symm nDt), upd_same], D, bs, rfl, SqL.of (by rw [upd_ne nDt, upd_same, e0]), _, rfl, ?_⟩
    generalize hH1 : upd (upd (upd H td (.frz od (.dK kvs))) D _) td (.dK kvs) = H1
    have s1 : Same H H1 := fun b o e => by
      rw [← hH1]
      by_cases q : b = td
      · rw [q, upd_same, ← w1, ← q]; exact e
      · rw [upd_ne q, upd_ne (ne_of_none e hD'), upd_ne q]; exact e
    refine ite2 (fun e => ?_) (fun e => ?_)
    · rw [w3] at e
      have z := k H1 s1
      rw [e] at z
      exact z
    · have e : js.any (·.late) = false := by rw [w3] at e; cases q : js.any (·.late); rfl; exact absurd q e
      refine ⟨_, rfl, p, a.Station, dx, _, _, rfl, s1 _ _ g1, T.k_Station, T.a_Station_began, rfl, _, _, rfl, rfl, _, rfl, p, a.Station, dx, _, _, rfl, s1 _ _ g1, T.k_Station, T.a_Station_now, rfl, _, _, rfl, rfl, ?_⟩
      have z := k H1 s1
      rw [e] at z
      have e2 : (!false && decide (v.began + 600000000 ≤ v.now)) = decide ((v.began : Int) + 600000000 ≤ (v.now : Int)) := by
        rw [Bool.not_false, Bool.true_and, decide_eq_decide]
        omega
      rw [e2] at z
      exact z
end
end Tw
end
section
set_option Elab.async false
set_option linter.all false
set_option maxRecDepth 100000
set_option maxHeartbeats 2000000
namespace Tw
open PySem PySem.Spec PyProof.Rows L2
/-- the kinds that are wanted of a task -/
abbrev kinds (now : Nat) (j : Se05.Job) : List Nat := (Se05.look now j).2.map kindOf
/-- what is kept behind looking at these tasks -/
def keptL (now : Nat) (k : Se05.Kept) (js : List Se05.Job) : Se05.Kept := js.foldl (fun k j => doomK k (kinds now j) j.number) k
def rowsL (now : Nat) (js : List Se05.Job) : List (List Int) := js.flatMap fun j => (kinds now j).map fun (n : Nat) => [(n : Int), (j.number : Int)]
theorem kinds_len (now : Nat) (j : Se05.Job) : (kinds now j).length ≤ 2 := by
  unfold kinds
  rw [List.length_map]
  unfold Se05.look
  split
  · split
    · split <;> simp
    · split
      · dsimp only
        split <;> simp
      · split <;> simp
  · split
    · split <;> simp
    · simp
    · simp
theorem rowsL_len (now : Nat) (js : List Se05.Job) : (rowsL now js).length ≤ 2 * js.length := by
  unfold rowsL
  induction js with
  | nil => simp
  | cons j r ih =>
    rw [List.flatMap_cons, List.length_append, List.length_map, List.length_cons]
    have := kinds_len now j
    omega
/-- quick behind a tick -/
def keptT (v : Sv) (k : Se05.Kept) (js : List Se05.Job) : Se05.Kept :=
  let k1 := keptL v.now k js
  if rowsL v.now js = [] ∧ (js.map fun j => (Se05.look v.now j).1).any (·.late) = false ∧ v.began + 600000000 ≤ v.now then { k1 with quick := 0 } else k1
def rowsT (v : Sv) (k : Se05.Kept) (js : List Se05.Job) : List (List Int) := rowsL v.now js ++ if (keptT v k js).doomed = 0 then [[4]] else []
theorem take_map_drop {js : List Se05.Job} {i : Nat} {j : Se05.Job} (h : js[i]? = some j) : js.drop i = j :: js.drop (i + 1) := by
  obtain ⟨hl, e⟩ := List.getElem?_eq_some_iff.mp h
  rw [List.drop_eq_getElem_cons hl, e]
theorem Sorted.mixed {now : Nat} {js : List Se05.Job} (h : Sorted js) (i : Nat) : Sorted ((js.take i).map (fun j => (Se05.look now j).1) ++ js.drop i) := by
  unfold Sorted at h ⊢
  have e : ((js.take i).map (fun j => (Se05.look now j).1) ++ js.drop i).map (·.number) = js.map (·.number) := by
    rw [List.map_append, List.map_map]
    have e2 : ((·.number) ∘ fun j => (Se05.look now j).1) = fun j : Se05.Job => j.number := by funext j; exact look_number now j
    rw [e2, ← List.map_append, List.take_append_drop]
  rw [e]
  exact h
theorem paired_mem {α β : Type} {F : α → β → Prop} {x : α} : ∀ {l : List α} {m : List β}, Paired F l m → x ∈ l → ∃ b, F x b
  | _, _, .nil, h => by cases h
  | _, _, .cons r t, h => by
    rcases List.mem_cons.mp h with rfl | h
    · exact ⟨_, r⟩
    · exact paired_mem t h
section
variable {P : Program} {w : World} {K : PySem.W.Frag} {mg : Str → Option Value} {base : Heap} {a : Ad}
def spTick (a : Ad) : Sp := fun vs H Q _ => ∃ (p : Addr) (v : Sv) (k : Se05.Kept) (js : List Se05.Job) (L : List Addr), vs = [.ref p] ∧ StAt a H p v k js L ∧ Sorted js ∧ js.length ≤ 16 ∧ (∀ j ∈ js, j.again.length ≤ 100000 ∧ j.rule.rank ≤ 2) ∧
  ∀ H' L' l Lw, StAt a H' p v (keptT v k js) (js.map fun j => (Se05.look v.now j).1) L' → TupsAt H' l (rowsT v k js) Lw → Kp L H H' → Alive H H' → New L L' H → (∀ b ∈ Lw, H b = none ∧ b ∉ L') → Q (.ref l) H'
theorem ok_tick (T : Txt K mg a) : Mt P w K mg base 6 a.Station "tick" ["self"] (spTick a) := by
  refine Mt.mk T.k_Station T.m_Station_tick sc_Station_tick bd_Station_tick (fun vs H Q E h => by obtain ⟨p, v, k, js, L, rfl, _⟩ := h; rfl) (fun f cdv A outer s H vs Q E hr h => ?_)
  obtain ⟨p, v, kk, js, L, rfl, hSt, hso, h16, hgood, k⟩ := h
  have nd := sc_Station_tick.nd
  have hr1 : Room 1 _ := hr.mono (by decide)
  refine ⟨_, pss_cons (ps_set (i := 1) nd rfl (Or.inl rfl) (pe_lst pa_nil))
    (pss_cons (ps_for PassesOwn.never rfl (pi_list (pe_callB (cr_sortedD rfl) rfl T.b_sorted PyProof.Rows.boot_sorted (pa_cons (pe_fld (pv 0) rfl) pa_nil))) (pg_name (i := 2) nd rfl (Or.inl rfl))
      (pss_one (ps_expr (pe_bm PySem.F.plainAttrs_list PySem.F.slot_list_extend PySem.F.type_list_extend mt_extend (pv 1) (pa_cons (pe_mt (pv 0) (ok_look_at_task T) hr (pa_cons (pv 2) pa_nil)) pa_nil)))))
    (pss_cons (ps_if (PW.pt (pw_and (pt_not (pt_truth (pv 1) (fun _ => rfl))) (pw_and1 (pt_val (pe_mt0 (pv 0) (ok_all_well T) hr1))))) (pss_one (ps_expr (pe_mt0 (pe_fld (pv 0) rfl) (ok_forget_quick T) hr1))) pss_nil)
    (pss_cons (ps_if (pt_cmpR op_eq (pe_fld (pe_fld (pv 0) rfl) rfl) pe_int (nomark _)) (pss_one (ps_expr (pe_bm PySem.F.plainAttrs_list PySem.F.slot_list_append PySem.F.type_list_append mt_append (pv 1) (pa_cons (pe_tup (pa_cons (pe_cn T.c_FEED) pa_nil)) pa_nil)))) pss_nil)
    (pss_one (ps_ret (pv 1)))))), ?_⟩
  refine ⟨Nat.zero_le _, fun wl hwl => ?_⟩
  have s0 := same_upd (o := .lst []) hwl
  have st0 := hSt.same s0
  obtain ⟨dx, kp, td, Lt, g1, g2, g3, g4⟩ := st0.tasks
  obtain ⟨kvs, ks, e1, e2, e3⟩ := g2.keys
  have hks : ks.length < 64 := by rw [e3.length_eq, List.length_map]; omega
  refine ⟨_, rfl, p, a.Station, dx, _, _, rfl, g1, T.k_Station, T.a_Station_tasks, rfl, td, kvs, ks, rfl, e1, e2, hks, fun ns sl hp hle hsl => ?_⟩
  have ens : ns = js.map fun j => (j.number : Int) := sorted_unique (hp.trans e3) hle hso.ints
  subst ens
  have s1 := same_upd (o := .lst ((js.map fun j => (j.number : Int)).map V.int)) hsl
  have nws : wl ≠ sl := fun z => by rw [← z, upd_same] at hsl; cases hsl
  have nsl : H sl = none := s0.free hsl
  refine ⟨sl, rfl, ⟨_, SqL.of upd_same⟩, for_list (K := K) (a := sl) (xs := (js.map fun j => (j.number : Int)).map V.int) (fun i σ H' => ∃ (L' : List Addr) (Lw : List Addr) (v2 : Option V), StAt a H' p v (keptL v.now kk (js.take i)) ((js.take i).map (fun j => (Se05.look v.now j).1) ++ js.drop i) L' ∧ TupsAt H' wl (rowsL v.now (js.take i)) Lw ∧
      H' sl = some (.lst ((js.map fun j => (j.number : Int)).map V.int)) ∧ Kp L H H' ∧ Alive H H' ∧ New L L' H ∧ (∀ b ∈ Lw, H b = none ∧ b ∉ L' ∧ b ≠ sl) ∧ sl ∉ L' ∧ σ = [some (.ref p), some (.ref wl), v2])
    ⟨L, [wl], none, ?_, ⟨[], rfl, (s1 _ _ upd_same), .nil⟩, upd_same, same_kp (s0.trans s1) _, alive_same (s0.trans s1), fun b hb => .inl hb, ?_, fun hm => hSt.mem sl hm nsl, rfl⟩ ?_ ?_ ?_⟩
  · exact st0.same s1
  · intro b hb
    have e : b = wl := by simpa using hb
    subst e
    exact ⟨hwl, fun hm => hSt.mem b hm hwl, nws⟩
  · rintro i σ H' _ ⟨L', Lw, v2, _, _, h3, _⟩
    exact SqL.of h3
  · rintro i x σ H' hi ⟨L', Lw, v2, h1, h2, h3, h4, h5, h6, h7, h8, rfl⟩
    obtain ⟨j, hj, rfl⟩ : ∃ j, js[i]? = some j ∧ x = V.int (j.number : Int) := by
      rw [List.map_map, List.getElem?_map] at hi
      cases e : js[i]? with
      | none => rw [e] at hi; cases hi
      | some j => rw [e] at hi; exact ⟨j, rfl, (Option.some.inj hi).symm⟩
    have hd := take_map_drop hj
    rw [hd] at h1
    have hso' := hso.mixed (now := v.now) i
    rw [hd] at hso'
    obtain ⟨hg1, hg2⟩ := hgood j (List.mem_of_getElem? hj)
    obtain ⟨ts, rfl, y1, y2⟩ := h2
    obtain ⟨dx', kp', td', Lk', z1, _⟩ := h1.kept
    refine ⟨_, rfl, .inl ⟨rfl, _, SqL.of y1⟩, _, rfl, p, dx', _, rfl, z1, rfl, _, rfl, p, v, _, _, _, j, L', rfl, h1, hso', hg1, hg2, look_number _ _, fun H2 L2 l2 Lw2 x1 x2 x3 x4 x5 x6 => ?_⟩
    obtain ⟨ts2, rfl, u1, u2⟩ := x2
    have wlL : wl ∉ L' := (h7 wl (by simp)).2.1
    have keep : ∀ b ∈ wl :: ts, ∀ o, H' b = some o → H2 b = some o := fun b hb o e => x3 b o e (h7 b hb).2.1
    have y1' := keep wl (by simp) _ y1
    have hlen : ts.length + ts2.length ≤ 64 := by
      rw [Paired.length y2, Paired.length u2, List.length_map]
      have q1 := rowsL_len v.now (js.take i)
      have q2 : ((Se05.look v.now j).2.map kindOf).length ≤ 2 := kinds_len v.now j
      have q3 : (js.take i).length ≤ 16 := by rw [List.length_take]; omega
      omega
    refine ⟨wl, l2, _, _, rfl, rfl, y1', u1, ?_, ?_⟩
    · rw [List.length_map, List.length_map]
      exact Nat.le_trans hlen (by decide)
    have nl2 : ∀ b ∈ l2 :: ts2, b ≠ wl ∧ b ≠ sl := fun b hb => ⟨fun z => (by have q := (x6 b hb).1; rw [z, y1] at q; cases q), fun z => (by have q := (x6 b hb).1; rw [z, h3] at q; cases q)⟩
    have wlL2 : wl ∉ L2 := fun hm => by
      rcases x5 wl hm with z | z
      · exact wlL z
      · rw [y1] at z; cases z
    have slL2 : sl ∉ L2 := fun hm => by
      rcases x5 sl hm with z | z
      · exact h8 z
      · rw [h3] at z; cases z
    refine ⟨L2, wl :: (ts ++ ts2), _, ?_, ⟨ts ++ ts2, rfl, by rw [upd_same, List.map_append], ?_⟩, ?_, ?_, (h5.trans x4).upd, h6.trans x5 h4, ?_, slL2, rfl⟩
    · have e : keptL v.now kk (js.take (i + 1)) = doomK (keptL v.now kk (js.take i)) (kinds v.now j) j.number := by
        unfold keptL
        rw [take_snoc hj, List.foldl_append]
        rfl
      rw [e, take_snoc hj, List.map_append, List.append_assoc]
      exact x1.kp (M := [wl]) (Kp.upd (Kp.refl _ _) (.inl (by simp))) (fun b hb hm => by
        have e : b = wl := by simpa using hm
        rw [e] at hb
        exact wlL2 hb)
    · have e : rowsL v.now (js.take (i + 1)) = rowsL v.now (js.take i) ++ (kinds v.now j).map fun (n : Nat) => [(n : Int), (j.number : Int)] := by
        unfold rowsL
        rw [take_snoc hj, List.flatMap_append, List.flatMap_cons, List.flatMap_nil, List.append_nil]
      rw [e]
      have app : ∀ {l1 l2 : List Addr} {m1 m2 : List (List Int)} {F : Addr → List Int → Prop}, Paired F l1 m1 → Paired F l2 m2 → Paired F (l1 ++ l2) (m1 ++ m2) := by
        intro l1 l2 m1 m2 F p1 p2
        induction p1 with
        | nil => exact p2
        | cons r _ ih => exact .cons r ih
      refine app (paired_imp y2 fun t r ht q => ?_) (paired_imp u2 fun t r ht q => ?_)
      · have nt : t ≠ wl := fun z => by rw [z, y1] at q; cases q
        rw [upd_ne nt]
        exact keep t (by simp [ht]) _ q
      · rw [upd_ne (nl2 t (by simp [ht])).1]
        exact q
    · rw [upd_ne (Ne.symm nws)]
      exact x3 _ _ h3 h8
    · refine Kp.upd (h4.trans x3 h6) (.inr hwl)
    · intro b hb
      rcases List.mem_cons.mp hb with rfl | hb
      · exact ⟨hwl, wlL2, nws⟩
      rcases List.mem_append.mp hb with hb | hb
      · obtain ⟨c1, c2, c3⟩ := h7 b (by simp [hb])
        refine ⟨c1, fun hm => ?_, c3⟩
        rcases x5 b hm with z | z
        · exact c2 z
        · obtain ⟨r, q⟩ := paired_mem y2 hb
          rw [q] at z; cases z
      · obtain ⟨c1, c2⟩ := x6 b (by simp [hb])
        exact ⟨h5 b c1, c2, (nl2 b (by simp [hb])).2⟩
  · rintro σ H1 ⟨L1, Lw, v2, h1, h2, h3, h4, h5, h6, h7, h8, rfl⟩
    have elen : ((js.map fun j => (j.number : Int)).map V.int).length = js.length := by rw [List.length_map, List.length_map]
    rw [elen, List.take_length] at h1 h2
    rw [List.drop_length, List.append_nil] at h1
    obtain ⟨ts, rfl, y1, y2⟩ := h2
    have hlen : ts.length ≤ 32 := by
      rw [Paired.length y2]
      have := rowsL_len v.now js
      omega
    -- the watch, at the end
    have rest : ∀ (H2 : Hp) (L2 : List Addr), StAt a H2 p v (keptT v kk js) (js.map fun j => (Se05.look v.now j).1) L2 → H2 wl = some (.lst (ts.map V.ref)) → Paired (fun t r => H2 t = some (.tup (r.map V.int))) ts (rowsL v.now js) → Kp L H H2 → Alive H H2 → New L L2 H → (∀ b ∈ wl :: ts, H b = none ∧ b ∉ L2) → ∀ D : Ends, D.rt = Q →
        tSeq (tIfS (tTest (tOp rEq (tFld K (tFld K (tVar 0) "kept") "doomed") (tC (.int 0)))) (tDrop (tBM K "list" rAppend (tVar 1) (tCons (tTup (tCons (tC (.int 4)) tNil)) tNil))) tNext) (tRet (tVar 1)) D [some (.ref p), some (.ref wl), v2] H2 := by
      intro H2 L2 x1 x2 x3 x4 x5 x6 x7 D hD
      obtain ⟨dx2, kp2, td2, Lk2, z1, z2, z3, _⟩ := x1.kept
      obtain ⟨dxk, _, _, _, _, _, z5, _⟩ := id z2
      refine ⟨_, rfl, p, a.Station, dx2, _, _, rfl, z1, T.k_Station, T.a_Station_kept, rfl, kp2, a.Kept, dxk, _, _, rfl, z5, T.k_Kept, T.a_Kept_doomed, rfl, rfl, _, rfl, ite2 (fun e => ?_) (fun e => ?_)⟩
      · have e : (keptT v kk js).doomed = 0 := by have := V.int.inj (of_decide_eq_true e); omega
        refine ⟨_, rfl, .inl ⟨rfl, _, SqL.of x2⟩, (by show 1 ≤ sizeLine; decide), fun t ht => ?_⟩
        have ntw : t ≠ wl := fun z => by rw [z, x2] at ht; cases ht
        refine ⟨wl, _, _, rfl, rfl, (by rw [upd_ne (Ne.symm ntw)]; exact x2), (by rw [List.length_map]; exact Nat.lt_of_le_of_lt hlen (by decide)), _, rfl, ?_⟩
        rw [hD]
        have st : Same H2 (upd H2 t (.tup [.int 4])) := same_upd ht
        have wlL : wl ∉ L2 := (x7 wl (by simp)).2
        refine k _ L2 wl (wl :: (ts ++ [t])) ?_ ⟨ts ++ [t], rfl, by rw [upd_same, List.map_append]; rfl, ?_⟩ (Kp.upd (fun b o e' hb => st _ _ (x4 b o e' hb)) (.inr hwl)) (x5.trans (alive_same st)).upd x6 (fun b hb => ?_)
        · exact (x1.same st).kp (M := [wl]) (Kp.upd (Kp.refl _ _) (.inl (by simp))) (fun b hb hm => by
            have e : b = wl := by simpa using hm
            rw [e] at hb
            exact wlL hb)
        · unfold rowsT
          rw [if_pos e]
          refine Paired.snoc (paired_imp x3 fun t' r ht' q => ?_) ?_
          · have n1 : t' ≠ wl := fun z => by rw [z, x2] at q; cases q
            rw [upd_ne n1]
            exact st _ _ q
          · rw [upd_ne ntw, upd_same]
            rfl
        · rcases List.mem_cons.mp hb with rfl | hb
          · exact x7 b (by simp)
          rcases List.mem_append.mp hb with hb | hb
          · exact x7 b (by simp [hb])
          · have e' : b = t := by simpa using hb
            rw [e']
            exact ⟨x5 t ht, fun hm => x1.mem t hm ht⟩
      · have e : ¬ (keptT v kk js).doomed = 0 := fun q => e (decide_eq_true (by rw [q]; rfl))
        refine ⟨_, rfl, ?_⟩
        rw [hD]
        refine k H2 L2 wl (wl :: ts) x1 ⟨ts, rfl, x2, ?_⟩ x4 x5 x6 x7
        unfold rowsT
        rw [if_neg e, List.append_nil]
        exact x3
    have h7' : ∀ b ∈ wl :: ts, H b = none ∧ b ∉ L1 := fun b hb => ⟨(h7 b hb).1, (h7 b hb).2.1⟩
    refine ⟨_, rfl, _, .inl ⟨_, SqL.of y1, rfl⟩, ?_⟩
    by_cases hemp : rowsL v.now js = []
    · have hts : ts = [] := by rw [hemp] at y2; cases y2; rfl
      subst hts
      refine iteT ?_
      obtain ⟨dx1, kp1, td1, Lk1, z1, z2, z3, z4⟩ := h1.kept
      obtain ⟨dxk, _, _, _, _, _, z5, _⟩ := id z2
      refine ⟨_, rfl, p, dx1, _, rfl, z1, rfl, p, v, _, _, L1, rfl, h1, (by rw [List.length_map]; exact h16), fun H2 s2 => ⟨_, rfl, ite2 (fun e => ?_) (fun e => ?_)⟩⟩
      · obtain ⟨e1', e2'⟩ := Bool.and_eq_true_iff.mp e
        have c1 : (js.map fun j => (Se05.look v.now j).1).any (·.late) = false := by
          cases q : (js.map fun j => (Se05.look v.now j).1).any (·.late) with
          | false => rfl
          | true => rw [q] at e1'; cases e1'
        have ek : keptT v kk js = { keptL v.now kk js with quick := 0 } := if_pos ⟨hemp, c1, of_decide_eq_true e2'⟩
        refine ⟨_, rfl, p, a.Station, dx1, _, _, rfl, s2 _ _ z1, T.k_Station, T.a_Station_kept, rfl, kp1, dxk, _, rfl, s2 _ _ z5, rfl, kp1, _, Lk1, rfl, z2.kp (M := []) (same_kp s2 _) (fun _ _ => by simp), fun H3 hk3 f3 f3a => ?_⟩
        have f3' : Kp Lk1 H1 H3 := fun b o e' hb => f3 b o (s2 _ _ e') hb
        obtain ⟨L3, y3, y4⟩ := z4 H3 _ Lk1 hk3 f3' (fun b hb => .inl hb)
        have wlk : wl ∉ Lk1 := fun hm => (h7' wl (by simp)).2 (z3 wl hm)
        refine rest H3 L3 (by rw [ek]; exact y3) (f3' _ _ y1 wlk) (by rw [hemp]; exact .nil) (h4.trans (L2 := L1) (fun b o e' hb => f3' b o e' fun hm => hb (z3 b hm)) h6) ((h5.trans (alive_same s2)).trans f3a) (h6.trans y4 h4) (fun b hb => ?_) _ rfl
        have e' : b = wl := by simpa using hb
        rw [e']
        refine ⟨hwl, fun hm => ?_⟩
        rcases y4 wl hm with z | z
        · exact (h7' wl (by simp)).2 z
        · rw [y1] at z; cases z
      · have ek : keptT v kk js = keptL v.now kk js := if_neg (fun ⟨_, q1, q2⟩ => e (by
          show (!((js.map fun j => (Se05.look v.now j).1).any (·.late)) && decide (v.began + 600000000 ≤ v.now)) = true
          rw [q1, decide_eq_true q2]
          rfl))
        exact rest H2 L1 (by rw [ek]; exact h1.same s2) (s2 _ _ y1) (by rw [hemp]; exact .nil) (fun b o e' hb => s2 _ _ (h4 b o e' hb)) (h5.trans (alive_same s2)) h6 h7' _ rfl
    · have hne : (List.map V.ref ts).isEmpty = false := by
        cases ts with
        | nil => exact absurd (List.length_eq_zero_iff.mp (Paired.length y2).symm) hemp
        | cons _ _ => rfl
      have ek : keptT v kk js = keptL v.now kk js := if_neg (fun ⟨q, _⟩ => hemp q)
      rw [hne]
      refine iteF ?_
      exact iteF (rest H1 L1 (by rw [ek]; exact h1) y1 y2 h4 h5 h6 h7' _ rfl)
end
end Tw
end
section
set_option Elab.async false
set_option linter.all false
set_option maxRecDepth 100000
set_option maxHeartbeats 2000000
namespace Tw
open PySem PySem.Spec PyProof.Rows L2
/-! ### a tick by the specification -/
theorem look_wants (now : Nat) (j : Se05.Job) : (∀ x ∈ (Se05.look now j).2, Se05Neutral.wantNumbers x = [((kindOf x : Nat) : Int), (j.number : Int)]) ∧ ((Se05.look now j).2 = [Se05.Want.anew j.number] ∨ ((Se05.look now j).2.find? Se05.isAnew = none ∧ ¬ 3 ∈ (Se05.look now j).2.map kindOf)) := by
  have key : ∀ l : List Se05.Want, (l = [] ∨ l = [.note j.number] ∨ l = [.halt_ j.number, .giveUp j.number] ∨ l = [.halt_ j.number] ∨ l = [.anew j.number] ∨ l = [.start j.number]) → (∀ x ∈ l, Se05Neutral.wantNumbers x = [((kindOf x : Nat) : Int), (j.number : Int)]) ∧ (l = [Se05.Want.anew j.number] ∨ (l.find? Se05.isAnew = none ∧ ¬ 3 ∈ l.map kindOf)) := by
    rintro l (rfl | rfl | rfl | rfl | rfl | rfl)
    · exact ⟨fun x h => (by cases h), .inr ⟨rfl, by decide⟩⟩
    · exact ⟨fun x h => (by rw [List.mem_singleton.mp h]; rfl), .inr ⟨rfl, by simp [kindOf]⟩⟩
    · refine ⟨fun x h => ?_, .inr ⟨rfl, by simp [kindOf]⟩⟩
      rcases List.mem_cons.mp h with rfl | h
      · rfl
      · rw [List.mem_singleton.mp h]; rfl
    · exact ⟨fun x h => (by rw [List.mem_singleton.mp h]; rfl), .inr ⟨rfl, by simp [kindOf]⟩⟩
    · exact ⟨fun x h => (by rw [List.mem_singleton.mp h]; rfl), .inl rfl⟩
    · exact ⟨fun x h => (by rw [List.mem_singleton.mp h]; rfl), .inr ⟨rfl, by simp [kindOf]⟩⟩
  refine key _ ?_
  unfold Se05.look
  split
  · split
    · dsimp only
      split
      · exact .inl rfl
      · exact .inr (.inl rfl)
    · split
      · dsimp only
        split
        · exact .inr (.inr (.inl rfl))
        · exact .inr (.inr (.inr (.inl rfl)))
      · dsimp only
        split
        · exact .inl rfl
        · exact .inr (.inr (.inr (.inr (.inl rfl))))
  · split
    · split
      · exact .inr (.inr (.inr (.inr (.inr rfl))))
      · exact .inl rfl
    · exact .inl rfl
    · exact .inl rfl
theorem rows_eq (now : Nat) (js : List Se05.Job) : rowsL now js = (js.flatMap fun j => (Se05.look now j).2).map Se05Neutral.wantNumbers := by
  unfold rowsL
  induction js with
  | nil => rfl
  | cons j r ih =>
    rw [List.flatMap_cons, List.flatMap_cons, List.map_append, ih]
    congr 1
    unfold kinds
    rw [List.map_map]
    exact (List.map_congr_left fun x hx => ((look_wants now j).1 x hx).symm)
theorem doomed_app (d : Nat) (l1 l2 : List Se05.Want) (h : ∀ x ∈ l1, Se05.isAnew x = true → ∃ k, x = Se05.Want.anew k) : Se05.doomedBy d (l1 ++ l2) = Se05.doomedBy (Se05.doomedBy d l1) l2 := by
  unfold Se05.doomedBy
  by_cases hd : d ≠ 0
  · rw [if_pos hd, if_pos hd, if_pos hd]
  · rw [if_neg hd, if_neg hd, List.find?_append]
    cases e : l1.find? Se05.isAnew with
    | none => simp
    | some x =>
      obtain ⟨k, rfl⟩ := h x (List.mem_of_find?_eq_some e) (List.find?_some e)
      simp
theorem isAnew_is {x : Se05.Want} (h : Se05.isAnew x = true) : ∃ k, x = Se05.Want.anew k := by
  cases x <;> first | exact ⟨_, rfl⟩ | cases h
theorem doomK_eq (now : Nat) (k : Se05.Kept) (j : Se05.Job) : doomK k (kinds now j) j.number = { k with doomed := Se05.doomedBy k.doomed (Se05.look now j).2 } := by
  unfold doomK kinds
  rcases (look_wants now j).2 with e | ⟨e1, e2⟩
  · rw [e, if_pos (by simp [kindOf])]
    unfold Se05.doomedBy
    by_cases hd : k.doomed = 0
    · rw [if_pos hd, if_neg (by omega)]
      rfl
    · rw [if_neg hd, if_pos hd]
  · rw [if_neg e2]
    unfold Se05.doomedBy
    rw [e1]
    by_cases hd : k.doomed = 0
    · rw [if_neg (by omega)]
      show k = { k with doomed := 0 }
      rw [← hd]
    · rw [if_pos hd]
theorem keptL_eq (now : Nat) : ∀ (js : List Se05.Job) (k : Se05.Kept), keptL now k js = { k with doomed := Se05.doomedBy k.doomed (js.flatMap fun j => (Se05.look now j).2) }
  | [], k => by
    show k = { k with doomed := Se05.doomedBy k.doomed [] }
    unfold Se05.doomedBy
    by_cases hd : k.doomed = 0
    · rw [if_neg (by omega)]
      show k = { k with doomed := 0 }
      rw [← hd]
    · rw [if_pos hd]
  | j :: r, k => by
    show keptL now (doomK k (kinds now j) j.number) r = _
    rw [keptL_eq now r, doomK_eq, List.flatMap_cons, doomed_app _ _ _ (fun x _ h => isAnew_is h)]
theorem pass_tasks (s : Se05.Station) (t : Nat) : (Se05.pass s t).1.tasks = s.tasks.map fun j => (Se05.look t j).1 := by
  unfold Se05.pass
  dsimp only
  rw [List.map_map]
  rfl
theorem calm_iff (now : Nat) (js : List Se05.Job) : ((js.map (Se05.look now)).all fun x => x.2.isEmpty && !x.1.late) = true ↔ rowsL now js = [] ∧ (js.map fun j => (Se05.look now j).1).any (·.late) = false := by
  rw [rows_eq, List.map_eq_nil_iff, List.all_eq_true, List.any_eq_false]
  constructor
  · intro h
    refine ⟨?_, fun x hx => ?_⟩
    · rw [List.flatMap_eq_nil_iff]
      intro j hj
      have q := h _ (List.mem_map.mpr ⟨j, hj, rfl⟩)
      exact List.isEmpty_iff.mp (Bool.and_eq_true_iff.mp q).1
    · obtain ⟨j, hj, rfl⟩ := List.mem_map.mp hx
      have q := (Bool.and_eq_true_iff.mp (h _ (List.mem_map.mpr ⟨j, hj, rfl⟩))).2
      intro z
      rw [z] at q
      cases q
  · rintro ⟨h1, h2⟩ x hx
    obtain ⟨j, hj, rfl⟩ := List.mem_map.mp hx
    rw [List.flatMap_eq_nil_iff] at h1
    have q := h2 _ (List.mem_map.mpr ⟨j, hj, rfl⟩)
    rw [Bool.and_eq_true]
    refine ⟨List.isEmpty_iff.mpr (h1 j hj), ?_⟩
    cases e : (Se05.look now j).1.late with
    | false => rfl
    | true => exact absurd e q
/-- what a tick keeps and wants, if quick is 0 while it is calm -/
theorem pass_eq (s : Se05.Station) (t : Nat) (v : Sv) (hv : v.now = t) (hb : v.began = s.begun) (hq : s.settled = true → s.kept.quick = 0) :
    (Se05.pass s t).1.kept = keptT v s.kept s.tasks ∧ (Se05.pass s t).2.map Se05Neutral.wantNumbers = rowsT v s.kept s.tasks ∧ ((Se05.pass s t).1.settled = true → (Se05.pass s t).1.kept.quick = 0) := by
  subst hv
  have ef : (s.tasks.map (Se05.look v.now)).flatMap (fun x => x.2) = s.tasks.flatMap fun j => (Se05.look v.now j).2 := by rw [List.flatMap_map]
  have ek : keptT v s.kept s.tasks = (Se05.pass s v.now).1.kept := by
    unfold keptT Se05.pass
    dsimp only
    rw [keptL_eq, ef]
    by_cases hc : rowsL v.now s.tasks = [] ∧ (s.tasks.map fun j => (Se05.look v.now j).1).any (·.late) = false ∧ v.began + 600000000 ≤ v.now
    · rw [if_pos hc]
      have q := (calm_iff v.now s.tasks).mpr ⟨hc.1, hc.2.1⟩
      rw [q]
      have q2 : decide (s.begun + Se05.SETTLE ≤ v.now) = true := decide_eq_true (by rw [← hb]; exact hc.2.2)
      rw [q2, Bool.true_and, Bool.or_true, if_pos rfl]
    · rw [if_neg hc]
      have q : (((s.tasks.map (Se05.look v.now)).all fun x => x.2.isEmpty && !x.1.late) && decide (s.begun + Se05.SETTLE ≤ v.now)) = false := by
        cases e : (((s.tasks.map (Se05.look v.now)).all fun x => x.2.isEmpty && !x.1.late) && decide (s.begun + Se05.SETTLE ≤ v.now)) with
        | false => rfl
        | true =>
          obtain ⟨e1, e2⟩ := Bool.and_eq_true_iff.mp e
          obtain ⟨c1, c2⟩ := (calm_iff v.now s.tasks).mp e1
          exact absurd ⟨c1, c2, by rw [hb]; exact of_decide_eq_true e2⟩ hc
      rw [q, Bool.or_false]
      cases e : s.settled with
      | false => rfl
      | true =>
        rw [if_pos rfl, ← hq e]
  refine ⟨ek.symm, ?_, ?_⟩
  · unfold rowsT
    have e2 : (Se05.pass s v.now).2 = (s.tasks.map (Se05.look v.now)).flatMap (fun x => x.2) ++ if (Se05.pass s v.now).1.kept.doomed = 0 then [Se05.Want.feed] else [] := rfl
    rw [rows_eq, ek, e2, ef, List.map_append]
    congr 1
    split <;> rfl
  · unfold Se05.pass
    dsimp only
    intro h
    rw [if_pos h]
end Tw
end
section
set_option Elab.async false
set_option linter.all false
set_option maxRecDepth 100000
set_option maxHeartbeats 2000000
namespace Tw
open PySem PySem.Spec PyProof.Rows L2
/-! ### the calls of a list -/
/-- a call as the specification has it -/
def PC.neutral (c : PC) : List (List Int) := if c.num = 0 then [c.num :: c.args, c.row] else [c.num :: c.args]
/-- how many numbers each call has -/
def argc : Int → Option Nat
  | 0 => some 2
  | 1 => some 8
  | 2 => some 3
  | 3 => some 1
  | 4 => some 2
  | 5 => some 2
  | 6 => some 0
  | 7 => some 0
  | 8 => some 1
  | 9 => some 0
  | _ => none
structure PC.Fit (c : PC) : Prop where
  len : argc c.num = some c.args.length
  row : c.num ≠ 0 → c.row = []
theorem shape_argc {p : Int} {n k : Nat} (h : PySe05.shape p = some (n, k)) : argc p = some n ∧ k = if p = 0 then 1 else 0 := by
  unfold PySe05.shape at h
  by_cases e0 : p = 0
  · subst e0; cases h; exact ⟨rfl, rfl⟩
  rw [if_neg e0] at h
  rw [if_neg e0]
  by_cases e1 : p = 1
  · subst e1; cases h; exact ⟨rfl, rfl⟩
  rw [if_neg e1] at h
  by_cases e2 : p = 2
  · subst e2; cases h; exact ⟨rfl, rfl⟩
  rw [if_neg e2] at h
  by_cases e3 : p = 3
  · subst e3; cases h; exact ⟨rfl, rfl⟩
  rw [if_neg e3] at h
  by_cases e4 : p = 4
  · subst e4; cases h; exact ⟨rfl, rfl⟩
  rw [if_neg e4] at h
  by_cases e5 : p = 5
  · subst e5; cases h; exact ⟨rfl, rfl⟩
  rw [if_neg e5] at h
  by_cases e6 : p = 6
  · subst e6; cases h; exact ⟨rfl, rfl⟩
  rw [if_neg e6] at h
  by_cases e7 : p = 7
  · subst e7; cases h; exact ⟨rfl, rfl⟩
  rw [if_neg e7] at h
  by_cases e8 : p = 8
  · subst e8; cases h; exact ⟨rfl, rfl⟩
  rw [if_neg e8] at h
  by_cases e9 : p = 9
  · subst e9; cases h; exact ⟨rfl, rfl⟩
  rw [if_neg e9] at h
  cases h
theorem whole_fit {q : PC} (h : q.Fit) : PySe05.whole q.neutral = q.neutral := by
  obtain ⟨num, args, row⟩ := q
  obtain ⟨len, hrow⟩ := h
  dsimp only at len hrow
  unfold argc at len
  split at len
  · match args, Option.some.inj len with
    | [_, _], _ => rfl
  · match args, Option.some.inj len with
    | [_, _, _, _, _, _, _, _], _ => rfl
  · match args, Option.some.inj len with
    | [_, _, _], _ => rfl
  · match args, Option.some.inj len with
    | [_], _ => rfl
  · match args, Option.some.inj len with
    | [_, _], _ => rfl
  · match args, Option.some.inj len with
    | [_, _], _ => rfl
  · match args, Option.some.inj len with
    | [], _ => rfl
  · match args, Option.some.inj len with
    | [], _ => rfl
  · match args, Option.some.inj len with
    | [_], _ => rfl
  · match args, Option.some.inj len with
    | [], _ => rfl
  · cases len
/-- a call of the shape, taken apart -/
theorem pc_of {c : List (List Int)} (h : PyFlat.okCall PySe05.shape c) : ∃ q : PC, c = q.neutral ∧ PyFlat.put1 c = q.flat ∧ q.Fit := by
  obtain ⟨p, a, xs, e, hs⟩ := h
  obtain ⟨h1, h2⟩ := shape_argc hs
  subst e
  by_cases e0 : p = 0
  · rw [if_pos e0] at h2
    match xs, h2 with
    | [r], _ =>
      refine ⟨⟨p, a, r⟩, ?_, ?_, ⟨h1, fun z => absurd e0 z⟩⟩
      · unfold PC.neutral
        rw [if_pos e0]
      · show (p :: a) ++ (((r.length : Int) :: r) ++ []) = p :: (a ++ if p = 0 then (r.length : Int) :: r else [])
        rw [if_pos e0, List.append_nil]
        rfl
  · rw [if_neg e0] at h2
    match xs, h2 with
    | [], _ =>
      refine ⟨⟨p, a, []⟩, ?_, ?_, ⟨h1, fun _ => rfl⟩⟩
      · unfold PC.neutral
        rw [if_neg e0]
      · show (p :: a) ++ [] = p :: (a ++ if p = 0 then (([] : List Int).length : Int) :: [] else [])
        rw [if_neg e0, List.append_nil, List.append_nil]
theorem pcs_of : ∀ {cs : List (List (List Int))}, (∀ c ∈ cs, PyFlat.okCall PySe05.shape c) → ∃ qs : List PC, cs = qs.map PC.neutral ∧ PyFlat.put cs = qs.flatMap PC.flat ∧ ∀ q ∈ qs, q.Fit
  | [], _ => ⟨[], rfl, rfl, fun q h => by cases h⟩
  | c :: r, h => by
    obtain ⟨q, e1, e2, e3⟩ := pc_of (h c (List.mem_cons_self ..))
    obtain ⟨qs, f1, f2, f3⟩ := pcs_of (cs := r) fun d hd => h d (List.mem_cons_of_mem _ hd)
    refine ⟨q :: qs, by rw [List.map_cons, ← e1, ← f1], ?_, fun d hd => ?_⟩
    · show PyFlat.put1 c ++ PyFlat.put r = _
      rw [e2, f2, List.flatMap_cons]
    · rcases List.mem_cons.mp hd with rfl | hd
      · exact e3
      · exact f3 d hd
/-- what is asked of a list, and what is due -/
theorem parse {l : List Int} (h : PySe05.answers_asked l = true) : ∃ qs : List PC, l = qs.flatMap PC.flat ∧ (∀ q ∈ qs, q.Fit) ∧ qs.length ≤ 300 ∧ (∀ q ∈ qs, Se05Neutral.asked1 q.neutral = true) ∧
    PySe05.answers l = PyFlat.told (PyFlat.played Se05Neutral.step Se05Neutral.start (qs.map PC.neutral)) := by
  unfold PySe05.answers_asked at h
  cases e : PyFlat.calls PySe05.shape l.length l with
  | none =>
    unfold PySe05.calls at h
    rw [e] at h
    cases h
  | some cs =>
    obtain ⟨e1, e2⟩ := PyFlat.put_calls _ _ _ e
    obtain ⟨qs, f1, f2, f3⟩ := pcs_of e2
    have ec : PySe05.calls l = some cs := by
      unfold PySe05.calls
      rw [e]
      show some (cs.map PySe05.whole) = some cs
      rw [f1, List.map_map]
      exact congrArg some (List.map_congr_left fun q hq => whole_fit (f3 q hq))
    rw [ec] at h
    have h' : (PyFlat.atMost 300 cs && Se05Neutral.asked cs) = true := h
    obtain ⟨h1, h2⟩ := Bool.and_eq_true_iff.mp h'
    unfold Se05Neutral.asked at h2
    obtain ⟨h3, h4⟩ := Bool.and_eq_true_iff.mp h2
    obtain ⟨h5, h6⟩ := Bool.and_eq_true_iff.mp h4
    refine ⟨qs, by rw [e1, f2], f3, ?_, fun q hq => ?_, ?_⟩
    · have := of_decide_eq_true h5
      rw [f1, List.length_map] at this
      exact this
    · have := List.all_eq_true.mp h6 q.neutral (by rw [f1]; exact List.mem_map.mpr ⟨q, hq, rfl⟩)
      exact this
    · unfold PySe05.answers
      rw [ec, ← f1]
end Tw
end
section
set_option Elab.async false
set_option linter.all false
set_option maxRecDepth 100000
set_option maxHeartbeats 2000000
namespace Tw
open PySem PySem.Spec PyProof.Rows L2
/-- the k lowest bytes of n, the lowest first -/
def digs (n k : Nat) : List Nat := (List.range k).map fun j => n / 256 ^ j % 256
theorem digs_len (n k : Nat) : (digs n k).length = k := by unfold digs; simp
theorem digs_succ (n k : Nat) : digs n (k + 1) = digs n k ++ [n / 256 ^ k % 256] := by unfold digs; rw [List.range_succ, List.map_append]; rfl
theorem digs_le4 (n : Nat) : digs n 4 = Se05.le4 n := by
  show [n / 256 ^ 0 % 256, n / 256 ^ 1 % 256, n / 256 ^ 2 % 256, n / 256 ^ 3 % 256] = _
  unfold Se05.le4
  simp
theorem digs_two {n : Nat} (h : n < 65536) : digs n 2 = [n % 256, n / 256] := by
  show [n / 256 ^ 0 % 256, n / 256 ^ 1 % 256] = _
  simp
  omega
section
variable {P : Program} {w : World} {K : PySem.W.Frag} {mg : Str → Option Value} {base : Heap} {a : Ad}
/-- a new list of these numbers, nothing that was there is changed -/
def NewL (H : Hp) (ns : List Nat) (Q : VK) : Prop := ∀ H' l, H' l = some (.lst (nv ns)) → Same H H' → H l = none → Q (.ref l) H'
def spOctets : Sp := fun vs H Q _ => ∃ (n m : Nat), vs = [.int (n : Int), .int (m : Int)] ∧ m ≤ 100 ∧ NewL H (digs n m) Q
theorem ok_octets_from (T : Txt K mg a) : Fn P w K mg base 1 "octets_from" ["number", "size"] spOctets := by
  refine Fn.mk T.f_octets_from sc_octets_from bd_octets_from (fun vs H Q E h => by obtain ⟨n, k, rfl, _⟩ := h; rfl) (fun f cdv A outer s H vs Q E hr h => ?_)
  obtain ⟨n, m, rfl, hm, k⟩ := h
  have nd := sc_octets_from.nd
  refine ⟨_, pss_cons (ps_set (i := 2) nd rfl (Or.inl rfl) (pe_lst pa_nil))
    (pss_cons (ps_set (i := 3) nd rfl (Or.inl rfl) (pv 0))
    (pss_cons (ps_while PassesOwn.never (pt_cmpR op_lt (pe_callB call_len_seq rfl T.b_len PySem.boot_len (pa_cons (pv 2) pa_nil)) (pv 1) (nomark _))
      (pss_cons (ps_expr (pe_bm PySem.F.plainAttrs_list PySem.F.slot_list_append PySem.F.type_list_append mt_append (pv 2) (pa_cons (pe_op op_mod (pv 3) pe_int) pa_nil)))
      (pss_one (ps_set (i := 3) nd rfl (Or.inl rfl) (pe_op op_fdiv (pv 3) pe_int)))))
    (pss_one (ps_ret (pv 2))))), ?_⟩
  refine ⟨Nat.zero_le _, fun l hl => ⟨_, rfl, ?_⟩⟩
  refine while_by (fun σ H' => ∃ i, i ≤ m ∧ Same H H' ∧ H' l = some (.lst (nv (digs n i))) ∧ σ = [some (.int (n : Int)), some (.int (m : Int)), some (.ref l), some (.int ((n / 256 ^ i : Nat) : Int))])
    (fun σ H' => match H' l with | some (.lst xs) => m - xs.length | _ => 0) ⟨0, Nat.zero_le _, same_upd hl, upd_same, by simp; rfl⟩ ?_ ?_
  · rintro σ H' ⟨i, hi, s5, hf, rfl⟩
    refine ⟨_, rfl, l, _, rfl, .inl (SqL.of hf), _, rfl, _, _, rfl, rfl, _, rfl, ite2 (fun e => ?_) (fun e => ?_)⟩
    · have e : i < m := by
        have := of_decide_eq_true e
        rw [List.length_map, digs_len] at this
        omega
      refine ⟨_, rfl, .inl ⟨rfl, _, SqL.of hf⟩, _, rfl, _, _, rfl, rfl, (by show (0 : Int) < 256; decide), l, _, _, rfl, rfl, hf, ?_, ?_⟩
      · rw [List.length_map, digs_len]
        exact Nat.lt_of_lt_of_le e (Nat.le_trans hm (by decide))
      · refine ⟨_, rfl, _, _, rfl, rfl, ⟨by decide, by decide⟩, ?_⟩
        have e1 : upd H' l (.lst (nv (digs n i) ++ [V.int (((n / 256 ^ i : Nat) : Int) % 256)])) l = some (.lst (nv (digs n (i + 1)))) := by
          rw [upd_same, digs_succ]
          show _ = some (HO.lst (List.map _ _))
          rw [List.map_append]
          rfl
        refine ⟨⟨i + 1, e, fun x o q => ?_, e1, ?_⟩, ?_⟩
        · rw [upd_ne (ne_of_none q hl)]
          exact s5 _ _ q
        · have e2 : ((n / 256 ^ i : Nat) : Int) / 256 = ((n / 256 ^ (i + 1) : Nat) : Int) := by
            rw [Nat.pow_succ, ← Nat.div_div_eq_div_mul]
            omega
          show [_, _, _, some (V.int (((n / 256 ^ i : Nat) : Int) / 256))] = _
          rw [e2]
        · dsimp only
          rw [e1, hf]
          dsimp only
          rw [List.length_map, List.length_map, digs_len, digs_len]
          omega
    · have e : i = m := by
        have : ¬ i < m := fun q => e (decide_eq_true (by rw [List.length_map, digs_len]; omega))
        omega
      subst e
      exact ⟨_, rfl, k H' l hf s5 hl⟩
  · rintro σ H' Q1 Q2 h ⟨v, e, q1, q2, e3, e4, v2, e2, i1, i2, e5, e6, b1, e7, q3⟩
    exact ⟨v, e, q1, q2, e3, e4, v2, e2, i1, i2, e5, e6, b1, e7, h _ _ q3⟩
end
end Tw
end
section
set_option Elab.async false
set_option linter.all false
set_option maxRecDepth 100000
set_option maxHeartbeats 2000000
namespace Tw
open PySem PySem.Spec PyProof.Rows L2
theorem nv_app (A B : List Nat) : nv A ++ nv B = nv (A ++ B) := (List.map_append ..).symm
theorem lst_eq {H : Hp} {l : Addr} {xs ys : List V} (e : xs = ys) : upd H l (.lst xs) l = some (.lst ys) := by rw [upd_same, e]
theorem take_next {α : Type} {l : List α} {i : Nat} {x : α} (h : l[i]? = some x) : l.take (i + 1) = l.take i ++ [x] := take_snoc h
theorem le4_len (n : Nat) : (Se05.le4 n).length = 4 := rfl
theorem starts_len (l : List Nat) : (l.flatMap Se05.le4).length = 4 * l.length := by
  induction l with
  | nil => rfl
  | cons x r ih => rw [List.flatMap_cons, List.length_append, ih, le4_len, List.length_cons]; omega
theorem crumbs_len (l : List Se05.Crumb) : (l.flatMap Se05.crumbBytes).length = 3 * l.length := by
  induction l with
  | nil => rfl
  | cons x r ih => rw [List.flatMap_cons, List.length_append, ih, List.length_cons]; show 3 + _ = _; omega
theorem rep_zero (n : Nat) : (List.replicate n [V.int 0]).flatten = nv (List.replicate n 0) := by
  induction n with
  | zero => rfl
  | succ n ih => rw [List.replicate_succ, List.flatten_cons, ih]; rfl
theorem paired_get {α β : Type} {F : α → β → Prop} {x : α} : ∀ {i : Nat} {l : List α} {m : List β}, Paired F l m → l[i]? = some x → ∃ y, m[i]? = some y ∧ F x y
  | _, _, _, .nil, h => by simp at h
  | 0, _, _, .cons r t, h => by
    have e := Option.some.inj h
    subst e
    exact ⟨_, rfl, r⟩
  | i + 1, _, _, .cons r t, h => by
    obtain ⟨y, h1, h2⟩ := paired_get (i := i) t h
    exact ⟨y, h1, h2⟩
section
variable {P : Program} {w : World} {K : PySem.W.Frag} {mg : Str → Option Value} {base : Heap} {a : Ad}
def spWrite (C : Addr) : Sp := fun vs H Q _ => ∃ (p : Addr) (k : Se05.Kept) (L : List Addr), vs = [.ref p] ∧ KeptAt C H p k L ∧ k.starts.length = 4 ∧ k.crumbs.length ≤ 8 ∧ (∀ c ∈ k.crumbs, c.place < 65536) ∧ NewL H (Se05.block k) Q
theorem ok_write_block (T : Txt K mg a) : Fn P w K mg base 2 "write_block" ["kept"] (spWrite a.Kept) := by
  refine Fn.mk T.f_write_block sc_write_block bd_write_block (fun vs H Q E h => by obtain ⟨p, kk, L, rfl, _⟩ := h; rfl) (fun f cdv A outer s H vs Q E hr h => ?_)
  obtain ⟨p, kk, L, rfl, hK, h4, h8, hpl, k⟩ := h
  have nd := sc_write_block.nd
  have ock := ok_checksum (P := P) (w := w) (base := base) T.f_checksum T.c_ALL_ONES T.c_POLYNOMIAL T.b_range
  refine ⟨_, pss_cons (ps_set (i := 1) nd rfl (Or.inl rfl) (pe_lst (pa_cons (pe_cn T.c_FIRST_BYTE) (pa_cons (pe_cn T.c_SECOND_BYTE) pa_nil))))
    (pss_cons (ps_for PassesOwn.never rfl (pi_list (pe_fld (pv 0) rfl)) (pg_name (i := 2) nd rfl (Or.inl rfl))
      (pss_one (ps_expr (pe_bm PySem.F.plainAttrs_list PySem.F.slot_list_extend PySem.F.type_list_extend mt_extend (pv 1) (pa_cons (pe_fn (ok_octets_from T) hr (pa_cons (pv 2) (pa_cons (pe_cn T.c_START_SIZE) pa_nil))) pa_nil)))))
    (pss_cons (ps_expr (pe_bm PySem.F.plainAttrs_list PySem.F.slot_list_extend PySem.F.type_list_extend mt_extend (pv 1) (pa_cons (pe_lst (pa_cons (pe_fld (pv 0) rfl) (pa_cons (pe_fld (pv 0) rfl) (pa_cons (pe_callB call_len_seq rfl T.b_len PySem.boot_len (pa_cons (pe_fld (pv 0) rfl) pa_nil)) pa_nil)))) pa_nil)))
    (pss_cons (ps_for PassesOwn.never rfl (pi_list (pe_fld (pv 0) rfl)) (pg_name (i := 3) nd rfl (Or.inl rfl))
      (pss_cons (ps_expr (pe_bm PySem.F.plainAttrs_list PySem.F.slot_list_append PySem.F.type_list_append mt_append (pv 1) (pa_cons (pe_ix ix_tup (pv 3) pe_int (fun _ _ => rfl)) pa_nil)))
      (pss_one (ps_expr (pe_bm PySem.F.plainAttrs_list PySem.F.slot_list_extend PySem.F.type_list_extend mt_extend (pv 1) (pa_cons (pe_fn (ok_octets_from T) hr (pa_cons (pe_ix ix_tup (pv 3) pe_int (fun _ _ => rfl)) (pa_cons (pe_cn T.c_PLACE_SIZE) pa_nil))) pa_nil))))))
    (pss_cons (ps_expr (pe_bm PySem.F.plainAttrs_list PySem.F.slot_list_extend PySem.F.type_list_extend mt_extend (pv 1) (pa_cons (pe_op op_rep (pe_lst (pa_cons pe_int pa_nil)) (pe_op op_sub (pe_cn T.c_SUMMED_SIZE) (pe_callB call_len_seq rfl T.b_len PySem.boot_len (pa_cons (pv 1) pa_nil)))) pa_nil)))
    (pss_one (ps_ret (pe_op op_cat (pv 1) (pe_fn (ok_octets_from T) hr (pa_cons (pe_fn ock hr (pa_cons (pv 1) pa_nil)) (pa_cons (pe_cn T.c_SUM_SIZE) pa_nil)))))))))), ?_⟩
  obtain ⟨dx, sl, cl, ts, rfl, ndL, h1, h2, h3, h5⟩ := hK
  refine ⟨(by show 2 ≤ sizeLine; decide), fun l hl => ?_⟩
  have s0 := same_upd (o := .lst [.int 87, .int 1]) hl
  refine ⟨_, rfl, p, a.Kept, dx, _, _, rfl, s0 _ _ h1, T.k_Kept, T.a_Kept_starts, rfl, sl, rfl, ⟨_, SqL.of (s0 _ _ h2)⟩, for_list (xs := nv kk.starts) (fun i σ H' => Same H H' ∧ H' l = some (.lst (nv ([87, 1] ++ (kk.starts.take i).flatMap Se05.le4))) ∧ ∃ v2 : Option V, σ = [some (.ref p), some (.ref l), v2, none])
    ⟨s0, upd_same, none, rfl⟩ (fun i σ H' _ ⟨s5, _⟩ => SqL.of (s5 _ _ h2)) ?_ ?_⟩
  · rintro i x σ H' hi ⟨s5, hf, v2, rfl⟩
    obtain ⟨n, hn, rfl⟩ := nv_get hi
    have hi4 : i < 4 := by rw [← h4]; exact (List.getElem?_eq_some_iff.mp hn).1
    refine ⟨_, rfl, .inl ⟨rfl, _, SqL.of hf⟩, _, rfl, n, 4, rfl, (by decide), fun H2 l2 e2 s2 n2 => ⟨l, l2, _, _, rfl, rfl, s2 _ _ hf, e2, ?_, ?_⟩⟩
    · rw [List.length_map, List.length_map, digs_len, List.length_append, starts_len, List.length_take]
      exact Nat.le_trans (show 2 + 4 * min i kk.starts.length + 4 ≤ 100 by omega) (by decide)
    · refine ⟨fun b o q => ?_, lst_eq ?_, _, rfl⟩
      · rw [upd_ne (ne_of_none q hl)]
        exact s2 _ _ (s5 _ _ q)
      · rw [nv_app, digs_le4, take_next hn, List.flatMap_append, List.append_assoc]
        rfl
  · rintro σ H1 ⟨s5, hf, v2, rfl⟩
    rw [List.length_map, List.take_length] at hf
    refine ⟨_, rfl, .inl ⟨rfl, _, SqL.of hf⟩, _, rfl, p, a.Kept, dx, _, _, rfl, s5 _ _ h1, T.k_Kept, T.a_Kept_quick, rfl, _, rfl, p, a.Kept, dx, _, _, rfl, s5 _ _ h1, T.k_Kept, T.a_Kept_doomed, rfl, _, rfl, p, a.Kept, dx, _, _, rfl, s5 _ _ h1, T.k_Kept, T.a_Kept_crumbs, rfl, cl, _, rfl, .inl (SqL.of (s5 _ _ h3)), (by show 3 ≤ sizeLine; decide), fun l2 hl2 => ?_⟩
    have n2 : l ≠ l2 := ne_of_none hf hl2
    have s6 := same_upd (o := .lst [V.int (kk.quick : Int), V.int (kk.doomed : Int), V.int ((ts.map V.ref).length : Int)]) hl2
    refine ⟨l, l2, _, _, rfl, rfl, (s6 _ _ hf), upd_same, ?_, ?_⟩
    · rw [List.length_map, List.length_append, starts_len, h4]
      show 2 + 4 * 4 + 3 ≤ sizeLine
      decide
    generalize hH2 : upd (upd H1 l2 _) l _ = H2
    have s7 : Same H H2 := fun b o q => by
      rw [← hH2, upd_ne (ne_of_none q hl)]
      exact s6 _ _ (s5 _ _ q)
    have hlen : ts.length = kk.crumbs.length := Paired.length h5
    have hf2 : H2 l = some (.lst (nv ([87, 1] ++ kk.starts.flatMap Se05.le4 ++ [kk.quick, kk.doomed, kk.crumbs.length]))) := by
      rw [← hH2]
      refine lst_eq ?_
      rw [List.length_map, hlen]
      exact nv_app _ [kk.quick, kk.doomed, kk.crumbs.length]
    generalize hB : [87, 1] ++ kk.starts.flatMap Se05.le4 ++ [kk.quick, kk.doomed, kk.crumbs.length] = Bd at hf2
    have hBl : Bd.length = 21 := by
      rw [← hB, List.length_append, List.length_append, starts_len, h4]
      rfl
    refine ⟨_, rfl, p, a.Kept, dx, _, _, rfl, s7 _ _ h1, T.k_Kept, T.a_Kept_crumbs, rfl, cl, rfl, ⟨_, SqL.of (s7 _ _ h3)⟩, for_list (xs := ts.map V.ref) (fun i σ H' => Same H H' ∧ H' l = some (.lst (nv (Bd ++ (kk.crumbs.take i).flatMap Se05.crumbBytes))) ∧ ∃ v2 v3 : Option V, σ = [some (.ref p), some (.ref l), v2, v3])
      ⟨s7, (by rw [hf2]; simp), _, none, rfl⟩ (fun i σ H' _ ⟨s5, _⟩ => SqL.of (s5 _ _ h3)) ?_ ?_⟩
    · rintro i x σ H' hi ⟨s8, hf3, v2, v3, rfl⟩
      obtain ⟨t, ht, rfl⟩ : ∃ t, ts[i]? = some t ∧ x = V.ref t := by
        rw [List.getElem?_map] at hi
        cases e : ts[i]? with
        | none => rw [e] at hi; cases hi
        | some z => rw [e] at hi; exact ⟨z, rfl, (Option.some.inj hi).symm⟩
      obtain ⟨c, hc, hct⟩ := paired_get h5 ht
      have hi8 : i < 8 := by
        have := (List.getElem?_eq_some_iff.mp ht).1
        omega
      have hlt : ((kk.crumbs.take i).flatMap Se05.crumbBytes).length ≤ 24 := by
        rw [crumbs_len, List.length_take]; omega
      have hct' : H t = some (.tup [.int (c.task : Int), .int (c.place : Int)]) := hct
      refine ⟨_, rfl, .inl ⟨rfl, _, SqL.of hf3⟩, _, rfl, t, _, _, _, rfl, rfl, SqT.of (s8 _ _ hct'), rfl, l, _, _, rfl, rfl, hf3, ?_, ?_⟩
      · rw [List.length_map, List.length_append, hBl]
        exact Nat.lt_of_le_of_lt (Nat.add_le_add_left hlt 21) (by decide)
      generalize hH3 : upd H' l _ = H3
      have s9 : Same H H3 := fun b o q => by
        rw [← hH3, upd_ne (ne_of_none q hl)]
        exact s8 _ _ q
      have hf4 : H3 l = some (.lst (nv (Bd ++ (kk.crumbs.take i).flatMap Se05.crumbBytes ++ [c.task]))) := by
        rw [← hH3]
        exact lst_eq (nv_app _ [c.task])
      refine ⟨_, rfl, .inl ⟨rfl, _, SqL.of hf4⟩, _, rfl, t, _, _, _, rfl, rfl, SqT.of (s9 _ _ hct'), rfl, c.place, 2, rfl, (by decide), fun H4 l4 e4 s10 n4 => ⟨l, l4, _, _, rfl, rfl, s10 _ _ hf4, e4, ?_, ?_⟩⟩
      · rw [List.length_map, List.length_map, digs_len, List.length_append, List.length_append, hBl]
        exact Nat.le_trans (Nat.add_le_add_right (Nat.add_le_add_right (Nat.add_le_add_left hlt 21) 1) 2) (by decide)
      · refine ⟨fun b o q => ?_, lst_eq ?_, _, _, rfl⟩
        · rw [upd_ne (ne_of_none q hl)]
          exact s10 _ _ (s9 _ _ q)
        · have hcm : c ∈ kk.crumbs := List.mem_of_getElem? hc
          rw [nv_app, digs_two (hpl c hcm), take_next hc, List.flatMap_append]
          simp [Se05.crumbBytes]
    · rintro σ H3 ⟨s8, hf3, v2, v3, rfl⟩
      rw [List.length_map, hlen, List.take_length] at hf3
      have hcl := crumbs_len kk.crumbs
      refine ⟨_, rfl, .inl ⟨rfl, _, SqL.of hf3⟩, (by show 1 ≤ sizeLine; decide), fun l5 hl5 => ?_⟩
      have s9 := same_upd (o := .lst [.int 0]) hl5
      have e45 : (45 : Int) - ((nv (Bd ++ kk.crumbs.flatMap Se05.crumbBytes)).length : Int) = ((3 * (8 - kk.crumbs.length) : Nat) : Int) := by
        rw [List.length_map, List.length_append, hBl, hcl]
        omega
      refine ⟨_, rfl, l, _, rfl, .inl (SqL.of (s9 _ _ hf3)), _, _, rfl, rfl, l5, _, _, rfl, rfl, upd_same, ?_, ?_, ?_, fun l6 hl6 => ?_⟩
      · rw [e45]; omega
      · rw [e45]; omega
      · rw [e45, Int.toNat_natCast]
        exact Nat.le_trans (show 1 * (3 * (8 - kk.crumbs.length)) ≤ 24 by omega) (by decide)
      have s10 := same_upd (o := .lst (List.replicate ((45 : Int) - ((nv (Bd ++ kk.crumbs.flatMap Se05.crumbBytes)).length : Int)).toNat [V.int 0]).flatten) hl6
      have hrep : (List.replicate ((45 : Int) - ((nv (Bd ++ kk.crumbs.flatMap Se05.crumbBytes)).length : Int)).toNat [V.int 0]).flatten = nv (List.replicate (3 * (8 - kk.crumbs.length)) 0) := by
        rw [e45, Int.toNat_natCast, rep_zero]
      refine ⟨l, l6, _, _, rfl, rfl, s10 _ _ (s9 _ _ hf3), upd_same, ?_, ?_⟩
      · rw [hrep, List.length_map, List.length_map, List.length_replicate, List.length_append, hBl, hcl]
        exact Nat.le_trans (show 21 + 3 * kk.crumbs.length + 3 * (8 - kk.crumbs.length) ≤ 45 by omega) (by decide)
      generalize hH4 : upd (upd (upd H3 l5 _) l6 _) l _ = H4
      have s11 : Same H H4 := fun b o q => by
        rw [← hH4, upd_ne (ne_of_none q hl)]
        exact s10 _ _ (s9 _ _ (s8 _ _ q))
      have ebody : Bd ++ kk.crumbs.flatMap Se05.crumbBytes ++ List.replicate (3 * (8 - kk.crumbs.length)) 0 = Se05.body kk := by
        rw [← hB]
        unfold Se05.body
        simp [Se05.CRUMBS]
      have hf4 : H4 l = some (.lst (nv (Se05.body kk))) := by
        rw [← hH4]
        refine lst_eq ?_
        rw [hrep, nv_app, ebody]
      refine ⟨_, rfl, _, rfl, l, _, rfl, SqL.of hf4, trivial, fun H5 s12 => ⟨Se05.crc (Se05.body kk), 4, rfl, (by decide), fun H6 l7 e7 s13 n7 => ⟨l, l7, _, _, rfl, rfl, s13 _ _ (s12 _ _ hf4), e7, ?_, fun l8 hl8 => ?_⟩⟩⟩
      · rw [List.length_map, List.length_map, digs_len, ← ebody, List.length_append, List.length_append, hBl, hcl, List.length_replicate]
        exact Nat.le_trans (show 21 + 3 * kk.crumbs.length + 3 * (8 - kk.crumbs.length) + 4 ≤ 49 by omega) (by decide)
      · have s14 := same_upd (o := .lst (nv (Se05.body kk) ++ nv (digs (Se05.crc (Se05.body kk)) 4))) hl8
        refine k _ l8 (lst_eq ?_) (((s11.trans s12).trans s13).trans s14) (((s11.trans s12).trans s13).free hl8)
        rw [nv_app, digs_le4]
        rfl
end
end Tw
end
section
set_option Elab.async false
set_option linter.all false
set_option maxRecDepth 100000
set_option maxHeartbeats 2000000
namespace Tw
open PySem PySem.Spec PyProof.Rows L2
section
variable {P : Program} {w : World} {K : PySem.W.Frag} {mg : Str → Option Value} {base : Heap} {a : Ad}
theorem tIf_bit {tA : TT} {σ : L2.St} {H : Hp} {Q : VK} (b : Bool) (h : ∀ Qb : Bool → Hp → Prop, Qb b H → tA σ H Qb) (q : Q (.int (b.toNat : Int)) H) : tIf tA (tC (.int 1)) (tC (.int 0)) σ H Q := by
  refine h _ ?_
  cases b
  · exact iteF q
  · exact iteT q
def spHaltT (C : Addr) : Sp := fun vs H Q _ => ∃ (p : Addr) (j : Se05.Job) (L : List Addr), vs = [.ref p] ∧ TaskAt C H p j L ∧ ∀ H', TaskAt C H' p { j with phase := .stands, late := false } L → At p H H' → Q .non H'
theorem ok_haltT (T : Txt K mg a) : Mt P w K mg base 3 a.Task "halt" ["self"] (spHaltT a.Task) := by
  refine Mt.mk T.k_Task T.m_Task_halt sc_Task_halt bd_Task_halt (fun vs H Q E h => by obtain ⟨p, j, L, rfl, _⟩ := h; rfl) (fun f cdv A outer s H vs Q E hr h => ?_)
  obtain ⟨p, j, L, rfl, hT, k⟩ := h
  obtain ⟨dx, tl, rfl, n, h1, h2⟩ := id hT
  refine ⟨_, pss_cons (ps_expr (pe_mt0 (pv 0) (ok_stand T) hr)) (pss_one (ps_fld (pv 0) pe_bl rfl)), ?_⟩
  refine ⟨_, rfl, p, dx, _, rfl, h1, rfl, p, j, _, rfl, hT, fun H1 t1 f1 => ?_⟩
  obtain ⟨dx1, tl1, eL, n1, q1, q2⟩ := id t1
  have el : tl1 = tl := (List.cons.inj (List.cons.inj eL).2).1.symm
  subst el
  refine ⟨_, rfl, p, a.Task, dx1, _, rfl, q1, T.k_Task, T.a_Task_late, (by show 13 < 1000; decide), ?_⟩
  exact k _ (TaskAt.put n upd_same h2 (at1 f1)) (at1 f1)
/-- what is shown of a task -/
def shownOf (now : Nat) (j : Se05.Job) : List Nat := Se05.phaseNumbers j.phase ++ ([j.heard, j.place, j.late.toNat, j.wait] ++ (Se05.lately now j).length :: Se05.lately now j)
theorem shown_eq (now : Nat) (j : Se05.Job) : shownOf now j = [phN j.phase, phM j.phase, j.heard, j.place, j.late.toNat, j.wait, (Se05.lately now j).length] ++ Se05.lately now j := by
  unfold shownOf
  cases j.phase <;> rfl
def spShown (C : Addr) : Sp := fun vs H Q _ => ∃ (p : Addr) (now : Nat) (j : Se05.Job) (L : List Addr), vs = [.ref p, .int (now : Int)] ∧ TaskAt C H p j L ∧ j.again.length ≤ 100000 ∧ ∀ H' l, H' l = some (.lst (nv (shownOf now j))) → Same H H' → H l = none → Q (.ref l) H'
theorem ok_shown (T : Txt K mg a) : Mt P w K mg base 2 a.Task "shown" ["self", "now"] (spShown a.Task) := by
  refine Mt.mk T.k_Task T.m_Task_shown sc_Task_shown bd_Task_shown (fun vs H Q E h => by obtain ⟨p, n, j, L, rfl, _⟩ := h; rfl) (fun f cdv A outer s H vs Q E hr h => ?_)
  obtain ⟨p, now, j, L, rfl, hT, hlen, k⟩ := h
  obtain ⟨dx, tl, rfl, n, h1, h2⟩ := id hT
  have nd := sc_Task_shown.nd
  refine ⟨_, pss_cons (ps_set (i := 2) nd rfl (Or.inl rfl) (pe_mt (pv 0) (ok_times_of_late T) hr (pa_cons (pv 1) pa_nil)))
    (pss_cons (ps_set (i := 3) nd rfl (Or.inl rfl) (pe_ifExp (pt_val (pe_fld (pv 0) rfl)) pe_int pe_int))
    (pss_one (ps_ret (pe_op op_cat (pe_lst (pa_cons (pe_fld (pv 0) rfl) (pa_cons (pe_fld (pv 0) rfl) (pa_cons (pe_fld (pv 0) rfl) (pa_cons (pe_fld (pv 0) rfl) (pa_cons (pv 3) (pa_cons (pe_fld (pv 0) rfl) (pa_cons (pe_callB call_len_seq rfl T.b_len PySem.boot_len (pa_cons (pv 2) pa_nil)) pa_nil)))))))) (pv 2))))), ?_⟩
  refine ⟨_, rfl, p, dx, _, rfl, h1, rfl, _, rfl, p, now, j, _, rfl, hT, hlen, fun l1 hl1 => ?_⟩
  have s1 := same_upd (o := .lst (nv (Se05.lately now j))) hl1
  have g1 := s1 _ _ h1
  refine ⟨_, rfl, p, a.Task, dx, _, _, rfl, g1, T.k_Task, T.a_Task_late, rfl, _, rfl, ite2 (fun e => ?_) (fun e => ?_)⟩
  all_goals
    refine ⟨_, rfl, p, a.Task, dx, _, _, rfl, g1, T.k_Task, T.a_Task_phase, rfl, _, rfl, p, a.Task, dx, _, _, rfl, g1, T.k_Task, T.a_Task_moment, rfl, _, rfl, p, a.Task, dx, _, _, rfl, g1, T.k_Task, T.a_Task_heard, rfl,
      _, rfl, p, a.Task, dx, _, _, rfl, g1, T.k_Task, T.a_Task_place, rfl, _, rfl, _, rfl, p, a.Task, dx, _, _, rfl, g1, T.k_Task, T.a_Task_wait, rfl, _, rfl, l1, _, rfl, .inl (SqL.of upd_same), (by show 7 ≤ sizeLine; decide), fun l2 hl2 => ?_⟩
    have n12 : l1 ≠ l2 := fun q => by rw [← q, upd_same] at hl2; cases hl2
    refine ⟨_, rfl, l2, l1, _, _, rfl, rfl, upd_same, (by rw [upd_ne n12]; exact upd_same), ?_, fun l3 hl3 => ?_⟩
    · rw [List.length_map]
      have q1 : (Se05.lately now j).length ≤ j.again.length := List.length_filter_le _ _
      exact Nat.le_trans (Nat.add_le_add_left (Nat.le_trans q1 hlen) 7) (by decide)
    · refine k _ l3 (upd_same.trans ?_) ((s1.trans (same_upd hl2)).trans (same_upd hl3)) ((s1.trans (same_upd hl2)).free hl3)
      rw [shown_eq, List.length_map]
      refine congrArg (fun z => some (HO.lst z)) ?_
      show _ = List.map _ _
      rw [List.map_append]
      have e2 : j.late = true ∨ j.late = false := by cases j.late <;> simp
      rcases e2 with e2 | e2
      all_goals first | (rw [e2]; rfl) | exact absurd e2 e | (rw [e2] at e; cases e)
end
end Tw
end
section
set_option Elab.async false
set_option linter.all false
set_option maxRecDepth 100000
set_option maxHeartbeats 2000000
namespace Tw
open PySem PySem.Spec PyProof.Rows L2
theorem ite_bit {b : Bool} {σ : L2.St} {H : Hp} {Q : VK} (h : Q (.int (b.toNat : Int)) H) : if b = true then tC (.int 1) σ H Q else tC (.int 0) σ H Q := by
  cases b
  · exact iteF h
  · exact iteT h
/-- a station put together, no tasks -/
theorem StAt.made {a : Ad} {H : Hp} {p dx kp td : Addr} {v : Sv} {k : Se05.Kept} {Lk Lb : List Addr} (h1 : H p = some (.ins a.Station dx (stf v kp td))) (hk : KeptAt a.Kept H kp k Lk) (hb : KeptAt a.Kept H v.bp v.before Lb) (ht : H td = some (.dK []))
    (d1 : ∀ b ∈ Lk, b ∉ Lb) (d2 : td ∉ Lb) (d3 : td ∉ Lk) (d4 : p ∉ Lb) (d5 : p ∉ Lk) : StAt a H p v k [] (p :: (Lb ++ (Lk ++ [td]))) := by
  have npt : p ≠ td := ne_of h1 ht (by intro z; cases z)
  have ndk : Lk.Nodup := by obtain ⟨_, _, _, _, e, q, _⟩ := hk; exact q
  have ndb : Lb.Nodup := by obtain ⟨_, _, _, _, e, q, _⟩ := hb; exact q
  refine ⟨dx, kp, td, Lk, [td], Lb, rfl, ?_, h1, hk, ⟨[], [], rfl, by simp, ht, List.Perm.refl _, .nil⟩, hb⟩
  refine List.nodup_cons.mpr ⟨fun hm => ?_, List.nodup_append.mpr ⟨ndb, List.nodup_append.mpr ⟨ndk, by simp, fun x hx y hy e => ?_⟩, fun x hx y hy e => ?_⟩⟩
  · rcases List.mem_append.mp hm with hm | hm
    · exact d4 hm
    rcases List.mem_append.mp hm with hm | hm
    · exact d5 hm
    · exact npt (by simpa using hm)
  · subst e
    have : x = td := by simpa using hy
    rw [this] at hx
    exact d3 hx
  · subst e
    rcases List.mem_append.mp hy with hy | hy
    · exact d1 x hy hx
    · have : x = td := by simpa using hy
      rw [this] at hx
      exact d2 hx
/-- one of its tasks -/
theorem StAt.one {a : Ad} {H : Hp} {p : Addr} {v : Sv} {k : Se05.Kept} {pre post : List Se05.Job} {j : Se05.Job} {L : List Addr} (h : StAt a H p v k (pre ++ j :: post) L) (hs : Sorted (pre ++ j :: post)) :
    ∃ dx kp td tp Lp kvs, H p = some (.ins a.Station dx (stf v kp td)) ∧ H td = some (.dK kvs) ∧ valV kvs (Sum.inl (j.number : Int)) = some (.ref tp) ∧ TaskAt a.Task H tp j Lp ∧ (∀ b ∈ Lp, b ∈ L) ∧
      ∀ H' j' Lp', TaskAt a.Task H' tp j' Lp' → j'.number = j.number → Kp Lp H H' → New Lp Lp' H → ∃ L', StAt a H' p v k (pre ++ j' :: post) L' ∧ New L L' H ∧ (∀ b ∈ L', b ∈ L ∨ b ∈ Lp') ∧ Kp L H H' := by
  obtain ⟨dx, kp, td, Lt, g1, g2, g3, g4⟩ := h.tasks
  obtain ⟨tp, Lp, t1, t2, ⟨kvs, t3, t4⟩, t5, t6⟩ := g2.one hs
  refine ⟨dx, kp, td, tp, Lp, kvs, g1, t3, t4, t1, fun b hb => g3 b (t2 b hb), fun H' j' Lp' q1 q2 q3 q4 => ?_⟩
  obtain ⟨Lt', u1, u2, u3⟩ := t6 H' j' Lp' q1 q2 q3 q4
  have kLt : Kp Lt H H' := fun b o e hb => q3 b o e fun hm => hb (t2 b hm)
  obtain ⟨L1, w1, w2, w3⟩ := g4 H' _ Lt' u1 kLt u2
  refine ⟨L1, w1, w2, fun b hb => ?_, fun b o e hb => kLt b o e fun hm => hb (g3 b hm)⟩
  rcases w3 b hb with z | z
  · exact .inl z
  · rcases u3 b z with y | y
    · exact .inl (g3 b y)
    · exact .inr y
section
variable {P : Program} {w : World} {K : PySem.W.Frag} {mg : Str → Option Value} {base : Heap} {a : Ad}
/-! ### one task -/
theorem runs_eq (j : Se05.Job) : decide (V.int (phN j.phase : Int) = V.int 1) = Se05.running j := by
  unfold Se05.running
  cases j.phase <;> rfl
def spRuns (a : Ad) : Sp := fun vs H Q _ => ∃ (p : Addr) (v : Sv) (k : Se05.Kept) (pre post : List Se05.Job) (j : Se05.Job) (L : List Addr), vs = [.ref p, .int (j.number : Int)] ∧ StAt a H p v k (pre ++ j :: post) L ∧ Sorted (pre ++ j :: post) ∧ Q (.bl (Se05.running j)) H
theorem ok_runs (T : Txt K mg a) : Mt P w K mg base 1 a.Station "runs" ["self", "k"] (spRuns a) := by
  refine Mt.mk T.k_Station T.m_Station_runs sc_Station_runs bd_Station_runs (fun vs H Q E h => by obtain ⟨p, v, k, pre, post, j, L, rfl, _⟩ := h; rfl) (fun f cdv A outer s H vs Q E hr h => ?_)
  obtain ⟨p, v, kk, pre, post, j, L, rfl, hSt, hso, k⟩ := h
  refine ⟨_, pss_one (ps_ret (pe_cmpR op_eq (pe_fld (pe_dget (hu_of hr) (pe_fld (pv 0) rfl) (pv 1) (fun _ _ => rfl)) rfl) (pe_cn T.c_RUNS) (nomark _))), ?_⟩
  obtain ⟨dx, kp, td, tp, Lp, kvs, g1, g2, g3, t1, _⟩ := hSt.one hso
  obtain ⟨dxt, tlt, _, _, t7, _⟩ := id t1
  rw [← runs_eq] at k
  exact ⟨_, rfl, p, a.Station, dx, _, _, rfl, g1, T.k_Station, T.a_Station_tasks, rfl, _, rfl, td, _, rfl, (g3 ▸ DGet.k (k := Sum.inl (j.number : Int)) g2), tp, a.Task, dxt, _, _, rfl, t7, T.k_Task, T.a_Task_phase, rfl, rfl, k⟩
def spAsk (a : Ad) : Sp := fun vs H Q _ => ∃ (p : Addr) (v : Sv) (k : Se05.Kept) (pre post : List Se05.Job) (j : Se05.Job) (L : List Addr), vs = [.ref p, .int (j.number : Int)] ∧ StAt a H p v k (pre ++ j :: post) L ∧ Sorted (pre ++ j :: post) ∧
  ∀ H' L', StAt a H' p v k (pre ++ { j with phase := .waits v.now, wait := j.rule.first, again := [], late := false } :: post) L' → Kp L H H' → New L L' H → Q .non H'
theorem ok_ask (T : Txt K mg a) : Mt P w K mg base 3 a.Station "ask" ["self", "k"] (spAsk a) := by
  refine Mt.mk T.k_Station T.m_Station_ask sc_Station_ask bd_Station_ask (fun vs H Q E h => by obtain ⟨p, v, k, pre, post, j, L, rfl, _⟩ := h; rfl) (fun f cdv A outer s H vs Q E hr h => ?_)
  obtain ⟨p, v, kk, pre, post, j, L, rfl, hSt, hso, k⟩ := h
  refine ⟨_, pss_one (ps_expr (pe_mt (pe_dget (hu_of hr) (pe_fld (pv 0) rfl) (pv 1) (fun _ _ => rfl)) (ok_wait_afresh T) hr (pa_cons (pe_fld (pv 0) rfl) pa_nil))), ?_⟩
  obtain ⟨dx, kp, td, tp, Lp, kvs, g1, g2, g3, t1, _, put⟩ := hSt.one hso
  obtain ⟨dxt, tlt, _, _, t7, _⟩ := id t1
  refine ⟨_, rfl, p, a.Station, dx, _, _, rfl, g1, T.k_Station, T.a_Station_tasks, rfl, _, rfl, td, _, rfl, (g3 ▸ DGet.k (k := Sum.inl (j.number : Int)) g2), tp, dxt, _, rfl, t7, rfl, _, rfl, p, a.Station, dx, _, _, rfl, g1, T.k_Station, T.a_Station_now, rfl, tp, v.now, j, Lp, rfl, t1, fun H1 Lp' q1 q2 q3 q4 => ?_⟩
  obtain ⟨L', w1, w2, _, w4⟩ := put H1 _ Lp' q1 rfl q2 q4
  exact k H1 L' w1 w4 w2
def spHalt (a : Ad) : Sp := fun vs H Q _ => ∃ (p : Addr) (v : Sv) (k : Se05.Kept) (pre post : List Se05.Job) (j : Se05.Job) (L : List Addr), vs = [.ref p, .int (j.number : Int)] ∧ StAt a H p v k (pre ++ j :: post) L ∧ Sorted (pre ++ j :: post) ∧
  ∀ H' L' l Lw, StAt a H' p v k (pre ++ { j with phase := .stands, late := false } :: post) L' → TupsAt H' l [[1, (j.number : Int)]] Lw → Kp L H H' → New L L' H → (∀ b ∈ Lw, H b = none ∧ b ∉ L') → Q (.ref l) H'
theorem ok_halt (T : Txt K mg a) : Mt P w K mg base 4 a.Station "halt" ["self", "k"] (spHalt a) := by
  refine Mt.mk T.k_Station T.m_Station_halt sc_Station_halt bd_Station_halt (fun vs H Q E h => by obtain ⟨p, v, k, pre, post, j, L, rfl, _⟩ := h; rfl) (fun f cdv A outer s H vs Q E hr h => ?_)
  obtain ⟨p, v, kk, pre, post, j, L, rfl, hSt, hso, k⟩ := h
  refine ⟨_, pss_cons (ps_expr (pe_mt0 (pe_dget (hu_of hr) (pe_fld (pv 0) rfl) (pv 1) (fun _ _ => rfl)) (ok_haltT T) hr)) (pss_one (ps_ret (pe_lst (pa_cons (pe_tup (pa_cons (pe_cn T.c_STOP) (pa_cons (pv 1) pa_nil))) pa_nil)))), ?_⟩
  obtain ⟨dx, kp, td, tp, Lp, kvs, g1, g2, g3, t1, t2, put⟩ := hSt.one hso
  obtain ⟨dxt, tlt, eLp, _, t7, _⟩ := id t1
  refine ⟨_, rfl, p, a.Station, dx, _, _, rfl, g1, T.k_Station, T.a_Station_tasks, rfl, _, rfl, td, _, rfl, (g3 ▸ DGet.k (k := Sum.inl (j.number : Int)) g2), tp, dxt, _, rfl, t7, rfl, tp, j, Lp, rfl, t1, fun H1 q1 q2 => ?_⟩
  obtain ⟨L', w1, w2, w3, w4⟩ := put H1 _ Lp q1 rfl (q2.kp (by rw [eLp]; simp)) (fun b hb => .inl hb)
  have al : Alive H H1 := At.alive q2 (q1.mem tp (by rw [eLp]; simp))
  refine ⟨_, rfl, (by show 2 ≤ sizeLine; decide), fun t ht => ⟨(by show 1 ≤ sizeLine; decide), fun l hl => ?_⟩⟩
  have s1 := same_upd (o := .tup [.int 1, .int (j.number : Int)]) ht
  have s2 := same_upd (o := .lst [.ref t]) hl
  have ntl : t ≠ l := fun q => by rw [← q, upd_same] at hl; cases hl
  refine k _ L' l [l, t] ((w1.same s1).same s2) ⟨[t], rfl, upd_same, .cons (by rw [upd_ne ntl]; exact upd_same) .nil⟩ (fun b o e hb => s2 _ _ (s1 _ _ (w4 b o e hb))) w2 (fun b hb => ?_)
  have hb' : H1 b = none := by
    rcases List.mem_cons.mp hb with rfl | hb
    · exact s1.free hl
    · rw [List.mem_singleton.mp hb]; exact ht
  exact ⟨al b hb', fun hm => w1.mem b hm hb'⟩
def spReport (a : Ad) : Sp := fun vs H Q _ => ∃ (p : Addr) (v : Sv) (k : Se05.Kept) (pre post : List Se05.Job) (j : Se05.Job) (L : List Addr) (pl : Nat), vs = [.ref p, .int (j.number : Int), .int (pl : Int)] ∧ StAt a H p v k (pre ++ j :: post) L ∧ Sorted (pre ++ j :: post) ∧ k.crumbs.length ≤ 8 ∧
  ∀ H' L', StAt a H' p v (k.crumb ⟨j.number, pl⟩) (pre ++ { j with heard := v.now, place := pl, late := false } :: post) L' → Kp L H H' → New L L' H → Q (.int (j.late.toNat : Int)) H'
theorem ok_report (T : Txt K mg a) : Mt P w K mg base 2 a.Station "report" ["self", "k", "place"] (spReport a) := by
  refine Mt.mk T.k_Station T.m_Station_report sc_Station_report bd_Station_report (fun vs H Q E h => by obtain ⟨p, v, k, pre, post, j, L, pl, rfl, _⟩ := h; rfl) (fun f cdv A outer s H vs Q E hr h => ?_)
  obtain ⟨p, v, kk, pre, post, j, L, pl, rfl, hSt, hso, h8, k⟩ := h
  have nd := sc_Station_report.nd
  refine ⟨_, pss_cons (ps_set (i := 3) nd rfl (Or.inl rfl) (pe_mt (pe_dget (hu_of hr) (pe_fld (pv 0) rfl) (pv 1) (fun _ _ => rfl)) (ok_hear T) hr (pa_cons (pv 2) (pa_cons (pe_fld (pv 0) rfl) pa_nil))))
    (pss_cons (ps_expr (pe_mt (pe_fld (pv 0) rfl) (ok_lay_crumb T) hr (pa_cons (pv 1) (pa_cons (pv 2) pa_nil))))
    (pss_one (ps_ret (pe_ifExp (pt_val (pv 3)) pe_int pe_int)))), ?_⟩
  obtain ⟨dx, kp, td, tp, Lp, kvs, g1, g2, g3, t1, t2, put⟩ := hSt.one hso
  obtain ⟨dxt, tlt, eLp, _, t7, _⟩ := id t1
  refine ⟨_, rfl, p, a.Station, dx, _, _, rfl, g1, T.k_Station, T.a_Station_tasks, rfl, _, rfl, td, _, rfl, (g3 ▸ DGet.k (k := Sum.inl (j.number : Int)) g2), tp, dxt, _, rfl, t7, rfl, _, rfl, _, rfl, p, a.Station, dx, _, _, rfl, g1, T.k_Station, T.a_Station_now, rfl, tp, pl, v.now, j, Lp, rfl, t1, fun H1 q1 q2 => ?_⟩
  obtain ⟨L1, w1, w2, w3, w4⟩ := put H1 _ Lp q1 rfl (q2.kp (by rw [eLp]; simp)) (fun b hb => .inl hb)
  obtain ⟨dx1, kp1, td1, Lk, z1, z2, z3, z4⟩ := w1.kept
  obtain ⟨dxk, _, _, _, _, _, z5, _⟩ := id z2
  refine ⟨_, rfl, p, a.Station, dx1, _, _, rfl, z1, T.k_Station, T.a_Station_kept, rfl, kp1, dxk, _, rfl, z5, rfl, _, rfl, _, rfl, kp1, ⟨j.number, pl⟩, kk, Lk, rfl, z2, h8, fun H2 Lk' hk2 f2 f2a n2 => ?_⟩
  obtain ⟨L2, y1, y2⟩ := z4 H2 _ Lk' hk2 f2 n2
  refine ⟨_, rfl, _, rfl, ite_bit ?_⟩
  refine k H2 L2 y1 (w4.trans (L2 := Lk) f2 fun b hb => w2 b (z3 b hb)) (w2.trans y2 w4)
def spLook (a : Ad) : Sp := fun vs H Q _ => ∃ (p : Addr) (v : Sv) (k : Se05.Kept) (pre post : List Se05.Job) (j : Se05.Job) (L : List Addr), vs = [.ref p, .int (j.number : Int)] ∧ StAt a H p v k (pre ++ j :: post) L ∧ Sorted (pre ++ j :: post) ∧ j.again.length ≤ 100000 ∧ NewL H (shownOf v.now j) Q
theorem ok_look (T : Txt K mg a) : Mt P w K mg base 3 a.Station "look" ["self", "k"] (spLook a) := by
  refine Mt.mk T.k_Station T.m_Station_look sc_Station_look bd_Station_look (fun vs H Q E h => by obtain ⟨p, v, k, pre, post, j, L, rfl, _⟩ := h; rfl) (fun f cdv A outer s H vs Q E hr h => ?_)
  obtain ⟨p, v, kk, pre, post, j, L, rfl, hSt, hso, h16, k⟩ := h
  refine ⟨_, pss_one (ps_ret (pe_mt (pe_dget (hu_of hr) (pe_fld (pv 0) rfl) (pv 1) (fun _ _ => rfl)) (ok_shown T) hr (pa_cons (pe_fld (pv 0) rfl) pa_nil))), ?_⟩
  obtain ⟨dx, kp, td, tp, Lp, kvs, g1, g2, g3, t1, _⟩ := hSt.one hso
  obtain ⟨dxt, tlt, _, _, t7, _⟩ := id t1
  exact ⟨_, rfl, p, a.Station, dx, _, _, rfl, g1, T.k_Station, T.a_Station_tasks, rfl, _, rfl, td, _, rfl, (g3 ▸ DGet.k (k := Sum.inl (j.number : Int)) g2), tp, dxt, _, rfl, t7, rfl, _, rfl, p, a.Station, dx, _, _, rfl, g1, T.k_Station, T.a_Station_now, rfl, tp, v.now, j, Lp, rfl, t1, h16, fun H' l e1 e2 e3 => k H' l e1 e2 e3⟩
end
end Tw
end
section
set_option Elab.async false
set_option linter.all false
set_option maxRecDepth 100000
set_option maxHeartbeats 2000000
namespace Tw
open PySem PySem.Spec PyProof.Rows L2
theorem apart {p : Addr} {L : List Addr} (h : p ∉ L) : ∀ b ∈ L, b ∉ [p] := fun b hb hm => h (List.mem_singleton.mp hm ▸ hb)
section
variable {P : Program} {w : World} {K : PySem.W.Frag} {mg : Str → Option Value} {base : Heap} {a : Ad}
/-! ### a new station -/
def sv0 (bp : Addr) : Sv := ⟨false, 0, 0, 0, false, false, {}, bp⟩
def spStation (a : Ad) : Sp := fun vs H Q _ => ∃ (p dx : Addr), vs = [.ref p] ∧ H p = some (.ins a.Station dx []) ∧ ∀ H' L bp, StAt a H' p (sv0 bp) {} [] L → Kp [p] H H' → (∀ b ∈ L, b = p ∨ H b = none) → Q .non H'
theorem ok_Station (T : Txt K mg a) : Mkr P w K mg base 4 a.Station "Station" ["self"] (spStation a) := by
  refine Mkr.mk T.i_Station sc_Station_init bd_Station_init (fun vs H Q E h => by obtain ⟨p, dx, rfl, _⟩ := h; rfl) (fun f cdv A outer s H vs Q E hr h => ?_)
  obtain ⟨p, dx, rfl, hp, k⟩ := h
  refine ⟨_, pss_cons (ps_fld (pv 0) pe_bl rfl) (pss_cons (ps_fld (pv 0) pe_int rfl) (pss_cons (ps_fld (pv 0) pe_int rfl) (pss_cons (ps_fld (pv 0) pe_int rfl) (pss_cons (ps_fld (pv 0) pe_int rfl) (pss_cons (ps_fld (pv 0) pe_bl rfl)
    (pss_cons (ps_fld (pv 0) (pe_fn0 (ok_nothing_kept T) hr) rfl) (pss_cons (ps_fld (pv 0) (pe_fn0 (ok_nothing_kept T) hr) rfl) (pss_one (ps_fld (pv 0) pe_dnewK rfl))))))))), ?_⟩
  refine ⟨_, rfl, p, a.Station, dx, [], rfl, hp, T.k_Station, T.a_Station_begun, (by decide), ?_⟩
  refine ⟨_, rfl, p, a.Station, dx, _, rfl, upd_same, T.k_Station, T.a_Station_began, (by show 1 < 1000; decide), ?_⟩
  refine ⟨_, rfl, p, a.Station, dx, _, rfl, upd_same, T.k_Station, T.a_Station_now, (by show 2 < 1000; decide), ?_⟩
  refine ⟨_, rfl, p, a.Station, dx, _, rfl, upd_same, T.k_Station, T.a_Station_cause, (by show 3 < 1000; decide), ?_⟩
  refine ⟨_, rfl, p, a.Station, dx, _, rfl, upd_same, T.k_Station, T.a_Station_known, (by show 4 < 1000; decide), ?_⟩
  refine ⟨_, rfl, p, a.Station, dx, _, rfl, upd_same, T.k_Station, T.a_Station_doubt, (by show 5 < 1000; decide), ?_⟩
  generalize hH6 : upd (upd (upd (upd (upd (upd H p _) p _) p _) p _) p _) p _ = H6
  have f6 : At p H H6 := by rw [← hH6]; exact at1 (at1 (at1 (at1 (at1 (at1 at0)))))
  have g6 : H6 p = some (.ins a.Station dx [("begun", .bl false), ("began", .int 0), ("now", .int 0), ("cause", .int 0), ("known", .int 0), ("doubt", .bl false)]) := by rw [← hH6]; exact upd_same
  refine ⟨rfl, fun H1 bp Lb kb s1 nb => ?_⟩
  have pLb : p ∉ Lb := fun hm => by have := nb p hm; rw [g6] at this; cases this
  refine ⟨_, rfl, p, a.Station, dx, _, rfl, s1 _ _ g6, T.k_Station, T.a_Station_before, (by show 6 < 1000; decide), ?_⟩
  generalize hH2 : upd H1 p _ = H2
  have f2 : At p H1 H2 := by rw [← hH2]; exact at1 at0
  have g2 : H2 p = some (.ins a.Station dx [("begun", .bl false), ("began", .int 0), ("now", .int 0), ("cause", .int 0), ("known", .int 0), ("doubt", .bl false), ("before", .ref bp)]) := by rw [← hH2]; exact upd_same
  refine ⟨rfl, fun H3 kp Lk kk s3 nk => ?_⟩
  have pLk : p ∉ Lk := fun hm => by have := nk p hm; rw [g2] at this; cases this
  refine ⟨_, rfl, p, a.Station, dx, _, rfl, s3 _ _ g2, T.k_Station, T.a_Station_kept, (by show 7 < 1000; decide), ?_⟩
  generalize hH4 : upd H3 p _ = H4
  have f4 : At p H3 H4 := by rw [← hH4]; exact at1 at0
  have g4 : H4 p = some (.ins a.Station dx [("begun", .bl false), ("began", .int 0), ("now", .int 0), ("cause", .int 0), ("known", .int 0), ("doubt", .bl false), ("before", .ref bp), ("kept", .ref kp)]) := by rw [← hH4]; exact upd_same
  intro d hd
  have npd : p ≠ d := ne_of_none g4 hd
  refine ⟨_, rfl, p, a.Station, dx, _, rfl, (by rw [upd_ne npd]; exact g4), T.k_Station, T.a_Station_tasks, (by show 8 < 1000; decide), ?_⟩
  generalize hH5 : upd (upd H4 d _) p _ = H5
  have g5 : H5 p = some (.ins a.Station dx (stf (sv0 bp) kp d)) := by rw [← hH5]; exact upd_same
  have gd : H5 d = some (.dK []) := by rw [← hH5, upd_ne (Ne.symm npd)]; exact upd_same
  have c3 : ∀ b o, b ≠ p → H3 b = some o → H5 b = some o := fun b o nb e => by
    have e4 : H4 b = some o := (f4 b nb).trans e
    rw [← hH5, upd_ne nb, upd_ne (ne_of_none e4 hd)]
    exact e4
  have c1 : ∀ b o, b ≠ p → H1 b = some o → H5 b = some o := fun b o nb e => c3 b o nb (s3 _ _ ((f2 b nb).trans e))
  have c0 : ∀ b o, b ≠ p → H b = some o → H5 b = some o := fun b o nb e => c1 b o nb (s1 _ _ ((f6 b nb).trans e))
  have kb5 : KeptAt a.Kept H5 bp {} Lb := kb.kp (M := [p]) (fun b o e hb => c1 b o (by simpa using hb) e) (apart pLb)
  have kk5 : KeptAt a.Kept H5 kp {} Lk := kk.kp (M := [p]) (fun b o e hb => c3 b o (by simpa using hb) e) (apart pLk)
  have free4 : ∀ b, b ≠ p → H4 b = none → H3 b = none := fun b nb e => (f4 b nb).symm.trans e
  have dp : d ≠ p := Ne.symm npd
  have d3 : H3 d = none := free4 d dp hd
  have d2 : H2 d = none := s3.free d3
  have d1 : H1 d = none := (f2 d dp).symm.trans d2
  refine k H5 _ bp (StAt.made (v := sv0 bp) g5 kk5 kb5 gd (fun b hb hm => ?_) (fun hm => kb.mem d hm d1) (fun hm => kk.mem d hm d3) pLb pLk) (fun b o e hb => c0 b o (by simpa using hb) e) (fun b hb => ?_)
  · have nbp : b ≠ p := fun q => pLb (q ▸ hm)
    exact kb.mem b hm ((f2 b nbp).symm.trans (nk b hb))
  · by_cases nbp : b = p
    · exact .inl nbp
    refine .inr ?_
    have h6 : H6 b = none → H b = none := fun e => (f6 b nbp).symm.trans e
    have h2 : H2 b = none → H b = none := fun e => h6 (s1.free ((f2 b nbp).symm.trans e))
    rcases List.mem_cons.mp hb with q | hb
    · exact absurd q nbp
    rcases List.mem_append.mp hb with hb | hb
    · exact h6 (nb b hb)
    rcases List.mem_append.mp hb with hb | hb
    · exact h2 (nk b hb)
    · have q : b = d := by simpa using hb
      rw [q] at nbp ⊢
      exact (q ▸ h2) d2
/-! ### the station begins -/
def befOf (bs : List Nat) : Se05.Kept := (Se05.readBlock bs).getD {}
def svB (bs : List Nat) (c now : Nat) (bp : Addr) : Sv := ⟨true, now, now, c, isBlk bs, decide ((3 : Int) ≤ ((keptBy (befOf bs) c).quick : Int)), befOf bs, bp⟩
theorem bef_four (bs : List Nat) : (befOf bs).starts.length = 4 := by
  unfold befOf Se05.readBlock
  dsimp only
  split <;> rfl
theorem isBlk_is {bs : List Nat} (h : isBlk bs = true) : bs.length = 49 ∧ bs.getD 20 0 ≤ 8 := by
  unfold isBlk at h
  by_cases h1 : bs.length ≠ 49
  · rw [if_pos h1] at h; cases h
  rw [if_neg h1] at h
  refine ⟨by omega, ?_⟩
  split at h
  · cases h
  split at h
  · cases h
  rename_i h3
  have h4 : ¬ crumbsFit bs = false := fun z => h3 (.inr z)
  unfold crumbsFit at h4
  by_cases h5 : 8 < bs.getD 20 0
  · rw [if_pos h5] at h4; exact absurd rfl h4
  · omega
theorem ite_before {C q : Addr} {bs : List Nat} {σ : L2.St} {H : Hp} {Q : VK} (hσ : ∃ x, σ = x ∧ x[3]? = some (some (V.ref q))) (hq : H q = some (.lst (nv bs))) (hb : ∀ x ∈ bs, x < 256) (h : Made C H (befOf bs) Q) :
    if isBlk bs = true then tCall (spRead K C) [] E0 (tCons (tVar 3) tNil) σ H Q else tCall (spNothing C) [] E0 tNil σ H Q := by
  obtain ⟨x, rfl, e⟩ := hσ
  have hr := read_of_isBlk hb
  unfold befOf at h
  rw [hr] at h
  by_cases hi : isBlk bs = true
  · rw [if_pos hi] at h ⊢
    obtain ⟨h1, h2⟩ := isBlk_is hi
    exact ⟨_, e, q, bs, rfl, SqL.of hq, h1, h2, h⟩
  · rw [if_neg hi] at h ⊢
    exact ⟨rfl, h⟩
def spBegin (a : Ad) : Sp := fun vs H Q _ => ∃ (p : Addr) (v : Sv) (k : Se05.Kept) (js : List Se05.Job) (L : List Addr) (c now : Nat) (q : Addr) (bs : List Nat), vs = [.ref p, .int (c : Int), .int (now : Int), .ref q] ∧ StAt a H p v k js L ∧ c ≤ 3 ∧ H q = some (.lst (nv bs)) ∧ (∀ x ∈ bs, x < 256) ∧
  ∀ H' L' bp, StAt a H' p (svB bs c now bp) (keptBy (befOf bs) c) [] L' → Kp L H H' → New L L' H → Q (.int ((isBlk bs).toNat : Int)) H'
theorem ok_begin (T : Txt K mg a) : Mt P w K mg base 4 a.Station "begin" ["self", "cause", "now", "octets"] (spBegin a) := by
  refine Mt.mk T.k_Station T.m_Station_begin sc_Station_begin bd_Station_begin (fun vs H Q E h => by obtain ⟨p, v, k, js, L, c, now, q, bs, rfl, _⟩ := h; rfl) (fun f cdv A outer s H0 vs Q E hr h => ?_)
  obtain ⟨p, v, kk, js, L, c, now, q, bs, rfl, hSt, hc, hq0, hbs, k⟩ := h
  have nd := sc_Station_begin.nd
  refine ⟨_, pss_cons (ps_set (i := 4) nd rfl (Or.inl rfl) (pe_fn (ok_is_block T) hr (pa_cons (pv 3) pa_nil)))
    (pss_cons (ps_fld (pv 0) pe_bl rfl) (pss_cons (ps_fld (pv 0) (pv 2) rfl) (pss_cons (ps_fld (pv 0) (pv 2) rfl) (pss_cons (ps_fld (pv 0) (pv 1) rfl) (pss_cons (ps_fld (pv 0) (pe_ifExp (pt_val (pv 4)) pe_int pe_int) rfl)
    (pss_cons (ps_fld (pv 0) (pe_ifExp (pt_val (pv 4)) (pe_fn (ok_read_block T) hr (pa_cons (pv 3) pa_nil)) (pe_fn0 (ok_nothing_kept T) hr)) rfl)
    (pss_cons (ps_fld (pv 0) (pe_fn (ok_kept_from T) hr (pa_cons (pe_fld (pv 0) rfl) (pa_cons (pv 1) pa_nil))) rfl)
    (pss_cons (ps_fld (pv 0) (pe_cmpR op_ge (pe_fld (pe_fld (pv 0) rfl) rfl) (pe_cn T.c_QUICK_IN_DOUBT) (nomark _)) rfl)
    (pss_cons (ps_fld (pv 0) pe_dnewK rfl) (pss_one (ps_ret (pe_fld (pv 0) rfl)))))))))))), ?_⟩
  refine ⟨_, rfl, q, bs, rfl, SqL.of hq0, trivial, fun H sH => ?_⟩
  have hpL : p ∈ L := by obtain ⟨_, _, _, _, _, _, e, _⟩ := hSt; rw [e]; simp
  obtain ⟨dx, kp0, td0, Lk0, Lt0, Lb0, _, _, hp, _⟩ := hSt.same sH
  have hq := sH _ _ hq0
  have npq : q ≠ p := ne_of hq hp (by intro z; cases z)
  refine ⟨_, rfl, p, a.Station, dx, _, rfl, hp, T.k_Station, T.a_Station_begun, (by show 9 < 1000; decide), ?_⟩
  refine ⟨_, rfl, _, rfl, p, a.Station, dx, _, rfl, upd_same, T.k_Station, T.a_Station_began, (by show 9 < 1000; decide), ?_⟩
  refine ⟨_, rfl, _, rfl, p, a.Station, dx, _, rfl, upd_same, T.k_Station, T.a_Station_now, (by show 9 < 1000; decide), ?_⟩
  refine ⟨_, rfl, _, rfl, p, a.Station, dx, _, rfl, upd_same, T.k_Station, T.a_Station_cause, (by show 9 < 1000; decide), ?_⟩
  refine ⟨_, rfl, _, rfl, ite_bit ?_⟩
  refine ⟨_, rfl, p, a.Station, dx, _, rfl, upd_same, T.k_Station, T.a_Station_known, (by show 9 < 1000; decide), ?_⟩
  generalize hH6 : upd (upd (upd (upd (upd H p _) p _) p _) p _) p _ = H6
  have f6 : At p H H6 := by rw [← hH6]; exact at1 (at1 (at1 (at1 (at1 at0))))
  have g6 : H6 p = some (.ins a.Station dx (stf ⟨true, now, now, c, isBlk bs, v.doubt, v.before, v.bp⟩ kp0 td0)) := by rw [← hH6]; exact upd_same
  have q6 : H6 q = some (.lst (nv bs)) := (f6 q npq).trans hq
  refine ⟨_, rfl, _, rfl, ite_before (q := q) ⟨_, rfl, rfl⟩ q6 hbs (fun H1 bp Lb kb s1 nb => ?_)⟩
  have pLb : p ∉ Lb := fun hm => by have := nb p hm; rw [g6] at this; cases this
  refine ⟨_, rfl, p, a.Station, dx, _, rfl, s1 _ _ g6, T.k_Station, T.a_Station_before, (by show 9 < 1000; decide), ?_⟩
  generalize hH2 : upd H1 p _ = H2
  have f2 : At p H1 H2 := by rw [← hH2]; exact at1 at0
  have g2 : H2 p = some (.ins a.Station dx (stf ⟨true, now, now, c, isBlk bs, v.doubt, befOf bs, bp⟩ kp0 td0)) := by rw [← hH2]; exact upd_same
  have kb2 : KeptAt a.Kept H2 bp (befOf bs) Lb := kb.kp (M := [p]) (f2.kp (by simp)) (apart pLb)
  refine ⟨_, rfl, p, a.Station, dx, _, _, rfl, g2, T.k_Station, T.a_Station_before, rfl, _, rfl, bp, c, befOf bs, Lb, rfl, kb2, bef_four bs, hc, fun H3 kp Lk kk3 s3 nk => ?_⟩
  have pLk : p ∉ Lk := fun hm => by have := nk p hm; rw [g2] at this; cases this
  refine ⟨_, rfl, p, a.Station, dx, _, rfl, s3 _ _ g2, T.k_Station, T.a_Station_kept, (by show 9 < 1000; decide), ?_⟩
  generalize hH4 : upd H3 p _ = H4
  have f4 : At p H3 H4 := by rw [← hH4]; exact at1 at0
  have g4 : H4 p = some (.ins a.Station dx (stf ⟨true, now, now, c, isBlk bs, v.doubt, befOf bs, bp⟩ kp td0)) := by rw [← hH4]; exact upd_same
  have kk4 : KeptAt a.Kept H4 kp (keptBy (befOf bs) c) Lk := kk3.kp (M := [p]) (f4.kp (by simp)) (apart pLk)
  obtain ⟨dxk, slk, clk, tsk, _, _, gk4, _⟩ := id kk4
  refine ⟨_, rfl, p, a.Station, dx, _, _, rfl, g4, T.k_Station, T.a_Station_kept, rfl, kp, a.Kept, dxk, _, _, rfl, gk4, T.k_Kept, T.a_Kept_quick, rfl, _, _, rfl, rfl, _, rfl, p, a.Station, dx, _, rfl, g4, T.k_Station, T.a_Station_doubt, (by show 9 < 1000; decide), ?_⟩
  generalize hH7 : upd H4 p _ = H7
  have f7 : At p H3 H7 := by rw [← hH7]; exact at1 f4
  have g7 : H7 p = some (.ins a.Station dx (stf (svB bs c now bp) kp td0)) := by rw [← hH7]; exact upd_same
  intro d hd
  have npd : p ≠ d := ne_of_none g7 hd
  refine ⟨_, rfl, p, a.Station, dx, _, rfl, (by rw [upd_ne npd]; exact g7), T.k_Station, T.a_Station_tasks, (by show 9 < 1000; decide), ?_⟩
  generalize hH5 : upd (upd H7 d _) p _ = H5
  have g5 : H5 p = some (.ins a.Station dx (stf (svB bs c now bp) kp d)) := by rw [← hH5]; exact upd_same
  have gd : H5 d = some (.dK []) := by rw [← hH5, upd_ne (Ne.symm npd)]; exact upd_same
  refine ⟨_, rfl, p, a.Station, dx, _, _, rfl, g5, T.k_Station, T.a_Station_known, rfl, ?_⟩
  have c3 : ∀ b o, b ≠ p → H3 b = some o → H5 b = some o := fun b o nb e => by
    have e4 : H7 b = some o := (f7 b nb).trans e
    rw [← hH5, upd_ne nb, upd_ne (ne_of_none e4 hd)]
    exact e4
  have c1 : ∀ b o, b ≠ p → H1 b = some o → H5 b = some o := fun b o nb e => c3 b o nb (s3 _ _ ((f2 b nb).trans e))
  have c0 : ∀ b o, b ≠ p → H0 b = some o → H5 b = some o := fun b o nb e => c1 b o nb (s1 _ _ ((f6 b nb).trans (sH _ _ e)))
  have kb5 : KeptAt a.Kept H5 bp (befOf bs) Lb := kb.kp (M := [p]) (fun b o e hb => c1 b o (by simpa using hb) e) (apart pLb)
  have kk5 : KeptAt a.Kept H5 kp (keptBy (befOf bs) c) Lk := kk3.kp (M := [p]) (fun b o e hb => c3 b o (by simpa using hb) e) (apart pLk)
  have dp : d ≠ p := Ne.symm npd
  have d3 : H3 d = none := (f7 d dp).symm.trans hd
  have d2 : H2 d = none := s3.free d3
  have d1 : H1 d = none := (f2 d dp).symm.trans d2
  refine k H5 _ bp (StAt.made (v := svB bs c now bp) g5 kk5 kb5 gd (fun b hb hm => ?_) (fun hm => kb.mem d hm d1) (fun hm => kk3.mem d hm d3) pLb pLk) (fun b o e hb => c0 b o (fun z => hb (z ▸ hpL)) e) (fun b hb => ?_)
  · have nbp : b ≠ p := fun q => pLb (q ▸ hm)
    exact kb.mem b hm ((f2 b nbp).symm.trans (nk b hb))
  · by_cases nbp : b = p
    · exact .inl (nbp ▸ hpL)
    refine .inr ?_
    have h6 : H6 b = none → H0 b = none := fun e => sH.free ((f6 b nbp).symm.trans e)
    have h2 : H2 b = none → H0 b = none := fun e => h6 (s1.free ((f2 b nbp).symm.trans e))
    rcases List.mem_cons.mp hb with q | hb
    · exact absurd q nbp
    rcases List.mem_append.mp hb with hb | hb
    · exact h6 (nb b hb)
    rcases List.mem_append.mp hb with hb | hb
    · exact h2 (nk b hb)
    · have q : b = d := by simpa using hb
      rw [q] at nbp ⊢
      exact (q ▸ h2) d2
end
end Tw
end
section
set_option Elab.async false
set_option linter.all false
set_option maxRecDepth 100000
set_option maxHeartbeats 2000000
namespace Tw
open PySem PySem.Spec PyProof.Rows L2
theorem nodup_mid2 {X B B' Y : List Addr} (nd : (X ++ (B ++ Y)).Nodup) (nd' : B'.Nodup) (nw : ∀ b ∈ B', b ∈ B ∨ b ∉ X ++ (B ++ Y)) : (X ++ (B' ++ Y)).Nodup := by
  obtain ⟨n1, n2, n3⟩ := List.nodup_append.mp nd
  obtain ⟨n4, n5, n6⟩ := List.nodup_append.mp n2
  refine List.nodup_append.mpr ⟨n1, List.nodup_append.mpr ⟨nd', n5, fun x hx y hy e => ?_⟩, fun x hx y hy e => ?_⟩
  · subst e
    rcases nw x hx with z | z
    · exact n6 x z x hy rfl
    · exact z (by simp [hy])
  · subst e
    rcases List.mem_append.mp hy with hy | hy
    · rcases nw x hy with z | z
      · exact n3 x hx x (List.mem_append_left _ z) rfl
      · exact z (by simp [hx])
    · exact n3 x hx x (List.mem_append_right _ hy) rfl
theorem StAt.tasks2 {a : Ad} {H : Hp} {p : Addr} {v : Sv} {k : Se05.Kept} {js : List Se05.Job} {L : List Addr} (h : StAt a H p v k js L) : ∃ dx kp td Lt, H p = some (.ins a.Station dx (stf v kp td)) ∧ TasksAt a.Task H td js Lt ∧ (∀ b ∈ Lt, b ∈ L) ∧
    ∀ H' js' Lt', TasksAt a.Task H' td js' Lt' → Kp Lt H H' → (∀ b ∈ Lt', b ∈ Lt ∨ b ∉ L) → ∃ L', StAt a H' p v k js' L' ∧ ∀ b ∈ L', b ∈ L ∨ b ∈ Lt' := by
  obtain ⟨dx, kp, td, Lk, Lt, Lb, rfl, nd, h1, h2, h3, h4⟩ := h
  refine ⟨dx, kp, td, Lt, h1, h3, fun b hb => by simp [hb], fun H' js' Lt' ht f nw => ?_⟩
  have e0 : (p :: (Lb ++ Lk)) ++ (Lt ++ []) = p :: (Lb ++ (Lk ++ Lt)) := by simp
  have nd0 : ((p :: (Lb ++ Lk)) ++ (Lt ++ [])).Nodup := by rw [e0]; exact nd
  obtain ⟨n1, n2, n3⟩ := List.nodup_append.mp nd0
  have nd' : Lt'.Nodup := by obtain ⟨_, _, e, q, _⟩ := ht; exact q
  have x1 : ∀ b ∈ p :: (Lb ++ Lk), b ∉ Lt := fun b hb hk => n3 b hb b (List.mem_append_left _ hk) rfl
  refine ⟨p :: (Lb ++ (Lk ++ Lt')), ⟨dx, kp, td, Lk, Lt', Lb, rfl, ?_, f _ _ h1 (x1 p (by simp)), h2.kp f fun b hb => x1 b (by simp [hb]), ht, h4.kp f fun b hb => x1 b (by simp [hb])⟩, fun b hb => ?_⟩
  · have z := nodup_mid2 (X := p :: (Lb ++ Lk)) nd0 nd' (by rw [e0]; exact nw)
    have e : (p :: (Lb ++ Lk)) ++ (Lt' ++ []) = p :: (Lb ++ (Lk ++ Lt')) := by simp
    rw [e] at z
    exact z
  · rcases List.mem_cons.mp hb with rfl | hb
    · exact .inl (by simp)
    rcases List.mem_append.mp hb with hb | hb
    · exact .inl (by simp [hb])
    rcases List.mem_append.mp hb with hb | hb
    · exact .inl (by simp [hb])
    · exact .inr hb
/-- where a new task goes -/
theorem insert_split (j : Se05.Job) : ∀ js : List Se05.Job, ∃ pre post, js = pre ++ post ∧ Se05.insert j js = pre ++ j :: post
  | [] => ⟨[], [], rfl, rfl⟩
  | u :: l => by
    unfold Se05.insert
    by_cases h : j.number < u.number
    · exact ⟨[], u :: l, rfl, by rw [if_pos h]; rfl⟩
    · obtain ⟨pre, post, e1, e2⟩ := insert_split j l
      exact ⟨u :: pre, post, by rw [e1]; rfl, by rw [if_neg h, e2]; rfl⟩
theorem paired_app {α β : Type} {F : α → β → Prop} {m2 : List β} : ∀ {m1 : List β} {l : List α}, Paired F l (m1 ++ m2) → ∃ l1 l2, l = l1 ++ l2 ∧ Paired F l1 m1 ∧ Paired F l2 m2
  | [], l, h => ⟨[], l, rfl, .nil, h⟩
  | x :: m1, _, .cons r t => by
    obtain ⟨l1, l2, e, h1, h2⟩ := paired_app (m1 := m1) t
    exact ⟨_ :: l1, l2, by rw [e]; rfl, .cons r h1, h2⟩
theorem zip_app {α β : Type} {l2 : List α} {m2 : List β} : ∀ {l1 : List α} {m1 : List β}, l1.length = m1.length → (l1 ++ l2).zip (m1 ++ m2) = l1.zip m1 ++ l2.zip m2
  | [], [], _ => rfl
  | [], _ :: _, h => by simp at h
  | _ :: _, [], h => by simp at h
  | x :: l1, y :: m1, h => by
    show (x, y) :: (l1 ++ l2).zip (m1 ++ m2) = (x, y) :: (l1.zip m1 ++ l2.zip m2)
    rw [zip_app (by simpa using h)]
theorem TasksAt.add {C : Addr} {H : Hp} {td t : Addr} {js : List Se05.Job} {j : Se05.Job} {L Lt : List Addr} (h : TasksAt C H td js L) (hn : ∀ i ∈ js, i.number ≠ j.number) (ht : TaskAt C H t j Lt) (d : ∀ b ∈ Lt, b ∉ L) :
    ∃ kvs L', H td = some (.dK kvs) ∧ valV kvs (Sum.inl (j.number : Int)) = none ∧ kvs.length = js.length ∧ TasksAt C (upd H td (.dK (putK kvs (Sum.inl (j.number : Int)) (.ref t)))) td (Se05.insert j js) L' ∧ (∀ b ∈ L', b ∈ L ∨ b ∈ Lt) := by
  obtain ⟨kvs', hk', hv'⟩ := h.no hn
  obtain ⟨ts, kvs, rfl, nd, h1, h2, h3⟩ := h
  have ek : kvs' = kvs := by rw [h1] at hk'; cases hk'; rfl
  subst ek
  obtain ⟨pre, post, e1, e2⟩ := insert_split j js
  have hlen : kvs'.length = js.length := by
    rw [h2.length_eq]
    unfold kvsOf
    rw [List.length_map, List.length_zip, Paired.length h3, Nat.min_self]
  subst e1
  obtain ⟨l1, l2, rfl, p1, p2⟩ := paired_app h3
  have hl1 : l1.length = pre.length := Paired.length p1
  have tNd : Lt.Nodup := by
    obtain ⟨dx, tl, e, n, _⟩ := ht
    rw [e]
    simp [n]
  have tdt : td ∉ Lt := fun hm => d td hm (by simp)
  have f : Kp [td] H (upd H td (.dK (putK kvs' (Sum.inl (j.number : Int)) (.ref t)))) := (Kp.refl _ _).upd (.inl (by simp))
  have ntd : ∀ u ∈ l1 ++ l2, ∀ b ∈ u.2, b ∉ [td] := fun u hu b hb hm => by
    have e := List.mem_singleton.mp hm
    exact (List.nodup_cons.mp nd).1 (List.mem_flatMap.mpr ⟨u, hu, e ▸ hb⟩)
  refine ⟨kvs', td :: (l1 ++ (t, Lt) :: l2).flatMap (fun u : TP => u.2), h1, hv', hlen, ⟨l1 ++ (t, Lt) :: l2, _, rfl, ?_, upd_same, ?_, ?_⟩, ?_⟩
  · have nd0 : ((td :: l1.flatMap (fun u : TP => u.2)) ++ ([] ++ l2.flatMap (fun u : TP => u.2))).Nodup := by
      have e : (td :: l1.flatMap (fun u : TP => u.2)) ++ ([] ++ l2.flatMap (fun u : TP => u.2)) = td :: (l1 ++ l2).flatMap (fun u : TP => u.2) := by rw [List.flatMap_append]; simp
      rw [e]; exact nd
    have z := nodup_mid2 (B := []) nd0 tNd (fun b hb => .inr fun hm => d b hb (by
      have e : (td :: l1.flatMap (fun u : TP => u.2)) ++ ([] ++ l2.flatMap (fun u : TP => u.2)) = td :: (l1 ++ l2).flatMap (fun u : TP => u.2) := by rw [List.flatMap_append]; simp
      rw [← e]; exact hm))
    have e : td :: (l1 ++ (t, Lt) :: l2).flatMap (fun u : TP => u.2) = (td :: l1.flatMap (fun u : TP => u.2)) ++ (Lt ++ l2.flatMap (fun u : TP => u.2)) := by rw [List.flatMap_append, List.flatMap_cons]; rfl
    rw [e]
    exact z
  · rw [putK_new _ hv', e2]
    unfold kvsOf at h2 ⊢
    rw [zip_app hl1, List.map_append] at h2
    rw [zip_split hl1, List.map_append, List.map_cons]
    have q1 : (kvs' ++ [((Sum.inl (j.number : Int) : Key), V.ref t)]).Perm (((Sum.inl (j.number : Int) : Key), V.ref t) :: kvs') := List.perm_append_singleton _ _
    exact q1.trans ((h2.cons _).trans List.perm_middle.symm)
  · rw [e2]
    refine paired_join (paired_imp p1 fun u i hu q => q.kp f (ntd u (List.mem_append_left _ hu))) (ht.kp f (apart tdt)) (paired_imp p2 fun u i hu q => q.kp f (ntd u (List.mem_append_right _ hu)))
  · intro b hb
    rcases List.mem_cons.mp hb with rfl | hb
    · exact .inl (by simp)
    rw [List.flatMap_append, List.flatMap_cons] at hb
    rcases List.mem_append.mp hb with hb | hb
    · refine .inl (List.mem_cons_of_mem _ ?_)
      rw [List.flatMap_append]
      exact List.mem_append_left _ hb
    rcases List.mem_append.mp hb with hb | hb
    · exact .inr hb
    · refine .inl (List.mem_cons_of_mem _ ?_)
      rw [List.flatMap_append]
      exact List.mem_append_right _ hb
theorem valV_gk (x : Str) : ∀ g : List (Str × Int), valV (gk g) (Sum.inr x) = (g.lookup x).map V.int
  | [] => rfl
  | (y, v) :: r => by
    show valV ((Sum.inr y, V.int v) :: gk r) (Sum.inr x) = _
    rw [List.lookup_cons]
    by_cases e : x = y
    · subst e
      rw [valV_pos rfl]
      simp
    · rw [valV_neg (fun q => e (Sum.inr.inj q).symm), valV_gk x r]
      have : (x == y) = false := by simpa using e
      rw [this]
section
variable {P : Program} {w : World} {K : PySem.W.Frag} {mg : Str → Option Value} {base : Heap} {a : Ad}
def addJ (d : Bool) (j : Se05.Job) : Se05.Job := if d = true ∧ j.rule.main = false then { j with phase := .stands } else j
def spAdd (a : Ad) : Sp := fun vs H Q _ => ∃ (p : Addr) (v : Sv) (k : Se05.Kept) (js : List Se05.Job) (L : List Addr) (t : Addr) (j : Se05.Job) (Lt : List Addr), vs = [.ref p, .int (j.number : Int), .ref t] ∧ StAt a H p v k js L ∧ TaskAt a.Task H t j Lt ∧ (∀ b ∈ Lt, b ∉ L) ∧ (∀ i ∈ js, i.number ≠ j.number) ∧ js.length ≤ 16 ∧
  ∀ H' L', StAt a H' p v k (Se05.insert (addJ v.doubt j) js) L' → Kp (L ++ Lt) H H' → (∀ b ∈ L', b ∈ L ∨ b ∈ Lt) → Q .non H'
theorem ok_add_task (T : Txt K mg a) : Mt P w K mg base 3 a.Station "add_task" ["self", "k", "task"] (spAdd a) := by
  refine Mt.mk T.k_Station T.m_Station_add_task sc_Station_add_task bd_Station_add_task (fun vs H Q E h => by obtain ⟨p, v, k, js, L, t, j, Lt, rfl, _⟩ := h; rfl) (fun f cdv A outer s H vs Q E hr h => ?_)
  obtain ⟨p, v, kk, js, L, t, j, Lt, rfl, hSt, hT, dj, hn, h16, k⟩ := h
  refine ⟨_, pss_cons (ps_if (PW.pt (pw_and (pt_val (pe_fld (pv 0) rfl)) (pw_and1 (pt_cmpR op_eq (pe_fld (pv 2) rfl) pe_int (nomark _))))) (pss_one (ps_expr (pe_mt0 (pv 2) (ok_stand T) hr))) pss_nil)
    (pss_one (ps_dput (hu_of hr) (pe_fld (pv 0) rfl) (pv 1) (pv 2) rfl)), ?_⟩
  have fin : ∀ (H1 : Hp) (j1 : Se05.Job), j1 = addJ v.doubt j → j1.number = j.number → StAt a H1 p v kk js L → TaskAt a.Task H1 t j1 Lt → Kp Lt H H1 → ∀ D : Ends, (∀ σ H, D.nx σ H = Q .non H) → sDPut (tFld K (tVar 0) "tasks") (tVar 1) (tVar 2) D [some (.ref p), some (.int (j.number : Int)), some (.ref t)] H1 := by
    intro H1 j1 ej hj1 x1 x2 x3 D hD
    obtain ⟨dx, kp, td, Lt0, g1, g2, g3, g4⟩ := x1.tasks2
    obtain ⟨kvs, L', a1, a2, a3, a4, a5⟩ := g2.add (j := j1) (t := t) (Lt := Lt) (by rw [hj1]; exact hn) x2 (fun b hb hm => dj b hb (g3 b hm))
    rw [hj1] at a2 a4
    refine ⟨_, rfl, _, rfl, p, a.Station, dx, _, _, rfl, g1, T.k_Station, T.a_Station_tasks, rfl, _, rfl, td, _, rfl, DPut.k (k := Sum.inl (j.number : Int)) a1 (by rw [a3]; exact Nat.lt_of_le_of_lt h16 (by decide)), ?_⟩
    rw [hD]
    have tdL : td ∈ Lt0 := by obtain ⟨_, _, e, _⟩ := g2; rw [e]; simp
    have f1 : Kp Lt0 H1 (upd H1 td (.dK (putK kvs (Sum.inl (j.number : Int)) (.ref t)))) := (Kp.refl _ _).upd (.inl tdL)
    obtain ⟨L1, y1, y2⟩ := g4 _ _ L' a4 f1 (fun b hb => by
      rcases a5 b hb with z | z
      · exact .inl z
      · exact .inr (dj b z))
    refine k _ L1 (by rw [← ej]; exact y1) (fun b o e hb => f1 b o (x3 b o e fun hm => hb (List.mem_append_right _ hm)) fun hm => hb (List.mem_append_left _ (g3 b hm))) (fun b hb => ?_)
    rcases y2 b hb with z | z
    · exact .inl z
    · rcases a5 b z with y | y
      · exact .inl (g3 b y)
      · exact .inr y
  obtain ⟨dx, kp, td, _, _, _, _, _, g1, _⟩ := id hSt
  obtain ⟨dxt, tlt, eLt, ntl, t7, t8⟩ := id hT
  refine ⟨_, rfl, p, a.Station, dx, _, _, rfl, g1, T.k_Station, T.a_Station_doubt, rfl, _, rfl, ite2 (fun e => ?_) (fun e => ?_)⟩
  · refine ⟨_, rfl, t, a.Task, dxt, _, _, rfl, t7, T.k_Task, T.a_Task_main, rfl, rfl, _, rfl, ite2 (fun e2 => ?_) (fun e2 => ?_)⟩
    · have e2 : j.rule.main = false := by
        have z := V.int.inj (of_decide_eq_true e2)
        cases q : j.rule.main with
        | false => rfl
        | true => rw [q] at z; cases z
      refine ⟨_, rfl, t, dxt, _, rfl, t7, rfl, t, j, Lt, rfl, hT, fun H1 t1 f1 => ?_⟩
      have kf : Kp Lt H H1 := f1.kp (by rw [eLt]; simp)
      exact fin H1 { j with phase := .stands } (by unfold addJ; rw [if_pos ⟨e, e2⟩]) rfl (hSt.kp kf fun b hb hm => dj b hm hb) t1 kf _ (fun _ _ => rfl)
    · refine fin H j ?_ rfl hSt hT (Kp.refl _ _) _ (fun _ _ => rfl)
      unfold addJ
      rw [if_neg]
      rintro ⟨_, q⟩
      exact e2 (decide_eq_true (by rw [q]; rfl))
  · refine fin H j ?_ rfl hSt hT (Kp.refl _ _) _ (fun _ _ => rfl)
    unfold addJ
    rw [if_neg]
    rintro ⟨q, _⟩
    exact e q
end
end Tw
end
section
set_option Elab.async false
set_option linter.all false
set_option maxRecDepth 100000
set_option maxHeartbeats 2000000
namespace Tw
open PySem PySem.Spec PyProof.Rows L2
/-- a number handed in, by its name -/
abbrev arg (g : List (Str × Int)) (x : Str) : Option Int := g.lookup x
theorem dget_gk {H : Hp} {d : Addr} {g : List (Str × Int)} {x : Str} {i : Int} (hd : H d = some (.dK (gk g))) (e : g.lookup x = some i) : DGet H d (.str x) (some (.int i)) := by
  have q := DGet.k (k := Sum.inr x) hd
  rw [valV_gk, e] at q
  exact q
section
variable {P : Program} {w : World} {K : PySem.W.Frag} {mg : Str → Option Value} {base : Heap} {a : Ad}
def spTaskFrom (C : Addr) : Sp := fun vs H Q _ => ∃ (d : Addr) (g : List (Str × Int)) (r : Se05.Rule) (now : Nat), vs = [.ref d] ∧ H d = some (.dK (gk g)) ∧ arg g "limit" = some (r.limit : Int) ∧ arg g "rank" = some (r.rank : Int) ∧ arg g "most" = some (r.most : Int) ∧ arg g "span" = some (r.span : Int) ∧ arg g "first" = some (r.first : Int) ∧
  arg g "main" = some (r.main.toNat : Int) ∧ arg g "now" = some (now : Int) ∧ ∀ H' t L n, TaskAt C H' t { number := n, rule := r, phase := .waits now, heard := now, wait := r.first } L → Same H H' → (∀ b ∈ L, H b = none) → Q (.ref t) H'
theorem ok_task_from (T : Txt K mg a) : Fn P w K mg base 3 "task_from" ["given"] (spTaskFrom a.Task) := by
  refine Fn.mk T.f_task_from sc_task_from bd_task_from (fun vs H Q E h => by obtain ⟨d, g, r, now, rfl, _⟩ := h; rfl) (fun f cdv A outer s H vs Q E hr h => ?_)
  obtain ⟨d, g, r, now, rfl, hd, e1, e2, e3, e4, e5, e6, e7, k⟩ := h
  refine ⟨_, pss_one (ps_ret (pe_mk (ok_Task T) (hr.mono (by decide)) (pa_cons (pe_dget (hu_of hr) (pv 0) pe_str (fun _ _ => rfl)) (pa_cons (pe_dget (hu_of hr) (pv 0) pe_str (fun _ _ => rfl)) (pa_cons (pe_dget (hu_of hr) (pv 0) pe_str (fun _ _ => rfl)) (pa_cons (pe_dget (hu_of hr) (pv 0) pe_str (fun _ _ => rfl)) (pa_cons (pe_dget (hu_of hr) (pv 0) pe_str (fun _ _ => rfl))
    (pa_cons (pe_dget (hu_of hr) (pv 0) pe_str (fun _ _ => rfl)) (pa_cons (pe_dget (hu_of hr) (pv 0) pe_str (fun _ _ => rfl)) pa_nil))))))))), ?_⟩
  refine ⟨_, rfl, d, _, rfl, dget_gk hd e1, _, rfl, d, _, rfl, dget_gk hd e2, _, rfl, d, _, rfl, dget_gk hd e3, _, rfl, d, _, rfl, dget_gk hd e4, _, rfl, d, _, rfl, dget_gk hd e5, _, rfl, d, _, rfl, dget_gk hd e6, _, rfl, d, _, rfl, dget_gk hd e7, ?_⟩
  intro x dx nx ndx nxd
  refine ⟨x, dx, r, now, rfl, upd_same, fun H2 L n t1 f1 nL => ⟨rfl, ?_⟩⟩
  have cr : ∀ b o, H b = some o → upd (upd H dx (.own x)) x (.ins a.Task dx []) b = some o := fun b o e => by
    rw [upd_ne (ne_of_none e nx), upd_ne (ne_of_none e ndx)]
    exact e
  refine k H2 x L n t1 (fun b o e => f1 b o (cr b o e) fun hm => ?_) (fun b hb => ?_)
  · have : b = x := by simpa using hm
    rw [this, nx] at e
    cases e
  · rcases nL b hb with q | q
    · rw [q]; exact nx
    · cases e : H b with
      | none => rfl
      | some o => rw [cr b o e] at q; cases q
/-! ### what is wanted, told -/
def spTold (K : PySem.W.Frag) : Sp := fun vs H Q _ => ∃ (l : Addr) (rows : List (List Int)) (Lw : List Addr), vs = [.ref l] ∧ TupsAt H l rows Lw ∧ rows.length ≤ 100 ∧ (∀ r ∈ rows, r.length ≤ 2) ∧ ∀ H' l', H' l' = some (.lst (((rows.length : Int) :: rows.flatten).map V.int)) → Same H H' → H l' = none → Q (.ref l') H'
theorem flatten_le {rows : List (List Int)} (h : ∀ r ∈ rows, r.length ≤ 2) : rows.flatten.length ≤ 2 * rows.length := by
  induction rows with
  | nil => simp
  | cons r t ih =>
    rw [List.flatten_cons, List.length_append, List.length_cons]
    have := h r (by simp)
    have := ih fun x hx => h x (by simp [hx])
    omega
theorem ok_told (T : Txt K mg a) : Fn P w K mg base 1 "told" ["wanted"] (spTold K) := by
  refine Fn.mk T.f_told sc_told bd_told (fun vs H Q E h => by obtain ⟨l, rows, Lw, rfl, _⟩ := h; rfl) (fun f cdv A outer s H vs Q E hr h => ?_)
  obtain ⟨l, rows, Lw, rfl, hT, h100, h2, k⟩ := h
  have nd := sc_told.nd
  refine ⟨_, pss_cons (ps_set (i := 1) nd rfl (Or.inl rfl) (pe_lst (pa_cons (pe_callB call_len_seq rfl T.b_len PySem.boot_len (pa_cons (pv 0) pa_nil)) pa_nil)))
    (pss_cons (ps_for PassesOwn.never rfl (pi_list (pv 0)) (pg_name (i := 2) nd rfl (Or.inl rfl)) (pss_one (ps_expr (pe_bm PySem.F.plainAttrs_list PySem.F.slot_list_extend PySem.F.type_list_extend mt_extendT (pv 1) (pa_cons (pv 2) pa_nil)))))
    (pss_one (ps_ret (pv 1)))), ?_⟩
  obtain ⟨ts, rfl, hl, hp⟩ := hT
  have hlen : ts.length = rows.length := Paired.length hp
  refine ⟨_, rfl, l, _, rfl, .inl (SqL.of hl), (by show 1 ≤ sizeLine; decide), fun q hq => ?_⟩
  have s0 := same_upd (o := .lst [V.int ((ts.map V.ref).length : Int)]) hq
  refine ⟨_, rfl, l, rfl, ⟨_, SqL.of (s0 _ _ hl)⟩, for_list (xs := ts.map V.ref) (fun i σ H' => Same H H' ∧ H' q = some (.lst (((rows.length : Int) :: (rows.take i).flatten).map V.int)) ∧ ∃ v2 : Option V, σ = [some (.ref l), some (.ref q), v2])
    ⟨s0, lst_eq (by rw [List.length_map, hlen]; rfl), none, rfl⟩ (fun i σ H' _ ⟨s5, _⟩ => SqL.of (s5 _ _ hl)) ?_ ?_⟩
  · rintro i x σ H' hi ⟨s5, hf, v2, rfl⟩
    obtain ⟨t, ht, rfl⟩ : ∃ t, ts[i]? = some t ∧ x = V.ref t := by
      rw [List.getElem?_map] at hi
      cases e : ts[i]? with
      | none => rw [e] at hi; cases hi
      | some z => rw [e] at hi; exact ⟨z, rfl, (Option.some.inj hi).symm⟩
    obtain ⟨r, hr1, hr2⟩ := paired_get hp ht
    have hrm : r ∈ rows := List.mem_of_getElem? hr1
    refine ⟨_, rfl, .inl ⟨rfl, _, SqL.of hf⟩, _, rfl, q, t, _, _, rfl, rfl, hf, SqT.of (s5 _ _ hr2), ?_, ?_⟩
    · rw [List.length_map, List.length_map, List.length_cons]
      have q1 : ((rows.take i).flatten).length ≤ 2 * (rows.take i).length := flatten_le fun x hx => h2 x (List.mem_of_mem_take hx)
      have q2 : (rows.take i).length ≤ 100 := by rw [List.length_take]; omega
      have q3 := h2 r hrm
      exact Nat.le_trans (show _ ≤ 300 by omega) (by decide)
    · refine ⟨fun b o e => ?_, lst_eq ?_, _, rfl⟩
      · rw [upd_ne (ne_of_none e hq)]
        exact s5 _ _ e
      · rw [take_next hr1, List.flatten_append, List.map_cons, List.map_cons, List.map_append]
        simp
  · rintro σ H' ⟨s5, hf, v2, rfl⟩
    rw [List.length_map, hlen, List.take_length] at hf
    exact ⟨_, rfl, k H' q hf s5 hq⟩
/-! ### said, list -/
def saidOf (v : Sv) (k : Se05.Kept) : List Nat := [v.cause, v.known.toNat, v.doubt.toNat] ++ (k.starts ++ ([k.quick, v.before.doomed, v.before.crumbs.length] ++ v.before.crumbs.flatMap Se05.crumbNumbers))
theorem numbers_len (l : List Se05.Crumb) : (l.flatMap Se05.crumbNumbers).length = 2 * l.length := by
  induction l with
  | nil => rfl
  | cons x r ih => rw [List.flatMap_cons, List.length_append, ih, List.length_cons]; show 2 + _ = _; omega
def spSaid (a : Ad) : Sp := fun vs H Q _ => ∃ (p : Addr) (v : Sv) (k : Se05.Kept) (js : List Se05.Job) (L : List Addr), vs = [.ref p] ∧ StAt a H p v k js L ∧ k.starts.length = 4 ∧ v.before.crumbs.length ≤ 8 ∧ NewL H (saidOf v k) Q
theorem ok_said (T : Txt K mg a) : Mt P w K mg base 1 a.Station "said" ["self"] (spSaid a) := by
  refine Mt.mk T.k_Station T.m_Station_said sc_Station_said bd_Station_said (fun vs H Q E h => by obtain ⟨p, v, k, js, L, rfl, _⟩ := h; rfl) (fun f cdv A outer s H vs Q E hr h => ?_)
  obtain ⟨p, v, kk, js, L, rfl, hSt, h4, h8, k⟩ := h
  have nd := sc_Station_said.nd
  refine ⟨_, pss_cons (ps_set (i := 1) nd rfl (Or.inl rfl) (pe_lst (pa_cons (pe_fld (pv 0) rfl) (pa_cons (pe_fld (pv 0) rfl) (pa_cons (pe_ifExp (pt_val (pe_fld (pv 0) rfl)) pe_int pe_int) pa_nil)))))
    (pss_cons (ps_expr (pe_bm PySem.F.plainAttrs_list PySem.F.slot_list_extend PySem.F.type_list_extend mt_extend (pv 1) (pa_cons (pe_fld (pe_fld (pv 0) rfl) rfl) pa_nil)))
    (pss_cons (ps_expr (pe_bm PySem.F.plainAttrs_list PySem.F.slot_list_extend PySem.F.type_list_extend mt_extend (pv 1) (pa_cons (pe_lst (pa_cons (pe_fld (pe_fld (pv 0) rfl) rfl) (pa_cons (pe_fld (pe_fld (pv 0) rfl) rfl) (pa_cons (pe_callB call_len_seq rfl T.b_len PySem.boot_len (pa_cons (pe_fld (pe_fld (pv 0) rfl) rfl) pa_nil)) pa_nil)))) pa_nil)))
    (pss_cons (ps_for PassesOwn.never rfl (pi_list (pe_fld (pe_fld (pv 0) rfl) rfl)) (pg_name (i := 2) nd rfl (Or.inl rfl)) (pss_one (ps_expr (pe_bm PySem.F.plainAttrs_list PySem.F.slot_list_extend PySem.F.type_list_extend mt_extendT (pv 1) (pa_cons (pv 2) pa_nil)))))
    (pss_one (ps_ret (pv 1)))))), ?_⟩
  obtain ⟨dx, kp, td, Lk, Lt, Lb, _, _, g1, hK, _, hB⟩ := hSt
  obtain ⟨dxk, slk, clk, tsk, _, _, k1, k2, k3, k4⟩ := hK
  obtain ⟨dxb, slb, clb, tsb, _, _, b1, b2, b3, b4⟩ := hB
  have hlen : tsb.length = v.before.crumbs.length := Paired.length b4
  refine ⟨_, rfl, p, a.Station, dx, _, _, rfl, g1, T.k_Station, T.a_Station_cause, rfl, _, rfl, p, a.Station, dx, _, _, rfl, g1, T.k_Station, T.a_Station_known, rfl, _, rfl, p, a.Station, dx, _, _, rfl, g1, T.k_Station, T.a_Station_doubt, rfl, _, rfl, ite_bit ?_⟩
  refine ⟨(by show 3 ≤ sizeLine; decide), fun l hl => ?_⟩
  have s0 := same_upd (o := .lst [V.int (v.cause : Int), V.int (v.known.toNat : Int), V.int (v.doubt.toNat : Int)]) hl
  refine ⟨_, rfl, .inl ⟨rfl, _, SqL.of upd_same⟩, _, rfl, p, a.Station, dx, _, _, rfl, s0 _ _ g1, T.k_Station, T.a_Station_kept, rfl, kp, a.Kept, dxk, _, _, rfl, s0 _ _ k1, T.k_Kept, T.a_Kept_starts, rfl, l, slk, _, _, rfl, rfl, upd_same, s0 _ _ k2, ?_, ?_⟩
  · rw [List.length_map, h4]
    show 3 + 4 ≤ sizeLine
    decide
  generalize hH1 : upd (upd H l _) l _ = H1
  have s1 : Same H H1 := fun b o e => by
    rw [← hH1, upd_ne (ne_of_none e hl)]
    exact s0 _ _ e
  have f1 : H1 l = some (.lst (nv ([v.cause, v.known.toNat, v.doubt.toNat] ++ kk.starts))) := by
    rw [← hH1]
    exact lst_eq (nv_app [v.cause, v.known.toNat, v.doubt.toNat] kk.starts)
  refine ⟨_, rfl, .inl ⟨rfl, _, SqL.of f1⟩, _, rfl, p, a.Station, dx, _, _, rfl, s1 _ _ g1, T.k_Station, T.a_Station_kept, rfl, kp, a.Kept, dxk, _, _, rfl, s1 _ _ k1, T.k_Kept, T.a_Kept_quick, rfl,
    _, rfl, p, a.Station, dx, _, _, rfl, s1 _ _ g1, T.k_Station, T.a_Station_before, rfl, v.bp, a.Kept, dxb, _, _, rfl, s1 _ _ b1, T.k_Kept, T.a_Kept_doomed, rfl,
    _, rfl, p, a.Station, dx, _, _, rfl, s1 _ _ g1, T.k_Station, T.a_Station_before, rfl, v.bp, a.Kept, dxb, _, _, rfl, s1 _ _ b1, T.k_Kept, T.a_Kept_crumbs, rfl, clb, _, rfl, .inl (SqL.of (s1 _ _ b3)), (by show 3 ≤ sizeLine; decide), fun l2 hl2 => ?_⟩
  have s2 := same_upd (o := .lst [V.int (kk.quick : Int), V.int (v.before.doomed : Int), V.int ((tsb.map V.ref).length : Int)]) hl2
  refine ⟨l, l2, _, _, rfl, rfl, s2 _ _ f1, upd_same, ?_, ?_⟩
  · rw [List.length_map, List.length_append, h4]
    show 3 + 4 + 3 ≤ sizeLine
    decide
  generalize hH2 : upd (upd H1 l2 _) l _ = H2
  have s3 : Same H H2 := fun b o e => by
    rw [← hH2, upd_ne (ne_of_none e hl)]
    exact s2 _ _ (s1 _ _ e)
  have f2 : H2 l = some (.lst (nv ([v.cause, v.known.toNat, v.doubt.toNat] ++ kk.starts ++ [kk.quick, v.before.doomed, v.before.crumbs.length]))) := by
    rw [← hH2]
    refine lst_eq ?_
    rw [List.length_map, hlen]
    exact nv_app _ [kk.quick, v.before.doomed, v.before.crumbs.length]
  generalize hB : [v.cause, v.known.toNat, v.doubt.toNat] ++ kk.starts ++ [kk.quick, v.before.doomed, v.before.crumbs.length] = Bd at f2
  have hBl : Bd.length = 10 := by
    rw [← hB, List.length_append, List.length_append, h4]
    rfl
  refine ⟨_, rfl, p, a.Station, dx, _, _, rfl, s3 _ _ g1, T.k_Station, T.a_Station_before, rfl, v.bp, a.Kept, dxb, _, _, rfl, s3 _ _ b1, T.k_Kept, T.a_Kept_crumbs, rfl, clb, rfl, ⟨_, SqL.of (s3 _ _ b3)⟩, for_list (xs := tsb.map V.ref) (fun i σ H' => Same H H' ∧ H' l = some (.lst (nv (Bd ++ (v.before.crumbs.take i).flatMap Se05.crumbNumbers))) ∧ ∃ v2 : Option V, σ = [some (.ref p), some (.ref l), v2])
    ⟨s3, (by rw [f2]; simp), none, rfl⟩ (fun i σ H' _ ⟨s5, _⟩ => SqL.of (s5 _ _ b3)) ?_ ?_⟩
  · rintro i x σ H' hi ⟨s5, hf, v2, rfl⟩
    obtain ⟨t, ht, rfl⟩ : ∃ t, tsb[i]? = some t ∧ x = V.ref t := by
      rw [List.getElem?_map] at hi
      cases e : tsb[i]? with
      | none => rw [e] at hi; cases hi
      | some z => rw [e] at hi; exact ⟨z, rfl, (Option.some.inj hi).symm⟩
    obtain ⟨c, hc, hct⟩ := paired_get b4 ht
    have hct' : H t = some (.tup [.int (c.task : Int), .int (c.place : Int)]) := hct
    refine ⟨_, rfl, .inl ⟨rfl, _, SqL.of hf⟩, _, rfl, l, t, _, _, rfl, rfl, hf, SqT.of (s5 _ _ hct'), ?_, ?_⟩
    · rw [List.length_map, List.length_append, hBl, numbers_len, List.length_take]
      exact Nat.le_trans (show 10 + 2 * min i v.before.crumbs.length + 2 ≤ 100 by omega) (by decide)
    · refine ⟨fun b o e => ?_, lst_eq ?_, _, rfl⟩
      · rw [upd_ne (ne_of_none e hl)]
        exact s5 _ _ e
      · rw [take_next hc, List.flatMap_append]
        show nv _ ++ nv [c.task, c.place] = _
        rw [nv_app]
        simp [Se05.crumbNumbers]
  · rintro σ H' ⟨s5, hf, v2, rfl⟩
    rw [List.length_map, hlen, List.take_length] at hf
    refine ⟨_, rfl, k H' l (hf.trans ?_) s5 hl⟩
    rw [← hB]
    unfold saidOf
    simp
def spListed (a : Ad) : Sp := fun vs H Q _ => ∃ (p : Addr) (v : Sv) (k : Se05.Kept) (js : List Se05.Job) (L : List Addr), vs = [.ref p] ∧ StAt a H p v k js L ∧ Sorted js ∧ js.length ≤ 16 ∧ NewL H (js.length :: js.map (·.number)) Q
theorem ok_listed (T : Txt K mg a) : Mt P w K mg base 1 a.Station "listed" ["self"] (spListed a) := by
  refine Mt.mk T.k_Station T.m_Station_listed sc_Station_listed bd_Station_listed (fun vs H Q E h => by obtain ⟨p, v, k, js, L, rfl, _⟩ := h; rfl) (fun f cdv A outer s H vs Q E hr h => ?_)
  obtain ⟨p, v, kk, js, L, rfl, hSt, hso, h16, k⟩ := h
  refine ⟨_, pss_one (ps_ret (pe_op op_cat (pe_lst (pa_cons (pe_callB call_lenD rfl T.b_len PySem.boot_len (pa_cons (pe_fld (pv 0) rfl) pa_nil)) pa_nil)) (pe_callB (cr_sortedD rfl) rfl T.b_sorted PyProof.Rows.boot_sorted (pa_cons (pe_fld (pv 0) rfl) pa_nil)))), ?_⟩
  obtain ⟨dx, kp, td, Lt, g1, g2, g3, g4⟩ := hSt.tasks
  obtain ⟨kvs, ks, e1, e2, e3⟩ := g2.keys
  have hks : ks.length = js.length := by rw [e3.length_eq, List.length_map]
  have hkl : kvs.length = js.length := by
    have := congrArg List.length e2
    rw [List.length_map, List.length_map] at this
    omega
  refine ⟨_, rfl, p, a.Station, dx, _, _, rfl, g1, T.k_Station, T.a_Station_tasks, rfl, td, kvs, rfl, e1, (by show 1 ≤ sizeLine; decide), fun l hl => ?_⟩
  have s0 := same_upd (o := .lst [V.int (kvs.length : Int)]) hl
  refine ⟨_, rfl, p, a.Station, dx, _, _, rfl, s0 _ _ g1, T.k_Station, T.a_Station_tasks, rfl, td, kvs, ks, rfl, s0 _ _ e1, e2, (by omega), fun ns sl hp hle hsl => ?_⟩
  have ens : ns = js.map fun j => (j.number : Int) := sorted_unique (hp.trans e3) hle hso.ints
  subst ens
  have s1 := same_upd (o := .lst ((js.map fun j => (j.number : Int)).map V.int)) hsl
  refine ⟨l, sl, _, _, rfl, rfl, s1 _ _ upd_same, upd_same, ?_, fun q hq => ?_⟩
  · rw [List.length_map, List.length_map]
    exact Nat.le_trans (show 1 + js.length ≤ 17 by omega) (by decide)
  · refine k _ q (lst_eq ?_) ((s0.trans s1).trans (same_upd hq)) ((s0.trans s1).free hq)
    rw [hkl, List.map_map]
    show _ = List.map _ (js.length :: js.map (·.number))
    rw [List.map_cons, List.map_map]
    rfl
end
end Tw
end
section
set_option Elab.async false
set_option linter.all false
set_option maxRecDepth 100000
set_option maxHeartbeats 2000000
namespace Tw
open PySem PySem.Spec PyProof.Rows L2
/-- a task by its number -/
def jobAt (js : List Se05.Job) (k : Nat) : Option Se05.Job := js.find? fun t => t.number == k
theorem jobAt_some {js : List Se05.Job} {k : Nat} {j : Se05.Job} (h : jobAt js k = some j) : ∃ pre post, js = pre ++ j :: post ∧ j.number = k := by
  unfold jobAt at h
  obtain ⟨h1, pre, post, h2, _⟩ := List.find?_eq_some_iff_append.mp h
  exact ⟨pre, post, h2, eq_of_beq h1⟩
theorem jobAt_none {js : List Se05.Job} {k : Nat} (h : jobAt js k = none) : ∀ j ∈ js, j.number ≠ k := fun j hj e => by
  unfold jobAt at h
  have := List.find?_eq_none.mp h j hj
  exact this (by rw [e]; simp)
/-- what the dict of tasks says of a number -/
theorem StAt.has {a : Ad} {H : Hp} {p : Addr} {v : Sv} {kk : Se05.Kept} {js : List Se05.Job} {L : List Addr} (h : StAt a H p v kk js L) (hs : Sorted js) (k : Nat) :
    ∃ dx kp td o, H p = some (.ins a.Station dx (stf v kp td)) ∧ DGet H td (.int (k : Int)) o ∧ o.isSome = (jobAt js k).isSome := by
  cases e : jobAt js k with
  | none =>
    obtain ⟨dx, kp, td, Lt, g1, g2, g3, g4⟩ := h.tasks
    obtain ⟨kvs, hk, hv⟩ := g2.no (jobAt_none e)
    exact ⟨dx, kp, td, none, g1, (hv ▸ DGet.k (k := Sum.inl (k : Int)) hk), rfl⟩
  | some j =>
    obtain ⟨pre, post, rfl, rfl⟩ := jobAt_some e
    obtain ⟨dx, kp, td, tp, Lp, kvs, g1, g2, g3, t1, _⟩ := h.one hs
    exact ⟨dx, kp, td, some (.ref tp), g1, (g3 ▸ DGet.k (k := Sum.inl (j.number : Int)) g2), rfl⟩
/-- refused, as the promise says -/
def byPromise (js : List Se05.Job) (n : Int) (k : Nat) : Bool :=
  if n = 1 then (jobAt js k).isSome
  else if n = 2 ∨ n = 5 then (match jobAt js k with | some j => !Se05.running j | none => false)
  else if n = 4 then (match jobAt js k with | some j => Se05.running j | none => false) else false
theorem in2 (n x y : Int) : inV (.int n) [.int x, .int y] = decide (n = x ∨ n = y) := by
  show ((x == n) || ((y == n) || false)) = _
  rw [Bool.eq_iff_iff]
  simp only [Bool.or_eq_true, beq_iff_eq, Bool.or_false, decide_eq_true_eq]
  constructor <;> intro h <;> omega
theorem in4 (n x y z u : Int) : inV (.int n) [.int x, .int y, .int z, .int u] = decide (n = x ∨ n = y ∨ n = z ∨ n = u) := by
  show ((x == n) || ((y == n) || ((z == n) || ((u == n) || false)))) = _
  rw [Bool.eq_iff_iff]
  simp only [Bool.or_eq_true, beq_iff_eq, Bool.or_false, decide_eq_true_eq]
  constructor <;> intro h <;> omega
section
variable {P : Program} {w : World} {K : PySem.W.Frag} {mg : Str → Option Value} {base : Heap} {a : Ad}
def spByPromise (a : Ad) : Sp := fun vs H Q _ => ∃ (p : Addr) (v : Sv) (kk : Se05.Kept) (js : List Se05.Job) (L : List Addr) (q : Addr) (n : Int) (g : List (Str × Int)) (o : List Int) (Lq : List Addr) (k : Nat), vs = [.ref p, .ref q] ∧ StAt a H p v kk js L ∧ CallAt a.Call H q n g o Lq ∧ Sorted js ∧
  (n = 1 ∨ n = 2 ∨ n = 4 ∨ n = 5 → arg g "k" = some (k : Int)) ∧ (n = 2 ∨ n = 4 ∨ n = 5 → (jobAt js k).isSome = true) ∧ ∀ H', Same H H' → Q (.bl (byPromise js n k)) H'
theorem ok_by_promise (T : Txt K mg a) : Fn P w K mg base 2 "refused_by_promise" ["station", "call"] (spByPromise a) := by
  refine Fn.mk T.f_refused_by_promise sc_refused_by_promise bd_refused_by_promise (fun vs H Q E h => by obtain ⟨p, v, kk, js, L, q, n, g, o, Lq, k, rfl, _⟩ := h; rfl) (fun f cdv A outer s H vs Q E hr h => ?_)
  obtain ⟨p, v, kk, js, L, q, n, g, o, Lq, kn, rfl, hSt, hC, hso, hk1, hk2, k⟩ := h
  refine ⟨_, pss_cons (ps_if (pt_cmpR op_eq (pe_fld (pv 1) rfl) (pe_cn T.c_TASK) (nomark _)) (pss_one (ps_ret (pe_cmp (pc_din (hu_of hr) (pe_dget (hu_of hr) (pe_fld (pv 1) rfl) pe_str (fun _ _ => rfl)) (pe_fld (pv 0) rfl))))) pss_nil)
    (pss_cons (ps_if (pt_cmpR op_in_seq (pe_fld (pv 1) rfl) (pe_tup (pa_cons (pe_cn T.c_REPORT) (pa_cons (pe_cn T.c_HALT) pa_nil))) (by with_unfolding_all rfl)) (pss_one (ps_ret (pe_not (pe_mt (pv 0) (ok_runs T) hr (pa_cons (pe_dget (hu_of hr) (pe_fld (pv 1) rfl) pe_str (fun _ _ => rfl)) pa_nil))))) pss_nil)
    (pss_cons (ps_if (pt_cmpR op_eq (pe_fld (pv 1) rfl) (pe_cn T.c_ASK) (nomark _)) (pss_one (ps_ret (pe_mt (pv 0) (ok_runs T) hr (pa_cons (pe_dget (hu_of hr) (pe_fld (pv 1) rfl) pe_str (fun _ _ => rfl)) pa_nil)))) pss_nil)
    (pss_one (ps_ret pe_bl)))), ?_⟩
  obtain ⟨dxq, gd, ol, rfl, c1, c2, c3⟩ := hC
  refine ⟨_, rfl, q, a.Call, dxq, _, _, rfl, c1, T.k_Call, T.a_Call_number, rfl, rfl, _, rfl, ite2 (fun e => ?_) (fun e => ?_)⟩
  · have e : n = 1 := V.int.inj (of_decide_eq_true e)
    obtain ⟨dx, kp, td, o, g1, g2, g3⟩ := hSt.has hso kn
    refine ⟨_, rfl, q, a.Call, dxq, _, _, rfl, c1, T.k_Call, T.a_Call_given, rfl, gd, _, rfl, dget_gk c2 (hk1 (.inl e)), _, rfl, p, a.Station, dx, _, _, rfl, g1, T.k_Station, T.a_Station_tasks, rfl, td, o, rfl, g2, ?_⟩
    have z := k H (Same.refl _)
    unfold byPromise at z
    rw [if_pos e, ← g3] at z
    exact z
  · have e : ¬ n = 1 := fun z => e (decide_eq_true (by rw [z]))
    refine ⟨_, rfl, q, a.Call, dxq, _, _, rfl, c1, T.k_Call, T.a_Call_number, rfl, (by show 2 ≤ sizeLine; decide), fun t ht => ?_⟩
    have s1 := same_upd (o := .tup [.int 2, .int 5]) ht
    have hSt1 := hSt.same s1
    have d1 := s1 _ _ c1
    have d2 := s1 _ _ c2
    refine ⟨t, _, rfl, .inr (SqT.of upd_same), rfl, rfl, _, rfl, ?_⟩
    rw [show (if false = true then !inV (.int n) [.int 2, .int 5] else inV (.int n) [.int 2, .int 5]) = decide (n = 2 ∨ n = 5) from in2 n 2 5]
    have z := k _ s1
    unfold byPromise at z
    rw [if_neg e] at z
    refine ite2 (fun e2 => ?_) (fun e2 => ?_)
    · have e2 := of_decide_eq_true e2
      obtain ⟨j, hj⟩ := Option.isSome_iff_exists.mp (hk2 (by rcases e2 with e2 | e2 <;> simp [e2]))
      rw [if_pos e2, hj] at z
      obtain ⟨pre, post, rfl, rfl⟩ := jobAt_some hj
      obtain ⟨dx, kp, td, tp, Lp, kvs, g1, _⟩ := hSt1.one hso
      exact ⟨_, rfl, p, dx, _, rfl, g1, rfl, _, rfl, q, a.Call, dxq, _, _, rfl, d1, T.k_Call, T.a_Call_given, rfl, gd, _, rfl, dget_gk d2 (hk1 (by rcases e2 with e2 | e2 <;> simp [e2])), p, v, kk, pre, post, j, L, rfl, hSt1, hso, _, rfl, z⟩
    · have e2 : ¬ (n = 2 ∨ n = 5) := fun y => e2 (decide_eq_true y)
      rw [if_neg e2] at z
      refine ⟨_, rfl, q, a.Call, dxq, _, _, rfl, d1, T.k_Call, T.a_Call_number, rfl, rfl, _, rfl, ite2 (fun e3 => ?_) (fun e3 => ?_)⟩
      · have e3 : n = 4 := V.int.inj (of_decide_eq_true e3)
        obtain ⟨j, hj⟩ := Option.isSome_iff_exists.mp (hk2 (by simp [e3]))
        rw [if_pos e3, hj] at z
        obtain ⟨pre, post, rfl, rfl⟩ := jobAt_some hj
        obtain ⟨dx, kp, td, tp, Lp, kvs, g1, _⟩ := hSt1.one hso
        exact ⟨_, rfl, p, dx, _, rfl, g1, rfl, _, rfl, q, a.Call, dxq, _, _, rfl, d1, T.k_Call, T.a_Call_given, rfl, gd, _, rfl, dget_gk d2 (hk1 (by simp [e3])), p, v, kk, pre, post, j, L, rfl, hSt1, hso, z⟩
      · have e3 : ¬ n = 4 := fun y => e3 (decide_eq_true (by rw [y]))
        rw [if_neg e3] at z
        exact z
/-! ### refused or not -/
def kOf (g : List (Str × Int)) : Nat := ((arg g "k").getD 0).toNat
/-- a time that is told is earlier than now -/
def lateB (now : Nat) (g : List (Str × Int)) : Bool := match arg g "now" with
  | some t => decide (t < (now : Int))
  | none => false
def refuse (begun : Bool) (now : Nat) (js : List Se05.Job) (n : Int) (g : List (Str × Int)) : Int :=
  if n = 0 then (if (g.all fun p => inR p.1 p.2) = true then 0 else -1)
  else if begun = false then -4
  else if (g.all fun p => inR p.1 p.2) = false then -1
  else if lateB now g = true then -4
  else if (n = 2 ∨ n = 4 ∨ n = 5 ∨ n = 8) ∧ jobAt js (kOf g) = none then -2
  else if byPromise js n (kOf g) = true then -4 else 0
theorem k_in {g : List (Str × Int)} {z : Int} (h : arg g "k" = some z) (hr : (g.all fun p => inR p.1 p.2) = true) : arg g "k" = some ((kOf g : Nat) : Int) ∧ kOf g ≤ 15 := by
  have m := List.all_eq_true.mp hr _ (mem_of_lookup h)
  have m : (decide ((0 : Int) ≤ z) && decide (z ≤ 15)) = true := m
  obtain ⟨h1, h2⟩ := Bool.and_eq_true_iff.mp m
  have h1 := of_decide_eq_true h1
  have h2 := of_decide_eq_true h2
  unfold kOf
  rw [h]
  show some z = some ((z.toNat : Nat) : Int) ∧ z.toNat ≤ 15
  exact ⟨by rw [Int.toNat_of_nonneg h1], by omega⟩
def spRefusal (a : Ad) : Sp := fun vs H Q _ => ∃ (p : Addr) (v : Sv) (kk : Se05.Kept) (js : List Se05.Job) (L : List Addr) (q : Addr) (n : Int) (g : List (Str × Int)) (o : List Int) (Lq : List Addr), vs = [.ref p, .ref q] ∧ StAt a H p v kk js L ∧ CallAt a.Call H q n g o Lq ∧ Sorted js ∧
  (∀ p ∈ g, (RM.lookup p.1).isSome = true) ∧ (n = 1 ∨ n = 2 ∨ n = 4 ∨ n = 5 ∨ n = 8 → (arg g "k").isSome = true) ∧ ∀ H', Same H H' → Q (.int (refuse v.begun v.now js n g)) H'
theorem ok_refusal_of (T : Txt K mg a) (B : Tbl P w K mg) : Fn P w K mg base 3 "refusal_of" ["station", "call"] (spRefusal a) := by
  refine Fn.mk T.f_refusal_of sc_refusal_of bd_refusal_of (fun vs H Q E h => by obtain ⟨p, v, kk, js, L, q, n, g, o, Lq, rfl, _⟩ := h; rfl) (fun f cdv A outer s H vs Q E hr h => ?_)
  obtain ⟨p, v, kk, js, L, q, n, g, o, Lq, rfl, hSt, hC, hso, hg, hk1, k⟩ := h
  have hr1 : Room 1 _ := hr.mono (by decide)
  refine ⟨_, pss_cons (ps_if (pt_cmpR op_eq (pe_fld (pv 1) rfl) (pe_cn T.c_BEGIN) (nomark _)) (pss_one (ps_ret (pe_ifExp (pt_val (pe_fn (ok_in_ranges T B) hr1 (pa_cons (pe_fld (pv 1) rfl) pa_nil))) pe_int (pe_cn T.c_OUT_OF_RANGE)))) pss_nil)
    (pss_cons (ps_if (pt_not (pt_val (pe_fld (pv 0) rfl))) (pss_one (ps_ret (pe_cn T.c_NOT_NOW))) pss_nil)
    (pss_cons (ps_if (pt_not (pt_val (pe_fn (ok_in_ranges T B) hr1 (pa_cons (pe_fld (pv 1) rfl) pa_nil)))) (pss_one (ps_ret (pe_cn T.c_OUT_OF_RANGE))) pss_nil)
    (pss_cons (ps_if (PW.pt (pw_and (pt_cmp (pc_din (hu_of hr) pe_str (pe_fld (pv 1) rfl))) (pw_and1 (pt_cmpR op_lt (pe_dget (hu_of hr) (pe_fld (pv 1) rfl) pe_str (fun _ _ => rfl)) (pe_fld (pv 0) rfl) (nomark _))))) (pss_one (ps_ret (pe_cn T.c_NOT_NOW))) pss_nil)
    (pss_cons (ps_if (PW.pt (pw_and (pt_cmpR op_in_seq (pe_fld (pv 1) rfl) (pe_tup (pa_cons (pe_cn T.c_REPORT) (pa_cons (pe_cn T.c_ASK) (pa_cons (pe_cn T.c_HALT) (pa_cons (pe_cn T.c_LOOK) pa_nil))))) (by with_unfolding_all rfl)) (pw_and1 (pt_cmp (pc_dnotin (hu_of hr) (pe_dget (hu_of hr) (pe_fld (pv 1) rfl) pe_str (fun _ _ => rfl)) (pe_fld (pv 0) rfl)))))) (pss_one (ps_ret (pe_cn T.c_NO_SUCH_TASK))) pss_nil)
    (pss_cons (ps_if (pt_val (pe_fn (ok_by_promise T) hr (pa_cons (pv 0) (pa_cons (pv 1) pa_nil)))) (pss_one (ps_ret (pe_cn T.c_NOT_NOW))) pss_nil)
    (pss_one (ps_ret pe_int))))))), ?_⟩
  obtain ⟨dxq, gd, ol, rfl, c1, c2, c3⟩ := id hC
  unfold refuse at k
  refine ⟨_, rfl, q, a.Call, dxq, _, _, rfl, c1, T.k_Call, T.a_Call_number, rfl, rfl, _, rfl, ite2 (fun e => ?_) (fun e => ?_)⟩
  · have e : n = 0 := V.int.inj (of_decide_eq_true e)
    rw [if_pos e] at k
    refine ⟨_, rfl, q, a.Call, dxq, _, _, rfl, c1, T.k_Call, T.a_Call_given, rfl, gd, g, rfl, c2, hg, fun H1 s1 => ⟨_, rfl, ite2 (fun e2 => ?_) (fun e2 => ?_)⟩⟩
    · have z := k H1 s1
      rw [if_pos e2] at z
      exact z
    · have z := k H1 s1
      rw [if_neg e2] at z
      exact z
  have e : ¬ n = 0 := fun z => e (decide_eq_true (by rw [z]))
  rw [if_neg e] at k
  obtain ⟨dx, kp, td, _, _, _, _, _, g1, _⟩ := id hSt
  refine ⟨_, rfl, p, a.Station, dx, _, _, rfl, g1, T.k_Station, T.a_Station_begun, rfl, _, rfl, ite2 (fun e2 => ?_) (fun e2 => ?_)⟩
  · have e2 : v.begun = false := by cases q : v.begun <;> simp [q] at e2 ⊢
    rw [if_pos e2] at k
    exact k H (Same.refl _)
  have e2 : ¬ v.begun = false := by cases q : v.begun <;> simp [q] at e2 ⊢
  rw [if_neg e2] at k
  refine ⟨_, rfl, q, a.Call, dxq, _, _, rfl, c1, T.k_Call, T.a_Call_given, rfl, gd, g, rfl, c2, hg, fun H1 s1 => ⟨_, rfl, ite2 (fun e3 => ?_) (fun e3 => ?_)⟩⟩
  · have e3 : (g.all fun p => inR p.1 p.2) = false := by cases q : (g.all fun p => inR p.1 p.2) <;> simp [q] at e3 ⊢
    rw [if_pos e3] at k
    exact k H1 s1
  have e3 : (g.all fun p => inR p.1 p.2) = true := by cases q : (g.all fun p => inR p.1 p.2) <;> simp [q] at e3 ⊢
  rw [if_neg (by rw [e3]; simp)] at k
  have d1 := s1 _ _ c1
  have d2 := s1 _ _ c2
  have w1 := s1 _ _ g1
  have test2 : ∀ Qb : Bool → Hp → Prop, Qb (lateB v.now g) H1 → tAnd (tB (tDIn (tC (.str "now")) (tFld K (tVar 1) "given"))) (tTest (tOp (rI0 fun i j => .bl (decide (i < j))) (tDGet (tFld K (tVar 1) "given") (tC (.str "now"))) (tFld K (tVar 0) "now"))) [some (.ref p), some (.ref q)] H1 Qb := by
    intro Qb hq
    refine ⟨_, rfl, q, a.Call, dxq, _, _, rfl, d1, T.k_Call, T.a_Call_given, rfl, gd, _, rfl, DGet.k (k := Sum.inr "now") d2, _, rfl, ?_⟩
    rw [valV_gk]
    unfold lateB at hq
    cases e4 : arg g "now" with
    | none =>
      have e4' : List.lookup (Str.ofString "now") g = none := e4
      rw [e4] at hq
      rw [e4']
      exact iteF hq
    | some t =>
      have e4' : List.lookup (Str.ofString "now") g = some t := e4
      rw [e4] at hq
      rw [e4']
      exact iteT ⟨_, rfl, q, a.Call, dxq, _, _, rfl, d1, T.k_Call, T.a_Call_given, rfl, gd, _, rfl, dget_gk d2 e4, _, rfl, p, a.Station, dx, _, _, rfl, w1, T.k_Station, T.a_Station_now, rfl, _, _, rfl, rfl, _, rfl, hq⟩
  refine test2 _ (ite2 (fun e4 => ?_) (fun e4 => ?_))
  · rw [if_pos e4] at k
    exact k H1 s1
  rw [if_neg e4] at k
  have hSt1 := hSt.same s1
  have test3 : ∀ Qb : Bool → Hp → Prop, (∀ H2, Same H H2 → Qb (decide ((n = 2 ∨ n = 4 ∨ n = 5 ∨ n = 8) ∧ jobAt js (kOf g) = none)) H2) →
      tAnd (tTest (tOp (rIn K false) (tFld K (tVar 1) "number") (tTup (tCons (tC (.int 2)) (tCons (tC (.int 4)) (tCons (tC (.int 5)) (tCons (tC (.int 8)) tNil))))))) (tB (tDNotIn (tDGet (tFld K (tVar 1) "given") (tC (.str "k"))) (tFld K (tVar 0) "tasks"))) [some (.ref p), some (.ref q)] H1 Qb := by
    intro Qb hq
    refine ⟨_, rfl, q, a.Call, dxq, _, _, rfl, d1, T.k_Call, T.a_Call_number, rfl, (by show 4 ≤ sizeLine; decide), fun t ht => ?_⟩
    have s2 := same_upd (o := .tup [.int 2, .int 4, .int 5, .int 8]) ht
    refine ⟨t, _, rfl, .inr (SqT.of upd_same), rfl, rfl, _, rfl, ?_⟩
    rw [show (if false = true then !inV (.int n) [.int 2, .int 4, .int 5, .int 8] else inV (.int n) [.int 2, .int 4, .int 5, .int 8]) = decide (n = 2 ∨ n = 4 ∨ n = 5 ∨ n = 8) from in4 n 2 4 5 8]
    refine ite2 (fun e5 => ?_) (fun e5 => ?_)
    · have e5 := of_decide_eq_true e5
      obtain ⟨z, hz⟩ := Option.isSome_iff_exists.mp (hk1 (by rcases e5 with e5 | e5 | e5 | e5 <;> simp [e5]))
      obtain ⟨hk, _⟩ := k_in hz e3
      obtain ⟨dx', kp', td', o', y1, y2, y3⟩ := (hSt1.same s2).has hso (kOf g)
      refine ⟨_, rfl, q, a.Call, dxq, _, _, rfl, s2 _ _ d1, T.k_Call, T.a_Call_given, rfl, gd, _, rfl, dget_gk (s2 _ _ d2) hk, _, rfl, p, a.Station, dx', _, _, rfl, y1, T.k_Station, T.a_Station_tasks, rfl, td', o', rfl, y2, _, rfl, ?_⟩
      have z2 := hq _ (s1.trans s2)
      have e6 : decide ((n = 2 ∨ n = 4 ∨ n = 5 ∨ n = 8) ∧ jobAt js (kOf g) = none) = !o'.isSome := by
        rw [y3, Bool.eq_iff_iff, decide_eq_true_eq]
        cases jobAt js (kOf g) <;> simp [e5]
      rw [e6] at z2
      exact z2
    · have e5 : ¬ (n = 2 ∨ n = 4 ∨ n = 5 ∨ n = 8) := fun y => e5 (decide_eq_true y)
      have z2 := hq _ (s1.trans s2)
      rw [decide_eq_false (fun y => e5 y.1)] at z2
      exact z2
  refine test3 _ (fun H2 s2 => ite2 (fun e5 => ?_) (fun e5 => ?_))
  · rw [if_pos (of_decide_eq_true e5)] at k
    exact k H2 s2
  have e5 : ¬ ((n = 2 ∨ n = 4 ∨ n = 5 ∨ n = 8) ∧ jobAt js (kOf g) = none) := fun y => e5 (decide_eq_true y)
  rw [if_neg e5] at k
  refine ⟨_, rfl, _, rfl, p, v, kk, js, L, q, n, g, o, _, kOf g, rfl, hSt.same s2, hC.same s2, hso, fun hn => ?_, fun hn => ?_, fun H3 s3 => ⟨_, rfl, ite2 (fun e6 => ?_) (fun e6 => ?_)⟩⟩
  · obtain ⟨z, hz⟩ := Option.isSome_iff_exists.mp (hk1 (by rcases hn with hn | hn | hn | hn <;> simp [hn]))
    exact (k_in hz e3).1
  · cases q : jobAt js (kOf g) with
    | some j => rfl
    | none => exact absurd ⟨by rcases hn with hn | hn | hn <;> simp [hn], q⟩ e5
  · rw [if_pos e6] at k
    exact k H3 (s2.trans s3)
  · rw [if_neg e6] at k
    exact k H3 (s2.trans s3)
end
end Tw
end
section
set_option Elab.async false
set_option linter.all false
set_option maxRecDepth 100000
set_option maxHeartbeats 2000000
namespace Tw
open PySem PySem.Spec PyProof.Rows L2
/-- a station as it always is -/
structure Fine (v : Sv) (kk : Se05.Kept) (js : List Se05.Job) : Prop where
  so : Sorted js
  few : js.length ≤ 16
  job : ∀ j ∈ js, j.again.length ≤ 100000 ∧ j.rule.rank ≤ 2
  st : kk.starts.length = 4
  cr : kk.crumbs.length ≤ 8
  pl : ∀ c ∈ kk.crumbs, c.place < 65536
  bc : v.before.crumbs.length ≤ 8
/-- what the calls without a time tell -/
def tellOf (v : Sv) (kk : Se05.Kept) (js : List Se05.Job) (n : Int) (k : Nat) : List Nat :=
  if n = 6 then Se05.block kk else if n = 7 then saidOf v kk else if n = 9 then js.length :: js.map (·.number) else match jobAt js k with | some j => shownOf v.now j | none => []
section
variable {P : Program} {w : World} {K : PySem.W.Frag} {mg : Str → Option Value} {base : Heap} {a : Ad}
def spTell (a : Ad) : Sp := fun vs H Q _ => ∃ (p : Addr) (v : Sv) (kk : Se05.Kept) (js : List Se05.Job) (L : List Addr) (q : Addr) (n : Int) (g : List (Str × Int)) (o : List Int) (Lq : List Addr) (k : Nat), vs = [.ref p, .ref q] ∧ StAt a H p v kk js L ∧ CallAt a.Call H q n g o Lq ∧ Fine v kk js ∧
  (¬ (n = 6 ∨ n = 7 ∨ n = 9) → arg g "k" = some (k : Int) ∧ (jobAt js k).isSome = true) ∧ NewL H (tellOf v kk js n k) Q
theorem ok_tell (T : Txt K mg a) : Fn P w K mg base 4 "tell" ["station", "call"] (spTell a) := by
  refine Fn.mk T.f_tell sc_tell bd_tell (fun vs H Q E h => by obtain ⟨p, v, kk, js, L, q, n, g, o, Lq, k, rfl, _⟩ := h; rfl) (fun f cdv A outer s H vs Q E hr h => ?_)
  obtain ⟨p, v, kk, js, L, q, n, g, o, Lq, kn, rfl, hSt, hC, F, hk, k⟩ := h
  have hr1 : Room 1 _ := hr.mono (by decide)
  have hr2 : Room 2 _ := hr.mono (by decide)
  refine ⟨_, pss_cons (ps_if (pt_cmpR op_eq (pe_fld (pv 1) rfl) (pe_cn T.c_KEEP) (nomark _)) (pss_one (ps_ret (pe_fn (ok_write_block T) hr2 (pa_cons (pe_fld (pv 0) rfl) pa_nil)))) pss_nil)
    (pss_cons (ps_if (pt_cmpR op_eq (pe_fld (pv 1) rfl) (pe_cn T.c_SAID) (nomark _)) (pss_one (ps_ret (pe_mt0 (pv 0) (ok_said T) hr1))) pss_nil)
    (pss_cons (ps_if (pt_cmpR op_eq (pe_fld (pv 1) rfl) (pe_cn T.c_LIST) (nomark _)) (pss_one (ps_ret (pe_mt0 (pv 0) (ok_listed T) hr1))) pss_nil)
    (pss_one (ps_ret (pe_mt (pv 0) (ok_look T) hr (pa_cons (pe_dget (hu_of hr) (pe_fld (pv 1) rfl) pe_str (fun _ _ => rfl)) pa_nil)))))), ?_⟩
  obtain ⟨dxq, gd, ol, rfl, c1, c2, c3⟩ := id hC
  obtain ⟨dx, kp, td, Lk, g1, g2, _⟩ := hSt.kept
  unfold tellOf at k
  refine ⟨_, rfl, q, a.Call, dxq, _, _, rfl, c1, T.k_Call, T.a_Call_number, rfl, rfl, _, rfl, ite2 (fun e => ?_) (fun e => ?_)⟩
  · have e : n = 6 := V.int.inj (of_decide_eq_true e)
    rw [if_pos e] at k
    exact ⟨_, rfl, p, a.Station, dx, _, _, rfl, g1, T.k_Station, T.a_Station_kept, rfl, kp, kk, Lk, rfl, g2, F.st, F.cr, F.pl, k⟩
  have e : ¬ n = 6 := fun z => e (decide_eq_true (by rw [z]))
  rw [if_neg e] at k
  refine ⟨_, rfl, q, a.Call, dxq, _, _, rfl, c1, T.k_Call, T.a_Call_number, rfl, rfl, _, rfl, ite2 (fun e2 => ?_) (fun e2 => ?_)⟩
  · have e2 : n = 7 := V.int.inj (of_decide_eq_true e2)
    rw [if_pos e2] at k
    exact ⟨_, rfl, p, dx, _, rfl, g1, rfl, p, v, kk, js, L, rfl, hSt, F.st, F.bc, k⟩
  have e2 : ¬ n = 7 := fun z => e2 (decide_eq_true (by rw [z]))
  rw [if_neg e2] at k
  refine ⟨_, rfl, q, a.Call, dxq, _, _, rfl, c1, T.k_Call, T.a_Call_number, rfl, rfl, _, rfl, ite2 (fun e3 => ?_) (fun e3 => ?_)⟩
  · have e3 : n = 9 := V.int.inj (of_decide_eq_true e3)
    rw [if_pos e3] at k
    exact ⟨_, rfl, p, dx, _, rfl, g1, rfl, p, v, kk, js, L, rfl, hSt, F.so, F.few, k⟩
  have e3 : ¬ n = 9 := fun z => e3 (decide_eq_true (by rw [z]))
  rw [if_neg e3] at k
  obtain ⟨hk1, hk2⟩ := hk (by simp [e, e2, e3])
  obtain ⟨j, hj⟩ := Option.isSome_iff_exists.mp hk2
  rw [hj] at k
  obtain ⟨pre, post, rfl, rfl⟩ := jobAt_some hj
  exact ⟨_, rfl, p, dx, _, rfl, g1, rfl, _, rfl, q, a.Call, dxq, _, _, rfl, c1, T.k_Call, T.a_Call_given, rfl, gd, _, rfl, dget_gk c2 hk1, p, v, kk, pre, post, j, L, rfl, hSt, F.so, (F.job j (by simp)).1, k⟩
/-! ### the calls with a time -/
inductive Act (v : Sv) (kk : Se05.Kept) (js : List Se05.Job) (n : Int) (g : List (Str × Int)) : Se05.Kept → List Se05.Job → List Int → Prop
  | task (hn : n = 1) (r : Se05.Rule) (k : Nat) (hk : arg g "k" = some (k : Int)) (e1 : arg g "limit" = some (r.limit : Int)) (e2 : arg g "rank" = some (r.rank : Int)) (e3 : arg g "most" = some (r.most : Int)) (e4 : arg g "span" = some (r.span : Int)) (e5 : arg g "first" = some (r.first : Int))
      (e6 : arg g "main" = some (r.main.toNat : Int)) (e7 : arg g "now" = some (v.now : Int)) (no : ∀ i ∈ js, i.number ≠ k) : Act v kk js n g kk (Se05.insert (addJ v.doubt { number := k, rule := r, phase := .waits v.now, heard := v.now, wait := r.first }) js) [0]
  | report (hn : n = 2) (pre post : List Se05.Job) (j : Se05.Job) (pl : Nat) (hj : js = pre ++ j :: post) (hk : arg g "k" = some (j.number : Int)) (hp : arg g "place" = some (pl : Int)) : Act v kk js n g (kk.crumb ⟨j.number, pl⟩) (pre ++ { j with heard := v.now, place := pl, late := false } :: post) [(j.late.toNat : Int)]
  | tick (hn : n = 3) : Act v kk js n g (keptT v kk js) (js.map fun j => (Se05.look v.now j).1) (0 :: ((rowsT v kk js).length : Int) :: (rowsT v kk js).flatten)
  | ask (hn : n = 4) (pre post : List Se05.Job) (j : Se05.Job) (hj : js = pre ++ j :: post) (hk : arg g "k" = some (j.number : Int)) : Act v kk js n g kk (pre ++ { j with phase := .waits v.now, wait := j.rule.first, again := [], late := false } :: post) [0]
  | halt (hn : n = 5) (pre post : List Se05.Job) (j : Se05.Job) (hj : js = pre ++ j :: post) (hk : arg g "k" = some (j.number : Int)) : Act v kk js n g kk (pre ++ { j with phase := .stands, late := false } :: post) [0, 1, 1, (j.number : Int)]
/-- a call's end -/
def Post (a : Ad) (H : Hp) (p : Addr) (L : List Addr) (v : Sv) (kk : Se05.Kept) (js : List Se05.Job) (res : List Int) (Q : VK) : Prop :=
  ∀ H' L' l bp, StAt a H' p { v with bp := bp } kk js L' → H' l = some (.lst (res.map V.int)) → Kp L H H' → New L L' H → (∀ o, H l = some o → l ∈ L) → Q (.ref l) H'
theorem fresh_in {L : List Addr} {H H1 : Hp} {l : Addr} (f : Kp L H H1) (hl : H1 l = none) : ∀ o, H l = some o → l ∈ L := fun o e => by
  by_cases hm : l ∈ L
  · exact hm
  · rw [f l o e hm] at hl; cases hl
def spAct (a : Ad) : Sp := fun vs H Q _ => ∃ (p : Addr) (v : Sv) (kk : Se05.Kept) (js : List Se05.Job) (L : List Addr) (q : Addr) (n : Int) (g : List (Str × Int)) (o : List Int) (Lq : List Addr) (kk' : Se05.Kept) (js' : List Se05.Job) (res : List Int), vs = [.ref p, .ref q] ∧ StAt a H p v kk js L ∧ CallAt a.Call H q n g o Lq ∧ (∀ b ∈ Lq, b ∉ L) ∧ Fine v kk js ∧
  Act v kk js n g kk' js' res ∧ Post a H p L v kk' js' res Q
theorem rowsT_len (v : Sv) (kk : Se05.Kept) {js : List Se05.Job} (h : js.length ≤ 16) : (rowsT v kk js).length ≤ 33 ∧ ∀ r ∈ rowsT v kk js, r.length ≤ 2 := by
  unfold rowsT
  refine ⟨?_, fun r hr => ?_⟩
  · rw [List.length_append]
    have := rowsL_len v.now js
    split <;> simp <;> omega
  · rcases List.mem_append.mp hr with hr | hr
    · unfold rowsL at hr
      obtain ⟨j, _, hr⟩ := List.mem_flatMap.mp hr
      obtain ⟨n, _, rfl⟩ := List.mem_map.mp hr
      simp
    · split at hr
      · rw [List.mem_singleton.mp hr]; simp
      · cases hr
theorem ok_act (T : Txt K mg a) : Fn P w K mg base 7 "act" ["station", "call"] (spAct a) := by
  refine Fn.mk T.f_act sc_act bd_act (fun vs H Q E h => by obtain ⟨p, v, kk, js, L, q, n, g, o, Lq, kk', js', res, rfl, _⟩ := h; rfl) (fun f cdv A outer s H vs Q E hr h => ?_)
  obtain ⟨p, v, kk, js, L, q, n, g, o, Lq, kk', js', res, rfl, hSt, hC, dj, F, hA, k⟩ := h
  have nd := sc_act.nd
  have hr1 : Room 1 _ := hr.mono (by decide)
  have hr2 : Room 2 _ := hr.mono (by decide)
  have hr3 : Room 3 _ := hr.mono (by decide)
  have hr4 : Room 4 _ := hr.mono (by decide)
  refine ⟨_, pss_cons (ps_set (i := 2) nd rfl (Or.inl rfl) (pe_fld (pv 1) rfl))
    (pss_cons (ps_if (pt_cmpR op_eq (pe_fld (pv 1) rfl) (pe_cn T.c_REPORT) (nomark _)) (pss_one (ps_ret (pe_lst (pa_cons (pe_mt (pv 0) (ok_report T) hr2 (pa_cons (pe_dget (hu_of hr) (pv 2) pe_str (fun _ _ => rfl)) (pa_cons (pe_dget (hu_of hr) (pv 2) pe_str (fun _ _ => rfl)) pa_nil))) pa_nil)))) pss_nil)
    (pss_cons (ps_if (pt_cmpR op_eq (pe_fld (pv 1) rfl) (pe_cn T.c_TICK) (nomark _)) (pss_one (ps_ret (pe_op op_cat (pe_lst (pa_cons pe_int pa_nil)) (pe_fn (ok_told T) hr1 (pa_cons (pe_mt0 (pv 0) (ok_tick T) hr) pa_nil))))) pss_nil)
    (pss_cons (ps_if (pt_cmpR op_eq (pe_fld (pv 1) rfl) (pe_cn T.c_HALT) (nomark _)) (pss_one (ps_ret (pe_op op_cat (pe_lst (pa_cons pe_int pa_nil)) (pe_fn (ok_told T) hr1 (pa_cons (pe_mt (pv 0) (ok_halt T) hr4 (pa_cons (pe_dget (hu_of hr) (pv 2) pe_str (fun _ _ => rfl)) pa_nil)) pa_nil))))) pss_nil)
    (pss_cons (ps_if (pt_cmpR op_eq (pe_fld (pv 1) rfl) (pe_cn T.c_TASK) (nomark _)) (pss_one (ps_expr (pe_mt (pv 0) (ok_add_task T) hr3 (pa_cons (pe_dget (hu_of hr) (pv 2) pe_str (fun _ _ => rfl)) (pa_cons (pe_fn (ok_task_from T) hr3 (pa_cons (pv 2) pa_nil)) pa_nil))))) pss_nil)
    (pss_cons (ps_if (pt_cmpR op_eq (pe_fld (pv 1) rfl) (pe_cn T.c_ASK) (nomark _)) (pss_one (ps_expr (pe_mt (pv 0) (ok_ask T) hr3 (pa_cons (pe_dget (hu_of hr) (pv 2) pe_str (fun _ _ => rfl)) pa_nil)))) pss_nil)
    (pss_one (ps_ret (pe_lst (pa_cons pe_int pa_nil))))))))), ?_⟩
  obtain ⟨dxq, gd, ol, eLq, c1, c2, c3⟩ := id hC
  have qL : q ∉ L := dj q (by rw [eLq]; simp)
  obtain ⟨dx, kp, td, Lk, g1, g2, _⟩ := hSt.kept
  have num : ∀ {m : Int} {b : Bool}, (b = true ↔ n = m) → b = decide (V.int n = V.int m) := fun {m b} h => by
    rw [Bool.eq_iff_iff, h, decide_eq_true_eq]
    exact ⟨fun z => by rw [z], V.int.inj⟩
  refine ⟨_, rfl, q, a.Call, dxq, _, _, rfl, c1, T.k_Call, T.a_Call_given, rfl, ?_⟩
  have yes : ∀ {m : Int}, n = m → ¬ decide (V.int n = V.int m) = true → False := fun e z => z (decide_eq_true (by rw [e]))
  have no : ∀ {m m' : Int}, n = m → m ≠ m' → decide (V.int n = V.int m') = true → False := fun e z y => z (e.symm.trans (V.int.inj (of_decide_eq_true y)))
  have fin : ∀ H1 L1, StAt a H1 p v kk' js' L1 → Kp L H H1 → New L L1 H → res = [0] → ∀ D : Ends, D.rt = Q → ∀ σ, tRet (tLst (tCons (tC (.int 0)) tNil)) D σ H1 := by
    intro H1 L1 x1 x2 x3 x4 D hD σ
    refine ⟨(by show 1 ≤ sizeLine; decide), fun l hl => ?_⟩
    rw [hD]
    subst x4
    have s1 := same_upd (o := .lst [.int 0]) hl
    exact k _ L1 l v.bp (x1.same s1) upd_same (fun b o e hb => s1 _ _ (x2 b o e hb)) x3 (fresh_in x2 hl)
  have tell : ∀ (l0 : Addr) (H0 : Hp), Same H H0 → H0 l0 = some (.lst [.int 0]) → l0 ∉ L → ∀ (H1 : Hp) (L1 : List Addr) (l : Addr) (Lw : List Addr) (rows : List (List Int)), StAt a H1 p v kk' js' L1 → TupsAt H1 l rows Lw → Kp L H0 H1 → New L L1 H0 → res = 0 :: (rows.length : Int) :: rows.flatten → rows.length ≤ 33 → (∀ r ∈ rows, r.length ≤ 2) →
      spTold K [.ref l] H1 (fun y H2 => rCat (.ref l0) y H2 Q) E0 := by
    intro l0 H0 s0 h0 nl0 H1 L1 l Lw rows x1 x2 x3 x4 x5 x6 x7
    refine ⟨l, rows, Lw, rfl, x2, (by omega), x7, fun H2 l2 y1 s2 y3 => ⟨l0, l2, _, _, rfl, rfl, s2 _ _ (x3 _ _ h0 nl0), y1, ?_, fun l3 hl3 => ?_⟩⟩
    · have := flatten_le x7
      rw [List.length_map, List.length_cons]
      exact Nat.le_trans (show 1 + (rows.flatten.length + 1) ≤ 100 by omega) (by decide)
    · subst x5
      have s3 := same_upd (o := .lst ([V.int 0] ++ ((rows.length : Int) :: rows.flatten).map V.int)) hl3
      refine k _ L1 l3 v.bp ((x1.same s2).same s3) upd_same (fun b o e hb => s3 _ _ (s2 _ _ (x3 b o (s0 _ _ e) hb))) (fun b hb => ?_) (fresh_in (fun b o e hb => s2 _ _ (x3 b o (s0 _ _ e) hb)) hl3)
      rcases x4 b hb with z | z
      · exact .inl z
      · exact .inr (s0.free z)
  cases hA with
  | report hn pre post j pl hj hk hp =>
    subst hj
    refine ⟨_, rfl, q, a.Call, dxq, _, _, rfl, c1, T.k_Call, T.a_Call_number, rfl, rfl, _, rfl, ite2 (fun e => ?_) (fun e => (yes hn e).elim)⟩
    refine ⟨_, rfl, p, dx, _, rfl, g1, rfl, _, rfl, gd, _, rfl, dget_gk c2 hk, _, rfl, gd, _, rfl, dget_gk c2 hp, p, v, kk, pre, post, j, L, pl, rfl, hSt, F.so, F.cr, fun H1 L1 x1 x2 x3 => ?_⟩
    refine ⟨(by show 1 ≤ sizeLine; decide), fun l hl => ?_⟩
    have s1 := same_upd (o := .lst [.int (j.late.toNat : Int)]) hl
    exact k _ L1 l v.bp (x1.same s1) upd_same (fun b o e hb => s1 _ _ (x2 b o e hb)) x3 (fresh_in x2 hl)
  | tick hn =>
    refine ⟨_, rfl, q, a.Call, dxq, _, _, rfl, c1, T.k_Call, T.a_Call_number, rfl, rfl, _, rfl, ite2 (fun e => (no hn (by decide) e).elim) (fun e => ?_)⟩
    refine ⟨_, rfl, q, a.Call, dxq, _, _, rfl, c1, T.k_Call, T.a_Call_number, rfl, rfl, _, rfl, ite2 (fun e => ?_) (fun e => (yes hn e).elim)⟩
    refine ⟨(by show 1 ≤ sizeLine; decide), fun l0 hl0 => ?_⟩
    have s0 := same_upd (o := .lst [.int 0]) hl0
    obtain ⟨r1, r2⟩ := rowsT_len v kk F.few
    refine ⟨_, rfl, p, dx, _, rfl, s0 _ _ g1, rfl, p, v, kk, js, L, rfl, hSt.same s0, F.so, F.few, F.job, fun H1 L1 l Lw x1 x2 x3 x4 x5 x6 => ?_⟩
    exact tell l0 _ s0 upd_same (fun hm => hSt.mem l0 hm hl0) H1 L1 l Lw _ x1 x2 x3 x5 rfl r1 r2
  | halt hn pre post j hj hk =>
    subst hj
    refine ⟨_, rfl, q, a.Call, dxq, _, _, rfl, c1, T.k_Call, T.a_Call_number, rfl, rfl, _, rfl, ite2 (fun e => (no hn (by decide) e).elim) (fun e => ?_)⟩
    refine ⟨_, rfl, q, a.Call, dxq, _, _, rfl, c1, T.k_Call, T.a_Call_number, rfl, rfl, _, rfl, ite2 (fun e => (no hn (by decide) e).elim) (fun e => ?_)⟩
    refine ⟨_, rfl, q, a.Call, dxq, _, _, rfl, c1, T.k_Call, T.a_Call_number, rfl, rfl, _, rfl, ite2 (fun e => ?_) (fun e => (yes hn e).elim)⟩
    refine ⟨(by show 1 ≤ sizeLine; decide), fun l0 hl0 => ?_⟩
    have s0 := same_upd (o := .lst [.int 0]) hl0
    refine ⟨_, rfl, p, dx, _, rfl, s0 _ _ g1, rfl, _, rfl, gd, _, rfl, dget_gk (s0 _ _ c2) hk, p, v, kk, pre, post, j, L, rfl, hSt.same s0, F.so, fun H1 L1 l Lw x1 x2 x3 x5 x6 => ?_⟩
    exact tell l0 _ s0 upd_same (fun hm => hSt.mem l0 hm hl0) H1 L1 l Lw _ x1 x2 x3 x5 rfl (by show 1 ≤ 33; decide) (fun r hr => by rw [List.mem_singleton.mp hr]; simp)
  | task hn r kn hk e1 e2 e3 e4 e5 e6 e7 no' =>
    refine ⟨_, rfl, q, a.Call, dxq, _, _, rfl, c1, T.k_Call, T.a_Call_number, rfl, rfl, _, rfl, ite2 (fun e => (no hn (by decide) e).elim) (fun e => ?_)⟩
    refine ⟨_, rfl, q, a.Call, dxq, _, _, rfl, c1, T.k_Call, T.a_Call_number, rfl, rfl, _, rfl, ite2 (fun e => (no hn (by decide) e).elim) (fun e => ?_)⟩
    refine ⟨_, rfl, q, a.Call, dxq, _, _, rfl, c1, T.k_Call, T.a_Call_number, rfl, rfl, _, rfl, ite2 (fun e => (no hn (by decide) e).elim) (fun e => ?_)⟩
    refine ⟨_, rfl, q, a.Call, dxq, _, _, rfl, c1, T.k_Call, T.a_Call_number, rfl, rfl, _, rfl, ite2 (fun e => ?_) (fun e => (yes hn e).elim)⟩
    refine ⟨_, rfl, p, dx, _, rfl, g1, rfl, _, rfl, gd, _, rfl, dget_gk c2 hk, _, rfl, gd, g, r, v.now, rfl, c2, e1, e2, e3, e4, e5, e6, e7, fun H1 t Lt m t1 s1 nt => ?_⟩
    have dT : ∀ b ∈ Lt, b ∉ L := fun b hb hm => hSt.mem b hm (nt b hb)
    refine ⟨p, v, kk, js, L, t, { number := kn, rule := r, phase := .waits v.now, heard := v.now, wait := r.first }, Lt, rfl, hSt.same s1, t1, dT, no', F.few, fun H2 L2 x1 x2 x3 => ?_⟩
    have kp2 : Kp L H H2 := fun b o e hb => x2 b o (s1 _ _ e) fun hm => by
      rcases List.mem_append.mp hm with z | z
      · exact hb z
      · rw [nt b z] at e; cases e
    have c1' : H2 q = _ := kp2 _ _ c1 qL
    refine ⟨_, rfl, q, a.Call, dxq, _, _, rfl, c1', T.k_Call, T.a_Call_number, rfl, rfl, _, rfl, ite2 (fun e => (no hn (by decide) e).elim) (fun e => ?_)⟩
    refine fin H2 L2 x1 kp2 (fun b hb => ?_) rfl _ rfl [some (.ref p), some (.ref q), some (.ref gd)]
    rcases x3 b hb with z | z
    · exact .inl z
    · exact .inr (nt b z)
  | ask hn pre post j hj hk =>
    subst hj
    refine ⟨_, rfl, q, a.Call, dxq, _, _, rfl, c1, T.k_Call, T.a_Call_number, rfl, rfl, _, rfl, ite2 (fun e => (no hn (by decide) e).elim) (fun e => ?_)⟩
    refine ⟨_, rfl, q, a.Call, dxq, _, _, rfl, c1, T.k_Call, T.a_Call_number, rfl, rfl, _, rfl, ite2 (fun e => (no hn (by decide) e).elim) (fun e => ?_)⟩
    refine ⟨_, rfl, q, a.Call, dxq, _, _, rfl, c1, T.k_Call, T.a_Call_number, rfl, rfl, _, rfl, ite2 (fun e => (no hn (by decide) e).elim) (fun e => ?_)⟩
    refine ⟨_, rfl, q, a.Call, dxq, _, _, rfl, c1, T.k_Call, T.a_Call_number, rfl, rfl, _, rfl, ite2 (fun e => (no hn (by decide) e).elim) (fun e => ?_)⟩
    refine ⟨_, rfl, q, a.Call, dxq, _, _, rfl, c1, T.k_Call, T.a_Call_number, rfl, rfl, _, rfl, ite2 (fun e => ?_) (fun e => (yes hn e).elim)⟩
    refine ⟨_, rfl, p, dx, _, rfl, g1, rfl, _, rfl, gd, _, rfl, dget_gk c2 hk, p, v, kk, pre, post, j, L, rfl, hSt, F.so, fun H1 L1 x1 x2 x3 => ?_⟩
    exact fin H1 L1 x1 x2 x3 rfl _ rfl [some (.ref p), some (.ref q), some (.ref gd)]
end
end Tw
end
section
set_option Elab.async false
set_option linter.all false
set_option maxRecDepth 100000
set_option maxHeartbeats 2000000
namespace Tw
open PySem PySem.Spec PyProof.Rows L2
inductive Carry (v : Sv) (kk : Se05.Kept) (js : List Se05.Job) (n : Int) (g : List (Str × Int)) (o : List Int) : Sv → Se05.Kept → List Se05.Job → List Int → Prop
  | begin_ (hn : n = 0) (c now : Nat) (bs : List Nat) (bp : Addr) (h1 : arg g "cause" = some (c : Int)) (h2 : arg g "now" = some (now : Int)) (hc : c ≤ 3) (ho : o = bs.map fun (x : Nat) => (x : Int)) (hb : ∀ x ∈ bs, x < 256) : Carry v kk js n g o (svB bs c now bp) (keptBy (befOf bs) c) [] [((isBlk bs).toNat : Int)]
  | tell (hn : n ≠ 0) (hnow : arg g "now" = none) (F : Fine v kk js) (k : Nat) (hk : ¬ (n = 6 ∨ n = 7 ∨ n = 9) → arg g "k" = some (k : Int) ∧ (jobAt js k).isSome = true) : Carry v kk js n g o v kk js (0 :: (tellOf v kk js n k).map fun (x : Nat) => (x : Int))
  | act (hn : n ≠ 0) (t : Nat) (hnow : arg g "now" = some (t : Int)) (F : Fine { v with now := t } kk js) (kk' : Se05.Kept) (js' : List Se05.Job) (res : List Int) (hA : Act { v with now := t } kk js n g kk' js' res) : Carry v kk js n g o { v with now := t } kk' js' res
theorem tell_len {v : Sv} {kk : Se05.Kept} {js : List Se05.Job} (F : Fine v kk js) (n : Int) (k : Nat) : (tellOf v kk js n k).length ≤ 200000 := by
  unfold tellOf
  split
  · unfold Se05.block Se05.body
    have h1 := starts_len kk.starts
    have h2 := crumbs_len kk.crumbs
    have h3 := F.cr
    have h4 := F.st
    simp only [List.length_append, List.length_replicate, List.length_cons, List.length_nil, h1, h2, le4_len, Se05.CRUMBS]
    omega
  split
  · unfold saidOf
    have h2 := numbers_len v.before.crumbs
    have h3 := F.bc
    have h4 := F.st
    simp only [List.length_append, List.length_cons, List.length_nil, h2]
    omega
  split
  · have := F.few
    simp
    omega
  · split
    · rename_i j hj
      obtain ⟨pre, post, rfl, _⟩ := jobAt_some hj
      have h1 := (F.job j (by simp)).1
      have h2 : (Se05.lately v.now j).length ≤ j.again.length := List.length_filter_le _ _
      rw [shown_eq, List.length_append]
      show 7 + _ ≤ _
      omega
    · simp
theorem map_cast (l : List Nat) : (l.map fun (x : Nat) => (x : Int)).map V.int = nv l := by rw [List.map_map]; rfl
section
variable {P : Program} {w : World} {K : PySem.W.Frag} {mg : Str → Option Value} {base : Heap} {a : Ad}
def spCarry (a : Ad) : Sp := fun vs H Q _ => ∃ (p : Addr) (v : Sv) (kk : Se05.Kept) (js : List Se05.Job) (L : List Addr) (q : Addr) (n : Int) (g : List (Str × Int)) (o : List Int) (Lq : List Addr) (v' : Sv) (kk' : Se05.Kept) (js' : List Se05.Job) (res : List Int), vs = [.ref p, .ref q] ∧ StAt a H p v kk js L ∧ CallAt a.Call H q n g o Lq ∧ (∀ b ∈ Lq, b ∉ L) ∧
  Carry v kk js n g o v' kk' js' res ∧ Post a H p L v' kk' js' res Q
theorem ok_carry_out (T : Txt K mg a) : Fn P w K mg base 8 "carry_out" ["station", "call"] (spCarry a) := by
  refine Fn.mk T.f_carry_out sc_carry_out bd_carry_out (fun vs H Q E h => by obtain ⟨p, v, kk, js, L, q, n, g, o, Lq, v', kk', js', res, rfl, _⟩ := h; rfl) (fun f cdv A outer s H vs Q E hr h => ?_)
  obtain ⟨p, v, kk, js, L, q, n, g, o, Lq, v', kk', js', res, rfl, hSt, hC, dj, hA, k⟩ := h
  have nd := sc_carry_out.nd
  have hr4 : Room 4 _ := hr.mono (by decide)
  refine ⟨_, pss_cons (ps_set (i := 2) nd rfl (Or.inl rfl) (pe_fld (pv 1) rfl))
    (pss_cons (ps_if (pt_cmpR op_eq (pe_fld (pv 1) rfl) (pe_cn T.c_BEGIN) (nomark _)) (pss_one (ps_ret (pe_lst (pa_cons (pe_mt (pv 0) (ok_begin T) hr4 (pa_cons (pe_dget (hu_of hr) (pv 2) pe_str (fun _ _ => rfl)) (pa_cons (pe_dget (hu_of hr) (pv 2) pe_str (fun _ _ => rfl)) (pa_cons (pe_fld (pv 1) rfl) pa_nil)))) pa_nil)))) pss_nil)
    (pss_cons (ps_if (pt_cmp (pc_dnotin (hu_of hr) pe_str (pv 2))) (pss_one (ps_ret (pe_op op_cat (pe_lst (pa_cons pe_int pa_nil)) (pe_fn (ok_tell T) hr4 (pa_cons (pv 0) (pa_cons (pv 1) pa_nil)))))) pss_nil)
    (pss_cons (ps_fld (pv 0) (pe_dget (hu_of hr) (pv 2) pe_str (fun _ _ => rfl)) rfl)
    (pss_one (ps_ret (pe_fn (ok_act T) hr (pa_cons (pv 0) (pa_cons (pv 1) pa_nil)))))))), ?_⟩
  obtain ⟨dxq, gd, ol, eLq, c1, c2, c3⟩ := id hC
  obtain ⟨dx, kp, td, Lk, g1, g2, _⟩ := hSt.kept
  refine ⟨_, rfl, q, a.Call, dxq, _, _, rfl, c1, T.k_Call, T.a_Call_given, rfl, ?_⟩
  refine ⟨_, rfl, q, a.Call, dxq, _, _, rfl, c1, T.k_Call, T.a_Call_number, rfl, rfl, _, rfl, ?_⟩
  have hpL : p ∈ L := by obtain ⟨_, _, _, _, _, _, e, _⟩ := hSt; rw [e]; simp
  cases hA with
  | begin_ hn c now bs bp0 h1 h2 hc ho hb =>
    refine ite2 (fun e => ?_) (fun e => absurd (decide_eq_true (by rw [hn])) e)
    subst ho
    rw [map_cast] at c3
    refine ⟨_, rfl, p, dx, _, rfl, g1, rfl, _, rfl, gd, _, rfl, dget_gk c2 h1, _, rfl, gd, _, rfl, dget_gk c2 h2, _, rfl, q, a.Call, dxq, _, _, rfl, c1, T.k_Call, T.a_Call_octets, rfl, p, v, kk, js, L, c, now, ol, bs, rfl, hSt, hc, c3, hb, fun H1 L1 bp x1 x2 x3 => ?_⟩
    refine ⟨(by show 1 ≤ sizeLine; decide), fun l hl => ?_⟩
    have s1 := same_upd (o := .lst [.int ((isBlk bs).toNat : Int)]) hl
    exact k _ L1 l bp (x1.same s1) upd_same (fun b o e hb => s1 _ _ (x2 b o e hb)) x3 (fresh_in x2 hl)
  | tell hn hnow F kn hk =>
    refine ite2 (fun e => absurd (V.int.inj (of_decide_eq_true e)) hn) (fun e => ?_)
    refine ⟨_, rfl, gd, _, rfl, DGet.k (k := Sum.inr "now") c2, _, rfl, ?_⟩
    have e4 : List.lookup (Str.ofString "now") g = none := hnow
    rw [valV_gk, e4]
    refine iteT ⟨(by show 1 ≤ sizeLine; decide), fun l0 hl0 => ?_⟩
    have s0 := same_upd (o := .lst [.int 0]) hl0
    refine ⟨_, rfl, _, rfl, p, v, kk, js, L, q, n, g, o, Lq, kn, rfl, hSt.same s0, hC.same s0, F, hk, fun H1 l1 y1 s1 y3 => ⟨l0, l1, _, _, rfl, rfl, s1 _ _ upd_same, y1, ?_, fun l2 hl2 => ?_⟩⟩
    · rw [List.length_map]
      exact Nat.le_trans (Nat.add_le_add_left (tell_len F n kn) 1) (by decide)
    · have s2 := same_upd (o := .lst ([V.int 0] ++ nv (tellOf v kk js n kn))) hl2
      refine k _ L l2 v.bp (((hSt.same s0).same s1).same s2) (lst_eq ?_) (same_kp ((s0.trans s1).trans s2) _) (fun b hb => .inl hb) (fresh_in (same_kp (s0.trans s1) _) hl2)
      rw [List.map_cons, map_cast]
      rfl
  | act hn t hnow F kk' js' res hA =>
    refine ite2 (fun e => absurd (V.int.inj (of_decide_eq_true e)) hn) (fun e => ?_)
    refine ⟨_, rfl, gd, _, rfl, DGet.k (k := Sum.inr "now") c2, _, rfl, ?_⟩
    have e4 : List.lookup (Str.ofString "now") g = some (t : Int) := hnow
    rw [valV_gk, e4]
    refine iteF ?_
    refine ⟨_, rfl, gd, _, rfl, dget_gk c2 hnow, _, rfl, p, a.Station, dx, _, rfl, g1, T.k_Station, T.a_Station_now, (by show 9 < 1000; decide), ?_⟩
    have st1 : StAt a (upd H p (.ins a.Station dx (stf { v with now := t } kp td))) p { v with now := t } kk js L := hSt.put g1 rfl rfl
    have f1 : Kp L H (upd H p (.ins a.Station dx (stf { v with now := t } kp td))) := (Kp.refl _ _).upd (.inl hpL)
    refine ⟨_, rfl, _, rfl, p, { v with now := t }, kk, js, L, q, n, g, o, Lq, kk', js', res, rfl, st1, hC.kp f1 dj, dj, F, hA, fun H1 L1 l bp x1 x2 x3 x4 x5 => ?_⟩
    refine k H1 L1 l bp x1 x2 (fun b o e hb => x3 b o (f1 b o e hb) hb) (fun b hb => ?_) (fun o e => by
      by_cases hm : l ∈ L
      · exact hm
      · exact x5 o (f1 l o e hm))
    rcases x4 b hb with z | z
    · exact .inl z
    · by_cases hbp : b = p
      · exact .inl (hbp ▸ hpL)
      · rw [upd_ne hbp] at z
        exact .inr z
/-! ### one call answered -/
inductive Answ (v : Sv) (kk : Se05.Kept) (js : List Se05.Job) (n : Int) (g : List (Str × Int)) (o : List Int) : Sv → Se05.Kept → List Se05.Job → List Int → Prop
  | no (r : Int) (hr : refuse v.begun v.now js n g = r) (h : r < 0) : Answ v kk js n g o v kk js [r]
  | yes (h : refuse v.begun v.now js n g = 0) (v' : Sv) (kk' : Se05.Kept) (js' : List Se05.Job) (res : List Int) (hC : Carry v kk js n g o v' kk' js' res) : Answ v kk js n g o v' kk' js' res
def spAnswer (a : Ad) : Sp := fun vs H Q _ => ∃ (p : Addr) (v : Sv) (kk : Se05.Kept) (js : List Se05.Job) (L : List Addr) (q : Addr) (n : Int) (g : List (Str × Int)) (o : List Int) (Lq : List Addr) (v' : Sv) (kk' : Se05.Kept) (js' : List Se05.Job) (res : List Int), vs = [.ref p, .ref q] ∧ StAt a H p v kk js L ∧ CallAt a.Call H q n g o Lq ∧ (∀ b ∈ Lq, b ∉ L) ∧ Sorted js ∧
  (∀ p ∈ g, (RM.lookup p.1).isSome = true) ∧ (n = 1 ∨ n = 2 ∨ n = 4 ∨ n = 5 ∨ n = 8 → (arg g "k").isSome = true) ∧ Answ v kk js n g o v' kk' js' res ∧ Post a H p L v' kk' js' res Q
theorem ok_answer_to (T : Txt K mg a) (B : Tbl P w K mg) : Fn P w K mg base 9 "answer_to" ["station", "call"] (spAnswer a) := by
  refine Fn.mk T.f_answer_to sc_answer_to bd_answer_to (fun vs H Q E h => by obtain ⟨p, v, kk, js, L, q, n, g, o, Lq, v', kk', js', res, rfl, _⟩ := h; rfl) (fun f cdv A outer s H vs Q E hr h => ?_)
  obtain ⟨p, v, kk, js, L, q, n, g, o, Lq, v', kk', js', res, rfl, hSt, hC, dj, hso, hg, hk, hA, k⟩ := h
  have nd := sc_answer_to.nd
  have hr3 : Room 3 _ := hr.mono (by decide)
  refine ⟨_, pss_cons (ps_set (i := 2) nd rfl (Or.inl rfl) (pe_fn (ok_refusal_of T B) hr3 (pa_cons (pv 0) (pa_cons (pv 1) pa_nil))))
    (pss_cons (ps_if (pt_cmpR op_lt (pv 2) pe_int (nomark _)) (pss_one (ps_ret (pe_lst (pa_cons (pv 2) pa_nil)))) pss_nil)
    (pss_one (ps_ret (pe_fn (ok_carry_out T) hr (pa_cons (pv 0) (pa_cons (pv 1) pa_nil)))))), ?_⟩
  refine ⟨_, rfl, _, rfl, p, v, kk, js, L, q, n, g, o, Lq, rfl, hSt, hC, hso, hg, hk, fun H1 s1 => ?_⟩
  refine ⟨_, rfl, _, _, rfl, rfl, _, rfl, ?_⟩
  cases hA with
  | no r hr h =>
    rw [hr]
    refine ite2 (fun e => ?_) (fun e => absurd (decide_eq_true h) e)
    refine ⟨_, rfl, (by show 1 ≤ sizeLine; decide), fun l hl => ?_⟩
    have s2 := same_upd (o := .lst [.int r]) hl
    exact k _ L l v.bp ((hSt.same s1).same s2) upd_same (same_kp (s1.trans s2) _) (fun b hb => .inl hb) (fresh_in (same_kp s1 _) hl)
  | yes h v' kk' js' res hCa =>
    rw [h]
    refine ite2 (fun e => absurd (of_decide_eq_true e) (by decide)) (fun e => ?_)
    refine ⟨_, rfl, _, rfl, p, v, kk, js, L, q, n, g, o, Lq, v', kk', js', res, rfl, hSt.same s1, hC.same s1, dj, hCa, fun H2 L2 l bp x1 x2 x3 x4 x5 => ?_⟩
    refine k H2 L2 l bp x1 x2 (fun b o e hb => x3 b o (s1 _ _ e) hb) (fun b hb => ?_) (fun o e => x5 o (s1 _ _ e))
    rcases x4 b hb with z | z
    · exact .inl z
    · exact .inr (s1.free z)
end
end Tw
end
section
set_option Elab.async false
set_option linter.all false
set_option maxRecDepth 100000
set_option maxHeartbeats 2000000
namespace Tw
open PySem PySem.Spec PyProof.Rows L2
/-! ### what holds of the specification's station -/
structure JobOk (j : Se05.Job) : Prop where
  num : j.number ≤ 15
  again : j.again.length ≤ 16
  rank : j.rule.rank ≤ 2
  most : j.rule.most ≤ 16
structure Good (x : Se05.Station) : Prop where
  so : Sorted x.tasks
  job : ∀ j ∈ x.tasks, JobOk j
  st : x.kept.starts.length = 4
  cr : x.kept.crumbs.length ≤ 8
  pl : ∀ c ∈ x.kept.crumbs, c.place < 65536
  bc : x.before.crumbs.length ≤ 8
  calm : x.settled = true → x.kept.quick = 0
theorem rising_len : ∀ (l : List Nat) (m n : Nat), l.Pairwise (· < ·) → (∀ x ∈ l, m ≤ x ∧ x < m + n) → l.length ≤ n
  | [], _, _, _, _ => Nat.zero_le _
  | x :: r, m, n, h, hb => by
    obtain ⟨h1, h2⟩ := List.pairwise_cons.mp h
    have hx := hb x (by simp)
    have := rising_len r (x + 1) (m + n - (x + 1)) h2 fun y hy => ⟨h1 y hy, by have := hb y (by simp [hy]); omega⟩
    rw [List.length_cons]
    omega
theorem Good.few {x : Se05.Station} (G : Good x) : x.tasks.length ≤ 16 := by
  have so : (x.tasks.map fun (j : Se05.Job) => j.number).Pairwise (· < ·) := G.so
  have := rising_len _ 0 16 so fun y hy => by
    obtain ⟨j, hj, rfl⟩ := List.mem_map.mp hy
    have := (G.job j hj).num
    omega
  rw [List.length_map] at this
  exact this
def svOf (x : Se05.Station) (bp : Addr) : Sv := ⟨true, x.begun, x.now, x.cause, x.right, x.safe, x.before, bp⟩
theorem Good.fine {x : Se05.Station} (G : Good x) (v : Sv) (hv : v.before = x.before) : Fine v x.kept x.tasks :=
  ⟨G.so, G.few, fun j hj => ⟨Nat.le_trans (G.job j hj).again (by decide), (G.job j hj).rank⟩, G.st, G.cr, G.pl, by rw [hv]; exact G.bc⟩
theorem Sorted.swap {pre post : List Se05.Job} {j j' : Se05.Job} (h : Sorted (pre ++ j :: post)) (e : j'.number = j.number) : Sorted (pre ++ j' :: post) := by
  unfold Sorted at h ⊢
  rw [List.map_append, List.map_cons] at h ⊢
  rw [e]
  exact h
theorem with_eq {x : Se05.Station} {pre post : List Se05.Job} {j j' : Se05.Job} (hx : x.tasks = pre ++ j :: post) (h : Sorted x.tasks) (e : j'.number = j.number) : (x.with_ j').tasks = pre ++ j' :: post := by
  unfold Se05.Station.with_
  dsimp only
  rw [hx] at h ⊢
  unfold Sorted at h
  rw [List.map_append, List.map_cons] at h
  obtain ⟨h1, h2, h3⟩ := List.pairwise_append.mp h
  obtain ⟨h4, h5⟩ := List.pairwise_cons.mp h2
  rw [List.map_append, List.map_cons, if_pos e.symm]
  congr 1
  · conv => rhs; rw [← List.map_id pre]
    refine List.map_congr_left fun u hu => if_neg fun q => ?_
    have := h3 u.number (List.mem_map.mpr ⟨u, hu, rfl⟩) j.number (by simp)
    omega
  · congr 1
    conv => rhs; rw [← List.map_id post]
    refine List.map_congr_left fun u hu => if_neg fun q => ?_
    have := h4 u.number (List.mem_map.mpr ⟨u, hu, rfl⟩)
    omega
theorem Good.swap {x : Se05.Station} (G : Good x) {pre post : List Se05.Job} {j j' : Se05.Job} (hx : x.tasks = pre ++ j :: post) (e : j'.number = j.number) (hj : JobOk j') (kk : Se05.Kept) (h1 : kk.starts.length = 4) (h2 : kk.crumbs.length ≤ 8) (h3 : ∀ c ∈ kk.crumbs, c.place < 65536) (h4 : x.settled = true → kk.quick = 0) (t : Nat) (x' : Se05.Station) (ex : x'.tasks = pre ++ j' :: post) (ek : x'.kept = kk) (eb : x'.before = x.before) (es : x'.settled = x.settled) : Good x' := by
  have so := G.so
  rw [hx] at so
  refine ⟨by rw [ex]; exact so.swap e, fun i hi => ?_, by rw [ek]; exact h1, by rw [ek]; exact h2, by rw [ek]; exact h3, by rw [eb]; exact G.bc, by rw [ek, es]; exact h4⟩
  rw [ex] at hi
  rcases List.mem_append.mp hi with hi | hi
  · exact G.job i (by rw [hx]; simp [hi])
  rcases List.mem_cons.mp hi with rfl | hi
  · exact hj
  · exact G.job i (by rw [hx]; simp [hi])
theorem look_ok (now : Nat) {j : Se05.Job} (h : JobOk j) : JobOk (Se05.look now j).1 := by
  have hl : (Se05.lately now j).length ≤ 16 := Nat.le_trans (List.length_filter_le _ _) h.again
  have hm := h.most
  unfold Se05.look
  split
  · split
    · exact ⟨h.num, h.again, h.rank, h.most⟩
    · split
      · dsimp only
        split
        · exact ⟨h.num, hl, h.rank, h.most⟩
        · refine ⟨h.num, ?_, h.rank, h.most⟩
          rename_i hlt
          show (Se05.lately now j ++ [now]).length ≤ 16
          rw [List.length_append]
          show _ + 1 ≤ 16
          omega
      · exact ⟨h.num, h.again, h.rank, h.most⟩
  · split
    · split
      · exact ⟨h.num, h.again, h.rank, h.most⟩
      · exact h
    · dsimp only
      split
      · exact ⟨h.num, h.again, h.rank, h.most⟩
      · exact h
    · exact h
theorem Good.pass {x : Se05.Station} (G : Good x) (t : Nat) : Good (Se05.pass x t).1 := by
  have e := pass_eq x t (svOf { x with now := t } 0) rfl rfl G.calm
  have et := pass_tasks x t
  refine ⟨?_, fun j hj => ?_, G.st, G.cr, G.pl, G.bc, e.2.2⟩
  · rw [et]
    have := G.so.mixed (now := t) x.tasks.length
    rw [List.take_length, List.drop_length, List.append_nil] at this
    exact this
  · rw [et] at hj
    obtain ⟨i, hi, rfl⟩ := List.mem_map.mp hj
    exact look_ok t (G.job i hi)
theorem insert_sorted {j : Se05.Job} : ∀ {js : List Se05.Job}, Sorted js → (∀ i ∈ js, i.number ≠ j.number) → Sorted (Se05.insert j js)
  | [], _, _ => by unfold Se05.insert Sorted; simp
  | u :: l, h, hn => by
    unfold Sorted at h
    rw [List.map_cons] at h
    obtain ⟨h1, h2⟩ := List.pairwise_cons.mp h
    unfold Se05.insert
    by_cases hlt : j.number < u.number
    · rw [if_pos hlt]
      unfold Sorted
      rw [List.map_cons, List.map_cons]
      refine List.pairwise_cons.mpr ⟨fun y hy => ?_, h⟩
      rcases List.mem_cons.mp hy with rfl | hy
      · exact hlt
      · exact Nat.lt_trans hlt (h1 y hy)
    · rw [if_neg hlt]
      have ih := insert_sorted (j := j) (js := l) h2 fun i hi => hn i (by simp [hi])
      unfold Sorted at ih ⊢
      rw [List.map_cons]
      refine List.pairwise_cons.mpr ⟨fun y hy => ?_, ih⟩
      obtain ⟨pre, post, e1, e2⟩ := insert_split j l
      rw [e2] at hy
      obtain ⟨i, hi, rfl⟩ := List.mem_map.mp hy
      have hu := hn u (by simp)
      rcases List.mem_append.mp hi with hi | hi
      · exact h1 _ (List.mem_map.mpr ⟨i, by rw [e1]; simp [hi], rfl⟩)
      rcases List.mem_cons.mp hi with rfl | hi
      · omega
      · exact h1 _ (List.mem_map.mpr ⟨i, by rw [e1]; simp [hi], rfl⟩)
theorem insert_mem {j i : Se05.Job} {js : List Se05.Job} (h : i ∈ Se05.insert j js) : i = j ∨ i ∈ js := by
  obtain ⟨pre, post, e1, e2⟩ := insert_split j js
  rw [e2] at h
  rcases List.mem_append.mp h with h | h
  · exact .inr (by rw [e1]; simp [h])
  rcases List.mem_cons.mp h with h | h
  · exact .inl h
  · exact .inr (by rw [e1]; simp [h])
theorem crumb_ok {k : Se05.Kept} {c : Se05.Crumb} (h1 : k.starts.length = 4) (h2 : k.crumbs.length ≤ 8) (h3 : ∀ c ∈ k.crumbs, c.place < 65536) (hc : c.place < 65536) : (k.crumb c).starts.length = 4 ∧ (k.crumb c).crumbs.length ≤ 8 ∧ (∀ d ∈ (k.crumb c).crumbs, d.place < 65536) ∧ (k.crumb c).quick = k.quick := by
  unfold Se05.Kept.crumb
  split
  · exact ⟨h1, h2, h3, rfl⟩
  · refine ⟨h1, ?_, fun d hd => ?_, rfl⟩
    · show ((k.crumbs ++ [c]).drop _).length ≤ 8
      rw [List.length_drop, List.length_append]
      show k.crumbs.length + 1 - (k.crumbs.length + 1 - 8) ≤ 8
      omega
    · have hd := List.mem_of_mem_drop hd
      rcases List.mem_append.mp hd with hd | hd
      · exact h3 d hd
      · rw [List.mem_singleton.mp hd]; exact hc
theorem bef_crumbs (bs : List Nat) : (befOf bs).crumbs.length ≤ 8 := by
  unfold befOf Se05.readBlock
  dsimp only
  split
  · rename_i h
    exact h.2.2.2.1
  · exact Nat.zero_le _
theorem begins_good (c now : Nat) (bs : List Nat) : Good (Se05.begins c now bs) := by
  refine ⟨?_, fun j hj => (by cases hj), ?_, Nat.zero_le _, fun c hc => (by cases hc), bef_crumbs bs, fun h => (by cases h)⟩
  · show ([] : List Nat).Pairwise (· < ·)
    exact .nil
  · show (Se05.counted (befOf bs).starts c).length = 4
    unfold Se05.counted
    rw [List.length_mapIdx]
    exact bef_four bs
end Tw
end
section
set_option Elab.async false
set_option linter.all false
set_option maxRecDepth 100000
set_option maxHeartbeats 2000000
namespace Tw
open PySem PySem.Spec PyProof.Rows L2
/-- the program's station and the specification's -/
def RelV (s : Se05.State) (v : Sv) (kk : Se05.Kept) (js : List Se05.Job) : Prop := match s with
  | none => v.begun = false ∧ js = []
  | some x => Good x ∧ v = svOf x v.bp ∧ kk = x.kept ∧ js = x.tasks
/-- a call is answered as the specification says -/
def Does (s : Se05.State) (v : Sv) (kk : Se05.Kept) (js : List Se05.Job) (c : PC) (ns : List Str) : Prop :=
  ∃ v' kk' js' res s', Answ v kk js c.num (c.given ns) c.row v' kk' js' res ∧ Se05Neutral.step s c.neutral = (s', res) ∧ RelV s' v' kk' js' ∧ res.length ≤ 100
theorem does_no {s : Se05.State} {v : Sv} {kk : Se05.Kept} {js : List Se05.Job} {c : PC} {ns : List Str} (r : Int) (h : r < 0) (hr : refuse v.begun v.now js c.num (c.given ns) = r) (hs : Se05Neutral.step s c.neutral = (s, [r])) (R : RelV s v kk js) : Does s v kk js c ns :=
  ⟨v, kk, js, [r], s, .no r hr h, hs, R, by show 1 ≤ 100; decide⟩
theorem nstep {c : Se05Neutral.Call} {cx : Se05.Call} (hc : Se05Neutral.callOf c = some cx) {s s' : Se05.State} {z : Int} (h : Se05.step s cx = (s', Se05.only z)) (hz : Se05Neutral.wanting cx = false ∨ z < 0) : Se05Neutral.step s c = (s', [z]) := by
  unfold Se05Neutral.step
  rw [hc]
  dsimp only
  rw [h]
  show (s', z :: ([] ++ if (Se05Neutral.wanting cx && decide (0 ≤ z)) = true then _ else [])) = _
  rw [if_neg, List.append_nil]
  intro q
  obtain ⟨q1, q2⟩ := Bool.and_eq_true_iff.mp q
  rcases hz with hz | hz
  · rw [hz] at q1; cases q1
  · have := of_decide_eq_true q2; omega
theorem nstepO {c : Se05Neutral.Call} {cx : Se05.Call} (hc : Se05Neutral.callOf c = some cx) {s s' : Se05.State} {o : List Nat} (h : Se05.step s cx = (s', { value := 0, out := o })) (hz : Se05Neutral.wanting cx = false) : Se05Neutral.step s c = (s', 0 :: o.map fun (n : Nat) => (n : Int)) := by
  unfold Se05Neutral.step
  rw [hc]
  dsimp only
  rw [h, hz]
  show (s', 0 :: ((o.map fun (n : Nat) => (n : Int)) ++ if (false && decide ((0 : Int) ≤ 0)) = true then _ else [])) = _
  rw [if_neg (by decide), List.append_nil]
theorem nstepW {c : Se05Neutral.Call} {cx : Se05.Call} (hc : Se05Neutral.callOf c = some cx) {s s' : Se05.State} {ws : List Se05.Want} (h : Se05.step s cx = (s', { value := 0, wants := ws })) (hz : Se05Neutral.wanting cx = true) : Se05Neutral.step s c = (s', 0 :: (ws.length : Int) :: ws.flatMap Se05Neutral.wantNumbers) := by
  unfold Se05Neutral.step
  rw [hc]
  dsimp only
  rw [h, hz]
  show (s', 0 :: ([] ++ if (true && decide ((0 : Int) ≤ 0)) = true then _ else [])) = _
  rw [if_pos (by decide)]
  rfl
/-! ### refusals -/
section
variable {now : Nat} {js : List Se05.Job} {n : Int} {g : List (Str × Int)}
theorem refuse_on (hn : n ≠ 0) : refuse true now js n g = if (g.all fun p => inR p.1 p.2) = false then -1 else if lateB now g = true then -4 else if (n = 2 ∨ n = 4 ∨ n = 5 ∨ n = 8) ∧ jobAt js (kOf g) = none then -2 else if byPromise js n (kOf g) = true then -4 else 0 := by
  unfold refuse
  rw [if_neg hn, if_neg (by simp)]
theorem refuse_1 (hn : n ≠ 0) (h : (g.all fun p => inR p.1 p.2) = false) : refuse true now js n g = -1 := by
  rw [refuse_on hn, if_pos h]
theorem refuse_2 (hn : n ≠ 0) (h : (g.all fun p => inR p.1 p.2) = true) (h2 : lateB now g = true) : refuse true now js n g = -4 := by
  rw [refuse_on hn, if_neg (by rw [h]; simp), if_pos h2]
theorem refuse_3 (hn : n ≠ 0) (h : (g.all fun p => inR p.1 p.2) = true) (h2 : lateB now g = false) (h3 : (n = 2 ∨ n = 4 ∨ n = 5 ∨ n = 8) ∧ jobAt js (kOf g) = none) : refuse true now js n g = -2 := by
  rw [refuse_on hn, if_neg (by rw [h]; simp), if_neg (by rw [h2]; simp), if_pos h3]
theorem refuse_4 (hn : n ≠ 0) (h : (g.all fun p => inR p.1 p.2) = true) (h2 : lateB now g = false) (h3 : ¬ ((n = 2 ∨ n = 4 ∨ n = 5 ∨ n = 8) ∧ jobAt js (kOf g) = none)) : refuse true now js n g = if byPromise js n (kOf g) = true then -4 else 0 := by
  rw [refuse_on hn, if_neg (by rw [h]; simp), if_neg (by rw [h2]; simp), if_neg h3]
end
theorem isTime_eq (t : Int) : Se05.isTime t = (decide (0 ≤ t) && decide (t ≤ 4611686018427387904)) := by
  unfold Se05.isTime Se05.within Se05.TIME
  have : (2 : Int) ^ 62 = 4611686018427387904 := by decide
  rw [this]
theorem isTime_is {t : Int} (h : Se05.isTime t = true) : 0 ≤ t ∧ t = ((t.toNat : Nat) : Int) := by
  rw [isTime_eq] at h
  have := of_decide_eq_true (Bool.and_eq_true_iff.mp h).1
  exact ⟨this, (Int.toNat_of_nonneg this).symm⟩
theorem within_is {z a b : Int} (h : Se05.within z a b = true) : a ≤ z ∧ z ≤ b := by
  unfold Se05.within at h
  obtain ⟨h1, h2⟩ := Bool.and_eq_true_iff.mp h
  exact ⟨of_decide_eq_true h1, of_decide_eq_true h2⟩
theorem isTask_is {z : Int} (h : Se05.isTask z = true) : z = ((z.toNat : Nat) : Int) ∧ z.toNat ≤ 15 := by
  have := within_is h
  exact ⟨(Int.toNat_of_nonneg this.1).symm, by omega⟩
theorem inR_k (z : Int) : inR "k" z = Se05.isTask z := rfl
theorem inR_now (z : Int) : inR "now" z = Se05.isTime z := (isTime_eq z).symm
theorem inR_cause (z : Int) : inR "cause" z = Se05.within z 0 3 := rfl
theorem inR_place (z : Int) : inR "place" z = Se05.within z 0 65535 := rfl
theorem late_eq {now : Nat} {t : Int} (h : 0 ≤ t) : decide (t < (now : Int)) = decide (t.toNat < now) := by
  rw [decide_eq_decide]
  omega
theorem known_no {s : Se05.Station} {k now : Int} {f : Se05.Station → Se05.Job → Se05.Station × Se05.Ans} (h : (Se05.isTask k && Se05.isTime now) = false) : Se05.known s k now f = (s, Se05.only (-1)) := by
  unfold Se05.known
  rw [if_pos h]
theorem known_early {s : Se05.Station} {k now : Int} {f : Se05.Station → Se05.Job → Se05.Station × Se05.Ans} (h : (Se05.isTask k && Se05.isTime now) = true) (h2 : now.toNat < s.now) : Se05.known s k now f = (s, Se05.only (-4)) := by
  unfold Se05.known
  rw [if_neg (by rw [h]; simp), if_pos h2]
theorem known_none {s : Se05.Station} {k now : Int} {f : Se05.Station → Se05.Job → Se05.Station × Se05.Ans} (h : (Se05.isTask k && Se05.isTime now) = true) (h2 : ¬ now.toNat < s.now) (h3 : jobAt s.tasks k.toNat = none) : Se05.known s k now f = (s, Se05.only (-2)) := by
  unfold Se05.known
  rw [if_neg (by rw [h]; simp), if_neg h2]
  have e : Se05.Station.task { s with now := now.toNat } k.toNat = none := h3
  dsimp only
  rw [e]
theorem known_some {s : Se05.Station} {k now : Int} {f : Se05.Station → Se05.Job → Se05.Station × Se05.Ans} {j : Se05.Job} (h : (Se05.isTask k && Se05.isTime now) = true) (h2 : ¬ now.toNat < s.now) (h3 : jobAt s.tasks k.toNat = some j) : Se05.known s k now f = f { s with now := now.toNat } j := by
  unfold Se05.known
  rw [if_neg (by rw [h]; simp), if_neg h2]
  have e : Se05.Station.task { s with now := now.toNat } k.toNat = some j := h3
  dsimp only
  rw [e]
theorem step_on {x : Se05.Station} {c : Se05.Call} {y : Se05.Station × Se05.Ans} (h : ∀ a b d, c ≠ .begin_ a b d) (e : Se05.stepOn x c = y) : Se05.step (some x) c = (some y.1, y.2) := by
  rw [← e]
  cases c <;> first | rfl | exact absurd rfl (h _ _ _)
end Tw
end
section
set_option Elab.async false
set_option linter.all false
set_option maxRecDepth 100000
set_option maxHeartbeats 2000000
namespace Tw
open PySem PySem.Spec PyProof.Rows L2
theorem cast_len (o : List Nat) : (o.map fun (n : Nat) => (n : Int)).length = o.length := List.length_map ..
/-- a station that has not begun -/
theorem does_none {v : Sv} {kk : Se05.Kept} {js : List Se05.Job} (R : RelV none v kk js) (c : PC) (ns : List Str) (n0 : c.num ≠ 0) (cx : Se05.Call) (hc : Se05Neutral.callOf c.neutral = some cx) (hx : ∀ a b d, cx ≠ .begin_ a b d) : Does none v kk js c ns := by
  refine does_no (-4) (by decide) ?_ (nstep hc ?_ (.inr (by decide))) R
  · unfold refuse
    rw [if_neg n0, if_pos R.1]
  · cases cx <;> first | rfl | exact absurd rfl (hx _ _ _)
theorem does_begin {s : Se05.State} {v : Sv} {kk : Se05.Kept} {js : List Se05.Job} (R : RelV s v kk js) (u t : Int) (row : List Int) (hb : NeutralIO.bytes row = true) : Does s v kk js ⟨0, [u, t], row⟩ ["cause", "now"] := by
  have hall : ((PC.given ⟨0, [u, t], row⟩ ["cause", "now"]).all fun p => inR p.1 p.2) = (Se05.within u 0 3 && Se05.isTime t) := by
    show (inR "cause" u && (inR "now" t && true)) = _
    rw [inR_cause, inR_now, Bool.and_true]
  have hcall : Se05Neutral.callOf (PC.neutral ⟨0, [u, t], row⟩) = some (.begin_ u t (row.map Int.toNat)) := rfl
  by_cases h : (Se05.within u 0 3 && Se05.isTime t) = true
  · obtain ⟨h1, h2⟩ := Bool.and_eq_true_iff.mp h
    have hu := within_is h1
    have ht := isTime_is h2
    generalize hbs : row.map Int.toNat = bs at *
    have hrow : row = bs.map fun (x : Nat) => (x : Int) := by
      rw [← hbs, List.map_map]
      conv => lhs; rw [← List.map_id row]
      refine List.map_congr_left fun z hz => ?_
      have := List.all_eq_true.mp hb z hz
      have := of_decide_eq_true (Bool.and_eq_true_iff.mp this).1
      show z = ((z.toNat : Nat) : Int)
      omega
    have hlt : ∀ x ∈ bs, x < 256 := fun x hx => by
      rw [← hbs] at hx
      obtain ⟨z, hz, rfl⟩ := List.mem_map.mp hx
      have := List.all_eq_true.mp hb z hz
      have := of_decide_eq_true (Bool.and_eq_true_iff.mp this).2
      omega
    have hr := read_of_isBlk hlt
    have hsome : (Se05.readBlock bs).isSome = isBlk bs := by
      rw [hr]
      cases isBlk bs <;> rfl
    refine ⟨_, _, _, _, some (Se05.begins u.toNat t.toNat bs), .yes ?_ _ _ _ _ (.begin_ rfl u.toNat t.toNat bs v.bp ?_ ?_ (by omega) hrow hlt), nstep hcall ?_ (.inl rfl), ⟨begins_good _ _ _, ?_, rfl, rfl⟩, (by show 1 ≤ 100; decide)⟩
    · show (if (0 : Int) = 0 then _ else _) = _
      rw [if_pos rfl, hall, if_pos h]
    · show some u = _
      rw [Int.toNat_of_nonneg hu.1]
    · show some t = _
      rw [← ht.2]
    · show (if (Se05.within u 0 3 && Se05.isTime t) = false then _ else _) = _
      rw [if_neg (by rw [h]; simp), hsome]
      cases isBlk bs <;> rfl
    · unfold svB svOf
      have e1 : (Se05.begins u.toNat t.toNat bs).right = isBlk bs := hsome
      have e2 : (Se05.begins u.toNat t.toNat bs).safe = decide ((3 : Int) ≤ ((keptBy (befOf bs) u.toNat).quick : Int)) := by
        show decide (3 ≤ (keptBy (befOf bs) u.toNat).quick) = _
        rw [decide_eq_decide]
        omega
      rw [e1, e2]
      rfl
  · have h : (Se05.within u 0 3 && Se05.isTime t) = false := by
      cases q : (Se05.within u 0 3 && Se05.isTime t) with
      | false => rfl
      | true => exact absurd q h
    refine does_no (-1) (by decide) ?_ (nstep hcall ?_ (.inl rfl)) R
    · show (if (0 : Int) = 0 then _ else _) = _
      rw [if_pos rfl, hall, if_neg (by rw [h]; simp)]
    · show (if (Se05.within u 0 3 && Se05.isTime t) = false then _ else _) = _
      rw [if_pos h]
section
variable {x : Se05.Station} (G : Good x) (bp : Addr)
theorem rel_self : RelV (some x) (svOf x bp) x.kept x.tasks → True := fun _ => trivial
theorem tell_res (n : Int) (k : Nat) : (0 :: (tellOf (svOf x bp) x.kept x.tasks n k).map fun (y : Nat) => (y : Int)) = 0 :: (tellOf (svOf x bp) x.kept x.tasks n k).map fun (y : Nat) => (y : Int) := rfl
include G
theorem relS : RelV (some x) (svOf x bp) x.kept x.tasks := ⟨G, rfl, rfl, rfl⟩
theorem does_keep : Does (some x) (svOf x bp) x.kept x.tasks ⟨6, [], []⟩ [] := by
  refine ⟨_, _, _, _, some x, .yes ?_ _ _ _ _ (.tell (by decide) rfl (G.fine _ rfl) 0 (fun h => absurd (.inl rfl) h)), nstepO (cx := .keep) rfl ?_ rfl, relS G bp, ?_⟩
  · show refuse true x.now x.tasks 6 [] = 0
    rw [refuse_4 (by decide) rfl rfl (by rintro ⟨h, _⟩; revert h; decide)]
    rfl
  · rfl
  · rw [List.length_cons, cast_len]
    show (Se05.block x.kept).length + 1 ≤ 100
    unfold Se05.block Se05.body
    have h1 := starts_len x.kept.starts
    have h2 := crumbs_len x.kept.crumbs
    have h3 := G.cr
    have h4 := G.st
    simp only [List.length_append, List.length_replicate, List.length_cons, List.length_nil, h1, h2, le4_len, Se05.CRUMBS]
    omega
theorem does_said : Does (some x) (svOf x bp) x.kept x.tasks ⟨7, [], []⟩ [] := by
  refine ⟨_, _, _, _, some x, .yes ?_ _ _ _ _ (.tell (by decide) rfl (G.fine _ rfl) 0 (fun h => absurd (.inr (.inl rfl)) h)), nstepO (cx := .said) rfl ?_ rfl, relS G bp, ?_⟩
  · show refuse true x.now x.tasks 7 [] = 0
    rw [refuse_4 (by decide) rfl rfl (by rintro ⟨h, _⟩; revert h; decide)]
    rfl
  · rfl
  · rw [List.length_cons, cast_len]
    show (saidOf (svOf x bp) x.kept).length + 1 ≤ 100
    unfold saidOf
    have h2 := numbers_len (svOf x bp).before.crumbs
    have h3 : (svOf x bp).before.crumbs.length ≤ 8 := G.bc
    have h4 := G.st
    simp only [List.length_append, List.length_cons, List.length_nil, h2]
    omega
theorem does_list : Does (some x) (svOf x bp) x.kept x.tasks ⟨9, [], []⟩ [] := by
  refine ⟨_, _, _, _, some x, .yes ?_ _ _ _ _ (.tell (by decide) rfl (G.fine _ rfl) 0 (fun h => absurd (.inr (.inr rfl)) h)), nstepO (cx := .list) rfl ?_ rfl, relS G bp, ?_⟩
  · show refuse true x.now x.tasks 9 [] = 0
    rw [refuse_4 (by decide) rfl rfl (by rintro ⟨h, _⟩; revert h; decide)]
    rfl
  · rfl
  · rw [List.length_cons, cast_len]
    show (x.tasks.length :: x.tasks.map _).length + 1 ≤ 100
    rw [List.length_cons, List.length_map]
    have := G.few
    omega
theorem does_look (k : Int) : Does (some x) (svOf x bp) x.kept x.tasks ⟨8, [k], []⟩ ["k"] := by
  have hall : ((PC.given ⟨8, [k], []⟩ ["k"]).all fun p => inR p.1 p.2) = Se05.isTask k := by
    show (inR "k" k && true) = _
    rw [inR_k, Bool.and_true]
  have hcall : Se05Neutral.callOf (PC.neutral ⟨8, [k], []⟩) = some (.look k) := rfl
  have hb : ∀ a b d, Se05.Call.look k ≠ .begin_ a b d := fun _ _ _ => by simp
  by_cases h : Se05.isTask k = true
  · cases hj : jobAt x.tasks k.toNat with
    | none =>
      refine does_no (-2) (by decide) (refuse_3 (show (8 : Int) ≠ 0 by decide) (hall.trans h) rfl ⟨.inr (.inr (.inr rfl)), hj⟩) (nstep hcall (step_on (y := (x, Se05.only (-2))) hb ?_) (.inl rfl)) (relS G bp)
      show (if Se05.isTask k = false then _ else _) = _
      rw [if_neg (by rw [h]; simp)]
      have e : x.task k.toNat = none := hj
      rw [e]
    | some j =>
      obtain ⟨pre, post, e1, e2⟩ := jobAt_some hj
      have hk := isTask_is h
      refine ⟨_, _, _, _, some x, .yes ?_ _ _ _ _ (.tell (show (8 : Int) ≠ 0 by decide) rfl (G.fine _ rfl) k.toNat (fun _ => ⟨?_, by rw [hj]; rfl⟩)), nstepO hcall (step_on (y := (x, { value := 0, out := tellOf (svOf x bp) x.kept x.tasks 8 k.toNat })) hb ?_) rfl, relS G bp, ?_⟩
      · show refuse true x.now x.tasks 8 _ = 0
        rw [refuse_4 (by decide) (hall.trans h) rfl (fun q => by
          have z : jobAt x.tasks k.toNat = none := q.2
          rw [hj] at z; cases z)]
        rfl
      · show some k = _
        rw [← hk.1]
      · show (if Se05.isTask k = false then _ else _) = _
        rw [if_neg (by rw [h]; simp)]
        have e : x.task k.toNat = some j := hj
        rw [e]
        unfold tellOf
        rw [if_neg (by decide), if_neg (by decide), if_neg (by decide), hj]
        rfl
      · rw [List.length_cons, cast_len]
        show (tellOf (svOf x bp) x.kept x.tasks 8 k.toNat).length + 1 ≤ 100
        unfold tellOf
        rw [if_neg (by decide), if_neg (by decide), if_neg (by decide), hj]
        show (shownOf x.now j).length + 1 ≤ 100
        have h1 := (G.job j (by rw [e1]; simp)).again
        have h2 : (Se05.lately x.now j).length ≤ j.again.length := List.length_filter_le _ _
        rw [shown_eq, List.length_append]
        show 7 + _ + 1 ≤ _
        omega
  · have h : Se05.isTask k = false := by
      cases q : Se05.isTask k with
      | false => rfl
      | true => exact absurd q h
    refine does_no (-1) (by decide) (refuse_1 (show (8 : Int) ≠ 0 by decide) (hall.trans h)) (nstep hcall (step_on (y := (x, Se05.only (-1))) hb ?_) (.inl rfl)) (relS G bp)
    show (if Se05.isTask k = false then _ else _) = _
    rw [if_pos h]
theorem does_tick (t : Int) : Does (some x) (svOf x bp) x.kept x.tasks ⟨3, [t], []⟩ ["now"] := by
  have hall : ((PC.given ⟨3, [t], []⟩ ["now"]).all fun p => inR p.1 p.2) = Se05.isTime t := by
    show (inR "now" t && true) = _
    rw [inR_now, Bool.and_true]
  have hcall : Se05Neutral.callOf (PC.neutral ⟨3, [t], []⟩) = some (.tick t) := rfl
  have hb : ∀ a b d, Se05.Call.tick t ≠ .begin_ a b d := fun _ _ _ => by simp
  by_cases h : Se05.isTime t = true
  · have ht := isTime_is h
    have hlate : lateB x.now (PC.given ⟨3, [t], []⟩ ["now"]) = decide (t.toNat < x.now) := late_eq ht.1
    by_cases h2 : t.toNat < x.now
    · refine does_no (-4) (by decide) (refuse_2 (show (3 : Int) ≠ 0 by decide) (hall.trans h) (hlate.trans (decide_eq_true h2))) (nstep hcall (step_on (y := (x, Se05.only (-4))) hb ?_) (.inr (by decide))) (relS G bp)
      show (if Se05.isTime t = false then _ else _) = _
      rw [if_neg (by rw [h]; simp), if_pos h2]
    · have pe := pass_eq x t.toNat { svOf x bp with now := t.toNat } rfl rfl G.calm
      have pt := pass_tasks x t.toNat
      have F : Fine { svOf x bp with now := t.toNat } x.kept x.tasks := G.fine _ rfl
      obtain ⟨l1, l2⟩ := rowsT_len { svOf x bp with now := t.toNat } x.kept G.few
      have elen : (rowsT { svOf x bp with now := t.toNat } x.kept x.tasks).length = (Se05.pass x t.toNat).2.length := by rw [← pe.2.1, List.length_map]
      have eflat : (rowsT { svOf x bp with now := t.toNat } x.kept x.tasks).flatten = (Se05.pass x t.toNat).2.flatMap Se05Neutral.wantNumbers := by rw [← pe.2.1, List.flatMap_def]
      refine ⟨_, _, _, _, some (Se05.pass x t.toNat).1, .yes ?_ _ _ _ _ (.act (show (3 : Int) ≠ 0 by decide) t.toNat ?_ F _ _ _ (.tick rfl)), (nstepW hcall (step_on (y := ((Se05.pass x t.toNat).1, { value := 0, wants := (Se05.pass x t.toNat).2 })) hb ?_) rfl).trans ?_, ⟨G.pass t.toNat, rfl, pe.1.symm, pt.symm⟩, ?_⟩
      · show refuse true x.now x.tasks 3 _ = 0
        rw [refuse_4 (by decide) (hall.trans h) (hlate.trans (decide_eq_false h2)) (by rintro ⟨h, _⟩; revert h; decide)]
        rfl
      · show some t = _
        rw [← ht.2]
      · show (if Se05.isTime t = false then _ else _) = _
        rw [if_neg (by rw [h]; simp), if_neg h2]
      · rw [elen, eflat]
      · refine Nat.le_trans (m := 2 * 33 + 1 + 1) ?_ (by decide)
        exact Nat.succ_le_succ (Nat.succ_le_succ (Nat.le_trans (flatten_le l2) (Nat.mul_le_mul_left 2 l1)))
  · have h : Se05.isTime t = false := by
      cases q : Se05.isTime t with
      | false => rfl
      | true => exact absurd q h
    refine does_no (-1) (by decide) (refuse_1 (show (3 : Int) ≠ 0 by decide) (hall.trans h)) (nstep hcall (step_on (y := (x, Se05.only (-1))) hb ?_) (.inr (by decide))) (relS G bp)
    show (if Se05.isTime t = false then _ else _) = _
    rw [if_pos h]
end
end Tw
end
section
set_option Elab.async false
set_option linter.all false
set_option maxRecDepth 100000
set_option maxHeartbeats 2000000
namespace Tw
open PySem PySem.Spec PyProof.Rows L2
theorem not_true {b : Bool} (h : ¬ b = true) : b = false := by cases b <;> simp at h ⊢
section
variable {x : Se05.Station} (G : Good x) (bp : Addr)
include G
theorem does_ask (k t : Int) : Does (some x) (svOf x bp) x.kept x.tasks ⟨4, [k, t], []⟩ ["k", "now"] := by
  have n0 : (4 : Int) ≠ 0 := by decide
  have hall : ((PC.given ⟨4, [k, t], []⟩ ["k", "now"]).all fun p => inR p.1 p.2) = (Se05.isTask k && Se05.isTime t) := by
    show (inR "k" k && (inR "now" t && true)) = _
    rw [inR_k, inR_now, Bool.and_true]
  have hcall : Se05Neutral.callOf (PC.neutral ⟨4, [k, t], []⟩) = some (.ask k t) := rfl
  have hb : ∀ a b d, Se05.Call.ask k t ≠ .begin_ a b d := fun _ _ _ => by simp
  have e0 : Se05.stepOn x (.ask k t) = Se05.known x k t (fun (s1 : Se05.Station) (t : Se05.Job) => if Se05.running t = true then (x, Se05.only (-4)) else (s1.with_ { t with phase := .waits s1.now, wait := t.rule.first, again := [], late := false }, Se05.only 0)) := rfl
  by_cases h : (Se05.isTask k && Se05.isTime t) = true
  · obtain ⟨h1, h2⟩ := Bool.and_eq_true_iff.mp h
    have ht := isTime_is h2
    have hk := isTask_is h1
    have hlate : lateB x.now (PC.given ⟨4, [k, t], []⟩ ["k", "now"]) = decide (t.toNat < x.now) := late_eq ht.1
    by_cases h2 : t.toNat < x.now
    · exact does_no (-4) (by decide) (refuse_2 n0 (hall.trans h) (hlate.trans (decide_eq_true h2))) (nstep hcall (step_on hb (e0.trans (known_early h h2))) (.inr (by decide))) (relS G bp)
    have hlate := hlate.trans (decide_eq_false h2)
    cases hj : jobAt x.tasks k.toNat with
    | none => exact does_no (-2) (by decide) (refuse_3 n0 (hall.trans h) hlate ⟨.inr (.inl rfl), hj⟩) (nstep hcall (step_on hb (e0.trans (known_none h h2 hj))) (.inr (by decide))) (relS G bp)
    | some j =>
      obtain ⟨pre, post, e1, e2⟩ := jobAt_some hj
      have r4 := refuse_4 (now := x.now) (js := x.tasks) n0 (hall.trans h) hlate (fun q => by
        have z : jobAt x.tasks k.toNat = none := q.2
        rw [hj] at z; cases z)
      have hbp : byPromise x.tasks 4 (kOf (PC.given ⟨4, [k, t], []⟩ ["k", "now"])) = Se05.running j := by
        show byPromise x.tasks 4 k.toNat = _
        unfold byPromise
        rw [if_neg (by decide), if_neg (by decide), if_pos rfl, hj]
      rw [hbp] at r4
      have hst := step_on hb (e0.trans (known_some h h2 hj))
      by_cases h4 : Se05.running j = true
      · rw [if_pos h4] at r4 hst
        exact does_no (-4) (by decide) r4 (nstep hcall hst (.inr (by decide))) (relS G bp)
      · rw [if_neg h4] at r4 hst
        have F : Fine { svOf x bp with now := t.toNat } x.kept x.tasks := G.fine _ rfl
        have jo := G.job j (by rw [e1]; simp)
        have ew := with_eq (x := { x with now := t.toNat }) (j' := { j with phase := .waits t.toNat, wait := j.rule.first, again := [], late := false }) e1 G.so rfl
        refine ⟨_, _, _, _, _, .yes r4 _ _ _ _ (.act n0 t.toNat ?_ F _ _ _ (.ask rfl pre post j e1 ?_)), nstep hcall hst (.inl rfl), ⟨?_, rfl, rfl, ew.symm⟩, (by show 1 ≤ 100; decide)⟩
        · show some t = _
          rw [← ht.2]
        · show some k = _
          rw [e2, ← hk.1]
        · exact G.swap e1 (j' := { j with phase := .waits t.toNat, wait := j.rule.first, again := [], late := false }) rfl ⟨jo.num, Nat.zero_le _, jo.rank, jo.most⟩ x.kept G.st G.cr G.pl G.calm 0 _ ew rfl rfl rfl
  · have h := not_true h
    exact does_no (-1) (by decide) (refuse_1 n0 (hall.trans h)) (nstep hcall (step_on hb (e0.trans (known_no h))) (.inr (by decide))) (relS G bp)
theorem does_halt (k t : Int) : Does (some x) (svOf x bp) x.kept x.tasks ⟨5, [k, t], []⟩ ["k", "now"] := by
  have n0 : (5 : Int) ≠ 0 := by decide
  have hall : ((PC.given ⟨5, [k, t], []⟩ ["k", "now"]).all fun p => inR p.1 p.2) = (Se05.isTask k && Se05.isTime t) := by
    show (inR "k" k && (inR "now" t && true)) = _
    rw [inR_k, inR_now, Bool.and_true]
  have hcall : Se05Neutral.callOf (PC.neutral ⟨5, [k, t], []⟩) = some (.halt k t) := rfl
  have hb : ∀ a b d, Se05.Call.halt k t ≠ .begin_ a b d := fun _ _ _ => by simp
  have e0 : Se05.stepOn x (.halt k t) = Se05.known x k t (fun (s1 : Se05.Station) (t : Se05.Job) => if Se05.running t = false then (x, Se05.only (-4)) else (s1.with_ { t with phase := .stands, late := false }, { value := 0, wants := [.halt_ t.number] })) := rfl
  by_cases h : (Se05.isTask k && Se05.isTime t) = true
  · obtain ⟨h1, h2⟩ := Bool.and_eq_true_iff.mp h
    have ht := isTime_is h2
    have hk := isTask_is h1
    have hlate : lateB x.now (PC.given ⟨5, [k, t], []⟩ ["k", "now"]) = decide (t.toNat < x.now) := late_eq ht.1
    by_cases h2 : t.toNat < x.now
    · exact does_no (-4) (by decide) (refuse_2 n0 (hall.trans h) (hlate.trans (decide_eq_true h2))) (nstep hcall (step_on hb (e0.trans (known_early h h2))) (.inr (by decide))) (relS G bp)
    have hlate := hlate.trans (decide_eq_false h2)
    cases hj : jobAt x.tasks k.toNat with
    | none => exact does_no (-2) (by decide) (refuse_3 n0 (hall.trans h) hlate ⟨.inr (.inr (.inl rfl)), hj⟩) (nstep hcall (step_on hb (e0.trans (known_none h h2 hj))) (.inr (by decide))) (relS G bp)
    | some j =>
      obtain ⟨pre, post, e1, e2⟩ := jobAt_some hj
      have r4 := refuse_4 (now := x.now) (js := x.tasks) n0 (hall.trans h) hlate (fun q => by
        have z : jobAt x.tasks k.toNat = none := q.2
        rw [hj] at z; cases z)
      have hbp : byPromise x.tasks 5 (kOf (PC.given ⟨5, [k, t], []⟩ ["k", "now"])) = !Se05.running j := by
        show byPromise x.tasks 5 k.toNat = _
        unfold byPromise
        rw [if_neg (by decide), if_pos (by decide), hj]
      rw [hbp] at r4
      have hst := step_on hb (e0.trans (known_some h h2 hj))
      by_cases h4 : Se05.running j = true
      · rw [if_neg (by rw [h4]; simp)] at r4 hst
        have F : Fine { svOf x bp with now := t.toNat } x.kept x.tasks := G.fine _ rfl
        have jo := G.job j (by rw [e1]; simp)
        have ew := with_eq (x := { x with now := t.toNat }) (j' := { j with phase := .stands, late := false }) e1 G.so rfl
        refine ⟨_, _, _, _, _, .yes r4 _ _ _ _ (.act n0 t.toNat ?_ F _ _ _ (.halt rfl pre post j e1 ?_)), nstepW hcall hst rfl, ⟨?_, rfl, rfl, ew.symm⟩, (by show 4 ≤ 100; decide)⟩
        · show some t = _
          rw [← ht.2]
        · show some k = _
          rw [e2, ← hk.1]
        · exact G.swap e1 (j' := { j with phase := .stands, late := false }) rfl ⟨jo.num, jo.again, jo.rank, jo.most⟩ x.kept G.st G.cr G.pl G.calm 0 _ ew rfl rfl rfl
      · have h4 := not_true h4
        rw [if_pos (by rw [h4]; rfl)] at r4
        rw [if_pos h4] at hst
        exact does_no (-4) (by decide) r4 (nstep hcall hst (.inr (by decide))) (relS G bp)
  · have h := not_true h
    exact does_no (-1) (by decide) (refuse_1 n0 (hall.trans h)) (nstep hcall (step_on hb (e0.trans (known_no h))) (.inr (by decide))) (relS G bp)
theorem does_report (k pl t : Int) : Does (some x) (svOf x bp) x.kept x.tasks ⟨2, [k, pl, t], []⟩ ["k", "place", "now"] := by
  have n0 : (2 : Int) ≠ 0 := by decide
  have hall : ((PC.given ⟨2, [k, pl, t], []⟩ ["k", "place", "now"]).all fun p => inR p.1 p.2) = (Se05.isTask k && (Se05.within pl 0 65535 && Se05.isTime t)) := by
    show (inR "k" k && (inR "place" pl && (inR "now" t && true))) = _
    rw [inR_k, inR_place, inR_now, Bool.and_true]
  have hcall : Se05Neutral.callOf (PC.neutral ⟨2, [k, pl, t], []⟩) = some (.report k pl t) := rfl
  have hb : ∀ a b d, Se05.Call.report k pl t ≠ .begin_ a b d := fun _ _ _ => by simp
  by_cases hp : Se05.within pl 0 65535 = true
  · have hpl := within_is hp
    have e0 : Se05.stepOn x (.report k pl t) = Se05.known x k t fun (s1 : Se05.Station) (t : Se05.Job) =>
        if Se05.running t = false then (x, Se05.only (-4)) else
        ({ s1 with kept := s1.kept.crumb ⟨t.number, pl.toNat⟩ }.with_ { t with heard := s1.now, place := pl.toNat, late := false }, Se05.only (if t.late = true then 1 else 0)) := by
      show (if Se05.within pl 0 65535 = false then _ else _) = _
      rw [if_neg (by rw [hp]; simp)]
    rw [hp, Bool.true_and] at hall
    by_cases h : (Se05.isTask k && Se05.isTime t) = true
    · obtain ⟨h1, h2⟩ := Bool.and_eq_true_iff.mp h
      have ht := isTime_is h2
      have hk := isTask_is h1
      have hlate : lateB x.now (PC.given ⟨2, [k, pl, t], []⟩ ["k", "place", "now"]) = decide (t.toNat < x.now) := late_eq ht.1
      by_cases h2 : t.toNat < x.now
      · exact does_no (-4) (by decide) (refuse_2 n0 (hall.trans h) (hlate.trans (decide_eq_true h2))) (nstep hcall (step_on hb (e0.trans (known_early h h2))) (.inr (by decide))) (relS G bp)
      have hlate := hlate.trans (decide_eq_false h2)
      cases hj : jobAt x.tasks k.toNat with
      | none => exact does_no (-2) (by decide) (refuse_3 n0 (hall.trans h) hlate ⟨.inl rfl, hj⟩) (nstep hcall (step_on hb (e0.trans (known_none h h2 hj))) (.inr (by decide))) (relS G bp)
      | some j =>
        obtain ⟨pre, post, e1, e2⟩ := jobAt_some hj
        have r4 := refuse_4 (now := x.now) (js := x.tasks) n0 (hall.trans h) hlate (fun q => by
          have z : jobAt x.tasks k.toNat = none := q.2
          rw [hj] at z; cases z)
        have hbp : byPromise x.tasks 2 (kOf (PC.given ⟨2, [k, pl, t], []⟩ ["k", "place", "now"])) = !Se05.running j := by
          show byPromise x.tasks 2 k.toNat = _
          unfold byPromise
          rw [if_neg (by decide), if_pos (by decide), hj]
        rw [hbp] at r4
        have hst := step_on hb (e0.trans (known_some h h2 hj))
        by_cases h4 : Se05.running j = true
        · rw [if_neg (by rw [h4]; simp)] at r4 hst
          have F : Fine { svOf x bp with now := t.toNat } x.kept x.tasks := G.fine _ rfl
          have jo := G.job j (by rw [e1]; simp)
          obtain ⟨k1, k2, k3, k4⟩ := crumb_ok (c := ⟨j.number, pl.toNat⟩) G.st G.cr G.pl (by show pl.toNat < 65536; omega)
          have ew := with_eq (x := { x with now := t.toNat, kept := x.kept.crumb ⟨j.number, pl.toNat⟩ }) (j' := { j with heard := t.toNat, place := pl.toNat, late := false }) e1 G.so rfl
          have hres : (if j.late = true then (1 : Int) else 0) = (j.late.toNat : Int) := by cases j.late <;> rfl
          refine ⟨_, _, _, _, some _, .yes r4 _ _ _ _ (.act n0 t.toNat ?_ F _ _ _ (.report rfl pre post j pl.toNat e1 ?_ ?_)), (nstep hcall hst (.inl rfl)).trans (by rw [hres]), ⟨?_, rfl, rfl, ew.symm⟩, (by show 1 ≤ 100; decide)⟩
          · show some t = _
            rw [← ht.2]
          · show some k = _
            rw [e2, ← hk.1]
          · show some pl = _
            rw [Int.toNat_of_nonneg hpl.1]
          · exact G.swap e1 (j' := { j with heard := t.toNat, place := pl.toNat, late := false }) rfl ⟨jo.num, jo.again, jo.rank, jo.most⟩ _ k1 k2 k3 (fun q => k4.trans (G.calm q)) 0 _ ew rfl rfl rfl
        · have h4 := not_true h4
          rw [if_pos (by rw [h4]; rfl)] at r4
          rw [if_pos h4] at hst
          exact does_no (-4) (by decide) r4 (nstep hcall hst (.inr (by decide))) (relS G bp)
    · have h := not_true h
      exact does_no (-1) (by decide) (refuse_1 n0 (hall.trans h)) (nstep hcall (step_on hb (e0.trans (known_no h))) (.inr (by decide))) (relS G bp)
  · have hp := not_true hp
    have e0 : Se05.stepOn x (.report k pl t) = (x, Se05.only (-1)) := by
      show (if Se05.within pl 0 65535 = false then _ else _) = _
      rw [if_pos hp]
    exact does_no (-1) (by decide) (refuse_1 n0 (hall.trans (by rw [hp, Bool.false_and, Bool.and_false]))) (nstep hcall (step_on hb e0) (.inr (by decide))) (relS G bp)
theorem does_task (k l r m s f i t : Int) : Does (some x) (svOf x bp) x.kept x.tasks ⟨1, [k, l, r, m, s, f, i, t], []⟩ ["k", "limit", "rank", "most", "span", "first", "main", "now"] := by
  have n0 : (1 : Int) ≠ 0 := by decide
  generalize hall0 : (Se05.isTask k && (Se05.days l && (Se05.within r 0 2 && (Se05.within m 1 16 && (Se05.days s && (Se05.within f 1 3600000000 && (Se05.within i 0 1 && Se05.isTime t))))))) = ok
  have hall : ((PC.given ⟨1, [k, l, r, m, s, f, i, t], []⟩ ["k", "limit", "rank", "most", "span", "first", "main", "now"]).all fun p => inR p.1 p.2) = ok := by
    rw [← hall0]
    show (inR "k" k && (inR "limit" l && (inR "rank" r && (inR "most" m && (inR "span" s && (inR "first" f && (inR "main" i && (inR "now" t && true)))))))) = _
    rw [inR_now, Bool.and_true]
    rfl
  have hcall : Se05Neutral.callOf (PC.neutral ⟨1, [k, l, r, m, s, f, i, t], []⟩) = some (.task k l r m s f i t) := rfl
  have hb : ∀ a b d, Se05.Call.task k l r m s f i t ≠ .begin_ a b d := fun _ _ _ => by simp
  by_cases h : ok = true
  · subst h
    obtain ⟨a1, h⟩ := Bool.and_eq_true_iff.mp hall0
    obtain ⟨a2, h⟩ := Bool.and_eq_true_iff.mp h
    obtain ⟨a3, h⟩ := Bool.and_eq_true_iff.mp h
    obtain ⟨a4, h⟩ := Bool.and_eq_true_iff.mp h
    obtain ⟨a5, h⟩ := Bool.and_eq_true_iff.mp h
    obtain ⟨a6, h⟩ := Bool.and_eq_true_iff.mp h
    obtain ⟨a7, a8⟩ := Bool.and_eq_true_iff.mp h
    have hk := isTask_is a1
    have b2 := within_is a2
    have b3 := within_is a3
    have b4 := within_is a4
    have b5 := within_is a5
    have b6 := within_is a6
    have b7 := within_is a7
    have ht := isTime_is a8
    have hlate : lateB x.now (PC.given ⟨1, [k, l, r, m, s, f, i, t], []⟩ ["k", "limit", "rank", "most", "span", "first", "main", "now"]) = decide (t.toNat < x.now) := late_eq ht.1
    have e0 : Se05.stepOn x (.task k l r m s f i t) = if t.toNat < x.now ∨ (x.task k.toNat).isSome = true then (x, Se05.only (-4)) else
        ({ x with now := t.toNat, tasks := Se05.insert { number := k.toNat, rule := ⟨l.toNat, r.toNat, m.toNat, s.toNat, f.toNat, i == 1⟩, phase := if x.safe = true ∧ i = 0 then .stands else .waits t.toNat, heard := t.toNat, wait := f.toNat } x.tasks }, Se05.only 0) := by
      show (if (Se05.isTask k && (Se05.days l && (Se05.within r 0 2 && (Se05.within m 1 16 && (Se05.days s && (Se05.within f 1 3600000000 && (Se05.within i 0 1 && Se05.isTime t))))))) = false then _ else _) = _
      rw [hall0, if_neg (by simp)]
    by_cases h2 : t.toNat < x.now
    · rw [if_pos (.inl h2)] at e0
      exact does_no (-4) (by decide) (refuse_2 n0 hall (hlate.trans (decide_eq_true h2))) (nstep hcall (step_on hb e0) (.inr (by decide))) (relS G bp)
    have hlate := hlate.trans (decide_eq_false h2)
    have r4 := refuse_4 (now := x.now) (js := x.tasks) n0 hall hlate (by rintro ⟨h, _⟩; revert h; decide)
    have hbp : byPromise x.tasks 1 (kOf (PC.given ⟨1, [k, l, r, m, s, f, i, t], []⟩ ["k", "limit", "rank", "most", "span", "first", "main", "now"])) = (jobAt x.tasks k.toNat).isSome := by
      show byPromise x.tasks 1 k.toNat = _
      unfold byPromise
      rw [if_pos rfl]
    rw [hbp] at r4
    have ej : x.task k.toNat = jobAt x.tasks k.toNat := rfl
    rw [ej] at e0
    cases hj : jobAt x.tasks k.toNat with
    | some j =>
      rw [hj] at r4 e0
      rw [if_pos (show (some j).isSome = true from rfl)] at r4
      rw [if_pos (.inr rfl)] at e0
      exact does_no (-4) (by decide) r4 (nstep hcall (step_on hb e0) (.inr (by decide))) (relS G bp)
    | none =>
      rw [hj] at r4 e0
      rw [if_neg (by simp)] at r4
      rw [if_neg (by simp; omega)] at e0
      have F : Fine { svOf x bp with now := t.toNat } x.kept x.tasks := G.fine _ rfl
      have no := jobAt_none hj
      have ead : addJ x.safe { number := k.toNat, rule := ⟨l.toNat, r.toNat, m.toNat, s.toNat, f.toNat, i == 1⟩, phase := .waits t.toNat, heard := t.toNat, wait := f.toNat } =
          { number := k.toNat, rule := ⟨l.toNat, r.toNat, m.toNat, s.toNat, f.toNat, i == 1⟩, phase := if x.safe = true ∧ i = 0 then .stands else .waits t.toNat, heard := t.toNat, wait := f.toNat } := by
        unfold addJ
        dsimp only
        have eq : (x.safe = true ∧ (i == 1) = false) ↔ (x.safe = true ∧ i = 0) := by
          refine and_congr_right fun _ => ?_
          rw [beq_eq_false_iff_ne]
          omega
        by_cases q : x.safe = true ∧ i = 0
        · rw [if_pos (eq.mpr q), if_pos q]
        · rw [if_neg (fun z => q (eq.mp z)), if_neg q]
      refine ⟨_, _, _, _, _, .yes r4 _ _ _ _ (.act n0 t.toNat ?_ F _ _ _ (.task rfl ⟨l.toNat, r.toNat, m.toNat, s.toNat, f.toNat, i == 1⟩ k.toNat ?_ ?_ ?_ ?_ ?_ ?_ ?_ ?_ no)), nstep hcall (step_on hb e0) (.inl rfl), ⟨?_, rfl, rfl, ?_⟩, (by show 1 ≤ 100; decide)⟩
      · show some t = _
        rw [← ht.2]
      · show some k = _
        rw [← hk.1]
      · show some l = some ((l.toNat : Nat) : Int)
        rw [Int.toNat_of_nonneg (by omega)]
      · show some r = some ((r.toNat : Nat) : Int)
        rw [Int.toNat_of_nonneg (by omega)]
      · show some m = some ((m.toNat : Nat) : Int)
        rw [Int.toNat_of_nonneg (by omega)]
      · show some s = some ((s.toNat : Nat) : Int)
        rw [Int.toNat_of_nonneg (by omega)]
      · show some f = some ((f.toNat : Nat) : Int)
        rw [Int.toNat_of_nonneg (by omega)]
      · show some i = some (((i == 1).toNat : Nat) : Int)
        have : i = 0 ∨ i = 1 := by omega
        rcases this with rfl | rfl <;> rfl
      · show some t = _
        rw [← ht.2]
      · refine ⟨insert_sorted G.so no, fun j hj => ?_, G.st, G.cr, G.pl, G.bc, G.calm⟩
        rcases insert_mem hj with q | q
        · rw [q]
          exact ⟨hk.2, Nat.zero_le _, (by show r.toNat ≤ 2; omega), (by show m.toNat ≤ 16; omega)⟩
        · exact G.job j q
      · show Se05.insert (addJ x.safe _) x.tasks = Se05.insert _ x.tasks
        rw [← ead]
  · have h := not_true h
    subst h
    have e0 : Se05.stepOn x (.task k l r m s f i t) = (x, Se05.only (-1)) := by
      show (if (Se05.isTask k && (Se05.days l && (Se05.within r 0 2 && (Se05.within m 1 16 && (Se05.days s && (Se05.within f 1 3600000000 && (Se05.within i 0 1 && Se05.isTime t))))))) = false then _ else _) = _
      rw [if_pos hall0]
    exact does_no (-1) (by decide) (refuse_1 n0 hall) (nstep hcall (step_on hb e0) (.inr (by decide))) (relS G bp)
end
end Tw
end
section
set_option Elab.async false
set_option linter.all false
set_option maxRecDepth 100000
set_option maxHeartbeats 2000000
namespace Tw
open PySem PySem.Spec PyProof.Rows L2
theorem nonbeg {c : Se05.Call} (h : (match c with | .begin_ _ _ _ => false | _ => true) = true) : ∀ a b d, c ≠ .begin_ a b d := fun a b d e => by
  rw [e] at h
  cases h
/-- each call, on each station -/
theorem does_all {s : Se05.State} {v : Sv} {kk : Se05.Kept} {js : List Se05.Job} (R : RelV s v kk js) (c : PC) (ns : List Str) (ok : c.Ok ns) (hA : Se05Neutral.asked1 c.neutral = true) : Does s v kk js c ns := by
  obtain ⟨num, args, row⟩ := c
  obtain ⟨nm, len, hrow⟩ := ok
  dsimp only at nm len hrow
  unfold NM at nm
  simp only [List.mem_cons, List.not_mem_nil, or_false, Prod.mk.injEq] at nm
  rcases nm with ⟨rfl, rfl⟩ | ⟨rfl, rfl⟩ | ⟨rfl, rfl⟩ | ⟨rfl, rfl⟩ | ⟨rfl, rfl⟩ | ⟨rfl, rfl⟩ | ⟨rfl, rfl⟩ | ⟨rfl, rfl⟩ | ⟨rfl, rfl⟩ | ⟨rfl, rfl⟩
  · match args, len with
    | [u, t], _ =>
      have h : (Se05Neutral.whole64 u && (Se05Neutral.whole64 t && (NeutralIO.bytes row && decide (row.length ≤ 100)))) = true := hA
      exact does_begin R u t row (Bool.and_eq_true_iff.mp (Bool.and_eq_true_iff.mp (Bool.and_eq_true_iff.mp h).2).2).1
  · obtain rfl := hrow (by decide)
    match args, len with
    | [k, l, r, m, sp, f, i, t], _ =>
      cases s with
      | none => exact does_none R _ _ (show (1 : Int) ≠ 0 by decide) (.task k l r m sp f i t) rfl (nonbeg rfl)
      | some x => obtain ⟨G, hv, rfl, rfl⟩ := R; rw [hv]; exact does_task G v.bp k l r m sp f i t
  · obtain rfl := hrow (by decide)
    match args, len with
    | [k, pl, t], _ =>
      cases s with
      | none => exact does_none R _ _ (show (2 : Int) ≠ 0 by decide) (.report k pl t) rfl (nonbeg rfl)
      | some x => obtain ⟨G, hv, rfl, rfl⟩ := R; rw [hv]; exact does_report G v.bp k pl t
  · obtain rfl := hrow (by decide)
    match args, len with
    | [t], _ =>
      cases s with
      | none => exact does_none R _ _ (show (3 : Int) ≠ 0 by decide) (.tick t) rfl (nonbeg rfl)
      | some x => obtain ⟨G, hv, rfl, rfl⟩ := R; rw [hv]; exact does_tick G v.bp t
  · obtain rfl := hrow (by decide)
    match args, len with
    | [k, t], _ =>
      cases s with
      | none => exact does_none R _ _ (show (4 : Int) ≠ 0 by decide) (.ask k t) rfl (nonbeg rfl)
      | some x => obtain ⟨G, hv, rfl, rfl⟩ := R; rw [hv]; exact does_ask G v.bp k t
  · obtain rfl := hrow (by decide)
    match args, len with
    | [k, t], _ =>
      cases s with
      | none => exact does_none R _ _ (show (5 : Int) ≠ 0 by decide) (.halt k t) rfl (nonbeg rfl)
      | some x => obtain ⟨G, hv, rfl, rfl⟩ := R; rw [hv]; exact does_halt G v.bp k t
  · obtain rfl := hrow (by decide)
    match args, len with
    | [], _ =>
      cases s with
      | none => exact does_none R _ _ (show (6 : Int) ≠ 0 by decide) .keep rfl (nonbeg rfl)
      | some x => obtain ⟨G, hv, rfl, rfl⟩ := R; rw [hv]; exact does_keep G v.bp
  · obtain rfl := hrow (by decide)
    match args, len with
    | [], _ =>
      cases s with
      | none => exact does_none R _ _ (show (7 : Int) ≠ 0 by decide) .said rfl (nonbeg rfl)
      | some x => obtain ⟨G, hv, rfl, rfl⟩ := R; rw [hv]; exact does_said G v.bp
  · obtain rfl := hrow (by decide)
    match args, len with
    | [k], _ =>
      cases s with
      | none => exact does_none R _ _ (show (8 : Int) ≠ 0 by decide) (.look k) rfl (nonbeg rfl)
      | some x => obtain ⟨G, hv, rfl, rfl⟩ := R; rw [hv]; exact does_look G v.bp k
  · obtain rfl := hrow (by decide)
    match args, len with
    | [], _ =>
      cases s with
      | none => exact does_none R _ _ (show (9 : Int) ≠ 0 by decide) .list rfl (nonbeg rfl)
      | some x => obtain ⟨G, hv, rfl, rfl⟩ := R; rw [hv]; exact does_list G v.bp
theorem names_in {c : PC} {ns : List Str} (ok : c.Ok ns) : ∀ p ∈ c.given ns, (RM.lookup p.1).isSome = true := by
  have h : ∀ q ∈ NM, ∀ n ∈ q.2, (RM.lookup n).isSome = true := by decide +kernel
  intro p hp
  have hp : p ∈ ns.zip c.args := hp
  exact h _ ok.nm p.1 (List.of_mem_zip hp).1
theorem k_there {c : PC} {ns : List Str} (ok : c.Ok ns) (h : c.num = 1 ∨ c.num = 2 ∨ c.num = 4 ∨ c.num = 5 ∨ c.num = 8) : (arg (c.given ns) "k").isSome = true := by
  obtain ⟨num, args, row⟩ := c
  obtain ⟨nm, len, _⟩ := ok
  dsimp only at nm len h
  unfold NM at nm
  simp only [List.mem_cons, List.not_mem_nil, or_false, Prod.mk.injEq] at nm
  rcases nm with ⟨rfl, rfl⟩ | ⟨rfl, rfl⟩ | ⟨rfl, rfl⟩ | ⟨rfl, rfl⟩ | ⟨rfl, rfl⟩ | ⟨rfl, rfl⟩ | ⟨rfl, rfl⟩ | ⟨rfl, rfl⟩ | ⟨rfl, rfl⟩ | ⟨rfl, rfl⟩
  · omega
  · match args, len with
    | [k, l, r, m, sp, f, i, t], _ => rfl
  · match args, len with
    | [k, pl, t], _ => rfl
  · omega
  · match args, len with
    | [k, t], _ => rfl
  · match args, len with
    | [k, t], _ => rfl
  · omega
  · omega
  · match args, len with
    | [k], _ => rfl
  · omega
theorem RelV.sorted {s : Se05.State} {v : Sv} {kk : Se05.Kept} {js : List Se05.Job} (R : RelV s v kk js) : Sorted js := by
  cases s with
  | none => rw [R.2]; exact (show ([] : List Nat).Pairwise (· < ·) from .nil)
  | some x => obtain ⟨G, _, _, rfl⟩ := R; exact G.so
theorem RelV.bp {s : Se05.State} {v : Sv} {kk : Se05.Kept} {js : List Se05.Job} (R : RelV s v kk js) (bp : Addr) : RelV s { v with bp := bp } kk js := by
  cases s with
  | none => exact R
  | some x =>
    obtain ⟨G, hv, h1, h2⟩ := R
    refine ⟨G, ?_, h1, h2⟩
    rw [hv]
    rfl
/-- names of each call's numbers, by its number -/
theorem fit_ok {c : PC} (h : c.Fit) : ∃ ns, c.Ok ns := by
  obtain ⟨num, args, row⟩ := c
  obtain ⟨len, hrow⟩ := h
  dsimp only at len hrow
  have key : ∀ p ns, (p, ns) ∈ NM → argc p = some ns.length := by
    intro p ns hm
    unfold NM at hm
    simp only [List.mem_cons, List.not_mem_nil, or_false, Prod.mk.injEq] at hm
    rcases hm with ⟨rfl, rfl⟩ | ⟨rfl, rfl⟩ | ⟨rfl, rfl⟩ | ⟨rfl, rfl⟩ | ⟨rfl, rfl⟩ | ⟨rfl, rfl⟩ | ⟨rfl, rfl⟩ | ⟨rfl, rfl⟩ | ⟨rfl, rfl⟩ | ⟨rfl, rfl⟩ <;> rfl
  have ex : ∃ ns, (num, ns) ∈ NM := by
    unfold argc at len
    split at len
    · exact ⟨["cause", "now"], by unfold NM; simp⟩
    · exact ⟨["k", "limit", "rank", "most", "span", "first", "main", "now"], by unfold NM; simp⟩
    · exact ⟨["k", "place", "now"], by unfold NM; simp⟩
    · exact ⟨["now"], by unfold NM; simp⟩
    · exact ⟨["k", "now"], by unfold NM; simp⟩
    · exact ⟨["k", "now"], by unfold NM; simp⟩
    · exact ⟨[], by unfold NM; simp⟩
    · exact ⟨[], by unfold NM; simp⟩
    · exact ⟨["k"], by unfold NM; simp⟩
    · exact ⟨[], by unfold NM; simp⟩
    · cases len
  obtain ⟨ns, hn⟩ := ex
  refine ⟨ns, hn, ?_, hrow⟩
  have := (key _ _ hn).symm.trans len
  exact (Option.some.inj this).symm
theorem fits_ok : ∀ {qs : List PC}, (∀ q ∈ qs, q.Fit) → ∃ cs : List (PC × List Str), cs.map (·.1) = qs ∧ ∀ c ∈ cs, c.1.Ok c.2
  | [], _ => ⟨[], rfl, fun c h => by cases h⟩
  | q :: r, h => by
    obtain ⟨ns, h1⟩ := fit_ok (h q (by simp))
    obtain ⟨cs, h2, h3⟩ := fits_ok (qs := r) fun p hp => h p (by simp [hp])
    refine ⟨(q, ns) :: cs, by rw [List.map_cons, h2], fun c hc => ?_⟩
    rcases List.mem_cons.mp hc with rfl | hc
    · exact h1
    · exact h3 c hc
section
variable {P : Program} {w : World} {K : PySem.W.Frag} {mg : Str → Option Value} {base : Heap} {a : Ad}
def spAnswers (K : PySem.W.Frag) : Sp := fun vs H Q _ => ∃ (p : Addr) (l : List Int), vs = [.ref p] ∧ SqL K H p (l.map V.int) ∧ l.length ≤ 16000 ∧ PySe05.answers_asked l = true ∧ ∀ H' q, H' q = some (.lst ((PySe05.answers l).map V.int)) → Q (.ref q) H'
theorem body_answers (T : Txt K mg a) (B : Tbl P w K mg) : Body P w K mg base 9 "answers" s_answers n_answers (spAnswers K) := by
  intro f cdv A outer s H vs Q E hr h
  obtain ⟨p, l, rfl, hS, hll, hask, k⟩ := h
  have nd := sc_answers.nd
  have hr5 : Room 5 _ := hr.mono (by decide)
  have hr4 : Room 4 _ := hr.mono (by decide)
  refine ⟨_, pss_cons (ps_set (i := 1) nd rfl (Or.inl rfl) (pe_mk0 (ok_Station T) hr5))
    (pss_cons (ps_set (i := 2) nd rfl (Or.inl rfl) (pe_lst pa_nil))
    (pss_cons (ps_for PassesOwn.never rfl (pi_list (pe_fn (ok_split_calls T B) hr4 (pa_cons (pv 0) pa_nil))) (pg_name (i := 3) nd rfl (Or.inl rfl))
      (pss_cons (ps_set (i := 4) nd rfl (Or.inl rfl) (pe_fn (ok_answer_to T B) hr (pa_cons (pv 1) (pa_cons (pv 3) pa_nil))))
      (pss_cons (ps_expr (pe_bm PySem.F.plainAttrs_list PySem.F.slot_list_append PySem.F.type_list_append mt_append (pv 2) (pa_cons (pe_callB call_len_seq rfl T.b_len PySem.boot_len (pa_cons (pv 4) pa_nil)) pa_nil)))
      (pss_one (ps_expr (pe_bm PySem.F.plainAttrs_list PySem.F.slot_list_extend PySem.F.type_list_extend mt_extend (pv 2) (pa_cons (pv 4) pa_nil)))))))
    (pss_one (ps_ret (pv 2))))), ?_⟩
  obtain ⟨qs0, hl, hfit, h300, hask1, hdue⟩ := parse hask
  obtain ⟨cs, hcs, hok⟩ := fits_ok hfit
  rw [hdue] at k
  have hlen300 : cs.length ≤ 300 := by rw [← hcs, List.length_map] at h300; exact h300
  have hflat : l = cs.flatMap (fun c => c.1.flat) := by rw [hl, ← hcs, List.flatMap_map]
  have hneu : qs0.map PC.neutral = cs.map fun c => c.1.neutral := by rw [← hcs, List.map_map]; rfl
  rw [hneu] at k
  intro x dx nx ndx nxd
  refine ⟨x, dx, rfl, upd_same, fun H1 L0 bp0 st0 f0 n0 => ⟨rfl, ?_⟩⟩
  have s1 : Same H H1 := fun b o e => by
    refine f0 b o ?_ (fun hm => ?_)
    · rw [upd_ne (ne_of_none e nx), upd_ne (ne_of_none e ndx)]
      exact e
    · rw [List.mem_singleton.mp hm, nx] at e; cases e
  refine ⟨Nat.zero_le _, fun an han => ?_⟩
  have s2 := same_upd (o := .lst []) han
  have anL0 : an ∉ L0 := fun hm => st0.mem an hm han
  have hS2 := s2.seq (s1.seq hS)
  refine ⟨_, rfl, p, l, cs, rfl, hS2, hll, hflat, hok, fun H2 fl qs hfl nfl hcalls s3 => ?_⟩
  have nfa : fl ≠ an := fun z => by rw [z, upd_same] at nfl; cases nfl
  have st2 := (st0.same s2).same s3
  have han2 := s3 _ _ (upd_same (H := H1) (a := an) (o := HO.lst []))
  refine ⟨fl, rfl, ⟨_, SqL.of hfl⟩, for_list (xs := qs.map V.ref) (fun i σ H' => ∃ (s : Se05.State) (v : Sv) (kk : Se05.Kept) (js : List Se05.Job) (L : List Addr) (out : List Int) (v3 v4 : Option V), RelV s v kk js ∧ StAt a H' x v kk js L ∧ H' an = some (.lst (out.map V.int)) ∧ an ∉ L ∧ H' fl = some (.lst (qs.map V.ref)) ∧ fl ∉ L ∧
      Paired (fun q (c : PC × List Str) => ∃ Lq, CallAt a.Call H' q c.1.num (c.1.given c.2) c.1.row Lq ∧ ∀ b ∈ Lq, b ∉ L ∧ b ≠ an) qs cs ∧ out.length ≤ 101 * i ∧
      out ++ PyFlat.told (PyFlat.played Se05Neutral.step s ((cs.drop i).map fun c => c.1.neutral)) = PyFlat.told (PyFlat.played Se05Neutral.step Se05Neutral.start (cs.map fun c => c.1.neutral)) ∧ σ = [some (.ref p), some (.ref x), some (.ref an), v3, v4])
    ⟨none, sv0 bp0, {}, [], L0, [], none, none, ⟨rfl, rfl⟩, st2, han2, anL0, hfl, ?_, ?_, Nat.zero_le _, rfl, rfl⟩ (fun i σ H' _ ⟨_, _, _, _, _, _, _, _, _, _, _, _, h, _⟩ => SqL.of h) ?_ ?_⟩
  · exact fun hm => (st0.same s2).mem fl hm nfl
  · refine Paired.mapP hcalls fun q c ⟨Lq, h1, h2⟩ => ⟨Lq, h1, fun b hb => ⟨fun hm => (st0.same s2).mem b hm (h2 b hb), fun e => ?_⟩⟩
    have := h2 b hb
    rw [e, upd_same] at this
    cases this
  · rintro i y σ H' hi ⟨s, v, kk, js, L, out, v3, v4, R, hSt, hAn, anL, hFl, flL, hCs, hOut, hTot, rfl⟩
    obtain ⟨q, hq, rfl⟩ : ∃ q, qs[i]? = some q ∧ y = V.ref q := by
      rw [List.getElem?_map] at hi
      cases e : qs[i]? with
      | none => rw [e] at hi; cases hi
      | some z => rw [e] at hi; exact ⟨z, rfl, (Option.some.inj hi).symm⟩
    obtain ⟨c, hc, Lq, hC, dj⟩ := paired_get hCs hq
    have hcm : c ∈ cs := List.mem_of_getElem? hc
    have okc := hok c hcm
    have hi300 : i < 300 := Nat.lt_of_lt_of_le (List.getElem?_eq_some_iff.mp hc).1 hlen300
    obtain ⟨v', kk', js', res, s', hA, hst, R', hres⟩ := does_all R c.1 c.2 okc (hask1 c.1 (by rw [← hcs]; exact List.mem_map.mpr ⟨c, hcm, rfl⟩))
    have hdrop : cs.drop i = c :: cs.drop (i + 1) := by
      obtain ⟨hlt, e⟩ := List.getElem?_eq_some_iff.mp hc
      rw [List.drop_eq_getElem_cons hlt, e]
    rw [hdrop, List.map_cons] at hTot
    have hpl : PyFlat.played Se05Neutral.step s (c.1.neutral :: (cs.drop (i + 1)).map fun c => c.1.neutral) = res :: PyFlat.played Se05Neutral.step s' ((cs.drop (i + 1)).map fun c => c.1.neutral) := by
      show (Se05Neutral.step s c.1.neutral).2 :: PyFlat.played Se05Neutral.step (Se05Neutral.step s c.1.neutral).1 _ = _
      rw [hst]
    rw [hpl] at hTot
    refine ⟨_, rfl, _, rfl, x, v, kk, js, L, q, c.1.num, c.1.given c.2, c.1.row, Lq, v', kk', js', res, rfl, hSt, hC, fun b hb => (dj b hb).1, R.sorted, names_in okc, k_there okc, hA, fun H3 L3 nl bp x1 x2 x3 x4 x5 => ?_⟩
    have hAn3 := x3 _ _ hAn anL
    have hFl3 := x3 _ _ hFl flL
    have anL3 : an ∉ L3 := fun hm => by
      rcases x4 an hm with z | z
      · exact anL z
      · rw [hAn] at z; cases z
    have flL3 : fl ∉ L3 := fun hm => by
      rcases x4 fl hm with z | z
      · exact flL z
      · rw [hFl] at z; cases z
    have nnl : nl ≠ an := fun z => anL (z ▸ x5 _ (z ▸ hAn))
    refine ⟨_, rfl, .inl ⟨rfl, _, SqL.of hAn3⟩, _, rfl, nl, _, rfl, .inl (SqL.of x2), an, _, _, rfl, rfl, hAn3, ?_, ?_⟩
    · rw [List.length_map]
      exact Nat.lt_of_le_of_lt (Nat.le_trans hOut (Nat.mul_le_mul_left 101 (Nat.le_of_lt hi300))) (by decide)
    refine ⟨_, rfl, .inl ⟨rfl, _, SqL.of upd_same⟩, _, rfl, an, nl, _, _, rfl, rfl, upd_same, (by rw [upd_ne nnl]; exact x2), ?_, ?_⟩
    · rw [List.length_append, List.length_map, List.length_map]
      refine Nat.le_trans (m := 101 * 300 + 1 + 100) ?_ (by decide)
      exact Nat.add_le_add (Nat.add_le_add_right (Nat.le_trans hOut (Nat.mul_le_mul_left 101 (Nat.le_of_lt hi300))) 1) hres
    generalize hH4 : upd (upd H3 an _) an _ = H4
    have at4 : At an H3 H4 := by rw [← hH4]; exact at1 (at1 at0)
    have kp4 : Kp [an] H3 H4 := at4.kp (by simp)
    refine ⟨s', { v' with bp := bp }, kk', js', L3, out ++ ((res.length : Int) :: res), _, _, R'.bp bp, x1.kp kp4 (apart anL3), ?_, anL3, (at4 fl nfa).trans hFl3, flL3, ?_, ?_, ?_, rfl⟩
    · rw [← hH4]
      refine lst_eq ?_
      rw [List.map_append, List.map_cons, List.length_map]
      simp
    · refine Paired.mapP hCs fun q c ⟨Lq, h1, h2⟩ => ⟨Lq, ?_, fun b hb => ⟨fun hm => ?_, (h2 b hb).2⟩⟩
      · refine (h1.kp x3 fun b hb => (h2 b hb).1).kp kp4 fun b hb hm => (h2 b hb).2 (List.mem_singleton.mp hm)
      · rcases x4 b hm with z | z
        · exact (h2 b hb).1 z
        · exact h1.mem b hb z
    · rw [List.length_append, List.length_cons]
      omega
    · rw [← hTot]
      show _ = out ++ (((res.length : Int) :: res) ++ PyFlat.told _)
      rw [List.append_assoc]
  · rintro σ H' ⟨s, v, kk, js, L, out, v3, v4, R, hSt, hAn, anL, hFl, flL, hCs, hOut, hTot, rfl⟩
    have hql : qs.length = cs.length := Paired.length hCs
    rw [List.length_map, hql, List.drop_length, List.map_nil] at hTot
    have e : out = PyFlat.told (PyFlat.played Se05Neutral.step Se05Neutral.start (cs.map fun c => c.1.neutral)) := by
      rw [← hTot]
      show out = out ++ []
      rw [List.append_nil]
    refine ⟨_, rfl, k H' an ?_⟩
    rw [← e]
    exact hAn
theorem top_mk {fa : Addr} (T : Txt K mg a) (B : Tbl P w K mg) (hfa : mg "answers" = some (.ref fa)) :
    ∃ fd : FuncData, (∀ (s : Shared) (us : List Value), us.length = (["calls"] : List Str).length → BindsTo s fd ⟨us, []⟩ ((["calls"] : List Str).zip us)) ∧ ∀ base : Heap, K.In base → base.Ns mainGlobals mg → FnOk P w K mg base CX0 30 fa fd ["calls"] (spAnswers K) := by
  obtain ⟨f, fd, e, F⟩ := T.f_answers
  have e2 := hfa.symm.trans e
  cases e2
  refine ⟨fd, fun s us hu => ?_, fun base _ _ => (F.ok sc_answers (fun vs H Q E h => by obtain ⟨p, l, rfl, _⟩ := h; rfl) (body_answers T B fa)).mono (by decide)⟩
  obtain ⟨oc, od, kV, doc, pm, an, cdv, ct, osl, rfl, _⟩ := F.ex
  match us, hu with
  | [_], _ => exact .of_eq rfl
end
end Tw
end
set_option Elab.async false
set_option linter.all false
namespace PySem.W.Fast
def tw10977827284290940954 := 0
def tw9830192379741269076 := 0
def tw14682702064555035157 := 0
def tw6863487370401099421 := 0
def tw13684569847981906095 := 0
def tw16709261476760243387 := 0
def tw15876281735682121676 := 0
def tw12937559020132109827 := 0
def tw1822073972131631315 := 0
def tw12274828261158025280 := 0
def tw17467447368088547418 := 0
def tw3845928138518085116 := 0
def tw10338780118910616292 := 0
def tw1958428110170657161 := 0
def tw9172807041840692961 := 0
def tw10748516050681570442 := 0
def tw8407188379394424326 := 0
def tw17744026577267671009 := 0
def tw9441460087798979238 := 0
def tw14106011401841943391 := 0
def tw14125953749041255467 := 0
def tw14796895600387368891 := 0
def tw15031832602896434217 := 0
def tw11594933580433026617 := 0
def tw11945212444350529270 := 0
def tw5244055477771962742 := 0
def tw443210362980357259 := 0
def tw18349058622443016091 := 0
def tw7059488736249890912 := 0
def tw16249191058401477788 := 0
def tw9411228227485901274 := 0
def tw14722628060891330509 := 0
def tw13711463512545485561 := 0
def tw8528204727425412672 := 0
def tw4650425187273629177 := 0
def tw1451496777332472200 := 0
def tw16588687160713883363 := 0
def tw6843205319306797121 := 0
def tw3288731995383222138 := 0
def tw13581492865226471468 := 0
def tw14527195413421284882 := 0
def tw14029096416643559068 := 0
def tw7916698366771153103 := 0
def tw5546106403948402211 := 0
def tw401187047593210932 := 0
def tw7585845539072681783 := 0
def tw8695418094001211588 := 0
def tw14814783246711188076 := 0
def tw5200464466256279167 := 0
def tw16875968188614881184 := 0
def tw14971680158771335390 := 0
def tw12084258386343647237 := 0
def tw18125630395345126061 := 0
def tw12147994463960946593 := 0
def tw10221535939740350853 := 0
def tw6069236702774339112 := 0
def tw13452135736079473518 := 0
def tw12178241834667054592 := 0
def tw16694873216930589668 := 0
def tw15807428354571348326 := 0
def tw11307949540979230937 := 0
def tw2850322153995788163 := 0
def tw12422708172942445616 := 0
def tw16143618853816440526 := 0
def tw234881062795904599 := 0
def tw6892802754465576884 := 0
def tw2650055606553407309 := 0
def tw309366432145650014 := 0
def tw11221799345138760934 := 0
def tw14176066556929193281 := 0
def tw12717928762098874415 := 0
def tw3749009141245863786 := 0
def tw2145901042614869293 := 0
def tw9892917177468923759 := 0
def tw4478508950903732111 := 0
def tw1763026291641071395 := 0
def tw14983486035727341883 := 0
def tw5174918066559132925 := 0
def tw8183737598989390270 := 0
def tw12574027299224053542 := 0
def tw5212751357021065926 := 0
def tw9015219930116892493 := 0
def tw10705631218340686159 := 0
def tw8753308555993677773 := 0
def tw1123065758669127578 := 0
def tw9218156389389488092 := 0
def tw1123592725877730060 := 0
def tw6421213268077422581 := 0
def tw7169666274148881450 := 0
def tw1972398368800458550 := 0
def tw1177888575135005255 := 0
def tw1336505788250227726 := 0
def tw13040231535386762989 := 0
def tw9717341119000758653 := 0
def tw986355627478083515 := 0
def tw10866470671821035467 := 0
def tw5572160373983665907 := 0
def tw17303096456952493159 := 0
def tw12722103174669701042 := 0
def tw10849212725386955424 := 0
def tw11481891722780223834 := 0
def tw16698613516786437564 := 0
def tw4595213685331143652 := 0
def tw3411482111459616029 := 0
def tw8759455832053941003 := 0
def tw9737006057985591532 := 0
def tw18301243598850353768 := 0
def tw7254408296688004605 := 0
def tw16779646791306527306 := 0
def tw10623013588303037625 := 0
def tw2073219983692124921 := 0
def tw300226972015070455 := 0
def tw2150774425744091698 := 0
def tw14134930857185013485 := 0
def tw3965414383519591781 := 0
def tw15286890719564089714 := 0
def tw3263344439029100731 := 0
def tw14478146160356646531 := 0
def tw2469995709876465209 := 0
def tw5190709496284550027 := 0
def tw7269976017192383072 := 0
def tw2961970033908985782 := 0
def tw1899740004712748598 := 0
def tw17653476661530926264 := 0
def tw5077101658808768362 := 0
def tw16839075682864868683 := 0
def tw600280394786793652 := 0
def tw16798320993982212541 := 0
def tw1772104158652527069 := 0
def tw16993515561830428825 := 0
def tw13815518898735763197 := 0
def tw5353651860769177643 := 0
def tw6061516676200068308 := 0
def tw2237619608977411379 := 0
def tw8913191615625836501 := 0
def tw1110934278579260290 := 0
def tw10912232805589409413 := 0
def tw1789574280795878786 := 0
def tw2629302925542815484 := 0
def tw4373658269368406293 := 0
def tw4603944940522130099 := 0
def tw8683748147792867982 := 0
def tw2952247491118839589 := 0
def tw9500091793135948387 := 0
def tw1797373616481739809 := 0
def tw4929342329182235700 := 0
def tw183879569258283829 := 0
def tw10241158191634024111 := 0
def tw17766824273279171427 := 0
def tw14525500725532397614 := 0
def tw5666015251577173892 := 0
def tw17773040335701488724 := 0
def tw1468172504538869946 := 0
def tw939563311845690306 := 0
def tw11067419949432173749 := 0
def tw805196919453831772 := 0
def tw12610322946986176971 := 0
def tw422853140702969799 := 0
def tw18131630312856472910 := 0
def tw10146865972761729274 := 0
def tw10076414285749647110 := 0
def tw5752860766050829344 := 0
def tw14308392149607324521 := 0
def tw2307201410725156293 := 0
def tw15649299025544382179 := 0
def tw9267459448588495639 := 0
def tw2141469012153760500 := 0
def tw17321286705652311419 := 0
def tw3823842507951615593 := 0
def tw14980965850021601232 := 0
def tw8586496544428135473 := 0
def tw8498869538110057314 := 0
def tw12522681426631634269 := 0
def tw18356380384690798468 := 0
def tw16890362029579952700 := 0
def tw3339819297236896754 := 0
def tw5571116516403233877 := 0
def tw16799279109126984087 := 0
def tw10719666632740017634 := 0
def tw827842485836029503 := 0
def tw15468548563079350605 := 0
def tw4762758169211316762 := 0
def tw17796620959187760450 := 0
def tw5097584315494912589 := 0
def tw6114044146777666330 := 0
def tw4483751024416825251 := 0
def tw1688008247050434255 := 0
def tw14690429546133117403 := 0
def tw653594186629226161 := 0
def tw17449178570652026105 := 0
def tw8690683586483992354 := 0
def tw4445842589362768989 := 0
def tw14975571130466169934 := 0
def tw3024920537904776123 := 0
def tw3760304634847599466 := 0
def tw13292282216161094406 := 0
def tw1891457579504630058 := 0
def tw17420049444367844215 := 0
def tw9071217070415539893 := 0
def tw3515480907250134926 := 0
def tw13505025645529188716 := 0
def tw1755051898427257795 := 0
def tw14903858311890652863 := 0
def tw14783507526184130784 := 0
def tw12743932918376722769 := 0
def tw15148694371857812884 := 0
def tw14197460900834591624 := 0
def tw6383557373726836974 := 0
def tw4431638754464901793 := 0
def tw1984042304116916016 := 0
def tw1828135195646268587 := 0
def tw2912882009261853416 := 0
def tw166747775003529298 := 0
def tw4141880888774616213 := 0
def tw1939628537521010898 := 0
def tw5958972030231993865 := 0
def tw14262137009651864397 := 0
def tw6741907532534966995 := 0
def tw5244116262326793474 := 0
def tw3752788203315457221 := 0
def tw17820895449379318015 := 0
def tw17988678413758194223 := 0
def tw6837968772649244847 := 0
def tw9325668405645746064 := 0
def tw16052135736486572905 := 0
def tw134236969779353904 := 0
def tw12016725019657806741 := 0
def tw14996207068598720492 := 0
def tw18329238385024029716 := 0
def tw18213004261447591771 := 0
def tw14801472902267386010 := 0
def tw15018305264651419940 := 0
def tw7363908295911706409 := 0
def tw7766640628537914439 := 0
def tw13465988084923257050 := 0
def tw14484894181260768144 := 0
def tw6578836877582653460 := 0
def tw13042582117331073355 := 0
def tw5520513956658040522 := 0
def tw4848883247074234262 := 0
def tw3904203343118921135 := 0
def tw12241319637565563650 := 0
def tw14705339949852535952 := 0
def tw12738526070722890390 := 0
def tw5619453528264501430 := 0
def tw15787767833886253865 := 0
def tw13376802098429414904 := 0
def tw6187522710464210214 := 0
def tw16765218091634365577 := 0
def tw815508365103797866 := 0
def tw1940268479852558585 := 0
def tw11357128762925730386 := 0
def tw3706075384121846263 := 0
def tw17396762529437956848 := 0
def tw189490857578455008 := 0
def tw2478064258840880902 := 0
def tw14386013628554497314 := 0
def tw15489736046542540375 := 0
def tw2225845047387138186 := 0
def tw4105715239812315813 := 0
def tw14257330811752359461 := 0
def tw650522768454341026 := 0
def tw12008780858828532317 := 0
def tw3306217388978241097 := 0
def tw7057555294576423535 := 0
def tw4842940993903857577 := 0
def tw4685450262570754343 := 0
def tw11610584226064203648 := 0
def tw15768160848656615180 := 0
def tw16993022473323967642 := 0
def tw11389275897463559639 := 0
def tw20499511618734028 := 0
def tw9889133672311469740 := 0
def tw9295480524351022618 := 0
def tw14879882255063476506 := 0
def tw11071411745431852101 := 0
def tw9044824093080040937 := 0
def tw16949010885451688817 := 0
def tw16919062871262016180 := 0
def tw11165265217530168538 := 0
def tw7918280910868836937 := 0
def tw3635674743745642953 := 0
def tw5245044198149337947 := 0
def tw5630839654569838511 := 0
def tw12901926575379691615 := 0
def tw13042408185299646847 := 0
def tw16579464821804329871 := 0
def tw9968048888245589730 := 0
def tw3751511665973993450 := 0
def tw4528145461035387921 := 0
def tw1069140707469816044 := 0
def tw10351355821291339971 := 0
def tw11228887575380242518 := 0
def tw3701119178503211250 := 0
def tw14419283234160119653 := 0
def tw9744182265630809813 := 0
def tw13530271972606277424 := 0
def tw9101692780229589139 := 0
def tw18431663026861591403 := 0
def tw8381832675808342993 := 0
def tw16736789789718570989 := 0
def tw3599646006106670338 := 0
def tw13938306140617380042 := 0
def tw536548272692477919 := 0
def tw3565366125472007223 := 0
def tw6803229896988460282 := 0
def tw11699079698595769760 := 0
def tw12530620056562876427 := 0
def tw17007889481316833940 := 0
def tw3258737097918021420 := 0
def tw12805384024136985662 := 0
def tw839225895392818899 := 0
def tw9702930545247089380 := 0
def tw16332035809722728864 := 0
def tw386956422727071796 := 0
def tw10827593735816116121 := 0
def tw5388407798453531772 := 0
def tw3547047279706681660 := 0
def tw16679233242189067454 := 0
def tw2242816185505970407 := 0
def tw17169621736884297354 := 0
def tw6466634664872888207 := 0
def tw14671053444190984011 := 0
def tw2518540388527343957 := 0
def tw14773693622153271725 := 0
def tw10315702816063489556 := 0
def tw10464932012992435733 := 0
def tw12381407586266056666 := 0
def tw5331681851386005871 := 0
def tw14354005666215006737 := 0
def tw5231370104183400189 := 0
def tw13643916884183687005 := 0
def tw2780362206345358984 := 0
def tw17610306309407415102 := 0
def tw2407518617381507876 := 0
def tw2410235183161978527 := 0
def tw15046457871820539700 := 0
def tw2044599994384468826 := 0
def tw14571030602845914742 := 0
def tw3343771145920003445 := 0
def tw1028176536303265972 := 0
def tw4133843746131999004 := 0
def tw6609297211556993418 := 0
def tw10287630082348949452 := 0
def tw5391456342346601882 := 0
def tw8834515849372439749 := 0
def tw5617071618590488845 := 0
def tw729923566885813401 := 0
def tw12061560308301233493 := 0
def tw10809013910548273802 := 0
def tw9756784705631176064 := 0
def tw8722319347686388385 := 0
def tw4136436198831307344 := 0
def tw15758927882958101278 := 0
def tw13484818385436227306 := 0
def tw17744456403763836376 := 0
def tw14493880939518316039 := 0
def tw10280636499436244914 := 0
def tw16779921768482024594 := 0
def tw15881264084833712310 := 0
def tw14279060418017525918 := 0
def tw13247492788087789001 := 0
def tw5819343163315768026 := 0
def tw1395788828461263329 := 0
def tw17946920424676928325 := 0
def tw13818999770231794124 := 0
def tw2572158926953330926 := 0
def tw16237906407374353206 := 0
def tw8751959899773385214 := 0
def tw1080022789937676201 := 0
def tw13065632576772224664 := 0
def tw14772430161902860091 := 0
def tw8842782615223640281 := 0
def tw1933527053004705920 := 0
def tw3613854262760243160 := 0
def tw15768861012350608711 := 0
def tw2857546007652513349 := 0
def tw8972311374992695695 := 0
def tw356663975238185387 := 0
def tw13270372342464913671 := 0
def tw15507056950229713739 := 0
def tw4764236026038794424 := 0
def tw3433972965052651478 := 0
def tw8665145054581164567 := 0
def tw3291037966805118197 := 0
def tw18266182749499803427 := 0
def tw10816482086170235857 := 0
def tw12232122654506667104 := 0
def tw16565795674665839873 := 0
def tw12277820482571781481 := 0
def tw14248301566244790304 := 0
def tw1480581947525819955 := 0
def tw2331770773294937299 := 0
def tw3572746412932153109 := 0
def tw10468963238504743438 := 0
def tw872583035855171657 := 0
def tw15433476536410188530 := 0
def tw8012535894063538527 := 0
def tw10348749424301461329 := 0
def tw9422939611418094613 := 0
def tw13856788922448778356 := 0
def tw16763654478779244660 := 0
def tw3129870528606724255 := 0
def tw4596094658606166319 := 0
def tw9550346025843066936 := 0
def tw7594487781988838986 := 0
def tw1363926563135473871 := 0
def tw6925921478781765204 := 0
def tw13604572089908691718 := 0
def tw18011503562883565033 := 0
def tw8955321110378239366 := 0
def tw3195187468810588991 := 0
def tw17617649763369070361 := 0
def tw14931507248458063309 := 0
def tw10290882503609169339 := 0
def tw7945080172574647726 := 0
def tw2911466153544814615 := 0
def tw14320317929033894361 := 0
def tw2031549171823637943 := 0
def tw7305350007829551214 := 0
def tw455222051657577244 := 0
def tw12916206936917403402 := 0
def tw10904158789446421525 := 0
def tw9067870985609564745 := 0
def tw6934652195963551477 := 0
def tw3372777858199215025 := 0
def tw11992978208838938004 := 0
def tw15448534946123758887 := 0
def tw13181739611541400971 := 0
def tw16859567125443913563 := 0
def tw15827833727681845530 := 0
def tw9062081826066627671 := 0
def tw16944708499572100804 := 0
def tw6960626449984334651 := 0
def tw633608999368806902 := 0
def tw4010503989799192459 := 0
def tw5391992686688742460 := 0
def tw15978404160777358489 := 0
def tw116031996251147868 := 0
def tw10370906017811743510 := 0
def tw5253635295320979859 := 0
def tw16489287305642111095 := 0
def tw7343474877384482793 := 0
def tw8247313240186510944 := 0
def tw4110907583072577136 := 0
def tw8881706924092071489 := 0
def tw4629449958796456591 := 0
def tw2004502706812229207 := 0
def tw5735713101130908745 := 0
def tw1972253465814237432 := 0
def tw6250218570880365320 := 0
def tw9279828588609230998 := 0
def tw15159385396572190597 := 0
def tw17474959100927475722 := 0
def tw10600168368004628120 := 0
def tw12273401086598269929 := 0
def tw5894734009364357204 := 0
def tw10118962171724273583 := 0
def tw18223038685553388566 := 0
def tw1069484437001058166 := 0
def tw11350169601132259467 := 0
def tw1971924775781342283 := 0
def tw1854663076594742038 := 0
def tw987351780037525036 := 0
def tw4519270433039725794 := 0
def tw10731765805609982641 := 0
def tw16143497485390947834 := 0
def tw13113195250236751249 := 0
def tw17142242343013054980 := 0
def tw1029034229596045627 := 0
def tw6517972131117492589 := 0
def tw98934782308279071 := 0
def tw11459712473843126667 := 0
def tw17673975424918566244 := 0
def tw7308243236395100664 := 0
def tw10529198741420500308 := 0
def tw2487893539733968831 := 0
def tw14728957426155452371 := 0
def tw3051382057709319584 := 0
def tw4936418596275563452 := 0
def tw16512858612522610842 := 0
def tw6062764193950985291 := 0
def tw7915007750059807380 := 0
def tw7986972531260715009 := 0
def tw2797716242066579084 := 0
def tw4595621011559982011 := 0
def tw13326957636963647130 := 0
def tw17041835538668525576 := 0
def tw9604786454805854076 := 0
def tw16235493589174541711 := 0
def tw10272199491620915421 := 0
def tw9696049802959734240 := 0
def tw18443259233690200035 := 0
def tw15116504371079083511 := 0
def tw17698190094259846160 := 0
def tw9338393752942570517 := 0
def tw16171523478466082041 := 0
def tw17767222201453870880 := 0
def tw13516376188238147795 := 0
def tw6218889229596446853 := 0
def tw6154199343922263388 := 0
def tw14382974723206720508 := 0
def tw14378018204454355491 := 0
def tw338387869727029727 := 0
def tw8052021398042726022 := 0
def tw12143754698955896278 := 0
def tw6228547873259608253 := 0
def tw7092709964907598087 := 0
def tw13821645168906985268 := 0
def tw14765315171390269352 := 0
def tw4054266469604391531 := 0
def tw12604150681088622617 := 0
def tw17507506880152473630 := 0
def tw8688082897386385134 := 0
def tw7411464118527235633 := 0
def tw8465139865345372620 := 0
def tw6814967660111031682 := 0
def tw17958429800676425051 := 0
def tw6428286198706585002 := 0
def tw16684712093263726033 := 0
def tw16531633630610548850 := 0
def tw6296491730223606162 := 0
def tw1294319405174241093 := 0
def tw16990967400279488300 := 0
def tw16231401982232613508 := 0
def tw3880517501535647404 := 0
def tw11311399539403627075 := 0
def tw16023845776720363880 := 0
def tw10667367002842881816 := 0
def tw6260167818728431688 := 0
def tw4163678717912861868 := 0
def tw18048173294579976500 := 0
def tw4467465254796697996 := 0
def tw16873230383870933047 := 0
def tw5123004976205529204 := 0
def tw5969654125806231357 := 0
def tw836681850188390576 := 0
def tw7510695762187458954 := 0
def tw986798725443404199 := 0
def tw7342126746710881109 := 0
def tw13218547356146061173 := 0
def tw4515636762522620868 := 0
def tw1600930652083766745 := 0
def tw14189207728663892301 := 0
def tw12274607925950989132 := 0
def tw12677749706235389032 := 0
def tw2957823325090777356 := 0
def tw13095616820414902475 := 0
def tw14612593376133696623 := 0
def tw5522149076126712085 := 0
def tw18204008143665956503 := 0
def tw613796265161371945 := 0
def tw4941119513042496036 := 0
def tw871707008945726078 := 0
def tw8400780123320937556 := 0
def tw112494022843165052 := 0
def tw7429335496294838744 := 0
def tw8293716962979822621 := 0
def tw17252890648635875780 := 0
def tw13779833012660741211 := 0
def tw10748870695094057289 := 0
def tw6132100840482204537 := 0
def tw14670930716087022515 := 0
def tw17715492743652435569 := 0
def tw5219845803120648828 := 0
def tw2138591234451022749 := 0
def tw6056121404243142211 := 0
def tw12753195427267663333 := 0
def tw13935057774835985496 := 0
def tw12087851856311943640 := 0
def tw13591221528696225706 := 0
def tw5128973990428238657 := 0
def tw7527007114139751538 := 0
def tw7270571847227826872 := 0
end PySem.W.Fast
open PySem PySem.W PyProof.Rows
set_option maxRecDepth 100000 in
set_option maxHeartbeats 0 in
theorem PySem.Challenge.cw_taskwatch_s01_answers_holds : PySem.Challenge.rw_taskwatch_s01_answers.Holds := by
  w_on; k_headS; (case hw => exact ⟨[.list [.int 6]], by decide +kernel, by decide +kernel⟩)
  k_fillS
  refine L2.walk_specK (r := PySem.Challenge.rw_taskwatch_s01_answers) (k := 30) (CX := L2.CX0) (ps := ["calls"]) (sp := Tw.spAnswers) (by decide +kernel) rfl rfl ⟨rfl, by decide, by decide⟩ (fun w h Y => PySem.W.kIn_of Y) ?F ?S (fun _ _ _ _ z => z)
  case F =>
    intro w mg fa h Y KX G hmg
    have tKept : ∃ C, Tw.Txc_Kept (PySem.Challenge.cw_taskwatch_s01_answers_holds.heap_1 w.params) mg C := by
      refine' Tw.txc_Kept_mk KX G ?tw_ex ?tw_pg ?tw_hd ?tw_po ?tw_sa ?tw_mk ?tw_kc ?tw_a_starts ?tw_a_quick ?tw_a_doomed ?tw_a_crumbs ?tw_g0 ?tw_i0 ?tw_l0 ?tw_c0 ?tw_q0 ?tw_g1 ?tw_i1 ?tw_l1 ?tw_c1 ?tw_q1 ?tw_g2 ?tw_i2 ?tw_l2 ?tw_c2 ?tw_q2 ?tw_g3 ?tw_i3 ?tw_l3 ?tw_c3 ?tw_q3
      (case tw_ex => k_is); (case tw_pg => k_is); (case tw_hd => k_is); (case tw_po => k_is); (case tw_sa => k_is); (case tw_mk => k_is); (case tw_kc => k_is); (case tw_a_starts => k_is)
      (case tw_a_quick => k_is); (case tw_a_doomed => k_is); (case tw_a_crumbs => k_is); (case tw_g0 => k_is); (case tw_i0 => k_is); (case tw_l0 => k_is); (case tw_c0 => k_is); (case tw_q0 => k_is)
      (case tw_g1 => k_is); (case tw_i1 => k_is); (case tw_l1 => k_is); (case tw_c1 => k_is); (case tw_q1 => k_is); (case tw_g2 => k_is); (case tw_i2 => k_is); (case tw_l2 => k_is)
      (case tw_c2 => k_is); (case tw_q2 => k_is); (case tw_g3 => k_is); (case tw_i3 => k_is); (case tw_l3 => k_is); (case tw_c3 => k_is); (case tw_q3 => k_is)
    have tCall : ∃ C, Tw.Txc_Call (PySem.Challenge.cw_taskwatch_s01_answers_holds.heap_1 w.params) mg C := by
      refine' Tw.txc_Call_mk KX G ?tw_ex ?tw_pg ?tw_hd ?tw_po ?tw_sa ?tw_mk ?tw_kc ?tw_a_number ?tw_a_given ?tw_a_octets ?tw_g0 ?tw_i0 ?tw_l0 ?tw_c0 ?tw_q0
      (case tw_ex => k_is); (case tw_pg => k_is); (case tw_hd => k_is); (case tw_po => k_is); (case tw_sa => k_is); (case tw_mk => k_is); (case tw_kc => k_is); (case tw_a_number => k_is)
      (case tw_a_given => k_is); (case tw_a_octets => k_is); (case tw_g0 => k_is); (case tw_i0 => k_is); (case tw_l0 => k_is); (case tw_c0 => k_is); (case tw_q0 => k_is)
    have tTask : ∃ C, Tw.Txc_Task (PySem.Challenge.cw_taskwatch_s01_answers_holds.heap_1 w.params) mg C := by
      refine' Tw.txc_Task_mk KX G ?tw_ex ?tw_pg ?tw_hd ?tw_po ?tw_sa ?tw_mk ?tw_kc ?tw_a_limit ?tw_a_rank ?tw_a_most ?tw_a_span ?tw_a_first ?tw_a_main ?tw_a_phase ?tw_a_moment ?tw_a_heard ?tw_a_place ?tw_a_late ?tw_a_wait ?tw_a_times ?tw_g0 ?tw_i0 ?tw_l0 ?tw_c0 ?tw_q0 ?tw_g1 ?tw_i1 ?tw_l1 ?tw_c1 ?tw_q1 ?tw_g2 ?tw_i2 ?tw_l2 ?tw_c2 ?tw_q2 ?tw_g3 ?tw_i3 ?tw_l3 ?tw_c3 ?tw_q3 ?tw_g4 ?tw_i4 ?tw_l4 ?tw_c4 ?tw_q4 ?tw_g5 ?tw_i5 ?tw_l5 ?tw_c5 ?tw_q5 ?tw_g6 ?tw_i6 ?tw_l6 ?tw_c6 ?tw_q6 ?tw_g7 ?tw_i7 ?tw_l7 ?tw_c7 ?tw_q7 ?tw_g8 ?tw_i8 ?tw_l8 ?tw_c8 ?tw_q8 ?tw_g9 ?tw_i9 ?tw_l9 ?tw_c9 ?tw_q9 ?tw_g10 ?tw_i10 ?tw_l10 ?tw_c10 ?tw_q10 ?tw_g11 ?tw_i11 ?tw_l11 ?tw_c11 ?tw_q11 ?tw_g12 ?tw_i12 ?tw_l12 ?tw_c12 ?tw_q12
      (case tw_ex => k_is); (case tw_pg => k_is); (case tw_hd => k_is); (case tw_po => k_is); (case tw_sa => k_is); (case tw_mk => k_is); (case tw_kc => k_is); (case tw_a_limit => k_is)
      (case tw_a_rank => k_is); (case tw_a_most => k_is); (case tw_a_span => k_is); (case tw_a_first => k_is); (case tw_a_main => k_is); (case tw_a_phase => k_is); (case tw_a_moment => k_is); (case tw_a_heard => k_is)
      (case tw_a_place => k_is); (case tw_a_late => k_is); (case tw_a_wait => k_is); (case tw_a_times => k_is); (case tw_g0 => k_is); (case tw_i0 => k_is); (case tw_l0 => k_is); (case tw_c0 => k_is)
      (case tw_q0 => k_is); (case tw_g1 => k_is); (case tw_i1 => k_is); (case tw_l1 => k_is); (case tw_c1 => k_is); (case tw_q1 => k_is); (case tw_g2 => k_is); (case tw_i2 => k_is)
      (case tw_l2 => k_is); (case tw_c2 => k_is); (case tw_q2 => k_is); (case tw_g3 => k_is); (case tw_i3 => k_is); (case tw_l3 => k_is); (case tw_c3 => k_is); (case tw_q3 => k_is)
      (case tw_g4 => k_is); (case tw_i4 => k_is); (case tw_l4 => k_is); (case tw_c4 => k_is); (case tw_q4 => k_is); (case tw_g5 => k_is); (case tw_i5 => k_is); (case tw_l5 => k_is)
      (case tw_c5 => k_is); (case tw_q5 => k_is); (case tw_g6 => k_is); (case tw_i6 => k_is); (case tw_l6 => k_is); (case tw_c6 => k_is); (case tw_q6 => k_is); (case tw_g7 => k_is)
      (case tw_i7 => k_is); (case tw_l7 => k_is); (case tw_c7 => k_is); (case tw_q7 => k_is); (case tw_g8 => k_is); (case tw_i8 => k_is); (case tw_l8 => k_is); (case tw_c8 => k_is)
      (case tw_q8 => k_is); (case tw_g9 => k_is); (case tw_i9 => k_is); (case tw_l9 => k_is); (case tw_c9 => k_is); (case tw_q9 => k_is); (case tw_g10 => k_is); (case tw_i10 => k_is)
      (case tw_l10 => k_is); (case tw_c10 => k_is); (case tw_q10 => k_is); (case tw_g11 => k_is); (case tw_i11 => k_is); (case tw_l11 => k_is); (case tw_c11 => k_is); (case tw_q11 => k_is)
      (case tw_g12 => k_is); (case tw_i12 => k_is); (case tw_l12 => k_is); (case tw_c12 => k_is); (case tw_q12 => k_is)
    have tStation : ∃ C, Tw.Txc_Station (PySem.Challenge.cw_taskwatch_s01_answers_holds.heap_1 w.params) mg C := by
      refine' Tw.txc_Station_mk KX G ?tw_ex ?tw_pg ?tw_hd ?tw_po ?tw_sa ?tw_mk ?tw_kc ?tw_a_begun ?tw_a_began ?tw_a_now ?tw_a_cause ?tw_a_known ?tw_a_doubt ?tw_a_before ?tw_a_kept ?tw_a_tasks ?tw_g0 ?tw_i0 ?tw_l0 ?tw_c0 ?tw_q0 ?tw_g1 ?tw_i1 ?tw_l1 ?tw_c1 ?tw_q1 ?tw_g2 ?tw_i2 ?tw_l2 ?tw_c2 ?tw_q2 ?tw_g3 ?tw_i3 ?tw_l3 ?tw_c3 ?tw_q3 ?tw_g4 ?tw_i4 ?tw_l4 ?tw_c4 ?tw_q4 ?tw_g5 ?tw_i5 ?tw_l5 ?tw_c5 ?tw_q5 ?tw_g6 ?tw_i6 ?tw_l6 ?tw_c6 ?tw_q6 ?tw_g7 ?tw_i7 ?tw_l7 ?tw_c7 ?tw_q7 ?tw_g8 ?tw_i8 ?tw_l8 ?tw_c8 ?tw_q8 ?tw_g9 ?tw_i9 ?tw_l9 ?tw_c9 ?tw_q9 ?tw_g10 ?tw_i10 ?tw_l10 ?tw_c10 ?tw_q10 ?tw_g11 ?tw_i11 ?tw_l11 ?tw_c11 ?tw_q11 ?tw_g12 ?tw_i12 ?tw_l12 ?tw_c12 ?tw_q12
      (case tw_ex => k_is); (case tw_pg => k_is); (case tw_hd => k_is); (case tw_po => k_is); (case tw_sa => k_is); (case tw_mk => k_is); (case tw_kc => k_is); (case tw_a_begun => k_is)
      (case tw_a_began => k_is); (case tw_a_now => k_is); (case tw_a_cause => k_is); (case tw_a_known => k_is); (case tw_a_doubt => k_is); (case tw_a_before => k_is); (case tw_a_kept => k_is); (case tw_a_tasks => k_is)
      (case tw_g0 => k_is); (case tw_i0 => k_is); (case tw_l0 => k_is); (case tw_c0 => k_is); (case tw_q0 => k_is); (case tw_g1 => k_is); (case tw_i1 => k_is); (case tw_l1 => k_is)
      (case tw_c1 => k_is); (case tw_q1 => k_is); (case tw_g2 => k_is); (case tw_i2 => k_is); (case tw_l2 => k_is); (case tw_c2 => k_is); (case tw_q2 => k_is); (case tw_g3 => k_is)
      (case tw_i3 => k_is); (case tw_l3 => k_is); (case tw_c3 => k_is); (case tw_q3 => k_is); (case tw_g4 => k_is); (case tw_i4 => k_is); (case tw_l4 => k_is); (case tw_c4 => k_is)
      (case tw_q4 => k_is); (case tw_g5 => k_is); (case tw_i5 => k_is); (case tw_l5 => k_is); (case tw_c5 => k_is); (case tw_q5 => k_is); (case tw_g6 => k_is); (case tw_i6 => k_is)
      (case tw_l6 => k_is); (case tw_c6 => k_is); (case tw_q6 => k_is); (case tw_g7 => k_is); (case tw_i7 => k_is); (case tw_l7 => k_is); (case tw_c7 => k_is); (case tw_q7 => k_is)
      (case tw_g8 => k_is); (case tw_i8 => k_is); (case tw_l8 => k_is); (case tw_c8 => k_is); (case tw_q8 => k_is); (case tw_g9 => k_is); (case tw_i9 => k_is); (case tw_l9 => k_is)
      (case tw_c9 => k_is); (case tw_q9 => k_is); (case tw_g10 => k_is); (case tw_i10 => k_is); (case tw_l10 => k_is); (case tw_c10 => k_is); (case tw_q10 => k_is); (case tw_g11 => k_is)
      (case tw_i11 => k_is); (case tw_l11 => k_is); (case tw_c11 => k_is); (case tw_q11 => k_is); (case tw_g12 => k_is); (case tw_i12 => k_is); (case tw_l12 => k_is); (case tw_c12 => k_is)
      (case tw_q12 => k_is)
    have c_BLOCK_SIZE : Tw.Cn mg "BLOCK_SIZE" (49) := by refine' Tw.cn_mk (K := (PySem.Challenge.cw_taskwatch_s01_answers_holds.heap_1 w.params)) KX G ?tw_e; (case tw_e => k_is)
    have c_SUMMED_SIZE : Tw.Cn mg "SUMMED_SIZE" (45) := by refine' Tw.cn_mk (K := (PySem.Challenge.cw_taskwatch_s01_answers_holds.heap_1 w.params)) KX G ?tw_e; (case tw_e => k_is)
    have c_FIRST_BYTE : Tw.Cn mg "FIRST_BYTE" (87) := by refine' Tw.cn_mk (K := (PySem.Challenge.cw_taskwatch_s01_answers_holds.heap_1 w.params)) KX G ?tw_e; (case tw_e => k_is)
    have c_SECOND_BYTE : Tw.Cn mg "SECOND_BYTE" (1) := by refine' Tw.cn_mk (K := (PySem.Challenge.cw_taskwatch_s01_answers_holds.heap_1 w.params)) KX G ?tw_e; (case tw_e => k_is)
    have c_STARTS_AT : Tw.Cn mg "STARTS_AT" (2) := by refine' Tw.cn_mk (K := (PySem.Challenge.cw_taskwatch_s01_answers_holds.heap_1 w.params)) KX G ?tw_e; (case tw_e => k_is)
    have c_QUICK_AT : Tw.Cn mg "QUICK_AT" (18) := by refine' Tw.cn_mk (K := (PySem.Challenge.cw_taskwatch_s01_answers_holds.heap_1 w.params)) KX G ?tw_e; (case tw_e => k_is)
    have c_DOOMED_AT : Tw.Cn mg "DOOMED_AT" (19) := by refine' Tw.cn_mk (K := (PySem.Challenge.cw_taskwatch_s01_answers_holds.heap_1 w.params)) KX G ?tw_e; (case tw_e => k_is)
    have c_CRUMB_COUNT_AT : Tw.Cn mg "CRUMB_COUNT_AT" (20) := by refine' Tw.cn_mk (K := (PySem.Challenge.cw_taskwatch_s01_answers_holds.heap_1 w.params)) KX G ?tw_e; (case tw_e => k_is)
    have c_CRUMBS_AT : Tw.Cn mg "CRUMBS_AT" (21) := by refine' Tw.cn_mk (K := (PySem.Challenge.cw_taskwatch_s01_answers_holds.heap_1 w.params)) KX G ?tw_e; (case tw_e => k_is)
    have c_CRUMB_SIZE : Tw.Cn mg "CRUMB_SIZE" (3) := by refine' Tw.cn_mk (K := (PySem.Challenge.cw_taskwatch_s01_answers_holds.heap_1 w.params)) KX G ?tw_e; (case tw_e => k_is)
    have c_PLACE_SIZE : Tw.Cn mg "PLACE_SIZE" (2) := by refine' Tw.cn_mk (K := (PySem.Challenge.cw_taskwatch_s01_answers_holds.heap_1 w.params)) KX G ?tw_e; (case tw_e => k_is)
    have c_START_SIZE : Tw.Cn mg "START_SIZE" (4) := by refine' Tw.cn_mk (K := (PySem.Challenge.cw_taskwatch_s01_answers_holds.heap_1 w.params)) KX G ?tw_e; (case tw_e => k_is)
    have c_SUM_SIZE : Tw.Cn mg "SUM_SIZE" (4) := by refine' Tw.cn_mk (K := (PySem.Challenge.cw_taskwatch_s01_answers_holds.heap_1 w.params)) KX G ?tw_e; (case tw_e => k_is)
    have c_CAUSES : Tw.Cn mg "CAUSES" (4) := by refine' Tw.cn_mk (K := (PySem.Challenge.cw_taskwatch_s01_answers_holds.heap_1 w.params)) KX G ?tw_e; (case tw_e => k_is)
    have c_MOST_CRUMBS : Tw.Cn mg "MOST_CRUMBS" (8) := by refine' Tw.cn_mk (K := (PySem.Challenge.cw_taskwatch_s01_answers_holds.heap_1 w.params)) KX G ?tw_e; (case tw_e => k_is)
    have c_MOST_DOOMED : Tw.Cn mg "MOST_DOOMED" (16) := by refine' Tw.cn_mk (K := (PySem.Challenge.cw_taskwatch_s01_answers_holds.heap_1 w.params)) KX G ?tw_e; (case tw_e => k_is)
    have c_MOST_TASK : Tw.Cn mg "MOST_TASK" (15) := by refine' Tw.cn_mk (K := (PySem.Challenge.cw_taskwatch_s01_answers_holds.heap_1 w.params)) KX G ?tw_e; (case tw_e => k_is)
    have c_MOST_STARTS : Tw.Cn mg "MOST_STARTS" (4294967295) := by refine' Tw.cn_mk (K := (PySem.Challenge.cw_taskwatch_s01_answers_holds.heap_1 w.params)) KX G ?tw_e; (case tw_e => k_is)
    have c_MOST_QUICK : Tw.Cn mg "MOST_QUICK" (255) := by refine' Tw.cn_mk (K := (PySem.Challenge.cw_taskwatch_s01_answers_holds.heap_1 w.params)) KX G ?tw_e; (case tw_e => k_is)
    have c_BY_THE_WATCH : Tw.Cn mg "BY_THE_WATCH" (1) := by refine' Tw.cn_mk (K := (PySem.Challenge.cw_taskwatch_s01_answers_holds.heap_1 w.params)) KX G ?tw_e; (case tw_e => k_is)
    have c_ALL_ONES : Tw.Cn mg "ALL_ONES" (4294967295) := by refine' Tw.cn_mk (K := (PySem.Challenge.cw_taskwatch_s01_answers_holds.heap_1 w.params)) KX G ?tw_e; (case tw_e => k_is)
    have c_POLYNOMIAL : Tw.Cn mg "POLYNOMIAL" (2197175160) := by refine' Tw.cn_mk (K := (PySem.Challenge.cw_taskwatch_s01_answers_holds.heap_1 w.params)) KX G ?tw_e; (case tw_e => k_is)
    have c_BEGIN : Tw.Cn mg "BEGIN" (0) := by refine' Tw.cn_mk (K := (PySem.Challenge.cw_taskwatch_s01_answers_holds.heap_1 w.params)) KX G ?tw_e; (case tw_e => k_is)
    have c_TASK : Tw.Cn mg "TASK" (1) := by refine' Tw.cn_mk (K := (PySem.Challenge.cw_taskwatch_s01_answers_holds.heap_1 w.params)) KX G ?tw_e; (case tw_e => k_is)
    have c_REPORT : Tw.Cn mg "REPORT" (2) := by refine' Tw.cn_mk (K := (PySem.Challenge.cw_taskwatch_s01_answers_holds.heap_1 w.params)) KX G ?tw_e; (case tw_e => k_is)
    have c_TICK : Tw.Cn mg "TICK" (3) := by refine' Tw.cn_mk (K := (PySem.Challenge.cw_taskwatch_s01_answers_holds.heap_1 w.params)) KX G ?tw_e; (case tw_e => k_is)
    have c_ASK : Tw.Cn mg "ASK" (4) := by refine' Tw.cn_mk (K := (PySem.Challenge.cw_taskwatch_s01_answers_holds.heap_1 w.params)) KX G ?tw_e; (case tw_e => k_is)
    have c_HALT : Tw.Cn mg "HALT" (5) := by refine' Tw.cn_mk (K := (PySem.Challenge.cw_taskwatch_s01_answers_holds.heap_1 w.params)) KX G ?tw_e; (case tw_e => k_is)
    have c_KEEP : Tw.Cn mg "KEEP" (6) := by refine' Tw.cn_mk (K := (PySem.Challenge.cw_taskwatch_s01_answers_holds.heap_1 w.params)) KX G ?tw_e; (case tw_e => k_is)
    have c_SAID : Tw.Cn mg "SAID" (7) := by refine' Tw.cn_mk (K := (PySem.Challenge.cw_taskwatch_s01_answers_holds.heap_1 w.params)) KX G ?tw_e; (case tw_e => k_is)
    have c_LOOK : Tw.Cn mg "LOOK" (8) := by refine' Tw.cn_mk (K := (PySem.Challenge.cw_taskwatch_s01_answers_holds.heap_1 w.params)) KX G ?tw_e; (case tw_e => k_is)
    have c_LIST : Tw.Cn mg "LIST" (9) := by refine' Tw.cn_mk (K := (PySem.Challenge.cw_taskwatch_s01_answers_holds.heap_1 w.params)) KX G ?tw_e; (case tw_e => k_is)
    have c_WAITS : Tw.Cn mg "WAITS" (0) := by refine' Tw.cn_mk (K := (PySem.Challenge.cw_taskwatch_s01_answers_holds.heap_1 w.params)) KX G ?tw_e; (case tw_e => k_is)
    have c_RUNS : Tw.Cn mg "RUNS" (1) := by refine' Tw.cn_mk (K := (PySem.Challenge.cw_taskwatch_s01_answers_holds.heap_1 w.params)) KX G ?tw_e; (case tw_e => k_is)
    have c_STANDS : Tw.Cn mg "STANDS" (2) := by refine' Tw.cn_mk (K := (PySem.Challenge.cw_taskwatch_s01_answers_holds.heap_1 w.params)) KX G ?tw_e; (case tw_e => k_is)
    have c_NOTED : Tw.Cn mg "NOTED" (0) := by refine' Tw.cn_mk (K := (PySem.Challenge.cw_taskwatch_s01_answers_holds.heap_1 w.params)) KX G ?tw_e; (case tw_e => k_is)
    have c_STARTED_AGAIN : Tw.Cn mg "STARTED_AGAIN" (1) := by refine' Tw.cn_mk (K := (PySem.Challenge.cw_taskwatch_s01_answers_holds.heap_1 w.params)) KX G ?tw_e; (case tw_e => k_is)
    have c_START : Tw.Cn mg "START" (0) := by refine' Tw.cn_mk (K := (PySem.Challenge.cw_taskwatch_s01_answers_holds.heap_1 w.params)) KX G ?tw_e; (case tw_e => k_is)
    have c_STOP : Tw.Cn mg "STOP" (1) := by refine' Tw.cn_mk (K := (PySem.Challenge.cw_taskwatch_s01_answers_holds.heap_1 w.params)) KX G ?tw_e; (case tw_e => k_is)
    have c_NOTE : Tw.Cn mg "NOTE" (2) := by refine' Tw.cn_mk (K := (PySem.Challenge.cw_taskwatch_s01_answers_holds.heap_1 w.params)) KX G ?tw_e; (case tw_e => k_is)
    have c_ANEW : Tw.Cn mg "ANEW" (3) := by refine' Tw.cn_mk (K := (PySem.Challenge.cw_taskwatch_s01_answers_holds.heap_1 w.params)) KX G ?tw_e; (case tw_e => k_is)
    have c_FEED : Tw.Cn mg "FEED" (4) := by refine' Tw.cn_mk (K := (PySem.Challenge.cw_taskwatch_s01_answers_holds.heap_1 w.params)) KX G ?tw_e; (case tw_e => k_is)
    have c_GIVE_UP : Tw.Cn mg "GIVE_UP" (5) := by refine' Tw.cn_mk (K := (PySem.Challenge.cw_taskwatch_s01_answers_holds.heap_1 w.params)) KX G ?tw_e; (case tw_e => k_is)
    have c_MOST_WAITS : Tw.Cn mg "MOST_WAITS" (64) := by refine' Tw.cn_mk (K := (PySem.Challenge.cw_taskwatch_s01_answers_holds.heap_1 w.params)) KX G ?tw_e; (case tw_e => k_is)
    have c_OUT_OF_RANGE : Tw.Cn mg "OUT_OF_RANGE" (-1) := by refine' Tw.cn_mk (K := (PySem.Challenge.cw_taskwatch_s01_answers_holds.heap_1 w.params)) KX G ?tw_e; (case tw_e => k_is)
    have c_NO_SUCH_TASK : Tw.Cn mg "NO_SUCH_TASK" (-2) := by refine' Tw.cn_mk (K := (PySem.Challenge.cw_taskwatch_s01_answers_holds.heap_1 w.params)) KX G ?tw_e; (case tw_e => k_is)
    have c_NOT_NOW : Tw.Cn mg "NOT_NOW" (-4) := by refine' Tw.cn_mk (K := (PySem.Challenge.cw_taskwatch_s01_answers_holds.heap_1 w.params)) KX G ?tw_e; (case tw_e => k_is)
    have c_QUICK_IN_DOUBT : Tw.Cn mg "QUICK_IN_DOUBT" (3) := by refine' Tw.cn_mk (K := (PySem.Challenge.cw_taskwatch_s01_answers_holds.heap_1 w.params)) KX G ?tw_e; (case tw_e => k_is)
    have c_CALM_AFTER : Tw.Cn mg "CALM_AFTER" (600000000) := by refine' Tw.cn_mk (K := (PySem.Challenge.cw_taskwatch_s01_answers_holds.heap_1 w.params)) KX G ?tw_e; (case tw_e => k_is)
    have b_len : mg "len" = none := by refine' PySem.W.mg_none_of (K := (PySem.Challenge.cw_taskwatch_s01_answers_holds.heap_1 w.params)) KX G ?tw_e; (case tw_e => k_is)
    have b_range : mg "range" = none := by refine' PySem.W.mg_none_of (K := (PySem.Challenge.cw_taskwatch_s01_answers_holds.heap_1 w.params)) KX G ?tw_e; (case tw_e => k_is)
    have b_min : mg "min" = none := by refine' PySem.W.mg_none_of (K := (PySem.Challenge.cw_taskwatch_s01_answers_holds.heap_1 w.params)) KX G ?tw_e; (case tw_e => k_is)
    have b_any : mg "any" = none := by refine' PySem.W.mg_none_of (K := (PySem.Challenge.cw_taskwatch_s01_answers_holds.heap_1 w.params)) KX G ?tw_e; (case tw_e => k_is)
    have b_reversed : mg "reversed" = none := by refine' PySem.W.mg_none_of (K := (PySem.Challenge.cw_taskwatch_s01_answers_holds.heap_1 w.params)) KX G ?tw_e; (case tw_e => k_is)
    have b_sorted : mg "sorted" = none := by refine' PySem.W.mg_none_of (K := (PySem.Challenge.cw_taskwatch_s01_answers_holds.heap_1 w.params)) KX G ?tw_e; (case tw_e => k_is)
    have b_list : mg "list" = none := by refine' PySem.W.mg_none_of (K := (PySem.Challenge.cw_taskwatch_s01_answers_holds.heap_1 w.params)) KX G ?tw_e; (case tw_e => k_is)
    have b_enumerate : mg "enumerate" = none := by refine' PySem.W.mg_none_of (K := (PySem.Challenge.cw_taskwatch_s01_answers_holds.heap_1 w.params)) KX G ?tw_e; (case tw_e => k_is)
    have f_nothing_kept : Tw.FnT (PySem.Challenge.cw_taskwatch_s01_answers_holds.heap_1 w.params) mg "nothing_kept" Tw.s_nothing_kept := by refine' Tw.fnT_mk KX G ?tw_e ?tw_l ?tw_c ?tw_k; (case tw_e => k_is); (case tw_l => k_is); (case tw_c => k_is); (case tw_k => k_is)
    have f_kept_from : Tw.FnT (PySem.Challenge.cw_taskwatch_s01_answers_holds.heap_1 w.params) mg "kept_from" Tw.s_kept_from := by refine' Tw.fnT_mk KX G ?tw_e ?tw_l ?tw_c ?tw_k; (case tw_e => k_is); (case tw_l => k_is); (case tw_c => k_is); (case tw_k => k_is)
    have f_checksum : Tw.FnT (PySem.Challenge.cw_taskwatch_s01_answers_holds.heap_1 w.params) mg "checksum" Tw.s_checksum := by refine' Tw.fnT_mk KX G ?tw_e ?tw_l ?tw_c ?tw_k; (case tw_e => k_is); (case tw_l => k_is); (case tw_c => k_is); (case tw_k => k_is)
    have f_number_from : Tw.FnT (PySem.Challenge.cw_taskwatch_s01_answers_holds.heap_1 w.params) mg "number_from" Tw.s_number_from := by refine' Tw.fnT_mk KX G ?tw_e ?tw_l ?tw_c ?tw_k; (case tw_e => k_is); (case tw_l => k_is); (case tw_c => k_is); (case tw_k => k_is)
    have f_octets_from : Tw.FnT (PySem.Challenge.cw_taskwatch_s01_answers_holds.heap_1 w.params) mg "octets_from" Tw.s_octets_from := by refine' Tw.fnT_mk KX G ?tw_e ?tw_l ?tw_c ?tw_k; (case tw_e => k_is); (case tw_l => k_is); (case tw_c => k_is); (case tw_k => k_is)
    have f_crumbs_end : Tw.FnT (PySem.Challenge.cw_taskwatch_s01_answers_holds.heap_1 w.params) mg "crumbs_end" Tw.s_crumbs_end := by refine' Tw.fnT_mk KX G ?tw_e ?tw_l ?tw_c ?tw_k; (case tw_e => k_is); (case tw_l => k_is); (case tw_c => k_is); (case tw_k => k_is)
    have f_crumbs_fit : Tw.FnT (PySem.Challenge.cw_taskwatch_s01_answers_holds.heap_1 w.params) mg "crumbs_fit" Tw.s_crumbs_fit := by refine' Tw.fnT_mk KX G ?tw_e ?tw_l ?tw_c ?tw_k; (case tw_e => k_is); (case tw_l => k_is); (case tw_c => k_is); (case tw_k => k_is)
    have f_is_block : Tw.FnT (PySem.Challenge.cw_taskwatch_s01_answers_holds.heap_1 w.params) mg "is_block" Tw.s_is_block := by refine' Tw.fnT_mk KX G ?tw_e ?tw_l ?tw_c ?tw_k; (case tw_e => k_is); (case tw_l => k_is); (case tw_c => k_is); (case tw_k => k_is)
    have f_read_block : Tw.FnT (PySem.Challenge.cw_taskwatch_s01_answers_holds.heap_1 w.params) mg "read_block" Tw.s_read_block := by refine' Tw.fnT_mk KX G ?tw_e ?tw_l ?tw_c ?tw_k; (case tw_e => k_is); (case tw_l => k_is); (case tw_c => k_is); (case tw_k => k_is)
    have f_write_block : Tw.FnT (PySem.Challenge.cw_taskwatch_s01_answers_holds.heap_1 w.params) mg "write_block" Tw.s_write_block := by refine' Tw.fnT_mk KX G ?tw_e ?tw_l ?tw_c ?tw_k; (case tw_e => k_is); (case tw_l => k_is); (case tw_c => k_is); (case tw_k => k_is)
    have f_read_call : Tw.FnT (PySem.Challenge.cw_taskwatch_s01_answers_holds.heap_1 w.params) mg "read_call" Tw.s_read_call := by refine' Tw.fnT_mk KX G ?tw_e ?tw_l ?tw_c ?tw_k; (case tw_e => k_is); (case tw_l => k_is); (case tw_c => k_is); (case tw_k => k_is)
    have f_size_of : Tw.FnT (PySem.Challenge.cw_taskwatch_s01_answers_holds.heap_1 w.params) mg "size_of" Tw.s_size_of := by refine' Tw.fnT_mk KX G ?tw_e ?tw_l ?tw_c ?tw_k; (case tw_e => k_is); (case tw_l => k_is); (case tw_c => k_is); (case tw_k => k_is)
    have f_split_calls : Tw.FnT (PySem.Challenge.cw_taskwatch_s01_answers_holds.heap_1 w.params) mg "split_calls" Tw.s_split_calls := by refine' Tw.fnT_mk KX G ?tw_e ?tw_l ?tw_c ?tw_k; (case tw_e => k_is); (case tw_l => k_is); (case tw_c => k_is); (case tw_k => k_is)
    have f_in_ranges : Tw.FnT (PySem.Challenge.cw_taskwatch_s01_answers_holds.heap_1 w.params) mg "in_ranges" Tw.s_in_ranges := by refine' Tw.fnT_mk KX G ?tw_e ?tw_l ?tw_c ?tw_k; (case tw_e => k_is); (case tw_l => k_is); (case tw_c => k_is); (case tw_k => k_is)
    have f_task_from : Tw.FnT (PySem.Challenge.cw_taskwatch_s01_answers_holds.heap_1 w.params) mg "task_from" Tw.s_task_from := by refine' Tw.fnT_mk KX G ?tw_e ?tw_l ?tw_c ?tw_k; (case tw_e => k_is); (case tw_l => k_is); (case tw_c => k_is); (case tw_k => k_is)
    have f_told : Tw.FnT (PySem.Challenge.cw_taskwatch_s01_answers_holds.heap_1 w.params) mg "told" Tw.s_told := by refine' Tw.fnT_mk KX G ?tw_e ?tw_l ?tw_c ?tw_k; (case tw_e => k_is); (case tw_l => k_is); (case tw_c => k_is); (case tw_k => k_is)
    have f_refused_by_promise : Tw.FnT (PySem.Challenge.cw_taskwatch_s01_answers_holds.heap_1 w.params) mg "refused_by_promise" Tw.s_refused_by_promise := by refine' Tw.fnT_mk KX G ?tw_e ?tw_l ?tw_c ?tw_k; (case tw_e => k_is); (case tw_l => k_is); (case tw_c => k_is); (case tw_k => k_is)
    have f_refusal_of : Tw.FnT (PySem.Challenge.cw_taskwatch_s01_answers_holds.heap_1 w.params) mg "refusal_of" Tw.s_refusal_of := by refine' Tw.fnT_mk KX G ?tw_e ?tw_l ?tw_c ?tw_k; (case tw_e => k_is); (case tw_l => k_is); (case tw_c => k_is); (case tw_k => k_is)
    have f_act : Tw.FnT (PySem.Challenge.cw_taskwatch_s01_answers_holds.heap_1 w.params) mg "act" Tw.s_act := by refine' Tw.fnT_mk KX G ?tw_e ?tw_l ?tw_c ?tw_k; (case tw_e => k_is); (case tw_l => k_is); (case tw_c => k_is); (case tw_k => k_is)
    have f_tell : Tw.FnT (PySem.Challenge.cw_taskwatch_s01_answers_holds.heap_1 w.params) mg "tell" Tw.s_tell := by refine' Tw.fnT_mk KX G ?tw_e ?tw_l ?tw_c ?tw_k; (case tw_e => k_is); (case tw_l => k_is); (case tw_c => k_is); (case tw_k => k_is)
    have f_carry_out : Tw.FnT (PySem.Challenge.cw_taskwatch_s01_answers_holds.heap_1 w.params) mg "carry_out" Tw.s_carry_out := by refine' Tw.fnT_mk KX G ?tw_e ?tw_l ?tw_c ?tw_k; (case tw_e => k_is); (case tw_l => k_is); (case tw_c => k_is); (case tw_k => k_is)
    have f_answer_to : Tw.FnT (PySem.Challenge.cw_taskwatch_s01_answers_holds.heap_1 w.params) mg "answer_to" Tw.s_answer_to := by refine' Tw.fnT_mk KX G ?tw_e ?tw_l ?tw_c ?tw_k; (case tw_e => k_is); (case tw_l => k_is); (case tw_c => k_is); (case tw_k => k_is)
    have f_answers : Tw.FnT (PySem.Challenge.cw_taskwatch_s01_answers_holds.heap_1 w.params) mg "answers" Tw.s_answers := by refine' Tw.fnT_mk KX G ?tw_e ?tw_l ?tw_c ?tw_k; (case tw_e => k_is); (case tw_l => k_is); (case tw_c => k_is); (case tw_k => k_is)
    obtain ⟨CKept, tKept⟩ := tKept
    obtain ⟨CCall, tCall⟩ := tCall
    obtain ⟨CTask, tTask⟩ := tTask
    obtain ⟨CStation, tStation⟩ := tStation
    have T : Tw.Txt (PySem.Challenge.cw_taskwatch_s01_answers_holds.heap_1 w.params) mg ⟨CKept, CCall, CTask, CStation⟩ := { tKept, tCall, tTask, tStation with c_BLOCK_SIZE := c_BLOCK_SIZE, c_SUMMED_SIZE := c_SUMMED_SIZE, c_FIRST_BYTE := c_FIRST_BYTE, c_SECOND_BYTE := c_SECOND_BYTE, c_STARTS_AT := c_STARTS_AT, c_QUICK_AT := c_QUICK_AT, c_DOOMED_AT := c_DOOMED_AT, c_CRUMB_COUNT_AT := c_CRUMB_COUNT_AT, c_CRUMBS_AT := c_CRUMBS_AT, c_CRUMB_SIZE := c_CRUMB_SIZE, c_PLACE_SIZE := c_PLACE_SIZE, c_START_SIZE := c_START_SIZE, c_SUM_SIZE := c_SUM_SIZE, c_CAUSES := c_CAUSES, c_MOST_CRUMBS := c_MOST_CRUMBS, c_MOST_DOOMED := c_MOST_DOOMED, c_MOST_TASK := c_MOST_TASK, c_MOST_STARTS := c_MOST_STARTS, c_MOST_QUICK := c_MOST_QUICK, c_BY_THE_WATCH := c_BY_THE_WATCH, c_ALL_ONES := c_ALL_ONES, c_POLYNOMIAL := c_POLYNOMIAL, c_BEGIN := c_BEGIN, c_TASK := c_TASK, c_REPORT := c_REPORT, c_TICK := c_TICK, c_ASK := c_ASK, c_HALT := c_HALT, c_KEEP := c_KEEP, c_SAID := c_SAID, c_LOOK := c_LOOK, c_LIST := c_LIST, c_WAITS := c_WAITS, c_RUNS := c_RUNS, c_STANDS := c_STANDS, c_NOTED := c_NOTED, c_STARTED_AGAIN := c_STARTED_AGAIN, c_START := c_START, c_STOP := c_STOP, c_NOTE := c_NOTE, c_ANEW := c_ANEW, c_FEED := c_FEED, c_GIVE_UP := c_GIVE_UP, c_MOST_WAITS := c_MOST_WAITS, c_OUT_OF_RANGE := c_OUT_OF_RANGE, c_NO_SUCH_TASK := c_NO_SUCH_TASK, c_NOT_NOW := c_NOT_NOW, c_QUICK_IN_DOUBT := c_QUICK_IN_DOUBT, c_CALM_AFTER := c_CALM_AFTER, b_len := b_len, b_range := b_range, b_min := b_min, b_any := b_any, b_reversed := b_reversed, b_sorted := b_sorted, b_list := b_list, b_enumerate := b_enumerate, f_nothing_kept := f_nothing_kept, f_kept_from := f_kept_from, f_checksum := f_checksum, f_number_from := f_number_from, f_octets_from := f_octets_from, f_crumbs_end := f_crumbs_end, f_crumbs_fit := f_crumbs_fit, f_is_block := f_is_block, f_read_block := f_read_block, f_write_block := f_write_block, f_read_call := f_read_call, f_size_of := f_size_of, f_split_calls := f_split_calls, f_in_ranges := f_in_ranges, f_task_from := f_task_from, f_told := f_told, f_refused_by_promise := f_refused_by_promise, f_refusal_of := f_refusal_of, f_act := f_act, f_tell := f_tell, f_carry_out := f_carry_out, f_answer_to := f_answer_to, f_answers := f_answers }
    have d_NAMES := by refine' Tw.d_NAMES_mk (P := PySem.Challenge.rw_taskwatch_s01_answers.prog) (w := w) (K := (PySem.Challenge.cw_taskwatch_s01_answers_holds.heap_1 w.params)) (h := h) (mg := mg) KX G ?tw_e ?tw_l ?tw_l0 ?tw_l1 ?tw_l2 ?tw_l3 ?tw_l4 ?tw_l5 ?tw_l6 ?tw_l7 ?tw_l8 ?tw_l9; (case tw_e => k_is); (case tw_l => k_is); (case tw_l0 => k_is); (case tw_l1 => k_is); (case tw_l2 => k_is); (case tw_l3 => k_is); (case tw_l4 => k_is); (case tw_l5 => k_is); (case tw_l6 => k_is); (case tw_l7 => k_is); (case tw_l8 => k_is); (case tw_l9 => k_is)
    have d_RANGES := by refine' Tw.d_RANGES_mk (P := PySem.Challenge.rw_taskwatch_s01_answers.prog) (w := w) (K := (PySem.Challenge.cw_taskwatch_s01_answers_holds.heap_1 w.params)) (h := h) (mg := mg) KX G ?tw_e ?tw_l ?tw_l0 ?tw_l1 ?tw_l2 ?tw_l3 ?tw_l4 ?tw_l5 ?tw_l6 ?tw_l7 ?tw_l8 ?tw_l9; (case tw_e => k_is); (case tw_l => k_is); (case tw_l0 => k_is); (case tw_l1 => k_is); (case tw_l2 => k_is); (case tw_l3 => k_is); (case tw_l4 => k_is); (case tw_l5 => k_is); (case tw_l6 => k_is); (case tw_l7 => k_is); (case tw_l8 => k_is); (case tw_l9 => k_is)
    have B : Tw.Tbl PySem.Challenge.rw_taskwatch_s01_answers.prog w (PySem.Challenge.cw_taskwatch_s01_answers_holds.heap_1 w.params) mg := ⟨d_NAMES, d_RANGES⟩
    exact Tw.top_mk T B hmg
  case S =>
    intro K H xs a hO hwi hask hx
    cases hx with
    | cons h1 h2 =>
      cases h2
      cases h1 with
      | lst hs ha =>
        have e := L2.ints_dw a.1 _ ha
        subst e
        have q : ((Codec.inLen 0 16000 a.1 && a.1.all (Codec.inInt (-9223372036854775808) 9223372036854775807)) && true) = true := hwi
        rw [Bool.and_eq_true, Bool.and_eq_true] at q
        exact ⟨_, a.1, rfl, hs, (Codec.inNat_iff.mp q.1.1).2, hask, fun H' p hp => .lst (L2.SqL.of hp) (L2.dw_ints _)⟩
