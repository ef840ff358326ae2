import PyProof.Rows.All
import Wide.All
import OpenK.AllK
import Wide.FinOn
import PyProof.EqAt
import PyProof.EqKinds
import PyProof.TupleCall
import KE.BitLaws
import Open.SpecLaws
import KE.OsHead
import KE.OsGo
import PySem.Challenge.RW_landwater_s01_answers
section
set_option Elab.async false
set_option linter.all false
set_option maxRecDepth 100000
namespace L2
open PySem PySem.Spec PyProof.Rows
abbrev Key := Sum Int Str
def keyIs : Key → Value → Bool
  | .inl k, v => Value.isInt k v
  | .inr x, v => Value.isStrOf x v
def keyH (w : World) : Key → Int
  | .inl k => hashInt k
  | .inr x => hashStr w x
theorem keyIs_shape : ∀ {k : Key} {v : Value}, keyIs k v = true → (∃ i t, k = Sum.inl i ∧ v = Value.int i t) ∨ (∃ x t, k = Sum.inr x ∧ v = Value.str x t)
  | .inl i, v, h => by
    obtain ⟨t, e⟩ := Value.isInt_shape (k := i) (v := v) h
    exact .inl ⟨i, t, rfl, e⟩
  | .inr x, v, h => by
    obtain ⟨t, e⟩ := Value.isStrOf_shape (x := x) (v := v) h
    exact .inr ⟨x, t, rfl, e⟩
theorem keyIs_int (i : Int) (t : Tok) : keyIs (.inl i) (.int i t) = true := by simp [keyIs, Value.isInt]
theorem keyIs_str (x : Str) (t : Tok) : keyIs (.inr x) (.str x t) = true := by simp [keyIs, Value.isStrOf]
theorem key_ll (a b : Int) : decide ((Sum.inl a : Key) = Sum.inl b) = (a == b) := by
  by_cases e : a = b
  · subst e; simp
  · have h : ¬ (Sum.inl a : Key) = Sum.inl b := fun q => e (Sum.inl.inj q)
    rw [decide_eq_false h]
    exact (beq_eq_false_iff_ne.mpr e).symm
theorem key_rr (a b : Str) : decide ((Sum.inr a : Key) = Sum.inr b) = decide (a = b) := by
  by_cases e : a = b
  · subst e; simp
  · have h : ¬ (Sum.inr a : Key) = Sum.inr b := fun q => e (Sum.inr.inj q)
    rw [decide_eq_false h, decide_eq_false e]
theorem key_lr (a : Int) (b : Str) : decide ((Sum.inl a : Key) = Sum.inr b) = false := decide_eq_false (fun q => nomatch q)
theorem key_rl (a : Str) (b : Int) : decide ((Sum.inr a : Key) = Sum.inl b) = false := decide_eq_false (fun q => nomatch q)
def mixKind (prog : Program) (w : World) : PySem.KeyKind prog w Key where
  is := keyIs
  hash := keyH w
  inj := fun v a b ha hb => by
    rcases keyIs_shape ha with ⟨i, t, rfl, rfl⟩ | ⟨x, t, rfl, rfl⟩
    · rcases keyIs_shape hb with ⟨j, u, rfl, e⟩ | ⟨y, u, rfl, e⟩
      · injection e with e1 _; rw [e1]
      · exact nomatch e
    · rcases keyIs_shape hb with ⟨j, u, rfl, e⟩ | ⟨y, u, rfl, e⟩
      · exact nomatch e
      · injection e with e1 _; rw [e1]
  byValue := fun k v h => by
    rcases keyIs_shape h with ⟨i, t, rfl, rfl⟩ | ⟨x, t, rfl, rfl⟩ <;> rfl
  pyHash := fun hv h => by
    rcases keyIs_shape hv with ⟨i, t, rfl, rfl⟩ | ⟨x, t, rfl, rfl⟩
    · exact wpAny_pyHash_int h
    · exact wpAny_pyHash_str h
  eqBool := fun hu hv h => by
    rcases keyIs_shape hu with ⟨i, t, rfl, rfl⟩ | ⟨x, t, rfl, rfl⟩
    · rcases keyIs_shape hv with ⟨j, u, rfl, rfl⟩ | ⟨y, u, rfl, rfl⟩
      · rw [key_ll] at h; exact wpAny_eqBool_int h
      · rw [key_lr] at h; exact SeqAt.EqAt.int_str i t y u _ _ _ _ h
    · rcases keyIs_shape hv with ⟨j, u, rfl, rfl⟩ | ⟨y, u, rfl, rfl⟩
      · rw [key_rl] at h; exact SeqAt.EqAt.str_int x t j u _ _ _ _ h
      · rw [key_rr] at h; exact wpAny_eqBool_str h
  «strs» := fun k x t v h => by
    rcases keyIs_shape h with ⟨i, u, rfl, e⟩ | ⟨y, u, rfl, e⟩
    · exact nomatch e
    · injection e with e1 _
      subst e1
      cases v <;> rfl
theorem mixKind_int (prog : Program) (w : World) (i : Int) (t : Tok) : (mixKind prog w).is (.inl i) (.int i t) = true := keyIs_int i t
theorem mixKind_str (prog : Program) (w : World) (x : Str) (t : Tok) : (mixKind prog w).is (.inr x) (.str x t) = true := keyIs_str x t
end L2
namespace L2
open PySem PySem.Spec PyProof.Rows
inductive V where
  | non | bl (b : Bool) | int (i : Int) | str (x : Str) | byt (b : Array UInt8) | flt (b : UInt64) | ref (a : Addr) | ty (n : String)
  deriving DecidableEq
def RelV : V → Value → Prop
  | .non, u => u = Value.none
  | .bl b, u => u = Value.bool b
  | .int i, u => ∃ t, u = Value.int i t
  | .str x, u => ∃ t, u = Value.str x t
  | .byt b, u => ∃ t, u = Value.bytes b t
  | .flt b, u => ∃ t, u = Value.float b t
  | .ref a, u => u = Value.ref a
  | .ty n, u => u = Value.type n
abbrev Vals : List V → List Value → Prop := Paired RelV
theorem Vals.length {xs : List V} {us : List Value} (r : Vals xs us) : xs.length = us.length := Paired.length r
theorem Vals.get : ∀ {xs : List V} {us : List Value} {i : Nat} {x : V}, Vals xs us → xs[i]? = some x → ∃ u, us[i]? = some u ∧ RelV x u
  | _, _, _, _, .nil, e => by simp at e
  | _, _, 0, _, .cons r _, e => by simp at e; subst e; exact ⟨_, rfl, r⟩
  | _, _, i + 1, x, .cons _ t, e => by
    obtain ⟨u, h1, h2⟩ := Vals.get (i := i) (x := x) t (by simpa using e)
    exact ⟨u, by simpa using h1, h2⟩
theorem Vals.set {x : V} {u : Value} (r : RelV x u) : ∀ {xs : List V} {us : List Value} (i : Nat), Vals xs us → Vals (xs.set i x) (us.set i u)
  | _, _, _, .nil => .nil
  | _, _, 0, .cons _ t => .cons r t
  | _, _, i + 1, .cons q t => .cons q (Vals.set r i t)
theorem Vals.append : ∀ {xs ys : List V} {us ws : List Value}, Vals xs us → Vals ys ws → Vals (xs ++ ys) (us ++ ws)
  | _, _, _, _, .nil, s => s
  | _, _, _, _, .cons r t, s => .cons r (Vals.append t s)
theorem Vals.take : ∀ {xs : List V} {us : List Value} (n : Nat), Vals xs us → Vals (xs.take n) (us.take n)
  | _, _, 0, _ => .nil
  | _, _, _ + 1, .nil => .nil
  | _, _, n + 1, .cons r t => .cons r (Vals.take n t)
theorem Vals.drop : ∀ {xs : List V} {us : List Value} (n : Nat), Vals xs us → Vals (xs.drop n) (us.drop n)
  | _, _, 0, r => r
  | _, _, _ + 1, .nil => .nil
  | _, _, n + 1, .cons _ t => Vals.drop n t
theorem Vals.none_of : ∀ {xs : List V} {us : List Value} {i : Nat}, Vals xs us → xs[i]? = none → us[i]? = none := fun {xs us i} r e => by
  have h1 := r.length
  have h2 : xs.length ≤ i := List.getElem?_eq_none_iff.mp e
  exact List.getElem?_eq_none_iff.mpr (by omega)
def RelO : Option V → Option Value → Prop
  | some v, some u => RelV v u
  | none, none => True
  | _, _ => False
def KV {κ : Type} : List (κ × V) → List (κ × Value) → Prop := Paired fun (p : κ × V) (q : κ × Value) => p.1 = q.1 ∧ RelV p.2 q.2
def kV : Key → V
  | .inl i => .int i
  | .inr x => .str x
inductive HO where
  /-- a list -/
  | lst (xs : List V)
  /-- a tuple (never changes) -/
  | tup (xs : List V)
  /-- a dict whose keys are ints and texts; one whose keys are tuples of ints and texts (the empty one is both) -/
  | dK (kvs : List (Key × V)) | dT (kvs : List (List Key × V))
  /-- a set of ints: its members, its size -/
  | set (S : Int → Bool) (n : Nat)
  /-- an instance of the class at C, its dict at dx, its attributes -/
  | ins (C dx : Addr) (fs : List (Str × V))
  /-- the dict of the instance at x -/
  | own (x : Addr)
  /-- the dict of an exception -/
  | xd (fs : List (Str × V))
  /-- a bound method, f of x -/
  | met (f x : Addr)
  /-- a range object lo, lo + 1, .. below hi -/
  | rng (lo hi : Int)
  /-- a thing that is known to the object (the script; a dict while a loop walks it): read, never written while it is so -/
  | frz (o : Obj) (u : HO)
  /-- a code object's table -/
  | tbl (ps : Array Value)
  /-- any other thing, by what is true of its one object (a def of one's own: SetO a S n := HO.ext fun h => ..) -/
  | ext (φ : Heap → Prop)
abbrev Hp := Addr → Option HO
def upd (H : Hp) (a : Addr) (o : HO) : Hp := fun b => if b = a then some o else H b
theorem upd_same {H : Hp} {a : Addr} {o : HO} : upd H a o a = some o := by unfold upd; rw [if_pos rfl]
theorem upd_ne {H : Hp} {a b : Addr} {o : HO} (h : b ≠ a) : upd H a o b = H b := by unfold upd; rw [if_neg h]
theorem ne_of {H : Hp} {a b : Addr} {o u : HO} (h : H a = some o) (h' : H b = some u) (d : o ≠ u) : a ≠ b := by
  intro e; subst e; rw [h] at h'; exact d (Option.some.inj h')
theorem ne_of_none {H : Hp} {a b : Addr} {o : HO} (h : H a = some o) (h' : H b = none) : a ≠ b := by
  intro e; subst e; rw [h] at h'; cases h'
section
variable (P : Program) (w : World)
def ObjOk (H : Hp) (h : Heap) (a : Addr) : HO → Prop
  | .lst xs => xs.length ≤ sizeLine ∧ ∃ (its : List Value) (n : Nat), Vals xs its ∧ h.get? a = some { cls := .type "list", data := .seq its.toArray n }
  | .tup xs => xs.length ≤ sizeLine ∧ ∃ its : List Value, Vals xs its ∧ IsTup h a its.toArray
  | .dK kvs => kvs.length ≤ sizeLine ∧ (a == sysModules) = false ∧ ∃ vs, KV kvs vs ∧ h.DictOf (mixKind P w) a vs
  | .dT kvs => kvs.length ≤ sizeLine ∧ (a == sysModules) = false ∧ ∃ xs : List (List Key × Addr × Value),
      Paired (fun (p : List Key × V) (q : List Key × Addr × Value) => p.1 = q.1 ∧ H q.2.1 = some (.tup (p.1.map kV)) ∧ RelV p.2 q.2.2) kvs xs ∧
      ∃ o es ep, h.get? a = some o ∧ o.ExactDict ∧ o.data = .dict es ep ∧ es.toList = xs.map (entryOfKey (tupleKind (mixKind P w))) ∧ (xs.map (·.1)).Nodup
  | .set S n => h.SetOf (intKind P w) a S n
  | .ins C dx fs => H dx = some (.own a) ∧ fs.length ≤ 1000 ∧ dx ≠ a ∧ h.get? a = some (PySem.W.instObj C dx) ∧
      ∃ mA, h.Ns1 dx mA ∧ (∀ f, RelO (fs.lookup f) (mA f)) ∧ PySem.Within mA (fs.map (·.1))
  | .own _ => ∃ o, h.get? a = some o
  | .xd fs => ∃ mA, h.Ns1 a mA ∧ ∀ f, RelO (fs.lookup f) (mA f)
  | .rng lo hi => ∃ t u v, h.get? a = some { cls := .type "range", data := .fields #[.int lo t, .int hi u, .int 1 v] }
  | .frz o u => h.get? a = some o ∧ ObjOk H h a u
  | .tbl ps => h.get? a = some { cls := .none, data := .fields ps }
  | .met f x => h.get? a = some (PySem.W.methodObj (.ref f) (.ref x))
  | .ext φ => φ h ∧ (∃ o, h.get? a = some o) ∧ ∀ h1 h2 : Heap, φ h1 → (∀ o, h1.get? a = some o → h2.get? a = some o) → φ h2
def HOk (H : Hp) (h : Heap) : Prop := ∀ a o, H a = some o → ObjOk P w H h a o
end
section
variable {P : Program} {w : World} {H H' : Hp} {h h' : Heap} {a : Addr} {o : HO}
theorem ObjOk.lt (x : ObjOk P w H h a o) : a < h.objs.size := by
  cases o with
  | lst xs => obtain ⟨_, _, _, _, e⟩ := x; exact Heap.lt_size e
  | tup xs => obtain ⟨_, _, _, p⟩ := x; exact p.lt
  | dK kvs => obtain ⟨_, _, _, _, o, _, _, e, _⟩ := x; exact Heap.lt_size e
  | dT kvs => obtain ⟨_, _, _, _, o, _, _, e, _⟩ := x; exact Heap.lt_size e
  | set S n => obtain ⟨o, _, _, _, e, _⟩ := x; exact Heap.lt_size e
  | ins C dx fs => obtain ⟨_, _, _, e, _⟩ := x; exact Heap.lt_size e
  | own y => obtain ⟨_, e⟩ := x; exact Heap.lt_size e
  | xd fs => obtain ⟨_, ⟨_, _, _, e, _⟩, _⟩ := x; exact Heap.lt_size e
  | rng lo hi => obtain ⟨_, _, _, e⟩ := x; exact Heap.lt_size e
  | frz ob u => obtain ⟨e, _⟩ := x; exact Heap.lt_size e
  | tbl ps => exact Heap.lt_size (show h.get? a = some _ from x)
  | met f y => exact Heap.lt_size (show h.get? a = some _ from x)
  | ext φ => obtain ⟨_, ⟨_, e⟩, _⟩ := x; exact Heap.lt_size e
theorem Paired.mapP {α β : Type} {F G : α → β → Prop} : ∀ {l₁ : List α} {l₂ : List β}, Paired F l₁ l₂ → (∀ a b, F a b → G a b) → Paired G l₁ l₂
  | _, _, .nil, _ => .nil
  | _, _, .cons r t, f => .cons (f _ _ r) (Paired.mapP t f)
theorem ObjOk.stay (x : ObjOk P w H h a o) (k : ∀ b u, (b = a ∨ H b = some (.own a)) → h.get? b = some u → h'.get? b = some u)
    (ho : ∀ b, H b = some (.own a) → H' b = some (.own a)) (ht : ∀ b xs, H b = some (.tup xs) → H' b = some (.tup xs)) : ObjOk P w H' h' a o := by
  induction o with
  | lst xs => obtain ⟨z, its, n, r, e⟩ := x; exact ⟨z, its, n, r, k _ _ (.inl rfl) e⟩
  | tup xs => obtain ⟨z, its, r, ob, e, c⟩ := x; exact ⟨z, its, r, ob, k _ _ (.inl rfl) e, c⟩
  | dK kvs => obtain ⟨z, y, vs, r, ob, es, ep, e, c⟩ := x; exact ⟨z, y, vs, r, ob, es, ep, k _ _ (.inl rfl) e, c⟩
  | dT kvs =>
    obtain ⟨z, y, xs, r, ob, es, ep, e, c⟩ := x
    exact ⟨z, y, xs, Paired.mapP r fun p q z => ⟨z.1, ht _ _ z.2.1, z.2.2⟩, ob, es, ep, k _ _ (.inl rfl) e, c⟩
  | set S n => obtain ⟨ob, es, ep, t, e, c⟩ := x; exact ⟨ob, es, ep, t, k _ _ (.inl rfl) e, c⟩
  | ins C dx fs =>
    obtain ⟨d, z, ne, e, mA, ⟨od, es, ep, e2, c⟩, r⟩ := x
    exact ⟨ho _ d, z, ne, k _ _ (.inl rfl) e, mA, ⟨od, es, ep, k _ _ (.inr d) e2, c⟩, r⟩
  | own y => obtain ⟨ob, e⟩ := x; exact ⟨ob, k _ _ (.inl rfl) e⟩
  | xd fs => obtain ⟨mA, ⟨od, es, ep, e, c⟩, r⟩ := x; exact ⟨mA, ⟨od, es, ep, k _ _ (.inl rfl) e, c⟩, r⟩
  | rng lo hi => obtain ⟨t, u, v, e⟩ := x; exact ⟨t, u, v, k _ _ (.inl rfl) e⟩
  | frz ob u ih => obtain ⟨e, q⟩ := x; exact ⟨k _ _ (.inl rfl) e, ih q⟩
  | tbl ps =>
    have e : h.get? a = some { cls := .none, data := .fields ps } := x
    show h'.get? a = some { cls := .none, data := .fields ps }
    exact k a _ (.inl rfl) e
  | met f y =>
    have e : h.get? a = some (PySem.W.methodObj (.ref f) (.ref y)) := x
    show h'.get? a = some (PySem.W.methodObj (.ref f) (.ref y))
    exact k a _ (.inl rfl) e
  | ext φ => obtain ⟨p, ⟨o, e⟩, st⟩ := x; exact ⟨st _ _ p fun o q => k _ _ (.inl rfl) q, ⟨o, k _ _ (.inl rfl) e⟩, st⟩
theorem HOk.lt (x : HOk P w H h) (e : H a = some o) : a < h.objs.size := (x a o e).lt
theorem HOk.fresh (x : HOk P w H h) (e : h.objs.size ≤ a) : H a = none := by
  cases q : H a with
  | none => rfl
  | some u => exact absurd (Nat.lt_of_lt_of_le (x.lt q) e) (Nat.lt_irrefl _)
theorem HOk.kept (x : HOk P w H h) (k : ∀ b u, h.get? b = some u → h'.get? b = some u) : HOk P w H h' := fun a o e =>
  (x a o e).stay (fun b u _ q => k b u q) (fun _ q => q) fun _ _ q => q
theorem HOk.laid (x : HOk P w H h) (k : ∀ b u, h.get? b = some u → h'.get? b = some u) (hp : h.objs.size ≤ a) (new : ObjOk P w (upd H a o) h' a o) : HOk P w (upd H a o) h' := fun b u e => by
  have hn := x.fresh hp
  by_cases hb : b = a
  · subst hb; rw [upd_same] at e; cases e; exact new
  · rw [upd_ne hb] at e
    exact (x b u e).stay (fun c v _ q => k c v q) (fun c q => by rw [upd_ne (ne_of_none q hn)]; exact q) fun c xs q => by rw [upd_ne (ne_of_none q hn)]; exact q
end
def Rd (H : Hp) (a : Addr) (u : HO) : Prop := H a = some u ∨ ∃ o, H a = some (.frz o u)
theorem Rd.of {H : Hp} {a : Addr} {u : HO} (h : H a = some u) : Rd H a u := .inl h
theorem Rd.ok {P : Program} {w : World} {H : Hp} {h : Heap} {a : Addr} {u : HO} (r : Rd H a u) (x : HOk P w H h) : ObjOk P w H h a u := by
  rcases r with r | ⟨o, r⟩
  · exact x a u r
  · obtain ⟨_, q⟩ := x a _ r
    exact q
def Mut : Option HO → Prop
  | some (.lst _) => True
  | some (.dK _) => True
  | some (.dT _) => True
  | some (.set _ _) => True
  | some (.ins _ _ _) => True
  | some (.ext _) => True
  | _ => False
section
variable {P : Program} {w : World} {H : Hp} {h h' : Heap} {x e : Addr} {o' : HO}
theorem HOk.write (ok : HOk P w H h) (mu : Mut (H x)) (he : e = x ∨ H e = some (.own x)) (k : ∀ b u, b ≠ e → h.get? b = some u → h'.get? b = some u) (heo : ∃ u, h'.get? e = some u)
    (new : ObjOk P w (upd H x o') h' x o') : HOk P w (upd H x o') h' := fun b u q => by
  have nown : ∀ c y, H c = some (.own y) → c ≠ x := fun c y r z => by subst z; rw [r] at mu; exact mu
  have ntup : ∀ c xs, H c = some (.tup xs) → c ≠ x := fun c xs r z => by subst z; rw [r] at mu; exact mu
  by_cases hb : b = x
  · subst hb; rw [upd_same] at q; cases q; exact new
  · rw [upd_ne hb] at q
    by_cases hbe : b = e
    · have q' : H b = some (.own x) := by
        rcases he with z | z
        · exact absurd (hbe.trans z) hb
        · rw [hbe]; exact z
      rw [q] at q'; cases q'
      obtain ⟨v, hv⟩ := heo
      exact ⟨v, by rw [hbe]; exact hv⟩
    · refine (ok b u q).stay (fun c v hc r => k c v ?_ r) (fun c r => by rw [upd_ne (nown c b r)]; exact r) fun c xs r => by rw [upd_ne (ntup c xs r)]; exact r
      rcases hc with rfl | hc
      · exact hbe
      · rintro rfl
        rcases he with z | z
        · exact nown c b hc z
        · rw [hc] at z; cases z; exact hb rfl
end
structure Un (fs ex : List Addr) (H H' : Hp) (h h' : Heap) : Prop where
  keep : ∀ b o, h.get? b = some o → H b = none → b ∉ fs → b ∉ ex → h'.get? b = some o
  slot : ∀ b o, h.get? b = some o → H b = none → b ∈ fs → b ∉ ex → ∃ sl, h'.get? b = some { o with slots := sl }
  free : ∀ b o, h.get? b = some o → H b = none → b ∉ ex → H' b = none
  there : ∀ b o, h.get? b = some o → b ∉ ex → ∃ o', h'.get? b = some o'
  tups : ∀ b xs, H b = some (.tup xs) → H' b = some (.tup xs)
  frzs : ∀ b o u, H b = some (.frz o u) → H' b = some (.frz o u)
  tbls : ∀ b ps, H b = some (.tbl ps) → ∃ more, H' b = some (.tbl (ps ++ more))
section
variable {fs fs' ex ex' : List Addr} {H H1 H2 : Hp} {h h1 h2 h' : Heap} {a x e : Addr} {o : HO}
theorem Un.any (u : Un fs ex H H1 h h1) {b : Addr} {ob : Obj} (q : h.get? b = some ob) (n : H b = none) (hx : b ∉ ex) : ∃ sl, h1.get? b = some { ob with slots := sl } := by
  by_cases hb : b ∈ fs
  · exact u.slot b ob q n hb hx
  · exact ⟨ob.slots, u.keep b ob q n hb hx⟩
theorem Un.trans (a : Un fs ex H H1 h h1) (b : Un fs ex H1 H2 h1 h2) : Un fs ex H H2 h h2 where
  keep := fun c ob q n hc hx => b.keep c ob (a.keep c ob q n hc hx) (a.free c ob q n hx) hc hx
  slot := fun c ob q n hc hx => by
    obtain ⟨sl, e1⟩ := a.slot c ob q n hc hx
    obtain ⟨sl', e2⟩ := b.slot c _ e1 (a.free c ob q n hx) hc hx
    exact ⟨sl', e2⟩
  free := fun c ob q n hx => by
    obtain ⟨o', e1⟩ := a.there c ob q hx
    exact b.free c o' e1 (a.free c ob q n hx) hx
  there := fun c ob q hx => by
    obtain ⟨o', e1⟩ := a.there c ob q hx
    exact b.there c o' e1 hx
  tups := fun c xs q => b.tups c xs (a.tups c xs q)
  frzs := fun c ob xs q => b.frzs c ob xs (a.frzs c ob xs q)
  tbls := fun c ps q => by
    obtain ⟨m1, e1⟩ := a.tbls c ps q
    obtain ⟨m2, e2⟩ := b.tbls c _ e1
    exact ⟨m1 ++ m2, by rw [e2, Array.append_assoc]⟩
theorem Un.kept (k : ∀ b u, h.get? b = some u → h'.get? b = some u) : Un fs ex H H h h' :=
  ⟨fun b ob q _ _ _ => k b ob q, fun b ob q _ _ _ => ⟨ob.slots, k b ob q⟩, fun _ _ _ n _ => n, fun b ob q _ => ⟨ob, k b ob q⟩, fun _ _ q => q, fun _ _ _ q => q, fun _ ps q => ⟨#[], by rw [q]; simp⟩⟩
theorem Un.refl : Un fs ex H H h h := Un.kept fun _ _ q => q
theorem Un.laid (k : ∀ b u, h.get? b = some u → h'.get? b = some u) (hp : h.objs.size ≤ a) (hn : H a = none) : Un fs ex H (upd H a o) h h' where
  keep := fun b u q _ _ _ => k b u q
  slot := fun b u q _ _ _ => ⟨u.slots, k b u q⟩
  free := fun b u q n _ => by rw [upd_ne (Nat.ne_of_lt (Nat.lt_of_lt_of_le (Heap.lt_size q) hp))]; exact n
  there := fun b u q _ => ⟨u, k b u q⟩
  tups := fun b xs q => by rw [upd_ne (ne_of_none q hn)]; exact q
  frzs := fun b u xs q => by rw [upd_ne (ne_of_none q hn)]; exact q
  tbls := fun b ps q => ⟨#[], by rw [upd_ne (ne_of_none q hn), q]; simp⟩
theorem Un.write (mu : Mut (H x)) (he : e = x ∨ H e = some (.own x)) (k : ∀ b u, b ≠ e → h.get? b = some u → h'.get? b = some u) (heo : ∃ u, h'.get? e = some u) : Un fs ex H (upd H x o) h h' := by
  have hx : ∀ b, H b = none → b ≠ x := fun b n z => by subst z; rw [n] at mu; exact mu
  have hb : ∀ b, H b = none → b ≠ e := fun b n z => by
    subst z
    rcases he with r | r
    · exact hx b n r
    · rw [n] at r; cases r
  have hm : ∀ b u, H b = some u → ¬ Mut (some u) → b ≠ x := fun b u q nm z => by subst z; rw [q] at mu; exact nm mu
  refine ⟨fun b u q n _ _ => k b u (hb b n) q, fun b u q n _ _ => ⟨u.slots, k b u (hb b n) q⟩, fun b u q n _ => by rw [upd_ne (hx b n)]; exact n, fun b u q _ => ?_,
    fun b xs q => by rw [upd_ne (hm b _ q fun z => z)]; exact q, fun b u xs q => by rw [upd_ne (hm b _ q fun z => z)]; exact q, fun b ps q => ⟨#[], by rw [upd_ne (hm b _ q fun z => z), q]; simp⟩⟩
  by_cases hbe : b = e
  · subst hbe; exact heo
  · exact ⟨u, k b u hbe q⟩
theorem Un.mono (u : Un fs ex H H1 h h1) (hs : ∀ b ∈ fs, b ∈ fs') (hx : ∀ b ∈ ex, b ∈ ex') : Un fs' ex' H H1 h h1 :=
  ⟨fun b ob q n hb he => u.keep b ob q n (fun z => hb (hs b z)) fun z => he (hx b z), fun _ _ q n _ he => u.any q n fun z => he (hx _ z), fun b ob q n he => u.free b ob q n fun z => he (hx b z), fun b ob q he => u.there b ob q fun z => he (hx b z), u.tups, u.frzs, u.tbls⟩
end
def trk (h : Heap) (H : Hp) : List Addr := (List.range h.objs.size).filter fun a => (H a).isSome
def hidT (h : Heap) (H : Hp) : Heap := PySem.W.hideAll h (trk h H)
theorem hidT_size (h : Heap) (H : Hp) : (hidT h H).objs.size = h.objs.size := PySem.W.hideAll_size _ _
theorem hidT_get {h : Heap} {H : Hp} {b : Addr} {o : Obj} (e : h.get? b = some o) (n : H b = none) : (hidT h H).get? b = some o :=
  PySem.W.hideAll_get _ e fun hm => by
    have q : (H b).isSome = true := (List.mem_filter.mp hm).2
    rw [n] at q; simp at q
theorem of_hidT {h : Heap} {H : Hp} {b : Addr} {o : Obj} (e : (hidT h H).get? b = some o) : h.get? b = some o ∧ H b = none := by
  have e' : h.get? b = some o := PySem.W.of_hideAll (trk h H) e
  refine ⟨e', ?_⟩
  cases q : H b with
  | none => rfl
  | some x =>
    have hm : b ∈ trk h H := List.mem_filter.mpr ⟨List.mem_range.mpr (Heap.lt_size e'), by simp [q]⟩
    have z : (hidT h H).get? b = none := PySem.W.hideAll_none (trk h H) hm
    rw [z] at e; cases e
def allNews (g h : Heap) (L : Addr) : List (Addr × Obj) := (List.range h.objs.size).filterMap fun a => if a = L ∨ (g.get? a).isSome = true then none else (h.get? a).map fun o => (a, o)
def rest (g h : Heap) (L d : Addr) : List (Addr × Obj) := (allNews g h L).filter fun p => decide (p.1 ≠ d)
end L2
namespace L2
open PySem PySem.Spec PyProof.Rows
structure Mod (K : PySem.W.Frag) (mg : Str → Option Value) (base : Heap) : Prop where
  kin : K.In base
  glob : base.Ns mainGlobals mg
  blt : ∃ mb, base.Ns builtinsNs mb ∧ ∀ x : Str, x ≠ "__name__" → mb x = bootBuiltins x
  nolimit : base.NoLimit
structure Cx where
  prog : Program
  w : World
  K : PySem.W.Frag
  mg : Str → Option Value
  base : Heap
  A : Around
  N : List Str
  s_0 : Shared
  H_0 : Hp
  env : Env
  outer : List Env
  stack : List Env
  ex : List Addr
  fn : Str → Bool
  calm : Bool
  pn : List (Addr × Obj)
  xe : Value → Shared → Prop
def frs (l : List Env) : List Addr := l.filterMap (·.frame)
abbrev Cx.fs (X : Cx) : List Addr := frs X.outer
def Vis (sc : Scope) (x : Str) : Prop := sc.names.lookup x = some .local ∨ sc.names.lookup x = some .cell ∨ sc.names.lookup x = some .free
def Loc (sc : Scope) (x : Str) : Prop := sc.names.lookup x = some .local ∨ sc.names.lookup x = some .cell
def Look (env : Env) (h : Heap) (m : Str → Option Value) (x : Str) (u : Value) : Prop :=
  (env.kindOf x = some .local ∧ m x = some u) ∨ ((env.kindOf x = some .cell ∨ env.kindOf x = some .free) ∧ ∃ c, env.cells.lookup x = some c ∧ h.IsCell c (some u))
structure Cx.Ok (X : Cx) : Prop where
  mod : Mod X.K X.mg X.base
  kind : X.env.scope.kind = .function
  glob : X.env.globals = mainGlobals
  blt : X.env.builtins = builtinsNs
  above : X.s_0.heap.objs.size ≤ X.env.locals
  inj : ∀ x y c, X.env.cells.lookup x = some c → X.env.cells.lookup y = some c → x = y
  has : ∀ x, (X.env.kindOf x = some .cell ∨ X.env.kindOf x = some .free) → ∃ c, X.env.cells.lookup x = some c
  cab : ∀ x c, X.fn x = true → X.env.cells.lookup x = some c → X.s_0.heap.objs.size ≤ c
  hd : X.calm = true → X.A.handled = none
  frames : X.A.frames = some X.stack
  stk : X.stack = X.outer ∨ (X.stack = X.env :: X.outer ∧ X.env.frame = some X.env.locals)
  exf : ∀ b ∈ X.ex, b ≠ X.env.locals ∧ ∀ x c, X.env.cells.lookup x = some c → c ≠ b
  bs : ∀ b o, X.base.get? b = some o → X.s_0.heap.get? b = some o ∧ X.H_0 b = none
  bsz : X.base.objs.size ≤ X.s_0.heap.objs.size
  noex : ∀ b o, X.base.get? b = some o → b ∉ X.ex
  exfs : ∀ b ∈ X.ex, b ∉ X.fs
  funs : X.s_0.heap.FunFrames X.base X.outer
  frf : ∀ b ∈ X.fs, X.H_0 b = none
structure Inv (X : Cx) (pins : List (Addr × Obj)) (σ : List (Option V)) (H : Hp) (s : Shared) : Prop where
  ok : X.Ok
  os : s.os = X.s_0.os
  bare : AllBare s.gens
  base : Un X.fs X.ex X.H_0 H X.s_0.heap s.heap
  loc : ∃ m, s.heap.Ns X.env.locals m ∧ ∀ (i : Nat) (x : Str) (v : V), X.N[i]? = some x → σ[i]? = some (some v) → Vis X.env.scope x → ∃ u, RelV v u ∧ Look X.env s.heap m x u
  cell : ∀ x c, X.env.cells.lookup x = some c → ∃ v, s.heap.IsCell c v
  free : H X.env.locals = none
  freeC : ∀ x c, X.env.cells.lookup x = some c → H c = none
  pin : ∀ p ∈ X.pn ++ pins, s.heap.get? p.1 = some p.2 ∧ H p.1 = none ∧ p.1 ≠ X.env.locals ∧ p.1 ∉ X.fs ∧ ∀ v, p.2.data ≠ .cell v
  hok : HOk X.prog X.w H s.heap
  len : σ.length = X.N.length
section
variable {X : Cx} {pins : List (Addr × Obj)} {σ : List (Option V)} {H H' : Hp} {s : Shared} {h' : Heap}
theorem Cx.Ok.nofr (ok : X.Ok) {b : Addr} {o : Obj} (e : X.base.get? b = some o) : b ∉ X.fs := fun hb => by
  have := (ok.funs.mem hb).1
  rw [e] at this; cases this
theorem Inv.bs (I : Inv X pins σ H s) : ∀ b o, X.base.get? b = some o → s.heap.get? b = some o ∧ H b = none := fun b o e =>
  ⟨I.base.keep b o (I.ok.bs b o e).1 (I.ok.bs b o e).2 (I.ok.nofr e) (I.ok.noex b o e), I.base.free b o (I.ok.bs b o e).1 (I.ok.bs b o e).2 (I.ok.noex b o e)⟩
theorem Inv.bk (I : Inv X pins σ H s) : ∀ b o, X.base.get? b = some o → s.heap.get? b = some o := fun b o e => (I.bs b o e).1
theorem Inv.mod (I : Inv X pins σ H s) : Mod X.K X.mg X.base := I.ok.mod
theorem Inv.kIn (I : Inv X pins σ H s) : X.K.In s.heap := I.ok.mod.kin.keeps I.bk
theorem Inv.nolimit (I : Inv X pins σ H s) : s.heap.NoLimit := I.ok.mod.nolimit.keeps I.bk
theorem Inv.fr (I : Inv X pins σ H s) : ∃ m, Fr X.base X.env.locals s.heap m :=
  let ⟨m, hn, _⟩ := I.loc
  ⟨m, hn, I.bk, Nat.le_trans I.ok.bsz I.ok.above⟩
theorem Inv.lt (I : Inv X pins σ H s) : X.env.locals < s.heap.objs.size := let ⟨_, hn, _⟩ := I.loc; hn.lt
theorem Inv.sz (I : Inv X pins σ H s) : X.s_0.heap.objs.size ≤ s.heap.objs.size := Nat.le_trans I.ok.above (Nat.le_of_lt I.lt)
theorem Inv.nofs (I : Inv X pins σ H s) {a : Addr} (h : s.heap.objs.size ≤ a) : a ∉ X.fs := fun hb => by
  obtain ⟨_, o, ho, _⟩ := I.ok.funs.mem hb
  exact absurd (Nat.lt_of_lt_of_le (Heap.lt_size ho) (Nat.le_trans I.sz h)) (Nat.lt_irrefl _)
theorem Inv.cne (I : Inv X pins σ H s) : ∀ x c, X.env.cells.lookup x = some c → c ≠ X.env.locals := fun x c e z => by
  obtain ⟨v, o, ho, hd⟩ := I.cell x c e
  obtain ⟨m, ⟨o', es, ep, ho', hd', _⟩, _⟩ := I.loc
  rw [z, ho'] at ho; cases ho; rw [hd'] at hd; cases hd
theorem Inv.funs (I : Inv X pins σ H s) : s.heap.FunFrames X.base X.outer := by
  have all : ∀ (l : List Env), (∀ b ∈ frs l, b ∈ X.fs) → X.s_0.heap.FunFrames X.base l → s.heap.FunFrames X.base l := by
    intro l
    induction l with
    | nil => intro _ _; trivial
    | cons env r ih =>
      intro hs hl
      obtain ⟨hk, ⟨L, o, hf, hn, ho, hd⟩, hr⟩ := hl
      have hL : L ∈ X.fs := hs L (by unfold frs; rw [List.filterMap_cons, hf]; exact List.mem_cons_self)
      obtain ⟨sl, e⟩ := I.base.slot L o ho (I.ok.frf L hL) hL fun z => I.ok.exfs L z hL
      exact ⟨hk, ⟨L, _, hf, hn, e, hd⟩, ih (fun b hb => hs b (by unfold frs; rw [List.filterMap_cons, hf]; exact List.mem_cons_of_mem _ hb)) hr⟩
  exact all X.outer (fun _ hb => hb) I.ok.funs
theorem Inv.stack (I : Inv X pins σ H s) : s.heap.FunFrames X.base X.stack := by
  rcases I.ok.stk with e | ⟨e, hf⟩
  · rw [e]; exact I.funs
  · rw [e]
    obtain ⟨m, hn, _⟩ := I.loc
    refine .cons (by rw [I.ok.kind]; decide) hf hn ?_ I.funs
    exact Heap.get?_none_of_le (Nat.le_trans I.ok.bsz I.ok.above)
theorem Inv.stkSub (I : Inv X pins σ H s) : ∀ b ∈ frs X.stack, b ∈ X.env.locals :: X.fs := fun b hb => by
  rcases I.ok.stk with e | ⟨e, hf⟩
  · rw [e] at hb; exact List.mem_cons_of_mem _ hb
  · rw [e] at hb
    unfold frs at hb
    rw [List.filterMap_cons, hf] at hb
    exact hb
theorem Inv.stkFree (I : Inv X pins σ H s) : ∀ b ∈ frs X.stack, H b = none := fun b hb => by
  rcases List.mem_cons.mp (I.stkSub b hb) with e | hb
  · rw [e]; exact I.free
  · obtain ⟨_, o, ho, _⟩ := I.ok.funs.mem hb
    exact I.base.free b o ho (I.ok.frf b hb) fun z => I.ok.exfs b z hb
theorem Inv.step {g' : Array GenState} {t' : Nat} {d' : Drawn} {ch : List Addr} (I : Inv X pins σ H s)
    (hch : ∀ b ∈ ch, (b ∈ X.ex ∨ X.s_0.heap.objs.size ≤ b) ∧ b ≠ X.env.locals ∧ (∀ x c, X.env.cells.lookup x = some c → c ≠ b) ∧ ∀ p ∈ X.pn ++ pins, p.1 ≠ b)
    (keep : ∀ b o, b ≠ X.env.locals → b ∉ X.fs → b ∉ ch → s.heap.get? b = some o → H b = none → h'.get? b = some o)
    (slot : ∀ b o, b ≠ X.env.locals → b ∈ X.fs → b ∉ ch → s.heap.get? b = some o → H b = none → ∃ sl, h'.get? b = some { o with slots := sl }) (free : ∀ b o, b ∉ ch → s.heap.get? b = some o → H b = none → H' b = none)
    (there : ∀ b o, b ∉ ch → s.heap.get? b = some o → ∃ o', h'.get? b = some o')
    (tups : ∀ b xs, H b = some (.tup xs) → H' b = some (.tup xs)) (frzs : ∀ b o u, H b = some (.frz o u) → H' b = some (.frz o u)) (tbls : ∀ b ps, H b = some (.tbl ps) → ∃ more, H' b = some (.tbl (ps ++ more)))
    (ns : ∀ m, s.heap.Ns X.env.locals m → h'.Ns X.env.locals m) (hok : HOk X.prog X.w H' h') (hg : AllBare g') :
    Inv X pins σ H' { s with heap := h', gens := g', drawn := d', toks := t' } := by
  have neL : ∀ b o, X.s_0.heap.get? b = some o → b ≠ X.env.locals := fun b o e => Nat.ne_of_lt (Nat.lt_of_lt_of_le (Heap.lt_size e) I.ok.above)
  have neC : ∀ b o, X.s_0.heap.get? b = some o → b ∉ X.ex → b ∉ ch := fun b o e hx hb => by
    rcases (hch b hb).1 with z | z
    · exact hx z
    · exact absurd (Nat.lt_of_lt_of_le (Heap.lt_size e) z) (Nat.lt_irrefl _)
  have cellK : ∀ x c, X.env.cells.lookup x = some c → ∀ v, s.heap.IsCell c v → h'.IsCell c v := fun x c e v ⟨o, ho, hd⟩ => by
    have nch : c ∉ ch := fun z => (hch c z).2.2.1 x c e rfl
    by_cases hc : c ∈ X.fs
    · obtain ⟨sl, q⟩ := slot c o (I.cne x c e) hc nch ho (I.freeC x c e)
      exact ⟨_, q, hd⟩
    · exact ⟨o, keep c o (I.cne x c e) hc nch ho (I.freeC x c e), hd⟩
  refine ⟨I.ok, I.os, hg, ⟨fun b o e n hb hx => ?_, fun b o e n hb hx => ?_, fun b o e n hx => ?_, fun b o e hx => ?_, fun b xs e => tups b xs (I.base.tups b xs e), fun b o xs e => frzs b o xs (I.base.frzs b o xs e), fun b ps e => ?_⟩, ?_, fun x c e => ?_, ?_, fun x c e => ?_, fun p hp => ?_, hok, I.len⟩
  · exact keep b o (neL b o e) hb (neC b o e hx) (I.base.keep b o e n hb hx) (I.base.free b o e n hx)
  · obtain ⟨sl, e1⟩ := I.base.slot b o e n hb hx
    obtain ⟨sl', e2⟩ := slot b _ (neL b o e) hb (neC b o e hx) e1 (I.base.free b o e n hx)
    exact ⟨sl', e2⟩
  · obtain ⟨o', e1⟩ := I.base.there b o e hx
    exact free b o' (neC b o e hx) e1 (I.base.free b o e n hx)
  · obtain ⟨o', e1⟩ := I.base.there b o e hx
    exact there b o' (neC b o e hx) e1
  · obtain ⟨m1, e1⟩ := I.base.tbls b ps e
    obtain ⟨m2, e2⟩ := tbls b _ e1
    exact ⟨m1 ++ m2, by rw [e2, Array.append_assoc]⟩
  · obtain ⟨m, hn, hl⟩ := I.loc
    refine ⟨m, ns m hn, fun i x v e1 e2 e3 => ?_⟩
    obtain ⟨u, r, l⟩ := hl i x v e1 e2 e3
    refine ⟨u, r, ?_⟩
    rcases l with l | ⟨k, c, e, z⟩
    · exact .inl l
    · exact .inr ⟨k, c, e, cellK x c e _ z⟩
  · obtain ⟨v, z⟩ := I.cell x c e
    exact ⟨v, cellK x c e v z⟩
  · obtain ⟨m, ⟨o, _, _, ho, _⟩, _⟩ := I.loc
    exact free _ o (fun z => (hch _ z).2.1 rfl) ho I.free
  · obtain ⟨v, o, ho, hd⟩ := I.cell x c e
    exact free c o (fun z => (hch c z).2.2.1 x c e rfl) ho (I.freeC x c e)
  · obtain ⟨e, n, ne, nf, d⟩ := I.pin p hp
    have nch : p.1 ∉ ch := fun z => (hch p.1 z).2.2.2 p hp rfl
    exact ⟨keep p.1 p.2 ne nf nch e n, free p.1 p.2 nch e n, ne, nf, d⟩
theorem Inv.un {t' : Nat} (I : Inv X pins σ H s) (u : Un X.fs [] H H' s.heap h') (hok : HOk X.prog X.w H' h') : Inv X pins σ H' { s with heap := h', toks := t' } := by
  obtain ⟨m, ⟨o, es, ep, ho, r⟩, _⟩ := id I.loc
  obtain ⟨sl, hL⟩ := u.any ho I.free (by simp)
  exact I.step (g' := s.gens) (d' := s.drawn) (ch := []) (fun _ z => nomatch z) (fun b o _ hb _ e n => u.keep b o e n hb (by simp)) (fun b o _ hb _ e n => u.slot b o e n hb (by simp)) (fun b o _ e n => u.free b o e n (by simp)) (fun b o _ e => u.there b o e (by simp)) u.tups u.frzs u.tbls (fun m' hm => by
    obtain ⟨o', es', ep', ho', r'⟩ := hm
    rw [ho] at ho'; cases ho'
    exact ⟨_, es', ep', hL, r'⟩) hok I.bare
theorem Inv.call {g' : Array GenState} {t' : Nat} {d' : Drawn} {ch : List Addr} (I : Inv X pins σ H s) (u : Un (frs X.stack) ch H H' s.heap h') (hok : HOk X.prog X.w H' h') (hg : AllBare g')
    (hch : ∀ b ∈ ch, (b ∈ X.ex ∨ X.s_0.heap.objs.size ≤ b) ∧ b ≠ X.env.locals ∧ (∀ x c, X.env.cells.lookup x = some c → c ≠ b) ∧ ∀ p ∈ X.pn ++ pins, p.1 ≠ b) :
    Inv X pins σ H' { s with heap := h', gens := g', drawn := d', toks := t' } := by
  obtain ⟨m, ⟨o, es, ep, ho, r⟩, _⟩ := id I.loc
  obtain ⟨sl, hL⟩ := u.any ho I.free fun z => (hch _ z).2.1 rfl
  exact I.step (ch := ch) hch (fun b o hL hb hc e n => u.keep b o e n (fun z => (List.mem_cons.mp (I.stkSub b z)).elim hL hb) hc) (fun b o _ _ hc e n => u.any e n hc) (fun b o hc e n => u.free b o e n hc) (fun b o hc e => u.there b o e hc) u.tups u.frzs u.tbls (fun m' hm => by
    obtain ⟨o', es', ep', ho', r'⟩ := hm
    rw [ho] at ho'; cases ho'
    exact ⟨_, es', ep', hL, r'⟩) hok hg
theorem Inv.turned {t' : Nat} {it : Addr} (I : Inv X pins σ H s) (k : ∀ b o, b ≠ it → s.heap.get? b = some o → h'.get? b = some o) (hn : H it = none) (hL : it ≠ X.env.locals)
    (h1 : it ∈ X.ex ∨ X.s_0.heap.objs.size ≤ it) (h2 : ∀ x c, X.env.cells.lookup x = some c → c ≠ it) (h3 : ∀ p ∈ X.pn ++ pins, p.1 ≠ it) : Inv X pins σ H { s with heap := h', toks := t' } := by
  have nit : ∀ b u, H b = some u → b ≠ it := fun b u e z => by rw [z, hn] at e; cases e
  refine I.step (g' := s.gens) (d' := s.drawn) (ch := [it]) (fun b hb => ?_) (fun b o _ _ hc e _ => k b o (fun z => hc (by simp [z])) e) (fun b o _ _ hc e _ => ⟨o.slots, k b o (fun z => hc (by simp [z])) e⟩) (fun _ _ _ _ n => n)
    (fun b o hc e => ⟨o, k b o (fun z => hc (by simp [z])) e⟩) (fun _ _ e => e) (fun _ _ _ e => e) (fun b ps e => ⟨#[], by rw [e]; simp⟩) (fun m hm => ?_) (fun b u e => ?_) I.bare
  · have e : b = it := by simpa using hb
    subst e
    exact ⟨h1, hL, h2, h3⟩
  · obtain ⟨o, es, ep, ho, r⟩ := hm
    exact ⟨o, es, ep, k _ o (Ne.symm hL) ho, r⟩
  · refine (I.hok b u e).stay (fun c v hc q => k c v ?_ q) (fun _ q => q) fun _ _ q => q
    rcases hc with z | z
    · rw [z]; exact nit b u e
    · exact nit c _ z
theorem Inv.tok (I : Inv X pins σ H s) (t : Nat) : Inv X pins σ H { s with toks := t } := I.un (h' := s.heap) (t' := t) Un.refl I.hok
theorem Inv.kept {t' : Nat} (I : Inv X pins σ H s) (k : ∀ b u, s.heap.get? b = some u → h'.get? b = some u) : Inv X pins σ H { s with heap := h', toks := t' } := I.un (Un.kept k) (I.hok.kept k)
theorem Inv.laid {a : Addr} {o : HO} {t' : Nat} (I : Inv X pins σ H s) (k : ∀ b u, s.heap.get? b = some u → h'.get? b = some u) (hp : s.heap.objs.size ≤ a) (new : ObjOk X.prog X.w (upd H a o) h' a o) :
    Inv X pins σ (upd H a o) { s with heap := h', toks := t' } := I.un (Un.laid k hp (I.hok.fresh hp)) (I.hok.laid k hp new)
theorem Inv.write {x e : Addr} {o : HO} {t' : Nat} (I : Inv X pins σ H s) (mu : Mut (H x)) (he : e = x ∨ H e = some (.own x)) (k : ∀ b u, b ≠ e → s.heap.get? b = some u → h'.get? b = some u) (heo : ∃ u, h'.get? e = some u)
    (new : ObjOk X.prog X.w (upd H x o) h' x o) : Inv X pins σ (upd H x o) { s with heap := h', toks := t' } := I.un (Un.write mu he k heo) (I.hok.write mu he k heo new)
theorem Inv.weak {σ' : List (Option V)} (I : Inv X pins σ H s) (hl : σ'.length = σ.length) (w : ∀ (i : Nat) v, σ'[i]? = some (some v) → σ[i]? = some (some v)) : Inv X pins σ' H s :=
  ⟨I.ok, I.os, I.bare, I.base, let ⟨m, hn, hl'⟩ := I.loc; ⟨m, hn, fun i x v e1 e2 e3 => hl' i x v e1 (w i v e2) e3⟩, I.cell, I.free, I.freeC, I.pin, I.hok, hl.trans I.len⟩
theorem Inv.pins_of {pins' : List (Addr × Obj)} (I : Inv X pins σ H s) (h : ∀ p ∈ pins', s.heap.get? p.1 = some p.2 ∧ H p.1 = none ∧ p.1 ≠ X.env.locals ∧ p.1 ∉ X.fs ∧ ∀ v, p.2.data ≠ .cell v) : Inv X pins' σ H s :=
  ⟨I.ok, I.os, I.bare, I.base, I.loc, I.cell, I.free, I.freeC, fun p hp => (List.mem_append.mp hp).elim (fun z => I.pin p (List.mem_append_left _ z)) (h p), I.hok, I.len⟩
theorem nodup_ix {N : List Str} (hN : N.Nodup) {i j : Nat} {x : Str} (a : N[i]? = some x) (b : N[j]? = some x) : i = j := by
  obtain ⟨h1, e1⟩ := List.getElem?_eq_some_iff.mp a
  obtain ⟨h2, e2⟩ := List.getElem?_eq_some_iff.mp b
  exact (List.getElem_inj hN).mp (e1.trans e2.symm)
theorem store_ok2 {M : Model} {A : Around} {E : Value → Shared → Prop} {i : Nat} {x : Str} {v : V} {u : Value} {Q : Unit → Shared → Prop} (I : Inv X pins σ H s) (hN : X.N.Nodup) (hi : X.N[i]? = some x) (hx : Loc X.env.scope x) (r : RelV v u)
    (h : ∀ s', Inv X pins (σ.set i (some v)) H s' → (∃ a, Heap.SameBut a s.heap s'.heap ∧ (a = X.env.locals ∨ X.env.cells.lookup x = some a)) → Q () s') (hf : X.fn x = true ∨ X.env.scope.names.lookup x = some .local := by first | exact .inl rfl | exact .inr rfl | assumption) : wpAny M A (storeName X.env x u) Q E s := by
  obtain ⟨m, hn, hl⟩ := id I.loc
  have hcls : (X.env.scope.kind == .class || (X.env.scope.kind == .module && X.env.locals != X.env.globals)) = false := by rw [I.ok.kind]; rfl
  have hiσ : i < σ.length := by rw [I.len]; exact (List.getElem?_eq_some_iff.mp hi).1
  have cne := I.cne
  have tracked : ∀ {a : Addr} {h' : Heap}, (∃ o, s.heap.get? a = some o ∧ H a = none) → Heap.SameBut a s.heap h' → HOk X.prog X.w H h' := fun {a h'} ha hs b ob e => by
    obtain ⟨_, _, hfree⟩ := ha
    refine (I.hok b ob e).stay (fun c w' hc q => (hs.2 c ?_).trans q) (fun _ q => q) fun _ _ q => q
    rintro rfl
    rcases hc with rfl | hc
    · rw [hfree] at e; cases e
    · rw [hfree] at hc; cases hc
  rcases hx with hk | hk
  · refine wpAny_storeName_local hk hn (fun h' hn' hs => ?_) hcls
    obtain ⟨oL, _, _, hoL, _⟩ := id hn
    refine h _ ⟨I.ok, I.os, I.bare, ⟨fun b o e n hb hx => ?_, fun b o e n hb hx => ?_, I.base.free, fun b o e hx => ?_, I.base.tups, I.base.frzs, I.base.tbls⟩, ⟨_, hn', fun j y v' e1 e2 e3 => ?_⟩, fun y c e => ?_, I.free, I.freeC, fun p hp => ?_, tracked ⟨oL, hoL, I.free⟩ hs, by simpa using I.len⟩ ⟨_, hs, .inl rfl⟩
    · exact (hs.2 b (Nat.ne_of_lt (Nat.lt_of_lt_of_le (Heap.lt_size e) I.ok.above))).trans (I.base.keep b o e n hb hx)
    · obtain ⟨sl, e1⟩ := I.base.slot b o e n hb hx
      exact ⟨sl, (hs.2 b (Nat.ne_of_lt (Nat.lt_of_lt_of_le (Heap.lt_size e) I.ok.above))).trans e1⟩
    · obtain ⟨o', e1⟩ := I.base.there b o e hx
      exact ⟨o', (hs.2 b (Nat.ne_of_lt (Nat.lt_of_lt_of_le (Heap.lt_size e) I.ok.above))).trans e1⟩
    · by_cases hj : j = i
      · subst hj
        rw [hi] at e1; cases e1
        rw [List.getElem?_set_self hiσ] at e2
        cases e2
        exact ⟨u, r, .inl ⟨hk, by simp⟩⟩
      · rw [List.getElem?_set_ne (Ne.symm hj)] at e2
        obtain ⟨u', r', q⟩ := hl j y v' e1 e2 e3
        refine ⟨u', r', ?_⟩
        rcases q with ⟨k, e⟩ | ⟨k, c, e, z⟩
        · refine .inl ⟨k, ?_⟩
          have : y ≠ x := fun e => hj (nodup_ix hN e1 (e ▸ hi))
          simp [this, e]
        · exact .inr ⟨k, c, e, z.sameBut hs (cne y c e)⟩
    · obtain ⟨w', z⟩ := I.cell y c e
      exact ⟨w', z.sameBut hs (cne y c e)⟩
    · obtain ⟨e, n, ne, nf, d⟩ := I.pin p hp
      exact ⟨(hs.2 p.1 ne).trans e, n, ne, nf, d⟩
  · have hfn : X.fn x = true := by
      rcases hf with z | z
      · exact z
      · rw [z] at hk; cases hk
    obtain ⟨c, hc⟩ := I.ok.has x (.inl hk)
    obtain ⟨w', z⟩ := I.cell x c hc
    refine wpAny_storeName_cell I.ok.kind hk hc z (fun h' hc' hs => ?_)
    obtain ⟨oc, hoc, hocd⟩ := id z
    refine h { s with heap := h' } ⟨I.ok, I.os, I.bare, ⟨fun b o e n hb hx => ?_, fun b o e n hb hx => ?_, I.base.free, fun b o e hx => ?_, I.base.tups, I.base.frzs, I.base.tbls⟩, ⟨m, hn.sameBut hs (Ne.symm (cne x c hc)), fun j y v' e1 e2 e3 => ?_⟩, fun y c' e => ?_, I.free, I.freeC, fun p hp => ?_, tracked ⟨oc, hoc, I.freeC x c hc⟩ hs, by simpa using I.len⟩ ⟨c, hs, .inr hc⟩
    · exact (hs.2 b (Nat.ne_of_lt (Nat.lt_of_lt_of_le (Heap.lt_size e) (I.ok.cab x c hfn hc)))).trans (I.base.keep b o e n hb hx)
    · obtain ⟨sl, e1⟩ := I.base.slot b o e n hb hx
      exact ⟨sl, (hs.2 b (Nat.ne_of_lt (Nat.lt_of_lt_of_le (Heap.lt_size e) (I.ok.cab x c hfn hc)))).trans e1⟩
    · obtain ⟨o', e1⟩ := I.base.there b o e hx
      exact ⟨o', (hs.2 b (Nat.ne_of_lt (Nat.lt_of_lt_of_le (Heap.lt_size e) (I.ok.cab x c hfn hc)))).trans e1⟩
    · by_cases hj : j = i
      · subst hj
        rw [hi] at e1; cases e1
        rw [List.getElem?_set_self hiσ] at e2
        cases e2
        exact ⟨u, r, .inr ⟨.inl hk, c, hc, hc'⟩⟩
      · rw [List.getElem?_set_ne (Ne.symm hj)] at e2
        obtain ⟨u', r', q⟩ := hl j y v' e1 e2 e3
        refine ⟨u', r', ?_⟩
        rcases q with q | ⟨k, c', e, z'⟩
        · exact .inl q
        · refine .inr ⟨k, c', e, z'.sameBut hs ?_⟩
          rintro rfl
          exact hj (nodup_ix hN e1 (I.ok.inj _ _ _ e hc ▸ hi))
    · by_cases hcc : c' = c
      · subst hcc; exact ⟨_, hc'⟩
      · obtain ⟨w2, z2⟩ := I.cell y c' e
        exact ⟨w2, z2.sameBut hs hcc⟩
    · obtain ⟨e, n, ne, nf, d⟩ := I.pin p hp
      refine ⟨(hs.2 p.1 ?_).trans e, n, ne, nf, d⟩
      intro q
      rw [q, hoc] at e
      have q' : oc = p.2 := Option.some.inj e
      exact d w' (by rw [← q']; exact hocd)
theorem store_ok {M : Model} {A : Around} {E : Value → Shared → Prop} {i : Nat} {x : Str} {v : V} {u : Value} {Q : Unit → Shared → Prop} (I : Inv X pins σ H s) (hN : X.N.Nodup) (hi : X.N[i]? = some x) (hx : Loc X.env.scope x) (r : RelV v u)
    (h : ∀ s', Inv X pins (σ.set i (some v)) H s' → Q () s') (hf : X.fn x = true ∨ X.env.scope.names.lookup x = some .local := by first | exact .inl rfl | exact .inr rfl | assumption) : wpAny M A (storeName X.env x u) Q E s :=
  store_ok2 I hN hi hx r (fun s' I' _ => h s' I') hf
theorem Inv.call' {s' : Shared} {ch : List Addr} (I : Inv X pins σ H s) (ho : s'.os = s.os) (u : Un (frs X.stack) ch H H' s.heap s'.heap) (hok : HOk X.prog X.w H' s'.heap) (hg : AllBare s'.gens)
    (hch : ∀ b ∈ ch, (b ∈ X.ex ∨ X.s_0.heap.objs.size ≤ b) ∧ b ≠ X.env.locals ∧ (∀ x c, X.env.cells.lookup x = some c → c ≠ b) ∧ ∀ p ∈ X.pn ++ pins, p.1 ≠ b) : Inv X pins σ H' s' := by
  obtain ⟨h', g', d', t', o'⟩ := s'
  have e : o' = s.os := ho
  subst e
  exact I.call (g' := g') (t' := t') (d' := d') u hok hg hch
end
abbrev XK := Value → Option Addr → Hp → Prop
abbrev St := List (Option V)
abbrev VK := V → Hp → Prop
abbrev TE := St → Hp → VK → Prop
abbrev TT := St → Hp → (Bool → Hp → Prop) → Prop
abbrev TA := St → Hp → (List V → Hp → Prop) → Prop
structure Ends where
  nx : St → Hp → Prop
  rt : VK
  bk : St → Hp → Prop := fun _ _ => False
  ct : St → Hp → Prop := fun _ _ => False
abbrev TS := Ends → St → Hp → Prop
def EP (X : Cx) (pins : List (Addr × Obj)) (σ : St) (Q : VK) (u : Value) (s' : Shared) : Prop := ∃ v H', Inv X pins σ H' s' ∧ RelV v u ∧ Q v H'
def TP (X : Cx) (pins : List (Addr × Obj)) (σ : St) (Q : Bool → Hp → Prop) (b : Bool) (s' : Shared) : Prop := ∃ H', Inv X pins σ H' s' ∧ Q b H'
def AP (X : Cx) (pins : List (Addr × Obj)) (σ : St) (Q : List V → Hp → Prop) (us : List Value) (s' : Shared) : Prop := ∃ vs H', Inv X pins σ H' s' ∧ Vals vs us ∧ Q vs H'
def SP (X : Cx) (pins : List (Addr × Obj)) (D : Ends) (f : Flow) (s' : Shared) : Prop :=
  match f with
  | .next => ∃ σ' H', Inv X pins σ' H' s' ∧ D.nx σ' H'
  | .brk => ∃ σ' H', Inv X pins σ' H' s' ∧ D.bk σ' H'
  | .cont => ∃ σ' H', Inv X pins σ' H' s' ∧ D.ct σ' H'
  | .ret u => ∃ v σ' H', Inv X pins σ' H' s' ∧ RelV v u ∧ D.rt v H'
def PE (X : Cx) (e : Expr) (t : TE) : Prop :=
  ∀ (pins : List (Addr × Obj)) (s : Shared) (σ : St) (H : Hp) (Q : VK), Inv X pins σ H s → t σ H Q → wpAny (model X.prog X.w) X.A (eval e X.env) (EP X pins σ Q) X.xe s
def PT (X : Cx) (e : Expr) (t : TT) : Prop :=
  ∀ (pins : List (Addr × Obj)) (s : Shared) (σ : St) (H : Hp) (Q : Bool → Hp → Prop), Inv X pins σ H s → t σ H Q → wpAny (model X.prog X.w) X.A (isTrue e X.env (eval e X.env)) (TP X pins σ Q) X.xe s
def PW (X : Cx) (e : Expr) (t : TT) : Prop :=
  ∀ (whole : Sem Value) (pins : List (Addr × Obj)) (s : Shared) (σ : St) (H : Hp) (Q : Bool → Hp → Prop), Inv X pins σ H s → t σ H Q → wpAny (model X.prog X.w) X.A (isTrue e X.env whole) (TP X pins σ Q) X.xe s
theorem PW.pt {X : Cx} {e : Expr} {t : TT} (h : PW X e t) : PT X e t := h _
def PA (X : Cx) (es : List Expr) (t : TA) : Prop :=
  ∀ (pos : Pos) (pins : List (Addr × Obj)) (s : Shared) (σ : St) (H : Hp) (Q : List V → Hp → Prop), Inv X pins σ H s → t σ H Q → wpAny (model X.prog X.w) X.A (spliced (backTo pos (starEach es X.env))) (AP X pins σ Q) X.xe s
def PS (X : Cx) (st : Stmt) (t : TS) : Prop :=
  ∀ (pins : List (Addr × Obj)) (s : Shared) (σ : St) (H : Hp) (D : Ends), Inv X pins σ H s → t D σ H → wpAny (model X.prog X.w) X.A (exec st X.env) (SP X pins D) X.xe s
def PSs (X : Cx) (st : List Stmt) (t : TS) : Prop :=
  ∀ (pins : List (Addr × Obj)) (s : Shared) (σ : St) (H : Hp) (D : Ends), Inv X pins σ H s → t D σ H → wpAny (model X.prog X.w) X.A (execs st X.env) (SP X pins D) X.xe s
theorem thn {α : Type} {t : Sem α} {Q Q' : α → Shared → Prop} {M : Model} {A : Around} {E : Value → Shared → Prop} {s : Shared} (h : wpAny M A t Q E s) (hQ : ∀ a s, Q a s → Q' a s) : wpAny M A t Q' E s := wpAny_mono h hQ fun _ _ x => x
end L2
namespace L2
open PySem PySem.Spec PyProof.Rows
section
variable {X : Cx}
def tVar (i : Nat) : TE := fun σ H Q => ∃ v, σ[i]? = some (some v) ∧ Q v H
def tC (v : V) : TE := fun _ H Q => Q v H
theorem pe_var {i : Nat} {x : Str} {pos : Pos} (hN : X.N[i]? = some x) (hv : Vis X.env.scope x) (hd : (x == ("__debug__" : Str)) = false := by decide) (hcd : (x == ("__classdict__" : Str)) = false := by decide) : PE X (.Name x pos) (tVar i) := by
  intro pins s σ H Q I h
  obtain ⟨v, e, h⟩ := h
  obtain ⟨m, hn, hl⟩ := I.loc
  obtain ⟨u, r, l⟩ := hl i x v hN e hv
  have fin : EP X pins σ Q u s := ⟨v, H, I, r, h⟩
  rcases l with ⟨hk, hm⟩ | ⟨hk, c, hc, hcell⟩
  · exact wpAny_Name (wpAny_loadName_local I.ok.kind hk hn hm fin) hd
  · rcases hk with hk | hk
    · exact wpAny_Name (wpAny_loadName_cell I.ok.kind hk hc hcell fin) hd
    · exact wpAny_Name (wpAny_loadName_free I.ok.kind hk hc hcell fin hcd) hd
theorem pe_int {i j pos} : PE X (.Constant (.int i) j pos) (tC (.int i)) := fun _ _ _ H _ I h => wpAny_Constant_int ⟨.int i, H, I.tok _, ⟨_, rfl⟩, h⟩
theorem pe_bl {b j pos} : PE X (.Constant (.bool b) j pos) (tC (.bl b)) := fun _ _ _ H _ I h => Constant_bool ⟨.bl b, H, I, rfl, h⟩
def Gl (X : Cx) (x : Str) : Prop := X.env.kindOf x = some .globalImplicit
theorem ld_glob {E : Value → Shared → Prop} {pins : List (Addr × Obj)} {s : Shared} {σ : St} {H : Hp} {x : Str} {u : Value} {pos : Pos} {Q : Value → Shared → Prop} (I : Inv X pins σ H s) (hg : Gl X x) (hm : X.mg x = some u) (h : Q u s)
    (hd : (x == ("__debug__" : Str)) = false := by decide) : wpAny (model X.prog X.w) X.A (eval (.Name x pos) X.env) Q E s :=
  Calls.Name_function_global I.ok.kind hg (Calls.loadGlobal_global (by rw [I.ok.glob]; exact I.mod.glob.keeps I.bk) hm h) hd
theorem ld_blt {E : Value → Shared → Prop} {pins : List (Addr × Obj)} {s : Shared} {σ : St} {H : Hp} {x : Str} {u : Value} {pos : Pos} {Q : Value → Shared → Prop} (I : Inv X pins σ H s) (hg : Gl X x) (hm : X.mg x = none) (hv : bootBuiltins x = some u) (h : Q u s)
    (hn : x ≠ "__name__" := by decide) (hd : (x == ("__debug__" : Str)) = false := by decide) : wpAny (model X.prog X.w) X.A (eval (.Name x pos) X.env) Q E s := by
  obtain ⟨mb, h1, h2⟩ := I.mod.blt
  exact Calls.Name_function_global I.ok.kind hg (Calls.loadGlobal_builtin (by rw [I.ok.glob]; exact I.mod.glob.keeps I.bk) hm (by rw [I.ok.blt]; exact h1.keeps I.bk) ((h2 x hn).trans hv) h) hd
theorem pe_glob {x : Str} {v : V} {u : Value} {pos : Pos} (hg : Gl X x) (hm : X.mg x = some u) (r : RelV v u) (hd : (x == ("__debug__" : Str)) = false := by decide) : PE X (.Name x pos) (tC v) :=
  fun _ _ _ H _ I h => ld_glob I hg hm ⟨v, H, I, r, h⟩ hd
variable {a b : Expr} {ta tb : TE} {pos : Pos}
def tB (t : TE) : TT := fun σ H Q => t σ H fun x H1 => ∃ c, x = .bl c ∧ Q c H1
theorem pt_val {e : Expr} {t : TE} (h : PE X e t) (he : ∀ whole, isTrue e X.env whole = (do let v ← whole; standAt e.pos; holding [v] (truthy v)) := by intro _; rfl) : PT X e (tB t) := by
  intro pins s σ H Q I hw
  refine isTrue_plain (thn (h pins s σ H _ I hw) fun v s1 ⟨x, H1, I1, r1, q1⟩ => ?_) (he _)
  obtain ⟨d, rfl, q⟩ := q1
  cases r1
  exact wpAny_truthy_bool ⟨H1, I1, q⟩
variable {tA tB' : TT} {rest : List Expr}
def tAnd (t u : TT) : TT := fun σ H Q => t σ H fun c H1 => if c = true then u σ H1 Q else Q false H1
def tOr (t u : TT) : TT := fun σ H Q => t σ H fun c H1 => if c = true then Q true H1 else u σ H1 Q
def tNot (t : TT) : TT := fun σ H Q => t σ H fun c H1 => Q (!c) H1
theorem pw_and1 (ha : PT X a tA) : PW X (.BoolOp .And [a] pos) tA := by
  intro wh pins s σ H Q I h
  refine isTrue_and (thn (ha pins s σ H Q I h) fun c s1 e => ?_)
  cases c with
  | true => exact isTrue_and_nil e
  | false => exact e
theorem pw_or1 (ha : PT X a tA) : PW X (.BoolOp .Or [a] pos) tA := by
  intro wh pins s σ H Q I h
  refine isTrue_or (thn (ha pins s σ H Q I h) fun c s1 e => ?_)
  cases c with
  | false => exact isTrue_or_nil e
  | true => exact e
theorem pw_and (ha : PT X a tA) (hb : PW X (.BoolOp .And (b :: rest) pos) tB') : PW X (.BoolOp .And (a :: b :: rest) pos) (tAnd tA tB') := by
  intro wh pins s σ H Q I h
  refine isTrue_and (thn (ha pins s σ H _ I h) fun c s1 ⟨H1, I1, q1⟩ => ?_)
  cases c with
  | true => exact hb wh pins s1 σ H1 Q I1 q1
  | false => exact ⟨H1, I1, q1⟩
theorem pw_or (ha : PT X a tA) (hb : PW X (.BoolOp .Or (b :: rest) pos) tB') : PW X (.BoolOp .Or (a :: b :: rest) pos) (tOr tA tB') := by
  intro wh pins s σ H Q I h
  refine isTrue_or (thn (ha pins s σ H _ I h) fun c s1 ⟨H1, I1, q1⟩ => ?_)
  cases c with
  | true => exact ⟨H1, I1, q1⟩
  | false => exact hb wh pins s1 σ H1 Q I1 q1
theorem pt_not (ha : PT X a tA) : PT X (.UnaryOp .Not a pos) (tNot tA) := by
  intro pins s σ H Q I h
  exact isTrue_not (ha pins s σ H (fun c H1 => Q (!c) H1) I h)
def tAndV (ta tb : TE) : TE := fun σ H Q => ta σ H fun x H1 => ∃ c, x = .bl c ∧ if c = true then tb σ H1 Q else Q (.bl false) H1
theorem pe_one {op} {t : TE} (h : PE X a t) : PE X (.BoolOp op [a] pos) t := fun pins s σ H Q I hw => BoolOp_one (h pins s σ H Q I hw)
theorem pe_and (ha : PE X a ta) (hb : PE X (.BoolOp .And (b :: rest) pos) tb) : PE X (.BoolOp .And (a :: b :: rest) pos) (tAndV ta tb) := by
  intro pins s σ H Q I h
  refine BoolOp_and (thn (ha pins s σ H _ I h) fun v s1 ⟨x, H1, I1, r1, q1⟩ => ?_)
  obtain ⟨c, rfl, q1⟩ := q1
  cases r1
  refine wpAny_truthy_bool ?_
  cases c with
  | true => exact hb pins s1 σ H1 Q I1 q1
  | false => exact ⟨.bl false, H1, I1, rfl, q1⟩
end
end L2
namespace L2
open PySem PySem.Spec PyProof.Rows
def SqL (K : PySem.W.Frag) (H : Hp) (a : Addr) (xs : List V) : Prop :=
  Rd H a (.lst xs) ∨
    ∃ (o : Obj) (its : Array Value) (n : Nat), K.lookup a = some o ∧ o.cls = .type "list" ∧ o.dict = none ∧ o.data = .seq its n ∧ its.size ≤ sizeLine ∧ Vals xs its.toList
def SqT (K : PySem.W.Frag) (H : Hp) (a : Addr) (xs : List V) : Prop :=
  Rd H a (.tup xs) ∨
    ∃ (o : Obj) (its : Array Value) (n : Nat), K.lookup a = some o ∧ o.cls = .type "tuple" ∧ o.data = .seq its n ∧ its.size ≤ sizeLine ∧ Vals xs its.toList
def absV : Value → Option V
  | .none => some .non
  | .bool b => some (.bl b)
  | .int i _ => some (.int i)
  | .str x _ => some (.str x)
  | .bytes b _ => some (.byt b)
  | .float b _ => some (.flt b)
  | .ref a => some (.ref a)
  | .type n => some (.ty n)
  | _ => none
theorem RelV.abs {x : V} {u : Value} (r : RelV x u) : absV u = some x := by
  cases x with
  | non => cases r; rfl
  | bl _ => cases r; rfl
  | int _ => obtain ⟨t, rfl⟩ := r; rfl
  | str _ => obtain ⟨t, rfl⟩ := r; rfl
  | byt _ => obtain ⟨t, rfl⟩ := r; rfl
  | flt _ => obtain ⟨t, rfl⟩ := r; rfl
  | ref _ => cases r; rfl
  | ty _ => cases r; rfl
theorem RelV.inj {x y : V} {u : Value} (r : RelV x u) (q : RelV y u) : x = y := Option.some.inj (r.abs.symm.trans q.abs)
theorem Vals.inj : ∀ {xs ys : List V} {us : List Value}, Vals xs us → Vals ys us → xs = ys
  | _, _, _, .nil, .nil => rfl
  | _, _, _, .cons r t, .cons r' t' => by rw [r.inj r', Vals.inj t t']
section
variable {X : Cx} {pins : List (Addr × Obj)} {σ : St} {H : Hp} {s : Shared} {a : Addr} {xs ys : List V}
theorem SqL.of {K : PySem.W.Frag} (h : H a = some (.lst xs)) : SqL K H a xs := .inl (.inl h)
theorem SqT.of {K : PySem.W.Frag} (h : H a = some (.tup xs)) : SqT K H a xs := .inl (.inl h)
theorem Inv.list (I : Inv X pins σ H s) (h : SqL X.K H a xs) : ∃ its : List Value, Vals xs its ∧ PlainL s.heap a its.toArray ∧ xs.length ≤ sizeLine := by
  rcases h with h | ⟨o, its, n, hk, hc, hd, hs, hz, r⟩
  · obtain ⟨z, its, n, r, e⟩ := h.ok I.hok
    exact ⟨its, r, ⟨_, n, e, rfl, rfl, rfl⟩, z⟩
  · refine ⟨its.toList, r, ⟨o, n, I.kIn a o hk, hc, hd, by simpa using hs⟩, ?_⟩
    have e := r.length
    simp only [Array.length_toList] at e
    omega
theorem Inv.tuple (I : Inv X pins σ H s) (h : SqT X.K H a xs) : ∃ its : List Value, Vals xs its ∧ IsTup s.heap a its.toArray ∧ xs.length ≤ sizeLine := by
  rcases h with h | ⟨o, its, n, hk, hc, hs, hz, r⟩
  · obtain ⟨z, its, r, p⟩ := h.ok I.hok
    exact ⟨its, r, p, z⟩
  · refine ⟨its.toList, r, ⟨o, I.kIn a o hk, hc, n, by simpa using hs⟩, ?_⟩
    have e := r.length
    simp only [Array.length_toList] at e
    omega
theorem Inv.list_inj (I : Inv X pins σ H s) (h : SqL X.K H a xs) (h' : SqL X.K H a ys) : xs = ys := by
  obtain ⟨its, r, ⟨o, n, e, _, _, d⟩, _⟩ := I.list h
  obtain ⟨its', r', ⟨o', n', e', _, _, d'⟩, _⟩ := I.list h'
  rw [e] at e'; cases e'
  rw [d] at d'
  injection d' with d1 _
  have : its = its' := by simpa using congrArg Array.toList d1
  subst this
  exact r.inj r'
end
abbrev Cx.wish (X : Cx) (E : Value → Shared → Prop) : Cx := { X with xe := E }
abbrev Cx.nox (X : Cx) : Cx := X.wish fun _ _ => False
theorem Cx.Ok.wish {X : Cx} (ok : X.Ok) (E : Value → Shared → Prop) : (X.wish E).Ok :=
  ⟨ok.mod, ok.kind, ok.glob, ok.blt, ok.above, ok.inj, ok.has, ok.cab, ok.hd, ok.frames, ok.stk, ok.exf, ok.bs, ok.bsz, ok.noex, ok.exfs, ok.funs, ok.frf⟩
theorem Cx.Ok.unwish {X : Cx} {E : Value → Shared → Prop} (ok : (X.wish E).Ok) : X.Ok :=
  ⟨ok.mod, ok.kind, ok.glob, ok.blt, ok.above, ok.inj, ok.has, ok.cab, ok.hd, ok.frames, ok.stk, ok.exf, ok.bs, ok.bsz, ok.noex, ok.exfs, ok.funs, ok.frf⟩
section
variable {X : Cx} {pins : List (Addr × Obj)} {σ : St} {H : Hp} {s : Shared} {E : Value → Shared → Prop}
theorem Inv.wish (I : Inv X pins σ H s) (E : Value → Shared → Prop) : Inv (X.wish E) pins σ H s := ⟨I.ok.wish E, I.os, I.bare, I.base, I.loc, I.cell, I.free, I.freeC, I.pin, I.hok, I.len⟩
theorem Inv.unwish (I : Inv (X.wish E) pins σ H s) : Inv X pins σ H s := ⟨I.ok.unwish, I.os, I.bare, I.base, I.loc, I.cell, I.free, I.freeC, I.pin, I.hok, I.len⟩
theorem SP.unwish {D : Ends} {f : Flow} {s' : Shared} (h : SP (X.wish E) pins D f s') : SP X pins D f s' := by
  cases f with
  | next => obtain ⟨σ', H', I, q⟩ := h; exact ⟨σ', H', I.unwish, q⟩
  | brk => obtain ⟨σ', H', I, q⟩ := h; exact ⟨σ', H', I.unwish, q⟩
  | cont => obtain ⟨σ', H', I, q⟩ := h; exact ⟨σ', H', I.unwish, q⟩
  | ret u => obtain ⟨v, σ', H', I, r, q⟩ := h; exact ⟨v, σ', H', I.unwish, r, q⟩
theorem PE.nox {e : Expr} {t : TE} (h : PE X.nox e t) : PE X e t := fun pins s σ H Q I hw =>
  wpAny_mono (h pins s σ H Q (I.wish _) hw) (fun _ _ ⟨v, H', I', r, q⟩ => ⟨v, H', I'.unwish, r, q⟩) fun _ _ z => False.elim z
theorem PT.nox {e : Expr} {t : TT} (h : PT X.nox e t) : PT X e t := fun pins s σ H Q I hw =>
  wpAny_mono (h pins s σ H Q (I.wish _) hw) (fun _ _ ⟨H', I', q⟩ => ⟨H', I'.unwish, q⟩) fun _ _ z => False.elim z
theorem PSs.nox {st : List Stmt} {t : TS} (h : PSs X.nox st t) : PSs X st t := fun pins s σ H D I hw =>
  wpAny_mono (h pins s σ H D (I.wish _) hw) (fun _ _ q => q.unwish) fun _ _ z => False.elim z
end
section
variable {X : Cx} {st : Stmt} {rest : List Stmt} {t u : TS} {e : Expr} {te : TE} {pos : Pos}
def tNext : TS := fun D σ H => D.nx σ H
def tSeq (t u : TS) : TS := fun D σ H => t { D with nx := u D } σ H
theorem pss_nil : PSs X [] tNext := fun _ _ σ H _ I h => wpAny_execs_nil ⟨σ, H, I, h⟩
theorem pss_cons (h1 : PS X st t) (h2 : PSs X rest u) : PSs X (st :: rest) (tSeq t u) := by
  intro pins s σ H D I h
  refine wpAny_execs_cons (thn (h1 pins s σ H { D with nx := u D } I h) fun f s1 q => ?_)
  cases f with
  | next =>
    obtain ⟨σ', H', I', q⟩ := q
    exact h2 pins s1 σ' H' D I' q
  | ret v => exact q
  | brk => exact q
  | cont => exact q
theorem pss_one (h1 : PS X st t) : PSs X [st] t := by
  intro pins s σ H D I h
  refine wpAny_execs_cons (thn (h1 pins s σ H D I h) fun f s1 q => ?_)
  cases f with
  | next => exact wpAny_execs_nil q
  | ret v => exact q
  | brk => exact q
  | cont => exact q
theorem Inv.quiet {pins : List (Addr × Obj)} {σ : St} {H : Hp} {s : Shared} (I : Inv X pins σ H s) : interactive X.env = false := by simp [interactive, I.ok.kind]
def tDrop (te : TE) : TS := fun D σ H => te σ H fun _ H1 => D.nx σ H1
theorem ps_expr (he : PE X e te) (hs : swapsWith e none pos.line X.env = pure false := by rfl) : PS X (.Expr e pos) (tDrop te) := by
  intro pins s σ H D I h
  exact wpAny_Expr_any (thn (he pins s σ H _ I h) fun v s1 ⟨x, H1, I1, r1, q1⟩ => ⟨σ, H1, I1, q1⟩) I.quiet hs
def tRet (te : TE) : TS := fun D σ H => te σ H D.rt
theorem ps_ret (he : PE X e te) : PS X (.Return (some e) pos) (tRet te) := by
  intro pins s σ H D I h
  exact wpAny_Return_some (thn (he pins s σ H _ I h) fun v s1 ⟨x, H1, I1, r1, q1⟩ => ⟨x, σ, H1, I1, r1, q1⟩)
def tIfS (c : TT) (t u : TS) : TS := fun D σ H => c σ H fun b H1 => if b = true then t D σ H1 else u D σ H1
theorem ps_if {c : Expr} {a b : List Stmt} {tc : TT} (hc : PT X c tc) (ha : PSs X a t) (hb : PSs X b u) : PS X (.If c a b pos) (tIfS tc t u) := by
  intro pins s σ H D I h
  refine wpAny_If (thn (hc pins s σ H _ I h) fun d s1 ⟨H1, I1, q1⟩ => ?_)
  cases d with
  | true => exact ha pins s1 σ H1 D I1 q1
  | false => exact hb pins s1 σ H1 D I1 q1
end
abbrev TG := V → St → Hp → (St → Hp → Prop) → Prop
abbrev TGs := List V → St → Hp → (St → Hp → Prop) → Prop
def PG (X : Cx) (target : Expr) (t : TG) : Prop :=
  ∀ (pins : List (Addr × Obj)) (s : Shared) (σ : St) (H : Hp) (v : V) (u : Value) (Q : St → Hp → Prop), Inv X pins σ H s → RelV v u → t v σ H Q →
    wpAny (model X.prog X.w) X.A (assign target X.env u) (fun _ s' => ∃ σ' H', Inv X pins σ' H' s' ∧ Q σ' H') X.xe s
def PGs (X : Cx) (ts : List Expr) (t : TGs) : Prop :=
  ∀ (pins : List (Addr × Obj)) (s : Shared) (σ : St) (H : Hp) (vs : List V) (us : List Value) (Q : St → Hp → Prop), Inv X pins σ H s → Vals vs us → t vs σ H Q →
    wpAny (model X.prog X.w) X.A (assignInOrder ((assignEach ts X.env).map (·.2)) us) (fun _ s' => ∃ σ' H', Inv X pins σ' H' s' ∧ Q σ' H') X.xe s
abbrev TSet := V → V → V → Hp → (Hp → Prop) → Prop
def PSet (X : Cx) (t : TSet) : Prop :=
  ∀ (pins : List (Addr × Obj)) (s : Shared) (σ : St) (H : Hp) (o i v : V) (ov iv u : Value) (Q : Hp → Prop), Inv X pins σ H s → RelV o ov → RelV i iv → RelV v u → t o i v H Q →
    wpAny (model X.prog X.w) X.A (setItem ov iv u) (fun _ s' => ∃ H', Inv X pins σ H' s' ∧ Q H') X.xe s
abbrev TIp := V → V → Hp → VK → Prop
def PIp (X : Cx) (op : Operator) (t : TIp) : Prop :=
  ∀ (pins : List (Addr × Obj)) (s : Shared) (σ : St) (H : Hp) (x y : V) (v u : Value) (Q : VK), Inv X pins σ H s → RelV x v → RelV y u → t x y H Q →
    wpAny (model X.prog X.w) X.A (inplaceOp op v u) (EP X pins σ Q) X.xe s
section
variable {X : Cx} {pos : Pos}
def gName (i : Nat) : TG := fun v σ H Q => Q (σ.set i (some v)) H
theorem pg_name {i : Nat} {x : Str} (hN : X.N.Nodup) (hi : X.N[i]? = some x) (hx : Loc X.env.scope x) (hf : X.fn x = true ∨ X.env.scope.names.lookup x = some .local := by first | exact .inl rfl | exact .inr rfl | assumption) : PG X (.Name x pos) (gName i) := by
  intro pins s σ H v u Q I r h
  exact wpAny_assign_Name (store_ok I hN hi hx r (fun s' I' => ⟨_, H, I', h⟩) hf)
def gNil : TGs := fun vs σ H Q => vs = [] ∧ Q σ H
def gCons (t : TG) (u : TGs) : TGs := fun vs σ H Q => ∃ v r, vs = v :: r ∧ t v σ H fun σ' H' => u r σ' H' Q
theorem pgs_nil : PGs X [] gNil := by
  intro pins s σ H vs us Q I r h
  obtain ⟨e, h⟩ := h
  subst e
  cases r
  exact assignInOrder_nil ⟨σ, H, I, h⟩
theorem pgs_cons {e : Expr} {es : List Expr} {t : TG} {u : TGs} (h1 : PG X e t) (h2 : PGs X es u)
    (hs : (assignEach (e :: es) X.env).map (·.2) = assign e X.env :: (assignEach es X.env).map (·.2) := by rfl) : PGs X (e :: es) (gCons t u) := by
  intro pins s σ H vs us Q I r h
  obtain ⟨v, vr, e1, h⟩ := h
  subst e1
  cases r with
  | cons r rr =>
    rw [hs]
    refine assignInOrder_cons (thn (h1 pins s σ H _ _ _ I r h) fun _ s1 ⟨σ1, H1, I1, q1⟩ => ?_)
    exact h2 pins s1 σ1 H1 _ _ Q I1 rr q1
def gTup (K : PySem.W.Frag) (n : Nat) (t : TGs) : TG := fun v σ H Q => ∃ a xs, v = .ref a ∧ SqT K H a xs ∧ xs.length = n ∧ t xs σ H Q
theorem pg_tup {es : List Expr} {k : Nat} {t : TGs} {n : Nat} (hc : X.calm = true) (h : PGs X es t)
    (hn : (assignEach es X.env).length = n := by rfl) (hst : (assignEach es X.env).findIdx? (·.1) = none := by rfl) : PG X (.Tuple es k pos) (gTup X.K n t) := by
  intro pins s σ H v u Q I r hw
  obtain ⟨a, xs, e1, hq, hl, hw⟩ := hw
  subst e1
  cases r
  obtain ⟨its, rv, ht, hz⟩ := I.tuple hq
  refine assign_Tuple_tuple (I.ok.hd hc) ht (by simp [hn, ← hl, rv.length]) hst fun h' hx => ?_
  have I1 : Inv X pins σ H { s with heap := h' } := I.kept (t' := s.toks) fun b o e => hx b o (Nat.ne_of_lt (Heap.lt_size e)) e
  exact h pins _ σ H xs _ Q I1 (by simpa using rv) hw
def gSub (to ti : TE) (t : TSet) : TG := fun v σ H Q => to σ H fun o H1 => ti σ H1 fun i H2 => t o i v H2 fun H3 => Q σ H3
theorem pg_sub {o i : Expr} {to ti : TE} {t : TSet} (ho : PE X o to) (hi : PE X i ti) (hs : PSet X t)
    (ha : ∀ v, assign (.Subscript o i pos) X.env v = (do
      let ov ← holding [v] (eval o X.env)
      let iv ← holding [v, ov] (eval i X.env)
      standAt pos
      holding [v, ov, iv] (setItem ov iv v)
      release [v, ov, iv] []) := by intro _; rfl) : PG X (.Subscript o i pos) (gSub to ti t) := by
  intro pins s σ H v u Q I r h
  rw [ha]
  refine wpAny_bind (wpAny_holding (thn (ho pins s σ H _ I h) fun ov s1 ⟨x, H1, I1, r1, q1⟩ => ?_))
  refine wpAny_bind (wpAny_holding (thn (hi pins s1 σ H1 _ I1 q1) fun iv s2 ⟨y, H2, I2, r2, q2⟩ => ?_))
  refine wpAny_bind (wpAny_standAt (wpAny_bind (wpAny_holding (thn (hs pins s2 σ H2 x y v ov iv u _ I2 r1 r2 r q2) fun _ s3 ⟨H3, I3, q3⟩ => ?_))))
  exact wpAny_release ⟨σ, H3, I3, q3⟩
def tAsg (te : TE) (g : TG) : TS := fun D σ H => te σ H fun x H1 => g x σ H1 D.nx
theorem ps_asg {tg e : Expr} {te : TE} {g : TG} (he : PE X e te) (hg : PG X tg g) (hs : swapsWithSole [tg] e pos.line X.env = pure false := by rfl) (hw : swappedStores [tg] e X.env = pure none := by rfl)
    (h1 : (assignEach [tg] X.env).map (·.2) = [assign tg X.env] := by rfl) : PS X (.Assign [tg] e pos) (tAsg te g) := by
  intro pins s σ H D I h
  refine wpAny_Assign_stores (thn (he pins s σ H _ I h) fun v s1 ⟨x, H1, I1, r1, q1⟩ => ?_) hs hw
  rw [h1]
  exact thn (hg pins s1 σ H1 x v _ I1 r1 q1) fun _ s2 q => q
theorem ps_set {i : Nat} {x : Str} {e : Expr} {te : TE} {pos' : Pos} (hN : X.N.Nodup) (hi : X.N[i]? = some x) (hx : Loc X.env.scope x) (he : PE X e te) (hs : swapsWith e (some (.Name x pos')) pos.line X.env = pure false := by rfl) (hf : X.fn x = true ∨ X.env.scope.names.lookup x = some .local := by first | exact .inl rfl | exact .inr rfl | assumption) :
    PS X (.Assign [.Name x pos'] e pos) (tAsg te (gName i)) := by
  intro pins s σ H D I h
  refine wpAny_Assign_Name (thn (he pins s σ H _ I h) fun v s1 ⟨y, H1, I1, r1, q1⟩ => ?_) hs
  exact store_ok I1 hN hi hx r1 (fun s2 I2 => ⟨_, H1, I2, q1⟩) hf
def tAug (i : Nat) (te : TE) (ti : TIp) : TS := fun D σ H => ∃ x, σ[i]? = some (some x) ∧ te σ H fun y H1 => ti x y H1 fun z H2 => D.nx (σ.set i (some z)) H2
theorem ps_aug {i : Nat} {x : Str} {e : Expr} {te : TE} {op : Operator} {ti : TIp} {pos' : Pos} (hN : X.N.Nodup) (hi : X.N[i]? = some x) (hx : Loc X.env.scope x) (he : PE X e te) (ho : PIp X op ti) (hf : X.fn x = true ∨ X.env.scope.names.lookup x = some .local := by first | exact .inl rfl | exact .inr rfl | assumption) :
    PS X (.AugAssign (.Name x pos') op e pos) (tAug i te ti) := by
  intro pins s σ H D I h
  obtain ⟨v, e1, h⟩ := h
  obtain ⟨m, hn, hl⟩ := I.loc
  have vis : Vis X.env.scope x := by rcases hx with k | k; exact .inl k; exact .inr (.inl k)
  obtain ⟨u, r, l⟩ := hl i x v hi e1 vis
  refine wpAny_AugAssign_Name ?_
  have go : wpAny (model X.prog X.w) X.A (eval e X.env) (fun w s₂ => wpAny (model X.prog X.w) X.A (inplaceOp op u w) (fun r s₃ => wpAny (model X.prog X.w) X.A (storeName X.env x r) (fun _ => SP X pins D .next) X.xe s₃) X.xe s₂) X.xe s := by
    refine thn (he pins s σ H _ I h) fun w s1 ⟨y, H1, I1, r1, q1⟩ => ?_
    refine thn (ho pins s1 σ H1 v y u w _ I1 r r1 q1) fun z s2 ⟨zv, H2, I2, r2, q2⟩ => ?_
    exact store_ok I2 hN hi hx r2 (fun s3 I3 => ⟨_, H2, I3, q2⟩) hf
  rcases l with ⟨hk, hm⟩ | ⟨hk, c, hc, hcell⟩
  · exact wpAny_loadName_local I.ok.kind hk hn hm go
  · rcases hk with hk | hk
    · exact wpAny_loadName_cell I.ok.kind hk hc hcell go
    · rcases hx with k | k
      · have : X.env.scope.names.lookup x = some .free := hk
        rw [k] at this; cases this
      · have : X.env.scope.names.lookup x = some .free := hk
        rw [k] at this; cases this
def tAugS (to ti te : TE) (tget : V → V → Hp → VK → Prop) (tip : TIp) (tset : TSet) : TS := fun D σ H => to σ H fun o H1 => ti σ H1 fun i H2 => tget o i H2 fun x H3 => te σ H3 fun y H4 => tip x y H4 fun z H5 => tset o i z H5 fun H6 => D.nx σ H6
def PGet (X : Cx) (t : V → V → Hp → VK → Prop) : Prop :=
  ∀ (pins : List (Addr × Obj)) (s : Shared) (σ : St) (H : Hp) (o i : V) (ov iv : Value) (Q : VK), Inv X pins σ H s → RelV o ov → RelV i iv → t o i H Q →
    wpAny (model X.prog X.w) X.A (getItem ov iv) (EP X pins σ Q) X.xe s
theorem ps_augS {o i e : Expr} {to ti te : TE} {tget : V → V → Hp → VK → Prop} {tip : TIp} {tset : TSet} {op : Operator} {tpos : Pos} (ho : PE X o to) (hi : PE X i ti) (hg : PGet X tget) (he : PE X e te) (hp : PIp X op tip) (hs : PSet X tset)
    (ha : ∀ ov iv new, augStore i ov iv new = (do holding [new, ov, iv] (setItem ov iv new); release [new, ov, iv] []; pure .next) := by intros; rfl) : PS X (.AugAssign (.Subscript o i tpos) op e pos) (tAugS to ti te tget tip tset) := by
  intro pins s σ H D I h
  refine wpAny_AugAssign_SubscriptAny (thn (ho pins s σ H _ I h) fun ov s1 ⟨x1, H1, I1, r1, q1⟩ => ?_) ha
  refine thn (hi pins s1 σ H1 _ I1 q1) fun iv s2 ⟨x2, H2, I2, r2, q2⟩ => ?_
  refine thn (hg pins s2 σ H2 x1 x2 ov iv _ I2 r1 r2 q2) fun old s3 ⟨x3, H3, I3, r3, q3⟩ => ?_
  refine thn (he pins s3 σ H3 _ I3 q3) fun v s4 ⟨x4, H4, I4, r4, q4⟩ => ?_
  refine thn (hp pins s4 σ H4 x3 x4 old v _ I4 r3 r4 q4) fun new s5 ⟨x5, H5, I5, r5, q5⟩ => ?_
  exact thn (hs pins s5 σ H5 x1 x2 x5 ov iv new _ I5 r1 r2 r5 q5) fun _ s6 ⟨H6, I6, q6⟩ => ⟨σ, H6, I6, q6⟩
def ipI (f : Int → Int → Int) : TIp := fun x y H Q => ∃ i j, x = .int i ∧ y = .int j ∧ Q (.int (f i j)) H
theorem ip_add : PIp X .Add (ipI fun i j => i + j) := by
  intro pins s σ H x y v u Q I r1 r2 h
  obtain ⟨i, j, e1, e2, q⟩ := h
  subst e1; subst e2
  obtain ⟨t, rfl⟩ := r1
  obtain ⟨t', rfl⟩ := r2
  exact iadd_int ⟨.int _, H, I.tok _, ⟨_, rfl⟩, q⟩
end
section
variable {X : Cx} {pos : Pos}
def tWhile (c : TT) (tb : TS) : TS := fun D σ H => ∃ W : Nat → St → Hp → Prop, (∃ m, W m σ H) ∧ ∀ m σ H, W m σ H →
  c σ H fun b H1 => if b = true then ∃ N : St → Hp → Prop, (∀ σ' H', N σ' H' → ∃ m', m' < m ∧ W m' σ' H') ∧ tb { D with nx := N, ct := N, bk := D.nx } σ H1 else D.nx σ H1
theorem ps_while {c : Expr} {body : List Stmt} {tc : TT} {tb : TS} (hp : PassesOwn (model X.prog X.w) X.A X.env X.xe) (hc : PT X c tc) (hb : PSs X body tb) : PS X (.While c body [] pos) (tWhile tc tb) := by
  intro pins s σ H D I h
  obtain ⟨W, ⟨m0, w0⟩, turn⟩ := h
  refine wpAny_While (codeAny_whileLoop (fun n s' => ∃ σ' H', Inv X pins σ' H' s' ∧ W n σ' H') ?_ m0 ⟨σ, H, I, w0⟩)
  rintro n s1 ⟨σ1, H1, I1, w1⟩
  refine wpAny_passesOwn hp (thn (hc pins s1 σ1 H1 _ I1 (turn n σ1 H1 w1)) fun b s2 ⟨H2, I2, q2⟩ => ?_)
  cases b with
  | true =>
    obtain ⟨N, hN, q2⟩ := q2
    rw [if_pos rfl]
    refine wpAny_passesOwn hp (thn (hb pins s2 σ1 H2 _ I2 q2) fun f s3 q3 => ?_)
    cases f with
    | next =>
      obtain ⟨σ3, H3, I3, n3⟩ := q3
      obtain ⟨m', hm, w3⟩ := hN σ3 H3 n3
      exact ⟨m', hm, σ3, H3, I3, w3⟩
    | cont =>
      obtain ⟨σ3, H3, I3, n3⟩ := q3
      obtain ⟨m', hm, w3⟩ := hN σ3 H3 n3
      exact ⟨m', hm, σ3, H3, I3, w3⟩
    | brk => exact q3
    | ret v => exact q3
  | false =>
    rw [if_neg Bool.false_ne_true]
    exact wpAny_execs_nil ⟨σ1, H2, I2, q2⟩
end
structure It where
  go : Nat → Hp → Prop
  yld : Nat → Hp → V → Hp → Prop
  stop : Nat → Hp → Prop
def FpOk (X : Cx) (pins : List (Addr × Obj)) (H : Hp) (b : Addr) : Prop :=
  H b = none ∧ b ≠ X.env.locals ∧ b ∉ X.fs ∧ (b ∈ X.ex ∨ X.s_0.heap.objs.size ≤ b) ∧ (∀ x c, X.env.cells.lookup x = some c → c ≠ b) ∧ ∀ p ∈ X.pn ++ pins, p.1 ≠ b
theorem Inv.fpOk {X : Cx} {pins : List (Addr × Obj)} {σ : St} {H H' : Hp} {s : Shared} {b : Addr} (I : Inv X pins σ H s) (hb : s.heap.objs.size ≤ b) (hn : H' b = none) : FpOk X pins H' b := by
  refine ⟨hn, Nat.ne_of_gt (Nat.lt_of_lt_of_le I.lt hb), I.nofs hb, .inr (Nat.le_trans I.sz hb), fun x c e z => ?_, fun p hp z => ?_⟩
  · obtain ⟨v, q⟩ := I.cell x c e
    exact absurd (Nat.lt_of_lt_of_le q.lt (by rw [z]; exact hb)) (Nat.lt_irrefl _)
  · exact absurd (Nat.lt_of_lt_of_le (Heap.lt_size (I.pin p hp).1) (by rw [z]; exact hb)) (Nat.lt_irrefl _)
structure Turn (P : Program) (w : World) (K : PySem.W.Frag) (tg : Expr) (J : It) (fp : List Addr) (it : Addr) (tn : Nat → Heap → Prop) : Prop where
  mem : it ∈ fp
  obj : ∀ i h, tn i h → ∀ b ∈ fp, ∃ o, h.get? b = some o ∧ ∀ v, o.data ≠ .cell v
  keep : ∀ i h h', tn i h → (∀ b ∈ fp, ∀ o, h.get? b = some o → h'.get? b = some o) → tn i h'
  item : ∀ (X : Cx), X.prog = P → X.w = w → X.K = K → X.calm = true → ∀ (i : Nat) (pins : List (Addr × Obj)) (s : Shared) (σ : St) (H : Hp) (E : Value → Shared → Prop), Inv X pins σ H s → (∀ b ∈ fp, FpOk X pins H b) → tn i s.heap → J.go i H →
    wpAny (model P w) X.A (pyNext (.ref it)) (fun r s1 => ∃ u, r = some u ∧
      wpAny (model P w) X.A (letOwnedTupleGo tg (.ref it) u) (fun _ s2 => ∃ x H', Inv X pins σ H' s2 ∧ RelV x u ∧ J.yld i H x H' ∧ tn (i + 1) s2.heap ∧ ∀ b ∈ fp, H' b = none) E s1) E s
  done : ∀ (X : Cx), X.prog = P → X.w = w → X.K = K → X.calm = true → ∀ (i : Nat) (pins : List (Addr × Obj)) (s : Shared) (σ : St) (H : Hp) (E : Value → Shared → Prop), Inv X pins σ H s → (∀ b ∈ fp, FpOk X pins H b) → tn i s.heap → J.stop i H →
    wpAny (model P w) X.A (pyNext (.ref it)) (fun r s1 => r = none ∧ Inv X pins σ H s1) E s
  self : ∀ (A : Around) (i : Nat) (s : Shared) (Q : Value → Shared → Prop) (E : Value → Shared → Prop), tn i s.heap → Q (.ref it) s → wpAny (model P w) A (pyIter (.ref it)) Q E s
abbrev TI := St → Hp → (It → Hp → Prop) → Prop
def PIE (X : Cx) (pins : List (Addr × Obj)) (σ : St) (tg : Expr) (R : It → Hp → Prop) (itv : Value) (s2 : Shared) : Prop :=
  ∃ (it : Addr) (fp : List Addr) (tn : Nat → Heap → Prop) (J : It) (H' : Hp), itv = .ref it ∧ Inv X pins σ H' s2 ∧ Turn X.prog X.w X.K tg J fp it tn ∧ tn 0 s2.heap ∧ (∀ b ∈ fp, FpOk X pins H' b) ∧ R J H'
def PI (X : Cx) (tg iter : Expr) (wi : TI) : Prop :=
  ∀ (pins : List (Addr × Obj)) (s : Shared) (σ : St) (H : Hp) (R : It → Hp → Prop), Inv X pins σ H s → wi σ H R →
    wpAny (model X.prog X.w) X.A (eval iter X.env) (fun v s1 => wpAny (model X.prog X.w) X.A (pyIter v) (PIE X pins σ tg R) X.xe s1) X.xe s
theorem go_of {M : Model} {A : Around} {E : Value → Shared → Prop} {s : Shared} {tg : Expr} {it : Addr} {u : Value} {o : Obj} {n : String} {vs : Array Value} {Q : Unit → Shared → Prop} (ho : s.heap.get? it = some o) (hc : o.cls = .type n) (hd : o.data = .fields vs)
    (hn : ["enumerate", "zip", "dict_itemiterator", "dict_reverseitemiterator", "odict_iterator", "itertools.zip_longest", "itertools.pairwise"].contains n = false) (hQ : Q () s) : wpAny M A (letOwnedTupleGo tg (.ref it) u) Q E s := by
  unfold letOwnedTupleGo
  cases tg <;> first
    | exact wpAny_pure hQ
    | (cases u <;> first
        | exact wpAny_pure hQ
        | (refine wpAny_bind (wpAny_load ho ?_)
           rw [hc, hd]
           show wpAny M A (if (["enumerate", "zip", "dict_itemiterator", "dict_reverseitemiterator", "odict_iterator", "itertools.zip_longest", "itertools.pairwise"].contains n && vs[0]? == some (rawInt _)) = true then _ else _) Q E s
           rw [if_neg (by intro h; rw [hn, Bool.false_and] at h; cases h)]
           exact wpAny_pure hQ))
def Itl (K : PySem.W.Frag) (a : Addr) : It :=
  ⟨fun i H => ∃ xs x, SqL K H a xs ∧ xs[i]? = some x, fun i H x H' => H' = H ∧ ∀ xs, SqL K H a xs → xs[i]? = some x, fun i H => ∃ xs, SqL K H a xs ∧ xs.length ≤ i⟩
def Itr (lo : Int) (n : Nat) : It := ⟨fun i _ => i < n, fun i H x H' => H' = H ∧ x = .int (lo + i), fun i _ => n ≤ i⟩
theorem turn_list {P : Program} {w : World} {K : PySem.W.Frag} {tg : Expr} (a it : Addr) : Turn P w K tg (Itl K a) [it] it (fun i h => h.IsListIter it a i) where
  mem := by simp
  obj := fun i h st b hb => by
    have e : b = it := by simpa using hb
    subst e
    obtain ⟨o, e, c, d⟩ := st
    exact ⟨o, e, fun v z => by rw [d] at z; cases z⟩
  keep := fun i h h' st k => st.at fun o e => k it (by simp) o e
  item := by
    intro X hP hw hK hc i pins s σ H E I hf st hg
    subst hP hw hK
    obtain ⟨xs, x, hq, hx⟩ := hg
    obtain ⟨its, rv, p, hz⟩ := I.list hq
    obtain ⟨u, hu, ru⟩ := rv.get hx
    obtain ⟨f0, f1, f2, f3, f4, f5⟩ := hf it (by simp)
    refine wpAny_pyNext_list_item st p.isList (x := u) (by simpa using hu) fun h' st' sb => ?_
    have I1 : Inv X pins σ H { s with heap := h' } := I.turned (t' := s.toks) (fun b o hb e => (sb.2 b hb).trans e) f0 f1 f3 f4 f5
    obtain ⟨o, e, c, d⟩ := id st'
    exact ⟨u, rfl, go_of (s := { s with heap := h' }) e c d (by decide) ⟨x, H, I1, ru, ⟨rfl, fun ys hy => by rw [I.list_inj hy hq]; exact hx⟩, st', fun b hb => (hf b hb).1⟩⟩
  done := by
    intro X hP hw hK hc i pins s σ H E I hf st hg
    subst hP hw hK
    obtain ⟨xs, hq, hx⟩ := hg
    obtain ⟨its, rv, p, hz⟩ := I.list hq
    obtain ⟨f0, f1, f2, f3, f4, f5⟩ := hf it (by simp)
    have hl := rv.length
    exact wpAny_pyNext_list_end (I.ok.hd hc) st p.isList (by simp; omega) fun h' eb => ⟨rfl, I.turned (t' := s.toks) (fun b o hb e => eb b o hb e) f0 f1 f3 f4 f5⟩
  self := fun _ _ _ _ _ st h => wpAny_pyIter_listiter st h
theorem turn_range {P : Program} {w : World} {K : PySem.W.Frag} {tg : Expr} (it : Addr) (lo : Int) (n : Nat) : Turn P w K tg (Itr lo n) [it] it (fun i h => IsRangeIter h it (lo + (i : Nat) * 1) ((n : Int) - (i : Nat)) 1) where
  mem := by simp
  obj := fun i h st b hb => by
    have e : b = it := by simpa using hb
    subst e
    exact ⟨_, st, fun v z => by
      have z' : Data.fields _ = Data.cell v := z
      cases z'⟩
  keep := fun i h h' st k => k it (by simp) _ st
  item := by
    intro X hP hw hK hc i pins s σ H E I hf st hg
    subst hP hw hK
    obtain ⟨f0, f1, f2, f3, f4, f5⟩ := hf it (by simp)
    have W := Walks.range (prog := X.prog) (w := X.w) (I.ok.hd hc) it lo 1 n
    refine W.item i s _ _ hg st fun v h' tk hv st' kk => ?_
    obtain ⟨t, rfl⟩ := hv
    have I1 : Inv X pins σ H { s with heap := h', toks := tk } := I.turned (fun b o hb e => kk b o (by simpa using hb) e) f0 f1 f3 f4 f5
    refine ⟨_, rfl, go_of (s := { s with heap := h', toks := tk }) (n := "range_iterator") st' rfl rfl (by decide) ⟨.int (lo + i), H, I1, ⟨t, ?_⟩, ⟨rfl, rfl⟩, st', fun b hb => (hf b hb).1⟩⟩
    rw [Int.mul_one]
  done := by
    intro X hP hw hK hc i pins s σ H E I hf st hg
    subst hP hw hK
    obtain ⟨f0, f1, f2, f3, f4, f5⟩ := hf it (by simp)
    exact wpAny_pyNext_range_end (I.ok.hd hc) st (by have : n ≤ i := hg; omega) fun h' eb => ⟨rfl, I.turned (t' := s.toks) (fun b o hb e => eb b o hb e) f0 f1 f3 f4 f5⟩
  self := fun _ _ _ _ _ st h => wpAny_pyIter_rangeiter st h
end L2
namespace L2
open PySem PySem.Spec PyProof.Rows
section
variable {X : Cx} {tg : Expr}
def iList (K : PySem.W.Frag) (tl : TE) : TI := fun σ H R => tl σ H fun x H1 => ∃ a, x = .ref a ∧ (∃ xs, SqL K H1 a xs) ∧ R (Itl K a) H1
theorem pi_list {l : Expr} {tl : TE} (hl : PE X l tl) : PI X tg l (iList X.K tl) := by
  intro pins s σ H R I h
  refine thn (hl pins s σ H _ I h) fun v s1 ⟨x, H1, I1, r1, q1⟩ => ?_
  obtain ⟨a, e, ⟨xs, hq⟩, q⟩ := q1
  subst e
  cases r1
  obtain ⟨its, rv, p, hz⟩ := I1.list hq
  refine wpAny_pyIter_list p.isList ?_
  refine ⟨s1.heap.objs.size, [s1.heap.objs.size], _, _, H1, rfl, I1.kept (t' := s1.toks) fun b o e => Heap.get?_push_of_some _ e, turn_list a _, ⟨_, Heap.get?_push_size _ rfl, rfl, rfl⟩, fun b hb => ?_, q⟩
  have e : b = s1.heap.objs.size := by simpa using hb
  subst e
  exact I1.fpOk (Nat.le_refl _) (I1.hok.fresh (Nat.le_refl _))
theorem range_it {pins : List (Addr × Obj)} {σ : St} {H : Hp} {s : Shared} {R : It → Hp → Prop} {E : Value → Shared → Prop} {lo hi : Int} {t u v : Tok} {tk : Nat} (I : Inv X pins σ H s) (h1 : -(2 ^ 62) ≤ lo) (h2 : lo < 2 ^ 62) (h3 : -(2 ^ 62) ≤ hi) (h4 : hi < 2 ^ 62)
    (q : R (Itr lo (hi - lo).toNat) H) : wpAny (model X.prog X.w) X.A (pyIter (.ref s.heap.objs.size)) (PIE X pins σ tg R) E { s with heap := s.heap.push { cls := .type "range", data := .fields #[.int lo t, .int hi u, .int 1 v] }, toks := tk } := by
  refine wpAny_pyIter_range (IsRange.new ..) (small_one h1 h2 h3 h4) ?_
  have I1 : Inv X pins σ H { s with heap := s.heap.push { cls := .type "range", data := .fields #[.int lo t, .int hi u, .int 1 v] }, toks := tk } := I.kept fun b o e => Heap.get?_push_of_some _ e
  refine ⟨(s.heap.push { cls := .type "range", data := .fields #[.int lo t, .int hi u, .int 1 v] }).objs.size, [(s.heap.push { cls := .type "range", data := .fields #[.int lo t, .int hi u, .int 1 v] }).objs.size], _, _, H, rfl,
    I1.kept (t' := tk) fun b o e => Heap.get?_push_of_some _ e, turn_range _ lo (hi - lo).toNat, ?_, fun b hb => ?_, q⟩
  · have e1 : lo + ((0 : Nat) : Int) * 1 = lo := by simp
    have e2 : (((hi - lo).toNat : Nat) : Int) - ((0 : Nat) : Int) = Builtin.Range.rangeSize lo hi 1 := by rw [rangeSize_one]; split <;> omega
    show IsRangeIter _ _ (lo + ((0 : Nat) : Int) * 1) ((((hi - lo).toNat : Nat) : Int) - ((0 : Nat) : Int)) 1
    rw [e1, e2]
    exact Heap.get?_push_size _ rfl
  · have e : b = (s.heap.push { cls := .type "range", data := .fields #[.int lo t, .int hi u, .int 1 v] }).objs.size := by simpa using hb
    subst e
    exact I1.fpOk (Nat.le_refl _) (I1.hok.fresh (Nat.le_refl _))
def iRng1 (ta : TA) : TI := fun σ H R => ta σ H fun vs H1 => ∃ j : Int, vs = [.int j] ∧ -(2 ^ 62) ≤ j ∧ j < 2 ^ 62 ∧ R (Itr 0 j.toNat) H1
theorem pi_range1 {a : Expr} {ta : TA} {p pos : Pos} (hg : Gl X "range") (hm : X.mg "range" = none) (ha : PA X [a] ta) (hs : starEach [a] X.env = [(false, eval a X.env)] := by rfl) : PI X tg (.Call (.Name "range" p) [a] [] pos) (iRng1 ta) := by
  intro pins s σ H R I h
  refine Call_ (ld_blt I hg hm boot_range (PyProof.Rows.callWith_type1 (thn (ha pos pins s σ H _ I h) fun us s1 ⟨vs, H1, I1, r1, q1⟩ => ?_) hs rfl))
  obtain ⟨j, e, q1, q2, q⟩ := q1
  subst e
  cases r1 with
  | cons r rr =>
    cases rr
    obtain ⟨t, rfl⟩ := r
    exact call_range_1 (range_it I1 (by omega) (by omega) q1 q2 (by simpa using q))
def tFor (wi : TI) (g : TG) (tb : TS) : TS := fun D σ H => wi σ H fun J H1 => ∃ W : Nat → Nat → St → Hp → Prop, (∃ m, W 0 m σ H1) ∧ ∀ i m σ H, W i m σ H →
  (J.stop i H ∧ D.nx σ H) ∨ (J.go i H ∧ ∃ N : St → Hp → Prop, (∀ σ' H', N σ' H' → ∃ m', m' < m ∧ W (i + 1) m' σ' H') ∧ ∀ x H', J.yld i H x H' → g x σ H' fun σ2 H2 => tb { D with nx := N, ct := N, bk := D.nx } σ2 H2)
def pinsAt (fp : List Addr) (h : Heap) : List (Addr × Obj) := fp.filterMap fun b => (h.get? b).map fun o => (b, o)
theorem mem_pinsAt {fp : List Addr} {h : Heap} {b : Addr} {o : Obj} (hb : b ∈ fp) (e : h.get? b = some o) : (b, o) ∈ pinsAt fp h := List.mem_filterMap.mpr ⟨b, hb, by rw [e]; rfl⟩
theorem of_pinsAt {fp : List Addr} {h : Heap} {p : Addr × Obj} (hp : p ∈ pinsAt fp h) : p.1 ∈ fp ∧ h.get? p.1 = some p.2 := by
  obtain ⟨b, hb, e⟩ := List.mem_filterMap.mp hp
  cases q : h.get? b with
  | none => rw [q] at e; cases e
  | some o =>
    rw [q] at e
    have e' : (b, o) = p := Option.some.inj e
    subst e'
    exact ⟨hb, q⟩
theorem Inv.pinned {pins : List (Addr × Obj)} {σ : St} {H : Hp} {s : Shared} {fp : List Addr} (I : Inv X pins σ H s) (hf : ∀ b ∈ fp, FpOk X pins H b) (ho : ∀ b ∈ fp, ∃ o, s.heap.get? b = some o ∧ ∀ v, o.data ≠ .cell v) : Inv X (pins ++ pinsAt fp s.heap) σ H s :=
  I.pins_of fun p hp => (List.mem_append.mp hp).elim (fun z => I.pin p (List.mem_append_right _ z)) fun z => by
    obtain ⟨hb, e⟩ := of_pinsAt z
    obtain ⟨f0, f1, f2, _⟩ := hf p.1 hb
    obtain ⟨o, e', d⟩ := ho p.1 hb
    rw [e] at e'; cases e'
    exact ⟨e, f0, f1, f2, d⟩
theorem Inv.unpinned {pins pl : List (Addr × Obj)} {σ : St} {H : Hp} {s : Shared} (I : Inv X (pins ++ pl) σ H s) : Inv X pins σ H s := I.pins_of fun p hp => I.pin p (List.mem_append_right _ (List.mem_append_left _ hp))
theorem ps_for {iter : Expr} {body : List Stmt} {wi : TI} {g : TG} {tb : TS} {pos : Pos} (hp : PassesOwn (model X.prog X.w) X.A X.env X.xe) (hc : X.calm = true) (hi : PI X tg iter wi) (hg : PG X tg g) (hb : PSs X body tb)
    (hs : ∀ x, foldedSetIterable iter X.env x = pure x := by intro _; rfl) : PS X (.For tg iter body [] pos) (tFor wi g tb) := by
  intro pins s σ H D I h
  refine wpAny_For (thn (hi pins s σ H _ I h) fun v s1 h1 => thn h1 fun itv s2 h2 => ?_) hs
  obtain ⟨it, fp, tn, J, H2, e, I2, T, st2, f2, W, ⟨m0, w0⟩, turn⟩ := h2
  subst e
  -- what stays true of the iterator's objects through the loop
  have stat : ∀ {H' : Hp}, (∀ b ∈ fp, H' b = none) → ∀ b ∈ fp, FpOk X pins H' b := fun hn b hb => ⟨hn b hb, (f2 b hb).2⟩
  refine codeAny_forLoop_any (fun n s' => ∃ i σ' H', Inv X pins σ' H' s' ∧ tn i s'.heap ∧ (∀ b ∈ fp, H' b = none) ∧ W i n σ' H') ?_ m0 ⟨0, σ, H2, I2, st2, fun b hb => (f2 b hb).1, w0⟩
  rintro n s3 ⟨i, σ3, H3, I3, st3, fr3, w3⟩
  rcases turn i n σ3 H3 w3 with ⟨stop, qn⟩ | ⟨go, N, hN, step⟩
  · refine wpAny_passesOwn hp (thn (T.done X rfl rfl rfl hc i pins s3 σ3 H3 X.xe I3 (stat fr3) st3 stop) fun r s4 ⟨hr, I4⟩ => ?_)
    subst hr
    exact wpAny_execs_nil ⟨σ3, H3, I4, qn⟩
  · refine wpAny_passesOwn hp (thn (T.item X rfl rfl rfl hc i pins s3 σ3 H3 X.xe I3 (stat fr3) st3 go) fun r s4 ⟨u, hr, h4⟩ => ?_)
    subst hr
    refine wpAny_passesOwn hp (thn h4 fun _ s5 ⟨x, H5, I5, r5, y5, st5, fr5⟩ => ?_)
    have I5' := I5.pinned (stat fr5) (T.obj _ _ st5)
    refine wpAny_passesOwn hp (thn (hg _ s5 σ3 H5 x u _ I5' r5 (step x H5 y5)) fun _ s6 ⟨σ6, H6, I6, q6⟩ => ?_)
    refine wpAny_passesOwn hp (thn (hb _ s6 σ6 H6 _ I6 q6) fun f s7 q7 => ?_)
    have again : ∀ {σ7 : St} {H7 : Hp}, Inv X (pins ++ pinsAt fp s5.heap) σ7 H7 s7 → N σ7 H7 → ∃ m, m < n ∧ ∃ i σ' H', Inv X pins σ' H' s7 ∧ tn i s7.heap ∧ (∀ b ∈ fp, H' b = none) ∧ W i m σ' H' := fun {σ7 H7} I7 n7 => by
      obtain ⟨m', hm, w7⟩ := hN σ7 H7 n7
      refine ⟨m', hm, i + 1, σ7, H7, I7.unpinned, T.keep _ _ _ st5 fun b hb o e => (I7.pin (b, o) (List.mem_append_right _ (List.mem_append_right _ (mem_pinsAt hb e)))).1, fun b hb => ?_, w7⟩
      obtain ⟨o, e, d⟩ := T.obj _ _ st5 b hb
      exact (I7.pin (b, o) (List.mem_append_right _ (List.mem_append_right _ (mem_pinsAt hb e)))).2.1
    cases f with
    | next => obtain ⟨σ7, H7, I7, n7⟩ := q7; exact again I7 n7
    | cont => obtain ⟨σ7, H7, I7, n7⟩ := q7; exact again I7 n7
    | brk => obtain ⟨σ7, H7, I7, q7⟩ := q7; exact ⟨σ7, H7, I7.unpinned, q7⟩
    | ret v => obtain ⟨x7, σ7, H7, I7, r7, q7⟩ := q7; exact ⟨x7, σ7, H7, I7.unpinned, r7, q7⟩
end
theorem for_list {K : PySem.W.Frag} {a : Addr} {xs : List V} {g : TG} {tb : TS} {D : Ends} {σ : St} {H : Hp} (Pv : Nat → St → Hp → Prop) (h0 : Pv 0 σ H) (hl : ∀ i σ H, i ≤ xs.length → Pv i σ H → SqL K H a xs)
    (hs : ∀ i x σ H, xs[i]? = some x → Pv i σ H → g x σ H fun σ2 H2 => tb { D with nx := Pv (i + 1), ct := Pv (i + 1), bk := D.nx } σ2 H2) (hd : ∀ σ H, Pv xs.length σ H → D.nx σ H) :
    ∃ W : Nat → Nat → St → Hp → Prop, (∃ m, W 0 m σ H) ∧ ∀ i m σ H, W i m σ H →
      ((Itl K a).stop i H ∧ D.nx σ H) ∨ ((Itl K a).go i H ∧ ∃ N : St → Hp → Prop, (∀ σ' H', N σ' H' → ∃ m', m' < m ∧ W (i + 1) m' σ' H') ∧ ∀ x H', (Itl K a).yld i H x H' → g x σ H' fun σ2 H2 => tb { D with nx := N, ct := N, bk := D.nx } σ2 H2) := by
  refine ⟨fun i m σ H => m = xs.length - i ∧ i ≤ xs.length ∧ Pv i σ H, ⟨xs.length, by simp, Nat.zero_le _, h0⟩, ?_⟩
  rintro i m σ H ⟨rfl, hi, p⟩
  have q := hl i σ H hi p
  by_cases hlt : i < xs.length
  · refine .inr ⟨⟨xs, xs[i], q, by simp [hlt]⟩, Pv (i + 1), fun σ' H' p' => ⟨xs.length - (i + 1), by omega, rfl, hlt, p'⟩, fun x H' y => ?_⟩
    obtain ⟨e, y⟩ := y
    subst e
    exact hs i x σ _ (y xs q) p
  · have e : i = xs.length := by omega
    subst e
    exact .inl ⟨⟨xs, q, Nat.le_refl _⟩, hd σ H p⟩
theorem for_range {lo : Int} {n : Nat} {g : TG} {tb : TS} {D : Ends} {σ : St} {H : Hp} (Pv : Nat → St → Hp → Prop) (h0 : Pv 0 σ H)
    (hs : ∀ i σ H, i < n → Pv i σ H → g (.int (lo + i)) σ H fun σ2 H2 => tb { D with nx := Pv (i + 1), ct := Pv (i + 1), bk := D.nx } σ2 H2) (hd : ∀ σ H, Pv n σ H → D.nx σ H) :
    ∃ W : Nat → Nat → St → Hp → Prop, (∃ m, W 0 m σ H) ∧ ∀ i m σ H, W i m σ H →
      ((Itr lo n).stop i H ∧ D.nx σ H) ∨ ((Itr lo n).go i H ∧ ∃ N : St → Hp → Prop, (∀ σ' H', N σ' H' → ∃ m', m' < m ∧ W (i + 1) m' σ' H') ∧ ∀ x H', (Itr lo n).yld i H x H' → g x σ H' fun σ2 H2 => tb { D with nx := N, ct := N, bk := D.nx } σ2 H2) := by
  refine ⟨fun i m σ H => m = n - i ∧ i ≤ n ∧ Pv i σ H, ⟨n, by simp, Nat.zero_le _, h0⟩, ?_⟩
  rintro i m σ H ⟨rfl, hi, p⟩
  by_cases hlt : i < n
  · refine .inr ⟨hlt, Pv (i + 1), fun σ' H' p' => ⟨n - (i + 1), by omega, rfl, hlt, p'⟩, fun x H' y => ?_⟩
    obtain ⟨e, y⟩ := y
    subst e y
    exact hs i σ _ hlt p
  · have e : i = n := by omega
    subst e
    exact .inl ⟨Nat.le_refl _, hd σ H p⟩
theorem while_by {c : TT} {tb : TS} {D : Ends} {σ : St} {H : Hp} (Pv : St → Hp → Prop) (μ : St → Hp → Nat) (h0 : Pv σ H)
    (hs : ∀ σ H, Pv σ H → c σ H fun b H1 => if b = true then tb { D with nx := fun σ' H' => Pv σ' H' ∧ μ σ' H' < μ σ H, ct := fun σ' H' => Pv σ' H' ∧ μ σ' H' < μ σ H, bk := D.nx } σ H1 else D.nx σ H1)
    (mono : ∀ σ H Q Q', (∀ b H1, Q b H1 → Q' b H1) → c σ H Q → c σ H Q') : tWhile c tb D σ H := by
  refine ⟨fun m σ H => m = μ σ H ∧ Pv σ H, ⟨_, rfl, h0⟩, ?_⟩
  rintro m σ H ⟨rfl, p⟩
  refine mono σ H _ _ (fun b H1 q => ?_) (hs σ H p)
  cases b with
  | true => exact ⟨_, fun σ' H' ⟨p', l⟩ => ⟨_, l, rfl, p'⟩, q⟩
  | false => exact q
end L2
namespace L2
open PySem PySem.Spec PyProof.Rows
abbrev R2 := V → V → Hp → VK → Prop
def OpR (X : Cx) (f : Value → Value → Sem Value) (r : R2) : Prop :=
  ∀ (pins : List (Addr × Obj)) (s : Shared) (σ : St) (H : Hp) (x y : V) (v u : Value) (Q : VK), Inv X pins σ H s → RelV x v → RelV y u → r x y H Q →
    wpAny (model X.prog X.w) X.A (f v u) (EP X pins σ Q) X.xe s
def UnR (X : Cx) (f : Value → Sem Value) (r : V → Hp → VK → Prop) : Prop :=
  ∀ (pins : List (Addr × Obj)) (s : Shared) (σ : St) (H : Hp) (x : V) (v : Value) (Q : VK), Inv X pins σ H s → RelV x v → r x H Q →
    wpAny (model X.prog X.w) X.A (f v) (EP X pins σ Q) X.xe s
def CallR (X : Cx) (f : Value) (r : List V → Hp → VK → Prop) : Prop :=
  ∀ (pins : List (Addr × Obj)) (s : Shared) (σ : St) (H : Hp) (xs : List V) (us : List Value) (Q : VK), Inv X pins σ H s → Vals xs us → r xs H Q →
    wpAny (model X.prog X.w) X.A (call f us) (EP X pins σ Q) X.xe s
def tOp (r : R2) (ta tb : TE) : TE := fun σ H Q => ta σ H fun x H1 => tb σ H1 fun y H2 => r x y H2 Q
def tUn (r : V → Hp → VK → Prop) (ta : TE) : TE := fun σ H Q => ta σ H fun x H1 => r x H1 Q
def rI (C : Int → Int → Prop) (g : Int → Int → V) : R2 := fun x y H Q => ∃ i j, x = .int i ∧ y = .int j ∧ C i j ∧ Q (g i j) H
def rI0 (g : Int → Int → V) : R2 := fun x y H Q => ∃ i j, x = .int i ∧ y = .int j ∧ Q (g i j) H
def rU (g : Int → V) : V → Hp → VK → Prop := fun x H Q => ∃ i, x = .int i ∧ Q (g i) H
section
variable {X : Cx} {a b c : Expr} {ta tb tc : TE} {pos : Pos}
theorem binT (ha : PE X a ta) (hb : PE X b tb) {pins : List (Addr × Obj)} {s : Shared} {σ : St} {H : Hp} {R : V → V → Hp → Prop} (I : Inv X pins σ H s)
    (h : ta σ H fun x H1 => tb σ H1 fun y H2 => R x y H2) {Q : Value → Shared → Prop} {f : Value → Value → Sem Value}
    (hf : ∀ v u s2 x y H2, Inv X pins σ H2 s2 → RelV x v → RelV y u → R x y H2 → wpAny (model X.prog X.w) X.A (f v u) Q X.xe s2) :
    wpAny (model X.prog X.w) X.A (eval a X.env) (fun v s₁ => wpAny (model X.prog X.w) X.A (eval b X.env) (fun u s₂ => wpAny (model X.prog X.w) X.A (f v u) Q X.xe s₂) X.xe s₁) X.xe s := by
  refine thn (ha pins s σ H _ I h) fun v s1 ⟨x, H1, I1, r1, q1⟩ => ?_
  refine thn (hb pins s1 σ H1 _ I1 q1) fun u s2 ⟨y, H2, I2, r2, q2⟩ => ?_
  exact hf v u s2 x y H2 I2 r1 r2 q2
theorem pe_op {op : Operator} {r : R2} (ho : OpR X (binaryOp op) r) (ha : PE X a ta) (hb : PE X b tb) : PE X (.BinOp a op b pos) (tOp r ta tb) := by
  intro pins s σ H Q I h
  exact wpAny_BinOp (binT ha hb I h fun v u s2 x y H2 I2 rx ry q => ho pins s2 σ H2 x y v u Q I2 rx ry q)
theorem pe_un {op : UnaryOp} {r : V → Hp → VK → Prop} (ho : UnR X (unaryOp op) r) (ha : PE X a ta) : PE X (.UnaryOp op a pos) (tUn r ta) := by
  intro pins s σ H Q I h
  exact UnaryOp_ (thn (ha pins s σ H _ I h) fun v s1 ⟨x, H1, I1, r1, q1⟩ => ho pins s1 σ H1 x v Q I1 r1 q1)
theorem opI {f : Value → Value → Sem Value} {C : Int → Int → Prop} {g : Int → Int → Int}
    (rule : ∀ (i j : Int) (t u : Tok) (s : Shared) (Q : Value → Shared → Prop) (E : Value → Shared → Prop), C i j → Q (.int (g i j) s.toks) { s with toks := s.toks + 1 } → wpAny (model X.prog X.w) X.A (f (.int i t) (.int j u)) Q E s) :
    OpR X f (rI C fun i j => .int (g i j)) := by
  intro pins s σ H x y v u Q I rx ry h
  obtain ⟨i, j, rfl, rfl, hc, q⟩ := h
  obtain ⟨t, rfl⟩ := rx
  obtain ⟨t', rfl⟩ := ry
  exact rule i j t t' s _ _ hc ⟨.int (g i j), H, I.tok _, ⟨_, rfl⟩, q⟩
theorem opI0 {f : Value → Value → Sem Value} {g : Int → Int → Int}
    (rule : ∀ (i j : Int) (t u : Tok) (s : Shared) (Q : Value → Shared → Prop) (E : Value → Shared → Prop), Q (.int (g i j) s.toks) { s with toks := s.toks + 1 } → wpAny (model X.prog X.w) X.A (f (.int i t) (.int j u)) Q E s) :
    OpR X f (rI0 fun i j => .int (g i j)) := by
  intro pins s σ H x y v u Q I rx ry h
  obtain ⟨i, j, rfl, rfl, q⟩ := h
  obtain ⟨t, rfl⟩ := rx
  obtain ⟨t', rfl⟩ := ry
  exact rule i j t t' s _ _ ⟨.int (g i j), H, I.tok _, ⟨_, rfl⟩, q⟩
theorem opB0 {f : Value → Value → Sem Value} {g : Int → Int → Bool}
    (rule : ∀ (i j : Int) (t u : Tok) (s : Shared) (Q : Value → Shared → Prop) (E : Value → Shared → Prop), Q (.bool (g i j)) s → wpAny (model X.prog X.w) X.A (f (.int i t) (.int j u)) Q E s) :
    OpR X f (rI0 fun i j => .bl (g i j)) := by
  intro pins s σ H x y v u Q I rx ry h
  obtain ⟨i, j, rfl, rfl, q⟩ := h
  obtain ⟨t, rfl⟩ := rx
  obtain ⟨t', rfl⟩ := ry
  exact rule i j t t' s _ _ ⟨.bl (g i j), H, I, rfl, q⟩
def CDiv (i j : Int) : Prop := 0 < j ∧ j < 1073741824
def CMul (i j : Int) : Prop := (-(2 ^ 64) < i ∧ i < 2 ^ 64) ∨ (-(2 ^ 64) < j ∧ j < 2 ^ 64)
theorem CMul.ok {i j : Int} (h : CMul i j) : IntMulOk i j := by
  rcases h with ⟨h1, h2⟩ | ⟨h1, h2⟩
  · exact .of_left (intBits_le_64 h1 h2)
  · exact .of_right (intBits_le_64 h1 h2)
theorem op_add : OpR X (binaryOp .Add) (rI0 fun i j => .int (i + j)) := opI0 fun _ _ _ _ _ _ _ q => add_int q
theorem op_sub : OpR X (binaryOp .Sub) (rI0 fun i j => .int (i - j)) := opI0 fun _ _ _ _ _ _ _ q => sub_int q
theorem op_mul : OpR X (binaryOp .Mult) (rI CMul fun i j => .int (i * j)) := opI fun _ _ _ _ _ _ _ hc q => mul_int q hc.ok
theorem op_fdiv : OpR X (binaryOp .FloorDiv) (rI CDiv fun i j => .int (i / j)) := opI fun i j _ _ _ _ _ hc q => by
  have h1 : (0 : Int) < j := hc.1
  have h2 : j < 1073741824 := hc.2
  exact floordiv_int (by omega) (by rw [Int.fdiv_eq_ediv_of_nonneg i (by omega)]; exact q) (.inl (PyProof.noPylong_small (by omega)))
theorem op_mod : OpR X (binaryOp .Mod) (rI (fun _ j => 0 < j) fun i j => .int (i % j)) := opI fun i j _ _ _ _ _ hc q => by
  have h1 : (0 : Int) < j := hc
  exact mod_int' (by omega) (by rw [Int.fmod_eq_emod_of_nonneg i (by omega)]; exact q)
theorem unI {f : Value → Sem Value} {g : Int → Int}
    (rule : ∀ (i : Int) (t : Tok) (s : Shared) (Q : Value → Shared → Prop) (E : Value → Shared → Prop), Q (.int (g i) s.toks) { s with toks := s.toks + 1 } → wpAny (model X.prog X.w) X.A (f (.int i t)) Q E s) :
    UnR X f (rU fun i => .int (g i)) := by
  intro pins s σ H x v Q I rx h
  obtain ⟨i, rfl, q⟩ := h
  obtain ⟨t, rfl⟩ := rx
  exact rule i t s _ _ ⟨.int (g i), H, I.tok _, ⟨_, rfl⟩, q⟩
theorem un_neg : UnR X (unaryOp .USub) (rU fun i => .int (-i)) := unI fun _ _ _ _ _ q => neg_int q
end
def scal : V → V → Bool
  | .non, .non => true | .non, .int _ => true | .int _, .non => true | .non, .bl _ => true | .bl _, .non => true | .non, .str _ => true | .str _, .non => true
  | .int _, .int _ => true | .bl _, .bl _ => true | .str _, .str _ => true | .byt _, .byt _ => true
  | .int _, .str _ => true | .str _, .int _ => true | .bl _, .str _ => true | .str _, .bl _ => true
  | _, _ => false
def rEq : R2 := fun x y H Q => scal x y = true ∧ Q (.bl (decide (x = y))) H
theorem dec_int {i j : Int} : decide (V.int i = V.int j) = (i == j) := by
  rw [Bool.eq_iff_iff]
  simp
theorem dec_bl {i j : Bool} : decide (V.bl i = V.bl j) = (i == j) := by
  rw [Bool.eq_iff_iff]
  simp
theorem dec_str {i j : Str} : decide (V.str i = V.str j) = (i == j) := by
  rw [Bool.eq_iff_iff]
  simp
theorem dec_byt {i j : Array UInt8} : decide (V.byt i = V.byt j) = (i.toList == j.toList) := by
  rw [Bool.eq_iff_iff]
  cases i
  cases j
  simp
section
variable {X : Cx} {a b c : Expr} {ta tb tc : TE} {pos : Pos}
theorem fin_bl {pins : List (Addr × Obj)} {σ : St} {H : Hp} {s : Shared} {Q : VK} {k k' : Bool} (I : Inv X pins σ H s) (q : Q (.bl k) H) (e : k = k') : EP X pins σ Q (.bool k') s := by
  subst e
  exact ⟨.bl k, H, I, rfl, q⟩
theorem op_eq : OpR X (compareOp .Eq) rEq := by
  intro pins s σ H x y v u Q I rx ry h
  obtain ⟨hs, q⟩ := h
  cases x with
  | non =>
    cases rx
    cases y with
    | non => cases ry; exact PySem.EqNone.eq_none_none (fin_bl I q (by simp))
    | bl j => cases ry; exact PySem.EqNone.eq_none_bool (fin_bl I q (by simp))
    | int j => obtain ⟨t', rfl⟩ := ry; exact PySem.EqNone.eq_none_int (fin_bl I q (by simp))
    | str j => obtain ⟨t', rfl⟩ := ry; exact PySem.EqNone.eq_none_str (fin_bl I q (by simp))
    | _ => exact absurd (show false = true from hs) Bool.false_ne_true
  | bl i =>
    cases rx
    cases y with
    | non => cases ry; exact PySem.EqNone.eq_bool_none (fin_bl I q (by simp))
    | bl j => cases ry; exact eq_bool (fin_bl I q dec_bl)
    | str j => obtain ⟨t', rfl⟩ := ry; exact PySem.EqMixed.eq_bool_str (fin_bl I q (by simp))
    | _ => exact absurd (show false = true from hs) Bool.false_ne_true
  | int i =>
    obtain ⟨t, rfl⟩ := rx
    cases y with
    | non => cases ry; exact PySem.EqNone.eq_int_none (fin_bl I q (by simp))
    | int j => obtain ⟨t', rfl⟩ := ry; exact eq_int (fin_bl I q dec_int)
    | str j => obtain ⟨t', rfl⟩ := ry; exact PySem.EqMixed.eq_int_str (fin_bl I q (by simp))
    | _ => exact absurd (show false = true from hs) Bool.false_ne_true
  | str i =>
    obtain ⟨t, rfl⟩ := rx
    cases y with
    | non => cases ry; exact PySem.EqNone.eq_str_none (fin_bl I q (by simp))
    | bl j => cases ry; exact PySem.EqMixed.eq_str_bool (fin_bl I q (by simp))
    | int j => obtain ⟨t', rfl⟩ := ry; exact PySem.EqMixed.eq_str_int (fin_bl I q (by simp))
    | str j => obtain ⟨t', rfl⟩ := ry; exact eq_str (fin_bl I q dec_str)
    | _ => exact absurd (show false = true from hs) Bool.false_ne_true
  | byt i =>
    obtain ⟨t, rfl⟩ := rx
    cases y with
    | byt j => obtain ⟨t', rfl⟩ := ry; exact PySem.W.eq_bytes (fin_bl I q dec_byt)
    | _ => exact absurd (show false = true from hs) Bool.false_ne_true
  | _ => cases y <;> exact absurd (show false = true from hs) Bool.false_ne_true
theorem op_lt : OpR X (compareOp .Lt) (rI0 fun i j => .bl (decide (i < j))) := opB0 fun _ _ _ _ _ _ _ q => lt_int q
theorem op_le : OpR X (compareOp .LtE) (rI0 fun i j => .bl (decide (i ≤ j))) := opB0 fun _ _ _ _ _ _ _ q => le_int q
theorem op_gt : OpR X (compareOp .Gt) (rI0 fun i j => .bl (decide (j < i))) := opB0 fun _ _ _ _ _ _ _ q => gt_int q
theorem op_ge : OpR X (compareOp .GtE) (rI0 fun i j => .bl (decide (j ≤ i))) := opB0 fun _ _ _ _ _ _ _ q => ge_int q
theorem OpR.or {f : Value → Value → Sem Value} {r r' : R2} (h : OpR X f r) (h' : OpR X f r') : OpR X f (fun x y H Q => r x y H Q ∨ r' x y H Q) := by
  intro pins s σ H x y v u Q I rx ry q
  rcases q with q | q
  · exact h pins s σ H x y v u Q I rx ry q
  · exact h' pins s σ H x y v u Q I rx ry q
theorem nomark (b : Expr) {op : CmpOp} (h : op ≠ .In := by decide) (h2 : op ≠ .NotIn := by decide) : behindInMarks op b = false := by
  have e1 : (op == CmpOp.In) = false := by cases op <;> first | rfl | exact absurd rfl h
  have e2 : (op == CmpOp.NotIn) = false := by cases op <;> first | rfl | exact absurd rfl h2
  cases b <;> simp [behindInMarks, e1, e2]
theorem pe_cmpR {op : CmpOp} {r : R2} (ho : OpR X (compareOp op) r) (ha : PE X a ta) (hb : PE X b tb) (hm : behindInMarks op b = false) : PE X (.Compare a [op] [b] pos) (tOp r ta tb) := by
  intro pins s σ H Q I h
  exact wpAny_Compare1 (binT ha hb I h fun v u s2 x y H2 I2 rx ry q => ho pins s2 σ H2 x y v u Q I2 rx ry q) hm
def tTest (t : TE) : TT := fun σ H Q => t σ H fun x H' => ∃ k, x = .bl k ∧ Q k H'
theorem pt_cmpR {op : CmpOp} {r : R2} (ho : OpR X (compareOp op) r) (ha : PE X a ta) (hb : PE X b tb) (hm : behindInMarks op b = false) : PT X (.Compare a [op] [b] pos) (tTest (tOp r ta tb)) := by
  intro pins s σ H Q I h
  refine wpAny_isTrue_Compare1 (thn (ha pins s σ H _ I h) fun v s1 ⟨x, H1, I1, r1, q1⟩ => thn (hb pins s1 σ H1 _ I1 q1) fun u s2 ⟨y, H2, I2, r2, q2⟩ =>
    thn (ho pins s2 σ H2 x y v u _ I2 r1 r2 q2) fun c s3 ⟨z, H3, I3, r3, k, e, q3⟩ => ?_) hm
  subst e
  cases r3
  exact wpAny_truthy_bool ⟨H3, I3, q3⟩
def tChain (r r' : R2) (ta tb tc : TE) : TE := fun σ H Q => ta σ H fun x H1 => tb σ H1 fun y H2 => r x y H2 fun z H3 => ∃ k, z = .bl k ∧
  (if k = true then tc σ H3 fun w' H4 => r' y w' H4 Q else Q (.bl false) H3)
theorem pe_chain {op op' : CmpOp} {r r' : R2} (ho : OpR X (compareOp op) r) (ho' : OpR X (compareOp op') r') (ha : PE X a ta) (hb : PE X b tb) (hc : PE X c tc)
    (hm : lastMarks [op, op'] [b, c] = false := by with_unfolding_all rfl) : PE X (.Compare a [op, op'] [b, c] pos) (tChain r r' ta tb tc) := by
  intro pins s σ H Q I h
  refine Compare_chain (thn (ha pins s σ H _ I h) fun v s1 ⟨x, H1, I1, r1, q1⟩ => chain_link (thn (hb pins s1 σ H1 _ I1 q1) fun u s2 ⟨y, H2, I2, r2, q2⟩ =>
    thn (ho pins s2 σ H2 x y v u _ I2 r1 r2 q2) fun d s3 ⟨z, H3, I3, r3, k, e, q3⟩ => ?_)) hm
  subst e
  cases r3
  refine wpAny_truthy_bool ?_
  cases k with
  | false => exact ite_ff ⟨.bl false, H3, I3, rfl, q3⟩
  | true => exact ite_tt (chain_last (thn (hc pins s3 σ H3 _ I3 q3) fun w' s4 ⟨z', H4, I4, r4, q4⟩ => ho' pins s4 σ H4 y z' u w' Q I4 r2 r4 q4))
theorem line63 : (sizeLine : Nat) < 2 ^ 63 := by rw [sizeLine_eq]; decide
theorem vals1 {x : V} {us : List Value} (r : Vals [x] us) : ∃ u, us = [u] ∧ RelV x u := by
  cases r with
  | cons r1 r2 => cases r2; exact ⟨_, rfl, r1⟩
theorem vals2 {x y : V} {us : List Value} (r : Vals [x, y] us) : ∃ u w', us = [u, w'] ∧ RelV x u ∧ RelV y w' := by
  cases r with
  | cons r1 r2 =>
    cases r2 with
    | cons r3 r4 => cases r4; exact ⟨_, _, rfl, r1, r3⟩
theorem call_min2 (hc : X.calm = true) : CallR X (.builtin "min") (fun xs H Q => ∃ i j, xs = [.int i, .int j] ∧ Q (.int (if j < i then j else i)) H) := by
  intro pins s σ H xs us Q I r h
  obtain ⟨i, j, rfl, q⟩ := h
  obtain ⟨u, w', rfl, ⟨t, rfl⟩, ⟨t', rfl⟩⟩ := vals2 r
  refine min_two_ints (I.ok.hd hc) fun h' tk k => ⟨_, H, I.kept k, ?_, q⟩
  by_cases hj : j < i
  · rw [if_pos hj, if_pos hj]; exact ⟨_, rfl⟩
  · rw [if_neg hj, if_neg hj]; exact ⟨_, rfl⟩
end
end L2
namespace L2
open PySem PySem.Spec PyProof.Rows
structure ObjM (h : Heap) (x dx C : Addr) (mA : Str → Option Value) : Prop where
  obj : h.get? x = some (PySem.W.instObj C dx)
  ns : h.Ns1 dx mA
  ne : dx ≠ x
theorem lookIn_ns {h : Heap} {dx : Addr} {mA : Str → Option Value} (n : h.Ns1 dx mA) : ∃ od, h.get? dx = some od ∧ ∀ name, PySem.W.lookIn name od = some (mA name) := by
  obtain ⟨o, es, ep, ho, hd, hk, _, hm⟩ := n
  refine ⟨o, ho, fun name => ?_⟩
  have e := hm name
  unfold nsFind findBy at e
  rw [← Array.find?_toList] at e
  unfold PySem.W.lookIn
  rw [hd]
  dsimp only
  split
  · rename_i y q
    rw [q] at e
    exact congrArg some e
  · rename_i q
    rw [q] at e
    have a : es.toList.any (·.refKey) = false := by
      rw [List.any_eq_false]
      intro y hy
      obtain ⟨z, t, hkey⟩ := hk y (Array.mem_toList_iff.mp hy)
      simp [DictEntry.refKey, hkey]
    have a' : ¬ es.toList.any (·.refKey) = true := by rw [a]; exact Bool.false_ne_true
    rw [if_neg a']
    exact congrArg some e
theorem ObjM.look {h : Heap} {x dx C : Addr} {mA : Str → Option Value} (I : ObjM h x dx C mA) : ∃ od, PySem.W.InstAt h x (PySem.W.instObj C dx) C (some od) ∧ ∀ name, PySem.W.lookIn name od = some (mA name) :=
  let ⟨od, ho, hl⟩ := lookIn_ns I.ns
  ⟨od, ⟨I.obj, rfl, rfl, ho⟩, hl⟩
section
variable {prog : Program} {w : World} {A : Around} {E : Value → Shared → Prop} {s : Shared} {K : PySem.W.Frag} {x dx C f : Addr} {mA : Str → Option Value} {name : Str} {v : Value}
theorem get_map {expr : Bool} {Q : Value → Shared → Prop} (X : K.In s.heap) (I : ObjM s.heap x dx C mA) (hg : PySem.W.plainGet K C name = true) (hh : PySem.W.hasDictIn K C = true)
    (ha : PySem.W.findIn K (.ref C) name = some none) (hv : mA name = some v) (hv' : PySem.W.handedIn v = true) (h : Q v { s with toks := s.toks + 1 }) :
    wpAny (model prog w) A (getAttr (.ref x) name expr) Q E s := by
  obtain ⟨od, J, hl⟩ := I.look
  exact PySem.W.get_value X J (PySem.W.plainGet_of hg).1 (PySem.W.findObj_own hh ha rfl (by rw [hl, hv])) hv' h
theorem get_meth {pl : Sem Bool} {Q : Value × List Value → Shared → Prop} (X : K.In s.heap) (I : ObjM s.heap x dx C mA) (hg : PySem.W.plainGet K C name = true)
    (hf : PySem.W.findIn K (.ref C) name = some (some (.ref f))) (ht : PySem.W.isFn K (.ref f) = true) (hv : mA name = none) (h : Q (.ref f, [.ref x]) s) :
    wpAny (model prog w) A (getMethod (.ref x) name pl) Q E s := by
  obtain ⟨od, J, hl⟩ := I.look
  exact PySem.W.method_fn X J (PySem.W.plainGet_of hg).1 (PySem.W.plainGet_of hg).2 hf (beq_iff_eq.mp ht) (by show (PySem.W.lookIn name od).map (·.isSome) = some false; rw [hl, hv]; rfl) h
theorem set_map {ns : List Str} {Q : Unit → Shared → Prop} (X : K.In s.heap) (I : ObjM s.heap x dx C mA)
    (hs : PySem.W.findIn K (.ref C) "__setattr__" = some (some (.builtin "object.__setattr__"))) (hp : PySem.W.plainOver K C = true) (ht : PySem.W.takerIn K C name = some none) (hh : PySem.W.hasDictIn K C = true)
    (hw : PySem.Within mA ns) (hsz : ns.length ≤ sizeLine)
    (h : ∀ h', ObjM h' x dx C (fun y => if y = name then some v else mA y) → Heap.SameBut dx s.heap h' → Q () { s with heap := h', toks := s.toks + 2 }) :
    wpAny (model prog w) A (setAttr (.ref x) name v) Q E s := by
  obtain ⟨od, J, hl⟩ := I.look
  refine PySem.W.set_plain X J hs (PySem.W.osa_open (s := { s with toks := s.toks + 1 }) (r := none) X J hp ht fun b => ?_)
  obtain ⟨cd, hc, hd'⟩ := PySem.W.any_some hh
  have hx : s.heap.get? x = some ⟨.ref C, some dx, .plain, #[]⟩ := I.obj
  refine wpAny_bind (wpAny_pure (wpAny_bind (wpAny_bind (wpAny_loadPart hx (wpAny_bind (PySem.W.Looks.here (s := { s with toks := s.toks + 1 }) (PySem.W.looks_clsIn X hc) ?_))))))
  rw [hd']
  refine wpAny_pure (a := some dx) (wpAny_bind (wpAny_pure (wpAny_bind ?_)))
  refine wpAny_nsSet1 (s := { s with toks := s.toks + 1 }) I.ns fun h' hn2 hs2 => ?_
  obtain ⟨oD, esD, epD, hoD, hdD, hcD⟩ := hn2.count (PySem.Within.cons name v hw)
  refine wpAny_bind (wpAny_lookBehind hoD (by rw [hdD]; exact pastItsLine_dict (Nat.le_trans hcD (by rw [List.length_cons]; omega))) ?_)
  exact wpAny_pure (h _ ⟨(hs2.2 _ (Ne.symm I.ne)).trans I.obj, hn2, I.ne⟩ hs2)
theorem make_map {R : Result → Shared → Prop} {vs : List Value} {kw : List (Str × Value)} (X : K.In s.heap) (hm : PySem.W.makesIn K C = true)
    (hi : PySem.W.findIn K (.ref C) "__init__" = some (some (.ref f))) (hf : PySem.W.typeIn K (.ref f) = some (.type "function"))
    (h : codeAny (model prog w) (A.under (.builtin "type.__call__" ⟨.ref C :: vs, kw⟩)) (.call (.ref f) ⟨.ref (s.heap.objs.size + 1) :: vs, kw⟩) (PySem.W.InitBack (s.heap.objs.size + 1) R)
      { s with heap := (s.heap.push PySem.W.emptyDict).push (PySem.W.instObj C s.heap.objs.size) }) :
    codeAny (model prog w) A (.call (.ref C) ⟨vs, kw⟩) R s := by
  obtain ⟨hh, g, d, t, os⟩ := s
  exact PySem.W.make_core (PySem.W.makes_of X hm) (PySem.W.looks_findIn X hi) (fun self => PySem.W.bind_fn X self hf) (.inl rfl) h
end
def putF (f : Str) (v : V) : List (Str × V) → List (Str × V)
  | [] => [(f, v)]
  | (g, x) :: r => if g = f then (g, v) :: r else (g, x) :: putF f v r
theorem lookup_putF (f g : Str) (v : V) : ∀ fs : List (Str × V), (putF f v fs).lookup g = if g = f then some v else fs.lookup g
  | [] => by
    show List.lookup g [(f, v)] = _
    by_cases h : g = f
    · have hb : (g == f) = true := beq_iff_eq.mpr h
      simp only [List.lookup, hb, if_pos h]
    · have hb : (g == f) = false := beq_eq_false_iff_ne.mpr h
      simp only [List.lookup, hb, if_neg h]
  | (k, x) :: r => by
    have ih := lookup_putF f g v r
    rw [show putF f v ((k, x) :: r) = (if k = f then (k, v) :: r else (k, x) :: putF f v r) from rfl]
    by_cases hk : k = f
    · rw [if_pos hk]
      by_cases h : g = k
      · have hb : (g == k) = true := beq_iff_eq.mpr h
        simp only [List.lookup, hb, if_pos (h.trans hk)]
      · have hb : (g == k) = false := beq_eq_false_iff_ne.mpr h
        simp only [List.lookup, hb, if_neg (fun e : g = f => h (e.trans hk.symm))]
    · rw [if_neg hk]
      by_cases h : g = k
      · have hb : (g == k) = true := beq_iff_eq.mpr h
        simp only [List.lookup, hb, if_neg (fun e : g = f => hk (h.symm.trans e))]
      · have hb : (g == k) = false := beq_eq_false_iff_ne.mpr h
        simp only [List.lookup, hb]
        exact ih
theorem keys_putF (f : Str) (v : V) : ∀ fs : List (Str × V), f ∈ (putF f v fs).map (·.1) ∧ ∀ g, g ∈ fs.map (·.1) → g ∈ (putF f v fs).map (·.1)
  | [] => ⟨by simp [putF], fun g h => by simp at h⟩
  | (k, x) :: r => by
    obtain ⟨i1, i2⟩ := keys_putF f v r
    rw [show putF f v ((k, x) :: r) = (if k = f then (k, v) :: r else (k, x) :: putF f v r) from rfl]
    by_cases hk : k = f
    · rw [if_pos hk]
      subst hk
      exact ⟨by simp, fun g h => by simpa using h⟩
    · rw [if_neg hk]
      refine ⟨?_, fun g h => ?_⟩
      · rw [List.map_cons]
        exact List.mem_cons_of_mem _ i1
      · rw [List.map_cons] at h ⊢
        rcases List.mem_cons.mp h with e | e
        · exact List.mem_cons.mpr (.inl e)
        · exact List.mem_cons_of_mem _ (i2 g e)
theorem length_putF (f : Str) (v : V) : ∀ fs : List (Str × V), (putF f v fs).length ≤ fs.length + 1
  | [] => by simp [putF]
  | (k, x) :: r => by
    have ih := length_putF f v r
    rw [show putF f v ((k, x) :: r) = (if k = f then (k, v) :: r else (k, x) :: putF f v r) from rfl]
    by_cases hk : k = f
    · rw [if_pos hk, List.length_cons, List.length_cons]; omega
    · rw [if_neg hk, List.length_cons, List.length_cons]; omega
theorem RelO.some_of {v : V} {o : Option Value} (r : RelO (some v) o) : ∃ u, o = some u ∧ RelV v u := by
  cases o with
  | none => exact (show False from r).elim
  | some u => exact ⟨u, rfl, r⟩
theorem RelO.none_of {o : Option Value} (r : RelO none o) : o = none := by
  cases o with
  | none => rfl
  | some u => exact (show False from r).elim
theorem handed_of {v : V} {u : Value} (r : RelV v u) : PySem.W.handedIn u = true := by
  cases v with
  | non => cases (show u = Value.none from r); rfl
  | bl b => cases (show u = Value.bool b from r); rfl
  | int i => obtain ⟨t, e⟩ := (show ∃ t, u = Value.int i t from r); cases e; rfl
  | str x => obtain ⟨t, e⟩ := (show ∃ t, u = Value.str x t from r); cases e; rfl
  | byt b => obtain ⟨t, e⟩ := (show ∃ t, u = Value.bytes b t from r); cases e; rfl
  | flt b => obtain ⟨t, e⟩ := (show ∃ t, u = Value.float b t from r); cases e; rfl
  | ref a => cases (show u = Value.ref a from r); rfl
  | ty n => cases (show u = Value.type n from r); rfl
section
variable {P : Program} {w : World} {H H' : Hp} {h h' : Heap} {a C dx : Addr} {fs fs' : List (Str × V)}
theorem ins_get (hok : HOk P w H h) (e : H a = some (.ins C dx fs)) : ∃ mA, ObjM h a dx C mA ∧ (∀ f, RelO (fs.lookup f) (mA f)) ∧ PySem.Within mA (fs.map (·.1)) ∧ fs.length ≤ 1000 ∧ H dx = some (.own a) := by
  obtain ⟨d, z, ne, ob, mA, n, r, q⟩ := (show ObjOk P w H h a (.ins C dx fs) from hok a _ e)
  exact ⟨mA, ⟨ob, n, ne⟩, r, q, z, d⟩
end
structure Cls (K : PySem.W.Frag) (C : Addr) : Prop where
  pg : PySem.W.plainGet K C Str.empty = true
  hd : PySem.W.hasDictIn K C = true
  po : PySem.W.plainOver K C = true
  sa : PySem.W.findIn K (.ref C) "__setattr__" = some (some (.builtin "object.__setattr__"))
theorem Cls.get {K : PySem.W.Frag} {C : Addr} (c : Cls K C) (f : Str) : PySem.W.plainGet K C f = true := c.pg
def NoAttr (K : PySem.W.Frag) (C : Addr) (f : Str) : Prop := PySem.W.findIn K (.ref C) f = some none
theorem NoAttr.taker {K : PySem.W.Frag} {C : Addr} {f : Str} (n : NoAttr K C f) : PySem.W.takerIn K C f = some none := by
  unfold PySem.W.takerIn
  rw [show PySem.W.findIn K (.ref C) f = some none from n]
  rfl
structure Meth (K : PySem.W.Frag) (C : Addr) (m : Str) (f : Addr) : Prop where
  at_ : PySem.W.findIn K (.ref C) m = some (some (.ref f))
  fn : PySem.W.isFn K (.ref f) = true
  kp : PySem.W.keepIn K (.ref f) = true
section
variable {X : Cx} {pins : List (Addr × Obj)} {σ : St} {H : Hp} {s : Shared} {a C dx : Addr} {fs : List (Str × V)} {f : Str} {v : V} {A : Around} {E : Value → Shared → Prop}
theorem getattr_ok {b : Bool} {Q : Value → Shared → Prop} (I : Inv X pins σ H s) (e : H a = some (.ins C dx fs)) (c : Cls X.K C) (n : NoAttr X.K C f) (l : fs.lookup f = some v)
    (h : ∀ u s', Inv X pins σ H s' → RelV v u → Q u s') : wpAny (model X.prog X.w) A (getAttr (.ref a) f b) Q E s := by
  obtain ⟨mA, O, r, _, _, _⟩ := ins_get I.hok e
  obtain ⟨u, hu, ru⟩ := RelO.some_of (v := v) (o := mA f) (by rw [← l]; exact r f)
  exact get_map I.kIn O (c.get f) c.hd n hu (handed_of ru) (h u _ (I.tok _) ru)
theorem getmeth_ok {m : Str} {g : Addr} {pl : Sem Bool} {Q : Value × List Value → Shared → Prop} (I : Inv X pins σ H s) (e : H a = some (.ins C dx fs)) (c : Cls X.K C) (k : Meth X.K C m g) (l : fs.lookup m = none)
    (h : Q (.ref g, [.ref a]) s) : wpAny (model X.prog X.w) A (getMethod (.ref a) m pl) Q E s := by
  obtain ⟨mA, O, r, _, _, _⟩ := ins_get I.hok e
  have hn : mA m = none := RelO.none_of (by rw [← l]; exact r m)
  exact get_meth I.kIn O (c.get m) k.at_ k.fn hn h
theorem setattr_ok {y : V} {u : Value} {Q : Unit → Shared → Prop} (I : Inv X pins σ H s) (e : H a = some (.ins C dx fs)) (c : Cls X.K C) (n : NoAttr X.K C f) (hl : fs.length < 1000) (ry : RelV y u)
    (h : ∀ s', Inv X pins σ (upd H a (.ins C dx (putF f y fs))) s' → Q () s') : wpAny (model X.prog X.w) A (setAttr (.ref a) f u) Q E s := by
  obtain ⟨mA, O, r, wi, _, ho⟩ := ins_get I.hok e
  have hz : (fs.map (·.1)).length ≤ sizeLine := by rw [List.length_map, sizeLine_eq]; omega
  refine set_map I.kIn O c.sa c.po n.taker c.hd wi hz fun h' O' sb => h _ ?_
  have hd : ∃ o, h'.get? dx = some o := let ⟨o, _, _, e', _⟩ := O'.ns; ⟨o, e'⟩
  refine I.write (x := a) (e := dx) (by rw [e]; exact True.intro) (.inr ho) (fun b q hb z => (sb.2 b hb).trans z) hd ?_
  refine ⟨by rw [upd_ne O.ne]; exact ho, ?_, O.ne, O'.obj, _, O'.ns, fun g => ?_, fun g hg => ?_⟩
  · have := length_putF f y fs; omega
  · show RelO ((putF f y fs).lookup g) (if g = f then some u else mA g)
    rw [lookup_putF]
    by_cases q : g = f
    · rw [if_pos q, if_pos q]; exact ry
    · rw [if_neg q, if_neg q]; exact r g
  · by_cases q : g = f
    · rw [q]; exact (keys_putF f y fs).1
    · refine (keys_putF f y fs).2 g (wi g fun z => hg ?_)
      show (if g = f then some u else mA g) = none
      rw [if_neg q]; exact z
theorem Inv.made (I : Inv X pins σ H s) : Inv X pins σ (upd (upd H s.heap.objs.size (.own (s.heap.objs.size + 1))) (s.heap.objs.size + 1) (.ins C s.heap.objs.size []))
    { s with heap := (s.heap.push PySem.W.emptyDict).push (PySem.W.instObj C s.heap.objs.size) } := by
  have e1 : (s.heap.push PySem.W.emptyDict).get? s.heap.objs.size = some PySem.W.emptyDict := Heap.get?_push_size s.heap rfl
  have e2 : ((s.heap.push PySem.W.emptyDict).push (PySem.W.instObj C s.heap.objs.size)).get? (s.heap.objs.size + 1) = some (PySem.W.instObj C s.heap.objs.size) := by
    have := Heap.get?_push_size (s.heap.push PySem.W.emptyDict) (o := PySem.W.instObj C s.heap.objs.size) rfl
    rwa [Heap.size_push] at this
  have e3 : (s.heap.push PySem.W.emptyDict).Ns s.heap.objs.size (fun _ => none) := ⟨PySem.W.emptyDict, #[], _, e1, rfl, (fun e he => absurd he (by simp)), fun _ => rfl⟩
  have I1 := I.laid (a := s.heap.objs.size) (o := .own (s.heap.objs.size + 1)) (h' := s.heap.push PySem.W.emptyDict) (t' := s.toks) (fun b u q => Heap.get?_push_of_some _ q) (Nat.le_refl _) ⟨_, e1⟩
  refine I1.laid (a := s.heap.objs.size + 1) (o := .ins C s.heap.objs.size []) (t' := s.toks) (fun b u q => Heap.get?_push_of_some _ q) (Nat.le_of_eq (Heap.size_push _ _)) ?_
  have ne : s.heap.objs.size ≠ s.heap.objs.size + 1 := Nat.ne_of_lt (Nat.lt_succ_self _)
  refine ⟨by rw [upd_ne ne, upd_same], Nat.zero_le _, ne, e2, fun _ => none, (Heap.Ns1.of_empty e3).at fun o q => Heap.get?_push_of_some _ q, fun _ => True.intro, fun y hy => absurd rfl hy⟩
theorem attr_of {prog : Program} {w : World} {env : Env} {e : Expr} {f : Str} {pos : Pos} {s : Shared} {Q : Value → Shared → Prop} (hb : attributeBase e f env (eval e env) = eval e env)
    (h : wpAny (model prog w) A (eval e env) (fun o s₁ => wpAny (model prog w) A (getAttr o f true) Q E s₁) E s) : wpAny (model prog w) A (eval (.Attribute e f pos) env) Q E s :=
  Attribute_any_ h (by rw [arm_eval_Attribute, hb])
end
def tFld (K : PySem.W.Frag) (ta : TE) (f : Str) : TE := fun σ H Q => ta σ H fun x H1 => ∃ a C dx fs v, x = .ref a ∧ H1 a = some (.ins C dx fs) ∧ Cls K C ∧ NoAttr K C f ∧ fs.lookup f = some v ∧ Q v H1
def sFld (K : PySem.W.Frag) (ta tv : TE) (f : Str) : TS := fun D σ H => tv σ H fun y H1 => ta σ H1 fun x H2 => ∃ a C dx fs, x = .ref a ∧ H2 a = some (.ins C dx fs) ∧ Cls K C ∧ NoAttr K C f ∧ fs.length < 1000 ∧
  D.nx σ (upd H2 a (.ins C dx (putF f y fs)))
def InOp (X : Cx) (op : Operator) (rd : V → V → Hp → VK → Prop) : Prop :=
  ∀ (pins : List (Addr × Obj)) (s : Shared) (σ : St) (H : Hp) (x y : V) (u v : Value) (Q : VK), Inv X pins σ H s → RelV x u → RelV y v → rd x y H Q → wpAny (model X.prog X.w) X.A (inplaceOp op u v) (EP X pins σ Q) X.xe s
def sFldAug (K : PySem.W.Frag) (ta tv : TE) (rd : V → V → Hp → VK → Prop) (f : Str) : TS := fun D σ H => ta σ H fun x H1 => ∃ a C dx fs v, x = .ref a ∧ H1 a = some (.ins C dx fs) ∧ Cls K C ∧ NoAttr K C f ∧ fs.lookup f = some v ∧
  tv σ H1 fun y H2 => rd v y H2 fun z H3 => ∃ dx' fs', H3 a = some (.ins C dx' fs') ∧ fs'.length < 1000 ∧ D.nx σ (upd H3 a (.ins C dx' (putF f z fs')))
section
variable {X : Cx} {o e value : Expr} {f : Str} {pos pos' tpos : Pos} {ta tv : TE}
theorem pe_fld (he : PE X e ta) (hb : attributeBase e f X.env (eval e X.env) = eval e X.env) : PE X (.Attribute e f pos) (tFld X.K ta f) := by
  intro pins s σ H Q I h
  refine attr_of hb (thn (he pins s σ H _ I h) fun u s1 ⟨x, H1, I1, rx, a, C, dx, fs, v, ex, ea, c, n, l, q⟩ => ?_)
  subst ex
  obtain rfl : u = Value.ref a := rx
  exact getattr_ok I1 ea c n l fun u' s2 I2 ru => ⟨v, H1, I2, ru, q⟩
theorem ps_fld (ha : PE X o ta) (hv : PE X value tv) (hs : swapsWith value (some (.Attribute o f pos')) pos.line X.env = pure false) : PS X (.Assign [.Attribute o f pos'] value pos) (sFld X.K ta tv f) := by
  intro pins s σ H D I h
  refine plainObj_wpAny_Assign_Attribute (thn (hv pins s σ H _ I h) fun u s1 ⟨y, H1, I1, ry, q⟩ => thn (ha pins s1 σ H1 _ I1 q) fun ov s2 ⟨x, H2, I2, rx, a, C, dx, fs, ex, ea, c, n, l, q2⟩ => ?_) hs
  subst ex
  obtain rfl : ov = Value.ref a := rx
  exact setattr_ok I2 ea c n l ry fun s3 I3 => ⟨σ, _, I3, q2⟩
theorem ps_fldaug {op : Operator} {rd : V → V → Hp → VK → Prop} (ha : PE X o ta) (hv : PE X value tv) (hop : InOp X op rd) : PS X (.AugAssign (.Attribute o f tpos) op value pos) (sFldAug X.K ta tv rd f) := by
  intro pins s σ H D I h
  refine wpAny_AugAssign_AttributeAny (thn (ha pins s σ H _ I h) fun ov s1 ⟨x, H1, I1, rx, a, C, dx, fs, v, ex, ea, c, n, l, q⟩ => ?_)
  subst ex
  obtain rfl : ov = Value.ref a := rx
  refine getattr_ok I1 ea c n l fun u s2 I2 ru => thn (hv pins s2 σ H1 _ I2 q) fun w3 s3 ⟨y, H2, I3, ry, q3⟩ => thn (hop pins s3 σ H2 v y u w3 _ I3 ru ry q3) fun w4 s4 ⟨z, H3, I4, rz, dx', fs', ea', l', q4⟩ => ?_
  exact setattr_ok I4 ea' c n l' rz fun s5 I5 => ⟨σ, _, I5, q4⟩
def rAdd : V → V → Hp → VK → Prop := fun x y H Q => ∃ i j, x = .int i ∧ y = .int j ∧ Q (.int (i + j)) H
theorem in_add : InOp X .Add rAdd := by
  rintro pins s σ H x y u v Q I rx ry ⟨i, j, rfl, rfl, q⟩
  obtain ⟨t, rfl⟩ := (show ∃ t, u = Value.int i t from rx)
  obtain ⟨t', rfl⟩ := (show ∃ t', v = Value.int j t' from ry)
  exact PyProof.Rows.iadd_int ⟨.int (i + j), H, I.tok _, ⟨_, rfl⟩, q⟩
end
end L2
namespace L2
open PySem PySem.Spec PyProof.Rows
structure Room (k : Nat) (A : Around) : Prop where
  hd : A.handled = none
  dp : A.depth + 3 * k + 5 < recursionLimit
  un : A.units + 16 * k + 200 < cLine
theorem Room.mono {j k : Nat} {A : Around} (r : Room k A) (h : j ≤ k) : Room j A := ⟨r.hd, by have := r.dp; omega, by have := r.un; omega⟩
theorem Room.deeper {k : Nat} {A : Around} (r : Room (k + 1) A) (env : Env) : Room k (A.deeper env) :=
  ⟨r.hd, by have := r.dp; show A.depth + 1 + 3 * k + 5 < _; omega, by have := r.un; show A.units + 3 + 16 * k + 200 < _; omega⟩
theorem Room.in1 {k : Nat} {A : Around} (r : Room (k + 1) A) : Room k A.in1 :=
  ⟨r.hd, by have := r.dp; show A.depth + 3 * k + 5 < _; omega, by have := r.un; show A.units + 1 + 16 * k + 200 < _; omega⟩
theorem make_depth {A : Around} {C : Addr} {us : List Value} {kw : List (Str × Value)} : (A.under (.builtin "type.__call__" ⟨.ref C :: us, kw⟩)).depth = A.depth + 1 := by
  first | rfl | simp [Around.under, Code.weight, Code.isCreation, Code.isGuard, Code.isCaller, Code.frames, Code.isFrame, guardIds]
theorem make_units {A : Around} {C : Addr} {us : List Value} {kw : List (Str × Value)} : (A.under (.builtin "type.__call__" ⟨.ref C :: us, kw⟩)).units = A.units + 1 := by
  first | rfl | simp [Around.under, Code.cUnits, Code.frames, Code.isFrame]
theorem Room.make {k : Nat} {A : Around} (r : Room (k + 1) A) (C : Addr) (us : List Value) (kw : List (Str × Value)) : Room k (A.under (.builtin "type.__call__" ⟨.ref C :: us, kw⟩)) :=
  ⟨r.hd, by have := r.dp; rw [make_depth]; omega, by have := r.un; rw [make_units]; omega⟩
theorem Room.depth {k : Nat} {A : Around} (r : Room k A) : A.depth < recursionLimit := by have := r.dp; omega
theorem Room.units {k : Nat} {A : Around} (r : Room k A) : A.units + 64 < cLine := by have := r.un; omega
def tNil : TA := fun _ H Q => Q [] H
def tCons (ta : TE) (tr : TA) : TA := fun σ H Q => ta σ H fun x H1 => tr σ H1 fun xs H2 => Q (x :: xs) H2
section
variable {X : Cx} {e : Expr} {es : List Expr} {te : TE} {t : TA} {pos : Pos}
theorem pa_nil : PA X [] tNil := fun _ _ _ _ H Q I h => Calls.spliced_nil ⟨[], H, I, .nil, h⟩
theorem pa_cons (ha : PE X e te) (hr : PA X es t) (hs : starEach (e :: es) X.env = (false, eval e X.env) :: starEach es X.env := by rfl) : PA X (e :: es) (tCons te t) := by
  intro pos pins s σ H Q I h
  rw [hs]
  show wpAny _ _ (spliced ((false, eval e X.env) :: backTo pos (starEach es X.env))) _ _ s
  refine Calls.spliced_cons (thn (ha pins s σ H _ I h) fun u s1 ⟨x, H1, I1, r1, q1⟩ => ?_)
  exact thn (hr pos pins s1 σ H1 _ I1 q1) fun us s2 ⟨xs, H2, I2, r2, q2⟩ => ⟨x :: xs, H2, I2, .cons r1 r2, q2⟩
def tLst (t : TA) : TE := fun σ H Q => t σ H fun xs H1 => xs.length ≤ sizeLine ∧ ∀ p, H1 p = none → Q (.ref p) (upd H1 p (.lst xs))
theorem pe_lst (h : PA X es t) : PE X (.List es pos) (tLst t) := by
  intro pins s σ H Q I hq
  refine wpAny_List_spliced (thn (h pos pins s σ H _ I hq) fun us s1 ⟨xs, H1, I1, r, z, q⟩ => ⟨by rw [← r.length]; exact z, ?_⟩)
  have hf : H1 s1.heap.objs.size = none := I1.hok.fresh (Nat.le_refl _)
  refine ⟨.ref s1.heap.objs.size, upd H1 s1.heap.objs.size (.lst xs), I1.laid (t' := s1.toks) (fun b u e => Heap.get?_push_of_some _ e) (Nat.le_refl _) ?_, rfl, q _ hf⟩
  exact ⟨z, us, 0, r, Heap.get?_push_size _ rfl⟩
end
abbrev Sp := List V → Hp → VK → XK → Prop
abbrev CXT := List Env → Hp → Shared → XK → Value → Shared → Prop
structure Env0 (P : Program) (w : World) (K : PySem.W.Frag) (mg : Str → Option Value) (base : Heap) (A : Around) (outer : List Env) (s : Shared) (H : Hp) : Prop where
  frames : A.frames = some outer
  mod : Mod K mg base
  bs : ∀ b o, base.get? b = some o → s.heap.get? b = some o ∧ H b = none
  bsz : base.objs.size ≤ s.heap.objs.size
  funs : s.heap.FunFrames base outer
  frf : ∀ b ∈ frs outer, H b = none
  hok : HOk P w H s.heap
  bare : AllBare s.gens
def CE (outer : List Env) (P : Program) (w : World) (H : Hp) (s : Shared) (Q : VK) (u : Value) (s' : Shared) : Prop :=
  ∃ v H', s'.os = s.os ∧ AllBare s'.gens ∧ Un (frs outer) [] H H' s.heap s'.heap ∧ HOk P w H' s'.heap ∧ RelV v u ∧ Q v H'
def CR (CX : CXT) (outer : List Env) (P : Program) (w : World) (H : Hp) (s : Shared) (Q : VK) (E : XK) (r : Result) (s' : Shared) : Prop :=
  match r with
  | .ok (.ret u) => CE outer P w H s Q u s'
  | .ok _ => False
  | .error e => CX outer H s E e s'
structure FnOk (P : Program) (w : World) (K : PySem.W.Frag) (mg : Str → Option Value) (base : Heap) (CX : CXT) (k : Nat) (f : Addr) (fd : FuncData) (ps : List Str) (sp : Sp) : Prop where
  len : ∀ vs H Q E, sp vs H Q E → vs.length = ps.length
  run : ∀ (A : Around) (outer : List Env) (s : Shared) (H : Hp) (args : Args) (us : List Value) (vs : List V) (Q : VK) (E : XK), Room k A → Env0 P w K mg base A outer s H → BindsTo s fd args (ps.zip us) → Vals vs us → sp vs H Q E →
    codeAny (model P w) A (.call (.ref f) args) (CR CX outer P w H s Q E) s
theorem FnOk.mono {P : Program} {w : World} {K : PySem.W.Frag} {mg : Str → Option Value} {base : Heap} {CX : CXT} {j k : Nat} {f : Addr} {fd : FuncData} {ps : List Str} {sp : Sp} (F : FnOk P w K mg base CX j f fd ps sp) (h : j ≤ k) :
    FnOk P w K mg base CX k f fd ps sp := ⟨F.len, fun A outer s H args us vs Q E hr => F.run A outer s H args us vs Q E (hr.mono h)⟩
theorem FnOk.imp {P : Program} {w : World} {K : PySem.W.Frag} {mg : Str → Option Value} {base : Heap} {CX : CXT} {k : Nat} {f : Addr} {fd : FuncData} {ps : List Str} {sp sp' : Sp} (F : FnOk P w K mg base CX k f fd ps sp)
    (h : ∀ vs H Q E, sp' vs H Q E → sp vs H Q E) : FnOk P w K mg base CX k f fd ps sp' :=
  ⟨fun vs H Q E q => F.len vs H Q E (h _ _ _ _ q), fun A outer s H args us vs Q E hr he hb hv hs => F.run A outer s H args us vs Q E hr he hb hv (h _ _ _ _ hs)⟩
theorem Env0.make {P : Program} {w : World} {K : PySem.W.Frag} {mg : Str → Option Value} {base : Heap} {A : Around} {outer : List Env} {s : Shared} {H : Hp} (e : Env0 P w K mg base A outer s H) (C : Addr) (us : List Value) (kw : List (Str × Value)) :
    Env0 P w K mg base (A.under (.builtin "type.__call__" ⟨.ref C :: us, kw⟩)) outer s H := ⟨by first | exact e.frames | (simpa [Around.under, Code.envs, Code.isFrame, pushEnvs] using e.frames), e.mod, e.bs, e.bsz, e.funs, e.frf, e.hok, e.bare⟩
theorem Env0.in1 {P : Program} {w : World} {K : PySem.W.Frag} {mg : Str → Option Value} {base : Heap} {A : Around} {outer : List Env} {s : Shared} {H : Hp} (e : Env0 P w K mg base A outer s H) :
    Env0 P w K mg base A.in1 outer s H := ⟨e.frames, e.mod, e.bs, e.bsz, e.funs, e.frf, e.hok, e.bare⟩
section
variable {X : Cx} {pins : List (Addr × Obj)} {σ : St} {H : Hp} {s s' : Shared}
theorem Inv.env0 (I : Inv X pins σ H s) : Env0 X.prog X.w X.K X.mg X.base X.A X.stack s H :=
  ⟨I.ok.frames, I.ok.mod, I.bs, Nat.le_trans I.ok.bsz I.sz, I.stack, I.stkFree, I.hok, I.bare⟩
theorem Inv.after {Q : VK} {u : Value} (I : Inv X pins σ H s) (h : CE X.stack X.prog X.w H s Q u s') : EP X pins σ Q u s' := by
  obtain ⟨v, H', os, bare, un, hok, r, q⟩ := h
  obtain ⟨hh, g, d, t, os'⟩ := s'
  obtain rfl : os' = s.os := os
  exact ⟨v, H', I.call (h' := hh) (g' := g) (d' := d) (t' := t) (ch := []) un hok bare (fun b z => absurd z (by simp)), r, q⟩
end
def tCall (sp : Sp) (dvs : List V) (E : XK) (t : TA) : TE := fun σ H Q => t σ H fun vs H1 => sp (vs ++ dvs) H1 Q E
def tMeth (C : Addr) (m : Str) (sp : Sp) (dvs : List V) (E : XK) (ta : TE) (t : TA) : TE := fun σ H Q => ta σ H fun x H1 => ∃ a dx fs, x = .ref a ∧ H1 a = some (.ins C dx fs) ∧ fs.lookup m = none ∧
  t σ H1 fun vs H2 => sp (x :: (vs ++ dvs)) H2 Q E
def tMake (C : Addr) (sp : Sp) (dvs : List V) (E : XK) (t : TA) : TE := fun σ H Q => t σ H fun vs H1 => ∀ x dx, H1 x = none → H1 dx = none → dx ≠ x →
  sp (.ref x :: (vs ++ dvs)) (upd (upd H1 dx (.own x)) x (.ins C dx [])) (fun v H2 => v = .non ∧ Q (.ref x) H2) E
def Binds (K : PySem.W.Frag) (fd : FuncData) (ps : List Str) (ds : List Value) : Prop :=
  ∀ (s : Shared) (us : List Value), K.In s.heap → (us ++ ds).length = ps.length → BindsTo s fd ⟨us, []⟩ (ps.zip (us ++ ds))
theorem Binds.all {K : PySem.W.Frag} {fd : FuncData} {ps : List Str} (h : ∀ us : List Value, us.length = ps.length → bindArgs fd ⟨us, []⟩ = pure (ps.zip us)) : Binds K fd ps [] := fun s us _ hl => by
  rw [List.append_nil] at hl ⊢
  exact .of_eq (h us hl)
def Passes (CX : CXT) (X : Cx) (E : XK) : Prop := ∀ (pins : List (Addr × Obj)) (σ : St) (H : Hp) (s : Shared) (e : Value) (s' : Shared), Inv X pins σ H s → CX X.stack H s E e s' → X.xe e s'
section
variable {X : Cx} {CX : CXT} {k : Nat} {f C : Addr} {fd : FuncData} {ps : List Str} {sp : Sp} {dvs : List V} {ds : List Value} {E : XK} {x m : Str} {p pos apos : Pos} {e o : Expr} {es : List Expr} {ta : TE} {t : TA}
theorem run_fn {pins : List (Addr × Obj)} {σ : St} {H : Hp} {s : Shared} {Q : VK} {us : List Value} {vs : List V} (F : FnOk X.prog X.w X.K X.mg X.base CX k f fd ps sp) (hr : Room k X.A) (hb : Binds X.K fd ps ds) (hd : Vals dvs ds) (hx : Passes CX X E)
    (I : Inv X pins σ H s) (r : Vals vs us) (h : sp (vs ++ dvs) H Q E) : wpAny (model X.prog X.w) X.A (call (.ref f) us) (EP X pins σ Q) X.xe s := by
  have r2 : Vals (vs ++ dvs) (us ++ ds) := r.append hd
  have hl : (us ++ ds).length = ps.length := by rw [← r2.length]; exact F.len _ _ _ _ h
  refine wpAny_call (codeAny_mono (F.run X.A X.stack s H ⟨us, []⟩ (us ++ ds) (vs ++ dvs) Q E hr I.env0 (hb s us I.kIn hl) r2 h) fun r s' hq => ?_)
  cases r with
  | error e => exact hx pins σ H s e s' I hq
  | ok fl =>
    cases fl with
    | ret u => exact I.after hq
    | next => exact False.elim hq
    | brk => exact False.elim hq
    | cont => exact False.elim hq
theorem pe_call (F : FnOk X.prog X.w X.K X.mg X.base CX k f fd ps sp) (hr : Room k X.A) (hg : Gl X x) (hm : X.mg x = some (.ref f)) (hk : PySem.W.keepIn X.K (.ref f) = true) (hb : Binds X.K fd ps ds) (hd : Vals dvs ds) (hx : Passes CX X E)
    (ha : PA X (e :: es) t) (hdb : (x == ("__debug__" : Str)) = false := by decide) (he : starEach (e :: es) X.env = (false, eval e X.env) :: starEach es X.env := by rfl) (hpl : (backTo pos (starEach es X.env)).any (·.1) = false := by rfl) :
    PE X (.Call (.Name x p) (e :: es) [] pos) (tCall sp dvs E t) := by
  intro pins s σ H Q I h
  refine wpAny_Call_Name_kw (ld_glob I hg hm ?_ hdb)
  refine PySem.W.callWith_K (h₀ := X.base) I.ok.mod.kin hk (thn (ha pos pins s σ H _ I h) fun us s1 ⟨vs, H1, I1, r, q⟩ => ⟨I1.kIn, ?_⟩) he hpl
  exact run_fn F hr hb hd hx I1 r q
theorem pe_meth {pl : Sem Bool} (he : PE X o ta) (c : Cls X.K C) (hm : Meth X.K C m f) (F : FnOk X.prog X.w X.K X.mg X.base CX k f fd ps sp) (hr : Room k X.A) (hb : Binds X.K fd ps ds) (hd : Vals dvs ds) (hx : Passes CX X E) (ha : PA X (e :: es) t)
    (hst : starEach (e :: es) X.env = (false, eval e X.env) :: starEach es X.env := by rfl) (hpl : (backTo pos (starEach es X.env)).any (·.1) = false := by rfl)
    (ht : eval (.Call (.Attribute o m apos) (e :: es) [] pos) X.env = (do
      let ov ← eval o X.env
      standAt apos.atName
      let (f, first) ← holding [ov] (getMethod ov m pl)
      callWith pos f first (backTo pos (starEach (e :: es) X.env)) (backToKw pos (keywordEach [] X.env))) := by rfl) :
    PE X (.Call (.Attribute o m apos) (e :: es) [] pos) (tMeth C m sp dvs E ta t) := by
  intro pins s σ H Q I h
  refine PySem.W.methodCall_KW (pl := pl) (thn (he pins s σ H _ I h) fun u s1 ⟨x, H1, I1, rx, a, dx, fs, ex, ea, l, q⟩ => ?_) ht
  subst ex
  obtain rfl : u = Value.ref a := rx
  refine getmeth_ok I1 ea c hm l ?_
  refine PySem.W.callWith_K (first := [.ref a]) (h₀ := X.base) I.ok.mod.kin hm.kp (thn (ha pos pins s1 σ H1 _ I1 q) fun us s2 ⟨vs, H2, I2, r, q2⟩ => ⟨I2.kIn, ?_⟩) hst hpl
  exact run_fn (us := .ref a :: us) (vs := .ref a :: vs) F hr hb hd hx I2 (.cons rfl r) q2
theorem pe_meth0 {pl : Sem Bool} (he : PE X o ta) (c : Cls X.K C) (hm : Meth X.K C m f) (F : FnOk X.prog X.w X.K X.mg X.base CX k f fd ps sp) (hr : Room k X.A) (hb : Binds X.K fd ps ds) (hd : Vals dvs ds) (hx : Passes CX X E)
    (ht : eval (.Call (.Attribute o m apos) [] [] pos) X.env = (do
      let ov ← eval o X.env
      standAt apos.atName
      let (f, first) ← holding [ov] (getMethod ov m pl)
      callWith pos f first (backTo pos (starEach [] X.env)) (backToKw pos (keywordEach [] X.env))) := by rfl) :
    PE X (.Call (.Attribute o m apos) [] [] pos) (tMeth C m sp dvs E ta tNil) := by
  intro pins s σ H Q I h
  refine PySem.W.methodCall_KW (pl := pl) (thn (he pins s σ H _ I h) fun u s1 ⟨x, H1, I1, rx, a, dx, fs, ex, ea, l, q⟩ => ?_) ht
  subst ex
  obtain rfl : u = Value.ref a := rx
  refine getmeth_ok I1 ea c hm l ?_
  exact PySem.W.callWith_K0 (first := [.ref a]) I1.kIn hm.kp (run_fn (us := [.ref a]) (vs := [.ref a]) F hr hb hd hx I1 (.cons rfl .nil) q)
structure Mk (K : PySem.W.Frag) (C f : Addr) : Prop where
  makes : PySem.W.makesIn K C = true
  init : PySem.W.findIn K (.ref C) "__init__" = some (some (.ref f))
  fn : PySem.W.isFn K (.ref f) = true
  kp : PySem.W.keepIn K (.ref C) = true
theorem run_make {pins : List (Addr × Obj)} {σ : St} {H : Hp} {s : Shared} {Q : VK} {us : List Value} {vs : List V} (M : Mk X.K C f) (F : FnOk X.prog X.w X.K X.mg X.base CX k f fd ps sp) (hr : Room (k + 1) X.A) (hb : Binds X.K fd ps ds) (hd : Vals dvs ds)
    (hx : Passes CX X E) (I : Inv X pins σ H s) (r : Vals vs us)
    (h : ∀ x dx, H x = none → H dx = none → dx ≠ x → sp (.ref x :: (vs ++ dvs)) (upd (upd H dx (.own x)) x (.ins C dx [])) (fun v H2 => v = .non ∧ Q (.ref x) H2) E) :
    wpAny (model X.prog X.w) X.A (call (.ref C) us) (EP X pins σ Q) X.xe s := by
  have hq := h (s.heap.objs.size + 1) s.heap.objs.size (I.hok.fresh (Nat.le_succ _)) (I.hok.fresh (Nat.le_refl _)) (Nat.ne_of_lt (Nat.lt_succ_self _))
  have I2 := Inv.made (C := C) I
  have r2 : Vals (V.ref (s.heap.objs.size + 1) :: (vs ++ dvs)) (Value.ref (s.heap.objs.size + 1) :: (us ++ ds)) := .cons rfl (r.append hd)
  have hl : (Value.ref (s.heap.objs.size + 1) :: us ++ ds).length = ps.length := by
    have e := r2.length
    rw [F.len _ _ _ _ hq] at e
    exact e.symm
  refine wpAny_call (make_map (f := f) I.kIn M.makes M.init (beq_iff_eq.mp M.fn) (codeAny_mono (F.run _ X.stack _ _ ⟨Value.ref (s.heap.objs.size + 1) :: us, []⟩ (Value.ref (s.heap.objs.size + 1) :: (us ++ ds)) _ _ E (hr.make C us [])
    (I2.env0.make C us []) (hb _ (Value.ref (s.heap.objs.size + 1) :: us) I2.kIn hl) r2 hq) fun r s' hq' => ?_))
  cases r with
  | error e => exact hx pins σ _ _ e s' I2 hq'
  | ok fl =>
    cases fl with
    | ret u =>
      obtain ⟨v, H', I3, rv, ev, q3⟩ := I2.after hq'
      subst ev
      exact ⟨rv, ⟨V.ref (s.heap.objs.size + 1), H', I3, rfl, q3⟩⟩
    | next => exact False.elim hq'
    | brk => exact False.elim hq'
    | cont => exact False.elim hq'
theorem pe_make0 (M : Mk X.K C f) (F : FnOk X.prog X.w X.K X.mg X.base CX k f fd ps sp) (hr : Room (k + 1) X.A) (hg : Gl X x) (hm : X.mg x = some (.ref C)) (hb : Binds X.K fd ps ds) (hd : Vals dvs ds) (hx : Passes CX X E)
    (hdb : (x == ("__debug__" : Str)) = false := by decide) : PE X (.Call (.Name x p) [] [] pos) (tMake C sp dvs E tNil) := by
  intro pins s σ H Q I h
  refine wpAny_Call_Name_kw (ld_glob I hg hm ?_ hdb)
  exact PySem.W.callWith_K0 I.kIn M.kp (run_make (us := []) M F hr hb hd hx I .nil h)
end
def PK (X : Cx) (kws : List Keyword) (t : TA) : Prop :=
  ∀ (pos : Pos) (pins : List (Addr × Obj)) (s : Shared) (σ : St) (H : Hp) (Q : List V → Hp → Prop), Inv X pins σ H s → t σ H Q → wpAny (model X.prog X.w) X.A (evalAll ((backToKw pos (keywordEach kws X.env)).map (·.2))) (AP X pins σ Q) X.xe s
section
variable {X : Cx} {CX : CXT} {k : Nat} {f C : Addr} {fd : FuncData} {ps ks : List Str} {sp : Sp} {E : XK} {x m : Str} {p pos apos kpos : Pos} {e o : Expr} {es : List Expr} {kws : List Keyword} {te ta : TE} {t tk : TA} {nm : Option Str}
theorem pk_nil : PK X [] tNil := fun _ _ _ _ H Q I h => wpAny_evalAll_nil ⟨[], H, I, .nil, h⟩
theorem pk_cons (ha : PE X e te) (hr : PK X kws t) : PK X (⟨nm, e, kpos⟩ :: kws) (tCons te t) := by
  intro pos pins s σ H Q I h
  show wpAny _ _ (evalAll ((do let v ← eval e X.env; standAt pos; pure v) :: (backToKw pos (keywordEach kws X.env)).map (·.2))) _ _ s
  refine wpAny_evalAll_cons (wpAny_bind (thn (ha pins s σ H _ I h) fun u s1 ⟨x, H1, I1, r1, q1⟩ => wpAny_bind (wpAny_standAt (wpAny_pure ?_))))
  exact thn (hr pos pins s1 σ H1 _ I1 q1) fun us s2 ⟨xs, H2, I2, r2, q2⟩ => ⟨x :: xs, H2, I2, .cons r1 r2, q2⟩
variable {g : List Value → List Value → List Value} {gV : List V → List V → List V}
end
structure FnScope (N P : List Str) (sc : Scope) : Prop where
  kind : sc.kind = .function
  co : sc.isCoroutine = false
  gen : sc.isGenerator = false
  nd : N.Nodup
  pre : N.take P.length = P
  par : ∀ x ∈ P, sc.names.lookup x = some .local ∨ sc.names.lookup x = some .cell
  nofree : ∀ y ∈ sc.names, y.2 ≠ .free
theorem bindL_out {kindOf : Str → Option NameKind} {x : Str} : ∀ {binds : List (Str × Value)} {m : Str → Option Value}, (∀ v, (x, v) ∉ binds) → bindL kindOf binds m x = m x
  | [], _, _ => rfl
  | (n, v) :: r, m, h => by
    unfold bindL
    rw [bindL_out fun w hw => h w (List.mem_cons_of_mem _ hw)]
    split
    · have : x ≠ n := by rintro rfl; exact h v List.mem_cons_self
      simp [this]
    · rfl
theorem bindC_out {kindOf : Str → Option NameKind} {x : Str} : ∀ {binds : List (Str × Value)} {m : Str → Option Value}, (∀ v, (x, v) ∉ binds) → bindC kindOf binds m x = m x
  | [], _, _ => rfl
  | (n, v) :: r, m, h => by
    unfold bindC
    rw [bindC_out fun w hw => h w (List.mem_cons_of_mem _ hw)]
    split
    · rfl
    · have : x ≠ n := by rintro rfl; exact h v List.mem_cons_self
      simp [this]
theorem bindL_get {kindOf : Str → Option NameKind} {x : Str} {v : Value} : ∀ {P : List Str} {vs : List Value} {i : Nat} {m : Str → Option Value}, P.Nodup → P[i]? = some x → vs[i]? = some v → kindOf x = some .local →
    bindL kindOf (P.zip vs) m x = some v
  | [], _, _, _, _, h, _, _ => by simp at h
  | _ :: _, [], _, _, _, _, h, _ => by simp at h
  | p :: P, w :: vs, 0, m, nd, h1, h2, hk => by
    simp at h1 h2; subst h1; subst h2
    show bindL kindOf ((p, w) :: P.zip vs) m p = _
    unfold bindL
    rw [bindL_out fun v hv => (List.nodup_cons.mp nd).1 (List.of_mem_zip hv).1, if_pos hk]
    simp
  | p :: P, w :: vs, i + 1, m, nd, h1, h2, hk => by
    show bindL kindOf ((p, w) :: P.zip vs) m x = _
    unfold bindL
    exact bindL_get (i := i) (List.nodup_cons.mp nd).2 (by simpa using h1) (by simpa using h2) hk
theorem bindC_get {kindOf : Str → Option NameKind} {x : Str} {v : Value} : ∀ {P : List Str} {vs : List Value} {i : Nat} {m : Str → Option Value}, P.Nodup → P[i]? = some x → vs[i]? = some v → kindOf x ≠ some .local →
    bindC kindOf (P.zip vs) m x = some v
  | [], _, _, _, _, h, _, _ => by simp at h
  | _ :: _, [], _, _, _, _, h, _ => by simp at h
  | p :: P, w :: vs, 0, m, nd, h1, h2, hk => by
    simp at h1 h2; subst h1; subst h2
    show bindC kindOf ((p, w) :: P.zip vs) m p = _
    unfold bindC
    rw [bindC_out fun v hv => (List.nodup_cons.mp nd).1 (List.of_mem_zip hv).1, if_neg hk]
    simp
  | p :: P, w :: vs, i + 1, m, nd, h1, h2, hk => by
    show bindC kindOf ((p, w) :: P.zip vs) m x = _
    unfold bindC
    exact bindC_get (i := i) (List.nodup_cons.mp nd).2 (by simpa using h1) (by simpa using h2) hk
def start (N : List Str) (vs : List V) : St := vs.map some ++ List.replicate (N.length - vs.length) none
def cxOf (CX : CXT) (P : Program) (w : World) (K : PySem.W.Frag) (mg : Str → Option Value) (base : Heap) (N : List Str) (qual : Str) (scope : Scope) (f : Addr) (cd : Value) (A : Around) (outer : List Env) (s : Shared) (H : Hp) (E : XK) : Cx where
  prog := P
  w := w
  K := K
  mg := mg
  base := base
  A := A.deeper (envOfC qual scope s.heap.objs.size f cd)
  N := N
  s_0 := s
  H_0 := H
  env := envOfC qual scope s.heap.objs.size f cd
  outer := outer
  stack := envOfC qual scope s.heap.objs.size f cd :: outer
  ex := []
  calm := true
  fn := fun _ => true
  pn := []
  xe := fun e s' => wpAny (model P w) (A.deeper (envOfC qual scope s.heap.objs.size f cd)) (leaving (envOfC qual scope s.heap.objs.size f cd) e) (fun _ s'' => CX outer H s E e s'') (fun e' s'' => CX outer H s E e' s'') s'
theorem cell_has {sc : Scope} {n : Nat} {x : Str} (h : sc.names.lookup x = some .cell) : ∃ c, (cellsFrom n sc.names []).lookup x = some c := by
  have q := PySem.W.cellsFrom_some sc.names n [] (.inl h)
  exact Option.isSome_iff_exists.mp q
theorem inv_start {CX : CXT} {P : Program} {w : World} {K : PySem.W.Frag} {mg : Str → Option Value} {base : Heap} {N ps : List Str} {qual : Str} {scope : Scope} {f : Addr} {cd : Value} {A : Around} {outer : List Env} {s s1 : Shared} {H : Hp} {E : XK} {us : List Value} {vs : List V}
    (S : FnScope N ps scope) (hd : A.handled = none) (e0 : Env0 P w K mg base A outer s H) (hl : vs.length = ps.length) (r : Vals vs us)
    (x : InCallC s s.heap.objs.size (bindL (envOfC qual scope s.heap.objs.size f cd).kindOf (ps.zip us) fun _ => none) (cellsFrom (s.heap.objs.size + 1) scope.names []) (bindC (envOfC qual scope s.heap.objs.size f cd).kindOf (ps.zip us) fun _ => none) s1) :
    Inv (cxOf CX P w K mg base N qual scope f cd A outer s H E) [] (start N vs) H s1 := by
  have hpl : ps.length ≤ N.length := by have := congrArg List.length S.pre; rw [List.length_take] at this; omega
  obtain ⟨h1, tk, rfl, hk⟩ := x.done
  have noA : ∀ b : Addr, b ∉ (cxOf CX P w K mg base N qual scope f cd A outer s H E).ex := fun b z => absurd (show b ∈ ([] : List Addr) from z) (by simp)
  refine ⟨⟨e0.mod, S.kind, rfl, rfl, Nat.le_refl _, fun y z c h1 h2 => ?_, fun y hy => ?_, fun y c _ h => ?_, fun _ => hd, Around.frames_deeper e0.frames, .inr ⟨rfl, rfl⟩, fun b z => absurd z (noA b), e0.bs, e0.bsz, fun b _ _ => noA b, fun b z => absurd z (noA b), e0.funs, e0.frf⟩,
    rfl, e0.bare, Un.kept hk, ⟨_, x.toInCall.ns, fun i y v h1 h2 h3 => ?_⟩, fun y c h => ⟨_, x.cell y c h⟩, e0.hok.fresh (Nat.le_refl _), fun y c h => ?_, fun p hp => absurd (show p ∈ ([] : List (Addr × Obj)) from hp) (by simp), e0.hok.kept hk, ?_⟩
  · exact name_of_addr x.apart (PySem.mem_of_lookup h1) (PySem.mem_of_lookup h2)
  · have hy : scope.names.lookup y = some .cell ∨ scope.names.lookup y = some .free := hy
    rcases hy with hy | hy
    · exact cell_has hy
    · exact absurd rfl (S.nofree _ (PySem.mem_of_lookup hy))
  · exact Nat.le_of_lt (x.above y c (PySem.mem_of_lookup h))
  · have hi : i < vs.length := by
      unfold start at h2
      by_cases hi : i < vs.length
      · exact hi
      · rw [List.getElem?_append_right (by simpa using hi)] at h2
        rw [List.getElem?_replicate] at h2
        split at h2 <;> cases h2
    have ha : vs[i]? = some v := by
      unfold start at h2
      rw [List.getElem?_append_left (by simpa using hi), List.getElem?_map] at h2
      cases e : vs[i]? with
      | none => rw [e] at h2; cases h2
      | some a => rw [e] at h2; cases h2; rfl
    obtain ⟨u, hu, rv⟩ := r.get ha
    have hp : ps[i]? = some y := by
      rw [← S.pre, List.getElem?_take_of_lt (by omega)]; exact h1
    have ndP : ps.Nodup := by rw [← S.pre]; exact S.nd.sublist (List.take_sublist _ _)
    refine ⟨u, rv, ?_⟩
    rcases S.par y (List.mem_of_getElem? hp) with k | k
    · exact .inl ⟨k, bindL_get ndP hp hu k⟩
    · obtain ⟨c, e⟩ := cell_has (n := s.heap.objs.size + 1) k
      refine .inr ⟨.inl k, c, e, ?_⟩
      have q := x.cell y c e
      rw [bindC_get ndP hp hu (by show scope.names.lookup y ≠ _; rw [k]; decide)] at q
      exact q
  · exact e0.hok.fresh (Nat.le_of_lt (x.above y c (PySem.mem_of_lookup h)))
  · unfold start
    show _ = N.length
    rw [List.length_append, List.length_map, List.length_replicate]
    omega
theorem fn_of {CX : CXT} {P : Program} {w : World} {K : PySem.W.Frag} {mg : Str → Option Value} {base : Heap} {k : Nat} {f : Addr} {name qual : Str} {params : Arguments} {body : List Stmt} {scope : Scope} {dV kV doc pm cdv ct oc : Value} {an od : Option Addr}
    {osl : Array (Option Value)} {N ps : List Str} {sp : Sp} (lk : K.lookup f = some ⟨oc, od, .func (PySem.W.fnOf name qual params body scope dV kV doc pm an cdv ct), osl⟩) (hcd : PySem.W.codeIn K cdv qual = true) (S : FnScope N ps scope)
    (len : ∀ vs H Q E, sp vs H Q E → vs.length = ps.length)
    (hbody : ∀ (A : Around) (outer : List Env) (s : Shared) (H : Hp) (vs : List V) (Q : VK) (E : XK), Room k (A.deeper (envOfC qual scope s.heap.objs.size f cdv)) → sp vs H Q E →
      ∃ t, PSs (cxOf CX P w K mg base N qual scope f cdv A outer s H E) body t ∧ t { nx := fun _ H' => Q .non H', rt := Q } (start N vs) H) :
    FnOk P w K mg base CX (k + 1) f (PySem.W.fnOf name qual params body scope dV kV doc pm an cdv ct) ps sp := by
  refine ⟨len, fun A outer s H args us vs Q E hr e0 hb r hsp => ?_⟩
  have hl := len _ _ _ _ hsp
  have KX : K.In s.heap := e0.mod.kin.keeps fun b o e => (e0.bs b o e).1
  have lim : s.heap.NoLimit := e0.mod.nolimit.keeps fun b o e => (e0.bs b o e).1
  have hkind : ∀ y ∈ ps.zip us, scope.names.lookup y.1 = some .local ∨ (scope.names.lookup y.1 = some .cell ∧ ((cellsFrom (s.heap.objs.size + 1) scope.names []).lookup y.1).isSome = true) := fun ⟨n, v⟩ hy => by
    rcases S.par n (List.of_mem_zip hy).1 with q | q
    · exact .inl q
    · exact .inr ⟨q, PySem.W.cellsFrom_some _ _ _ (.inl q)⟩
  refine codeAny_call_function hr.depth (KX _ _ lk) rfl S.co S.gen rfl (PySem.W.codeRec_of KX hcd) (hb _ _ _ _ ?_)
  refine wpAny_newFunctionEnv_cells S.kind hkind fun env he s1 x => ?_
  subst he
  refine ⟨lim.keeps x.toInCall.keep, codeAny_func ?_⟩
  obtain ⟨t, ht, hq⟩ := hbody A outer s H vs Q E (hr.deeper _) hsp
  have I : Inv (cxOf CX P w K mg base N qual scope f cdv A outer s H E) [] (start N vs) H s1 := inv_start S hr.hd e0 hl r x
  refine wpAny_mono (ht [] s1 (start N vs) H _ I hq) (fun fl s' hs => ?_) fun e s' hs => hs
  have fin : ∀ {σ' : St} {H' : Hp} {v : V} {u : Value}, Inv (cxOf CX P w K mg base N qual scope f cdv A outer s H E) [] σ' H' s' → RelV v u → Q v H' → CE outer P w H s Q u s' :=
    fun {σ' H' v u} J rv q => ⟨v, H', J.os, J.bare, J.base, J.hok, rv, q⟩
  cases fl with
  | ret u =>
    obtain ⟨v, σ', H', J, rv, q⟩ := hs
    exact fin J rv q
  | next =>
    obtain ⟨σ', H', J, q⟩ := hs
    exact fin (v := V.non) (u := Value.none) J rfl q
  | brk =>
    obtain ⟨_, _, _, q⟩ := hs
    exact False.elim q
  | cont =>
    obtain ⟨_, _, _, q⟩ := hs
    exact False.elim q
end L2
namespace L2
open PySem PySem.Spec PyProof.Rows
section
variable {X : Cx} {x : Str} {p pos : Pos} {e : Expr} {es : List Expr} {t : TA} {id T : String} {r : List V → Hp → VK → Prop}
def tCB (r : List V → Hp → VK → Prop) (t : TA) : TE := fun σ H Q => t σ H fun vs H1 => r vs H1 Q
theorem pe_callB (hc : CallR X (.builtin id) r) (hg : Gl X x) (hm : X.mg x = none) (hv : bootBuiltins x = some (.builtin id)) (ha : PA X (e :: es) t) (hn : x ≠ "__name__" := by decide) (hdb : (x == ("__debug__" : Str)) = false := by decide)
    (he : starEach (e :: es) X.env = (false, eval e X.env) :: starEach es X.env := by rfl) (hpl : (backTo pos (starEach es X.env)).any (·.1) = false := by rfl) : PE X (.Call (.Name x p) (e :: es) [] pos) (tCB r t) := by
  intro pins s σ H Q I h
  refine wpAny_Call_Name_kw (ld_blt I hg hm hv ?_ hn hdb)
  exact PyProof.Rows.callWith_builtin1 (thn (ha pos pins s σ H _ I h) fun us s1 ⟨vs, H1, I1, r1, q1⟩ => hc pins s1 σ H1 vs us Q I1 r1 q1) he hpl
theorem pe_callTy (hc : CallR X (.type T) r) (hg : Gl X x) (hm : X.mg x = none) (hv : bootBuiltins x = some (.type T)) (ha : PA X (e :: es) t) (hn : x ≠ "__name__" := by decide) (hdb : (x == ("__debug__" : Str)) = false := by decide)
    (he : starEach (e :: es) X.env = (false, eval e X.env) :: starEach es X.env := by rfl) (hpl : (backTo pos (starEach es X.env)).any (·.1) = false := by rfl) : PE X (.Call (.Name x p) (e :: es) [] pos) (tCB r t) := by
  intro pins s σ H Q I h
  refine wpAny_Call_Name_kw (ld_blt I hg hm hv ?_ hn hdb)
  exact PyProof.Rows.callWith_type1 (thn (ha pos pins s σ H _ I h) fun us s1 ⟨vs, H1, I1, r1, q1⟩ => hc pins s1 σ H1 vs us Q I1 r1 q1) he hpl
end
end L2
namespace HT
open PySem PyProof.Rows
section
open PySem.SeqAt
open PySem.AutoSeq1 (wpAny_loadPart')
open PySem.MeetsSeq PySem.MeetsSeq2 PySem.MeetsSeq3
end
section
variable {prog : Program} {w : World} {A : Around} {E : Value → Shared → Prop} {s : Shared}
def sIx (n d : Nat) : Option Int → Nat
  | none => d
  | some v => if v < 0 then (v + (n : Int)).toNat else min v.toNat n
theorem sIx_none (n d : Nat) : sIx n d none = d := rfl
theorem sIx_nat (n d k : Nat) : sIx n d (some (k : Int)) = min k n := by
  show (if (k : Int) < 0 then ((k : Int) + (n : Int)).toNat else min (k : Int).toNat n) = min k n
  rw [if_neg (by omega), Int.toNat_natCast]
end
end HT
namespace L2
open PySem PySem.Spec PyProof.Rows
abbrev TO := St → Hp → (Option Int → Hp → Prop) → Prop
def PO (X : Cx) (e : Option Expr) (t : TO) : Prop :=
  ∀ (pins : List (Addr × Obj)) (s : Shared) (σ : St) (H : Hp) (Q : Option Int → Hp → Prop), Inv X pins σ H s → t σ H Q →
    wpAny (model X.prog X.w) X.A (evalPart e X.env) (fun u s' => ∃ o H', Inv X pins σ H' s' ∧ IsPart u o ∧ Q o H') X.xe s
def tNoPart : TO := fun _ H Q => Q none H
def tPart (t : TE) : TO := fun σ H Q => t σ H fun x H1 => ∃ i, x = .int i ∧ Q (some i) H1
section
variable {X : Cx} {e : Expr} {te : TE} {lo hi : Option Expr} {tl th : TO} {pos p2 : Pos}
theorem po_none : PO X none tNoPart := by
  intro pins s σ H Q I h
  rw [evalPart_none]
  exact wpAny_pure ⟨none, H, I, .none, h⟩
theorem po_some (h : PE X e te) : PO X (some e) (tPart te) := by
  intro pins s σ H Q I hw
  rw [evalPart_some]
  refine thn (h pins s σ H _ I hw) fun u s1 ⟨x, H1, I1, r1, q1⟩ => ?_
  obtain ⟨i, rfl, q⟩ := q1
  obtain ⟨t, rfl⟩ := r1
  exact ⟨some i, H1, I1, .int i t, q⟩
def SlR (X : Cx) (r : V → Option Int → Option Int → Hp → VK → Prop) : Prop :=
  ∀ (pins : List (Addr × Obj)) (s : Shared) (σ : St) (H : Hp) (x : V) (v vl vu : Value) (lo hi : Option Int) (sl : Addr) (Q : VK), Inv X pins σ H s → RelV x v → s.heap.IsSliceOf sl vl vu .none → IsPart vl lo → IsPart vu hi → r x lo hi H Q →
    ∃ T id, typeLookup (.type T) "__getitem__" = pure (some (.builtin id)) ∧ s.TypeIs v T ∧ wpAny (model X.prog X.w) X.A (getItem v (.ref sl)) (EP X pins σ Q) X.xe s
theorem SlR.or {r r' : V → Option Int → Option Int → Hp → VK → Prop} (h : SlR X r) (h' : SlR X r') : SlR X (fun x lo hi H Q => r x lo hi H Q ∨ r' x lo hi H Q) := by
  intro pins s σ H x v vl vu lo hi sl Q I rx hs pl pu q
  rcases q with q | q
  · exact h pins s σ H x v vl vu lo hi sl Q I rx hs pl pu q
  · exact h' pins s σ H x v vl vu lo hi sl Q I rx hs pl pu q
def tSl (r : V → Option Int → Option Int → Hp → VK → Prop) (te : TE) (tl th : TO) : TE := fun σ H Q => te σ H fun x H1 => tl σ H1 fun l H2 => th σ H2 fun u H3 => r x l u H3 Q
theorem pe_slice {r : V → Option Int → Option Int → Hp → VK → Prop} (hr : SlR X r) (he : PE X e te) (hl : PO X lo tl) (hu : PO X hi th) : PE X (.Subscript e (.Slice lo hi none p2) pos) (tSl r te tl th) := by
  intro pins s σ H Q I h
  refine Subscript_ (thn (he pins s σ H _ I h) fun v s1 ⟨x, H1, I1, r1, q1⟩ => ?_)
  refine wpAny_Slice (thn (hl pins s1 σ H1 _ I1 q1) fun vl s2 ⟨l, H2, I2, pl, q2⟩ => thn (hu pins s2 σ H2 _ I2 q2) fun vu s3 ⟨u, H3, I3, pu, q3⟩ => ?_)
  rw [evalPart_none]
  refine wpAny_pure ?_
  have I4 : Inv X pins σ H3 { s3 with heap := s3.heap.push { cls := .type "slice", data := .fields #[vl, vu, .none] } } := I3.kept (t' := s3.toks) fun b ob q => Heap.get?_push_of_some _ q
  obtain ⟨T, id, hT, ht, hg⟩ := hr pins { s3 with heap := s3.heap.push { cls := .type "slice", data := .fields #[vl, vu, .none] } } σ H3 x v vl vu l u s3.heap.objs.size Q I4 r1 (Heap.IsSliceOf.new ..) pl pu q3
  show wpAny (model X.prog X.w) X.A (subscriptTail e (.Slice lo hi none p2) v (.ref s3.heap.objs.size)) (EP X pins σ Q) X.xe { s3 with heap := s3.heap.push { cls := .type "slice", data := .fields #[vl, vu, .none] } }
  exact tail_any (ops := [.ref s3.heap.objs.size, v]) ht hT hg (by with_unfolding_all rfl)
def cutV (xs : List V) (lo hi : Option Int) : List V := (xs.drop (HT.sIx xs.length 0 lo)).take (HT.sIx xs.length xs.length hi - HT.sIx xs.length 0 lo)
theorem cutV_length (xs : List V) (lo hi : Option Int) : (cutV xs lo hi).length ≤ xs.length := by
  unfold cutV
  rw [List.length_take, List.length_drop]
  omega
end
end L2
namespace L2
open PySem PySem.Spec PyProof.Rows
def ixN (n : Nat) (i : Int) : Option Nat := if 0 ≤ i then (if i < n then some i.toNat else none) else if -(n : Int) ≤ i then some (i + n).toNat else none
def atI {α : Type} (xs : List α) (i : Int) : Option α := (ixN xs.length i).bind fun j => xs[j]?
theorem ixN_seq {n : Nat} {i : Int} {j : Nat} (h : ixN n i = some j) : seqIndex? i n = some j ∧ j < n ∧ -(n : Int) ≤ i ∧ i < n := by
  unfold ixN at h
  by_cases h0 : 0 ≤ i
  · rw [if_pos h0] at h
    by_cases h1 : i < n
    · rw [if_pos h1] at h
      have e : i.toNat = j := Option.some.inj h
      exact ⟨by rw [seqIndex_of h0 h1, e], by omega, by omega, h1⟩
    · rw [if_neg h1] at h; cases h
  · rw [if_neg h0] at h
    by_cases h1 : -(n : Int) ≤ i
    · rw [if_pos h1] at h
      have e : (i + n).toNat = j := Option.some.inj h
      exact ⟨by rw [seqIndex_neg (by omega) h1, e], by omega, h1, by omega⟩
    · rw [if_neg h1] at h; cases h
theorem atI_get {α : Type} {xs : List α} {i : Int} {v : α} (h : atI xs i = some v) : ∃ j, seqIndex? i xs.length = some j ∧ xs[j]? = some v ∧ j < xs.length ∧ -(xs.length : Int) ≤ i ∧ i < xs.length := by
  unfold atI at h
  cases e : ixN xs.length i with
  | none => rw [e] at h; cases h
  | some j =>
    rw [e] at h
    obtain ⟨h1, h2, h3, h4⟩ := ixN_seq e
    exact ⟨j, h1, h, h2, h3, h4⟩
theorem atI_nat {α : Type} {xs : List α} {j : Nat} {v : α} (h : xs[j]? = some v) : atI xs (j : Int) = some v := by
  have hj : j < xs.length := (List.getElem?_eq_some_iff.mp h).1
  have e : ixN xs.length (j : Int) = some j := by
    unfold ixN
    rw [if_pos (by omega), if_pos (by omega)]; simp
  unfold atI; rw [e]; exact h
def PlainIx (b : Expr) : Prop := ∀ o i, subscripted b false o i = operate [o, i] (getItem o i)
def IxR (X : Cx) (r : R2) : Prop :=
  ∀ (value slice : Expr) (pins : List (Addr × Obj)) (s : Shared) (σ : St) (H : Hp) (x y : V) (v u : Value) (Q : VK), Inv X pins σ H s → RelV x v → RelV y u → r x y H Q →
    subscripted slice false v u = operate [v, u] (getItem v u) → wpAny (model X.prog X.w) X.A (subscriptTail value slice v u) (EP X pins σ Q) X.xe s
def MtR (X : Cx) (id : String) (r : V → List V → Hp → VK → Prop) : Prop :=
  ∀ (pins : List (Addr × Obj)) (s : Shared) (σ : St) (H : Hp) (x : V) (xs : List V) (v : Value) (us : List Value) (Q : VK), Inv X pins σ H s → RelV x v → Vals xs us → r x xs H Q →
    wpAny (model X.prog X.w) X.A (call (.builtin id) (v :: us)) (EP X pins σ Q) X.xe s
section
variable {X : Cx} {a b : Expr} {ta tb : TE} {pos : Pos}
theorem IxR.or {r r' : R2} (h : IxR X r) (h' : IxR X r') : IxR X (fun x y H Q => r x y H Q ∨ r' x y H Q) := by
  intro value slice pins s σ H x y v u Q I rx ry q hs
  rcases q with q | q
  · exact h value slice pins s σ H x y v u Q I rx ry q hs
  · exact h' value slice pins s σ H x y v u Q I rx ry q hs
theorem MtR.or {id : String} {r r' : V → List V → Hp → VK → Prop} (h : MtR X id r) (h' : MtR X id r') : MtR X id (fun x xs H Q => r x xs H Q ∨ r' x xs H Q) := by
  intro pins s σ H x xs v us Q I rx rs q
  rcases q with q | q
  · exact h pins s σ H x xs v us Q I rx rs q
  · exact h' pins s σ H x xs v us Q I rx rs q
theorem pe_ix {r : R2} (hr : IxR X r) (ha : PE X a ta) (hb : PE X b tb) (hs : PlainIx b) : PE X (.Subscript a b pos) (tOp r ta tb) := by
  intro pins s σ H Q I h
  exact Subscript_ (binT ha hb I h fun v u s2 x y H2 I2 rx ry q => hr a b pins s2 σ H2 x y v u Q I2 rx ry q (hs _ _))
def rIxL (K : PySem.W.Frag) : R2 := fun x y H Q => ∃ p xs i v, x = .ref p ∧ y = .int i ∧ SqL K H p xs ∧ atI xs i = some v ∧ Q v H
theorem ix_list : IxR X (rIxL X.K) := by
  intro value slice pins s σ H x y v u Q I rx ry h hs
  obtain ⟨p, xs, i, z, rfl, rfl, hq, he, q⟩ := h
  cases rx
  obtain ⟨t, rfl⟩ := ry
  obtain ⟨its, r, pl, hz⟩ := I.list hq
  obtain ⟨j, h1, h2, h3, h4, h5⟩ := atI_get he
  obtain ⟨w, ew, rw'⟩ := r.get h2
  have hl := r.length
  have hn := line63
  have fin : EP X pins σ Q w s := ⟨z, H, I, rw', q⟩
  by_cases h0 : 0 ≤ i
  · have hj : i.toNat = j := by
      rw [seqIndex_of h0 h5] at h1
      exact Option.some.inj h1
    exact item_listR pl.isList h0 (by omega) (by rw [hj]; simpa using ew) fin hs
  · have hj : (i + (its.toArray.size : Int)).toNat = j := by
      rw [seqIndex_neg (by omega) h4] at h1
      rw [List.size_toArray, ← hl]
      exact Option.some.inj h1
    exact subscriptTail_builtinR (x := w) pl.isList.typeIs slot_list_getitem.lookup
      (wpAny_getItem_list_neg (Q := fun r s' => r = w ∧ EP X pins σ Q r s') pl.isList (by omega) (by rw [List.size_toArray] <;> omega) (by omega) (by rw [hj]; simpa using ew) ⟨rfl, fin⟩) hs
theorem mapSeq_set (its : List Value) (n j : Nat) (u : Value) : Obj.mapSeq (·.setIfInBounds j u) { cls := .type "list", data := .seq its.toArray n } = { cls := .type "list", data := .seq (its.set j u).toArray n } := by
  simp [Obj.mapSeq]
theorem Inv.lst {pins : List (Addr × Obj)} {σ : St} {H : Hp} {s : Shared} {p : Addr} {xs : List V} (I : Inv X pins σ H s) (h : H p = some (.lst xs)) :
    ∃ (its : List Value) (n : Nat), Vals xs its ∧ s.heap.get? p = some { cls := .type "list", data := .seq its.toArray n } ∧ xs.length ≤ sizeLine := by
  obtain ⟨z, its, n, r, e⟩ := I.hok p _ h
  exact ⟨its, n, r, e, z⟩
theorem Inv.lstUpd {pins : List (Addr × Obj)} {σ : St} {H : Hp} {s : Shared} {p : Addr} {xs ys : List V} {its its' : List Value} {n n' : Nat} {f : Obj → Obj} (I : Inv X pins σ H s) (h : H p = some (.lst xs))
    (ho : s.heap.get? p = some { cls := .type "list", data := .seq its.toArray n }) (hf : f { cls := .type "list", data := .seq its.toArray n } = { cls := .type "list", data := .seq its'.toArray n' }) (r : Vals ys its') (hz : ys.length ≤ sizeLine) (t : Nat) :
    Inv X pins σ (upd H p (.lst ys)) { s with heap := s.heap.update p f, toks := t } := by
  have e : (s.heap.update p f).get? p = some { cls := .type "list", data := .seq its'.toArray n' } := by
    rw [Heap.get?_update_self f ho (by rw [hf] <;> rfl), hf]
  refine I.write (x := p) (e := p) (by rw [h]; trivial) (.inl rfl) (fun b u hb q => (Heap.get?_update_other _ _ (Ne.symm hb)).trans q) ⟨_, e⟩ ?_
  exact ⟨hz, its', n', r, e⟩
def rSetL : V → V → V → Hp → (Hp → Prop) → Prop := fun o i v H Q => ∃ p xs k j, o = .ref p ∧ i = .int k ∧ H p = some (.lst xs) ∧ ixN xs.length k = some j ∧ Q (upd H p (.lst (xs.set j v)))
theorem set_list : PSet X rSetL := by
  intro pins s σ H o i v ov iv u Q I ro ri rv h
  obtain ⟨p, xs, k, j, rfl, rfl, hp, hj, q⟩ := h
  cases ro
  obtain ⟨t, rfl⟩ := ri
  obtain ⟨its, n, r, ho, hz⟩ := I.lst hp
  obtain ⟨h1, h2, h3, h4⟩ := ixN_seq hj
  have hl := r.length
  have hn := line63
  have I' : Inv X pins σ (upd H p (.lst (xs.set j v))) { s with heap := s.heap.update p (Obj.mapSeq (·.setIfInBounds j u)) } :=
    I.lstUpd hp ho (mapSeq_set its n j u) (r.set rv j) (by rw [List.length_set]; exact hz) s.toks
  by_cases h0 : 0 ≤ k
  · have hk : k.toNat = j := by
      rw [seqIndex_of h0 h4] at h1
      exact Option.some.inj h1
    exact PySem.W.ki_setAt ho h0 (by omega) (by rw [List.size_toArray, ← hl]; exact h4) (by rw [hk]; exact ⟨_, I', q⟩)
  · have hk : (k + (its.toArray.size : Int)).toNat = j := by
      rw [seqIndex_neg (by omega) h3] at h1
      rw [List.size_toArray, ← hl]
      exact Option.some.inj h1
    exact PySem.W.ki_setBack ho (by omega) (by rw [List.size_toArray, ← hl]; exact h3) (by omega) (by rw [hk]; exact ⟨_, I', q⟩)
theorem slice_bounds (lo hi : Option Int) (n : Nat) : (sliceBounds lo hi none n).1 = ((HT.sIx n 0 lo : Nat) : Int) ∧ (sliceBounds lo hi none n).2.1 = ((HT.sIx n n hi : Nat) : Int) ∧ (sliceBounds lo hi none n).2.2 = 1 := by
  refine ⟨?_, ?_, rfl⟩
  · cases lo with
    | none => simp [sliceBounds, HT.sIx]
    | some i =>
      simp only [sliceBounds, HT.sIx, Option.getD_none, show (1 : Int) > 0 by decide, if_true]
      by_cases h : i < 0
      · simp only [h, if_true] <;> omega
      · simp only [h, if_false] <;> omega
  · cases hi with
    | none => simp [sliceBounds, HT.sIx]
    | some i =>
      simp only [sliceBounds, HT.sIx, Option.getD_none, show (1 : Int) > 0 by decide, if_true]
      by_cases h : i < 0
      · simp only [h, if_true] <;> omega
      · simp only [h, if_false] <;> omega
theorem slicePick_cut (its : List Value) (lo hi : Option Int) : slicePick its.toArray lo hi none = ((its.drop (HT.sIx its.length 0 lo)).take (HT.sIx its.length its.length hi - HT.sIx its.length 0 lo)).toArray := by
  obtain ⟨h1, h2, h3⟩ := slice_bounds lo hi its.toArray.size
  unfold slicePick
  rw [h1, h2, h3]
  simp only [sliceRange_one, pick_run, List.size_toArray] <;> rfl
def rSlL (K : PySem.W.Frag) : V → Option Int → Option Int → Hp → VK → Prop := fun x lo hi H Q => ∃ a xs, x = .ref a ∧ SqL K H a xs ∧ ∀ p, H p = none → Q (.ref p) (upd H p (.lst (cutV xs lo hi)))
theorem sl_list : SlR X (rSlL X.K) := by
  intro pins s σ H x v vl vu lo hi sl Q I rx hs pl pu h
  obtain ⟨a, xs, rfl, hx, q⟩ := h
  cases rx
  obtain ⟨its, r, ht, hz⟩ := I.list hx
  have hlen := r.length
  refine ⟨"list", _, slot_list_getitem.lookup, ht.isList.typeIs, ?_⟩
  refine wpAny_getItem_list_slice ht.isList hs pl pu .none (by simp) ?_ (by rw [List.size_toArray] <;> omega)
  rw [slicePick_cut, ← hlen]
  refine ⟨.ref s.heap.objs.size, _, I.laid (t' := s.toks) (o := .lst (cutV xs lo hi)) (fun b ob q => Heap.get?_push_of_some _ q) (Nat.le_refl _) ?_, rfl, q _ (I.hok.fresh (Nat.le_refl _))⟩
  exact ⟨Nat.le_trans (cutV_length xs lo hi) hz, _, 0, (r.drop (HT.sIx xs.length 0 lo)).take (HT.sIx xs.length xs.length hi - HT.sIx xs.length 0 lo), Heap.get?_push_size _ rfl⟩
def flatV : V → Bool
  | .non => true
  | .bl _ => true
  | .int _ => true
  | .str _ => true
  | _ => false
def eqV : V → V → Bool
  | .non, .non => true
  | .bl a, .bl b => a == b
  | .bl a, .int b => (if a then 1 else 0) == b
  | .int a, .bl b => a == (if b then 1 else 0)
  | .int a, .int b => a == b
  | .str a, .str b => a == b
  | _, _ => false
theorem eqAt_V {A : Around} {s : Shared} {y x : V} {u v : Value} (ry : RelV y u) (rx : RelV x v) (fy : flatV y = true) (fx : flatV x = true) : SeqAt.EqAt A s u v (eqV y x) := by
  cases y with
  | non =>
    cases ry
    cases x with
    | non => cases rx; exact SeqAt.EqAt.same _
    | bl b => cases rx; exact SeqAt.EqAt.none_bool b
    | int b => obtain ⟨t, rfl⟩ := rx; exact SeqAt.EqAt.none_int b t
    | str b => obtain ⟨t, rfl⟩ := rx; exact SeqAt.EqAt.none_str b t
    | _ => exact absurd (show false = true from fx) Bool.false_ne_true
  | bl a =>
    cases ry
    cases x with
    | non => cases rx; exact SeqAt.EqAt.bool_none a
    | bl b => cases rx; exact SeqAt.EqAt.bool_bool a b
    | int b => obtain ⟨t, rfl⟩ := rx; exact SeqAt.EqAt.bool_int a b t
    | str b => obtain ⟨t, rfl⟩ := rx; exact SeqAt.EqAt.bool_str a b t
    | _ => exact absurd (show false = true from fx) Bool.false_ne_true
  | int a =>
    obtain ⟨t', rfl⟩ := ry
    cases x with
    | non => cases rx; exact SeqAt.EqAt.int_none a t'
    | bl b => cases rx; exact SeqAt.EqAt.int_bool a t' b
    | int b => obtain ⟨t, rfl⟩ := rx; exact SeqAt.EqAt.int_int a t' b t
    | str b => obtain ⟨t, rfl⟩ := rx; exact SeqAt.EqAt.int_str a t' b t
    | _ => exact absurd (show false = true from fx) Bool.false_ne_true
  | str a =>
    obtain ⟨t', rfl⟩ := ry
    cases x with
    | non => cases rx; exact SeqAt.EqAt.str_none a t'
    | bl b => cases rx; exact SeqAt.EqAt.str_bool a t' b
    | int b => obtain ⟨t, rfl⟩ := rx; exact SeqAt.EqAt.str_int a t' b t
    | str b => obtain ⟨t, rfl⟩ := rx; exact SeqAt.EqAt.str_str a t' b t
    | _ => exact absurd (show false = true from fx) Bool.false_ne_true
  | _ => exact absurd (show false = true from fy) Bool.false_ne_true
def eqU (x : V) (u : Value) : Bool := match u with
  | .none => eqV .non x
  | .bool b => eqV (.bl b) x
  | .int i _ => eqV (.int i) x
  | .str z _ => eqV (.str z) x
  | _ => false
theorem eqU_of {x y : V} {u : Value} (r : RelV y u) (f : flatV y = true) : eqU x u = eqV y x := by
  cases y with
  | non => cases r; rfl
  | bl b => cases r; rfl
  | int i => obtain ⟨t, rfl⟩ := r; rfl
  | str z => obtain ⟨t, rfl⟩ := r; rfl
  | _ => exact absurd (show false = true from f) Bool.false_ne_true
theorem any_eqU {x : V} : ∀ {xs : List V} {us : List Value}, Vals xs us → xs.all flatV = true → us.any (eqU x) = xs.any fun y => eqV y x
  | _, _, .nil, _ => rfl
  | y :: xs, u :: us, .cons r t, f => by
    rw [List.all_cons, Bool.and_eq_true] at f
    rw [List.any_cons, List.any_cons, eqU_of r f.1, any_eqU t f.2]
theorem mem_eqAt {A : Around} {s : Shared} {x : V} {v : Value} (rx : RelV x v) (fx : flatV x = true) : ∀ {xs : List V} {us : List Value}, Vals xs us → xs.all flatV = true → ∀ u ∈ us, SeqAt.EqAt A s u v (eqU x u)
  | _, _, .nil, _ => fun u hu => by cases hu
  | y :: xs, u :: us, .cons r t, f => fun u' hu => by
    rw [List.all_cons, Bool.and_eq_true] at f
    rcases List.mem_cons.mp hu with rfl | hu
    · rw [eqU_of r f.1]; exact eqAt_V r rx f.1 fx
    · exact mem_eqAt rx fx t f.2 u' hu
def inV (x : V) (xs : List V) : Bool := xs.any fun y => eqV y x
def rIn (K : PySem.W.Frag) (neg : Bool) : R2 := fun x y H Q => ∃ p xs, y = .ref p ∧ (SqL K H p xs ∨ SqT K H p xs) ∧ flatV x = true ∧ xs.all flatV = true ∧ Q (.bl (if neg then !inV x xs else inV x xs)) H
theorem op_in_seq : OpR X (compareOp .In) (rIn X.K false) := by
  intro pins s σ H x y v u Q I rx ry h
  obtain ⟨p, xs, rfl, hq, fx, fs, q⟩ := h
  cases ry
  rcases hq with hq | hq
  · obtain ⟨its, r, pl, hz⟩ := I.list hq
    refine SeqAt.in_listAt (eqU x) pl.isList (fun w hw => mem_eqAt rx fx r fs w (by simpa using hw)) ⟨.bl _, H, I, rfl, ?_⟩
    rw [show its.toArray.any (eqU x) = its.any (eqU x) by simp, any_eqU r fs]
    exact q
  · obtain ⟨its, r, pl, hz⟩ := I.tuple hq
    refine SeqAt.in_tupleAt (eqU x) pl (fun w hw => mem_eqAt rx fx r fs w (by simpa using hw)) ⟨.bl _, H, I, rfl, ?_⟩
    rw [show its.toArray.any (eqU x) = its.any (eqU x) by simp, any_eqU r fs]
    exact q
theorem op_notIn_seq : OpR X (compareOp .NotIn) (rIn X.K true) := by
  intro pins s σ H x y v u Q I rx ry h
  obtain ⟨p, xs, rfl, hq, fx, fs, q⟩ := h
  cases ry
  rcases hq with hq | hq
  · obtain ⟨its, r, pl, hz⟩ := I.list hq
    refine SeqAt.notIn_listAt (eqU x) pl.isList (fun w hw => mem_eqAt rx fx r fs w (by simpa using hw)) ⟨.bl _, H, I, rfl, ?_⟩
    rw [show its.toArray.any (eqU x) = its.any (eqU x) by simp, any_eqU r fs]
    exact q
  · obtain ⟨its, r, pl, hz⟩ := I.tuple hq
    refine SeqAt.notIn_tupleAt (eqU x) pl (fun w hw => mem_eqAt rx fx r fs w (by simpa using hw)) ⟨.bl _, H, I, rfl, ?_⟩
    rw [show its.toArray.any (eqU x) = its.any (eqU x) by simp, any_eqU r fs]
    exact q
theorem call_len_seq : CallR X (.builtin "len") (fun xs H Q => ∃ p ys, xs = [.ref p] ∧ (SqL X.K H p ys ∨ SqT X.K H p ys) ∧ Q (.int ys.length) H) := by
  intro pins s σ H xs us Q I r h
  obtain ⟨p, ys, rfl, hq, q⟩ := h
  obtain ⟨u, rfl, rx⟩ := vals1 r
  cases rx
  have hn := line63
  rcases hq with hq | hq
  · obtain ⟨its, r', pl, hz⟩ := I.list hq
    have hlen := r'.length
    exact Calls.call_len_list pl.isList (by simp only [List.size_toArray] <;> omega) ⟨.int ys.length, H, I.tok _, ⟨s.toks + 1, by rw [List.size_toArray, hlen]⟩, q⟩
  · obtain ⟨its, r', pl, hz⟩ := I.tuple hq
    have hlen := r'.length
    exact len_tuple pl (by simp only [List.size_toArray] <;> omega) ⟨.int ys.length, H, I.tok _, ⟨s.toks + 1, by rw [List.size_toArray, hlen]⟩, q⟩
theorem CallR.or {f : Value} {r r' : List V → Hp → VK → Prop} (h : CallR X f r) (h' : CallR X f r') : CallR X f (fun xs H Q => r xs H Q ∨ r' xs H Q) := by
  intro pins s σ H xs us Q I rs q
  rcases q with q | q
  · exact h pins s σ H xs us Q I rs q
  · exact h' pins s σ H xs us Q I rs q
theorem call_list_of : CallR X (.type "list") (fun xs H Q => ∃ p ys, xs = [.ref p] ∧ (SqL X.K H p ys ∨ SqT X.K H p ys) ∧ ∀ l, H l = none → Q (.ref l) (upd H l (.lst ys))) := by
  intro pins s σ H xs us Q I r h
  obtain ⟨p, ys, rfl, hq, q⟩ := h
  obtain ⟨u, rfl, rx⟩ := vals1 r
  cases rx
  have fin : ∀ (its : List Value), Vals ys its → ys.length ≤ sizeLine → ∀ (h' : Heap) (c' : Nat), (∀ b o', s.heap.get? b = some o' → h'.get? b = some o') →
      h'.get? s.heap.objs.size = some { cls := .type "list", dict := none, data := .seq its.toArray c', slots := #[] } → EP X pins σ Q (.ref s.heap.objs.size) { s with heap := h' } := fun its r' hz h' c' kp e =>
    ⟨.ref s.heap.objs.size, _, I.laid (t' := s.toks) kp (Nat.le_refl _) (show ObjOk X.prog X.w _ h' _ (.lst ys) from ⟨hz, its, c', r', e⟩), rfl, q _ (I.hok.fresh (Nat.le_refl _))⟩
  rcases hq with hq | hq
  · obtain ⟨its, r', pl, hz⟩ := I.list hq
    have hlen := r'.length
    obtain ⟨o, ho, hc, n, hd⟩ := pl.isList
    exact call_list_seq p (.inl rfl) ho hc hd (fun h' c' kp e => fin its r' hz h' c' kp e) (by simp only [List.size_toArray] <;> omega)
  · obtain ⟨its, r', pl, hz⟩ := I.tuple hq
    have hlen := r'.length
    obtain ⟨o, ho, hc, n, hd⟩ := pl
    exact call_list_seq p (.inr rfl) ho hc hd (fun h' c' kp e => fin its r' hz h' c' kp e) (by simp only [List.size_toArray] <;> omega)
def tyV (K : PySem.W.Frag) (T : String) (x : V) (H : Hp) : Prop := match x with
  | .str _ => T = "str"
  | .int _ => T = "int"
  | .ref p => (T = "list" ∧ ∃ xs, SqL K H p xs) ∨ (T = "tuple" ∧ ∃ o, K.lookup p = some o ∧ o.cls = .type "tuple" ∧ o.dict = none) ∨
      (T = "dict" ∧ ((∃ kvs, H p = some (.dK kvs)) ∨ ∃ kvs, H p = some (.dT kvs))) ∨ (T = "set" ∧ ∃ S n, H p = some (.set S n))
  | _ => False
theorem tyV_is {pins : List (Addr × Obj)} {σ : St} {H : Hp} {s : Shared} {T : String} {x : V} {v : Value} (I : Inv X pins σ H s) (r : RelV x v) (ty : tyV X.K T x H) :
    s.TypeIs v T ∧ ∀ a, v = .ref a → ∃ ob, s.heap.get? a = some ob ∧ ob.dict = none := by
  cases x with
  | str z =>
    obtain ⟨t, rfl⟩ := r
    cases (show T = "str" from ty)
    exact ⟨typeIs_str s z t, fun _ e => nomatch e⟩
  | int i =>
    obtain ⟨t, rfl⟩ := r
    cases (show T = "int" from ty)
    exact ⟨typeIs_int s i t, fun _ e => nomatch e⟩
  | ref p =>
    cases r
    rcases ty with ⟨rfl, xs, hq⟩ | ⟨rfl, o, hk, hc, hd⟩ | ⟨rfl, hk⟩ | ⟨rfl, S, n, hk⟩
    · obtain ⟨its, _, pl, _⟩ := I.list hq
      refine ⟨pl.isList.typeIs, fun a e => ?_⟩
      cases e
      obtain ⟨o, n, e, c, hd, _⟩ := pl
      exact ⟨o, e, hd⟩
    · refine ⟨⟨o, I.kIn p o hk, hc⟩, fun a e => ?_⟩
      cases e
      exact ⟨o, I.kIn _ o hk, hd⟩
    · have z : ∃ o, s.heap.get? p = some o ∧ o.ExactDict := by
        rcases hk with ⟨kvs, hk⟩ | ⟨kvs, hk⟩
        · obtain ⟨_, _, _, _, o, _, _, e, ex, _⟩ := I.hok p _ hk
          exact ⟨o, e, ex⟩
        · obtain ⟨_, _, _, _, o, _, _, e, ex, _⟩ := I.hok p _ hk
          exact ⟨o, e, ex⟩
      obtain ⟨o, e, ex⟩ := z
      refine ⟨⟨o, e, ex.1⟩, fun a e2 => ?_⟩
      cases e2
      exact ⟨o, e, ex.2.1⟩
    · obtain ⟨o, _, _, _, e, ex, _⟩ := I.hok p _ hk
      refine ⟨⟨o, e, ex.1⟩, fun a e2 => ?_⟩
      cases e2
      exact ⟨o, e, ex.2.1⟩
  | _ => exact False.elim ty
def tBM (K : PySem.W.Frag) (T : String) (r : V → List V → Hp → VK → Prop) (to : TE) (t : TA) : TE := fun σ H Q => to σ H fun x H1 => tyV K T x H1 ∧ t σ H1 fun xs H2 => r x xs H2 Q
variable {o e : Expr} {es : List Expr} {to : TE} {t : TA} {name : Str} {apos cpos : Pos} {T id : String} {r : V → List V → Hp → VK → Prop}
theorem pe_bm (pa : PlainAttrs T) (slot : Slot T name id) (hty : typeOf (.builtin id) = pure (.type "method_descriptor")) (hm : MtR X id r) (ho : PE X o to) (ha : PA X (e :: es) t)
    (hbase : attributeBase o name X.env (eval o X.env) = eval o X.env := by rfl)
    (hfew : ((backTo cpos (starEach (e :: es) X.env)).all (fun x => !x.1) && (backToKw cpos (keywordEach [] X.env)).all (fun x => x.1.isSome)
      && decide ((e :: es).length + ([] : List Keyword).length + (if ([] : List Keyword).isEmpty then 0 else 1) < 30)) = true := by rfl)
    (hline : (apos.endLine == cpos.line) = true := by rfl) (hs : starEach (e :: es) X.env = (false, eval e X.env) :: starEach es X.env := by rfl) (hplain : (backTo cpos (starEach es X.env)).any (·.1) = false := by rfl) :
    PE X (.Call (.Attribute o name apos) (e :: es) [] cpos) (tBM X.K T r to t) := by
  intro pins s σ H Q I h
  refine wpAny_Call_method_late hbase hfew hline rfl (thn (ho pins s σ H _ I h) fun v s1 ⟨x, H1, I1, r1, ty, q1⟩ => ?_)
  obtain ⟨h1, h2⟩ := tyV_is I1 r1 ty
  refine ⟨T, id, pa, slot, hty, h1, h2, ?_⟩
  have hA := ha cpos pins s1 σ H1 _ I1 q1
  rw [hs] at hA ⊢
  refine Calls.callWith_builtin (by show (false || (backTo cpos (starEach es X.env)).any (·.1)) = false; rw [hplain] <;> rfl) (Calls.evalArgs_plain ?_)
  exact thn hA fun us s2 ⟨vs, H2, I2, r2, q2⟩ => hm pins s2 σ H2 x vs v us Q I2 r1 r2 q2
end
end L2
namespace L2
open PySem PySem.Spec PyProof.Rows
def MtM (X : Cx) (id : String) (r : V → List V → Hp → VK → Prop) : Prop :=
  ∀ (pins : List (Addr × Obj)) (s : Shared) (σ : St) (H : Hp) (x : V) (xs : List V) (v : Value) (us : List Value) (Q : VK), Inv X pins σ H s → RelV x v → Vals xs us → r x xs H Q →
    wpAny (model X.prog X.w) X.A (call (.builtin id) (v :: us)) (EP X pins σ Q) X.xe s
theorem Vals.one : ∀ {x : V} {us : List Value}, Vals [x] us → ∃ u, us = [u] ∧ RelV x u
  | _, _, .cons r .nil => ⟨_, rfl, r⟩
theorem Vals.two : ∀ {x y : V} {us : List Value}, Vals [x, y] us → ∃ u v, us = [u, v] ∧ RelV x u ∧ RelV y v
  | _, _, _, .cons r (.cons q .nil) => ⟨_, _, rfl, r, q⟩
theorem Vals.zero : ∀ {us : List Value}, Vals [] us → us = []
  | _, .nil => rfl
theorem Vals.rep {xs : List V} {us : List Value} (h : Vals xs us) : ∀ k : Nat, Vals (List.replicate k xs).flatten (List.replicate k us).flatten
  | 0 => .nil
  | k + 1 => by
    rw [List.replicate_succ, List.replicate_succ, List.flatten_cons, List.flatten_cons]
    exact Vals.append h (Vals.rep h k)
theorem foldl_rep (its : List Value) : ∀ (k : Nat) (acc : List Value),
    List.foldl (fun x1 x2 => x1 ++ x2) acc.toArray (List.replicate k its.toArray) = (acc ++ (List.replicate k its).flatten).toArray
  | 0, acc => by simp
  | k + 1, acc => by
    have e : acc.toArray ++ its.toArray = (acc ++ its).toArray := by simp
    have e2 : (acc ++ its) ++ (List.replicate k its).flatten = acc ++ (List.replicate (k + 1) its).flatten := by
      rw [List.replicate_succ, List.flatten_cons, List.append_assoc]
    rw [← e2, ← foldl_rep its k (acc ++ its), ← e, List.replicate_succ, List.foldl_cons]
section
variable {X : Cx} {pins : List (Addr × Obj)} {σ : St} {H : Hp} {s : Shared} {l b : Addr} {xs ys zs : List V}
theorem Inv.lset {its its' : List Value} {n : Nat} {f : Array Value → Array Value} {t' : Nat} (I : Inv X pins σ H s) (hH : H l = some (.lst xs))
    (e : s.heap.get? l = some { cls := .type "list", data := .seq its.toArray n }) (hf : f its.toArray = its'.toArray) (hv : Vals ys its') (hz : ys.length ≤ sizeLine) :
    Inv X pins σ (upd H l (.lst ys)) { s with heap := s.heap.update l (Obj.mapSeq f), toks := t' } := by
  have q := PySem.IsL.update e f
  rw [hf] at q
  refine I.write (x := l) (e := l) (by rw [hH]; exact trivial) (.inl rfl) (fun b' u hb hu => (Heap.get?_update_other s.heap (Obj.mapSeq f) (Ne.symm hb)).trans hu) ⟨_, q⟩ ?_
  exact ⟨hz, its', _, hv, q⟩
theorem Inv.lnew {its : List Value} {t' : Nat} (I : Inv X pins σ H s) (hv : Vals ys its) (hz : ys.length ≤ sizeLine) :
    Inv X pins σ (upd H s.heap.objs.size (.lst ys)) { s with heap := s.heap.push { cls := .type "list", data := .seq its.toArray }, toks := t' } :=
  I.laid (fun _ _ q => Heap.get?_push_of_some _ q) (Nat.le_refl _) ⟨hz, its, 0, hv, Heap.get?_push_size _ rfl⟩
theorem Inv.fresh (I : Inv X pins σ H s) : H s.heap.objs.size = none := I.hok.fresh (Nat.le_refl _)
theorem Inv.lstM (I : Inv X pins σ H s) (hH : H l = some (.lst xs)) : xs.length ≤ sizeLine ∧ ∃ (its : List Value) (n : Nat), Vals xs its ∧ xs.length = its.length ∧ s.heap.get? l = some { cls := .type "list", data := .seq its.toArray n } := by
  obtain ⟨z, its, n, r, e⟩ := I.hok l _ hH
  exact ⟨z, its, n, r, r.length, e⟩
theorem notLongL {n : Nat} (h : n ≤ sizeLine) : Builtin.List.listTooLong n = false := by
  unfold Builtin.List.listTooLong
  exact decide_eq_false (by omega)
end
section
variable {X : Cx}
def rAppend : V → List V → Hp → VK → Prop := fun x vs H Q => ∃ l xs y, x = .ref l ∧ vs = [y] ∧ H l = some (.lst xs) ∧ xs.length < sizeLine ∧ Q .non (upd H l (.lst (xs ++ [y])))
theorem mt_append : MtM X "list.append" rAppend := by
  intro pins s σ H x vs v us Q I rx rv h
  obtain ⟨l, xs, y, rfl, rfl, hH, hz, q⟩ := h
  cases rx
  obtain ⟨u, rfl, ru⟩ := rv.one
  obtain ⟨z, its, n, r, hl, e⟩ := I.lstM hH
  refine call_meets F.slot_list_append ⟨_, e, rfl⟩ F.entry_list_append (F.args_list_append_2 _ _) (PySem.list_append l its.toArray n u (by rw [List.size_toArray]; omega)) ⟨e, ?_⟩
  refine ⟨.non, _, I.lset (its' := its ++ [u]) hH e (by simp) (r.append (.cons ru .nil)) ?_, rfl, q⟩
  rw [List.length_append, List.length_singleton]
  omega
def rExtend : V → List V → Hp → VK → Prop := fun x vs H Q => ∃ l b xs zs, x = .ref l ∧ vs = [.ref b] ∧ H l = some (.lst xs) ∧ H b = some (.lst zs) ∧ xs.length + zs.length ≤ sizeLine ∧ Q .non (upd H l (.lst (xs ++ zs)))
theorem mt_extend : MtM X "list.extend" rExtend := by
  intro pins s σ H x vs v us Q I rx rv h
  obtain ⟨l, b, xs, zs, rfl, rfl, hH, hB, hz, q⟩ := h
  cases rx
  obtain ⟨u, rfl, ru⟩ := rv.one
  cases ru
  obtain ⟨z, its, n, r, hl, e⟩ := I.lstM hH
  obtain ⟨z2, its2, n2, r2, hl2, e2⟩ := I.lstM hB
  have hsz : its.toArray.size + its2.toArray.size ≤ sizeLine := by rw [List.size_toArray, List.size_toArray]; omega
  have hlong : ¬ (!its.toArray.isEmpty && Builtin.List.listTooLong (its.toArray.size + its2.toArray.size)) = true := by
    rw [notLongL hsz, Bool.and_false]
    exact Bool.false_ne_true
  refine call_meets F.slot_list_extend ⟨_, e, rfl⟩ F.entry_list_extend (F.args_list_extend_2 _ _)
    (AutoSeq1.list_extend_list_list_0 l its.toArray n b its2.toArray n2 hlong (by rw [List.size_toArray]; omega) (by omega)) ⟨e, e2, ?_⟩
  refine ⟨.non, _, I.lset (its' := its ++ its2) hH e (by simp) (r.append r2) ?_, rfl, q⟩
  rw [List.length_append]
  omega
def rCat : R2 := fun x y H Q => ∃ l b xs zs, x = .ref l ∧ y = .ref b ∧ H l = some (.lst xs) ∧ H b = some (.lst zs) ∧ xs.length + zs.length ≤ sizeLine ∧ ∀ p, H p = none → Q (.ref p) (upd H p (.lst (xs ++ zs)))
theorem op_cat : OpR X (binaryOp .Add) rCat := by
  intro pins s σ H x y v u Q I rx ry h
  obtain ⟨l, b, xs, zs, rfl, rfl, hH, hB, hz, q⟩ := h
  cases rx
  cases ry
  obtain ⟨z, its, n, r, hl, e⟩ := I.lstM hH
  obtain ⟨z2, its2, n2, r2, hl2, e2⟩ := I.lstM hB
  refine PySem.P.add_list e e2 ?_ (by rw [List.size_toArray, List.size_toArray]; omega)
  have ea : its.toArray ++ its2.toArray = (its ++ its2).toArray := by simp
  rw [ea]
  exact ⟨.ref _, _, I.lnew (t' := s.toks) (r.append r2) (by rw [List.length_append]; omega), rfl, q _ I.fresh⟩
def rRep : R2 := fun x y H Q => ∃ l k xs, x = .ref l ∧ y = .int k ∧ H l = some (.lst xs) ∧ -(2 ^ 63) ≤ k ∧ k < 2 ^ 63 ∧ xs.length * k.toNat ≤ sizeLine ∧
  ∀ p, H p = none → Q (.ref p) (upd H p (.lst (List.replicate k.toNat xs).flatten))
theorem len_rep {α : Type} (xs : List α) (k : Nat) : (List.replicate k xs).flatten.length = k * xs.length := by
  induction k with
  | zero => simp
  | succ k ih => rw [List.replicate_succ, List.flatten_cons, List.length_append, ih, Nat.succ_mul, Nat.add_comm]
theorem op_rep : OpR X (binaryOp .Mult) rRep := by
  intro pins s σ H x y v u Q I rx ry h
  obtain ⟨l, k, xs, rfl, rfl, hH, h1, h2, hz, q⟩ := h
  cases rx
  obtain ⟨t, rfl⟩ := ry
  obtain ⟨z, its, n, r, hl, e⟩ := I.lstM hH
  have hlen : its.toArray.size * k.toNat ≤ sizeLine := by rw [List.size_toArray, ← hl]; exact hz
  have hcap : ¬ its.toArray.size * k.toNat > (2 ^ 63 - 1) / 8 := by
    have : (sizeLine : Nat) ≤ (2 ^ 63 - 1) / 8 := by decide
    omega
  have hfit : ¬ (!Builtin.List.listFitsIndex k) = true := by
    rw [fitsIndex_both h1 h2]
    exact Bool.false_ne_true
  have hlong : ¬ Builtin.List.listTooLong (its.toArray.size * k.toNat) = true := by
    rw [notLongL hlen]
    exact Bool.false_ne_true
  have hnew : List.foldl (fun x1 x2 => x1 ++ x2) #[] (List.replicate (if its.toArray.isEmpty = true then 0 else k.toNat) its.toArray) = (List.replicate k.toNat its).flatten.toArray := by
    have f0 : ∀ m : Nat, List.foldl (fun x1 x2 => x1 ++ x2) #[] (List.replicate m its.toArray) = (List.replicate m its).flatten.toArray := fun m => by
      have := foldl_rep its m []
      rw [List.nil_append] at this
      exact this
    rw [f0]
    cases its with
    | nil => simp
    | cons a r' => rw [if_neg (by simp)]
  refine wpAny_binaryOp_repeat_ref (T := "list") (U := "int") (by decide) ⟨_, e, rfl⟩ (fun s' => typeIs_int s' k t) noFill_list_mul F.fills_int_mul F.slot_int_rmul repeat_list F.slot_int_index.lookup
    (call_meets F.slot_int_rmul (typeIs_int s k t) F.entry_int_rmul (F.args_int_rmul_2 _ _) (int___rmul___int_list k t l its.toArray n)
      ⟨e, rfl, ⟨_, e, rfl⟩, call_meets F.slot_list_mul ⟨_, e, rfl⟩ F.entry_list_mul (F.args_list_mul_2 _ _) (AutoListH.list___mul___list_int_3 l its.toArray n k t hfit hcap hlong) ⟨e, ?_⟩⟩)
  rw [hnew]
  exact ⟨.ref _, _, I.lnew (t' := s.toks) (r.rep k.toNat) (by rw [len_rep, Nat.mul_comm]; exact hz), rfl, q _ I.fresh⟩
end
section
variable {prog : Program} {w : World} {A : Around} {E : Value → Shared → Prop} {s : Shared}
set_option maxRecDepth 100000 in
end
end L2
namespace L2
open PySem PySem.Spec PyProof.Rows
theorem Vals.ints : ∀ {ns : List Int} {us : List Value}, Vals (ns.map V.int) us → IntsAre us ns
  | [], us, h => by
    rw [List.map_nil] at h
    cases h
    exact IntsAre.nil
  | n :: ns, us, h => by
    rw [List.map_cons] at h
    cases h with
    | cons r t =>
      obtain ⟨k, rfl⟩ := r
      exact IntsAre.cons n k (Vals.ints t)
theorem Vals.strs : ∀ {xs : List Str} {us : List Value}, Vals (xs.map V.str) us → StrsAre us xs
  | [], us, h => by
    rw [List.map_nil] at h
    cases h
    exact StrsAre.nil
  | x :: xs, us, h => by
    rw [List.map_cons] at h
    cases h with
    | cons r t =>
      obtain ⟨k, rfl⟩ := r
      exact StrsAre.cons x k (Vals.strs t)
theorem Vals.ref1 {a : Addr} {us : List Value} (r : Vals [V.ref a] us) : us = [Value.ref a] := by
  cases r with
  | cons r t =>
    cases t
    cases r
    rfl
section
variable {prog : Program} {w : World} {A : Around} {E : Value → Shared → Prop} {s : Shared} {l : Addr} {its : List Value} {ns : List Int} {Q : Value → Shared → Prop}
theorem sum_raw (hh : A.handled = none) (hl : s.heap.IsList l its.toArray) (hi : IntsAre its ns)
    (h : ∀ h' tk t', (∀ b o, s.heap.get? b = some o → h'.get? b = some o) → Q (.int ns.sum t') { s with heap := h', toks := tk }) : wpAny (model prog w) A (call (.builtin "sum") [.ref l]) Q E s := by
  obtain ⟨xs, e⟩ := hi.allInts.items
  have hn : numsOf (intItems xs).toList = ns := by rw [← e]; exact hi.numsOf
  rw [nums_intItems] at hn
  rw [e] at hl
  refine PySem.sum_intListG hh hl fun h' tk t' hk => ?_
  have := h h' tk t' hk
  rw [preSum_eq, List.take_of_length_le (by simp), hn]; exact this
theorem max_raw (hh : A.handled = none) (hl : s.heap.IsList l its.toArray) (hi : IntsAre its ns) (hne : 0 < ns.length)
    (h : ∀ h' tk M t', (∀ b o, s.heap.get? b = some o → h'.get? b = some o) → M ∈ ns → (∀ a, a ∈ ns → a ≤ M) → Q (.int M t') { s with heap := h', toks := tk }) : wpAny (model prog w) A (call (.builtin "max") [.ref l]) Q E s := by
  obtain ⟨xs, e⟩ := hi.allInts.items
  have hn : numsOf (intItems xs).toList = ns := by rw [← e]; exact hi.numsOf
  rw [nums_intItems] at hn
  subst hn
  rw [e] at hl
  have hsz : 0 < xs.size := by simpa using hne
  refine PySem.max_intList hh hl hsz fun v h' tk hv hk => ?_
  obtain ⟨t, rfl⟩ := intItems_at hv
  obtain ⟨h1, h2⟩ := argBest_gt (numAt xs) (xs.size - 1)
  refine h h' tk _ t hk ?_ fun a ha => ?_
  · rw [numAt_eq]; exact PySem.getD_mem (by rw [List.length_map, Array.length_toList]; omega)
  · obtain ⟨j, hj, rfl⟩ := mem_getD ha
    rw [List.length_map, Array.length_toList] at hj
    rw [← numAt_eq]; exact h2 j (by omega)
end
section
variable {X : Cx}
def rSum (K : PySem.W.Frag) : List V → Hp → VK → Prop := fun vs H Q => ∃ (a : Addr) (ns : List Int), vs = [V.ref a] ∧ SqL K H a (ns.map V.int) ∧ Q (.int ns.sum) H
def rMax (K : PySem.W.Frag) : List V → Hp → VK → Prop := fun vs H Q => ∃ (a : Addr) (ns : List Int), vs = [V.ref a] ∧ SqL K H a (ns.map V.int) ∧ 0 < ns.length ∧ ∀ m, m ∈ ns → (∀ y, y ∈ ns → y ≤ m) → Q (.int m) H
theorem cr_sum (hc : X.calm = true) : CallR X (.builtin "sum") (rSum X.K) := by
  intro pins s σ H vs us Q I r h
  obtain ⟨a, ns, rfl, hs, q⟩ := h
  obtain ⟨its, rv, hl, _⟩ := I.list hs
  rw [Vals.ref1 r]
  exact sum_raw (I.ok.hd hc) hl.isList rv.ints fun h' tk t' hk => ⟨.int _, H, I.kept hk, ⟨_, rfl⟩, q⟩
theorem cr_max (hc : X.calm = true) : CallR X (.builtin "max") (rMax X.K) := by
  intro pins s σ H vs us Q I r h
  obtain ⟨a, ns, rfl, hs, hne, q⟩ := h
  obtain ⟨its, rv, hl, _⟩ := I.list hs
  rw [Vals.ref1 r]
  exact max_raw (I.ok.hd hc) hl.isList rv.ints hne fun h' tk m t' hk h1 h2 => ⟨.int _, H, I.kept hk, ⟨_, rfl⟩, q m h1 h2⟩
end
section
variable {X : Cx}
def rIndex (K : PySem.W.Frag) : V → List V → Hp → VK → Prop := fun x xs H Q => ∃ (a : Addr) (ys : List V) (y : V) (j : Nat) (z : V), x = V.ref a ∧ xs = [y] ∧ SqL K H a ys ∧ flatV y = true ∧ ys.all flatV = true ∧ ys[j]? = some z ∧ eqV z y = true ∧
  (∀ (m : Nat) (z' : V), m < j → ys[m]? = some z' → eqV z' y = false) ∧ Q (.int (j : Nat)) H
theorem flat_at {ys : List V} (f : ys.all flatV = true) {j : Nat} {z : V} (h : ys[j]? = some z) : flatV z = true := List.all_eq_true.mp f z (List.mem_of_getElem? h)
theorem mt_index : MtR X "list.index" (rIndex X.K) := by
  intro pins s σ H x xs v us Q I rx rxs h
  obtain ⟨a, ys, y, j, z, rfl, rfl, hs, fy, fys, hz, hzj, hno, q⟩ := h
  cases rx
  cases rxs with
  | cons ry rt =>
    rename_i uy ut
    cases rt
    obtain ⟨its, rv, ⟨⟨cls, dd, data, sl⟩, n, ho, hc, hdn, hd⟩, hlen⟩ := I.list hs
    simp only at hc hd
    subst hc hd
    obtain ⟨u, hu, ru⟩ := rv.get hz
    obtain ⟨hjl, hje⟩ := List.getElem?_eq_some_iff.mp hu
    have hvl := rv.length
    have hj : j < its.toArray.size := by simpa using hjl
    have hsl := sizeLine_eq
    refine call_meets PySem.F.slot_list_index ⟨_, ho, rfl⟩ PySem.F.entry_list_index (PySem.F.args_list_index_2 _ _)
      (SeqAt.list_indexAt a its.toArray n dd sl uy (eqU y) j hj (by omega) ?_ ?_) ⟨ho, fun u' hu' => mem_eqAt ry fy rv fys u' (by simpa using hu'), ?_⟩
    · have e1 : its.toArray[j] = u := by simpa using hje
      rw [e1, eqU_of ru (flat_at fys hz)]
      exact hzj
    · intro m hm hmj
      have hml : m < its.length := by simpa using hm
      have hmy : m < ys.length := by omega
      have hy' : ys[m]? = some ys[m] := List.getElem?_eq_getElem hmy
      obtain ⟨u2, hu2, ru2⟩ := rv.get hy'
      obtain ⟨_, hme⟩ := List.getElem?_eq_some_iff.mp hu2
      have e1 : its.toArray[m] = u2 := by simpa using hme
      rw [e1, eqU_of ru2 (flat_at fys hy')]
      exact hno m _ hmj hy'
    · exact ⟨.int (j : Nat), H, I.tok _, ⟨_, rfl⟩, q⟩
end
mutual
inductive Dp (K : PySem.W.Frag) (H : Hp) : V → PyData → Prop
  | non : Dp K H .non .none
  | bl (b : Bool) : Dp K H (.bl b) (.bool b)
  | int (i : Int) : Dp K H (.int i) (.int i)
  | str (x : Str) : Dp K H (.str x) (.str x)
  | lst {a : Addr} {xs : List V} {ds : List PyData} : SqL K H a xs → DpAll K H xs ds → Dp K H (.ref a) (.list ds)
  | tup {a : Addr} {xs : List V} {ds : List PyData} : SqT K H a xs → DpAll K H xs ds → Dp K H (.ref a) (.tuple ds)
inductive DpAll (K : PySem.W.Frag) (H : Hp) : List V → List PyData → Prop
  | nil : DpAll K H [] []
  | cons {v : V} {vs : List V} {d : PyData} {ds : List PyData} : Dp K H v d → DpAll K H vs ds → DpAll K H (v :: vs) (d :: ds)
end
section
variable {X : Cx} {pins : List (Addr × Obj)} {σ : St} {H : Hp} {s : Shared}
mutual
theorem Dp.reads (I : Inv X pins σ H s) : ∀ (d : PyData) (v : V) (u : Value), Dp X.K H v d → RelV v u → ∃ as, Reads s.heap u d as
  | .none, _, _, h, r => by
    cases h
    cases r
    exact ⟨_, Reads.none⟩
  | .bool b, _, _, h, r => by
    cases h
    cases r
    exact ⟨_, Reads.bool b⟩
  | .int i, _, _, h, r => by
    cases h
    obtain ⟨t, rfl⟩ := r
    exact ⟨_, Reads.int i t⟩
  | .str x, _, _, h, r => by
    cases h
    obtain ⟨t, rfl⟩ := r
    exact ⟨_, Reads.str x t⟩
  | .list ds, _, _, h, r => by
    cases h with
    | lst hs ha =>
      cases r
      obtain ⟨its, rv, ⟨o, n, ho, hc, _, hd⟩, _⟩ := I.list hs
      obtain ⟨as, hr⟩ := Dp.readsAll I ds _ its ha rv
      exact ⟨_, Reads.list ho hc hd hr⟩
  | .tuple ds, _, _, h, r => by
    cases h with
    | tup hs ha =>
      cases r
      obtain ⟨its, rv, ⟨o, ho, hc, n, hd⟩, _⟩ := I.tuple hs
      obtain ⟨as, hr⟩ := Dp.readsAll I ds _ its ha rv
      exact ⟨_, Reads.tuple ho hc hd hr⟩
  | .dict _, _, _, h, _ => by cases h
theorem Dp.readsAll (I : Inv X pins σ H s) : ∀ (ds : List PyData) (vs : List V) (us : List Value), DpAll X.K H vs ds → Vals vs us → ∃ as, ReadsAll s.heap us ds as
  | [], _, _, h, r => by
    cases h
    cases r
    exact ⟨_, ReadsAll.nil⟩
  | d :: ds, _, _, h, r => by
    cases h with
    | cons h1 h2 =>
      cases r with
      | cons r1 r2 =>
        obtain ⟨as, q1⟩ := Dp.reads I d _ _ h1 r1
        obtain ⟨bs, q2⟩ := Dp.readsAll I ds _ _ h2 r2
        exact ⟨_, ReadsAll.cons q1 q2⟩
end
end
section
variable {X : Cx}
def rEqD (K : PySem.W.Frag) : R2 := fun x y H Q => ∃ d e, Dp K H x d ∧ Dp K H y e ∧ SeqAt.shaped d = true ∧ SeqAt.shaped e = true ∧ Q (.bl (PyData.eqv d e)) H
theorem op_eqD (hu : X.A.units + 64 < cLine) : OpR X (compareOp .Eq) (rEqD X.K) := by
  intro pins s σ H x y v u Q I rx ry h
  obtain ⟨d, e, hd, he, sd, se, q⟩ := h
  obtain ⟨as, r1⟩ := Dp.reads I d x v hd rx
  obtain ⟨bs, r2⟩ := Dp.reads I e y u he ry
  exact SeqAt.compareEq_shaped r1 r2 sd se hu ⟨.bl _, H, I, rfl, q⟩
end
end L2
namespace L2
open PySem PySem.Spec PyProof.Rows
abbrev CellAt (h : Heap) (c : Addr) (v : Option Value) : Prop := h.IsCell c v
def relS (scope sc : Scope) : Scope :=
  { scope with names := scope.names.map fun (n, k) => if (k == .free && sc.kind == .function && sc.names.lookup n == some .cell) then (n, .cell) else (n, k) }
def cloFrom (cells : List (Str × Addr)) : List (Str × NameKind) → List (Str × Addr) → List (Str × Addr)
  | [], acc => acc
  | (n, k) :: r, acc => if k == .free then cloFrom cells r ((n, (cells.lookup n).getD 0) :: acc) else cloFrom cells r acc
theorem closure_loop (env : Env) (f : Str × NameKind → List (Str × Addr) → Sem (ForInStep (List (Str × Addr))))
    (hf : ∀ n k c, f (n, k) c = if k == .free then (do let a ← cellOf env n; pure (.yield ((n, a) :: c))) else pure (.yield c)) :
    ∀ (names : List (Str × NameKind)) (acc : List (Str × Addr)), (∀ y ∈ names, y.2 = .free → ∃ c, env.cells.lookup y.1 = some c) → forIn names acc f = pure (cloFrom env.cells names acc)
  | [], acc, _ => by rw [List.forIn_nil]; rfl
  | (n, k) :: r, acc, h => by
    rw [List.forIn_cons, hf]
    have ih := fun acc => closure_loop env f hf r acc fun y hy => h y (List.mem_cons_of_mem _ hy)
    unfold cloFrom
    by_cases hk : (k == NameKind.free) = true
    · rw [if_pos hk, if_pos hk]
      obtain ⟨c, hc⟩ := h (n, k) List.mem_cons_self (by simpa using hk)
      have e : cellOf env n = pure c := by unfold cellOf; rw [hc]
      rw [e]
      have e2 : (env.cells.lookup n).getD 0 = c := by rw [hc]; rfl
      rw [e2]
      exact ih _
    · rw [if_neg hk, if_neg hk]
      exact ih _
theorem closure_ok {scope : Scope} {env : Env} (h : ∀ y ∈ scope.names, y.2 = .free → ∃ c, env.cells.lookup y.1 = some c) : closureFor scope env = pure (cloFrom env.cells scope.names []) := by
  simp only [closureFor]
  rw [closure_loop env _ (fun n k c => rfl) scope.names [] h]
  rfl
theorem mem_lookup {α : Type} : ∀ {l : List (Str × α)} {n : Str} {c : α}, (n, c) ∈ l → ∃ c', l.lookup n = some c'
  | (k, v) :: r, n, c, h => by
    rw [List.lookup_cons]
    cases hb : n == k with
    | true => exact ⟨_, rfl⟩
    | false =>
      rcases List.mem_cons.mp h with e | h
      · cases e; simp at hb
      · exact mem_lookup h
theorem cloFrom_mem {cells : List (Str × Addr)} : ∀ {names : List (Str × NameKind)} {acc : List (Str × Addr)} {n : Str} {c : Addr}, (n, c) ∈ cloFrom cells names acc → (n, c) ∈ acc ∨ ((n, .free) ∈ names ∧ c = (cells.lookup n).getD 0)
  | [], _, _, _, h => .inl h
  | (m, k) :: r, acc, n, c, h => by
    unfold cloFrom at h
    split at h
    · rename_i hk
      have hk : k = .free := by simpa using hk
      rcases cloFrom_mem h with h | ⟨h1, h2⟩
      · rcases List.mem_cons.mp h with e | h
        · cases e; exact .inr ⟨hk ▸ List.mem_cons_self, rfl⟩
        · exact .inl h
      · exact .inr ⟨List.mem_cons_of_mem _ h1, h2⟩
    · rcases cloFrom_mem h with h | ⟨h1, h2⟩
      · exact .inl h
      · exact .inr ⟨List.mem_cons_of_mem _ h1, h2⟩
theorem cloFrom_acc {cells : List (Str × Addr)} : ∀ {names : List (Str × NameKind)} {acc : List (Str × Addr)} {p : Str × Addr}, p ∈ acc → p ∈ cloFrom cells names acc
  | [], _, _, h => h
  | (m, k) :: r, acc, p, h => by
    unfold cloFrom
    split
    · exact cloFrom_acc (List.mem_cons_of_mem _ h)
    · exact cloFrom_acc h
theorem cloFrom_has {cells : List (Str × Addr)} : ∀ {names : List (Str × NameKind)} {acc : List (Str × Addr)} {n : Str}, (n, .free) ∈ names → (n, (cells.lookup n).getD 0) ∈ cloFrom cells names acc
  | (m, k) :: r, acc, n, h => by
    unfold cloFrom
    rcases List.mem_cons.mp h with e | h
    · cases e
      exact cloFrom_acc List.mem_cons_self
    · split
      · exact cloFrom_has h
      · exact cloFrom_has h
theorem cells_mem : ∀ {names : List (Str × NameKind)} {h : Heap} {acc : List (Str × Addr)} {x : Str} {c : Addr}, (x, c) ∈ cellsFrom h.objs.size names acc →
    (x, c) ∈ acc ∨ ((x, .cell) ∈ names ∧ h.objs.size ≤ c ∧ CellAt (pushCells h names) c none)
  | [], _, _, _, _, h => .inl h
  | (n, k) :: r, h, acc, x, c, hm => by
    unfold cellsFrom at hm
    unfold pushCells
    split at hm
    · rename_i hk
      rw [if_pos hk]
      have hk : k = .cell := by simpa using hk
      rw [← Heap.size_push h { cls := .type "cell", data := .cell none }] at hm
      rcases cells_mem hm with hm | ⟨h1, h2, h3⟩
      · rcases List.mem_cons.mp hm with e | hm
        · cases e
          exact .inr ⟨hk ▸ List.mem_cons_self, Nat.le_refl _, _, pushCells_keeps r _ _ _ (Heap.get?_push_size _ rfl), rfl⟩
        · exact .inl hm
      · rw [Heap.size_push] at h2
        exact .inr ⟨List.mem_cons_of_mem _ h1, Nat.le_of_succ_le h2, h3⟩
    · rename_i hk
      rw [if_neg hk]
      rcases cells_mem hm with hm | ⟨h1, h2, h3⟩
      · exact .inl hm
      · exact .inr ⟨List.mem_cons_of_mem _ h1, h2, h3⟩
theorem cells_acc : ∀ {names : List (Str × NameKind)} {n : Nat} {acc : List (Str × Addr)} {p : Str × Addr}, p ∈ acc → p ∈ cellsFrom n names acc
  | [], _, _, _, h => h
  | (m, k) :: r, n, acc, p, h => by
    unfold cellsFrom
    split
    · exact cells_acc (List.mem_cons_of_mem _ h)
    · exact cells_acc h
theorem cells_has : ∀ {names : List (Str × NameKind)} {n : Nat} {acc : List (Str × Addr)} {x : Str}, (x, .cell) ∈ names → ∃ c, (x, c) ∈ cellsFrom n names acc
  | (m, k) :: r, n, acc, x, h => by
    unfold cellsFrom
    rcases List.mem_cons.mp h with e | h
    · cases e
      exact ⟨n, cells_acc List.mem_cons_self⟩
    · split
      · exact cells_has h
      · exact cells_has h
theorem cells_inj : ∀ {names : List (Str × NameKind)} {h : Heap} {acc : List (Str × Addr)} {x y : Str} {c : Addr}, (∀ p ∈ acc, p.2 < h.objs.size) → (∀ x y c, (x, c) ∈ acc → (y, c) ∈ acc → x = y) →
    (x, c) ∈ cellsFrom h.objs.size names acc → (y, c) ∈ cellsFrom h.objs.size names acc → x = y
  | [], _, _, _, _, _, _, hi, h1, h2 => hi _ _ _ h1 h2
  | (n, k) :: r, h, acc, x, y, c, hl, hi, h1, h2 => by
    unfold cellsFrom at h1 h2
    split at h1
    · rename_i hk
      rw [if_pos hk] at h2
      rw [← Heap.size_push h { cls := .type "cell", data := .cell none }] at h1 h2
      refine cells_inj (h := h.push _) (fun p hp => ?_) (fun x y c a b => ?_) h1 h2
      · rw [Heap.size_push]
        rcases List.mem_cons.mp hp with rfl | hp
        · exact Nat.lt_succ_self _
        · exact Nat.lt_succ_of_lt (hl p hp)
      · rcases List.mem_cons.mp a with e | a <;> rcases List.mem_cons.mp b with e' | b
        · cases e; cases e'; rfl
        · cases e; exact absurd (hl _ b) (Nat.lt_irrefl _)
        · cases e'; exact absurd (hl _ a) (Nat.lt_irrefl _)
        · exact hi _ _ _ a b
    · rename_i hk
      rw [if_neg hk] at h2
      exact cells_inj hl hi h1 h2
theorem newEnv_comp {M : Model} {A : Around} {E : Value → Shared → Prop} {s : Shared} {scope : Scope} {globals : Addr} {closure : List (Str × Addr)} {qual : Str} {func : Option Addr} {code : Value} {around : Env} {builtins : Addr} {Q : Env → Shared → Prop}
    (h : Q (newEnv scope s.heap.objs.size globals (cellsFrom (s.heap.objs.size + 1) scope.names closure) qual func code (some around) builtins)
      { s with heap := pushCells (s.heap.push { cls := .type "dict", data := .dict #[] }) scope.names }) :
    wpAny M A (newFunctionEnv scope globals closure [] qual func code (some around) builtins) Q E s := by
  simp only [newFunctionEnv, Option.isSome_some, if_true]
  refine wpAny_bind (wpAny_alloc ?_)
  refine wpAny_bind (wpAny_layCells _ (fun n k c => rfl) scope.names closure _ _ ?_)
  rw [show ({ s with heap := s.heap.push { cls := .type "dict", data := .dict #[] } } : Shared).heap.objs.size = s.heap.objs.size + 1 from Heap.size_push ..]
  rw [List.forIn_nil]
  exact wpAny_bind (wpAny_pure (wpAny_pure h))
theorem lookup_relS {sc : Scope} : ∀ {names : List (Str × NameKind)} {x : Str} {k : NameKind},
    (names.map fun (n, k) => if (k == NameKind.free && sc.kind == .function && sc.names.lookup n == some .cell) then (n, NameKind.cell) else (n, k)).lookup x = some k →
    ∃ k', names.lookup x = some k' ∧ (k = k' ∨ (k' = .free ∧ k = .cell))
  | [], _, _, h => by simp at h
  | (n, k₀) :: r, x, k, h => by
    have ih := @lookup_relS sc r x k
    have h' : List.lookup x ((if (k₀ == NameKind.free && sc.kind == .function && sc.names.lookup n == some .cell) = true then (n, NameKind.cell) else (n, k₀)) :: (r.map _)) = some k := h
    cases hx : x == n with
    | true =>
      simp only [List.lookup_cons, hx]
      by_cases hc : (k₀ == NameKind.free && sc.kind == .function && sc.names.lookup n == some .cell) = true
      · rw [if_pos hc] at h'
        simp only [List.lookup_cons, hx] at h'
        cases h'
        simp only [Bool.and_eq_true, beq_iff_eq] at hc
        exact ⟨k₀, rfl, .inr ⟨hc.1.1, rfl⟩⟩
      · rw [if_neg hc] at h'
        simp only [List.lookup_cons, hx] at h'
        cases h'
        exact ⟨_, rfl, .inl rfl⟩
    | false =>
      simp only [List.lookup_cons, hx]
      by_cases hc : (k₀ == NameKind.free && sc.kind == .function && sc.names.lookup n == some .cell) = true
      · rw [if_pos hc] at h'
        simp only [List.lookup_cons, hx] at h'
        exact ih h'
      · rw [if_neg hc] at h'
        simp only [List.lookup_cons, hx] at h'
        exact ih h'
structure BlkOk (N : List Str) (sc scope : Scope) (own : List (Str × Nat)) : Prop where
  kind : scope.kind = .function
  uniq : ∀ y ∈ scope.names, scope.names.lookup y.1 = some y.2
  ix : ∀ p ∈ own, N[p.2]? = some p.1
  free : ∀ y ∈ scope.names, y.2 = .free → sc.names.lookup y.1 = some .cell ∨ sc.names.lookup y.1 = some .free
  own : ∀ y ∈ scope.names, y.2 = .local ∨ y.2 = .cell → y.1 ∈ own.map (·.1) ∨ y.1 ∉ N
def wipe (σ : St) : List Nat → St
  | [] => σ
  | v :: vs => (wipe σ vs).set v none
theorem wipe_length (σ : St) : ∀ vs : List Nat, (wipe σ vs).length = σ.length
  | [] => rfl
  | v :: vs => by unfold wipe; rw [List.length_set, wipe_length σ vs]
theorem wipe_some {σ : St} {i : Nat} {x : V} : ∀ {vs : List Nat}, (wipe σ vs)[i]? = some (some x) → σ[i]? = some (some x) ∧ i ∉ vs
  | [], h => ⟨h, by simp⟩
  | v :: vs, h => by
    unfold wipe at h
    by_cases hi : v = i
    · subst hi
      by_cases hv : v < (wipe σ vs).length
      · rw [List.getElem?_set_self hv] at h; cases h
      · rw [List.getElem?_eq_none (by simpa using hv)] at h; cases h
    · rw [List.getElem?_set_ne hi] at h
      obtain ⟨h1, h2⟩ := wipe_some h
      exact ⟨h1, by simp only [List.mem_cons, not_or]; exact ⟨fun e => hi e.symm, h2⟩⟩
abbrev Cx.blk (X : Cx) (s : Shared) (H : Hp) (scope : Scope) (cenv : Env) (fp : List Addr) : Cx := { X with s_0 := s, H_0 := H, env := cenv, outer := X.stack, ex := fp, fn := fun x => scope.names.lookup x == some .cell, pn := [], xe := fun _ _ => False }
section
variable {X : Cx} {pins : List (Addr × Obj)} {σ : St} {H : Hp} {s : Shared}
theorem block_start {scope : Scope} {own : List (Str × Nat)} {fp : List Addr} (I : Inv X pins σ H s) (ok : BlkOk X.N X.env.scope scope own) (hN : X.N.Nodup) (hfp : ∀ b ∈ fp, FpOk X pins H b ∧ b < s.heap.objs.size) :
    Inv (X.blk s H scope (compEnvC scope (cellsFrom (s.heap.objs.size + 1) scope.names (cloFrom X.env.cells scope.names [])) s.heap.objs.size X.env) fp) [] (wipe σ (own.map (·.2))) H { s with heap := pushCells (s.heap.push { cls := .type "dict", data := .dict #[] }) scope.names } := by
  have hfree : ∀ y ∈ scope.names, y.2 = .free → ∃ c, X.env.cells.lookup y.1 = some c := fun y hy e => by
    rcases ok.free y hy e with k | k
    · exact I.ok.has _ (.inl k)
    · exact I.ok.has _ (.inr k)
  generalize hcenv : compEnvC scope (cellsFrom (s.heap.objs.size + 1) scope.names (cloFrom X.env.cells scope.names [])) s.heap.objs.size X.env = cenv
  have kp : ∀ b o, s.heap.get? b = some o → (pushCells (s.heap.push { cls := .type "dict", data := .dict #[] }) scope.names).get? b = some o := fun b o e => pushCells_keeps _ _ _ _ (Heap.get?_push_of_some _ e)
  have hL : cenv.locals = s.heap.objs.size := by rw [← hcenv]; rfl
  have hcl : cenv.cells = cellsFrom (s.heap.objs.size + 1) scope.names (cloFrom X.env.cells scope.names []) := by rw [← hcenv]; rfl
  have hsc : cenv.scope = relS scope X.env.scope := by rw [← hcenv]; rfl
  rw [← Heap.size_push s.heap { cls := .type "dict", data := .dict #[] }] at hcl
  have cm : ∀ {y c}, (y, c) ∈ cloFrom X.env.cells scope.names [] → X.env.cells.lookup y = some c ∧ c < s.heap.objs.size := fun {y c} hm => by
    rcases cloFrom_mem hm with hm | ⟨h1, rfl⟩
    · cases hm
    · obtain ⟨c, hc⟩ := hfree _ h1 rfl
      rw [hc]
      obtain ⟨w, z⟩ := I.cell _ _ hc
      exact ⟨rfl, z.lt⟩
  have mem : ∀ {y c}, cenv.cells.lookup y = some c → (X.env.cells.lookup y = some c ∧ c < s.heap.objs.size) ∨ (s.heap.objs.size + 1 ≤ c ∧ CellAt (pushCells (s.heap.push { cls := .type "dict", data := .dict #[] }) scope.names) c none) := fun {y c} e => by
    rw [hcl] at e
    rcases cells_mem (PySem.mem_of_lookup e) with hm | ⟨_, h2, h3⟩
    · exact .inl (cm hm)
    · rw [Heap.size_push] at h2; exact .inr ⟨h2, h3⟩
  have look : ∀ {y}, scope.names.lookup y = some .free → ∃ c, cenv.cells.lookup y = some c ∧ X.env.cells.lookup y = some c := fun {y} hl => by
    have hy : (y, NameKind.free) ∈ scope.names := PySem.mem_of_lookup hl
    obtain ⟨c', e'⟩ := mem_lookup (cells_acc (names := scope.names) (n := (s.heap.push { cls := .type "dict", data := .dict #[] }).objs.size) (cloFrom_has (cells := X.env.cells) (acc := []) hy))
    rw [← hcl] at e'
    refine ⟨c', e', ?_⟩
    rw [hcl] at e'
    rcases cells_mem (PySem.mem_of_lookup e') with hm | ⟨h1, _, _⟩
    · exact (cm hm).1
    · have := ok.uniq _ h1
      rw [hl] at this; cases this
  have okB : (X.blk s H scope cenv fp).Ok := by
    refine ⟨I.ok.mod, by show cenv.scope.kind = _; rw [hsc]; exact ok.kind, by show cenv.globals = _; rw [← hcenv]; exact I.ok.glob, by show cenv.builtins = _; rw [← hcenv]; exact I.ok.blt, by show s.heap.objs.size ≤ cenv.locals; rw [hL]; exact Nat.le_refl _,
      fun y z c e1 e2 => ?_, fun y hy => ?_, fun y c z e => ?_, I.ok.hd, I.ok.frames, .inl rfl, fun b hb => ⟨?_, fun y c e z => ?_⟩, I.bs, Nat.le_trans I.ok.bsz I.sz, fun b o e hb => ?_, fun b hb z => ?_, I.stack, I.stkFree⟩
    · have e1 : cenv.cells.lookup y = some c := e1
      have e2 : cenv.cells.lookup z = some c := e2
      rw [hcl] at e1 e2
      refine cells_inj (fun p hp => ?_) (fun y z c a b => I.ok.inj y z c (cm a).1 (cm b).1) (PySem.mem_of_lookup e1) (PySem.mem_of_lookup e2)
      rw [Heap.size_push]
      exact Nat.lt_succ_of_lt (cm (y := p.1) (c := p.2) hp).2
    · show ∃ c, cenv.cells.lookup y = some c
      have key : ∀ k, cenv.kindOf y = some k → (k = .cell ∨ k = .free) → ∃ c, cenv.cells.lookup y = some c := fun k hk hk' => by
        unfold Env.kindOf at hk
        rw [hsc] at hk
        obtain ⟨k', e, r⟩ := lookup_relS hk
        have : k' = .cell ∨ k' = .free := by
          rcases r with rfl | ⟨rfl, _⟩
          · exact hk'
          · exact .inr rfl
        rcases this with rfl | rfl
        · obtain ⟨c, hm⟩ := cells_has (n := (s.heap.push { cls := .type "dict", data := .dict #[] }).objs.size) (acc := cloFrom X.env.cells scope.names []) (PySem.mem_of_lookup e)
          obtain ⟨c', e'⟩ := mem_lookup hm
          exact ⟨c', by rw [hcl]; exact e'⟩
        · obtain ⟨c, h1, _⟩ := look e
          exact ⟨c, h1⟩
      rcases hy with hy | hy
      · exact key _ hy (.inl rfl)
      · exact key _ hy (.inr rfl)
    · have z : (scope.names.lookup y == some NameKind.cell) = true := z
      have z : scope.names.lookup y = some .cell := by simpa using z
      have e : cenv.cells.lookup y = some c := e
      rw [hcl] at e
      rcases cells_mem (PySem.mem_of_lookup e) with hm | ⟨_, h2, _⟩
      · rcases cloFrom_mem hm with hm | ⟨h1, _⟩
        · cases hm
        · have q := ok.uniq _ h1
          rw [z] at q; cases q
      · rw [Heap.size_push] at h2
        exact Nat.le_of_succ_le h2
    · show b ≠ cenv.locals
      rw [hL]; exact Nat.ne_of_lt (hfp b hb).2
    · have e : cenv.cells.lookup y = some c := e
      rcases mem e with ⟨h1, _⟩ | ⟨h1, _⟩
      · exact (hfp b hb).1.2.2.2.2.1 y c h1 z
      · have h2 : s.heap.objs.size + 1 ≤ b := by rw [← z]; exact h1
        exact absurd (Nat.lt_of_lt_of_le (hfp b hb).2 (Nat.le_of_succ_le h2)) (Nat.lt_irrefl _)
    · rcases (hfp b hb).1.2.2.2.1 with z | z
      · exact I.ok.noex b o e z
      · exact absurd (Nat.lt_of_lt_of_le (Heap.lt_size e) (Nat.le_trans I.ok.bsz z)) (Nat.lt_irrefl _)
    · rcases List.mem_cons.mp (I.stkSub b z) with z | z
      · exact (hfp b hb).1.2.1 z
      · exact (hfp b hb).1.2.2.1 z
  refine ⟨okB, rfl, I.bare, Un.kept kp, ⟨fun _ => none, ?_, fun i y av e1 e2 e3 => ?_⟩, fun y c e => ?_, ?_, fun y c e => ?_, fun p hp => ?_, I.hok.kept kp, by rw [wipe_length]; exact I.len⟩
  · show Heap.Ns _ cenv.locals _
    rw [hL]
    exact Heap.Ns.keeps (Heap.Ns.new ..) fun b o e => pushCells_keeps _ _ _ _ e
  · obtain ⟨e2, hne⟩ := wipe_some e2
    have hfr : scope.names.lookup y = some .free ∧ (cenv.kindOf y = some .cell ∨ cenv.kindOf y = some .free) := by
      have key : ∀ k, cenv.scope.names.lookup y = some k → k = .local ∨ k = .cell ∨ k = .free → scope.names.lookup y = some .free ∧ (cenv.kindOf y = some .cell ∨ cenv.kindOf y = some .free) := fun k hk hk' => by
        have hk0 := hk
        rw [hsc] at hk
        obtain ⟨k', e, r⟩ := lookup_relS hk
        have no : ¬ (k' = .local ∨ k' = .cell) := fun hh => by
          rcases ok.own _ (PySem.mem_of_lookup e) hh with e' | e'
          · obtain ⟨p, hp, hpy⟩ := List.mem_map.mp e'
            have e3 := ok.ix p hp
            have : p.1 = y := hpy
            rw [this] at e3
            exact hne (List.mem_map.mpr ⟨p, hp, nodup_ix hN e3 e1⟩)
          · exact e' (List.mem_of_getElem? e1)
        rcases r with rfl | ⟨rfl, rfl⟩
        · rcases hk' with rfl | rfl | rfl
          · exact absurd (.inl rfl) no
          · exact absurd (.inr rfl) no
          · exact ⟨e, .inr hk0⟩
        · exact ⟨e, .inl hk0⟩
      have e3 : Vis cenv.scope y := e3
      rcases e3 with e3 | e3 | e3
      · exact key _ e3 (.inl rfl)
      · exact key _ e3 (.inr (.inl rfl))
      · exact key _ e3 (.inr (.inr rfl))
    obtain ⟨m, hn, hl⟩ := I.loc
    have hvis : Vis X.env.scope y := (ok.free _ (PySem.mem_of_lookup hfr.1) rfl).elim (fun k => .inr (.inl k)) (fun k => .inr (.inr k))
    obtain ⟨w, r, q⟩ := hl i y av e1 e2 hvis
    refine ⟨w, r, .inr ⟨hfr.2, ?_⟩⟩
    obtain ⟨c, h1, h2⟩ := look hfr.1
    rcases q with ⟨k, _⟩ | ⟨_, c', e', z⟩
    · have k : X.env.scope.names.lookup y = some .local := k
      rcases ok.free _ (PySem.mem_of_lookup hfr.1) rfl with k' | k' <;> rw [show X.env.scope.names.lookup y = _ from k'] at k <;> cases k
    · rw [h2] at e'; cases e'
      exact ⟨c, h1, z.keeps kp⟩
  · have e : cenv.cells.lookup y = some c := e
    rcases mem e with ⟨h1, _⟩ | ⟨_, z⟩
    · obtain ⟨w, z⟩ := I.cell y c h1
      exact ⟨w, z.keeps kp⟩
    · exact ⟨_, z⟩
  · show H cenv.locals = none
    rw [hL]; exact I.hok.fresh (Nat.le_refl _)
  · have e : cenv.cells.lookup y = some c := e
    rcases mem e with ⟨h1, _⟩ | ⟨h1, _⟩
    · exact I.freeC y c h1
    · exact I.hok.fresh (Nat.le_of_succ_le h1)
  · exact absurd (show p ∈ ([] : List (Addr × Obj)) ++ [] from hp) (by simp)
theorem app_ok {E : Value → Shared → Prop} {D : Addr} {xs : List V} {y : V} {v : Value} {Q : Value → Shared → Prop} (I : Inv X pins σ H s) (hD : H D = some (.lst xs)) (hz : xs.length < sizeLine) (r : RelV y v)
    (h : ∀ s', Inv X pins σ (upd H D (.lst (xs ++ [y]))) s' → Q .none s') : wpAny (model X.prog X.w) X.A (call (.builtin "list.append") [.ref D, v]) Q E s := by
  obtain ⟨hz', its, n, ri, e⟩ := I.hok D _ hD
  have hl := ri.length
  refine append_at (hsz := by rw [List.size_toArray]; omega) e fun h' sb ho' => ?_
  refine h { s with heap := h' } (I.write (t' := s.toks) (by rw [hD]; trivial) (.inl rfl) (fun b u hb q => (sb.2 b hb).trans q) ⟨_, ho'⟩ ⟨by rw [List.length_append]; exact hz, its ++ [v], n + 1, ri.append (.cons r .nil), ?_⟩)
  rw [ho']
  simp
def PTs (X : Cx) (ifs : List Expr) (t : TT) : Prop :=
  ∀ (pins : List (Addr × Obj)) (s : Shared) (σ : St) (H : Hp) (Q : Bool → Hp → Prop), Inv X pins σ H s → t σ H Q →
    wpAny (model X.prog X.w) X.A (forIn ifs true fun c r => if r = true then do let ok ← isTrue c X.env (eval c X.env); pure (ForInStep.yield ok) else pure (ForInStep.yield r)) (TP X pins σ Q) X.xe s
def tYes : TT := fun _ H Q => Q true H
theorem pts_nil : PTs X [] tYes := fun _ _ _ H _ I h => wpAny_tests_nil ⟨H, I, h⟩
theorem pts_one {c : Expr} {t : TT} (h : PT X c t) : PTs X [c] t := fun pins s σ H Q I hw => wpAny_tests_one (h pins s σ H Q I hw)
end
theorem thnF {α : Type} {t : Sem α} {Q Q' : α → Shared → Prop} {M : Model} {A : Around} {E : Value → Shared → Prop} {s : Shared} (h : wpAny M A t Q (fun _ _ => False) s) (hQ : ∀ a s, Q a s → Q' a s) : wpAny M A t Q' E s := wpAny_mono h hQ fun _ _ z => False.elim z
theorem compLoop_any {prog : Program} {w : World} {A : Around} {R : Result → Shared → Prop} {s : Shared} {elt target iter : Expr} {ifs : List Expr} {scope : Scope} {pos : Pos} {it acc : Value} {env : Env} (I : Nat → Shared → Prop)
    (turn : ∀ n s, I n s → wpAny (model prog w) A (pyNext it) (fun r s₁ => match r with
      | none => R (.ok .next) s₁
      | some v => wpAny (model prog w) A (letOwnedTupleGo target it v) (fun _ s₁' => wpAny (model prog w) A (assign target env v) (fun _ s₂ =>
          wpAny (model prog w) A (forIn ifs true fun c r => if r = true then do let ok ← isTrue c env (eval c env); pure (ForInStep.yield ok) else pure (ForInStep.yield r)) (fun ok s₃ =>
            if ok = true then wpAny (model prog w) A (eval elt env) (fun x s₄ =>
              wpAny (model prog w) A (call (.builtin "list.append") [acc, x]) (fun _ s₅ => ∃ m, m < n ∧ I m s₅) (notedBy (model prog w) A env fun e s' => R (.error e) s') s₄) (notedBy (model prog w) A env fun e s' => R (.error e) s') s₃
            else ∃ m, m < n ∧ I m s₃) (notedBy (model prog w) A env fun e s' => R (.error e) s') s₂) (notedBy (model prog w) A env fun e s' => R (.error e) s') s₁') (notedBy (model prog w) A env fun e s' => R (.error e) s') s₁) (notedBy (model prog w) A env fun e s' => R (.error e) s') s)
    (n : Nat) (h : I n s) :
    codeAny (model prog w) A (.compLoop (.ListComp elt [⟨target, iter, ifs, 0⟩] scope pos) 0 it acc env) R s := by
  refine codeAny_loop rfl I (fun n s hI => ?_) n h
  show wpAny _ A ((compTurn (.ListComp elt [⟨target, iter, ifs, 0⟩] scope pos) 0 it acc env).onRaise (fun x => do noteFrame x env; theTreesLotGoes x)) _ _ s
  refine wpAny_noted ?_
  rw [compTurn_list]
  refine wpAny_bind (wpAny_standAt (wpAny_bind (wpAny_mono (turn n s hI) (fun r s₁ h₁ => ?_) fun _ _ h' => h')))
  cases r with
  | none => exact wpAny_pure h₁
  | some v =>
    refine wpAny_bind (wpAny_mono h₁ (fun _ s₁' h₁' => ?_) fun _ _ h' => h')
    refine wpAny_bind (wpAny_mono h₁' (fun _ s₂ h₂ => wpAny_bind (wpAny_mono h₂ (fun ok s₃ h₃ => ?_) fun _ _ h' => h')) fun _ _ h' => h')
    cases ok with
    | false => exact wpAny_pure ⟨rfl, h₃⟩
    | true =>
      exact wpAny_bind (wpAny_bind (wpAny_mono h₃ (fun x s₄ h₄ => wpAny_bind (wpAny_mono h₄ (fun _ s₅ h₅ => wpAny_pure (wpAny_pure ⟨rfl, h₅⟩)) fun _ _ h' => h')) fun _ _ h' => h'))
section
variable {X : Cx}
def tLc (wi : TI) (g : TG) (tt : TT) (te : TE) (vs : List Nat) : TE := fun σ H Q => wi σ H fun J H1 => ∀ D, H1 D = none → ∃ W : Nat → Nat → Hp → Prop, (∃ m, W 0 m (upd H1 D (.lst []))) ∧ ∀ i m H, W i m H →
  (J.stop i H ∧ Q (.ref D) H) ∨ (J.go i H ∧ ∃ Nx : Hp → Prop, (∀ H', Nx H' → ∃ m', m' < m ∧ W (i + 1) m' H') ∧ ∀ x H', J.yld i H x H' → g x (wipe σ vs) H' fun σ2 H2 => wipe σ2 vs = wipe σ vs ∧ tt σ2 H2 fun b H3 =>
    if b = true then te σ2 H3 fun y H4 => ∃ acc, H4 D = some (.lst acc) ∧ acc.length < sizeLine ∧ Nx (upd H4 D (.lst (acc ++ [y]))) else Nx H3)
theorem lc_core {pins : List (Addr × Obj)} {s : Shared} {σ : St} {H : Hp} {Q : VK} {elt tg iter : Expr} {ifs : List Expr} {scope : Scope} {own : List (Str × Nat)} {pos pos' : Pos} {wi : TI} {g : TG} {tt : TT} {te : TE} {use : Option (Value → Sem Unit)} {Qf : Value → Shared → Prop}
    (hc : X.calm = true) (hN : X.N.Nodup) (I : Inv X pins σ H s) (hi : PI X tg iter wi) (ok : BlkOk X.N X.env.scope scope own)
    (hg : ∀ (s : Shared) (H : Hp) (C : Addr) (cl : List (Str × Addr)) (fp : List Addr), PG (X.blk s H scope (compEnvC scope cl C X.env) fp) tg g) (ht : ∀ (s : Shared) (H : Hp) (C : Addr) (cl : List (Str × Addr)) (fp : List Addr), PTs (X.blk s H scope (compEnvC scope cl C X.env) fp) ifs tt)
    (he : ∀ (s : Shared) (H : Hp) (C : Addr) (cl : List (Str × Addr)) (fp : List Addr), PE (X.blk s H scope (compEnvC scope cl C X.env) fp) elt te) (hs : ∀ x, foldedSetIterable iter X.env x = pure x)
    (h : tLc wi g tt te (own.map (·.2)) σ H Q)
    (hRR : ∀ D C s' m H', Inv X pins σ H' s' → Q (.ref D) H' → s'.heap.Ns C m → FpOk X pins H' C → compPost (model X.prog X.w) X.A X.xe use Qf (.ref D) C (.ok .next) s') :
    wpAny (model X.prog X.w) X.A (comprehension (.ListComp elt [⟨tg, iter, ifs, 0⟩] scope pos) scope X.env pos' (newList []) false (eval iter X.env) use) Qf X.xe s := by
  have hfree : ∀ y ∈ scope.names, y.2 = .free → ∃ c, X.env.cells.lookup y.1 = some c := fun y hy e => by
    rcases ok.free y hy e with k | k
    · exact I.ok.has _ (.inl k)
    · exact I.ok.has _ (.inr k)
  refine wpAny_comprehension_free (use := use) rfl hs (closure_ok hfree) ok.kind (fun y hy e => by rw [ok.uniq y hy, e])
    (thn (hi pins s σ H _ I h) fun xv s1 hx => thn hx fun itv s2 h2 => ?_)
  obtain ⟨it, fp, tn, J, H2, e, I2, T, st2, f2, q⟩ := h2
  subst e
  refine wpAny_newObj_type (newEnv_comp ?_) (by show 0 ≤ sizeLine; decide)
  generalize hD : s2.heap.objs.size = D
  have hDn : H2 D = none := I2.hok.fresh (Nat.le_of_eq hD)
  obtain ⟨W, ⟨m0, w0⟩, turn⟩ := q D hDn
  -- the new list
  generalize hs3 : ({ s2 with heap := s2.heap.push { cls := .type "list", data := .seq ([] : List Value).toArray } } : Shared) = s3
  have I3 : Inv X pins σ (upd H2 D (.lst [])) s3 := by
    rw [← hs3]
    refine I2.laid (t' := s2.toks) (fun b o e => Heap.get?_push_of_some _ e) (Nat.le_of_eq hD) ⟨Nat.zero_le _, [], 0, .nil, ?_⟩
    rw [← hD]
    exact Heap.get?_push_size _ rfl
  have h3 : s3.heap = s2.heap.push { cls := .type "list", data := .seq ([] : List Value).toArray } := by rw [← hs3]
  have sz : ∀ b ∈ fp, b < s2.heap.objs.size := fun b hb => by
    obtain ⟨o, e, _⟩ := T.obj _ _ st2 b hb
    exact Heap.lt_size e
  have f3 : ∀ b ∈ fp, FpOk X pins (upd H2 D (.lst [])) b ∧ b < s3.heap.objs.size := fun b hb => by
    have hlt := sz b hb
    refine ⟨⟨?_, (f2 b hb).2⟩, by rw [h3, Heap.size_push]; exact Nat.lt_succ_of_lt hlt⟩
    rw [upd_ne (by rw [← hD]; exact Nat.ne_of_lt hlt)]
    exact (f2 b hb).1
  have st3 : tn 0 s3.heap := T.keep _ _ _ st2 fun b _ o e => by rw [h3]; exact Heap.get?_push_of_some _ e
  have I4 := block_start I3 ok hN f3
  have pg := hg s3 (upd H2 D (.lst [])) s3.heap.objs.size (cellsFrom (s3.heap.objs.size + 1) scope.names (cloFrom X.env.cells scope.names [])) fp
  have pt := ht s3 (upd H2 D (.lst [])) s3.heap.objs.size (cellsFrom (s3.heap.objs.size + 1) scope.names (cloFrom X.env.cells scope.names [])) fp
  have pe := he s3 (upd H2 D (.lst [])) s3.heap.objs.size (cellsFrom (s3.heap.objs.size + 1) scope.names (cloFrom X.env.cells scope.names [])) fp
  show codeAny _ _ (.compStart (.ListComp elt [⟨tg, iter, ifs, 0⟩] scope pos) 0 (.ref it) (.ref D) (compEnvC scope (cellsFrom (s3.heap.objs.size + 1) scope.names (cloFrom X.env.cells scope.names [])) s3.heap.objs.size X.env)) (compPost (model X.prog X.w) X.A X.xe use Qf (.ref D) s3.heap.objs.size) { s3 with heap := pushCells (s3.heap.push { cls := .type "dict", data := .dict #[] }) scope.names }
  have nfp : ∀ b ∈ fp, (upd H2 D (.lst [])) b = none := fun b hb => (f3 b hb).1.1
  generalize hce : compEnvC scope (cellsFrom (s3.heap.objs.size + 1) scope.names (cloFrom X.env.cells scope.names [])) s3.heap.objs.size X.env = ce at I4 pg pt pe ⊢
  have cL : ce.locals = s3.heap.objs.size := by subst hce; rfl
  generalize hH3 : upd H2 D (.lst []) = H3 at I3 I4 pg pt pe w0 nfp f3
  generalize hs4 : ({ s3 with heap := pushCells (s3.heap.push { cls := .type "dict", data := .dict #[] }) scope.names } : Shared) = s4 at I4 ⊢
  have st4 : tn 0 s4.heap := T.keep _ _ _ st3 fun b _ o e => by rw [← hs4]; exact pushCells_keeps _ _ _ _ (Heap.get?_push_of_some _ e)
  have stat : ∀ {σ' : St} {H' : Hp} {s' : Shared}, Inv (X.blk s3 H3 scope ce fp) [] σ' H' s' → (∀ b ∈ fp, H' b = none) → ∀ b ∈ fp, FpOk (X.blk s3 H3 scope ce fp) [] H' b := fun {σ' H' s'} I' hn b hb =>
    ⟨hn b hb, (I'.ok.exf b hb).1, I'.ok.exfs b hb, .inl hb, fun x c e => (I'.ok.exf b hb).2 x c e, fun p hp => absurd (show p ∈ ([] : List (Addr × Obj)) ++ [] from hp) (by simp)⟩
  have loop : codeAny (model X.prog X.w) X.A (.compLoop (.ListComp elt [⟨tg, iter, ifs, 0⟩] scope pos) 0 (.ref it) (.ref D) ce) (compPost (model X.prog X.w) X.A X.xe use Qf (.ref D) s3.heap.objs.size) s4 := by
    refine compLoop_any (fun n s' => ∃ i H', Inv (X.blk s3 H3 scope ce fp) [] (wipe σ (own.map (·.2))) H' s' ∧ tn i s'.heap ∧ (∀ b ∈ fp, H' b = none) ∧ W i n H') ?_ m0 ⟨0, H3, I4, st4, nfp, w0⟩
    rintro n s5 ⟨i, H5, I5, st5, n5, w5⟩
    rcases turn i n H5 w5 with ⟨stop, qq⟩ | ⟨go, Nx, hNx, step⟩
    · have td := T.done (X.blk s3 H3 scope ce fp) rfl rfl rfl hc i [] s5 _ H5 (fun _ _ => False) I5 (stat I5 n5) st5 stop
      refine thnF td fun r s6 ⟨hr, I6⟩ => ?_
      subst hr
      -- back in the def's context
      have I7 : Inv X pins σ H5 s6 := I3.call' (ch := fp) I6.os I6.base I6.hok I6.bare fun b hb => ⟨(f3 b hb).1.2.2.2.1, (f3 b hb).1.2.1, (f3 b hb).1.2.2.2.2.1, (f3 b hb).1.2.2.2.2.2⟩
      have nC : H5 s3.heap.objs.size = none := by
        have z : H5 ce.locals = none := I6.free
        rw [cL] at z
        exact z
      obtain ⟨m, hn, _⟩ := I6.loc
      have hn : s6.heap.Ns ce.locals m := hn
      rw [cL] at hn
      exact hRR D s3.heap.objs.size s6 m H5 I7 qq hn (I3.fpOk (Nat.le_refl _) nC)
    · have ti := T.item (X.blk s3 H3 scope ce fp) rfl rfl rfl hc i [] s5 _ H5 (fun _ _ => False) I5 (stat I5 n5) st5 go
      refine thnF ti fun r s6 ⟨u, hr, h6⟩ => ?_
      subst hr
      refine thnF h6 fun _ s7 ⟨x, H7, I7, r7, y7, st7, n7⟩ => ?_
      have I7' := I7.pinned (stat I7 n7) (T.obj _ _ st7)
      refine thnF (pg _ s7 _ H7 x u _ I7' r7 (step x H7 y7)) fun _ s8 ⟨σ8, H8, I8, hw8, q8⟩ => ?_
      refine thnF (pt _ s8 σ8 H8 _ I8 q8) fun b s9 ⟨H9, I9, q9⟩ => ?_
      -- the turn's end
      have fin : ∀ {s' : Shared} {H' : Hp}, Inv (X.blk s3 H3 scope ce fp) ([] ++ pinsAt fp s7.heap) σ8 H' s' → Nx H' → ∃ m, m < n ∧ ∃ i H', Inv (X.blk s3 H3 scope ce fp) [] (wipe σ (own.map (·.2))) H' s' ∧ tn i s'.heap ∧ (∀ b ∈ fp, H' b = none) ∧ W i m H' := fun {s' H'} I' nx => by
        obtain ⟨m', hm, w'⟩ := hNx H' nx
        have pin' : ∀ b ∈ fp, ∀ o, s7.heap.get? b = some o → s'.heap.get? b = some o ∧ H' b = none := fun b hb o e =>
          let z := I'.pin (b, o) (List.mem_append_right _ (List.mem_append_right _ (mem_pinsAt hb e)))
          ⟨z.1, z.2.1⟩
        have hl : (wipe σ (own.map (·.2))).length = σ8.length := by rw [← hw8, wipe_length]
        refine ⟨m', hm, i + 1, H', (I'.unpinned (pins := [])).weak hl (fun j v e => ?_), T.keep _ _ _ st7 fun b hb o e => (pin' b hb o e).1, fun b hb => ?_, w'⟩
        · rw [← hw8] at e
          exact (wipe_some e).1
        · obtain ⟨o, e, _⟩ := T.obj _ _ st7 b hb
          exact (pin' b hb o e).2
      cases b with
      | false =>
        simp only [Bool.false_eq_true, if_false] at q9 ⊢
        exact fin I9 q9
      | true =>
        simp only [if_true] at q9 ⊢
        refine thnF (pe _ s9 σ8 H9 _ I9 q9) fun z s10 ⟨yv, H10, I10, r10, acc, hD10, hz10, nx⟩ => ?_
        exact app_ok (X := X.blk s3 H3 scope ce fp) I10 hD10 hz10 r10 fun s11 I11 => fin I11 nx
  exact codeAny_compStart_list loop (T.self X.A 0 _ _ _ st4 loop)
theorem ps_setLc {i : Nat} {y : Str} {py : Pos} {elt tg iter : Expr} {ifs : List Expr} {scope : Scope} {own : List (Str × Nat)} {pos spos : Pos} {wi : TI} {g : TG} {tt : TT} {te : TE} (hc : X.calm = true) (hN : X.N.Nodup) (hy : X.N[i]? = some y) (hyl : X.env.scope.names.lookup y = some .local)
    (hsw : swapsWith (.ListComp elt [⟨tg, iter, ifs, 0⟩] scope pos) (some (.Name y py)) spos.line X.env = pure true) (hi : PI X tg iter wi) (ok : BlkOk X.N X.env.scope scope own)
    (hg : ∀ (s : Shared) (H : Hp) (C : Addr) (cl : List (Str × Addr)) (fp : List Addr), PG (X.blk s H scope (compEnvC scope cl C X.env) fp) tg g) (ht : ∀ (s : Shared) (H : Hp) (C : Addr) (cl : List (Str × Addr)) (fp : List Addr), PTs (X.blk s H scope (compEnvC scope cl C X.env) fp) ifs tt)
    (he : ∀ (s : Shared) (H : Hp) (C : Addr) (cl : List (Str × Addr)) (fp : List Addr), PE (X.blk s H scope (compEnvC scope cl C X.env) fp) elt te) (hs : ∀ x, foldedSetIterable iter X.env x = pure x := by intro _; rfl) :
    PS X (.Assign [.Name y py] (.ListComp elt [⟨tg, iter, ifs, 0⟩] scope pos) spos) (tAsg (tLc wi g tt te (own.map (·.2))) (gName i)) := by
  intro pins s σ H D I h
  rw [exec_Assign_Name_used _ _ _ _ hsw]
  refine wpAny_bind (wpAny_standAt (wpAny_bind ?_))
  show wpAny _ X.A (do let _ ← comprehension (.ListComp elt [⟨tg, iter, ifs, 0⟩] scope pos) scope X.env (firstIterPos [⟨tg, iter, ifs, 0⟩] pos) (newList []) false (eval iter X.env) (some (assign (.Name y py) X.env))) _ _ s
  have h : tLc wi g tt te (own.map (·.2)) σ H (fun x H1 => gName i x σ H1 D.nx) := h
  refine wpAny_bind (thn (lc_core (Qf := fun _ s' => SP X pins D .next s') hc hN I hi ok hg ht he hs h fun L C s' m H' I' q hn f => ?_) fun _ s' hq => wpAny_pure (wpAny_pure hq))
  show wpAny _ _ (assign (.Name y py) X.env (.ref L)) _ _ _
  refine wpAny_assign_Name (store_ok2 (v := V.ref L) I' hN hy (.inl hyl) rfl (fun s2 I2 ⟨a, sb, ha⟩ => ?_) (.inr hyl))
  obtain ⟨f0, f1, f2, f3, f4, f5⟩ := f
  have haC : C ≠ a := by
    rcases ha with z | z
    · rw [z]; exact f1
    · exact fun e => f4 y a z e.symm
  refine ⟨m, hn.sameBut sb haC, fun h3 sb3 => ?_⟩
  exact ⟨_, H', I2.turned (t' := s2.toks) (fun b o hb e => (sb3.2 b hb).trans e) f0 f1 f3 f4 f5, q⟩
theorem sw_true {elt : Expr} {gs : List Comprehension} {scope : Scope} {pos py : Pos} {y : Str} {l : Nat} {env : Env} (hk : env.scope.kind = .function) (hy : env.scope.names.lookup y = some .local) (hl : (py.line == pos.line) = true)
    (ha : (scope.names.any fun (n, k) => n == y && (k == .local || k == .cell)) = false) : swapsWith (.ListComp elt gs scope pos) (some (.Name y py)) l env = pure true := by
  have ky : env.kindOf y = some .local := hy
  have hb : env.blockKind = .function := by unfold Env.blockKind; rw [hk]; rfl
  unfold swapsWith
  simp only [hb, ky, ha, Expr.pos, hl]
  rfl
end
def blkC (N : List Str) (sc scope : Scope) (own : List (Str × Nat)) : Bool :=
  (match scope.kind with | .function => true | _ => false) && (scope.names.all fun y => decide (scope.names.lookup y.1 = some y.2)) && (own.all fun p => decide (N[p.2]? = some p.1)) &&
    (scope.names.all fun y => match y.2 with
      | .free => (match sc.names.lookup y.1 with | some .cell => true | some .free => true | _ => false)
      | .local => decide (y.1 ∈ own.map (·.1)) || decide (y.1 ∉ N)
      | .cell => decide (y.1 ∈ own.map (·.1)) || decide (y.1 ∉ N)
      | _ => true)
theorem blkOk_by {N : List Str} {sc scope : Scope} {own : List (Str × Nat)} (h : blkC N sc scope own = true) : BlkOk N sc scope own := by
  unfold blkC at h
  simp only [Bool.and_eq_true, List.all_eq_true, decide_eq_true_eq] at h
  obtain ⟨⟨⟨h1, h2⟩, h3⟩, h4⟩ := h
  refine ⟨?_, h2, h3, fun y hy e => ?_, fun y hy e => ?_⟩
  · split at h1
    · assumption
    · cases h1
  · have q := h4 y hy
    simp only [e] at q
    split at q <;> first | exact .inl (by assumption) | exact .inr (by assumption) | cases q
  · have q := h4 y hy
    rcases e with e | e <;> (simp only [e, Bool.or_eq_true, decide_eq_true_eq] at q; exact q)
end L2
namespace L2
open PySem PySem.Spec PyProof.Rows
end L2
namespace L2
open PySem PySem.Spec PyProof.Rows
section
variable {κ : Type} [DecidableEq κ]
def valV (kvs : List (κ × V)) (k : κ) : Option V := (kvs.find? fun kv => decide (kv.1 = k)).map (·.2)
def putK (kvs : List (κ × V)) (k : κ) (v : V) : List (κ × V) :=
  if (kvs.any fun kv => decide (kv.1 = k)) = true then kvs.map (fun kv => if kv.1 = k then (kv.1, v) else kv) else kvs ++ [(k, v)]
def dropK (kvs : List (κ × V)) (k : κ) : List (κ × V) := kvs.filter fun kv => decide (kv.1 ≠ k)
theorem valV_pos {p : κ × V} {r : List (κ × V)} {k : κ} (e : p.1 = k) : valV (p :: r) k = some p.2 := by simp [valV, List.find?_cons, e]
theorem valV_neg {p : κ × V} {r : List (κ × V)} {k : κ} (e : ¬ p.1 = k) : valV (p :: r) k = valV r k := by simp [valV, List.find?_cons, e]
theorem valV_any (k : κ) : ∀ kvs : List (κ × V), (kvs.any fun kv => decide (kv.1 = k)) = (valV kvs k).isSome
  | [] => rfl
  | p :: r => by
    rw [List.any_cons]
    by_cases e : p.1 = k
    · simp only [valV_pos e, decide_eq_true e, Bool.true_or, Option.isSome_some]
    · rw [valV_neg e, decide_eq_false e, Bool.false_or]; exact valV_any k r
theorem RelO.isSome_eq {o : Option V} {u : Option Value} (r : RelO o u) : o.isSome = u.isSome := by
  cases o with
  | none => cases u with
    | none => rfl
    | some _ => exact (show False from r).elim
  | some _ => cases u with
    | none => exact (show False from r).elim
    | some _ => rfl
theorem RelO.getD {o : Option V} {u : Option Value} {d : V} {d' : Value} (r : RelO o u) (rd : RelV d d') : RelV (o.getD d) (u.getD d') := by
  cases o with
  | none => cases u with
    | none => exact rd
    | some _ => exact (show False from r).elim
  | some _ => cases u with
    | none => exact (show False from r).elim
    | some _ => exact r
theorem KV.val {kvs : List (κ × V)} {vs : List (κ × Value)} (r : KV kvs vs) (k : κ) : RelO (valV kvs k) (valueAt vs k) := by
  unfold KV at r
  induction r with
  | nil => exact True.intro
  | @cons p q ps qs h t ih =>
    obtain ⟨h1, h2⟩ := h
    by_cases e : p.1 = k
    · have e' : q.1 = k := h1.symm.trans e
      have b : valueAt (q :: qs) k = some q.2 := by simp [valueAt, List.find?_cons, e']
      rw [valV_pos e, b]; exact h2
    · have e' : ¬ q.1 = k := fun z => e (h1.trans z)
      have b : valueAt (q :: qs) k = valueAt qs k := by simp [valueAt, List.find?_cons, e']
      rw [valV_neg e, b]; exact ih
theorem KV.any {kvs : List (κ × V)} {vs : List (κ × Value)} (r : KV kvs vs) (k : κ) : (kvs.any fun kv => decide (kv.1 = k)) = vs.any fun kv => decide (kv.1 = k) := by
  unfold KV at r
  induction r with
  | nil => rfl
  | cons h t ih => rw [List.any_cons, List.any_cons, ih, h.1]
theorem KV.repl {kvs : List (κ × V)} {vs : List (κ × Value)} (r : KV kvs vs) (k : κ) {y : V} {u : Value} (ry : RelV y u) :
    KV (kvs.map fun kv => if kv.1 = k then (kv.1, y) else kv) (vs.map fun kv => if kv.1 = k then (kv.1, u) else kv) := by
  unfold KV at r ⊢
  induction r with
  | nil => exact .nil
  | @cons p q ps qs h t ih =>
    rw [List.map_cons, List.map_cons]
    refine .cons ?_ ih
    obtain ⟨h1, h2⟩ := h
    by_cases e : p.1 = k
    · rw [if_pos e, if_pos (h1.symm.trans e)]; exact ⟨h1, ry⟩
    · rw [if_neg e, if_neg (fun z => e (h1.trans z))]; exact ⟨h1, h2⟩
theorem KV.put {kvs : List (κ × V)} {vs : List (κ × Value)} (r : KV kvs vs) (k : κ) {y : V} {u : Value} (ry : RelV y u) : KV (putK kvs k y) (stored vs k u) := by
  unfold putK stored
  rw [r.any k]
  by_cases e : (vs.any fun kv => decide (kv.1 = k)) = true
  · rw [if_pos e, if_pos e]; exact r.repl k ry
  · rw [if_neg e, if_neg e]; exact Paired.snoc r ⟨rfl, ry⟩
theorem KV.drop {kvs : List (κ × V)} {vs : List (κ × Value)} (r : KV kvs vs) (k : κ) : KV (dropK kvs k) (without vs k) := by
  unfold KV at r ⊢
  unfold dropK without
  induction r with
  | nil => exact .nil
  | @cons p q ps qs h t ih =>
    obtain ⟨h1, h2⟩ := h
    rw [List.filter_cons, List.filter_cons]
    by_cases e : p.1 = k
    · have a : ¬ decide (p.1 ≠ k) = true := by simp [e]
      have b : ¬ decide (q.1 ≠ k) = true := by simp [h1.symm.trans e]
      rw [if_neg a, if_neg b]; exact ih
    · have e' : ¬ q.1 = k := fun z => e (h1.trans z)
      have a : decide (p.1 ≠ k) = true := by simp [e]
      have b : decide (q.1 ≠ k) = true := by simp [e']
      rw [if_pos a, if_pos b]; exact .cons ⟨h1, h2⟩ ih
theorem KV.keys {kvs : List (κ × V)} {vs : List (κ × Value)} (r : KV kvs vs) : kvs.map (·.1) = vs.map (·.1) := by
  unfold KV at r
  induction r with
  | nil => rfl
  | cons h t ih => rw [List.map_cons, List.map_cons, ih, h.1]
theorem KV.length {kvs : List (κ × V)} {vs : List (κ × Value)} (r : KV kvs vs) : kvs.length = vs.length := Paired.length r
end
theorem kV_is {P : Program} {w : World} {k : Key} {u : Value} (r : RelV (kV k) u) : (mixKind P w).is k u = true := by
  cases k with
  | inl i => obtain ⟨t, e⟩ := (show ∃ t, u = Value.int i t from r); subst e; exact mixKind_int P w i t
  | inr x => obtain ⟨t, e⟩ := (show ∃ t, u = Value.str x t from r); subst e; exact mixKind_str P w x t
abbrev KT (H : Hp) : List (List Key × V) → List (List Key × Addr × Value) → Prop := Paired fun p q => p.1 = q.1 ∧ H q.2.1 = some (.tup (p.1.map kV)) ∧ RelV p.2 q.2.2
theorem KT.val {H : Hp} {kvs : List (List Key × V)} {xs : List (List Key × Addr × Value)} (r : KT H kvs xs) (k : List Key) : RelO (valV kvs k) ((atKey xs k).map (·.2)) := by
  induction r with
  | nil => exact True.intro
  | @cons p q ps qs h t ih =>
    obtain ⟨h1, _, h2⟩ := h
    by_cases e : p.1 = k
    · have e' : q.1 = k := h1.symm.trans e
      have b : atKey (q :: qs) k = some q.2 := by simp [atKey, List.find?_cons, e']
      rw [valV_pos e, b]; exact h2
    · have e' : ¬ q.1 = k := fun z => e (h1.trans z)
      have b : atKey (q :: qs) k = atKey qs k := by simp [atKey, List.find?_cons, e']
      rw [valV_neg e, b]; exact ih
theorem KT.repl {H : Hp} {kvs : List (List Key × V)} {xs : List (List Key × Addr × Value)} (r : KT H kvs xs) (k : List Key) {y : V} {u : Value} (ry : RelV y u) :
    KT H (kvs.map fun kv => if kv.1 = k then (kv.1, y) else kv) (xs.map (putAt k u)) := by
  induction r with
  | nil => exact .nil
  | @cons p q ps qs h t ih =>
    rw [List.map_cons, List.map_cons]
    refine .cons ?_ ih
    obtain ⟨h1, h2, h3⟩ := h
    unfold putAt
    by_cases e : p.1 = k
    · rw [if_pos e, if_pos (h1.symm.trans e)]; exact ⟨h1, h2, ry⟩
    · rw [if_neg e, if_neg (fun z => e (h1.trans z))]; exact ⟨h1, h2, h3⟩
theorem KT.put {H : Hp} {kvs : List (List Key × V)} {xs : List (List Key × Addr × Value)} (r : KT H kvs xs) (k : List Key) {b : Addr} {y : V} {u : Value} (hb : H b = some (.tup (k.map kV))) (ry : RelV y u) :
    KT H (putK kvs k y) (storedH xs k b u) := by
  have e : (kvs.any fun kv => decide (kv.1 = k)) = (atKey xs k).isSome := by
    rw [valV_any, (r.val k).isSome_eq, Option.isSome_map]
  unfold putK storedH
  rw [e]
  by_cases q : (atKey xs k).isSome = true
  · rw [if_pos q, if_pos q]; exact r.repl k ry
  · rw [if_neg q, if_neg q]; exact Paired.snoc r ⟨rfl, hb, ry⟩
theorem KT.keeps {H H' : Hp} {kvs : List (List Key × V)} {xs : List (List Key × Addr × Value)} (r : KT H kvs xs) (ht : ∀ b ys, H b = some (.tup ys) → H' b = some (.tup ys)) : KT H' kvs xs :=
  Paired.mapP r fun _ _ z => ⟨z.1, ht _ _ z.2.1, z.2.2⟩
def DGet (H : Hp) (a : Addr) (y : V) (r : Option V) : Prop :=
  (∃ kvs k, Rd H a (.dK kvs) ∧ y = kV k ∧ r = valV kvs k) ∨ ∃ kvs k b, Rd H a (.dT kvs) ∧ y = .ref b ∧ H b = some (.tup (k.map kV)) ∧ r = valV kvs k
def DPut (H : Hp) (a : Addr) (y v : V) (H' : Hp) : Prop :=
  (∃ kvs k, H a = some (.dK kvs) ∧ y = kV k ∧ kvs.length < sizeLine ∧ H' = upd H a (.dK (putK kvs k v))) ∨
  ∃ kvs k b, H a = some (.dT kvs) ∧ y = .ref b ∧ H b = some (.tup (k.map kV)) ∧ kvs.length < sizeLine ∧ H' = upd H a (.dT (putK kvs k v))
theorem DGet.k {H : Hp} {a : Addr} {kvs : List (Key × V)} {k : Key} (e : H a = some (.dK kvs)) : DGet H a (kV k) (valV kvs k) := .inl ⟨kvs, k, .inl e, rfl, rfl⟩
theorem DGet.t {H : Hp} {a b : Addr} {kvs : List (List Key × V)} {k : List Key} (e : H a = some (.dT kvs)) (eb : H b = some (.tup (k.map kV))) : DGet H a (.ref b) (valV kvs k) := .inr ⟨kvs, k, b, .inl e, rfl, eb, rfl⟩
theorem DPut.k {H : Hp} {a : Addr} {kvs : List (Key × V)} {k : Key} {v : V} (e : H a = some (.dK kvs)) (hl : kvs.length < sizeLine) : DPut H a (kV k) v (upd H a (.dK (putK kvs k v))) := .inl ⟨kvs, k, e, rfl, hl, rfl⟩
theorem DPut.t {H : Hp} {a b : Addr} {kvs : List (List Key × V)} {k : List Key} {v : V} (e : H a = some (.dT kvs)) (eb : H b = some (.tup (k.map kV))) (hl : kvs.length < sizeLine) :
    DPut H a (.ref b) v (upd H a (.dT (putK kvs k v))) := .inr ⟨kvs, k, b, e, rfl, eb, hl, rfl⟩
def NoSl (i : Expr) : Prop := ∀ ov iv, subscripted i false ov iv = operate [ov, iv] (getItem ov iv)
theorem subD_of {prog : Program} {w : World} {A : Around} {E : Value → Shared → Prop} {s : Shared} {env : Env} {value slice : Expr} {pos : Pos} {T id : String} {Q : Value → Shared → Prop}
    (hl : typeLookup (.type T) "__getitem__" = pure (some (.builtin id))) (hs : NoSl slice)
    (h : wpAny (model prog w) A (eval value env) (fun o s₁ => wpAny (model prog w) A (eval slice env) (fun i s₂ => s₂.TypeIs o T ∧ wpAny (model prog w) A (getItem o i) Q E s₂) E s₁) E s) :
    wpAny (model prog w) A (eval (.Subscript value slice pos) env) Q E s := by
  refine Subscript_ (wpAny_mono h (fun o s₁ h₁ => wpAny_mono h₁ (fun i s₂ h₂ => ?_) fun _ _ x => x) fun _ _ x => x)
  obtain ⟨hT, h₂⟩ := h₂
  unfold subscriptTail
  refine wpAny_bind ?_
  rw [getitemInPython_of_ne hT.not_modules]
  refine wpAny_bind (wpAny_specialOf hT hl ?_)
  have fin : wpAny (model prog w) A (subscripted slice false o i) (fun r s₃ => wpAny (model prog w) A (letTemporaryGo value o r >>= fun _ => pure r) Q E s₃) E s₂ := by
    rw [hs o i]
    exact wpAny_operating (wpAny_mono h₂ (fun r s₃ h₃ => wpAny_bind (wpAny_letTemporaryGo (wpAny_pure h₃))) fun _ _ x => x)
  first
    | exact wpAny_pure (wpAny_bind fin)
    | exact wpAny_bind (wpAny_pure (wpAny_bind fin))
    | exact wpAny_bind fin
end L2
namespace L2
open PySem PySem.Spec PyProof.Rows
end L2
namespace L2
open PySem PySem.Spec PyProof.Rows
section
variable {X : Cx} {pins : List (Addr × Obj)} {σ : St} {H : Hp} {s : Shared} {h' : Heap}
theorem Inv.turnedL {t' : Nat} {ch : List Addr} (I : Inv X pins σ H s) (k : ∀ b o, b ∉ ch → s.heap.get? b = some o → h'.get? b = some o) (hf : ∀ b ∈ ch, FpOk X pins H b) : Inv X pins σ H { s with heap := h', toks := t' } := by
  have nit : ∀ b u, H b = some u → b ∉ ch := fun b u e z => by
    have q := (hf b z).1
    rw [q] at e; cases e
  refine I.step (g' := s.gens) (d' := s.drawn) (ch := ch) (fun b hb => ⟨(hf b hb).2.2.2.1, (hf b hb).2.1, (hf b hb).2.2.2.2.1, (hf b hb).2.2.2.2.2⟩) (fun b o _ _ hc e _ => k b o hc e) (fun b o _ _ hc e _ => ⟨o.slots, k b o hc e⟩)
    (fun _ _ _ _ n => n) (fun b o hc e => ⟨o, k b o hc e⟩) (fun _ _ e => e) (fun _ _ _ e => e) (fun b ps e => ⟨#[], by rw [e]; simp⟩) (fun m hm => ?_) (fun b u e => ?_) I.bare
  · obtain ⟨o, es, ep, ho, r⟩ := hm
    exact ⟨o, es, ep, k _ o (fun z => (hf _ z).2.1 rfl) ho, r⟩
  · refine (I.hok b u e).stay (fun c v hc q => k c v ?_ q) (fun _ q => q) fun _ _ q => q
    rcases hc with z | z
    · rw [z]; exact nit b u e
    · exact nit c _ z
theorem Inv.turnedNew {t' : Nat} {ch : List Addr} {T : Addr} {ob : HO} (I : Inv X pins σ H s) (k : ∀ b o, b ∉ ch → s.heap.get? b = some o → h'.get? b = some o) (hf : ∀ b ∈ ch, FpOk X pins H b) (hT : s.heap.objs.size ≤ T)
    (new : ObjOk X.prog X.w (upd H T ob) h' T ob) : Inv X pins σ (upd H T ob) { s with heap := h', toks := t' } := by
  have hn : H T = none := I.hok.fresh hT
  have nit : ∀ b u, H b = some u → b ∉ ch := fun b u e z => by
    have q := (hf b z).1
    rw [q] at e; cases e
  refine I.step (g' := s.gens) (d' := s.drawn) (ch := ch) (fun b hb => ⟨(hf b hb).2.2.2.1, (hf b hb).2.1, (hf b hb).2.2.2.2.1, (hf b hb).2.2.2.2.2⟩) (fun b o _ _ hc e _ => k b o hc e) (fun b o _ _ hc e _ => ⟨o.slots, k b o hc e⟩)
    (fun b o _ e n => ?_) (fun b o hc e => ⟨o, k b o hc e⟩) (fun b xs e => ?_) (fun b o u e => ?_) (fun b ps e => ⟨#[], ?_⟩) (fun m hm => ?_) (fun b u e => ?_) I.bare
  · rw [upd_ne (Nat.ne_of_lt (Nat.lt_of_lt_of_le (Heap.lt_size e) hT))]; exact n
  · rw [upd_ne (ne_of_none e hn)]; exact e
  · rw [upd_ne (ne_of_none e hn)]; exact e
  · rw [upd_ne (ne_of_none e hn), e]; simp
  · obtain ⟨o, es, ep, ho, r⟩ := hm
    exact ⟨o, es, ep, k _ o (fun z => (hf _ z).2.1 rfl) ho, r⟩
  · by_cases hb : b = T
    · subst hb
      rw [upd_same] at e
      cases e
      exact new
    · rw [upd_ne hb] at e
      refine (I.hok b u e).stay (fun c v hc q => k c v ?_ q) (fun c q => by rw [upd_ne (ne_of_none q hn)]; exact q) fun c xs q => by rw [upd_ne (ne_of_none q hn)]; exact q
      rcases hc with z | z
      · rw [z]; exact nit b u e
      · exact nit c _ z
end
def RgC (i j c : Int) (n : Nat) : Prop := c ≠ 0 ∧ c.natAbs < 1073741824 ∧ Builtin.Range.small i j c = true ∧ Builtin.Range.rangeSize i j c = n
theorem RgC.neg {i j : Int} (ha : -(2 ^ 62) ≤ i) (ha' : i < 2 ^ 62) (hb : -(2 ^ 62) ≤ j) (hb' : j < 2 ^ 62) : RgC i j (-1) (i - j).toNat :=
  ⟨by decide, by decide, PySem.W.small_down ha ha' hb hb', PySem.W.rangeSize_downNat i j⟩
def Ite (K : PySem.W.Frag) (a : Addr) : It :=
  ⟨fun i H => ∃ (xs : List V) (x : V), SqL K H a xs ∧ xs[i]? = some x, fun i H v H' => ∃ T x, v = .ref T ∧ H T = none ∧ H' = upd H T (.tup [.int (i : Nat), x]) ∧ ∀ xs, SqL K H a xs → xs[i]? = some x, fun i H => ∃ xs : List V, SqL K H a xs ∧ xs.length ≤ i⟩
theorem turn_enum {P : Program} {w : World} {K : PySem.W.Frag} {elts : List Expr} {kk : Nat} {tpos : Pos} (a e it : Addr) :
    Turn P w K (.Tuple elts kk tpos) (Ite K a) [e, it] e (fun i h => (∃ old, IsEnum h e it ((i : Nat) : Int) old) ∧ h.IsListIter it a i ∧ e ≠ it) where
  mem := by simp
  obj := fun i h st b hb => by
    obtain ⟨⟨old, he⟩, ⟨o, ho, hc, hd⟩, _⟩ := st
    have e' : b = e ∨ b = it := by simpa using hb
    rcases e' with z | z
    · rw [z]; exact ⟨_, he, fun v q => nomatch q⟩
    · rw [z]; exact ⟨o, ho, fun v q => by rw [hd] at q; cases q⟩
  keep := fun i h h' st k => let ⟨⟨old, he⟩, hi, hne⟩ := st; ⟨⟨old, k e (by simp) _ he⟩, hi.at fun o q => k it (by simp) o q, hne⟩
  item := by
    intro X hP hw hK hc i pins s σ H E I hf st hg
    subst hP hw hK
    obtain ⟨⟨old, he⟩, hit, hne⟩ := st
    obtain ⟨xs, x, hq, hx⟩ := hg
    obtain ⟨its, rv, p, hz⟩ := I.list hq
    obtain ⟨u, hu, ru⟩ := rv.get hx
    have hel : e < s.heap.objs.size := Heap.lt_size he
    have hil : it < s.heap.objs.size := by obtain ⟨_, q, _⟩ := hit; exact Heap.lt_size q
    refine wpAny_pyNext_enum_item he hit p.isList (x := u) (by simpa using hu) hne fun h' ho hit' hT hsz hk => ?_
    refine ⟨_, rfl, wpAny_letOwnedTupleGo_enum (s := { s with heap := h', toks := s.toks + 1 }) ho fun h'' he' sb => ?_⟩
    have hT2 : h''.get? s.heap.objs.size = some { cls := .type "tuple", data := .seq #[.int i s.toks, u] } := (sb.2 _ (Nat.ne_of_gt hel)).trans hT
    have new : ObjOk X.prog X.w (upd H s.heap.objs.size (.tup [.int (i : Nat), x])) h'' s.heap.objs.size (.tup [.int (i : Nat), x]) :=
      ⟨by show 2 ≤ sizeLine; decide, [.int i s.toks, u], .cons ⟨_, rfl⟩ (.cons ru .nil), ⟨_, hT2, rfl, _, rfl⟩⟩
    have I1 : Inv X pins σ (upd H s.heap.objs.size (.tup [.int (i : Nat), x])) { s with heap := h'', toks := s.toks + 1 } :=
      I.turnedNew (ch := [e, it]) (fun b ob hb q => (sb.2 b (fun z => hb (by simp [z]))).trans (hk b ob (fun z => hb (by simp [z])) (fun z => hb (by simp [z])) q)) hf (Nat.le_refl _) new
    refine ⟨.ref s.heap.objs.size, _, I1, rfl, ⟨_, x, rfl, I.hok.fresh (Nat.le_refl _), rfl, fun ys hy => by rw [I.list_inj hy hq]; exact hx⟩, ⟨⟨u, ?_⟩, hit'.at fun o q => (sb.2 it (Ne.symm hne)).trans q, hne⟩, fun b hb => ?_⟩
    · have e1 : ((i + 1 : Nat) : Int) = (i : Int) + 1 := by omega
      rw [e1]; exact he'
    · have hb' : b < s.heap.objs.size := by
        have e' : b = e ∨ b = it := by simpa using hb
        rcases e' with z | z
        · rw [z]; exact hel
        · rw [z]; exact hil
      rw [upd_ne (Nat.ne_of_lt hb')]
      exact (hf b hb).1
  done := by
    intro X hP hw hK hc i pins s σ H E I hf st hg
    subst hP hw hK
    obtain ⟨⟨old, he⟩, hit, hne⟩ := st
    obtain ⟨xs, hq, hx⟩ := hg
    obtain ⟨its, rv, p, hz⟩ := I.list hq
    obtain ⟨f0, f1, f2, f3, f4, f5⟩ := hf it (by simp)
    have hl := rv.length
    exact wpAny_pyNext_enum_end (I.ok.hd hc) he hit p.isList (by simp; omega) fun h' eb => ⟨rfl, I.turned (t' := s.toks) (fun b o hb q => eb b o hb q) f0 f1 f3 f4 f5⟩
  self := fun A i s Q E st h => let ⟨⟨_, he⟩, _⟩ := st; wpAny_pyIter_enum he h
def iEnum (K : PySem.W.Frag) (ta : TA) : TI := fun σ H R => ta σ H fun vs H1 => ∃ a xs, vs = [.ref a] ∧ SqL K H1 a xs ∧ R (Ite K a) H1
theorem pi_enum {X : Cx} {e : Expr} {ta : TA} {p pos tpos : Pos} {elts : List Expr} {kk : Nat} (hg : Gl X "enumerate") (hm : X.mg "enumerate" = none) (ha : PA X [e] ta) (hs : starEach [e] X.env = [(false, eval e X.env)] := by rfl) :
    PI X (.Tuple elts kk tpos) (.Call (.Name "enumerate" p) [e] [] pos) (iEnum X.K ta) := by
  intro pins s σ H R I h
  refine Call_ (ld_blt I hg hm boot_enumerate (PyProof.Rows.callWith_type1 (thn (ha pos pins s σ H _ I h) fun us s1 ⟨vs, H1, I1, r1, q1⟩ => ?_) hs rfl))
  obtain ⟨a, xs, ex, hq, q⟩ := q1
  subst ex
  cases r1 with
  | cons r rr =>
    cases rr
    cases r
    obtain ⟨its, rv, p', hz⟩ := I1.list hq
    refine call_enumerate_list p'.isList fun h' he hit hsz hk => wpAny_pyIter_enum he ?_
    have I2 : Inv X pins σ H1 { s1 with heap := h' } := I1.kept (t' := s1.toks) hk
    refine ⟨s1.heap.objs.size + 1, [s1.heap.objs.size + 1, s1.heap.objs.size], _, _, H1, rfl, I2, turn_enum a (s1.heap.objs.size + 1) s1.heap.objs.size, ⟨⟨.none, he⟩, hit, Nat.succ_ne_self _⟩, fun b hb => ?_, q⟩
    have e' : b = s1.heap.objs.size + 1 ∨ b = s1.heap.objs.size := by simpa using hb
    have hle : s1.heap.objs.size ≤ b := by
      rcases e' with z | z
      · rw [z]; exact Nat.le_add_right _ _
      · rw [z]; exact Nat.le_refl _
    exact I1.fpOk hle (I1.hok.fresh hle)
theorem boot_zip5 : bootBuiltins "zip" = some (.type "zip") := by decide +kernel
def Itz (K : PySem.W.Frag) (a b : Addr) : It :=
  ⟨fun i H => ∃ (xs ys : List V) (x y : V), SqL K H a xs ∧ SqL K H b ys ∧ xs[i]? = some x ∧ ys[i]? = some y,
    fun i H v H' => ∃ T x y, v = .ref T ∧ H T = none ∧ H' = upd H T (.tup [x, y]) ∧ (∀ xs, SqL K H a xs → xs[i]? = some x) ∧ ∀ ys, SqL K H b ys → ys[i]? = some y,
    fun i H => ∃ xs ys : List V, SqL K H a xs ∧ SqL K H b ys ∧ (xs.length ≤ i ∨ ys.length ≤ i)⟩
theorem turn_zip {P : Program} {w : World} {K : PySem.W.Frag} {elts : List Expr} {kk : Nat} {tpos : Pos} {a b z TI TO i1 i2 : Addr} (D : ZipApart z TI TO i1 i2 a b) :
    Turn P w K (.Tuple elts kk tpos) (Itz K a b) [z, TI, TO, i1, i2] z (fun i h => IsZip h z TI TO .none ∧ IsPair h TI (.ref i1) (.ref i2) ∧ (∃ x y, IsPair h TO x y) ∧ h.IsListIter i1 a i ∧ h.IsListIter i2 b i) where
  mem := by simp
  obj := fun i h st c hc => by
    obtain ⟨hz, hTI, ⟨x, y, hTO⟩, ⟨o1, e1, _, d1⟩, ⟨o2, e2, _, d2⟩⟩ := st
    have e' : c = z ∨ c = TI ∨ c = TO ∨ c = i1 ∨ c = i2 := by simpa using hc
    rcases e' with q | q | q | q | q
    · rw [q]; exact ⟨_, hz, fun v q => nomatch q⟩
    · rw [q]; exact ⟨_, hTI, fun v q => nomatch q⟩
    · rw [q]; exact ⟨_, hTO, fun v q => nomatch q⟩
    · rw [q]; exact ⟨o1, e1, fun v q => by rw [d1] at q; cases q⟩
    · rw [q]; exact ⟨o2, e2, fun v q => by rw [d2] at q; cases q⟩
  keep := fun i h h' st k => by
    obtain ⟨hz, hTI, ⟨x, y, hTO⟩, h1, h2⟩ := st
    exact ⟨k z (by simp) _ hz, k TI (by simp) _ hTI, ⟨x, y, k TO (by simp) _ hTO⟩, h1.at fun o q => k i1 (by simp) o q, h2.at fun o q => k i2 (by simp) o q⟩
  item := by
    intro X hP hw hK hc i pins s σ H E I hf st hg
    subst hP hw hK
    obtain ⟨hz, hTI, ⟨x0, y0, hTO⟩, h1, h2⟩ := st
    obtain ⟨xs, ys, x, y, hqx, hqy, hx, hy⟩ := hg
    obtain ⟨its, rv, p, _⟩ := I.list hqx
    obtain ⟨its2, rv2, p2, _⟩ := I.list hqy
    obtain ⟨u, hu, ru⟩ := rv.get hx
    obtain ⟨u2, hu2, ru2⟩ := rv2.get hy
    have hzl : z < s.heap.objs.size := Heap.lt_size hz
    refine wpAny_pyNext_zip_item D hz hTI hTO h1 h2 p.isList p2.isList (x := u) (y := u2) (by simpa using hu) (by simpa using hu2) fun h' z' TO' h1' h2' hT hsz hk => ?_
    refine ⟨_, rfl, wpAny_letOwnedTupleGo_zip (s := { s with heap := h' }) z' fun h'' z'' sb => ?_⟩
    have hT2 : h''.get? s.heap.objs.size = some { cls := .type "tuple", data := .seq #[u, u2] } := (sb.2 _ (Nat.ne_of_gt hzl)).trans hT
    have new : ObjOk X.prog X.w (upd H s.heap.objs.size (.tup [x, y])) h'' s.heap.objs.size (.tup [x, y]) :=
      ⟨by show 2 ≤ sizeLine; decide, [u, u2], .cons ru (.cons ru2 .nil), ⟨_, hT2, rfl, _, rfl⟩⟩
    have I1 : Inv X pins σ (upd H s.heap.objs.size (.tup [x, y])) { s with heap := h'' } :=
      I.turnedNew (t' := s.toks) (ch := [z, TI, TO, i1, i2]) (fun c o hb q => (sb.2 c (fun q' => hb (by simp [q']))).trans (hk c o (fun q' => hb (by simp [q'])) (fun q' => hb (by simp [q'])) (fun q' => hb (by simp [q'])) (fun q' => hb (by simp [q'])) q)) hf (Nat.le_refl _) new
    refine ⟨.ref s.heap.objs.size, _, I1, rfl, ⟨_, x, y, rfl, I.hok.fresh (Nat.le_refl _), rfl, fun l hl => by rw [I.list_inj hl hqx]; exact hx, fun l hl => by rw [I.list_inj hl hqy]; exact hy⟩, ⟨z'', ?_, ⟨u, u2, ?_⟩, ?_, ?_⟩, fun c hcm => ?_⟩
    · exact (sb.2 _ D.TIz).trans (hk _ _ D.TIz D.TITO D.TIi1 D.TIi2 hTI)
    · exact (sb.2 _ D.TOz).trans TO'
    · exact h1'.at fun o q => (sb.2 _ D.i1z).trans q
    · exact h2'.at fun o q => (sb.2 _ D.i2z).trans q
    · have hlt : c < s.heap.objs.size := by
        have e' : c = z ∨ c = TI ∨ c = TO ∨ c = i1 ∨ c = i2 := by simpa using hcm
        rcases e' with q | q | q | q | q
        · rw [q]; exact hzl
        · rw [q]; exact Heap.lt_size hTI
        · rw [q]; exact Heap.lt_size hTO
        · rw [q]; obtain ⟨_, e1, _⟩ := h1; exact Heap.lt_size e1
        · rw [q]; obtain ⟨_, e2, _⟩ := h2; exact Heap.lt_size e2
      rw [upd_ne (Nat.ne_of_lt hlt)]
      exact (hf c hcm).1
  done := by
    intro X hP hw hK hc i pins s σ H E I hf st hg
    subst hP hw hK
    obtain ⟨hz, hTI, ⟨x0, y0, hTO⟩, h1, h2⟩ := st
    obtain ⟨xs, ys, hqx, hqy, hend⟩ := hg
    obtain ⟨its, rv, p, _⟩ := I.list hqx
    obtain ⟨its2, rv2, p2, _⟩ := I.list hqy
    have l1 := rv.length
    have l2 := rv2.length
    have he : its.toArray[i]? = none ∨ its2.toArray[i]? = none := by
      rcases hend with q | q
      · exact .inl (by simp; omega)
      · exact .inr (by simp; omega)
    exact wpAny_pyNext_zip_end (I.ok.hd hc) D hz hTI hTO h1 h2 p.isList p2.isList he fun h' hk => ⟨rfl, I.turnedL (t' := s.toks) (ch := [z, TI, TO, i1, i2]) (fun c o hb q =>
      hk c o (fun q' => hb (by simp [q'])) (fun q' => hb (by simp [q'])) (fun q' => hb (by simp [q'])) (fun q' => hb (by simp [q'])) q) hf⟩
  self := fun A i s Q E st h => wpAny_pyIter_zip st.1 h
def iZip (K : PySem.W.Frag) (ta : TA) : TI := fun σ H R => ta σ H fun vs H1 => ∃ a b xs ys, vs = [.ref a, .ref b] ∧ SqL K H1 a xs ∧ SqL K H1 b ys ∧ R (Itz K a b) H1
theorem pi_zip {X : Cx} {e e2 : Expr} {ta : TA} {p pos tpos : Pos} {elts : List Expr} {kk : Nat} (hg : Gl X "zip") (hm : X.mg "zip" = none) (ha : PA X [e, e2] ta)
    (hs : starEach [e, e2] X.env = (false, eval e X.env) :: starEach [e2] X.env := by rfl) (hpl : (backTo pos (starEach [e2] X.env)).any (·.1) = false := by rfl) :
    PI X (.Tuple elts kk tpos) (.Call (.Name "zip" p) [e, e2] [] pos) (iZip X.K ta) := by
  intro pins s σ H R I h
  refine Call_ (ld_blt I hg hm boot_zip5 (PyProof.Rows.callWith_type1 (thn (ha pos pins s σ H _ I h) fun us s1 ⟨vs, H1, I1, r1, q1⟩ => ?_) hs hpl))
  obtain ⟨a, b, xs, ys, ex, hqx, hqy, q⟩ := q1
  subst ex
  cases r1 with
  | cons r rr =>
    cases rr with
    | cons r' rr =>
      cases rr
      cases r
      cases r'
      obtain ⟨its, rv, p1, _⟩ := I1.list hqx
      obtain ⟨its2, rv2, p2, _⟩ := I1.list hqy
      have la : a < s1.heap.objs.size := p1.lt
      have lb : b < s1.heap.objs.size := p2.lt
      refine call_zip_2 p1.isList p2.isList fun h' hz hTI hTO h1 h2 hsz hk => wpAny_pyIter_zip hz ?_
      have I2 : Inv X pins σ H1 { s1 with heap := h' } := I1.kept (t' := s1.toks) hk
      refine ⟨s1.heap.objs.size + 4, [s1.heap.objs.size + 4, s1.heap.objs.size + 2, s1.heap.objs.size + 3, s1.heap.objs.size, s1.heap.objs.size + 1], _, _, H1, rfl, I2, turn_zip (PySem.W.ktu_apart s1.heap.objs.size a b la lb), ⟨hz, hTI, ⟨_, _, hTO⟩, h1, h2⟩, fun c hcm => ?_, q⟩
      have e' : c = s1.heap.objs.size + 4 ∨ c = s1.heap.objs.size + 2 ∨ c = s1.heap.objs.size + 3 ∨ c = s1.heap.objs.size ∨ c = s1.heap.objs.size + 1 := by simpa using hcm
      have hle : s1.heap.objs.size ≤ c := by
        rcases e' with z | z | z | z | z
        · rw [z]; exact Nat.le_add_right _ _
        · rw [z]; exact Nat.le_add_right _ _
        · rw [z]; exact Nat.le_add_right _ _
        · rw [z]; exact Nat.le_refl _
        · rw [z]; exact Nat.le_add_right _ _
      exact I1.fpOk hle (I1.hok.fresh hle)
end L2
section 
namespace Bits
open PySem PyProof.Rows
end Bits
end 
section 
namespace TL
open PySem PySem.Builtin PySem.Builtin.Str PySem.StrLaws
abbrev tl (x : Str) : List Nat := x.cps.toList
def pre (S l : List Nat) : Bool := l.take S.length == S
def par (S : List Nat) : List Nat → List Nat → Option (List Nat × List Nat)
  | _, [] => none
  | acc, c :: r => if pre S (c :: r) = true then some (acc, (c :: r).drop S.length) else par S (acc ++ [c]) r
end TL
end 
namespace L2
open PySem PySem.Spec PyProof.Rows
end L2
namespace L2
open PySem PySem.Spec PyProof.Rows
end L2
namespace Att
open PySem PySem.W PySem.Calls PyProof.Rows
end Att
namespace L2
open PySem PySem.Spec PyProof.Rows
end L2
namespace L2
open PySem PySem.Spec PyProof.Rows
end L2
namespace L2
open PySem PySem.Spec PyProof.Rows
def inClass (s : Stmt) (j : Nat) : Stmt := match s with
  | .ClassDef _ _ _ body _ _ _ _ _ _ _ => body.getD j (.Pass ⟨0, 0, 0, 0⟩)
  | _ => .Pass ⟨0, 0, 0, 0⟩
def defArgs (s : Stmt) : Arguments := match s with
  | .FunctionDef _ a _ _ _ _ _ _ _ _ => a
  | _ => { posonlyargs := [], args := [], vararg := none, kwonlyargs := [], kw_defaults := [], kwarg := none, defaults := [] }
def defBody (s : Stmt) : List Stmt := match s with
  | .FunctionDef _ _ b _ _ _ _ _ _ _ => b
  | _ => []
def defScope (s : Stmt) : Scope := match s with
  | .FunctionDef _ _ _ _ _ _ sc _ _ _ => sc
  | _ => { kind := .function, names := [], isGenerator := false, isCoroutine := false }
abbrev CX0 : CXT := fun _ _ _ _ _ _ => False
abbrev E0 : XK := fun _ _ _ => False
theorem pass0 {X : Cx} : Passes CX0 X E0 := fun _ _ _ _ _ _ _ h => h.elim
structure Fun (K : PySem.W.Frag) (x qual : Str) (st : Stmt) (f : Addr) (fd : FuncData) : Prop where
  ex : ∃ (oc : Value) (od : Option Addr) (kV doc pm : Value) (an : Option Addr) (cdv ct : Value) (osl : Array (Option Value)),
    fd = PySem.W.fnOf x qual (defArgs st) (defBody st) (defScope st) .none kV doc pm an cdv ct ∧ K.lookup f = some ⟨oc, od, .func fd, osl⟩ ∧ PySem.W.codeIn K cdv qual = true
  kp : PySem.W.keepIn K (.ref f) = true
section
variable {P : Program} {w : World} {K : PySem.W.Frag} {mg : Str → Option Value} {base : Heap}
theorem Fun.ok {x qual : Str} {st : Stmt} {f : Addr} {fd : FuncData} {N ps : List Str} {k : Nat} {sp : Sp} (F : Fun K x qual st f fd) (S : FnScope N ps (defScope st)) (len : ∀ vs H Q E, sp vs H Q E → vs.length = ps.length)
    (hbody : ∀ (cdv : Value) (A : Around) (outer : List Env) (s : Shared) (H : Hp) (vs : List V) (Q : VK) (E : XK), Room k (A.deeper (envOfC qual (defScope st) s.heap.objs.size f cdv)) → sp vs H Q E →
      ∃ t, PSs (cxOf CX0 P w K mg base N qual (defScope st) f cdv A outer s H E).nox (defBody st) t ∧ t { nx := fun _ H' => Q .non H', rt := Q } (start N vs) H) : FnOk P w K mg base CX0 (k + 1) f fd ps sp := by
  obtain ⟨oc, od, kV, doc, pm, an, cdv, ct, osl, rfl, lk, hcd⟩ := F.ex
  refine fn_of lk hcd S len fun A outer s H vs Q E hr hsp => ?_
  obtain ⟨t, h, q⟩ := hbody cdv A outer s H vs Q E hr hsp
  exact ⟨t, h.nox, q⟩
theorem Fun.binds {x qual : Str} {st : Stmt} {f : Addr} {fd : FuncData} {ps : List Str} (F : Fun K x qual st f fd)
    (h : ∀ (kV doc pm : Value) (an : Option Addr) (cdv ct : Value) (us : List Value), us.length = ps.length → bindArgs (PySem.W.fnOf x qual (defArgs st) (defBody st) (defScope st) .none kV doc pm an cdv ct) ⟨us, []⟩ = pure (ps.zip us)) : Binds K fd ps [] := by
  obtain ⟨oc, od, kV, doc, pm, an, cdv, ct, osl, rfl, lk, hcd⟩ := F.ex
  exact .all (h kV doc pm an cdv ct)
theorem fun_mk {x qual : Str} {st : Stmt} {f : Addr} {oc : Value} {od an : Option Addr} {osl : Array (Option Value)} {kV doc pm cdv ct : Value} (l : K.lookup f = some ⟨oc, od, .func (PySem.W.fnOf x qual (defArgs st) (defBody st) (defScope st) .none kV doc pm an cdv ct), osl⟩)
    (c : PySem.W.codeIn K cdv qual = true) (k : PySem.W.keepIn K (.ref f) = true) : Fun K x qual st f (PySem.W.fnOf x qual (defArgs st) (defBody st) (defScope st) .none kV doc pm an cdv ct) := ⟨⟨oc, od, kV, doc, pm, an, cdv, ct, osl, rfl, l, c⟩, k⟩
end
section
variable {X : Cx}
theorem pv (i : Nat) {x : Str} {pos : Pos} (hN : X.N[i]? = some x := by rfl) (hv : Vis X.env.scope x := by first | exact Or.inl rfl | exact Or.inr (Or.inl rfl) | exact Or.inr (Or.inr rfl)) (hd : (x == ("__debug__" : Str)) = false := by decide)
    (hcd : (x == ("__classdict__" : Str)) = false := by decide) : PE X (.Name x pos) (tVar i) := pe_var hN hv hd hcd
end
theorem iteF {A B : Prop} (h : B) : if false = true then A else B := by
  rw [if_neg Bool.false_ne_true]
  exact h
theorem iteT {A B : Prop} (h : A) : if true = true then A else B := by
  rw [if_pos rfl]
  exact h
theorem ite2 {c A B : Prop} [Decidable c] (h1 : c → A) (h2 : ¬ c → B) : if c then A else B := by
  by_cases h : c
  · rw [if_pos h]
    exact h1 h
  · rw [if_neg h]
    exact h2 h
def Same (H H' : Hp) : Prop := ∀ b o, H b = some o → H' b = some o
theorem Same.refl (H : Hp) : Same H H := fun _ _ h => h
theorem Same.trans {H H1 H2 : Hp} (a : Same H H1) (b : Same H1 H2) : Same H H2 := fun c o h => b c o (a c o h)
theorem Same.free {H H' : Hp} (e : Same H H') {l : Addr} (h : H' l = Option.none) : H l = Option.none := by
  cases q : H l with
  | none => rfl
  | some o =>
    rw [e l o q] at h
    cases h
theorem Same.seq {K : PySem.W.Frag} {H H' : Hp} {a : Addr} {xs : List V} (e : Same H H') (h : SqL K H a xs) : SqL K H' a xs := by
  rcases h with (h | ⟨o, h⟩) | h
  · exact .inl (.inl (e _ _ h))
  · exact .inl (.inr ⟨o, e _ _ h⟩)
  · exact .inr h
theorem Same.made {H H1 : Hp} {x dx C : Addr} (nx : H x = Option.none) (nd : H dx = Option.none) (k : ∀ b o, (upd (upd H dx (.own x)) x (.ins C dx [])) b = some o → b ≠ x → H1 b = some o) : Same H H1 := fun b o e =>
  k b o (by rw [upd_ne (ne_of_none e nx), upd_ne (ne_of_none e nd)]; exact e) (ne_of_none e nx)
end L2
end
section
set_option Elab.async false
set_option linter.all false
set_option maxRecDepth 100000
set_option maxHeartbeats 2000000
namespace L2
open PySem PySem.Spec PyProof.Rows
open PySem.W (WData Codec OpenSpec Well WellAll ReadsW ReadsAllW)
mutual
/-- x stands for the datum d, lists and tuples all the way -/
inductive Dw (K : PySem.W.Frag) (H : Hp) : V → WData → Prop
  | non : Dw K H .non .none
  | bl (b : Bool) : Dw K H (.bl b) (.bool b)
  | int (i : Int) : Dw K H (.int i) (.int i)
  | str (x : Str) : Dw K H (.str x) (.str x)
  | byt (b : Array UInt8) : Dw K H (.byt b) (.bytes b.toList)
  | lst {a : Addr} {xs : List V} {ds : List WData} : SqL K H a xs → DwAll K H xs ds → Dw K H (.ref a) (.list ds)
  | tup {a : Addr} {xs : List V} {ds : List WData} : SqT K H a xs → DwAll K H xs ds → Dw K H (.ref a) (.tuple ds)
inductive DwAll (K : PySem.W.Frag) (H : Hp) : List V → List WData → Prop
  | nil : DwAll K H [] []
  | cons {v : V} {vs : List V} {d : WData} {ds : List WData} : Dw K H v d → DwAll K H vs ds → DwAll K H (v :: vs) (d :: ds)
end
theorem dw_ints {K : PySem.W.Frag} {H : Hp} : ∀ ns : List Int, DwAll K H (ns.map V.int) (ns.map WData.int)
  | [] => .nil
  | n :: r => .cons (.int n) (dw_ints r)
theorem ints_dw {K : PySem.W.Frag} {H : Hp} : ∀ (ns : List Int) (xs : List V), DwAll K H xs (ns.map WData.int) → xs = ns.map V.int
  | [], xs, h => by
    cases h
    rfl
  | n :: r, xs, h => by
    cases h with
    | cons h1 h2 =>
      cases h1
      rw [ints_dw r _ h2] <;> rfl
section
variable {P : Program} {w : World} {K : PySem.W.Frag} {H : Hp} {h : Heap} {R : PySem.W.WRecords} {cl : Str → Option Addr}
theorem sqL_at {a : Addr} {xs : List V} (hok : HOk P w H h) (KX : K.In h) (q : SqL K H a xs) : ∃ (its : List Value) (o : Obj) (n : Nat), Vals xs its ∧ h.get? a = some o ∧ o.cls = .type "list" ∧ o.data = .seq its.toArray n := by
  rcases q with q | ⟨o, its, n, e, hc, _, hd, _, hv⟩
  · obtain ⟨_, its, n, hv, e⟩ := (show ObjOk P w H h a (.lst xs) from q.ok hok)
    exact ⟨its, _, n, hv, e, rfl, rfl⟩
  · exact ⟨its.toList, o, n, hv, KX _ _ e, hc, by simp [hd]⟩
theorem sqT_at {a : Addr} {xs : List V} (hok : HOk P w H h) (KX : K.In h) (q : SqT K H a xs) : ∃ (its : List Value) (o : Obj) (n : Nat), Vals xs its ∧ h.get? a = some o ∧ o.cls = .type "tuple" ∧ o.data = .seq its.toArray n := by
  rcases q with q | ⟨o, its, n, e, hc, hd, _, hv⟩
  · obtain ⟨_, its, hv, o, e, hc, n, hd⟩ := (show ObjOk P w H h a (.tup xs) from q.ok hok)
    exact ⟨its, o, n, hv, e, hc, hd⟩
  · exact ⟨its.toList, o, n, hv, KX _ _ e, hc, by simp [hd]⟩
mutual
theorem Dw.reads (hok : HOk P w H h) (KX : K.In h) : ∀ (d : WData) (v : V) (u : Value), Dw K H v d → RelV v u → ∃ as, ReadsW R cl h u d as
  | .none, _, _, x, r => by
    cases x
    cases r
    exact ⟨_, ReadsW.none⟩
  | .bool b, _, _, x, r => by
    cases x
    cases r
    exact ⟨_, ReadsW.bool b⟩
  | .int i, _, _, x, r => by
    cases x
    obtain ⟨t, rfl⟩ := r
    exact ⟨_, ReadsW.int i t⟩
  | .str s, _, _, x, r => by
    cases x
    obtain ⟨t, rfl⟩ := r
    exact ⟨_, ReadsW.str s t⟩
  | .bytes b, _, _, x, r => by
    cases x
    obtain ⟨t, rfl⟩ := r
    exact ⟨_, ReadsW.bytes _ t⟩
  | .list ds, _, _, x, r => by
    cases x with
    | lst hs ha =>
      cases r
      obtain ⟨its, o, n, rv, ho, hc, hd⟩ := sqL_at hok KX hs
      obtain ⟨as, hr⟩ := Dw.readsAll hok KX ds _ its ha rv
      exact ⟨_, ReadsW.list ho hc hd hr⟩
  | .tuple ds, _, _, x, r => by
    cases x with
    | tup hs ha =>
      cases r
      obtain ⟨its, o, n, rv, ho, hc, hd⟩ := sqT_at hok KX hs
      obtain ⟨as, hr⟩ := Dw.readsAll hok KX ds _ its ha rv
      exact ⟨_, ReadsW.tuple ho hc hd hr⟩
  | .float _, _, _, x, _ => by cases x
  | .dict _, _, _, x, _ => by cases x
  | .bytearray _, _, _, x, _ => by cases x
  | .set _, _, _, x, _ => by cases x
  | .frozenset _, _, _, x, _ => by cases x
  | .obj _ _, _, _, x, _ => by cases x
theorem Dw.readsAll (hok : HOk P w H h) (KX : K.In h) : ∀ (ds : List WData) (vs : List V) (us : List Value), DwAll K H vs ds → Vals vs us → ∃ as, ReadsAllW R cl h us ds as
  | [], _, _, x, r => by
    cases x
    cases r
    exact ⟨_, ReadsAllW.nil⟩
  | d :: ds, _, _, x, r => by
    cases x with
    | cons h1 h2 =>
      cases r with
      | cons r1 r2 =>
        obtain ⟨as, q1⟩ := Dw.reads hok KX d _ _ h1 r1
        obtain ⟨bs, q2⟩ := Dw.readsAll hok KX ds _ _ h2 r2
        exact ⟨_, ReadsAllW.cons q1 q2⟩
end
end
mutual
/-- data that a codec tells -/
def plW : WData → Bool
  | .none => true
  | .bool _ => true
  | .int _ => true
  | .str _ => true
  | .bytes _ => true
  | .list xs => plWs xs
  | .tuple xs => plWs xs
  | _ => false
def plWs : List WData → Bool
  | [] => true
  | x :: r => plW x && plWs r
end
theorem plWs_map {α : Type} {f : α → WData} (h : ∀ a, plW (f a) = true) : ∀ l : List α, plWs (l.map f) = true
  | [] => rfl
  | x :: r => by
    show (plW (f x) && plWs (r.map f)) = true
    rw [h x, plWs_map h r] <;> rfl
theorem pl_enc : ∀ (c : Codec) (a : c.denote), plW (c.enc a) = true
  | .unit, _ => rfl
  | .bool, _ => rfl
  | .int _ _, _ => rfl
  | .nat _ _, _ => rfl
  | .u8, _ => rfl
  | .bytes _ _, _ => rfl
  | .text _ _ _ _, _ => rfl
  | .list _ _ c, a => plWs_map (fun x => pl_enc c x) a
  | .pair c d, a => by
    show (plW (c.enc a.1) && (plW (d.enc a.2) && true)) = true
    rw [pl_enc c a.1, pl_enc d a.2] <;> rfl
  | .triple c d e, a => by
    show (plW (c.enc a.1) && (plW (d.enc a.2.1) && (plW (e.enc a.2.2) && true))) = true
    rw [pl_enc c a.1, pl_enc d a.2.1, pl_enc e a.2.2] <;> rfl
  | .option c, none => rfl
  | .option c, some x => pl_enc c x
theorem pl_encAll : ∀ (cs : List Codec) (a : Codec.denoteAll cs), plWs (Codec.encAll cs a) = true
  | [], _ => rfl
  | c :: cs, a => by
    show (plW (c.enc a.1) && plWs (Codec.encAll cs a.2)) = true
    rw [pl_enc c a.1, pl_encAll cs a.2] <;> rfl
theorem weight_mem : ∀ {xs : List WData} {d : WData}, d ∈ xs → d.weight ≤ WData.weightAll xs
  | [], d, h => absurd h (by simp)
  | x :: r, d, h => by
    show d.weight ≤ x.weight + 1 + WData.weightAll r
    rcases List.mem_cons.mp h with e | m
    · rw [e]
      omega
    · have z := weight_mem m
      omega
def toV : Value → V
  | .none => .non
  | .bool b => .bl b
  | .int i _ => .int i
  | .str x _ => .str x
  | .bytes b _ => .byt b
  | .ref a => .ref a
  | _ => .non
def OkU (A : List Addr) : Value → Prop
  | .none => True
  | .bool _ => True
  | .int _ _ => True
  | .str _ _ => True
  | .bytes _ _ => True
  | .ref a => a ∈ A
  | _ => False
theorem OkU.mono {A B : List Addr} (h : ∀ a ∈ A, a ∈ B) : ∀ {u : Value}, OkU A u → OkU B u := fun {u} x => by
  cases u with
  | ref a => exact h a x
  | none => trivial
  | bool b => trivial
  | int i t => trivial
  | str s t => trivial
  | bytes b t => trivial
  | _ => exact False.elim x
theorem relV_toV {A : List Addr} {u : Value} (x : OkU A u) : RelV (toV u) u := by
  cases u with
  | ref a => rfl
  | none => rfl
  | bool b => rfl
  | int i t => exact ⟨t, rfl⟩
  | str s t => exact ⟨t, rfl⟩
  | bytes b t => exact ⟨t, rfl⟩
  | _ => exact False.elim x
theorem vals_toV {A : List Addr} : ∀ {vs : List Value}, (∀ u ∈ vs, OkU A u) → Vals (vs.map toV) vs
  | [], _ => .nil
  | u :: r, h => .cons (relV_toV (h u (List.mem_cons_self ..))) (vals_toV fun x hx => h x (List.mem_cons_of_mem _ hx))
def ArgOb (h : Heap) (A : List Addr) (a : Addr) : Prop := ∃ vs : List Value, vs.length ≤ sizeLine ∧ (∀ u ∈ vs, OkU A u) ∧
  (h.get? a = some { cls := .type "list", data := .seq vs.toArray } ∨ h.get? a = some { cls := .type "tuple", data := .seq vs.toArray })
theorem ArgOb.mono {h : Heap} {A B : List Addr} {a : Addr} (k : ∀ a ∈ A, a ∈ B) (x : ArgOb h A a) : ArgOb h B a := by
  obtain ⟨vs, h1, h2, h3⟩ := x
  exact ⟨vs, h1, fun u hu => (h2 u hu).mono k, h3⟩
theorem wellAll_len {P : Params} {h : Heap} : ∀ {vs : List Value} {ds : List WData}, WellAll P h vs ds → vs.length = ds.length
  | _, _, .nil => rfl
  | _, _, .cons _ b => by
    show _ + 1 = _ + 1
    rw [wellAll_len b]
theorem well_list {P : Params} {h : Heap} {v : Value} {ds : List WData} (x : Well P h v (.list ds)) : ∃ (a : Addr) (vs : List Value), v = .ref a ∧ h.get? a = some { cls := .type "list", data := .seq vs.toArray } ∧ WellAll P h vs ds := by
  cases x with
  | list ho hall => exact ⟨_, _, rfl, ho, hall⟩
theorem well_tuple {P : Params} {h : Heap} {v : Value} {ds : List WData} (x : Well P h v (.tuple ds)) : ∃ (a : Addr) (vs : List Value), v = .ref a ∧ h.get? a = some { cls := .type "tuple", data := .seq vs.toArray } ∧ WellAll P h vs ds := by
  cases x with
  | tuple ho hall => exact ⟨_, _, rfl, ho, hall⟩
theorem well_cons {P : Params} {h : Heap} {us : List Value} {d : WData} {ds : List WData} (x : WellAll P h us (d :: ds)) : ∃ (v : Value) (vs : List Value), us = v :: vs ∧ Well P h v d ∧ WellAll P h vs ds := by
  cases x with
  | cons a b => exact ⟨_, _, rfl, a, b⟩
theorem line_of {n : Nat} (h : n ≤ 1048576) : n ≤ sizeLine := Nat.le_trans h (by decide)
section
variable {P : Params} {h : Heap}
mutual
theorem area_one : ∀ (d : WData) (v : Value), Well P h v d → plW d = true → d.weight ≤ 1048576 → ∃ A : List Addr, OkU A v ∧ ∀ a ∈ A, ArgOb h A a
  | .none, _, x, _, _ => by
    cases x
    exact ⟨[], trivial, fun a m => absurd m (by simp)⟩
  | .bool b, _, x, _, _ => by
    cases x
    exact ⟨[], trivial, fun a m => absurd m (by simp)⟩
  | .int i, _, x, _, _ => by
    cases x
    exact ⟨[], trivial, fun a m => absurd m (by simp)⟩
  | .str s, _, x, _, _ => by
    cases x
    exact ⟨[], trivial, fun a m => absurd m (by simp)⟩
  | .bytes b, _, x, _, _ => by
    cases x
    exact ⟨[], trivial, fun a m => absurd m (by simp)⟩
  | .list ds, _, x, p, z => by
    obtain ⟨a, vs, rfl, ho, hall⟩ := well_list x
    have z2 : WData.weightAll ds ≤ 1048576 := z
    obtain ⟨A, h1, h2⟩ := area_all ds _ hall p fun d hd => Nat.le_trans (weight_mem hd) z2
    have k : ∀ b ∈ A, b ∈ a :: A := fun b hb => List.mem_cons_of_mem _ hb
    refine ⟨a :: A, List.mem_cons_self .., fun b hb => ?_⟩
    rcases List.mem_cons.mp hb with e | m
    · rw [e]
      exact ⟨vs, line_of (by rw [wellAll_len hall]; exact Nat.le_trans (PySem.W.length_le_weightAllW ds) z2), fun u hu => (h1 u hu).mono k, .inl ho⟩
    · exact (h2 b m).mono k
  | .tuple ds, _, x, p, z => by
    obtain ⟨a, vs, rfl, ho, hall⟩ := well_tuple x
    have z2 : WData.weightAll ds ≤ 1048576 := z
    obtain ⟨A, h1, h2⟩ := area_all ds _ hall p fun d hd => Nat.le_trans (weight_mem hd) z2
    have k : ∀ b ∈ A, b ∈ a :: A := fun b hb => List.mem_cons_of_mem _ hb
    refine ⟨a :: A, List.mem_cons_self .., fun b hb => ?_⟩
    rcases List.mem_cons.mp hb with e | m
    · rw [e]
      exact ⟨vs, line_of (by rw [wellAll_len hall]; exact Nat.le_trans (PySem.W.length_le_weightAllW ds) z2), fun u hu => (h1 u hu).mono k, .inr ho⟩
    · exact (h2 b m).mono k
  | .float _, _, _, p, _ => Bool.noConfusion (show false = true from p)
  | .dict _, _, _, p, _ => Bool.noConfusion (show false = true from p)
  | .bytearray _, _, _, p, _ => Bool.noConfusion (show false = true from p)
  | .set _, _, _, p, _ => Bool.noConfusion (show false = true from p)
  | .frozenset _, _, _, p, _ => Bool.noConfusion (show false = true from p)
  | .obj _ _, _, _, p, _ => Bool.noConfusion (show false = true from p)
theorem area_all : ∀ (ds : List WData) (vs : List Value), WellAll P h vs ds → plWs ds = true → (∀ d ∈ ds, d.weight ≤ 1048576) → ∃ A : List Addr, (∀ u ∈ vs, OkU A u) ∧ ∀ a ∈ A, ArgOb h A a
  | [], _, x, _, _ => by
    cases x
    exact ⟨[], fun u m => absurd m (by simp), fun a m => absurd m (by simp)⟩
  | d :: ds, _, x, p, z => by
    obtain ⟨v, vs, rfl, x1, x2⟩ := well_cons x
    have q : plW d = true ∧ plWs ds = true := Bool.and_eq_true_iff.mp p
    obtain ⟨A, a1, a2⟩ := area_one d v x1 q.1 (z d (List.mem_cons_self ..))
    obtain ⟨B, b1, b2⟩ := area_all ds vs x2 q.2 fun e he => z e (List.mem_cons_of_mem _ he)
    have kA : ∀ b ∈ A, b ∈ A ++ B := fun b hb => List.mem_append.mpr (.inl hb)
    have kB : ∀ b ∈ B, b ∈ A ++ B := fun b hb => List.mem_append.mpr (.inr hb)
    refine ⟨A ++ B, fun u hu => ?_, fun b hb => ?_⟩
    · rcases List.mem_cons.mp hu with e | m
      · rw [e]
        exact a1.mono kA
      · exact (b1 u m).mono kB
    · rcases List.mem_append.mp hb with m | m
      · exact (a2 b m).mono kA
      · exact (b2 b m).mono kB
end
end
def hoOf (o : Obj) : Option HO := match o.data with
  | .seq vs _ => if (o.cls == Value.type "list") = true then some (.frz o (.lst (vs.toList.map toV))) else some (.frz o (.tup (vs.toList.map toV)))
  | _ => none
def argH (K : PySem.W.Frag) (h : Heap) (A : List Addr) : Hp := fun b => if b ∈ A then (if (K.lookup b).isNone = true then (h.get? b).bind hoOf else none) else none
def OnlyF (H : Hp) : Prop := ∀ b, H b = none ∨ ∃ o u, H b = some (.frz o u)
theorem hoOf_lst (vs : List Value) : hoOf { cls := .type "list", data := .seq vs.toArray } = some (.frz { cls := .type "list", data := .seq vs.toArray } (.lst (vs.map toV))) := by
  show (if (Value.type "list" == Value.type "list") = true then some (HO.frz { cls := .type "list", data := .seq vs.toArray } (.lst (vs.toArray.toList.map toV))) else some (HO.frz { cls := .type "list", data := .seq vs.toArray } (.tup (vs.toArray.toList.map toV)))) = _
  rw [if_pos (beq_self_eq_true _)]
theorem hoOf_tup (vs : List Value) : hoOf { cls := .type "tuple", data := .seq vs.toArray } = some (.frz { cls := .type "tuple", data := .seq vs.toArray } (.tup (vs.map toV))) := by
  show (if (Value.type "tuple" == Value.type "list") = true then some (HO.frz { cls := .type "tuple", data := .seq vs.toArray } (.lst (vs.toArray.toList.map toV))) else some (HO.frz { cls := .type "tuple", data := .seq vs.toArray } (.tup (vs.toArray.toList.map toV)))) = _
  rw [if_neg (by decide)]
section
variable {P : Program} {w : World} {K : PySem.W.Frag} {h : Heap} {A : List Addr}
theorem argH_at {b : Addr} {o : Obj} (hb : b ∈ A) (hk : K.lookup b = none) (e : h.get? b = some o) : argH K h A b = hoOf o := by
  unfold argH
  rw [if_pos hb, hk, if_pos (show (none : Option Obj).isNone = true from rfl), e] <;> rfl
theorem of_argH {b : Addr} {u : HO} (q : argH K h A b = some u) : b ∈ A ∧ K.lookup b = none := by
  unfold argH at q
  by_cases hb : b ∈ A
  · rw [if_pos hb] at q
    cases hk : K.lookup b with
    | none => exact ⟨hb, rfl⟩
    | some o =>
      rw [hk, if_neg (by simp)] at q
      cases q
  · rw [if_neg hb] at q
    cases q
theorem argH_is (ar : ∀ a ∈ A, ArgOb h A a) {b : Addr} {u : HO} (q : argH K h A b = some u) : K.lookup b = none ∧ ∃ vs : List Value, vs.length ≤ sizeLine ∧ (∀ u ∈ vs, OkU A u) ∧
    ((h.get? b = some { cls := .type "list", data := .seq vs.toArray } ∧ u = .frz { cls := .type "list", data := .seq vs.toArray } (.lst (vs.map toV))) ∨
     (h.get? b = some { cls := .type "tuple", data := .seq vs.toArray } ∧ u = .frz { cls := .type "tuple", data := .seq vs.toArray } (.tup (vs.map toV)))) := by
  obtain ⟨hb, hk⟩ := of_argH q
  obtain ⟨vs, h1, h2, h3⟩ := ar b hb
  refine ⟨hk, vs, h1, h2, ?_⟩
  rcases h3 with e | e
  · rw [argH_at hb hk e, hoOf_lst] at q
    exact .inl ⟨e, (Option.some.inj q).symm⟩
  · rw [argH_at hb hk e, hoOf_tup] at q
    exact .inr ⟨e, (Option.some.inj q).symm⟩
theorem argH_only (ar : ∀ a ∈ A, ArgOb h A a) : OnlyF (argH K h A) := fun b => by
  cases q : argH K h A b with
  | none => exact .inl rfl
  | some u =>
    obtain ⟨_, vs, _, _, ⟨_, e⟩ | ⟨_, e⟩⟩ := argH_is ar q
    · exact .inr ⟨_, _, by rw [e]⟩
    · exact .inr ⟨_, _, by rw [e]⟩
theorem argH_ok (ar : ∀ a ∈ A, ArgOb h A a) : HOk P w (argH K h A) h := fun b u q => by
  obtain ⟨_, vs, h1, h2, ⟨e, rfl⟩ | ⟨e, rfl⟩⟩ := argH_is ar q
  · exact ⟨e, by rw [List.length_map]; exact h1, vs, _, vals_toV h2, e⟩
  · exact ⟨e, by rw [List.length_map]; exact h1, vs, vals_toV h2, _, e, rfl, _, rfl⟩
theorem seq_inj {c c' : Value} {vs us : List Value} (e : (some { cls := c, data := .seq vs.toArray } : Option Obj) = some { cls := c', data := .seq us.toArray }) : c = c' ∧ vs = us := by
  have e1 := Option.some.inj e
  have e2 : c = c' := congrArg Obj.cls e1
  have e3 : Data.seq vs.toArray = Data.seq us.toArray := congrArg Obj.data e1
  injection e3 with e4
  refine ⟨e2, ?_⟩
  have e5 := congrArg Array.toList e4
  simpa using e5
theorem argL (KX : K.In h) (ar : ∀ a ∈ A, ArgOb h A a) {a : Addr} {vs : List Value} (ha : a ∈ A) (e : h.get? a = some { cls := .type "list", data := .seq vs.toArray }) : (∀ u ∈ vs, OkU A u) ∧ SqL K (argH K h A) a (vs.map toV) := by
  obtain ⟨us, h1, h2, h3⟩ := ar a ha
  have hu : us = vs := by
    rcases h3 with q | q
    · rw [e] at q
      exact (seq_inj q).2.symm
    · rw [e] at q
      exact absurd (Value.type.inj (seq_inj q).1) (by decide)
  subst hu
  refine ⟨h2, ?_⟩
  cases hk : K.lookup a with
  | none => exact .inl (.inr ⟨_, by rw [argH_at ha hk e, hoOf_lst]⟩)
  | some o =>
    have e2 := KX a o hk
    rw [e] at e2
    obtain rfl := Option.some.inj e2
    exact .inr ⟨_, us.toArray, _, hk, rfl, rfl, rfl, by rw [List.size_toArray]; exact h1, by simpa using vals_toV h2⟩
theorem argT (KX : K.In h) (ar : ∀ a ∈ A, ArgOb h A a) {a : Addr} {vs : List Value} (ha : a ∈ A) (e : h.get? a = some { cls := .type "tuple", data := .seq vs.toArray }) : (∀ u ∈ vs, OkU A u) ∧ SqT K (argH K h A) a (vs.map toV) := by
  obtain ⟨us, h1, h2, h3⟩ := ar a ha
  have hu : us = vs := by
    rcases h3 with q | q
    · rw [e] at q
      exact absurd (Value.type.inj (seq_inj q).1) (by decide)
    · rw [e] at q
      exact (seq_inj q).2.symm
  subst hu
  refine ⟨h2, ?_⟩
  cases hk : K.lookup a with
  | none => exact .inl (.inr ⟨_, by rw [argH_at ha hk e, hoOf_tup]⟩)
  | some o =>
    have e2 := KX a o hk
    rw [e] at e2
    obtain rfl := Option.some.inj e2
    exact .inr ⟨_, us.toArray, _, hk, rfl, rfl, by rw [List.size_toArray]; exact h1, by simpa using vals_toV h2⟩
mutual
theorem dw_one {Pm : Params} (KX : K.In h) (ar : ∀ a ∈ A, ArgOb h A a) : ∀ (d : WData) (v : Value), Well Pm h v d → plW d = true → OkU A v → Dw K (argH K h A) (toV v) d
  | .none, _, x, _, _ => by
    cases x
    exact .non
  | .bool b, _, x, _, _ => by
    cases x
    exact .bl b
  | .int i, _, x, _, _ => by
    cases x
    exact .int i
  | .str s, _, x, _, _ => by
    cases x
    exact .str s
  | .bytes b, _, x, _, _ => by
    cases x
    have z := Dw.byt (K := K) (H := argH K h A) b.toArray
    exact z
  | .list ds, _, x, p, hu => by
    obtain ⟨a, vs, rfl, ho, hall⟩ := well_list x
    obtain ⟨h2, hs⟩ := argL KX ar hu ho
    exact .lst hs (dw_all KX ar ds _ hall p h2)
  | .tuple ds, _, x, p, hu => by
    obtain ⟨a, vs, rfl, ho, hall⟩ := well_tuple x
    obtain ⟨h2, hs⟩ := argT KX ar hu ho
    exact .tup hs (dw_all KX ar ds _ hall p h2)
  | .float _, _, _, p, _ => Bool.noConfusion (show false = true from p)
  | .dict _, _, _, p, _ => Bool.noConfusion (show false = true from p)
  | .bytearray _, _, _, p, _ => Bool.noConfusion (show false = true from p)
  | .set _, _, _, p, _ => Bool.noConfusion (show false = true from p)
  | .frozenset _, _, _, p, _ => Bool.noConfusion (show false = true from p)
  | .obj _ _, _, _, p, _ => Bool.noConfusion (show false = true from p)
theorem dw_all {Pm : Params} (KX : K.In h) (ar : ∀ a ∈ A, ArgOb h A a) : ∀ (ds : List WData) (vs : List Value), WellAll Pm h vs ds → plWs ds = true → (∀ u ∈ vs, OkU A u) → DwAll K (argH K h A) (vs.map toV) ds
  | [], _, x, _, _ => by
    cases x
    exact .nil
  | d :: ds, _, x, p, hu => by
    obtain ⟨v, vs, rfl, x1, x2⟩ := well_cons x
    have q : plW d = true ∧ plWs ds = true := Bool.and_eq_true_iff.mp p
    exact .cons (dw_one KX ar d v x1 q.1 (hu _ (List.mem_cons_self ..))) (dw_all KX ar ds vs x2 q.2 fun u m => hu u (List.mem_cons_of_mem _ m))
end
end
theorem spec_call {P : Program} {w : World} {K : PySem.W.Frag} {mg mb : Str → Option Value} {CX : CXT} {k : Nat} {fa : Addr} {fd : FuncData} {ps : List Str} {sp : Sp} {s₁ : Shared} {vals : List Value} {ds : List WData} {R : PySem.W.WRecords} {cl : Str → Option Addr} {d0 : WData}
    (KX : K.In s₁.heap) (hns : s₁.heap.Ns mainGlobals mg) (hb : s₁.heap.Ns builtinsNs mb) (hbb : ∀ x : Str, x ≠ "__name__" → mb x = bootBuiltins x) (hlim : s₁.heap.NoLimit) (hg : s₁.gens = #[])
    (hwl : WellAll w.params s₁.heap vals ds) (hpl : plWs ds = true) (hwt : ∀ d ∈ ds, d.weight ≤ 1048576) (hr : Room k callerA)
    (F : ∀ base : Heap, K.In base → base.Ns mainGlobals mg → FnOk P w K mg base CX k fa fd ps sp) (hbind : ∀ (s : Shared) (us : List Value), us.length = ps.length → BindsTo s fd ⟨us, []⟩ (ps.zip us)) (hlen : ds.length = ps.length)
    (hsp : ∀ (H : Hp) (xs : List V), OnlyF H → DwAll K H xs ds → sp xs H (fun v H' => Dw K H' v d0) fun _ _ _ => False)
    (hCX : ∀ H e s', CX [] H s₁ (fun _ _ _ => False) e s' → False) :
    codeAny (model P w) callerA (.call (.ref fa) ⟨vals, []⟩) (fun r s' => ∃ u as, r = .ok (.ret u) ∧ ReadsW R cl s'.heap u d0 as ∧ OldK s₁.heap s'.heap ∧ s'.os = s₁.os ∧ AllBare s'.gens) s₁ := by
  obtain ⟨A, ho, ar⟩ := area_all ds vals hwl hpl hwt
  have hO : OnlyF (argH K s₁.heap A) := argH_only ar
  have hok : HOk P w (argH K s₁.heap A) s₁.heap := argH_ok ar
  have hS := dw_all KX ar ds vals hwl hpl ho
  have hV := vals_toV ho
  have hK : ∀ b u, argH K s₁.heap A b = some u → K.lookup b = none := fun b u q => (argH_is ar q).1
  have noA : ∀ {b : Addr} {o : Obj} {es : Array DictEntry} {ep : Nat}, s₁.heap.get? b = some o → o.data = .dict es ep → argH K s₁.heap A b = none := fun {b o es ep} e d => by
    cases q : argH K s₁.heap A b with
    | none => rfl
    | some u =>
      obtain ⟨_, vs, _, _, ⟨e2, _⟩ | ⟨e2, _⟩⟩ := argH_is ar q
      · rw [e2] at e
        cases e
        have d' : Data.seq vs.toArray _ = Data.dict es ep := d
        cases d'
      · rw [e2] at e
        cases e
        have d' : Data.seq vs.toArray _ = Data.dict es ep := d
        cases d'
  generalize argH K s₁.heap A = H at hO hok hS hK noA
  have base_of : ∀ {b : Addr} {o : Obj}, s₁.heap.get? b = some o → H b = none → (hidT s₁.heap H).get? b = some o := fun e n => hidT_get e n
  have nsK : ∀ {b : Addr} {m : Str → Option Value}, s₁.heap.Ns b m → (hidT s₁.heap H).Ns b m := fun {b m} ⟨o, es, ep, e, d, r⟩ => ⟨o, es, ep, base_of e (noA e d), d, r⟩
  have nK : ∀ b o, K.lookup b = some o → H b = none := fun b o e => by
    cases q : H b with
    | none => rfl
    | some u =>
      rw [hK b u q] at e
      cases e
  have hKb : K.In (hidT s₁.heap H) := fun b o e => base_of (KX b o e) (nK b o e)
  have hM : Mod K mg (hidT s₁.heap H) := ⟨hKb, nsK hns, ⟨mb, nsK hb, hbb⟩, let ⟨mc, h1, h2⟩ := hlim; ⟨mc, nsK h1, h2⟩⟩
  have e0 : Env0 P w K mg (hidT s₁.heap H) callerA [] s₁ H := ⟨rfl, hM, fun b o e => of_hidT e, Nat.le_of_eq (hidT_size _ _), trivial, fun b hb => absurd (show b ∈ ([] : List Addr) from hb) (by simp), hok, .of_eq hg⟩
  have hl : vals.length = ps.length := by rw [wellAll_len hwl]; exact hlen
  refine codeAny_mono ((F _ hKb (nsK hns)).run callerA [] s₁ H ⟨vals, []⟩ vals (vals.map toV) _ _ hr e0 (hbind s₁ vals hl) hV (hsp H _ hO hS)) fun r s' x => ?_
  cases r with
  | error e => exact (hCX H e s' x).elim
  | ok fl =>
    cases fl with
    | next => exact False.elim x
    | brk => exact False.elim x
    | cont => exact False.elim x
    | ret u =>
      obtain ⟨v, H', os, bare, un, hok', r', q⟩ := x
      have kept : ∀ b o, s₁.heap.get? b = some o → s'.heap.get? b = some o := fun b o e => by
        cases q2 : H b with
        | none => exact un.keep b o e q2 (by intro z; exact absurd (show b ∈ ([] : List Addr) from z) (by simp)) (by simp)
        | some u2 =>
          rcases hO b with z | ⟨ob, u3, z⟩
          · rw [q2] at z
            cases z
          · have z2 := un.frzs b ob _ z
            obtain ⟨e1, _⟩ := hok b _ z
            obtain ⟨e2, _⟩ := hok' b _ z2
            rw [e] at e1
            cases e1
            exact e2
      have KX' : K.In s'.heap := fun b o e => kept b o (KX b o e)
      obtain ⟨as, hrd⟩ := Dw.reads (R := R) (cl := cl) hok' KX' d0 v u q r'
      exact ⟨u, as, rfl, hrd, OldK.of_keep kept, os, bare⟩
theorem layable_weight {ds : List WData} (h : WData.layableAll ds = true) : ∀ d ∈ ds, d.weight ≤ 1048576 := fun d hd =>
  (PySem.W.layableW_iff.mp (List.all_eq_true.mp h d hd)).2.2
theorem encAll_len : ∀ (cs : List Codec) (a : Codec.denoteAll cs), (Codec.encAll cs a).length = cs.length
  | [], _ => rfl
  | c :: cs, a => by
    show (Codec.encAll cs a.2).length + 1 = cs.length + 1
    rw [encAll_len cs a.2]
theorem walk_spec {r : OpenSpec} {k : Nat} {q : Program} {loose : List Str} {XP : (Str → Option Value) → Heap → Prop} {YP : World → Heap → Prop} {d : DefRec} {K : Params → PySem.W.Frag} {CX : World → CXT} {ps : List Str} {sp : World → Sp}
    (hwell : r.wellSaid = true) (hdf : d.params.defaults = []) (hlen : r.args.length = ps.length) (hr : Room k callerA)
    (hY : ∀ (w : World) (h : Heap), YP w h → (K w.params).In h)
    (F : ∀ (w : World) (mg : Str → Option Value) (fa : Addr) (h : Heap), YP w h → (K w.params).In h → h.Ns mainGlobals mg → mg d.name = some (.ref fa) →
      ∃ fd : FuncData, (∀ (s : Shared) (us : List Value), us.length = ps.length → BindsTo s fd ⟨us, []⟩ (ps.zip us)) ∧
        ∀ base : Heap, (K w.params).In base → base.Ns mainGlobals mg → FnOk r.prog w (K w.params) mg base (CX w) k fa fd ps (sp w))
    (hsp : ∀ (w : World) (H : Hp) (xs : List V) (a : Codec.denoteAll r.args), OnlyF H → Codec.withinAll r.args a = true → Codec.app r.args r.asked a = true → DwAll (K w.params) H xs (Codec.encAll r.args a) →
      sp w xs H (fun v H' => Dw (K w.params) H' v (r.ret.enc (Codec.app r.args r.f a))) fun _ _ _ => False)
    (hCX : ∀ (w : World) (H : Hp) (s : Shared) (e : Value) (s' : Shared), CX w [] H s (fun _ _ _ => False) e s' → False) :
    PySem.W.WalkOS q loose XP YP r d [] (fun f vs => PySem.call f vs) := by
  intro w s_0 s₁ mg mb G Y fa o pm cd doc dV kV ho hd hcd hD hmg hg args vals as hpre hlay hrd hwl hlo
  obtain ⟨a, e1, e2⟩ := PySem.W.os_pre_some hpre
  obtain ⟨e3, hwi⟩ := Codec.encAll_of_decAll r.args args a e1
  subst e3
  have KX := hY w _ Y
  obtain ⟨fd, hb, hF⟩ := F w mg fa _ Y KX G.T.g hmg
  refine PySem.W.enter_call (codeAny_mono (spec_call (R := []) (cl := classAt s_0.heap) (d0 := r.ret.enc (Codec.app r.args r.f a)) KX G.T.g G.T.b G.T.builtins G.T.nolimit hg hwl (pl_encAll _ _) (layable_weight hlay) hr hF hb (by rw [encAll_len]; exact hlen)
    (fun H xs hO hS => hsp w H xs a hO hwi e2 hS) fun H e s' => hCX w H s₁ e s') fun r' s' hq => ?_)
  obtain ⟨u, as', rfl, h1, h2, h3, h4⟩ := hq
  exact ⟨.inl ⟨u, _, as', rfl, fun _ => rfl, h1, (OpenSpec.post_iff hwell hwi _ _).mpr rfl, fun z => Bool.noConfusion (show false = true from z)⟩, h2, h3, h4⟩
theorem walk_specK {r : OpenSpec} {k : Nat} {q : Program} {loose : List Str} {XP : (Str → Option Value) → Heap → Prop} {YP : World → Heap → Prop} {d : DefRec} {K : Params → PySem.W.Frag} {CX : CXT} {ps : List Str} {sp : PySem.W.Frag → Sp}
    (hwell : r.wellSaid = true) (hdf : d.params.defaults = []) (hlen : r.args.length = ps.length) (hr : Room k callerA)
    (hY : ∀ (w : World) (h : Heap), YP w h → (K w.params).In h)
    (F : ∀ (w : World) (mg : Str → Option Value) (fa : Addr) (h : Heap), YP w h → (K w.params).In h → h.Ns mainGlobals mg → mg d.name = some (.ref fa) →
      ∃ fd : FuncData, (∀ (s : Shared) (us : List Value), us.length = ps.length → BindsTo s fd ⟨us, []⟩ (ps.zip us)) ∧
        ∀ base : Heap, (K w.params).In base → base.Ns mainGlobals mg → FnOk r.prog w (K w.params) mg base CX k fa fd ps (sp (K w.params)))
    (hsp : ∀ (K : PySem.W.Frag) (H : Hp) (xs : List V) (a : Codec.denoteAll r.args), OnlyF H → Codec.withinAll r.args a = true → Codec.app r.args r.asked a = true → DwAll K H xs (Codec.encAll r.args a) →
      sp K xs H (fun v H' => Dw K H' v (r.ret.enc (Codec.app r.args r.f a))) fun _ _ _ => False)
    (hCX : ∀ (H : Hp) (s : Shared) (e : Value) (s' : Shared), CX [] H s (fun _ _ _ => False) e s' → False) :
    PySem.W.WalkOS q loose XP YP r d [] (fun f vs => PySem.call f vs) :=
  walk_spec (K := K) (CX := fun _ => CX) (sp := fun w => sp (K w.params)) hwell hdf hlen hr hY F (fun w H xs a h1 h2 h3 h4 => hsp (K w.params) H xs a h1 h2 h3 h4) fun _ H s e s' => hCX H s e s'
end L2
end
section
set_option Elab.async false
set_option maxHeartbeats 4000000
namespace Lw
open Kp155
/-! the numbers -/
def flowDown (w h : Int) : Int := if h / 8 < w / 4 then h / 8 else w / 4
def flowI (a b c d : Int) : Int := if 0 < a + b - (c + d) then flowDown b (a + b - (c + d)) else -(flowDown d (-(a + b - (c + d))))
theorem flowDown_nat (w h : Nat) : flowDown (w : Int) (h : Int) = ((min (w / 4) (h / 8) : Nat) : Int) := by
  unfold flowDown
  split <;> omega
theorem flow_eq (ga wa gb wb : Nat) : flowI ga wa gb wb = Kp154.flow ⟨ga, wa⟩ ⟨gb, wb⟩ := by
  unfold flowI Kp154.flow Kp154.level
  dsimp only
  split
  · rw [if_pos (by omega)]
    have e : (ga : Int) + wa - (gb + wb) = ((ga + wa - (gb + wb) : Nat) : Int) := by omega
    rw [e, flowDown_nat]
  · rw [if_neg (by omega)]
    have e : -((ga : Int) + wa - (gb + wb)) = ((gb + wb - (ga + wa) : Nat) : Int) := by omega
    rw [e, flowDown_nat]
/-- no more flows off a place than a quarter of its water -/
theorem flow_ge (a b : Kp154.Place) : -((b.water / 4 : Nat) : Int) ≤ Kp154.flow a b := by
  unfold Kp154.flow
  split <;> omega
/-! places in a row of numbers -/
theorem idx_lt {w h x y : Nat} (hx : x < w) (hy : y < h) : y * w + x < w * h := by
  have h1 : y * w + w ≤ h * w := by rw [← Nat.succ_mul]; exact Nat.mul_le_mul_right w hy
  rw [Nat.mul_comm w h]; omega
theorem idx_x {w x y : Nat} (hx : x < w) : (y * w + x) % w = x := by
  rw [Nat.mul_add_mod', Nat.mod_eq_of_lt hx]
theorem idx_y {w x y : Nat} (hx : x < w) : (y * w + x) / w = y := by
  rw [Nat.add_comm, Nat.add_mul_div_right _ _ (by omega), Nat.div_eq_of_lt hx, Nat.zero_add]
theorem idx_inj {w x y x' y' : Nat} (hx : x < w) (hx' : x' < w) (e : y * w + x = y' * w + x') : x = x' ∧ y = y' := by
  have e1 : (y * w + x) % w = (y' * w + x') % w := by rw [e]
  have e2 : (y * w + x) / w = (y' * w + x') / w := by rw [e]
  rw [idx_x hx, idx_x hx'] at e1
  rw [idx_y hx, idx_y hx'] at e2
  exact ⟨e1, e2⟩
/-- the rows of the document's board and the program's list say the same on the land -/
structure G (w h : Nat) (r : Rows) (l : List Int) : Prop where
  rl : r.length = 4096
  ll : l.length = w * h
  eq : ∀ x y : Nat, x < w → y < h → l[y * w + x]? = some ((at_ r x y : Nat) : Int)
theorem at_put {r : Rows} {x y v x' y' : Nat} (hr : r.length = 4096) (hx : x < 64) (hy : y < 64) (hx' : x' < 64) : at_ (put r x y v) x' y' = if x' = x ∧ y' = y then v else at_ r x' y' := by
  unfold at_ put SIDE
  have hl := idx_lt (w := 64) (h := 64) hx hy
  by_cases c : x' = x ∧ y' = y
  · obtain ⟨rfl, rfl⟩ := c
    rw [if_pos ⟨rfl, rfl⟩, List.getD_eq_getElem?_getD, List.getElem?_set_self (by omega)]
    rfl
  · rw [if_neg c, List.getD_eq_getElem?_getD, List.getElem?_set_ne, ← List.getD_eq_getElem?_getD]
    intro e
    obtain ⟨e1, e2⟩ := idx_inj hx hx' e
    exact c ⟨e1.symm, e2.symm⟩
theorem put_len (r : Rows) (x y v : Nat) : (put r x y v).length = r.length := List.length_set
theorem G.put {w h : Nat} {r : Rows} {l : List Int} (g : G w h r l) (hw : w ≤ 64) (hh : h ≤ 64) {x y v : Nat} (hx : x < w) (hy : y < h) : G w h (put r x y v) (l.set (y * w + x) (v : Int)) where
  rl := by rw [put_len]; exact g.rl
  ll := by rw [List.length_set]; exact g.ll
  eq := fun x' y' hx' hy' => by
    rw [at_put g.rl (by omega) (by omega) (by omega)]
    by_cases c : x' = x ∧ y' = y
    · obtain ⟨rfl, rfl⟩ := c
      rw [if_pos ⟨rfl, rfl⟩, List.getElem?_set_self (by rw [g.ll]; exact idx_lt hx hy)]
    · rw [if_neg c, List.getElem?_set_ne, g.eq x' y' hx' hy']
      intro e
      obtain ⟨e1, e2⟩ := idx_inj hx hx' e
      exact c ⟨e1.symm, e2.symm⟩
theorem G.replicate {w h : Nat} (hw : w ≤ 64) (hh : h ≤ 64) : G w h (List.replicate (SIDE * SIDE) 0) (List.replicate (w * h) 0) where
  rl := by rw [List.length_replicate]; rfl
  ll := List.length_replicate
  eq := fun x y hx hy => by
    rw [List.getElem?_replicate, if_pos (idx_lt hx hy)]
    unfold at_
    have hi := idx_lt (w := 64) (h := 64) (x := x) (y := y) (by omega) (by omega)
    rw [List.getD_eq_getElem?_getD, List.getElem?_replicate, if_pos (show y * SIDE + x < SIDE * SIDE from hi)]
    rfl
theorem flatMap_len {α β : Type} {f : α → List β} {n : Nat} (hf : ∀ a, (f a).length = n) : ∀ l : List α, (l.flatMap f).length = l.length * n
  | [] => by simp
  | a :: l => by rw [List.flatMap_cons, List.length_append, hf, flatMap_len hf l, List.length_cons, Nat.succ_mul]; omega
theorem flatMap_at {α β : Type} {f : α → List β} {n : Nat} (hf : ∀ a, (f a).length = n) : ∀ (l : List α) (y x : Nat), x < n → (l.flatMap f)[y * n + x]? = (l[y]?).bind fun a => (f a)[x]?
  | [], y, x, _ => by simp
  | a :: l, 0, x, h => by
    rw [List.flatMap_cons, Nat.zero_mul, Nat.zero_add, List.getElem?_append_left (by rw [hf]; exact h)]
    rfl
  | a :: l, y + 1, x, h => by
    rw [List.flatMap_cons, List.getElem?_append_right (by rw [hf, Nat.succ_mul]; omega), hf]
    have e : (y + 1) * n + x - n = y * n + x := by rw [Nat.succ_mul]; omega
    rw [e, flatMap_at hf l y x h]
    rfl
theorem grid_len (l : Land) (r : List Nat) : (grid l r).length = 4096 := by
  unfold grid
  rw [flatMap_len (n := SIDE) (fun a => by rw [List.length_map, List.length_range]), List.length_range]
  rfl
theorem at_grid (l : Land) (r : List Nat) {x y : Nat} (hx : x < 64) (hy : y < 64) : at_ (grid l r) x y = if x < l.width ∧ y < l.height then r.getD (y * l.width + x) 0 else 0 := by
  unfold at_ grid
  rw [List.getD_eq_getElem?_getD, flatMap_at (n := SIDE) (fun a => by rw [List.length_map, List.length_range]) _ _ _ hx, List.getElem?_range (show y < SIDE from hy)]
  show (((List.range SIDE).map _)[x]?).getD 0 = _
  rw [List.getElem?_map, List.getElem?_range (show x < SIDE from hx)]
  rfl
theorem G.grid {w h : Nat} (hw : w ≤ 64) (hh : h ≤ 64) {gr wt : List Nat} {l : List Nat} (hl : l.length = w * h) : G w h (grid ⟨w, h, gr, wt⟩ l) (l.map fun (x : Nat) => (x : Int)) where
  rl := grid_len _ _
  ll := by rw [List.length_map]; exact hl
  eq := fun x y hx hy => by
    rw [at_grid _ _ (by omega) (by omega), if_pos ⟨hx, hy⟩, List.getElem?_map]
    have hi := idx_lt hx hy
    dsimp only
    rw [List.getD_eq_getElem?_getD, List.getElem?_eq_getElem (by omega)]
    rfl
end Lw
end
section
set_option Elab.async false
set_option maxHeartbeats 4000000
namespace Lw
open Kp155
/-! what flows in at a place, as the program adds it up -/
def atL (l : List Int) (i : Nat) : Int := l.getD i 0
def besideL (w h x y : Nat) : List Nat :=
  (if 0 < x then [y * w + x - 1] else []) ++ (if x + 1 < w then [y * w + x + 1] else []) ++ (if 0 < y then [y * w + x - w] else []) ++ (if y + 1 < h then [y * w + x + w] else [])
def flowAt (g now : List Int) (j i : Nat) : Int := flowI (atL g j) (atL now j) (atL g i) (atL now i)
def inflow (g now : List Int) (w h x y : Nat) : Int := (besideL w h x y).foldl (fun t j => t + flowAt g now j (y * w + x)) (atL now (y * w + x))
theorem atL_some {l : List Int} {i : Nat} {v : Int} (h : l[i]? = some v) : atL l i = v := by
  unfold atL
  rw [List.getD_eq_getElem?_getD, h]
  rfl
theorem G.atL {w h : Nat} {r : Rows} {l : List Int} (g : G w h r l) {x y : Nat} (hx : x < w) (hy : y < h) : atL l (y * w + x) = ((at_ r x y : Nat) : Int) := atL_some (g.eq x y hx hy)
theorem besideL_lt {w h x y : Nat} (hx : x < w) (hy : y < h) : ∀ j ∈ besideL w h x y, j < w * h := by
  have h0 := idx_lt hx hy
  intro j hj
  unfold besideL at hj
  rw [List.mem_append, List.mem_append, List.mem_append] at hj
  rcases hj with ((hj | hj) | hj) | hj
  · split at hj
    · simp at hj; omega
    · simp at hj
  · split at hj
    · have := idx_lt (y := y) (h := h) (show x + 1 < w by assumption) hy
      simp at hj; omega
    · simp at hj
  · split at hj
    · simp at hj; omega
    · simp at hj
  · split at hj
    · have := idx_lt hx (show y + 1 < h by assumption)
      rw [Nat.succ_mul] at this
      simp at hj; omega
    · simp at hj
section
variable {b : Board} {g now : List Int} {x y : Nat}
theorem flowAt_eq (hg : G b.width b.height b.ground g) (hn : G b.width b.height b.water now) (hx : x < b.width) (hy : y < b.height) {x' y' j : Nat} (hx' : x' < b.width) (hy' : y' < b.height) (e : j = y' * b.width + x') :
    flowAt g now j (y * b.width + x) = Kp154.flow (place b x' y') (place b x y) := by
  subst e
  unfold flowAt
  rw [hg.atL hx hy, hn.atL hx hy, hg.atL hx' hy', hn.atL hx' hy', flow_eq]
  rfl
theorem on_iff (b : Board) (u v : Int) : on b u v = true ↔ 0 ≤ u ∧ u < b.width ∧ 0 ≤ v ∧ v < b.height := by
  unfold on
  simp only [Bool.and_eq_true, decide_eq_true_eq]
  omega
theorem from_left (hx : x < b.width) (hy : y < b.height) : from_ b x y ((x : Int) - 1) y = if 0 < x then Kp154.flow (place b (x - 1) y) (place b x y) else 0 := by
  unfold from_
  by_cases c : 0 < x
  · rw [if_pos ((on_iff _ _ _).mpr (by omega)), if_pos c]
    have e : ((x : Int) - 1).toNat = x - 1 := by omega
    rw [e]; rfl
  · rw [if_neg (fun q => by have := (on_iff _ _ _).mp q; omega), if_neg c]
theorem from_right (hx : x < b.width) (hy : y < b.height) : from_ b x y ((x : Int) + 1) y = if x + 1 < b.width then Kp154.flow (place b (x + 1) y) (place b x y) else 0 := by
  unfold from_
  by_cases c : x + 1 < b.width
  · rw [if_pos ((on_iff _ _ _).mpr (by omega)), if_pos c]; rfl
  · rw [if_neg (fun q => by have := (on_iff _ _ _).mp q; omega), if_neg c]
theorem from_up (hx : x < b.width) (hy : y < b.height) : from_ b x y x ((y : Int) - 1) = if 0 < y then Kp154.flow (place b x (y - 1)) (place b x y) else 0 := by
  unfold from_
  by_cases c : 0 < y
  · rw [if_pos ((on_iff _ _ _).mpr (by omega)), if_pos c]
    have e : ((y : Int) - 1).toNat = y - 1 := by omega
    rw [e]; rfl
  · rw [if_neg (fun q => by have := (on_iff _ _ _).mp q; omega), if_neg c]
theorem from_down (hx : x < b.width) (hy : y < b.height) : from_ b x y x ((y : Int) + 1) = if y + 1 < b.height then Kp154.flow (place b x (y + 1)) (place b x y) else 0 := by
  unfold from_
  by_cases c : y + 1 < b.height
  · rw [if_pos ((on_iff _ _ _).mpr (by omega)), if_pos c]; rfl
  · rw [if_neg (fun q => by have := (on_iff _ _ _).mp q; omega), if_neg c]
theorem foldl_if (f : Int → Nat → Int) (t : Int) (c : Prop) [Decidable c] (j : Nat) : (if c then [j] else []).foldl f t = if c then f t j else t := by
  split <;> rfl
theorem idx_up {w x y : Nat} (h : 0 < y) : y * w + x - w = (y - 1) * w + x := by
  obtain ⟨z, rfl⟩ : ∃ z, y = z + 1 := ⟨y - 1, by omega⟩
  rw [Nat.succ_mul]
  show z * w + w + x - w = z * w + x
  omega
theorem idx_down {w x y : Nat} : y * w + x + w = (y + 1) * w + x := by
  rw [Nat.succ_mul]; omega
theorem inflow_eq (hg : G b.width b.height b.ground g) (hn : G b.width b.height b.water now) (hx : x < b.width) (hy : y < b.height) :
    inflow g now b.width b.height x y = ((at_ b.water x y : Nat) : Int) + flowIn b x y := by
  unfold inflow besideL flowIn
  rw [List.foldl_append, List.foldl_append, List.foldl_append, foldl_if, foldl_if, foldl_if, foldl_if, from_left hx hy, from_right hx hy, from_up hx hy, from_down hx hy, hn.atL hx hy]
  have e1 : ∀ h : 0 < x, flowAt g now (y * b.width + x - 1) (y * b.width + x) = Kp154.flow (place b (x - 1) y) (place b x y) := fun h => flowAt_eq hg hn hx hy (by omega) hy (by omega)
  have e2 : ∀ h : x + 1 < b.width, flowAt g now (y * b.width + x + 1) (y * b.width + x) = Kp154.flow (place b (x + 1) y) (place b x y) := fun h => flowAt_eq hg hn hx hy h hy (by omega)
  have e3 : ∀ h : 0 < y, flowAt g now (y * b.width + x - b.width) (y * b.width + x) = Kp154.flow (place b x (y - 1)) (place b x y) := fun h => flowAt_eq hg hn hx hy hx (by omega) (idx_up h)
  have e4 : ∀ h : y + 1 < b.height, flowAt g now (y * b.width + x + b.width) (y * b.width + x) = Kp154.flow (place b x (y + 1)) (place b x y) := fun h => flowAt_eq hg hn hx hy hx h idx_down
  by_cases c1 : 0 < x <;> by_cases c2 : x + 1 < b.width <;> by_cases c3 : 0 < y <;> by_cases c4 : y + 1 < b.height <;>
    simp only [c1, c2, c3, c4, if_true, if_false, e1, e2, e3, e4] <;> omega
theorem after1_eq (hx : x < b.width) (hy : y < b.height) : ((after1 b x y : Nat) : Int) = ((at_ b.water x y : Nat) : Int) + flowIn b x y := by
  unfold after1 flowIn
  rw [from_left hx hy, from_right hx hy, from_up hx hy, from_down hx hy]
  have k : ∀ p, -((at_ b.water x y / 4 : Nat) : Int) ≤ Kp154.flow p (place b x y) := fun p => flow_ge p (place b x y)
  have k1 := k (place b (x - 1) y)
  have k2 := k (place b (x + 1) y)
  have k3 := k (place b x (y - 1))
  have k4 := k (place b x (y + 1))
  generalize Kp154.flow (place b (x - 1) y) (place b x y) = f1 at *
  generalize Kp154.flow (place b (x + 1) y) (place b x y) = f2 at *
  generalize Kp154.flow (place b x (y - 1)) (place b x y) = f3 at *
  generalize Kp154.flow (place b x (y + 1)) (place b x y) = f4 at *
  generalize at_ b.water x y = n at *
  split <;> split <;> split <;> split <;> omega
theorem inflow_after (hg : G b.width b.height b.ground g) (hn : G b.width b.height b.water now) (hx : x < b.width) (hy : y < b.height) :
    inflow g now b.width b.height x y = ((after1 b x y : Nat) : Int) := by rw [inflow_eq hg hn hx hy, after1_eq hx hy]
end
/-! a row is done -/
def rowDone (g now : List Int) (w h y i : Nat) (l : List Int) : List Int := (List.range i).foldl (fun l x => l.set (y * w + x) (inflow g now w h x y)) l
theorem rowDone_zero (g now : List Int) (w h y : Nat) (l : List Int) : rowDone g now w h y 0 l = l := rfl
theorem rowDone_succ (g now : List Int) (w h y i : Nat) (l : List Int) : rowDone g now w h y (i + 1) l = (rowDone g now w h y i l).set (y * w + i) (inflow g now w h i y) := by
  unfold rowDone
  rw [List.range_succ, List.foldl_append]
  rfl
theorem rowDone_len (g now : List Int) (w h y : Nat) (l : List Int) : ∀ i, (rowDone g now w h y i l).length = l.length
  | 0 => rfl
  | i + 1 => by rw [rowDone_succ, List.length_set, rowDone_len g now w h y l i]
theorem G.row {b : Board} {g now l : List Int} {r : Rows} {y : Nat} (hw : b.width ≤ 64) (hh : b.height ≤ 64) (hg : G b.width b.height b.ground g) (hn : G b.width b.height b.water now) (hl : G b.width b.height r l) (hy : y < b.height) :
    ∀ i, i ≤ b.width → G b.width b.height ((List.range i).foldl (fun r x => Kp155.put r x y (after1 b x y)) r) (rowDone g now b.width b.height y i l)
  | 0, _ => hl
  | i + 1, hi => by
    rw [rowDone_succ, List.range_succ, List.foldl_append, inflow_after hg hn (by omega) hy]
    exact (G.row hw hh hg hn hl hy i (by omega)).put hw hh (by omega) hy
/-! the rain falls -/
def rained (i : Nat) (nx rn : List Int) : List Int := (List.zipWith (· + ·) nx rn).take i ++ nx.drop i
theorem rained_zero (nx rn : List Int) : rained 0 nx rn = nx := by unfold rained; simp
theorem rained_all {nx rn : List Int} (h : nx.length = rn.length) : rained rn.length nx rn = List.zipWith (· + ·) nx rn := by
  unfold rained
  rw [List.drop_of_length_le (by omega), List.append_nil, List.take_of_length_le (by rw [List.length_zipWith]; omega)]
theorem rained_len {nx rn : List Int} (h : nx.length = rn.length) {i : Nat} (hi : i ≤ rn.length) : (rained i nx rn).length = rn.length := by
  unfold rained
  rw [List.length_append, List.length_take, List.length_drop, List.length_zipWith]
  omega
theorem rained_at {nx rn : List Int} (h : nx.length = rn.length) {i : Nat} (hi : i < rn.length) : (rained i nx rn)[i]? = nx[i]? := by
  unfold rained
  have e : ((List.zipWith (· + ·) nx rn).take i).length = i := by rw [List.length_take, List.length_zipWith]; omega
  rw [List.getElem?_append_right (by omega), e, List.getElem?_drop]
  congr 1
  omega
theorem rained_succ {nx rn : List Int} (h : nx.length = rn.length) {i : Nat} {u v : Int} (hu : nx[i]? = some u) (hv : rn[i]? = some v) : rained (i + 1) nx rn = (rained i nx rn).set i (u + v) := by
  have hi : i < rn.length := (List.getElem?_eq_some_iff.mp hv).1
  have e : ((List.zipWith (· + ·) nx rn).take i).length = i := by rw [List.length_take, List.length_zipWith]; omega
  have ez : (List.zipWith (· + ·) nx rn)[i]? = some (u + v) := by rw [List.getElem?_zipWith, hu, hv]
  have ed : nx.drop i = u :: nx.drop (i + 1) := by
    rw [List.drop_eq_getElem_cons (by omega)]
    congr 1
    exact (List.getElem?_eq_some_iff.mp hu).2
  unfold rained
  rw [List.set_append_right _ _ (by omega), e, Nat.sub_self, ed, List.set_cons_zero, List.take_add_one, ez]
  simp
/-- one step of the document's turning, seen at a place -/
theorem wet_step {rn r : Rows} {p : Nat × Nat} (hr : r.length = 4096) (hx : p.1 < 64) (hy : p.2 < 64) {x y : Nat} (hx' : x < 64) :
    at_ (put r p.1 p.2 (at_ r p.1 p.2 + at_ rn p.1 p.2)) x y = if x = p.1 ∧ y = p.2 then at_ r x y + at_ rn x y else at_ r x y := by
  rw [at_put hr hx hy hx']
  split
  · rename_i c
    obtain ⟨rfl, rfl⟩ := c
    rfl
  · rfl
theorem wet_fold {rn : Rows} : ∀ (ps : List (Nat × Nat)) (r : Rows), r.length = 4096 → (∀ p ∈ ps, p.1 < 64 ∧ p.2 < 64) → ps.Nodup →
    (ps.foldl (fun r p => put r p.1 p.2 (at_ r p.1 p.2 + at_ rn p.1 p.2)) r).length = 4096 ∧
    ∀ x y : Nat, x < 64 → at_ (ps.foldl (fun r p => put r p.1 p.2 (at_ r p.1 p.2 + at_ rn p.1 p.2)) r) x y = if (x, y) ∈ ps then at_ r x y + at_ rn x y else at_ r x y
  | [], r, hr, _, _ => ⟨hr, fun x y _ => by simp⟩
  | p :: ps, r, hr, hp, hd => by
    obtain ⟨hn, hd⟩ := List.nodup_cons.mp hd
    obtain ⟨hx, hy⟩ := hp p (List.mem_cons_self ..)
    obtain ⟨i1, i2⟩ := wet_fold ps (put r p.1 p.2 (at_ r p.1 p.2 + at_ rn p.1 p.2)) (by rw [put_len]; exact hr) (fun q hq => hp q (List.mem_cons_of_mem _ hq)) hd
    refine ⟨i1, fun x y hx' => ?_⟩
    rw [List.foldl_cons, i2 x y hx', wet_step hr hx hy hx']
    by_cases c : (x, y) = p
    · subst c
      rw [if_neg hn, if_pos ⟨rfl, rfl⟩, if_pos (List.mem_cons_self ..)]
    · rw [if_neg (c := x = p.1 ∧ y = p.2) (fun q => c (Prod.ext q.1 q.2))]
      by_cases c2 : (x, y) ∈ ps
      · rw [if_pos c2, if_pos (List.mem_cons_of_mem _ c2)]
      · rw [if_neg c2, if_neg (fun q => by rcases List.mem_cons.mp q with q | q; exact c q; exact c2 q)]
theorem mem_places {b : Board} {x y : Nat} : (x, y) ∈ places b ↔ x < b.width ∧ y < b.height := by
  unfold places rows
  simp only [List.mem_flatMap, List.mem_map, List.mem_range, Prod.mk.injEq]
  constructor
  · rintro ⟨a, ha, c, hc, rfl, rfl⟩
    exact ⟨hc, ha⟩
  · rintro ⟨h1, h2⟩
    exact ⟨y, h2, x, h1, rfl, rfl⟩
theorem nodup_places (b : Board) : (places b).Nodup := by
  unfold places rows
  refine List.nodup_iff_pairwise_ne.mpr (List.pairwise_flatMap.mpr ⟨fun y _ => ?_, ?_⟩)
  · refine List.pairwise_map.mpr (List.Pairwise.imp ?_ (List.nodup_iff_pairwise_ne.mp List.nodup_range))
    intro a c h q
    exact h (Prod.mk.inj q).1
  · refine List.Pairwise.imp ?_ (List.nodup_iff_pairwise_ne.mp List.nodup_range)
    intro a c h p hp p' hp' q
    obtain ⟨x, _, rfl⟩ := List.mem_map.mp hp
    obtain ⟨x', _, rfl⟩ := List.mem_map.mp hp'
    exact h (Prod.mk.inj q).2
theorem G.wet {b : Board} {nx rn : List Int} {r : Rows} (hw : b.width ≤ 64) (hh : b.height ≤ 64) (hn : G b.width b.height r nx) (hr : G b.width b.height b.rain rn) :
    G b.width b.height ((places b).foldl (fun r p => Kp155.put r p.1 p.2 (at_ r p.1 p.2 + at_ b.rain p.1 p.2)) r) (List.zipWith (· + ·) nx rn) := by
  obtain ⟨h1, h2⟩ := wet_fold (rn := b.rain) (places b) r hn.rl (fun p hp => by
    have := mem_places.mp (show (p.1, p.2) ∈ places b from hp)
    omega) (nodup_places b)
  refine ⟨h1, by rw [List.length_zipWith, hn.ll, hr.ll, Nat.min_self], fun x y hx hy => ?_⟩
  rw [h2 x y (by omega), if_pos (mem_places.mpr ⟨hx, hy⟩), List.getElem?_zipWith, hn.eq x y hx hy, hr.eq x y hx hy]
  rfl
end Lw
end
section
set_option Elab.async false
set_option maxHeartbeats 4000000
namespace Lw
open Kp155
/-! the program's board as plain numbers and lists -/
structure LM where
  sweep : Nat
  width : Nat
  height : Nat
  fallen : Int
  states : List Int
  ground : List Int
  rain : List Int
  w0 : List Int
  w1 : List Int
def LM.now (m : LM) : List Int := if m.sweep % 2 = 0 then m.w0 else m.w1
def LM.next (m : LM) : List Int := if m.sweep % 2 = 0 then m.w1 else m.w0
def LM.withNext (m : LM) (l : List Int) : LM := if m.sweep % 2 = 0 then { m with w1 := l } else { m with w0 := l }
def layM (w h : Nat) (g wt : List Int) : LM := ⟨0, w, h, wt.sum, List.replicate h 0, g, List.replicate (w * h) 0, wt, List.replicate (w * h) 0⟩
def LM.firstM (m : LM) : Option Nat := (List.range m.height).find? fun y => atL m.states y == 0
def LM.rowM (m : LM) (y : Nat) : LM := { m.withNext (rowDone m.ground m.now m.width m.height y m.width m.next) with states := m.states.set y 2 }
def LM.turnM (m : LM) : LM := { m.withNext (List.zipWith (· + ·) m.next m.rain) with sweep := m.sweep + 1, states := List.replicate m.height 0, rain := List.replicate m.rain.length 0 }
def LM.rainM (m : LM) (x y : Nat) (k : Int) : LM := { m with rain := m.rain.set (y * m.width + x) (atL m.rain (y * m.width + x) + k), fallen := m.fallen + k }
/-- its lists are as long as they are meant to be -/
structure WF (m : LM) : Prop where
  wl : m.width ≤ 64
  hl : m.height ≤ 64
  st : m.states.length = m.height
  gr : m.ground.length = m.width * m.height
  rn : m.rain.length = m.width * m.height
  a0 : m.w0.length = m.width * m.height
  a1 : m.w1.length = m.width * m.height
theorem WF.now {m : LM} (h : WF m) : m.now.length = m.width * m.height := by
  unfold LM.now
  split
  · exact h.a0
  · exact h.a1
theorem WF.next {m : LM} (h : WF m) : m.next.length = m.width * m.height := by
  unfold LM.next
  split
  · exact h.a1
  · exact h.a0
theorem WF.lay {w h : Nat} {g wt : List Int} (hw : w ≤ 64) (hh : h ≤ 64) (hg : g.length = w * h) (ht : wt.length = w * h) : WF (layM w h g wt) :=
  ⟨hw, hh, List.length_replicate, hg, List.length_replicate, ht, List.length_replicate⟩
/-- the document's board and the program's say the same -/
structure Rel (b : Board) (m : LM) : Prop where
  sw : m.sweep = b.sweep
  wd : m.width = b.width
  ht : m.height = b.height
  fl : m.fallen = ((b.fallen : Nat) : Int)
  w1 : 1 ≤ b.width
  w64 : b.width ≤ 64
  h1 : 1 ≤ b.height
  h64 : b.height ≤ 64
  swl : b.sweep ≤ LONGEST
  stl : b.state.length = 64
  sml : m.states.length = b.height
  st : ∀ y, y < b.height → m.states[y]? = some ((stateOf b y : Nat) : Int)
  stv : ∀ y, y < b.height → stateOf b y = 0 ∨ stateOf b y = 2
  gr : G b.width b.height b.ground m.ground
  rn : G b.width b.height b.rain m.rain
  a0 : G b.width b.height b.water0 m.w0
  a1 : G b.width b.height b.water1 m.w1
section
variable {b : Board} {m : LM}
theorem Rel.wf (R : Rel b m) : WF m :=
  ⟨by rw [R.wd]; exact R.w64, by rw [R.ht]; exact R.h64, by rw [R.ht]; exact R.sml, by rw [R.wd, R.ht]; exact R.gr.ll, by rw [R.wd, R.ht]; exact R.rn.ll, by rw [R.wd, R.ht]; exact R.a0.ll, by rw [R.wd, R.ht]; exact R.a1.ll⟩
theorem Rel.now (R : Rel b m) : G b.width b.height b.water m.now := by
  unfold LM.now Board.water
  rw [R.sw]
  split
  · exact R.a0
  · exact R.a1
theorem Rel.next (R : Rel b m) : G b.width b.height b.next m.next := by
  unfold LM.next Board.next
  rw [R.sw]
  split
  · exact R.a1
  · exact R.a0
theorem Rel.stAt (R : Rel b m) {y : Nat} (h : y < b.height) : atL m.states y = ((stateOf b y : Nat) : Int) := atL_some (R.st y h)
theorem find_congr {p q : Nat → Bool} : ∀ {l : List Nat}, (∀ y ∈ l, p y = q y) → l.find? p = l.find? q
  | [], _ => rfl
  | a :: l, h => by
    rw [List.find?_cons, List.find?_cons, h a (List.mem_cons_self ..), find_congr fun y hy => h y (List.mem_cons_of_mem _ hy)]
theorem Rel.first (R : Rel b m) : m.firstM = firstWaiting b := by
  unfold LM.firstM firstWaiting rows
  rw [R.ht]
  refine find_congr fun y hy => ?_
  rw [R.stAt (List.mem_range.mp hy), Bool.eq_iff_iff, beq_iff_eq, beq_iff_eq]
  omega
theorem Rel.all2 (R : Rel b m) : allAre b 2 = m.firstM.isNone := by
  rw [R.first, Bool.eq_iff_iff]
  unfold allAre firstWaiting rows
  rw [List.all_eq_true, Option.isNone_iff_eq_none, List.find?_range_eq_none]
  constructor
  · intro h y hy
    have := h y (List.mem_range.mpr hy)
    rw [beq_iff_eq] at this
    rw [this]
    rfl
  · intro h y hy
    have h1 := h y (List.mem_range.mp hy)
    rcases R.stv y (List.mem_range.mp hy) with e | e
    · rw [e] at h1
      exact absurd h1 (by decide)
    · rw [e]
      rfl
theorem stateOf_set (b : Board) {y v z : Nat} (hl : b.state.length = 64) (hy : y < 64) : stateOf (setState b y v) z = if z = y then v else stateOf b z := by
  unfold stateOf setState
  dsimp only
  by_cases c : z = y
  · subst c
    rw [if_pos rfl, List.getD_eq_getElem?_getD, List.getElem?_set_self (by omega)]
    rfl
  · rw [if_neg c, List.getD_eq_getElem?_getD, List.getElem?_set_ne (fun e => c e.symm), ← List.getD_eq_getElem?_getD]
theorem withNext_sel (b : Board) (r : Rows) : (b.withNext r).sweep = b.sweep ∧ (b.withNext r).width = b.width ∧ (b.withNext r).height = b.height ∧ (b.withNext r).fallen = b.fallen ∧ (b.withNext r).state = b.state ∧ (b.withNext r).ground = b.ground ∧ (b.withNext r).rain = b.rain ∧
    (b.withNext r).water0 = (if b.sweep % 2 = 0 then b.water0 else r) ∧ (b.withNext r).water1 = (if b.sweep % 2 = 0 then r else b.water1) := by
  unfold Board.withNext
  split <;> exact ⟨rfl, rfl, rfl, rfl, rfl, rfl, rfl, rfl, rfl⟩
theorem withNextM_sel (m : LM) (r : List Int) : (m.withNext r).sweep = m.sweep ∧ (m.withNext r).width = m.width ∧ (m.withNext r).height = m.height ∧ (m.withNext r).fallen = m.fallen ∧ (m.withNext r).states = m.states ∧ (m.withNext r).ground = m.ground ∧ (m.withNext r).rain = m.rain ∧
    (m.withNext r).w0 = (if m.sweep % 2 = 0 then m.w0 else r) ∧ (m.withNext r).w1 = (if m.sweep % 2 = 0 then r else m.w1) := by
  unfold LM.withNext
  split <;> exact ⟨rfl, rfl, rfl, rfl, rfl, rfl, rfl, rfl, rfl⟩
theorem Rel.withNext (R : Rel b m) {r : Rows} {l : List Int} (g : G b.width b.height r l) : Rel (b.withNext r) (m.withNext l) := by
  obtain ⟨e1, e2, e3, e4, e5, e6, e7, e8, e9⟩ := withNext_sel b r
  obtain ⟨f1, f2, f3, f4, f5, f6, f7, f8, f9⟩ := withNextM_sel m l
  have es : ∀ y, stateOf (b.withNext r) y = stateOf b y := fun y => by unfold stateOf; rw [e5]
  exact {
    sw := by rw [e1, f1]; exact R.sw
    wd := by rw [e2, f2]; exact R.wd
    ht := by rw [e3, f3]; exact R.ht
    fl := by rw [e4, f4]; exact R.fl
    w1 := by rw [e2]; exact R.w1
    w64 := by rw [e2]; exact R.w64
    h1 := by rw [e3]; exact R.h1
    h64 := by rw [e3]; exact R.h64
    swl := by rw [e1]; exact R.swl
    stl := by rw [e5]; exact R.stl
    sml := by rw [f5, e3]; exact R.sml
    st := fun y hy => by rw [es, f5]; exact R.st y (by rw [e3] at hy; exact hy)
    stv := fun y hy => by rw [es]; exact R.stv y (by rw [e3] at hy; exact hy)
    gr := by rw [e2, e3, e6, f6]; exact R.gr
    rn := by rw [e2, e3, e7, f7]; exact R.rn
    a0 := by rw [e2, e3, e8, f8, R.sw]; split; exact R.a0; exact g
    a1 := by rw [e2, e3, e9, f9, R.sw]; split; exact g; exact R.a1 }
theorem Rel.set2 (R : Rel b m) {y : Nat} (hy : y < b.height) : Rel (setState b y 2) { m with states := m.states.set y 2 } := by
  have h64 := R.h64
  have es : ∀ z, stateOf (setState b y 2) z = if z = y then 2 else stateOf b z := fun z => stateOf_set b R.stl (by omega)
  exact {
    sw := R.sw, wd := R.wd, ht := R.ht, fl := R.fl, w1 := R.w1, w64 := R.w64, h1 := R.h1, h64 := R.h64, swl := R.swl
    stl := by show (b.state.set y 2).length = 64; rw [List.length_set]; exact R.stl
    sml := by show (m.states.set y 2).length = b.height; rw [List.length_set]; exact R.sml
    st := fun z hz => by
      have hz : z < b.height := hz
      show (m.states.set y 2)[z]? = _
      rw [es]
      by_cases c : z = y
      · subst c
        rw [if_pos rfl, List.getElem?_set_self (by rw [R.sml]; exact hz)]
        rfl
      · rw [if_neg c, List.getElem?_set_ne (fun e => c e.symm)]
        exact R.st z hz
    stv := fun z hz => by
      rw [es]
      split
      · exact .inr rfl
      · exact R.stv z hz
    gr := R.gr, rn := R.rn, a0 := R.a0, a1 := R.a1 }
theorem Rel.row (R : Rel b m) {y : Nat} (hy : y < b.height) : Rel (finish b y) (m.rowM y) := by
  have g := G.row R.w64 R.h64 R.gr R.now R.next hy b.width (Nat.le_refl _)
  have q := (R.withNext g).set2 (y := y) (by rw [(withNext_sel b _).2.2.1]; exact hy)
  have e : (m.withNext (rowDone m.ground m.now b.width b.height y b.width m.next)).states = m.states := (withNextM_sel m _).2.2.2.2.1
  rw [e] at q
  unfold finish LM.rowM putRow
  rw [R.wd, R.ht]
  exact q
theorem Rel.turn (R : Rel b m) (hs : b.sweep < LONGEST) : Rel (Kp155.turn b) m.turnM := by
  have g := G.wet R.w64 R.h64 R.next R.rn
  have q := R.withNext g
  have h64 := R.h64
  obtain ⟨e1, e2, e3, e4, e5, e6, e7, e8, e9⟩ := withNext_sel b ((places b).foldl (fun r p => Kp155.put r p.1 p.2 (at_ r p.1 p.2 + at_ b.rain p.1 p.2)) b.next)
  obtain ⟨f1, f2, f3, f4, f5, f6, f7, f8, f9⟩ := withNextM_sel m (List.zipWith (· + ·) m.next m.rain)
  have es : ∀ y, y < b.height → stateOf (Kp155.turn b) y = 0 := fun y hy => by
    show (List.replicate SIDE 0).getD y 0 = 0
    rw [List.getD_eq_getElem?_getD, List.getElem?_replicate]
    split <;> rfl
  exact {
    sw := by show m.sweep + 1 = b.sweep + 1; rw [R.sw]
    wd := q.wd, ht := q.ht, fl := q.fl, w1 := q.w1, w64 := q.w64, h1 := q.h1, h64 := q.h64
    swl := hs
    stl := List.length_replicate
    sml := by show (List.replicate m.height (0 : Int)).length = (b.withNext _).height; rw [List.length_replicate, e3, R.ht]
    st := fun y hy => by
      have hy : y < (b.withNext _).height := hy
      rw [e3] at hy
      show (List.replicate m.height (0 : Int))[y]? = _
      rw [es y hy, List.getElem?_replicate, if_pos (by rw [R.ht]; exact hy)]
      rfl
    stv := fun y hy => by
      have hy : y < (b.withNext _).height := hy
      rw [e3] at hy
      exact .inl (es y hy)
    gr := q.gr
    rn := by
      show G (b.withNext _).width (b.withNext _).height (List.replicate (SIDE * SIDE) 0) (List.replicate m.rain.length 0)
      rw [e2, e3, R.rn.ll]
      exact G.replicate R.w64 R.h64
    a0 := q.a0
    a1 := q.a1 }
theorem Rel.rain (R : Rel b m) {x y k : Nat} (hx : x < b.width) (hy : y < b.height) : Rel (Kp155.rained b x y k) (m.rainM x y k) := {
    sw := R.sw, wd := R.wd, ht := R.ht
    fl := by show m.fallen + (k : Int) = ((b.fallen + k : Nat) : Int); rw [R.fl]; omega
    w1 := R.w1, w64 := R.w64, h1 := R.h1, h64 := R.h64, swl := R.swl, stl := R.stl, sml := R.sml, st := R.st, stv := R.stv, gr := R.gr
    rn := by
      show G b.width b.height (Kp155.put b.rain x y (at_ b.rain x y + k)) (m.rain.set (y * m.width + x) (atL m.rain (y * m.width + x) + (k : Int)))
      rw [R.wd, R.rn.atL hx hy]
      have e : ((at_ b.rain x y : Nat) : Int) + (k : Int) = ((at_ b.rain x y + k : Nat) : Int) := by omega
      rw [e]
      exact R.rn.put R.w64 R.h64 hx hy
    a0 := R.a0, a1 := R.a1 }
theorem total_sum : ∀ (l : List Nat) (a : Nat), ((l.foldl (· + ·) a : Nat) : Int) = (a : Int) + (l.map fun (x : Nat) => (x : Int)).sum
  | [], a => by simp
  | x :: l, a => by
    rw [List.foldl_cons, total_sum l (a + x), List.map_cons, List.sum_cons]
    omega
theorem total_eq (l : List Nat) : ((total l : Nat) : Int) = (l.map fun (x : Nat) => (x : Int)).sum := by
  unfold total
  rw [total_sum]
  omega
theorem Rel.start {w h : Nat} {g wt : List Nat} (hw : 1 ≤ w ∧ w ≤ 64) (hh : 1 ≤ h ∧ h ≤ 64) (hg : g.length = w * h) (ht : wt.length = w * h) :
    Rel (Kp155.start ⟨w, h, g, wt⟩) (layM w h (g.map fun (x : Nat) => (x : Int)) (wt.map fun (x : Nat) => (x : Int))) := by
  have es : ∀ y, stateOf (Kp155.start ⟨w, h, g, wt⟩) y = 0 := fun y => by
    show (List.replicate SIDE 0).getD y 0 = 0
    rw [List.getD_eq_getElem?_getD, List.getElem?_replicate]
    split <;> rfl
  exact {
    sw := rfl, wd := rfl, ht := rfl
    fl := (total_eq wt).symm
    w1 := hw.1, w64 := hw.2, h1 := hh.1, h64 := hh.2
    swl := Nat.zero_le _
    stl := List.length_replicate
    sml := List.length_replicate
    st := fun y hy => by
      have hy : y < h := hy
      show (List.replicate h (0 : Int))[y]? = _
      rw [es, List.getElem?_replicate, if_pos hy]
      rfl
    stv := fun y _ => .inl (es y)
    gr := G.grid hw.2 hh.2 hg
    rn := G.replicate hw.2 hh.2
    a0 := G.grid hw.2 hh.2 ht
    a1 := G.replicate hw.2 hh.2 }
end
end Lw
end
section
set_option Elab.async false
set_option maxHeartbeats 4000000
set_option linter.all false
namespace Lw
open Kp155 Kp155Neutral
/-! a call at the head of the list -/
inductive CallAt : List Int → List (List Int) → List Int → Prop where
  | start (w h : Int) (g wt t : List Int) : CallAt (0 :: w :: h :: (g.length : Int) :: (g ++ ((wt.length : Int) :: (wt ++ t)))) [[0, w, h], g, wt] t
  | work (t : List Int) : CallAt (1 :: t) [[1]] t
  | turn (t : List Int) : CallAt (2 :: t) [[2]] t
  | rain (x y k : Int) (t : List Int) : CallAt (3 :: x :: y :: k :: t) [[3, x, y, k]] t
  | cell (x y : Int) (t : List Int) : CallAt (4 :: x :: y :: t) [[4, x, y]] t
  | highest (t : List Int) : CallAt (5 :: t) [[5]] t
  | still (t : List Int) : CallAt (6 :: t) [[6]] t
theorem row_at {l x t : List Int} (h : PyFlat.row l = some (x, t)) : l = (x.length : Int) :: (x ++ t) := by
  cases l with
  | nil => cases h
  | cons n r =>
    unfold PyFlat.row at h
    dsimp only at h
    split at h
    · rename_i c
      have e := Option.some.inj h
      have e1 : r.take n.toNat = x := congrArg Prod.fst e
      have e2 : r.drop n.toNat = t := congrArg Prod.snd e
      rw [← e1, ← e2, List.take_append_drop, List.length_take, Nat.min_eq_left c.2]
      congr 1
      omega
    · cases h
theorem call_at {l : List Int} {c : List (List Int)} {t : List Int} (h : PyFlat.call PyKp155.shape l = some (c, t)) : CallAt l c t := by
  cases l with
  | nil => cases h
  | cons p r =>
    unfold PyFlat.call at h
    dsimp only at h
    by_cases h0 : p = 0
    · subst h0
      have e : PyKp155.shape 0 = some (2, 2) := rfl
      rw [e] at h
      dsimp only at h
      match r, h with
      | [], h => cases h
      | [_], h => cases h
      | w :: ht :: r, h =>
        rw [if_neg (by simp)] at h
        change (match PyFlat.rows 2 r with | none => none | some (xs, t) => some ((0 :: [w, ht]) :: xs, t)) = _ at h
        unfold PyFlat.rows at h
        cases e1 : PyFlat.row r with
        | none => rw [e1] at h; cases h
        | some q =>
          obtain ⟨g, s⟩ := q
          rw [e1] at h
          dsimp only at h
          unfold PyFlat.rows at h
          cases e2 : PyFlat.row s with
          | none => rw [e2] at h; cases h
          | some q =>
            obtain ⟨wt, s2⟩ := q
            rw [e2] at h
            dsimp only at h
            unfold PyFlat.rows at h
            have e3 := Option.some.inj h
            have e4 : [[0, w, ht], g, wt] = c := congrArg Prod.fst e3
            have e5 : s2 = t := congrArg Prod.snd e3
            subst e4 e5
            rw [row_at e1, row_at e2]
            exact .start w ht g wt s2
    by_cases h1 : p = 1
    · subst h1
      have e : PyKp155.shape 1 = some (0, 0) := rfl
      rw [e] at h
      have e3 := Option.some.inj h
      have e4 : [[1]] = c := congrArg Prod.fst e3
      have e5 : r = t := congrArg Prod.snd e3
      subst e4 e5
      exact .work r
    by_cases h2 : p = 2
    · subst h2
      have e : PyKp155.shape 2 = some (0, 0) := rfl
      rw [e] at h
      have e3 := Option.some.inj h
      have e4 : [[2]] = c := congrArg Prod.fst e3
      have e5 : r = t := congrArg Prod.snd e3
      subst e4 e5
      exact .turn r
    by_cases h3 : p = 3
    · subst h3
      have e : PyKp155.shape 3 = some (3, 0) := rfl
      rw [e] at h
      dsimp only at h
      match r, h with
      | [], h => cases h
      | [_], h => cases h
      | [_, _], h => cases h
      | x :: y :: k :: r, h =>
        rw [if_neg (by simp)] at h
        have e3 := Option.some.inj h
        have e4 : [[3, x, y, k]] = c := congrArg Prod.fst e3
        have e5 : r = t := congrArg Prod.snd e3
        subst e4 e5
        exact .rain x y k r
    by_cases h4 : p = 4
    · subst h4
      have e : PyKp155.shape 4 = some (2, 0) := rfl
      rw [e] at h
      dsimp only at h
      match r, h with
      | [], h => cases h
      | [_], h => cases h
      | x :: y :: r, h =>
        rw [if_neg (by simp)] at h
        have e3 := Option.some.inj h
        have e4 : [[4, x, y]] = c := congrArg Prod.fst e3
        have e5 : r = t := congrArg Prod.snd e3
        subst e4 e5
        exact .cell x y r
    by_cases h5 : p = 5
    · subst h5
      have e : PyKp155.shape 5 = some (0, 0) := rfl
      rw [e] at h
      have e3 := Option.some.inj h
      have e4 : [[5]] = c := congrArg Prod.fst e3
      have e5 : r = t := congrArg Prod.snd e3
      subst e4 e5
      exact .highest r
    by_cases h6 : p = 6
    · subst h6
      have e : PyKp155.shape 6 = some (0, 0) := rfl
      rw [e] at h
      have e3 := Option.some.inj h
      have e4 : [[6]] = c := congrArg Prod.fst e3
      have e5 : r = t := congrArg Prod.snd e3
      subst e4 e5
      exact .still r
    have e : PyKp155.shape p = none := by
      unfold PyKp155.shape
      rw [if_neg h0, if_neg h1, if_neg h2, if_neg h3, if_neg h4, if_neg h5, if_neg h6]
    rw [e] at h
    cases h
theorem CallAt.whole {l : List Int} {c : List (List Int)} {t : List Int} (h : CallAt l c t) : PyKp155.whole c = c := by
  cases h <;> rfl
/-! what is due of the rest of the list -/
def Due (s : S) (l out : List Int) : Prop := ∃ (f : Nat) (cs : List (List (List Int))), PyFlat.calls PyKp155.shape f l = some cs ∧ askedFrom s (cs.map PyKp155.whole) = true ∧ out = PyFlat.told (PyFlat.played step s (cs.map PyKp155.whole))
theorem Due.nil {s : S} {out : List Int} (h : Due s [] out) : out = [] := by
  obtain ⟨f, cs, h1, _, rfl⟩ := h
  have e : cs = [] := by
    cases f <;> exact (Option.some.inj h1).symm
  subst e
  rfl
theorem Due.cons {s : S} {p : Int} {r out : List Int} (h : Due s (p :: r) out) : ∃ (c : List (List Int)) (t out' : List Int), CallAt (p :: r) c t ∧ asked1 c = true ∧ may s c = true ∧
    out = (((step s c).2.length : Int) :: (step s c).2) ++ out' ∧ Due (step s c).1 t out' := by
  obtain ⟨f, cs, h1, h2, rfl⟩ := h
  cases f with
  | zero => cases h1
  | succ f =>
    unfold PyFlat.calls at h1
    cases e : PyFlat.call PyKp155.shape (p :: r) with
    | none => rw [e] at h1; cases h1
    | some q =>
      obtain ⟨c, t⟩ := q
      rw [e] at h1
      dsimp only at h1
      cases e2 : PyFlat.calls PyKp155.shape f t with
      | none => rw [e2] at h1; cases h1
      | some cs' =>
        rw [e2] at h1
        have e3 := Option.some.inj h1
        subst e3
        have ca := call_at e
        rw [List.map_cons, ca.whole] at h2
        unfold askedFrom at h2
        rw [Bool.and_eq_true, Bool.and_eq_true] at h2
        refine ⟨c, t, PyFlat.told (PyFlat.played step (step s c).1 (cs'.map PyKp155.whole)), ca, h2.1, h2.2.1, ?_, f, cs', e2, h2.2.2, rfl⟩
        rw [List.map_cons, ca.whole]
        rfl
theorem Due.start {ns : List Int} (h : PyKp155.answers_asked ns = true) : Due Kp155Neutral.start ns (PyKp155.answers ns) := by
  unfold PyKp155.answers_asked PyKp155.calls at h
  unfold PyKp155.answers PyKp155.calls
  cases e : PyFlat.calls PyKp155.shape ns.length ns with
  | none => rw [e] at h; cases h
  | some cs =>
    rw [e] at h
    dsimp only at h
    refine ⟨ns.length, cs, e, ?_, rfl⟩
    unfold Kp155Neutral.asked at h
    rw [Bool.and_eq_true, Bool.and_eq_true, Bool.and_eq_true] at h
    exact h.2.2.2
/-! what each call does, by the program's numbers -/
def LM.workA (m : LM) : LM × Int := match m.firstM with
  | none => (m, 0)
  | some y => (m.rowM y, 1)
def LM.turnA (m : LM) : LM × Int := if m.firstM.isSome = true then (m, -11) else if m.sweep = 1099511627776 then (m, -28) else (m.turnM, 0)
def LM.rainA (m : LM) (x y : Nat) (k : Int) : LM × Int := if m.width ≤ x ∨ m.height ≤ y then (m, -22) else if 1073741824 < m.fallen + k then (m, -28) else (m.rainM x y k, 0)
def startOk (w h : Nat) (g wt : List Int) : Prop := (1 ≤ w ∧ w ≤ 64) ∧ (1 ≤ h ∧ h ≤ 64) ∧ (∀ z ∈ g, z ≤ 1073741824) ∧ wt.sum ≤ 1073741824
/-- the program's board and what the document knows of it -/
def RS : S → LM → Prop
  | none, m => WF m
  | some b, m => Rel b m
theorem RS.wf : ∀ {s : S} {m : LM}, RS s m → WF m
  | none, _, h => h
  | some _, _, h => Rel.wf h
section
variable {b : Board} {m : LM}
theorem step_work (R : Rel b m) : ∃ b', step (some b) [[1]] = (some b', [0, m.workA.2]) ∧ Rel b' m.workA.1 := by
  unfold LM.workA
  cases e : m.firstM with
  | none =>
    refine ⟨b, ?_, R⟩
    have e' := R.first.symm.trans e
    show (some (act b .work).1, ansOf (act b .work).2) = _
    unfold act
    rw [e']
    rfl
  | some y =>
    have e' := R.first.symm.trans e
    have hy : y < b.height := List.mem_range.mp (List.mem_of_find?_eq_some e')
    refine ⟨finish b y, ?_, R.row hy⟩
    show (some (act b .work).1, ansOf (act b .work).2) = _
    unfold act
    rw [e']
    rfl
theorem step_turn (R : Rel b m) : ∃ b', step (some b) [[2]] = (some b', [0, m.turnA.2]) ∧ Rel b' m.turnA.1 := by
  unfold LM.turnA
  have e0 : step (some b) [[2]] = (some (act b .turn).1, ansOf (act b .turn).2) := rfl
  have e1 : act b .turn = if allAre b 2 = false then (b, .num (-11)) else if LONGEST ≤ b.sweep then (b, .num (-28)) else (Kp155.turn b, .num 0) := rfl
  rw [e0, e1, R.all2]
  have h2 : LONGEST = 1099511627776 := rfl
  cases e : m.firstM with
  | some y => exact ⟨b, rfl, R⟩
  | none =>
    have n1 : ¬ (Option.isNone (none : Option Nat) = false) := by decide
    have n2 : ¬ (Option.isSome (none : Option Nat) = true) := by decide
    rw [if_neg n1, if_neg n2]
    by_cases c : m.sweep = 1099511627776
    · rw [if_pos (show LONGEST ≤ b.sweep by rw [← R.sw]; omega), if_pos c]
      exact ⟨b, rfl, R⟩
    · have hs : b.sweep < LONGEST := by
        have h1 := R.swl
        rw [R.sw] at c
        omega
      rw [if_neg (show ¬ LONGEST ≤ b.sweep by omega), if_neg c]
      exact ⟨Kp155.turn b, rfl, R.turn hs⟩
theorem step_rain (R : Rel b m) {x y k : Int} (hx : 0 ≤ x) (hy : 0 ≤ y) (hk : 0 ≤ k) : ∃ b', step (some b) [[3, x, y, k]] = (some b', [0, (m.rainA x.toNat y.toNat k).2]) ∧ Rel b' (m.rainA x.toNat y.toNat k).1 := by
  unfold LM.rainA
  have e0 : step (some b) [[3, x, y, k]] = (some (act b (.rain x.toNat y.toNat k.toNat)).1, ansOf (act b (.rain x.toNat y.toNat k.toNat)).2) := rfl
  rw [e0]
  unfold act
  dsimp only
  rw [R.wd, R.ht, R.fl]
  by_cases c : b.width ≤ x.toNat ∨ b.height ≤ y.toNat
  · rw [if_pos c, if_pos c]
    exact ⟨b, rfl, R⟩
  · rw [if_neg c, if_neg c]
    by_cases c2 : Kp154.HIGH < b.fallen + k.toNat
    · have h2 : Kp154.HIGH = 1073741824 := rfl
      rw [if_pos c2, if_pos (by omega)]
      exact ⟨b, rfl, R⟩
    · have h2 : Kp154.HIGH = 1073741824 := rfl
      rw [if_neg c2, if_neg (by omega)]
      refine ⟨Kp155.rained b x.toNat y.toNat k.toNat, rfl, ?_⟩
      have q := R.rain (x := x.toNat) (y := y.toNat) (k := k.toNat) (by omega) (by omega)
      have e : ((k.toNat : Nat) : Int) = k := by omega
      rw [e] at q
      exact q
theorem okSize_iff (w h : Nat) : okSize w h = true ↔ (1 ≤ w ∧ w ≤ 64) ∧ (1 ≤ h ∧ h ≤ 64) := by
  unfold okSize SIDE
  simp only [Bool.and_eq_true, decide_eq_true_eq]
  omega
theorem nats_back : ∀ {l : List Int}, (∀ z ∈ l, (0 : Int) ≤ z) → ((nats l).map fun (x : Nat) => (x : Int)) = l
  | [], _ => rfl
  | a :: l, h => by
    have h1 := h a (List.mem_cons_self ..)
    show ((a.toNat : Nat) : Int) :: ((nats l).map fun (x : Nat) => (x : Int)) = a :: l
    rw [nats_back fun z hz => h z (List.mem_cons_of_mem _ hz)]
    congr 1
    omega
theorem nats_len (l : List Int) : (nats l).length = l.length := List.length_map _
theorem good_iff {w h : Nat} {g wt : List Int} (hg : ∀ z ∈ g, (0 : Int) ≤ z) (hw : ∀ z ∈ wt, (0 : Int) ≤ z) : good ⟨w, h, nats g, nats wt⟩ = true ↔ startOk w h g wt := by
  unfold good startOk
  rw [Bool.and_eq_true, Bool.and_eq_true, okSize_iff, decide_eq_true_eq]
  have e1 : ((nats g).all fun x => decide (x ≤ Kp154.HIGH)) = true ↔ ∀ z ∈ g, z ≤ 1073741824 := by
    rw [List.all_eq_true]
    have hh : Kp154.HIGH = 1073741824 := rfl
    constructor
    · intro q z hz
      have := of_decide_eq_true (q z.toNat (List.mem_map.mpr ⟨z, hz, rfl⟩))
      omega
    · intro q x hx
      obtain ⟨z, hz, rfl⟩ := List.mem_map.mp hx
      have := q z hz
      exact decide_eq_true (by omega)
  have e2 : total (nats wt) ≤ Kp154.HIGH ↔ wt.sum ≤ 1073741824 := by
    have hh : Kp154.HIGH = 1073741824 := rfl
    have := total_eq (nats wt)
    rw [nats_back hw] at this
    omega
  dsimp only
  rw [e1, e2, and_assoc, and_assoc]
/-- wl_start, whatever was there: h1 what the document lets be handed in -/
theorem step_start {s : S} {m : LM} (R : RS s m) {w h : Int} {g wt : List Int} (ha : asked1 [[0, w, h], g, wt] = true) :
    (0 ≤ w ∧ w < 4294967296) ∧ (0 ≤ h ∧ h < 4294967296) ∧ (∀ z ∈ g, (0 : Int) ≤ z) ∧ (∀ z ∈ wt, (0 : Int) ≤ z) ∧ wt.length = g.length ∧ g.length = (if okSize w.toNat h.toNat = true then w.toNat * h.toNat else 0) ∧
    (startOk w.toNat h.toNat g wt → ∃ b', step s [[0, w, h], g, wt] = (some b', [0, 0]) ∧ Rel b' (layM w.toNat h.toNat g wt)) ∧
    (¬ startOk w.toNat h.toNat g wt → ∃ s', step s [[0, w, h], g, wt] = (s', [0, -22]) ∧ RS s' m) := by
  unfold asked1 at ha
  simp only [Bool.and_eq_true, decide_eq_true_eq, List.all_eq_true] at ha
  obtain ⟨a1, a2, a3, a4, a5, a6⟩ := ha
  have nat : ∀ z : Int, natural z 32 = true → 0 ≤ z ∧ z < 4294967296 := fun z q => by
    unfold natural at q
    rw [Bool.and_eq_true, decide_eq_true_eq, decide_eq_true_eq] at q
    exact ⟨q.1, by have := q.2; omega⟩
  have hg : ∀ z ∈ g, (0 : Int) ≤ z := fun z hz => (nat z (a3 z hz)).1
  have hw : ∀ z ∈ wt, (0 : Int) ≤ z := fun z hz => (nat z (a4 z hz)).1
  refine ⟨nat w a1, nat h a2, hg, hw, a6, a5, fun ok => ?_, fun no => ?_⟩
  · have hs : okSize w.toNat h.toNat = true := (okSize_iff _ _).mpr ⟨ok.1, ok.2.1⟩
    have hgd := (good_iff (w := w.toNat) (h := h.toNat) hg hw).mpr ok
    rw [if_pos hs] at a5
    have q := Rel.start (g := nats g) (wt := nats wt) ok.1 ok.2.1 (by rw [nats_len]; exact a5) (by rw [nats_len, a6]; exact a5)
    rw [nats_back hg, nats_back hw] at q
    have acc : ∀ b, act b (.start (if okSize w.toNat h.toNat = true then some ⟨w.toNat, h.toNat, nats g, nats wt⟩ else none)) = (Kp155.start ⟨w.toNat, h.toNat, nats g, nats wt⟩, .num 0) := fun b => by
      rw [if_pos hs]
      unfold act
      dsimp only
      rw [hgd]
      rfl
    refine ⟨_, ?_, q⟩
    cases s with
    | none =>
      show (if (act dummy (.start (if okSize w.toNat h.toNat = true then some ⟨w.toNat, h.toNat, nats g, nats wt⟩ else none))).2 = .num 0 then some (act dummy (.start (if okSize w.toNat h.toNat = true then some ⟨w.toNat, h.toNat, nats g, nats wt⟩ else none))).1 else none, ansOf (act dummy (.start (if okSize w.toNat h.toNat = true then some ⟨w.toNat, h.toNat, nats g, nats wt⟩ else none))).2) = _
      rw [acc]
      rfl
    | some b =>
      show (some (act b (.start (if okSize w.toNat h.toNat = true then some ⟨w.toNat, h.toNat, nats g, nats wt⟩ else none))).1, ansOf (act b (.start (if okSize w.toNat h.toNat = true then some ⟨w.toNat, h.toNat, nats g, nats wt⟩ else none))).2) = _
      rw [acc]
      rfl
  · have ref : ∀ b, act b (.start (if okSize w.toNat h.toNat = true then some ⟨w.toNat, h.toNat, nats g, nats wt⟩ else none)) = (b, .num (-22)) := fun b => by
      by_cases hs : okSize w.toNat h.toNat = true
      · rw [if_pos hs]
        have hgd : good ⟨w.toNat, h.toNat, nats g, nats wt⟩ = false := by
          cases e : good ⟨w.toNat, h.toNat, nats g, nats wt⟩ with
          | false => rfl
          | true => exact absurd ((good_iff hg hw).mp e) no
        unfold act
        dsimp only
        rw [hgd]
        rfl
      · rw [if_neg hs]
        rfl
    cases s with
    | none =>
      refine ⟨none, ?_, R⟩
      show (if (act dummy (.start (if okSize w.toNat h.toNat = true then some ⟨w.toNat, h.toNat, nats g, nats wt⟩ else none))).2 = .num 0 then some (act dummy (.start (if okSize w.toNat h.toNat = true then some ⟨w.toNat, h.toNat, nats g, nats wt⟩ else none))).1 else none, ansOf (act dummy (.start (if okSize w.toNat h.toNat = true then some ⟨w.toNat, h.toNat, nats g, nats wt⟩ else none))).2) = _
      rw [ref]
      rfl
    | some b =>
      refine ⟨some b, ?_, R⟩
      show (some (act b (.start (if okSize w.toNat h.toNat = true then some ⟨w.toNat, h.toNat, nats g, nats wt⟩ else none))).1, ansOf (act b (.start (if okSize w.toNat h.toNat = true then some ⟨w.toNat, h.toNat, nats g, nats wt⟩ else none))).2) = _
      rw [ref]
      rfl
theorem step_cell (R : Rel b m) {x y : Int} (hx : 0 ≤ x) (hy : 0 ≤ y) : step (some b) [[4, x, y]] = (some b, if m.width ≤ x.toNat ∨ m.height ≤ y.toNat then [0, -22] else [1, 2, atL m.ground (y.toNat * m.width + x.toNat), atL m.now (y.toNat * m.width + x.toNat)]) := by
  have e0 : step (some b) [[4, x, y]] = (some (act b (.cell x.toNat y.toNat)).1, ansOf (act b (.cell x.toNat y.toNat)).2) := rfl
  rw [e0]
  unfold act
  dsimp only
  rw [R.wd, R.ht]
  by_cases c : b.width ≤ x.toNat ∨ b.height ≤ y.toNat
  · rw [if_pos c, if_pos c]
    rfl
  · rw [if_neg c, if_neg c, R.gr.atL (by omega) (by omega), R.now.atL (by omega) (by omega)]
    rfl
theorem step_highest (b : Board) : step (some b) [[5]] = (some b, [1, 1, ((highest b : Nat) : Int)]) := rfl
theorem step_still (b : Board) : step (some b) [[6]] = (some b, [0, if still b = true then 1 else 0]) := rfl
end
end Lw
end
section
set_option Elab.async false
set_option maxHeartbeats 4000000
set_option linter.all false
namespace Lw
open Kp155
/-! the highest level, and whether it is still, by what a program can see -/
section
variable {b : Board} {m : LM}
theorem flow_anti (a c : Kp154.Place) : Kp154.flow c a = -Kp154.flow a c := by
  unfold Kp154.flow
  by_cases h1 : Kp154.level c < Kp154.level a
  · rw [if_neg (by omega), if_pos h1]
  · by_cases h2 : Kp154.level a < Kp154.level c
    · rw [if_pos h2, if_neg h1]; omega
    · rw [if_neg h2, if_neg h1]
      have e : Kp154.level a = Kp154.level c := by omega
      rw [e]
      omega
theorem foldl_max_ge : ∀ (l : List Nat) (a : Nat), a ≤ l.foldl max a ∧ ∀ z ∈ l, z ≤ l.foldl max a
  | [], a => ⟨Nat.le_refl _, fun z hz => by cases hz⟩
  | x :: l, a => by
    obtain ⟨h1, h2⟩ := foldl_max_ge l (max a x)
    rw [List.foldl_cons]
    refine ⟨by omega, fun z hz => ?_⟩
    rcases List.mem_cons.mp hz with rfl | hz
    · omega
    · exact h2 z hz
theorem foldl_max_mem : ∀ (l : List Nat) (a : Nat), l.foldl max a = a ∨ l.foldl max a ∈ l
  | [], a => .inl rfl
  | x :: l, a => by
    rw [List.foldl_cons]
    rcases foldl_max_mem l (max a x) with h | h
    · rw [h]
      by_cases c : a ≤ x
      · exact .inr (by rw [Nat.max_eq_right c]; exact List.mem_cons_self ..)
      · exact .inl (by omega)
    · exact .inr (List.mem_cons_of_mem _ h)
/-- the highest level of places that have water -/
theorem highest_is {M : Nat} (ub : ∀ x y, x < b.width → y < b.height → 0 < at_ b.water x y → at_ b.ground x y + at_ b.water x y ≤ M)
    (at' : M = 0 ∨ ∃ x y, x < b.width ∧ y < b.height ∧ 0 < at_ b.water x y ∧ at_ b.ground x y + at_ b.water x y = M) : highest b = M := by
  unfold highest
  have key : ∀ p ∈ places b, (if at_ b.water p.1 p.2 = 0 then 0 else Kp154.level (place b p.1 p.2)) ≤ M := fun p hp => by
    obtain ⟨h1, h2⟩ := mem_places.mp (show (p.1, p.2) ∈ places b from hp)
    split
    · exact Nat.zero_le _
    · exact ub p.1 p.2 h1 h2 (by omega)
  apply Nat.le_antisymm
  · rcases foldl_max_mem ((places b).map fun p => if at_ b.water p.1 p.2 = 0 then 0 else Kp154.level (place b p.1 p.2)) 0 with h | h
    · rw [h]; exact Nat.zero_le _
    · obtain ⟨p, hp, e⟩ := List.mem_map.mp h
      rw [← e]
      exact key p hp
  · rcases at' with rfl | ⟨x, y, hx, hy, hw, rfl⟩
    · exact Nat.zero_le _
    · refine (foldl_max_ge _ 0).2 _ (List.mem_map.mpr ⟨(x, y), mem_places.mpr ⟨hx, hy⟩, ?_⟩)
      dsimp only
      rw [if_neg (by omega)]
      rfl
/-- by the program's lists: every place i of the land -/
theorem Rel.highest_is (R : Rel b m) {M : Int} (ub : ∀ i, i < m.width * m.height → 0 < atL m.now i → atL m.ground i + atL m.now i ≤ M)
    (at' : M = 0 ∨ ∃ i, i < m.width * m.height ∧ 0 < atL m.now i ∧ atL m.ground i + atL m.now i = M) : ((highest b : Nat) : Int) = M := by
  have h0 : 0 ≤ M := by
    rcases at' with rfl | ⟨i, hi, hn, rfl⟩
    · exact Int.le_refl 0
    · have hw0 : 0 < m.width := by rw [R.wd]; exact R.w1
      have hx : i % m.width < m.width := Nat.mod_lt _ hw0
      have hy : i / m.width < m.height := Nat.div_lt_of_lt_mul hi
      have e : i / m.width * m.width + i % m.width = i := by rw [Nat.mul_comm]; exact Nat.div_add_mod i m.width
      rw [R.wd] at hx e hy
      rw [R.ht] at hy
      have g1 := R.gr.atL hx hy
      rw [e] at g1
      omega
  have e : highest b = M.toNat := by
    refine Lw.highest_is (fun x y hx hy hw => ?_) ?_
    · have h := ub (y * b.width + x) (by rw [R.wd, R.ht]; exact idx_lt hx hy)
      rw [R.gr.atL hx hy, R.now.atL hx hy] at h
      omega
    · rcases at' with rfl | ⟨i, hi, hn, e⟩
      · exact .inl rfl
      · right
        have hw0 : 0 < m.width := by rw [R.wd]; exact R.w1
        have hx : i % m.width < m.width := Nat.mod_lt _ hw0
        have hy : i / m.width < m.height := Nat.div_lt_of_lt_mul hi
        have ei : i / m.width * m.width + i % m.width = i := by rw [Nat.mul_comm]; exact Nat.div_add_mod i m.width
        rw [R.wd] at hx ei hy
        rw [R.ht] at hy
        have g1 := R.gr.atL hx hy
        have g2 := R.now.atL hx hy
        rw [ei] at g1 g2
        refine ⟨i % b.width, i / b.width, hx, hy, by omega, by omega⟩
  omega
theorem ite_beq0 (c : Prop) [Decidable c] (z : Int) : ((if c then z else 0) == 0) = true ↔ (c → z = 0) := by
  split
  · rw [beq_iff_eq]
    exact ⟨fun h _ => h, fun h => h (by assumption)⟩
  · exact ⟨fun _ h => absurd h (by assumption), fun _ => rfl⟩
theorem still_iff : still b = true ↔ ∀ x y, x < b.width → y < b.height → ((0 < x → Kp154.flow (place b (x - 1) y) (place b x y) = 0) ∧ (x + 1 < b.width → Kp154.flow (place b (x + 1) y) (place b x y) = 0) ∧
    (0 < y → Kp154.flow (place b x (y - 1)) (place b x y) = 0) ∧ (y + 1 < b.height → Kp154.flow (place b x (y + 1)) (place b x y) = 0)) := by
  unfold still
  rw [List.all_eq_true]
  constructor
  · intro h x y hx hy
    have q := h (x, y) (mem_places.mpr ⟨hx, hy⟩)
    dsimp only at q
    rw [from_left hx hy, from_right hx hy, from_up hx hy, from_down hx hy, Bool.and_eq_true, Bool.and_eq_true, Bool.and_eq_true, ite_beq0, ite_beq0, ite_beq0, ite_beq0] at q
    exact ⟨q.1.1.1, q.1.1.2, q.1.2, q.2⟩
  · intro h p hp
    obtain ⟨hx, hy⟩ := mem_places.mp (show (p.1, p.2) ∈ places b from hp)
    obtain ⟨q1, q2, q3, q4⟩ := h p.1 p.2 hx hy
    rw [from_left hx hy, from_right hx hy, from_up hx hy, from_down hx hy, Bool.and_eq_true, Bool.and_eq_true, Bool.and_eq_true, ite_beq0, ite_beq0, ite_beq0, ite_beq0]
    exact ⟨⟨⟨q1, q2⟩, q3⟩, q4⟩
/-- by the program's lists, over all that lie beside -/
theorem Rel.still_beside (R : Rel b m) : still b = true ↔ ∀ x y, x < m.width → y < m.height → ∀ j ∈ besideL m.width m.height x y, flowAt m.ground m.now j (y * m.width + x) = 0 := by
  rw [still_iff, R.wd, R.ht]
  have key : ∀ x y, x < b.width → y < b.height → (((0 < x → Kp154.flow (place b (x - 1) y) (place b x y) = 0) ∧ (x + 1 < b.width → Kp154.flow (place b (x + 1) y) (place b x y) = 0) ∧
      (0 < y → Kp154.flow (place b x (y - 1)) (place b x y) = 0) ∧ (y + 1 < b.height → Kp154.flow (place b x (y + 1)) (place b x y) = 0)) ↔ ∀ j ∈ besideL b.width b.height x y, flowAt m.ground m.now j (y * b.width + x) = 0) := fun x y hx hy => by
    have hg := R.gr
    have hn := R.now
    have e1 : ∀ h : 0 < x, flowAt m.ground m.now (y * b.width + x - 1) (y * b.width + x) = Kp154.flow (place b (x - 1) y) (place b x y) := fun h => flowAt_eq hg hn hx hy (by omega) hy (by omega)
    have e2 : ∀ h : x + 1 < b.width, flowAt m.ground m.now (y * b.width + x + 1) (y * b.width + x) = Kp154.flow (place b (x + 1) y) (place b x y) := fun h => flowAt_eq hg hn hx hy h hy (by omega)
    have e3 : ∀ h : 0 < y, flowAt m.ground m.now (y * b.width + x - b.width) (y * b.width + x) = Kp154.flow (place b x (y - 1)) (place b x y) := fun h => flowAt_eq hg hn hx hy hx (by omega) (idx_up h)
    have e4 : ∀ h : y + 1 < b.height, flowAt m.ground m.now (y * b.width + x + b.width) (y * b.width + x) = Kp154.flow (place b x (y + 1)) (place b x y) := fun h => flowAt_eq hg hn hx hy hx h idx_down
    unfold besideL
    constructor
    · rintro ⟨q1, q2, q3, q4⟩ j hj
      rw [List.mem_append, List.mem_append, List.mem_append] at hj
      rcases hj with ((hj | hj) | hj) | hj
      · split at hj
        · rename_i c; rw [List.mem_singleton.mp hj, e1 c]; exact q1 c
        · cases hj
      · split at hj
        · rename_i c; rw [List.mem_singleton.mp hj, e2 c]; exact q2 c
        · cases hj
      · split at hj
        · rename_i c; rw [List.mem_singleton.mp hj, e3 c]; exact q3 c
        · cases hj
      · split at hj
        · rename_i c; rw [List.mem_singleton.mp hj, e4 c]; exact q4 c
        · cases hj
    · intro h
      refine ⟨fun c => ?_, fun c => ?_, fun c => ?_, fun c => ?_⟩
      · rw [← e1 c]; exact h _ (by simp [c])
      · rw [← e2 c]; exact h _ (by simp [c])
      · rw [← e3 c]; exact h _ (by simp [c])
      · rw [← e4 c]; exact h _ (by simp [c])
  constructor
  · intro h x y hx hy
    exact (key x y hx hy).mp (h x y hx hy)
  · intro h x y hx hy
    exact (key x y hx hy).mpr (h x y hx hy)
/-- .. over those on the right and below alone -/
theorem Rel.still_ahead (R : Rel b m) : still b = true ↔ ∀ x y, x < m.width → y < m.height →
    (x + 1 < m.width → flowAt m.ground m.now (y * m.width + x) (y * m.width + x + 1) = 0) ∧ (y + 1 < m.height → flowAt m.ground m.now (y * m.width + x) (y * m.width + x + m.width) = 0) := by
  rw [still_iff, R.wd, R.ht]
  have hg := R.gr
  have hn := R.now
  have f1 : ∀ x y, (h : x + 1 < b.width) → y < b.height → flowAt m.ground m.now (y * b.width + x) (y * b.width + x + 1) = Kp154.flow (place b x y) (place b (x + 1) y) := fun x y h hy =>
    flowAt_eq (x := x + 1) (y := y) hg hn h hy (x' := x) (by omega) hy rfl
  have f2 : ∀ x y, x < b.width → (h : y + 1 < b.height) → flowAt m.ground m.now (y * b.width + x) (y * b.width + x + b.width) = Kp154.flow (place b x y) (place b x (y + 1)) := fun x y hx h => by
    rw [idx_down]
    exact flowAt_eq (x := x) (y := y + 1) hg hn hx h hx (by omega) rfl
  constructor
  · intro h x y hx hy
    refine ⟨fun c => ?_, fun c => ?_⟩
    · rw [f1 x y c hy]
      exact (h (x + 1) y c hy).1 (by omega)
    · rw [f2 x y hx c]
      exact (h x (y + 1) hx c).2.2.1 (by omega)
  · intro h x y hx hy
    refine ⟨fun c => ?_, fun c => ?_, fun c => ?_, fun c => ?_⟩
    · have q := (h (x - 1) y (by omega) hy).1 (by omega)
      rw [f1 (x - 1) y (by omega) hy] at q
      have e : x - 1 + 1 = x := by omega
      rw [e] at q
      exact q
    · have q := (h x y hx hy).1 c
      rw [f1 x y c hy] at q
      rw [flow_anti, q]
      rfl
    · have q := (h x (y - 1) hx (by omega)).2 (by omega)
      rw [f2 x (y - 1) hx (by omega)] at q
      have e : y - 1 + 1 = y := by omega
      rw [e] at q
      exact q
    · have q := (h x y hx hy).2 c
      rw [f2 x y hx c] at q
      rw [flow_anti, q]
      rfl
end
end Lw
end
section
set_option Elab.async false
set_option maxHeartbeats 4000000
set_option linter.all false
namespace Lw
open Kp155
/-! the levels as lists, and what flows among them -/
def levM (m : LM) : List Int := List.zipWith (· + ·) m.ground m.now
/-- the levels of the first i places, of those that have water -/
def wetM (m : LM) (i : Nat) : List Int := (List.range i).flatMap fun j => if 0 < atL m.now j then [atL m.ground j + atL m.now j] else []
theorem wetM_succ (m : LM) (i : Nat) : wetM m (i + 1) = wetM m i ++ if 0 < atL m.now i then [atL m.ground i + atL m.now i] else [] := by
  unfold wetM
  rw [List.range_succ, List.flatMap_append, List.flatMap_cons, List.flatMap_nil, List.append_nil]
theorem wetM_len (m : LM) (i : Nat) : (wetM m i).length ≤ i := by
  induction i with
  | zero => exact Nat.le_refl _
  | succ i ih =>
    rw [wetM_succ, List.length_append]
    split
    · rw [List.length_singleton]; omega
    · rw [List.length_nil]; omega
theorem wetM_mem (m : LM) (i : Nat) (v : Int) : v ∈ wetM m i ↔ ∃ j, j < i ∧ 0 < atL m.now j ∧ atL m.ground j + atL m.now j = v := by
  unfold wetM
  rw [List.mem_flatMap]
  constructor
  · rintro ⟨j, hj, h⟩
    split at h
    · exact ⟨j, List.mem_range.mp hj, by assumption, (List.mem_singleton.mp h).symm⟩
    · cases h
  · rintro ⟨j, hj, hp, e⟩
    refine ⟨j, List.mem_range.mpr hj, ?_⟩
    rw [if_pos hp]
    exact List.mem_singleton.mpr e.symm
section
variable {b : Board} {m : LM}
theorem Rel.highest_none (R : Rel b m) (h : wetM m (m.width * m.height) = []) : ((highest b : Nat) : Int) = 0 := by
  refine R.highest_is (fun i hi hp => ?_) (.inl rfl)
  have q := (wetM_mem m (m.width * m.height) _).mpr ⟨i, hi, hp, rfl⟩
  rw [h] at q
  cases q
theorem Rel.highest_max (R : Rel b m) {M : Int} (h1 : M ∈ wetM m (m.width * m.height)) (h2 : ∀ y, y ∈ wetM m (m.width * m.height) → y ≤ M) : ((highest b : Nat) : Int) = M :=
  R.highest_is (fun i hi hp => h2 _ ((wetM_mem m _ _).mpr ⟨i, hi, hp, rfl⟩)) (.inr ((wetM_mem m _ _).mp h1))
/-- something flows between the places i and j, by levels and waters -/
def Fl (li wi lj wj : Int) : Prop := (8 ≤ li - lj ∧ 4 ≤ wi) ∨ (8 ≤ lj - li ∧ 4 ≤ wj)
theorem flowI_iff {a b c d : Int} (hb : 0 ≤ b) (hd : 0 ≤ d) : flowI a b c d = 0 ↔ ¬ Fl (a + b) b (c + d) d := by
  unfold flowI flowDown Fl
  split
  · split <;> omega
  · split <;> omega
/-- .. among any two that stand k apart -/
def Flows (ws ls : List Int) (k : Nat) : Prop := ∃ i, i + k < ws.length ∧ Fl (atL ls i) (atL ws i) (atL ls (i + k)) (atL ws (i + k))
theorem levM_len (W : WF m) : (levM m).length = m.width * m.height := by
  unfold levM
  rw [List.length_zipWith, W.gr, W.now, Nat.min_self]
theorem levM_at {i : Nat} (W : WF m) (h : i < m.width * m.height) : (levM m)[i]? = some (atL m.ground i + atL m.now i) := by
  unfold levM atL
  rw [List.getElem?_zipWith, List.getD_eq_getElem?_getD, List.getD_eq_getElem?_getD, List.getElem?_eq_getElem (by rw [W.gr]; exact h), List.getElem?_eq_getElem (by rw [W.now]; exact h)]
  rfl
theorem levM_atL {i : Nat} (W : WF m) (h : i < m.width * m.height) : atL (levM m) i = atL m.ground i + atL m.now i := atL_some (levM_at W h)
theorem take_atL {l : List Int} {i k n : Nat} (hi : i < n) : atL ((l.drop k).take n) i = atL l (k + i) := by
  unfold atL
  rw [List.getD_eq_getElem?_getD, List.getD_eq_getElem?_getD, List.getElem?_take_of_lt hi, List.getElem?_drop]
theorem Rel.now_nn (R : Rel b m) {i : Nat} (hi : i < m.width * m.height) : 0 ≤ atL m.now i := by
  have hw0 : 0 < m.width := by rw [R.wd]; exact R.w1
  have hx : i % m.width < m.width := Nat.mod_lt _ hw0
  have hy : i / m.width < m.height := Nat.div_lt_of_lt_mul hi
  have e : i / m.width * m.width + i % m.width = i := by rw [Nat.mul_comm]; exact Nat.div_add_mod i m.width
  rw [R.wd] at hx e hy
  rw [R.ht] at hy
  have g1 := R.now.atL hx hy
  rw [e] at g1
  omega
theorem Rel.flowAt_iff (R : Rel b m) {i j : Nat} (hi : i < m.width * m.height) (hj : j < m.width * m.height) : flowAt m.ground m.now i j = 0 ↔ ¬ Fl (atL (levM m) i) (atL m.now i) (atL (levM m) j) (atL m.now j) := by
  rw [levM_atL R.wf hi, levM_atL R.wf hj]
  exact flowI_iff (R.now_nn hi) (R.now_nn hj)
/-- the columns at once, the rows one by one -/
theorem Rel.still_lists (R : Rel b m) : still b = true ↔ ¬ Flows m.now (levM m) m.width ∧ ∀ y, y < m.height → ¬ Flows ((m.now.drop (y * m.width)).take m.width) (((levM m).drop (y * m.width)).take m.width) 1 := by
  have hw0 : 0 < m.width := by rw [R.wd]; exact R.w1
  have W := R.wf
  have rowl : ∀ y, y < m.height → ((m.now.drop (y * m.width)).take m.width).length = m.width := fun y hy => by
    have := idx_lt (w := m.width) (h := m.height) (x := m.width - 1) (y := y) (by omega) hy
    rw [List.length_take, List.length_drop, W.now]
    omega
  rw [R.still_ahead]
  constructor
  · intro h
    refine ⟨?_, fun y hy => ?_⟩
    · rintro ⟨i, hi, fl⟩
      rw [W.now] at hi
      have hx : i % m.width < m.width := Nat.mod_lt _ hw0
      have e : i / m.width * m.width + i % m.width = i := by rw [Nat.mul_comm]; exact Nat.div_add_mod i m.width
      have hy : i / m.width + 1 < m.height := by
        have e2 : (i + m.width) / m.width = i / m.width + 1 := Nat.add_div_right i hw0
        rw [← e2]
        exact Nat.div_lt_of_lt_mul hi
      have q := (h _ _ hx (by omega)).2 hy
      rw [e] at q
      exact (R.flowAt_iff (by omega) hi).mp q fl
    · rintro ⟨x, hx, fl⟩
      rw [rowl y hy] at hx
      rw [take_atL (by omega), take_atL (by omega), take_atL (by omega), take_atL (by omega)] at fl
      have q := (h x y (by omega) hy).1 hx
      have i1 := idx_lt (w := m.width) (h := m.height) (x := x) (y := y) (by omega) hy
      have i2 := idx_lt (w := m.width) (h := m.height) (x := x + 1) (y := y) hx hy
      exact (R.flowAt_iff i1 i2).mp q fl
  · rintro ⟨h1, h2⟩ x y hx hy
    refine ⟨fun c => ?_, fun c => ?_⟩
    · have i1 := idx_lt (w := m.width) (h := m.height) (x := x) (y := y) (by omega) hy
      have i2 := idx_lt (w := m.width) (h := m.height) (x := x + 1) (y := y) c hy
      refine (R.flowAt_iff i1 i2).mpr fun fl => h2 y hy ⟨x, by rw [rowl y hy]; exact c, ?_⟩
      rw [take_atL (by omega), take_atL (by omega), take_atL (by omega), take_atL (by omega)]
      exact fl
    · have i1 := idx_lt (w := m.width) (h := m.height) (x := x) (y := y) hx hy
      have i2 := idx_lt (w := m.width) (h := m.height) (x := x) (y := y + 1) hx c
      rw [← idx_down] at i2
      refine (R.flowAt_iff i1 i2).mpr fun fl => h1 ⟨y * m.width + x, by rw [W.now]; exact i2, fl⟩
end
end Lw
end
section
set_option Elab.async false
set_option linter.all false
set_option maxRecDepth 100000
set_option maxHeartbeats 2000000
namespace L2
open PySem PySem.Spec PyProof.Rows
/-! ### a def that may be called by its name, a method by its object -/
def Cal (P : Program) (w : World) (K : PySem.W.Frag) (mg : Str → Option Value) (base : Heap) (k : Nat) (x : Str) (ps : List Str) (sp : Sp) : Prop :=
  ∃ f fd, FnOk P w K mg base CX0 k f fd ps sp ∧ Binds K fd ps [] ∧ mg x = some (.ref f) ∧ PySem.W.keepIn K (.ref f) = true
def MCal (P : Program) (w : World) (K : PySem.W.Frag) (mg : Str → Option Value) (base : Heap) (C : Addr) (k : Nat) (m : Str) (ps : List Str) (sp : Sp) : Prop :=
  ∃ f fd, FnOk P w K mg base CX0 k f fd ps sp ∧ Binds K fd ps [] ∧ Meth K C m f
section
variable {X : Cx} {k : Nat} {x m : Str} {ps : List Str} {sp : Sp} {p pos apos : Pos} {e o i : Expr} {es : List Expr} {t : TA} {to ty : TE} {C : Addr}
theorem pe_cal (c : Cal X.prog X.w X.K X.mg X.base k x ps sp) (hr : Room k X.A) (ha : PA X (e :: es) t) (hg : Gl X x := by rfl) (hdb : (x == ("__debug__" : Str)) = false := by decide)
    (he : starEach (e :: es) X.env = (false, eval e X.env) :: starEach es X.env := by rfl) (hpl : (backTo pos (starEach es X.env)).any (·.1) = false := by rfl) : PE X (.Call (.Name x p) (e :: es) [] pos) (tCall sp [] E0 t) := by
  obtain ⟨f, fd, F, hb, hm, hk⟩ := c
  exact pe_call F hr hg hm hk hb .nil pass0 ha hdb he hpl
theorem pe_mcal {pl : Sem Bool} (c : MCal X.prog X.w X.K X.mg X.base C k m ps sp) (cl : Cls X.K C) (hr : Room k X.A) (ho : PE X o to) (ha : PA X (e :: es) t)
    (hst : starEach (e :: es) X.env = (false, eval e X.env) :: starEach es X.env := by rfl) (hpl : (backTo pos (starEach es X.env)).any (·.1) = false := by rfl)
    (ht : eval (.Call (.Attribute o m apos) (e :: es) [] pos) X.env = (do
      let ov ← eval o X.env
      standAt apos.atName
      let (f, first) ← holding [ov] (getMethod ov m pl)
      callWith pos f first (backTo pos (starEach (e :: es) X.env)) (backToKw pos (keywordEach [] X.env))) := by rfl) :
    PE X (.Call (.Attribute o m apos) (e :: es) [] pos) (tMeth C m sp [] E0 to t) := by
  obtain ⟨f, fd, F, hb, hm⟩ := c
  exact pe_meth ho cl hm F hr hb .nil pass0 ha hst hpl ht
theorem pe_mcal0 {pl : Sem Bool} (c : MCal X.prog X.w X.K X.mg X.base C k m ps sp) (cl : Cls X.K C) (hr : Room k X.A) (ho : PE X o to)
    (ht : eval (.Call (.Attribute o m apos) [] [] pos) X.env = (do
      let ov ← eval o X.env
      standAt apos.atName
      let (f, first) ← holding [ov] (getMethod ov m pl)
      callWith pos f first (backTo pos (starEach [] X.env)) (backToKw pos (keywordEach [] X.env))) := by rfl) :
    PE X (.Call (.Attribute o m apos) [] [] pos) (tMeth C m sp [] E0 to tNil) := by
  obtain ⟨f, fd, F, hb, hm⟩ := c
  exact pe_meth0 ho cl hm F hr hb .nil pass0 ht
/-- a name of the file's top that holds an int -/
theorem gi {n : Int} (h : ∃ t, X.mg x = some (.int n t)) (hg : Gl X x := by rfl) (hd : (x == ("__debug__" : Str)) = false := by decide) : PE X (.Name x pos) (tC (.int n)) := by
  obtain ⟨t, h⟩ := h
  exact pe_glob hg h ⟨t, rfl⟩ hd
/-- o[j], by values, j a place -/
def rGetL (K : PySem.W.Frag) : V → V → Hp → VK → Prop := fun x y H Q => ∃ (p : Addr) (xs : List V) (j : Nat) (v : V), x = .ref p ∧ y = .int (j : Int) ∧ SqL K H p xs ∧ xs[j]? = some v ∧ Q v H
theorem get_list : PGet X (rGetL X.K) := by
  intro pins s σ H o i ov iv Q I ro ri h
  obtain ⟨p, xs, j, v, rfl, rfl, hq, hv, q⟩ := h
  cases ro
  obtain ⟨t, rfl⟩ := ri
  obtain ⟨its, r, pl, hz⟩ := I.list hq
  obtain ⟨u, eu, ru⟩ := r.get hv
  have hj : j < xs.length := (List.getElem?_eq_some_iff.mp hv).1
  have hn := line63
  exact wpAny_getItem_list pl.isList (Int.natCast_nonneg j) (by omega) (by simpa using eu) ⟨v, H, I, ru, q⟩
/-! ### a dict of the file's top, read by a key -/
def KD (P : Program) (w : World) (K : PySem.W.Frag) (a : Addr) (kvs : List (Key × V)) : Prop := ∀ h : Heap, K.In h → ∃ vs, KV kvs vs ∧ h.DictOf (mixKind P w) a vs
def tKD (kvs : List (Key × V)) (ty : TE) : TE := fun σ H Q => ty σ H fun y H1 => ∃ k v, y = kV k ∧ valV kvs k = some v ∧ Q v H1
theorem pe_kd {kvs : List (Key × V)} (d : ∃ a, X.mg x = some (.ref a) ∧ KD X.prog X.w X.K a kvs) (hi : PE X i ty) (hs : NoSl i) (hg : Gl X x := by rfl) (hdb : (x == ("__debug__" : Str)) = false := by decide) :
    PE X (.Subscript (.Name x p) i pos) (tKD kvs ty) := by
  obtain ⟨a, hm, kd⟩ := d
  intro pins s σ H Q I h
  refine subD_of PySem.F.slot_dict_getitem.lookup hs (ld_glob I hg hm (thn (hi pins s σ H _ I h) fun iv s2 ⟨y, H2, I2, ry, k, v, ey, g, q2⟩ => ?_) hdb)
  subst ey
  obtain ⟨vs, rel, dd⟩ := kd _ I2.kIn
  obtain ⟨w', hw, rw'⟩ := RelO.some_of (v := v) (o := valueAt vs k) (by rw [← g]; exact rel.val k)
  exact ⟨dd.typeIs, wpAny_getItem_of (kV_is ry) dd.mapOf hw ⟨v, H2, I2.tok _, rw', q2⟩⟩
end
/-- a dict of ints as it stands behind the top -/
theorem kd_mk {P : Program} {w : World} {K : PySem.W.Frag} {a : Addr} {es : Array DictEntry} {n : Nat} (l : K.lookup a = some { cls := .type "dict", dict := none, data := .dict es n, slots := #[] }) (kvs : List (Int × Int))
    (h1 : ∃ ts : List (Tok × Tok), ts.length = kvs.length ∧ es.toList = (kvs.zip ts).map fun p => ⟨hashInt p.1.1, .int p.1.1 p.2.1, .int p.1.2 p.2.2⟩) (h2 : (kvs.map (·.1)).Nodup) :
    KD P w K a (kvs.map fun p => ((Sum.inl p.1 : Key), V.int p.2)) := by
  intro h X
  obtain ⟨ts, hl, he⟩ := h1
  have key : ∀ (kvs : List (Int × Int)) (ts : List (Tok × Tok)), ts.length = kvs.length → ∃ vs : List (Key × Value), KV (kvs.map fun p => ((Sum.inl p.1 : Key), V.int p.2)) vs ∧
      Pairs (mixKind P w) ((kvs.zip ts).map fun p => (⟨hashInt p.1.1, .int p.1.1 p.2.1, .int p.1.2 p.2.2⟩ : DictEntry)) vs ∧ vs.map (·.1) = kvs.map (fun p => (Sum.inl p.1 : Key)) := by
    intro kvs
    induction kvs with
    | nil => intro ts _; exact ⟨[], .nil, .nil, rfl⟩
    | cons p r ih =>
      intro ts hl
      cases ts with
      | nil => cases hl
      | cons t ts =>
        obtain ⟨vs, i1, i2, i3⟩ := ih ts (by simpa using hl)
        refine ⟨((Sum.inl p.1 : Key), .int p.2 t.2) :: vs, .cons ⟨rfl, t.2, rfl⟩ i1, .cons (keyIs_int p.1 t.1) rfl i2, ?_⟩
        rw [List.map_cons, List.map_cons, i3]
  obtain ⟨vs, k1, k2, k3⟩ := key kvs ts hl
  refine ⟨vs, k1, _, es, n, X _ _ l, ⟨rfl, rfl, rfl⟩, rfl, ?_, by rw [he]; exact k2, ?_⟩
  · intro e me
    rw [← Array.mem_toList_iff, he] at me
    obtain ⟨p, _, rfl⟩ := List.mem_map.mp me
    exact ⟨Sum.inl p.1.1, keyIs_int p.1.1 p.2.1, rfl⟩
  · rw [k3]
    refine List.nodup_iff_pairwise_ne.mpr (List.pairwise_map.mpr (List.Pairwise.imp ?_ (List.pairwise_map.mp (List.nodup_iff_pairwise_ne.mp h2))))
    intro a b hab q
    exact hab (Sum.inl.inj q)
end L2
end
section
set_option Elab.async false
set_option linter.all false
set_option maxRecDepth 100000
set_option maxHeartbeats 4000000
namespace Lw
open PySem PySem.Spec PyProof.Rows L2
/-! ### zip over four lists -/
abbrev Four (h : Heap) (T : Addr) (a b c d : Value) : Prop := h.get? T = some { cls := .type "tuple", data := .seq #[a, b, c, d] }
/-- the zip's own objects, and the lists it goes over -/
structure Ap4 (z TI TO i1 i2 i3 i4 l1 l2 l3 l4 : Addr) : Prop where
  nd : ([z, TI, TO, i1, i2, i3, i4] : List Nat).Nodup
  n1 : l1 ∉ ([z, TO, i1, i2, i3, i4] : List Nat)
  n2 : l2 ∉ ([z, TO, i1, i2, i3, i4] : List Nat)
  n3 : l3 ∉ ([z, TO, i1, i2, i3, i4] : List Nat)
  n4 : l4 ∉ ([z, TO, i1, i2, i3, i4] : List Nat)
theorem tcall4 (a b c d : Value) : checkTypeCall "zip" ⟨[a, b, c, d], []⟩ = pure () := by kernel_rfl
theorem ncall4 (a b c d : Value) : checkBuiltinCall "zip.__new__" ⟨[.type "zip", a, b, c, d], []⟩ = pure () := by kernel_rfl
theorem oinit5 (a b c d e : Value) : argsOk "object.__init__" ⟨[a, b, c, d, e], []⟩ := by
  unfold argsOk
  rw [signature?_of (id := "object.__init__") (n := ['_', '_', 't', 'i', 'n', 'i', '_', '_']) (o := ['t', 'c', 'e', 'j', 'b', 'o']) (by kernel_rfl) F.owner_object]
  kernel_rfl
section
variable {prog : Program} {w : World} {A : Around} {E : Value → Shared → Prop} {s : Shared}
theorem upd4 {T : Addr} {a b c d x : Value} {k : Nat} {Q : Unit → Shared → Prop} (hT : Four s.heap T a b c d)
    (h : ∀ g, g.get? T = some { cls := .type "tuple", data := .seq ((#[a, b, c, d] : Array Value).setIfInBounds k x) } → Heap.SameBut T s.heap g → Q () { s with heap := g }) :
    wpAny (model prog w) A (updateSeq T (·.setIfInBounds k x)) Q E s := by
  refine wpAny_updateSeq hT rfl (h _ ?_ (Heap.SameBut.update ..))
  rw [Heap.get?_update_self _ hT rfl]
  simp [Obj.mapSeq]
theorem next4_item {z TI TO i1 i2 i3 i4 l1 l2 l3 l4 : Addr} {k : Nat} {xs ys us vs : Array Value} {x y u v a b c d : Value} {Q : Value → Shared → Prop} (D : Ap4 z TI TO i1 i2 i3 i4 l1 l2 l3 l4)
    (hz : IsZip s.heap z TI TO .none) (hTI : Four s.heap TI (.ref i1) (.ref i2) (.ref i3) (.ref i4)) (hTO : Four s.heap TO a b c d)
    (h1 : s.heap.IsListIter i1 l1 k) (h2 : s.heap.IsListIter i2 l2 k) (h3 : s.heap.IsListIter i3 l3 k) (h4 : s.heap.IsListIter i4 l4 k)
    (g1 : s.heap.IsList l1 xs) (g2 : s.heap.IsList l2 ys) (g3 : s.heap.IsList l3 us) (g4 : s.heap.IsList l4 vs) (ex : xs[k]? = some x) (ey : ys[k]? = some y) (eu : us[k]? = some u) (ev : vs[k]? = some v)
    (hQ : ∀ h', IsZip h' z TI TO (rawInt s.heap.objs.size) → Four h' TO x y u v → h'.IsListIter i1 l1 (k + 1) → h'.IsListIter i2 l2 (k + 1) → h'.IsListIter i3 l3 (k + 1) → h'.IsListIter i4 l4 (k + 1) →
      Four h' s.heap.objs.size x y u v → (∀ c o, c ∉ [z, TO, i1, i2, i3, i4] → s.heap.get? c = some o → h'.get? c = some o) → Q (.ref s.heap.objs.size) { s with heap := h' }) :
    wpAny (model prog w) A (Builtin.«zip.__next__» ⟨[.ref z], []⟩) (fun fin s' => ∃ r, fin = .done (.ret r) ∧ Q r s') E s := by
  have nd := D.nd
  simp only [List.nodup_cons, List.mem_cons, not_or, List.not_mem_nil, not_false_eq_true, and_true] at nd
  obtain ⟨⟨z_TI, z_TO, z_1, z_2, z_3, z_4⟩, ⟨TI_TO, TI_1, TI_2, TI_3, TI_4⟩, ⟨TO_1, TO_2, TO_3, TO_4⟩, ⟨n12, n13, n14⟩, ⟨n23, n24⟩, n34, _⟩ := nd
  have ext : ∀ {h h' : Heap} {q : Addr}, q ∈ [z, TO, i1, i2, i3, i4] → Heap.SameBut q h h' → (∀ c o, c ∉ [z, TO, i1, i2, i3, i4] → s.heap.get? c = some o → h.get? c = some o) →
      ∀ c o, c ∉ [z, TO, i1, i2, i3, i4] → s.heap.get? c = some o → h'.get? c = some o := fun hq sb kp c o nc e => sb.extBut _ _ (fun e' => nc (by rw [e']; exact hq)) (kp c o nc e)
  show wpAny _ _ (field (.ref z) 2 >>= _) _ _ _
  refine wpAny_bind (wpAny_field hz rfl (x := .bool false) rfl ?_)
  show wpAny _ _ (field (.ref z) 3 >>= _) _ _ _
  refine wpAny_bind (wpAny_field hz rfl (x := .ref TI) rfl (wpAny_bind (wpAny_seqItems hTI rfl ?_)))
  show wpAny _ _ (Builtin.SmallTypes.ownedTupleIsFree (.ref z) >>= _) _ _ _
  refine wpAny_bind ?_
  unfold Builtin.SmallTypes.ownedTupleIsFree
  refine wpAny_bind (wpAny_field hz rfl (x := .none) rfl (wpAny_pure ?_))
  simp only [if_true]
  refine wpAny_bind (wpAny_rule (wpAny_bind (wpAny_field hz rfl (x := .ref TO) rfl (wpAny_bind (wpAny_setField_rec hz (by simp) fun p0 z0 b0 => ?_)))))
  replace z0 : IsZip p0 z TI TO .ellipsis := z0
  have k0 := ext (by simp) b0 fun c o _ e => e
  have t0 : Four p0 TO a b c d := b0.extBut _ _ (Ne.symm z_TO) hTO
  have j1 := h1.extBut b0.extBut (Ne.symm z_1)
  have j2 := h2.extBut b0.extBut (Ne.symm z_2)
  have j3 := h3.extBut b0.extBut (Ne.symm z_3)
  have j4 := h4.extBut b0.extBut (Ne.symm z_4)
  refine wpAny_bind ?_
  simp only [List.zipIdx_cons, List.zipIdx_nil, List.forIn_cons, List.forIn_nil]
  -- the first
  refine wpAny_bind (wpAny_bind (wpAny_onRaise ?_))
  show wpAny _ _ (Builtin.SmallTypes.nextOf (Value.ref i1) >>= _) _ _ _
  refine wpAny_bind (wpAny_nextOf_list_item j1 (g1.at fun o e => k0 _ o D.n1 e) ex fun p1 f1 b1 => wpAny_pure ?_)
  have k1 := ext (by simp) b1 k0
  have t1 : Four p1 TO a b c d := b1.extBut _ _ TO_1 t0
  refine wpAny_bind (wpAny_seqItems t1 rfl (wpAny_bind (upd4 t1 fun p2 t2 b2 => wpAny_bind (wpAny_letGo (wpAny_pure ?_)))))
  replace t2 : Four p2 TO x b c d := t2
  have k2 := ext (by simp) b2 k1
  have z2 : IsZip p2 z TI TO .ellipsis := b2.extBut _ _ z_TO (b1.extBut _ _ z_1 z0)
  replace f1 := f1.extBut b2.extBut (Ne.symm TO_1)
  replace j2 := (j2.extBut b1.extBut (Ne.symm n12)).extBut b2.extBut (Ne.symm TO_2)
  replace j3 := (j3.extBut b1.extBut (Ne.symm n13)).extBut b2.extBut (Ne.symm TO_3)
  replace j4 := (j4.extBut b1.extBut (Ne.symm n14)).extBut b2.extBut (Ne.symm TO_4)
  -- the second
  refine wpAny_bind (wpAny_bind (wpAny_onRaise ?_))
  show wpAny _ _ (Builtin.SmallTypes.nextOf (Value.ref i2) >>= _) _ _ _
  refine wpAny_bind (wpAny_nextOf_list_item j2 (g2.at fun o e => k2 _ o D.n2 e) ey fun p3 f2 b3 => wpAny_pure ?_)
  have k3 := ext (by simp) b3 k2
  have t3 : Four p3 TO x b c d := b3.extBut _ _ TO_2 t2
  refine wpAny_bind (wpAny_seqItems t3 rfl (wpAny_bind (upd4 t3 fun p4 t4 b4 => wpAny_bind (wpAny_letGo (wpAny_pure ?_)))))
  replace t4 : Four p4 TO x y c d := t4
  have k4 := ext (by simp) b4 k3
  have z4 : IsZip p4 z TI TO .ellipsis := b4.extBut _ _ z_TO (b3.extBut _ _ z_2 z2)
  replace f1 := (f1.extBut b3.extBut n12).extBut b4.extBut (Ne.symm TO_1)
  replace f2 := f2.extBut b4.extBut (Ne.symm TO_2)
  replace j3 := (j3.extBut b3.extBut (Ne.symm n23)).extBut b4.extBut (Ne.symm TO_3)
  replace j4 := (j4.extBut b3.extBut (Ne.symm n24)).extBut b4.extBut (Ne.symm TO_4)
  -- the third
  refine wpAny_bind (wpAny_bind (wpAny_onRaise ?_))
  show wpAny _ _ (Builtin.SmallTypes.nextOf (Value.ref i3) >>= _) _ _ _
  refine wpAny_bind (wpAny_nextOf_list_item j3 (g3.at fun o e => k4 _ o D.n3 e) eu fun p5 f3 b5 => wpAny_pure ?_)
  have k5 := ext (by simp) b5 k4
  have t5 : Four p5 TO x y c d := b5.extBut _ _ TO_3 t4
  refine wpAny_bind (wpAny_seqItems t5 rfl (wpAny_bind (upd4 t5 fun p6 t6 b6 => wpAny_bind (wpAny_letGo (wpAny_pure ?_)))))
  replace t6 : Four p6 TO x y u d := t6
  have k6 := ext (by simp) b6 k5
  have z6 : IsZip p6 z TI TO .ellipsis := b6.extBut _ _ z_TO (b5.extBut _ _ z_3 z4)
  replace f1 := (f1.extBut b5.extBut n13).extBut b6.extBut (Ne.symm TO_1)
  replace f2 := (f2.extBut b5.extBut n23).extBut b6.extBut (Ne.symm TO_2)
  replace f3 := f3.extBut b6.extBut (Ne.symm TO_3)
  replace j4 := (j4.extBut b5.extBut (Ne.symm n34)).extBut b6.extBut (Ne.symm TO_4)
  -- the fourth
  refine wpAny_bind (wpAny_bind (wpAny_onRaise ?_))
  show wpAny _ _ (Builtin.SmallTypes.nextOf (Value.ref i4) >>= _) _ _ _
  refine wpAny_bind (wpAny_nextOf_list_item j4 (g4.at fun o e => k6 _ o D.n4 e) ev fun p7 f4 b7 => wpAny_pure ?_)
  have k7 := ext (by simp) b7 k6
  have t7 : Four p7 TO x y u d := b7.extBut _ _ TO_4 t6
  refine wpAny_bind (wpAny_seqItems t7 rfl (wpAny_bind (upd4 t7 fun p8 t8 b8 => wpAny_bind (wpAny_letGo (wpAny_pure (wpAny_pure ?_))))))
  replace t8 : Four p8 TO x y u v := t8
  have k8 := ext (by simp) b8 k7
  have z8 : IsZip p8 z TI TO .ellipsis := b8.extBut _ _ z_TO (b7.extBut _ _ z_4 z6)
  replace f1 := (f1.extBut b7.extBut n14).extBut b8.extBut (Ne.symm TO_1)
  replace f2 := (f2.extBut b7.extBut n24).extBut b8.extBut (Ne.symm TO_2)
  replace f3 := (f3.extBut b7.extBut n34).extBut b8.extBut (Ne.symm TO_3)
  replace f4 := f4.extBut b8.extBut (Ne.symm TO_4)
  have sz : p8.objs.size = s.heap.objs.size := by rw [b8.1, b7.1, b6.1, b5.1, b4.1, b3.1, b2.1, b1.1, b0.1]
  -- the new tuple
  refine wpAny_bind (wpAny_seqItems t8 rfl (wpAny_bind (wpAny_newTuple ?_)))
  have zlt : z < p8.objs.size := Heap.lt_size z8
  show wpAny _ _ (Builtin.SmallTypes.ownedTupleHandOut (.ref z) (.ref p8.objs.size) >>= _) _ _ _
  refine wpAny_bind ?_
  unfold Builtin.SmallTypes.ownedTupleHandOut
  have z9 : IsZip (p8.push { cls := .type "tuple", data := .seq #[x, y, u, v] }) z TI TO .ellipsis := Heap.get?_push_of_some _ z8
  refine wpAny_bind (wpAny_setField_rec z9 (by simp) fun q0 y0 c0 => ?_)
  replace y0 : IsZip q0 z TI TO (rawInt p8.objs.size) := y0
  refine wpAny_setField_rec y0 (by simp) fun q1 y1 c1 => ?_
  replace y1 : IsZip q1 z TI TO (rawInt p8.objs.size) := y1
  have up : ∀ c o, c ≠ z → p8.get? c = some o → q1.get? c = some o := fun c o nc e => c1.extBut _ _ nc (c0.extBut _ _ nc (Heap.get?_push_of_some _ e))
  have tn : Four q1 p8.objs.size x y u v := c1.extBut _ _ (Nat.ne_of_gt zlt) (c0.extBut _ _ (Nat.ne_of_gt zlt) (Heap.get?_push_size _ rfl))
  rw [sz] at y1 tn
  refine wpAny_pure ⟨_, rfl, ?_⟩
  show Q (.ref p8.objs.size) _
  rw [sz]
  exact hQ q1 y1 (up _ _ (Ne.symm z_TO) t8) (f1.at fun o e => up _ o (Ne.symm z_1) e) (f2.at fun o e => up _ o (Ne.symm z_2) e) (f3.at fun o e => up _ o (Ne.symm z_3) e) (f4.at fun o e => up _ o (Ne.symm z_4) e) tn
    fun c o nc e => up c o (fun e' => nc (by simp [e'])) (k8 c o nc e)
/-- the third list is at its end, the two ahead of it are not -/
theorem next4_end {z TI TO i1 i2 i3 i4 l1 l2 l3 l4 : Addr} {k : Nat} {xs ys us : Array Value} {x y a b c d : Value} {Q : Fin → Shared → Prop} (hh : A.handled = none) (D : Ap4 z TI TO i1 i2 i3 i4 l1 l2 l3 l4)
    (hz : IsZip s.heap z TI TO .none) (hTI : Four s.heap TI (.ref i1) (.ref i2) (.ref i3) (.ref i4)) (hTO : Four s.heap TO a b c d)
    (h1 : s.heap.IsListIter i1 l1 k) (h2 : s.heap.IsListIter i2 l2 k) (h3 : s.heap.IsListIter i3 l3 k)
    (g1 : s.heap.IsList l1 xs) (g2 : s.heap.IsList l2 ys) (g3 : s.heap.IsList l3 us) (ex : xs[k]? = some x) (ey : ys[k]? = some y) (eu : us[k]? = none)
    (hE : ∀ h' e, (∀ c o, c ∉ [z, TO, i1, i2, i3, i4] → s.heap.get? c = some o → h'.get? c = some o) → (∃ o, h'.get? e = some o ∧ o.cls = .type "StopIteration") → E (.ref e) { s with heap := h' }) :
    wpAny (model prog w) A (Builtin.«zip.__next__» ⟨[.ref z], []⟩) Q E s := by
  have nd := D.nd
  simp only [List.nodup_cons, List.mem_cons, not_or, List.not_mem_nil, not_false_eq_true, and_true] at nd
  obtain ⟨⟨z_TI, z_TO, z_1, z_2, z_3, z_4⟩, ⟨TI_TO, TI_1, TI_2, TI_3, TI_4⟩, ⟨TO_1, TO_2, TO_3, TO_4⟩, ⟨n12, n13, n14⟩, ⟨n23, n24⟩, n34, _⟩ := nd
  have ext : ∀ {h h' : Heap} {q : Addr}, q ∈ [z, TO, i1, i2, i3, i4] → Heap.SameBut q h h' → (∀ c o, c ∉ [z, TO, i1, i2, i3, i4] → s.heap.get? c = some o → h.get? c = some o) →
      ∀ c o, c ∉ [z, TO, i1, i2, i3, i4] → s.heap.get? c = some o → h'.get? c = some o := fun hq sb kp c o nc e => sb.extBut _ _ (fun e' => nc (by rw [e']; exact hq)) (kp c o nc e)
  show wpAny _ _ (field (.ref z) 2 >>= _) _ _ _
  refine wpAny_bind (wpAny_field hz rfl (x := .bool false) rfl ?_)
  show wpAny _ _ (field (.ref z) 3 >>= _) _ _ _
  refine wpAny_bind (wpAny_field hz rfl (x := .ref TI) rfl (wpAny_bind (wpAny_seqItems hTI rfl ?_)))
  show wpAny _ _ (Builtin.SmallTypes.ownedTupleIsFree (.ref z) >>= _) _ _ _
  refine wpAny_bind ?_
  unfold Builtin.SmallTypes.ownedTupleIsFree
  refine wpAny_bind (wpAny_field hz rfl (x := .none) rfl (wpAny_pure ?_))
  simp only [if_true]
  refine wpAny_bind (wpAny_rule (wpAny_bind (wpAny_field hz rfl (x := .ref TO) rfl (wpAny_bind (wpAny_setField_rec hz (by simp) fun p0 z0 b0 => ?_)))))
  replace z0 : IsZip p0 z TI TO .ellipsis := z0
  have k0 := ext (by simp) b0 fun c o _ e => e
  have t0 : Four p0 TO a b c d := b0.extBut _ _ (Ne.symm z_TO) hTO
  have j1 := h1.extBut b0.extBut (Ne.symm z_1)
  have j2 := h2.extBut b0.extBut (Ne.symm z_2)
  have j3 := h3.extBut b0.extBut (Ne.symm z_3)
  refine wpAny_bind ?_
  simp only [List.zipIdx_cons, List.zipIdx_nil, List.forIn_cons, List.forIn_nil]
  refine wpAny_bind (wpAny_bind (wpAny_onRaise ?_))
  show wpAny _ _ (Builtin.SmallTypes.nextOf (Value.ref i1) >>= _) _ _ _
  refine wpAny_bind (wpAny_nextOf_list_item j1 (g1.at fun o e => k0 _ o D.n1 e) ex fun p1 f1 b1 => wpAny_pure ?_)
  have k1 := ext (by simp) b1 k0
  have t1 : Four p1 TO a b c d := b1.extBut _ _ TO_1 t0
  refine wpAny_bind (wpAny_seqItems t1 rfl (wpAny_bind (upd4 t1 fun p2 t2 b2 => wpAny_bind (wpAny_letGo (wpAny_pure ?_)))))
  replace t2 : Four p2 TO x b c d := t2
  have k2 := ext (by simp) b2 k1
  have z2 : IsZip p2 z TI TO .ellipsis := b2.extBut _ _ z_TO (b1.extBut _ _ z_1 z0)
  replace j2 := (j2.extBut b1.extBut (Ne.symm n12)).extBut b2.extBut (Ne.symm TO_2)
  replace j3 := (j3.extBut b1.extBut (Ne.symm n13)).extBut b2.extBut (Ne.symm TO_3)
  refine wpAny_bind (wpAny_bind (wpAny_onRaise ?_))
  show wpAny _ _ (Builtin.SmallTypes.nextOf (Value.ref i2) >>= _) _ _ _
  refine wpAny_bind (wpAny_nextOf_list_item j2 (g2.at fun o e => k2 _ o D.n2 e) ey fun p3 f2 b3 => wpAny_pure ?_)
  have k3 := ext (by simp) b3 k2
  have t3 : Four p3 TO x b c d := b3.extBut _ _ TO_2 t2
  refine wpAny_bind (wpAny_seqItems t3 rfl (wpAny_bind (upd4 t3 fun p4 t4 b4 => wpAny_bind (wpAny_letGo (wpAny_pure ?_)))))
  have k4 := ext (by simp) b4 k3
  have z4 : IsZip p4 z TI TO .ellipsis := b4.extBut _ _ z_TO (b3.extBut _ _ z_2 z2)
  replace j3 := (j3.extBut b3.extBut (Ne.symm n23)).extBut b4.extBut (Ne.symm TO_3)
  refine wpAny_bind (wpAny_bind (wpAny_onRaise ?_))
  show wpAny _ _ (Builtin.SmallTypes.nextOf (Value.ref i3) >>= _) _ _ _
  refine wpAny_bind (wpAny_nextOf_list_end hh j3 (g3.at fun o e => k4 _ o D.n3 e) eu fun p5 e b5 he => ?_)
  obtain ⟨oe, hoe, hce⟩ := he
  have z5 : IsZip p5 z TI TO .ellipsis := b5 _ _ z_3 z4
  have ne : e ≠ z := fun q => by
    subst q
    rw [z5] at hoe
    cases hoe
    simp at hce
  refine wpAny_setField_rec z5 (by simp) fun p6 _ b6 => hE p6 e (fun c o nc q => b6.extBut _ _ (fun e' => nc (by simp [e'])) (b5 _ _ (fun e' => nc (by simp [e'])) (k4 c o nc q))) ⟨oe, b6.extBut _ _ ne hoe, hce⟩
theorem py4_item {z TI TO i1 i2 i3 i4 l1 l2 l3 l4 : Addr} {k : Nat} {xs ys us vs : Array Value} {x y u v a b c d : Value} {Q : Option Value → Shared → Prop} (D : Ap4 z TI TO i1 i2 i3 i4 l1 l2 l3 l4)
    (hz : IsZip s.heap z TI TO .none) (hTI : Four s.heap TI (.ref i1) (.ref i2) (.ref i3) (.ref i4)) (hTO : Four s.heap TO a b c d)
    (h1 : s.heap.IsListIter i1 l1 k) (h2 : s.heap.IsListIter i2 l2 k) (h3 : s.heap.IsListIter i3 l3 k) (h4 : s.heap.IsListIter i4 l4 k)
    (g1 : s.heap.IsList l1 xs) (g2 : s.heap.IsList l2 ys) (g3 : s.heap.IsList l3 us) (g4 : s.heap.IsList l4 vs) (ex : xs[k]? = some x) (ey : ys[k]? = some y) (eu : us[k]? = some u) (ev : vs[k]? = some v)
    (hQ : ∀ h', IsZip h' z TI TO (rawInt s.heap.objs.size) → Four h' TO x y u v → h'.IsListIter i1 l1 (k + 1) → h'.IsListIter i2 l2 (k + 1) → h'.IsListIter i3 l3 (k + 1) → h'.IsListIter i4 l4 (k + 1) →
      Four h' s.heap.objs.size x y u v → (∀ c o, c ∉ [z, TO, i1, i2, i3, i4] → s.heap.get? c = some o → h'.get? c = some o) → Q (some (.ref s.heap.objs.size)) { s with heap := h' }) :
    wpAny (model prog w) A (pyNext (.ref z)) Q E s := by
  have ty : s.TypeIs (.ref z) "zip" := ⟨_, hz, rfl⟩
  unfold pyNext
  refine wpAny_bind (wpAny_attempt (wpAny_callSpecial?_slot (name := Str.ofString "__next__") ty F.slot_zip_next (wpAny_call_entry F.slot_zip_next ty F.entry_zip_next ?_ (F.args_zip_next_1 _))))
  exact next4_item D hz hTI hTO h1 h2 h3 h4 g1 g2 g3 g4 ex ey eu ev fun h' a1 a2 a3 a4 a5 a6 a7 a8 => wpAny_pure (hQ h' a1 a2 a3 a4 a5 a6 a7 a8)
theorem py4_end {z TI TO i1 i2 i3 i4 l1 l2 l3 l4 : Addr} {k : Nat} {xs ys us : Array Value} {x y a b c d : Value} {Q : Option Value → Shared → Prop} (hh : A.handled = none) (D : Ap4 z TI TO i1 i2 i3 i4 l1 l2 l3 l4)
    (hz : IsZip s.heap z TI TO .none) (hTI : Four s.heap TI (.ref i1) (.ref i2) (.ref i3) (.ref i4)) (hTO : Four s.heap TO a b c d)
    (h1 : s.heap.IsListIter i1 l1 k) (h2 : s.heap.IsListIter i2 l2 k) (h3 : s.heap.IsListIter i3 l3 k)
    (g1 : s.heap.IsList l1 xs) (g2 : s.heap.IsList l2 ys) (g3 : s.heap.IsList l3 us) (ex : xs[k]? = some x) (ey : ys[k]? = some y) (eu : us[k]? = none)
    (hQ : ∀ h', (∀ c o, c ∉ [z, TO, i1, i2, i3, i4] → s.heap.get? c = some o → h'.get? c = some o) → Q none { s with heap := h' }) : wpAny (model prog w) A (pyNext (.ref z)) Q E s := by
  have ty : s.TypeIs (.ref z) "zip" := ⟨_, hz, rfl⟩
  unfold pyNext
  refine wpAny_bind (wpAny_attempt (wpAny_callSpecial?_slot (name := Str.ofString "__next__") ty F.slot_zip_next (wpAny_call_entry F.slot_zip_next ty F.entry_zip_next ?_ (F.args_zip_next_1 _))))
  refine next4_end hh D hz hTI hTO h1 h2 h3 g1 g2 g3 ex ey eu fun h' e hk he => ?_
  obtain ⟨o, ho, hc⟩ := he
  exact wpAny_bind (wpAny_isInstance (T := "StopIteration") (b := true) ⟨o, ho, hc⟩ isSubtype_stop (wpAny_pure (hQ _ hk)))
end
/-! the heap behind zip(..) -/
def itOf (l : Addr) : Obj := { cls := .type "list_iterator", data := .fields #[.ref l, .int 0 0] }
abbrev zp4 (h : Heap) (a b c d : Addr) : Heap := (((h.push (itOf a)).push (itOf b)).push (itOf c)).push (itOf d)
abbrev zp5 (h : Heap) (a b c d : Addr) : Heap := (zp4 h a b c d).push { cls := .type "tuple", data := .seq #[.ref h.objs.size, .ref (h.push (itOf a)).objs.size, .ref ((h.push (itOf a)).push (itOf b)).objs.size, .ref (((h.push (itOf a)).push (itOf b)).push (itOf c)).objs.size] }
abbrev zp6 (h : Heap) (a b c d : Addr) : Heap := (zp5 h a b c d).push { cls := .type "tuple", data := .seq #[.none, .none, .none, .none] }
abbrev zp7 (h : Heap) (a b c d : Addr) : Heap := (zp6 h a b c d).push { cls := .type "zip", data := .fields #[.none, .bool false, .bool false, .ref (zp4 h a b c d).objs.size, .ref (zp5 h a b c d).objs.size] }
theorem meets4 (l1 l2 l3 l4 : Addr) (xs ys us vs : Array Value) :
    Meets (Builtin.«zip.__new__» ⟨[.type "zip", .ref l1, .ref l2, .ref l3, .ref l4], []⟩) (fun _ R s => s.heap.IsList l1 xs ∧ s.heap.IsList l2 ys ∧ s.heap.IsList l3 us ∧ s.heap.IsList l4 vs ∧
      R (.ok (.ret (.ref (zp6 s.heap l1 l2 l3 l4).objs.size))) { s with heap := zp7 s.heap l1 l2 l3 l4 }) :=
  .of_wp fun prog w A R s h => by
    obtain ⟨hp, g, d, tk, os⟩ := s
    obtain ⟨q1, q2, q3, q4, h⟩ := h
    have hsub := sub_zip
    have Q1 : Heap.IsList (Shared.heap ⟨hp, g, d, tk, os⟩) l1 xs := q1
    have Q2 : Heap.IsList (Shared.heap ⟨hp.push (itOf l1), g, d, tk, os⟩) l2 ys := Heap.IsList.push q2 _
    have Q3 : Heap.IsList (Shared.heap ⟨(hp.push (itOf l1)).push (itOf l2), g, d, tk, os⟩) l3 us := Heap.IsList.push (Heap.IsList.push q3 _) _
    have Q4 : Heap.IsList (Shared.heap ⟨((hp.push (itOf l1)).push (itOf l2)).push (itOf l3), g, d, tk, os⟩) l4 vs := Heap.IsList.push (Heap.IsList.push (Heap.IsList.push q4 _) _) _
    unfold itOf at Q2 Q3 Q4
    wp_walk using wpAny_pyIter_list Q1, wpAny_pyIter_list Q2, wpAny_pyIter_list Q3, wpAny_pyIter_list Q4
    exact ⟨_, rfl, h⟩
section
variable {prog : Program} {w : World} {A : Around} {E : Value → Shared → Prop} {s : Shared}
theorem call4 {l1 l2 l3 l4 : Addr} {xs ys us vs : Array Value} {Q : Value → Shared → Prop} (q1 : s.heap.IsList l1 xs) (q2 : s.heap.IsList l2 ys) (q3 : s.heap.IsList l3 us) (q4 : s.heap.IsList l4 vs)
    (h : ∀ h', IsZip h' (s.heap.objs.size + 6) (s.heap.objs.size + 4) (s.heap.objs.size + 5) .none → Four h' (s.heap.objs.size + 4) (.ref s.heap.objs.size) (.ref (s.heap.objs.size + 1)) (.ref (s.heap.objs.size + 2)) (.ref (s.heap.objs.size + 3)) →
      Four h' (s.heap.objs.size + 5) .none .none .none .none → h'.IsListIter s.heap.objs.size l1 0 → h'.IsListIter (s.heap.objs.size + 1) l2 0 → h'.IsListIter (s.heap.objs.size + 2) l3 0 → h'.IsListIter (s.heap.objs.size + 3) l4 0 →
      (∀ c o, s.heap.get? c = some o → h'.get? c = some o) → Q (.ref (s.heap.objs.size + 6)) { s with heap := h' }) :
    wpAny (model prog w) A (call (.type "zip") [.ref l1, .ref l2, .ref l3, .ref l4]) Q E s := by
  refine callType_new F.called_zip (by decide) (tcall4 _ _ _ _) (ncall4 _ _ _ _) (fun obj => oinit5 obj _ _ _ _) F.entry_zip_new (meets4 l1 l2 l3 l4 xs ys us vs) ⟨q1, q2, q3, q4, ?_⟩
  have z1 : (s.heap.push (itOf l1)).objs.size = s.heap.objs.size + 1 := Heap.size_push ..
  have z2 : ((s.heap.push (itOf l1)).push (itOf l2)).objs.size = s.heap.objs.size + 2 := by rw [Heap.size_push, z1]
  have z3 : (((s.heap.push (itOf l1)).push (itOf l2)).push (itOf l3)).objs.size = s.heap.objs.size + 3 := by rw [Heap.size_push, z2]
  have z4 : (zp4 s.heap l1 l2 l3 l4).objs.size = s.heap.objs.size + 4 := by rw [Heap.size_push, z3]
  have z5 : (zp5 s.heap l1 l2 l3 l4).objs.size = s.heap.objs.size + 5 := by rw [Heap.size_push, z4]
  have z6 : (zp6 s.heap l1 l2 l3 l4).objs.size = s.heap.objs.size + 6 := by rw [Heap.size_push, z5]
  have pp : ∀ {h : Heap} {o o' : Obj} {c : Addr}, h.get? c = some o → (h.push o').get? c = some o := fun e => Heap.get?_push_of_some _ e
  have e7 : (zp7 s.heap l1 l2 l3 l4).get? (zp6 s.heap l1 l2 l3 l4).objs.size = some _ := Heap.get?_push_size _ rfl
  have e6 : (zp7 s.heap l1 l2 l3 l4).get? (zp5 s.heap l1 l2 l3 l4).objs.size = some _ := pp (Heap.get?_push_size _ rfl)
  have e5 : (zp7 s.heap l1 l2 l3 l4).get? (zp4 s.heap l1 l2 l3 l4).objs.size = some _ := pp (pp (Heap.get?_push_size _ rfl))
  have e4 : (zp7 s.heap l1 l2 l3 l4).get? (((s.heap.push (itOf l1)).push (itOf l2)).push (itOf l3)).objs.size = some (itOf l4) := pp (pp (pp (Heap.get?_push_size _ rfl)))
  have e3 : (zp7 s.heap l1 l2 l3 l4).get? ((s.heap.push (itOf l1)).push (itOf l2)).objs.size = some (itOf l3) := pp (pp (pp (pp (Heap.get?_push_size _ rfl))))
  have e2 : (zp7 s.heap l1 l2 l3 l4).get? (s.heap.push (itOf l1)).objs.size = some (itOf l2) := pp (pp (pp (pp (pp (Heap.get?_push_size _ rfl)))))
  have e1 : (zp7 s.heap l1 l2 l3 l4).get? s.heap.objs.size = some (itOf l1) := pp (pp (pp (pp (pp (pp (Heap.get?_push_size _ rfl))))))
  have kp : ∀ c o, s.heap.get? c = some o → (zp7 s.heap l1 l2 l3 l4).get? c = some o := fun c o e => pp (pp (pp (pp (pp (pp (pp e))))))
  show _ ∧ _
  rw [z4, z5, z6] at e7
  rw [z1, z2, z3, z4] at e5
  rw [z5] at e6
  rw [z3] at e4
  rw [z2] at e3
  rw [z1] at e2
  rw [z6]
  exact ⟨⟨_, e7, rfl⟩, h _ e7 e5 e6 ⟨_, e1, rfl, rfl⟩ ⟨_, e2, rfl, rfl⟩ ⟨_, e3, rfl, rfl⟩ ⟨_, e4, rfl, rfl⟩ kp⟩
end
/-! as a rule: the lists as they stand at each turn, the items in new tuples; at the end the third has no more, the two ahead of it have -/
def It4 (K : PySem.W.Frag) (a b c d : Addr) : It :=
  ⟨fun i H => ∃ (xs ys us vs : List V) (x y u v : V), SqL K H a xs ∧ SqL K H b ys ∧ SqL K H c us ∧ SqL K H d vs ∧ xs[i]? = some x ∧ ys[i]? = some y ∧ us[i]? = some u ∧ vs[i]? = some v,
    fun i H r H' => ∃ T x y u v, r = .ref T ∧ H T = none ∧ H' = upd H T (.tup [x, y, u, v]) ∧ (∀ xs, SqL K H a xs → xs[i]? = some x) ∧ (∀ ys, SqL K H b ys → ys[i]? = some y) ∧ (∀ us, SqL K H c us → us[i]? = some u) ∧ ∀ vs, SqL K H d vs → vs[i]? = some v,
    fun i H => ∃ (xs ys us : List V) (x y : V), SqL K H a xs ∧ SqL K H b ys ∧ SqL K H c us ∧ xs[i]? = some x ∧ ys[i]? = some y ∧ us.length ≤ i⟩
theorem turn4 {P : Program} {w : World} {K : PySem.W.Frag} {elts : List Expr} {kk : Nat} {tpos : Pos} {a b c d z TI TO i1 i2 i3 i4 : Addr} (D : Ap4 z TI TO i1 i2 i3 i4 a b c d) :
    Turn P w K (.Tuple elts kk tpos) (It4 K a b c d) [z, TI, TO, i1, i2, i3, i4] z (fun i h => IsZip h z TI TO .none ∧ Four h TI (.ref i1) (.ref i2) (.ref i3) (.ref i4) ∧ (∃ x y u v, Four h TO x y u v) ∧
      h.IsListIter i1 a i ∧ h.IsListIter i2 b i ∧ h.IsListIter i3 c i ∧ h.IsListIter i4 d i) where
  mem := by simp
  obj := fun i h st q hq => by
    obtain ⟨hz, hTI, ⟨x, y, u, v, hTO⟩, ⟨o1, e1, _, d1⟩, ⟨o2, e2, _, d2⟩, ⟨o3, e3, _, d3⟩, ⟨o4, e4, _, d4⟩⟩ := st
    simp only [List.mem_cons, List.not_mem_nil, or_false] at hq
    rcases hq with rfl | rfl | rfl | rfl | rfl | rfl | rfl
    · exact ⟨_, hz, fun v q => nomatch q⟩
    · exact ⟨_, hTI, fun v q => nomatch q⟩
    · exact ⟨_, hTO, fun v q => nomatch q⟩
    · exact ⟨o1, e1, fun v q => by rw [d1] at q; cases q⟩
    · exact ⟨o2, e2, fun v q => by rw [d2] at q; cases q⟩
    · exact ⟨o3, e3, fun v q => by rw [d3] at q; cases q⟩
    · exact ⟨o4, e4, fun v q => by rw [d4] at q; cases q⟩
  keep := fun i h h' st k => by
    obtain ⟨hz, hTI, ⟨x, y, u, v, hTO⟩, h1, h2, h3, h4⟩ := st
    exact ⟨k z (by simp) _ hz, k TI (by simp) _ hTI, ⟨x, y, u, v, k TO (by simp) _ hTO⟩, h1.at fun o q => k i1 (by simp) o q, h2.at fun o q => k i2 (by simp) o q, h3.at fun o q => k i3 (by simp) o q, h4.at fun o q => k i4 (by simp) o q⟩
  item := by
    intro X hP hw hK hc i pins s σ H E I hf st hg
    subst hP hw hK
    obtain ⟨hz, hTI, ⟨x0, y0, u0, v0, hTO⟩, h1, h2, h3, h4⟩ := st
    obtain ⟨xs, ys, us, vs, x, y, u, v, sa, sb, sc, sd, hx, hy, hu, hv⟩ := hg
    obtain ⟨its1, r1, p1, _⟩ := I.list sa
    obtain ⟨its2, r2, p2, _⟩ := I.list sb
    obtain ⟨its3, r3, p3, _⟩ := I.list sc
    obtain ⟨its4, r4, p4, _⟩ := I.list sd
    obtain ⟨w1, e1, rw1⟩ := r1.get hx
    obtain ⟨w2, e2, rw2⟩ := r2.get hy
    obtain ⟨w3, e3, rw3⟩ := r3.get hu
    obtain ⟨w4, e4, rw4⟩ := r4.get hv
    have hzl : z < s.heap.objs.size := Heap.lt_size hz
    have nd := D.nd
    simp only [List.nodup_cons, List.mem_cons, not_or, List.not_mem_nil, not_false_eq_true, and_true] at nd
    obtain ⟨⟨z_TI, z_TO, z_1, z_2, z_3, z_4⟩, ⟨TI_TO, TI_1, TI_2, TI_3, TI_4⟩, _⟩ := nd
    have nTI : TI ∉ [z, TO, i1, i2, i3, i4] := by
      simp only [List.mem_cons, not_or, List.not_mem_nil, not_false_eq_true, and_true]
      exact ⟨Ne.symm z_TI, TI_TO, TI_1, TI_2, TI_3, TI_4⟩
    refine py4_item D hz hTI hTO h1 h2 h3 h4 p1.isList p2.isList p3.isList p4.isList (x := w1) (y := w2) (u := w3) (v := w4) (by simpa using e1) (by simpa using e2) (by simpa using e3) (by simpa using e4) fun h' z' TO' f1 f2 f3 f4 hT hk => ?_
    refine ⟨_, rfl, wpAny_letOwnedTupleGo_zip (s := { s with heap := h' }) z' fun h'' z'' sm => ?_⟩
    have hT2 : h''.get? s.heap.objs.size = some { cls := .type "tuple", data := .seq #[w1, w2, w3, w4] } := (sm.2 _ (Nat.ne_of_gt hzl)).trans hT
    have new : ObjOk X.prog X.w (upd H s.heap.objs.size (.tup [x, y, u, v])) h'' s.heap.objs.size (.tup [x, y, u, v]) :=
      ⟨by show 4 ≤ sizeLine; decide, [w1, w2, w3, w4], .cons rw1 (.cons rw2 (.cons rw3 (.cons rw4 .nil))), ⟨_, hT2, rfl, _, rfl⟩⟩
    have kk : ∀ c o, c ∉ [z, TI, TO, i1, i2, i3, i4] → s.heap.get? c = some o → h''.get? c = some o := fun c o nc e => by
      simp only [List.mem_cons, not_or, List.not_mem_nil, not_false_eq_true, and_true] at nc
      exact (sm.2 c nc.1).trans (hk c o (by simp only [List.mem_cons, not_or, List.not_mem_nil, not_false_eq_true, and_true]; exact ⟨nc.1, nc.2.2⟩) e)
    have I1 : Inv X pins σ (upd H s.heap.objs.size (.tup [x, y, u, v])) { s with heap := h'' } := I.turnedNew (t' := s.toks) kk hf (Nat.le_refl _) new
    have inj : ∀ {q : Addr} {l l' : List V} {e : V}, SqL X.K H q l → l[i]? = some e → SqL X.K H q l' → l'[i]? = some e := fun s1 e1 s2 => by rw [I.list_inj s2 s1]; exact e1
    refine ⟨.ref s.heap.objs.size, _, I1, rfl, ⟨_, x, y, u, v, rfl, I.hok.fresh (Nat.le_refl _), rfl, fun l hl => inj sa hx hl, fun l hl => inj sb hy hl, fun l hl => inj sc hu hl, fun l hl => inj sd hv hl⟩, ⟨z'', ?_, ⟨w1, w2, w3, w4, ?_⟩, ?_, ?_, ?_, ?_⟩, fun c hcm => ?_⟩
    · exact (sm.2 _ (Ne.symm z_TI)).trans (hk _ _ nTI hTI)
    · exact (sm.2 _ (Ne.symm z_TO)).trans TO'
    · exact f1.at fun o q => (sm.2 _ (Ne.symm z_1)).trans q
    · exact f2.at fun o q => (sm.2 _ (Ne.symm z_2)).trans q
    · exact f3.at fun o q => (sm.2 _ (Ne.symm z_3)).trans q
    · exact f4.at fun o q => (sm.2 _ (Ne.symm z_4)).trans q
    · have hlt : c < s.heap.objs.size := by
        have hcm' := hcm
        simp only [List.mem_cons, List.not_mem_nil, or_false] at hcm'
        rcases hcm' with rfl | rfl | rfl | rfl | rfl | rfl | rfl
        · exact hzl
        · exact Heap.lt_size hTI
        · exact Heap.lt_size hTO
        · obtain ⟨_, e, _⟩ := h1; exact Heap.lt_size e
        · obtain ⟨_, e, _⟩ := h2; exact Heap.lt_size e
        · obtain ⟨_, e, _⟩ := h3; exact Heap.lt_size e
        · obtain ⟨_, e, _⟩ := h4; exact Heap.lt_size e
      rw [upd_ne (Nat.ne_of_lt hlt)]
      exact (hf c hcm).1
  done := by
    intro X hP hw hK hc i pins s σ H E I hf st hg
    subst hP hw hK
    obtain ⟨hz, hTI, ⟨x0, y0, u0, v0, hTO⟩, h1, h2, h3, h4⟩ := st
    obtain ⟨xs, ys, us, x, y, sa, sb, sc, hx, hy, hu⟩ := hg
    obtain ⟨its1, r1, p1, _⟩ := I.list sa
    obtain ⟨its2, r2, p2, _⟩ := I.list sb
    obtain ⟨its3, r3, p3, _⟩ := I.list sc
    obtain ⟨w1, e1, rw1⟩ := r1.get hx
    obtain ⟨w2, e2, rw2⟩ := r2.get hy
    have l3 := r3.length
    refine py4_end (I.ok.hd hc) D hz hTI hTO h1 h2 h3 p1.isList p2.isList p3.isList (x := w1) (y := w2) (by simpa using e1) (by simpa using e2) (by simp; omega) fun h' hk => ⟨rfl, I.turnedL (t' := s.toks) (ch := [z, TI, TO, i1, i2, i3, i4]) (fun c o nc q => hk c o ?_ q) hf⟩
    simp only [List.mem_cons, not_or, List.not_mem_nil, not_false_eq_true, and_true] at nc ⊢
    exact ⟨nc.1, nc.2.2⟩
  self := fun A i s Q E st h => wpAny_pyIter_zip st.1 h
theorem ap4_out {n a : Nat} (h : a < n) : a ∉ ([n + 6, n + 5, n, n + 1, n + 2, n + 3] : List Nat) := by
  simp only [List.mem_cons, not_or, List.not_mem_nil, not_false_eq_true, and_true]
  omega
theorem ap4_new (n a b c d : Nat) (la : a < n) (lb : b < n) (lc : c < n) (ld : d < n) : Ap4 (n + 6) (n + 4) (n + 5) n (n + 1) (n + 2) (n + 3) a b c d := by
  refine ⟨?_, ap4_out la, ap4_out lb, ap4_out lc, ap4_out ld⟩
  simp only [List.nodup_cons, List.mem_cons, not_or, List.not_mem_nil, not_false_eq_true, and_true, List.nodup_nil]
  omega
theorem ap4_le {n c : Nat} (h : c ∈ [n + 6, n + 4, n + 5, n, n + 1, n + 2, n + 3]) : n ≤ c := by
  simp only [List.mem_cons, List.not_mem_nil, or_false] at h
  omega
def iZip4 (K : PySem.W.Frag) (ta : TA) : TI := fun σ H R => ta σ H fun vs H1 => ∃ a b c d l1 l2 l3 l4, vs = [.ref a, .ref b, .ref c, .ref d] ∧ SqL K H1 a l1 ∧ SqL K H1 b l2 ∧ SqL K H1 c l3 ∧ SqL K H1 d l4 ∧ R (It4 K a b c d) H1
theorem pi_zip4 {X : Cx} {e e2 e3 e4 : Expr} {ta : TA} {p pos tpos : Pos} {elts : List Expr} {kk : Nat} (hg : Gl X "zip") (hm : X.mg "zip" = none) (ha : PA X [e, e2, e3, e4] ta)
    (hs : starEach [e, e2, e3, e4] X.env = (false, eval e X.env) :: starEach [e2, e3, e4] X.env := by rfl) (hpl : (backTo pos (starEach [e2, e3, e4] X.env)).any (·.1) = false := by rfl) :
    PI X (.Tuple elts kk tpos) (.Call (.Name "zip" p) [e, e2, e3, e4] [] pos) (iZip4 X.K ta) := by
  intro pins s σ H R I h
  refine Call_ (ld_blt I hg hm boot_zip5 (PyProof.Rows.callWith_type1 (thn (ha pos pins s σ H _ I h) fun us s1 ⟨vs, H1, I1, r1, q1⟩ => ?_) hs hpl))
  obtain ⟨a, b, c, d, xs, ys, us', vs', ex, sa, sb, sc, sd, q⟩ := q1
  subst ex
  cases r1 with
  | cons r1 rr => cases rr with
    | cons r2 rr => cases rr with
      | cons r3 rr => cases rr with
        | cons r4 rr =>
          cases rr
          cases r1
          cases r2
          cases r3
          cases r4
          obtain ⟨its1, _, p1, _⟩ := I1.list sa
          obtain ⟨its2, _, p2, _⟩ := I1.list sb
          obtain ⟨its3, _, p3, _⟩ := I1.list sc
          obtain ⟨its4, _, p4, _⟩ := I1.list sd
          have la : a < s1.heap.objs.size := p1.lt
          have lb : b < s1.heap.objs.size := p2.lt
          have lc : c < s1.heap.objs.size := p3.lt
          have ld : d < s1.heap.objs.size := p4.lt
          refine call4 p1.isList p2.isList p3.isList p4.isList fun h' hz hTI hTO h1 h2 h3 h4 hk => wpAny_pyIter_zip hz ?_
          have I2 : Inv X pins σ H1 { s1 with heap := h' } := I1.kept (t' := s1.toks) hk
          generalize hn : s1.heap.objs.size = n at la lb lc ld hz hTI hTO h1 h2 h3 h4 ⊢
          refine ⟨n + 6, [n + 6, n + 4, n + 5, n, n + 1, n + 2, n + 3], _, _, H1, rfl, I2, turn4 (ap4_new n a b c d la lb lc ld), ⟨hz, hTI, ⟨_, _, _, _, hTO⟩, h1, h2, h3, h4⟩, fun c hcm => ?_, q⟩
          have hle : s1.heap.objs.size ≤ c := by rw [hn]; exact ap4_le hcm
          exact I1.fpOk hle (I1.hok.fresh hle)
end Lw
end
section
set_option Elab.async false
set_option linter.all false
set_option maxRecDepth 100000
set_option maxHeartbeats 4000000
namespace Lw
open PySem PySem.Spec PyProof.Rows L2
/-! ### max(a list of ints, default=d) -/
theorem maxd_args (a d : Value) : argsOk "max" ⟨[a], [(Str.ofString "default", d)]⟩ := by
  unfold argsOk
  kernel_rfl
section
variable {prog : Program} {w : World} {A : Around} {R : Result → Shared → Prop} {I S : Addr} {fp wr : List Addr} {n : Nat} {P : Nat → Value → Prop} {St : Nat → Heap → Prop} {d : Value} {val : Nat → Int}
/-- M is the greatest of the first n -/
def Top (val : Nat → Int) (n : Nat) (M : Int) : Prop := (∃ i, i < n ∧ val i = M) ∧ ∀ i, i < n → val i ≤ M
theorem Top.more {val : Nat → Int} {n : Nat} {M : Int} (h : Top val n M) : Top val (n + 1) (if val n > M then val n else M) := by
  obtain ⟨⟨i, hi, e⟩, u⟩ := h
  split
  · rename_i c
    refine ⟨⟨n, Nat.lt_succ_self n, rfl⟩, fun j hj => ?_⟩
    by_cases q : j = n
    · rw [q]; exact Int.le_refl _
    · have := u j (by omega)
      omega
  · rename_i c
    refine ⟨⟨i, by omega, e⟩, fun j hj => ?_⟩
    by_cases q : j = n
    · rw [q]; omega
    · exact u j (by omega)
theorem maxd_loop (W : Walks prog w A.in1 I fp wr n P St) (hv : ∀ i v, P i v → ∃ t, v = .int (val i) t) (nS : S ∉ fp) : ∀ (r j : Nat) (s : Shared) (M : Int) (t : Tok) (c : Nat), n - (j + 1) = r → j + 1 ≤ n → St (j + 1) s.heap → Top val (j + 1) M →
    s.heap.get? S = some { cls := .type "list", dict := none, data := .seq #[.int M t, .int M t] c, slots := #[] } →
    (∀ M' t' g tk, Top val n M' → (∀ b o, b ∉ wr → b ≠ S → s.heap.get? b = some o → g.get? b = some o) → R (.ok (.ret (.int M' t'))) { s with heap := g, toks := tk }) →
    codeAny (model prog w) A (.builtin "max.loop" ⟨[.ref I, .none, .ref S], [(Str.ofString "default", d)]⟩) R s := by
  have nw : S ∉ wr := fun h => nS (W.sub _ h)
  have nm : (toString "max" ++ toString ".loop" : String) = "max.loop" := by decide
  intro r
  induction r with
  | zero =>
    intro j s M t c hr hj st tp gS fin
    have ej : j + 1 = n := by omega
    refine codeAny_builtin F.entry_max_loop ?_
    rw [Around.under_plainId F.plain_max_loop _]
    show wpAny _ A.in1 (seqItems? (Value.ref S) >>= _) _ _ s
    refine wpAny_bind (wpAny_seqItems gS rfl ?_)
    show wpAny _ A.in1 (tryCatch (pyNext (Value.ref I)) _ >>= _) _ _ s
    refine wpAny_bind (wpAny_tryCatch (W.done s _ _ (ej ▸ st) fun g tk kp => ?_))
    have gS' := kp S _ nw gS
    show wpAny _ A.in1 (updateSeq S (fun _ => (#[] : Array Value)) >>= _) _ _ _
    refine wpAny_bind (wpAny_updateSeq gS' rfl (wpAny_bind (wpAny_letGo (wpAny_pure ?_))))
    exact fin M t _ tk (ej ▸ tp) fun b o nb ns e => (Heap.get?_update_other _ _ (Ne.symm ns)).trans (kp b o nb e)
  | succ r ih =>
    intro j s M t c hr hj st tp gS fin
    have hlt : j + 1 < n := by omega
    refine codeAny_builtin F.entry_max_loop ?_
    rw [Around.under_plainId F.plain_max_loop _]
    show wpAny _ A.in1 (seqItems? (Value.ref S) >>= _) _ _ s
    refine wpAny_bind (wpAny_seqItems gS rfl ?_)
    show wpAny _ A.in1 (tryCatch (pyNext (Value.ref I)) _ >>= _) _ _ s
    refine wpAny_bind (wpAny_tryCatch (W.item (j + 1) s _ _ hlt st fun v g tk hP st' kp => ?_))
    obtain ⟨t2, rfl⟩ := hv _ _ hP
    have gS' := kp S _ nw gS
    have m1 := tp.more
    show wpAny _ A.in1 (tryCatch (holding [Value.int (val (j + 1)) t2, Value.int (val (j + 1)) t2] (richCompare .Gt (Value.int (val (j + 1)) t2) (Value.int M t) >>= _)) _ >>= _) _ _ _
    refine wpAny_bind (wpAny_tryCatch (wpAny_holding (wpAny_bind (CmpOf.ints_gt (P := fun i v => ∃ t, v = Value.int (if i = 0 then M else val (j + 1)) t) (fun i => if i = 0 then M else val (j + 1)) (fun _ _ h => h) 1 0 _ _ _ _ _ ⟨t2, rfl⟩ ⟨t, rfl⟩ ?_))))
    refine wpAny_bind (wpAny_holding (wpAny_truthy_bool (wpAny_bind (wpAny_letGo (wpAny_pure ?_)))))
    show wpAny _ A.in1 (if decide (val (j + 1) > M) = true then _ else _) _ _ _
    by_cases hb : val (j + 1) > M
    · rw [if_pos (decide_eq_true hb)]
      rw [if_pos hb] at m1
      refine wpAny_bind (wpAny_updateSeq gS' rfl (wpAny_bind (wpAny_letGo ?_)))
      rw [nm]
      refine wpAny_pure ⟨plainId_quiet F.plain_max_loop _, ih (j + 1) _ _ _ _ (by omega) hlt (W.frame _ _ _ st' fun b hb o e => ?_) m1 (Heap.get?_update_self _ gS' rfl) fun M' t' g2 tk2 tp2 kp2 => ?_⟩
      · exact (Heap.get?_update_other _ _ (fun q : S = b => nS (by rw [q]; exact hb))).trans e
      · exact fin M' t' g2 tk2 tp2 fun b o nb ns e => kp2 b o nb ns ((Heap.get?_update_other _ _ (Ne.symm ns)).trans (kp b o nb e))
    · rw [if_neg (fun q => hb (of_decide_eq_true q))]
      rw [if_neg hb] at m1
      refine wpAny_bind (wpAny_letGo ?_)
      rw [nm]
      exact wpAny_pure ⟨plainId_quiet F.plain_max_loop _, ih (j + 1) _ M t c (by omega) hlt st' m1 gS' fun M' t' g2 tk2 tp2 kp2 => fin M' t' g2 tk2 tp2 fun b o nb ns e => kp2 b o nb ns (kp b o nb e)⟩
/-- from the start: none, or the first -/
theorem maxd_first (W : Walks prog w A.in1 I fp wr n P St) (hv : ∀ i v, P i v → ∃ t, v = .int (val i) t) (nS : S ∉ fp) {s : Shared} {c : Nat} (st : St 0 s.heap) (gS : s.heap.get? S = some { cls := .type "list", dict := none, data := .seq #[] c, slots := #[] })
    (none0 : n = 0 → ∀ g tk, (∀ b o, b ∉ wr → b ≠ S → s.heap.get? b = some o → g.get? b = some o) → R (.ok (.ret d)) { s with heap := g, toks := tk })
    (fin : ∀ M' t' g tk, Top val n M' → (∀ b o, b ∉ wr → b ≠ S → s.heap.get? b = some o → g.get? b = some o) → R (.ok (.ret (.int M' t'))) { s with heap := g, toks := tk }) :
    codeAny (model prog w) A (.builtin "max.loop" ⟨[.ref I, .none, .ref S], [(Str.ofString "default", d)]⟩) R s := by
  have nw : S ∉ wr := fun h => nS (W.sub _ h)
  have nm : (toString "max" ++ toString ".loop" : String) = "max.loop" := by decide
  refine codeAny_builtin F.entry_max_loop ?_
  rw [Around.under_plainId F.plain_max_loop _]
  show wpAny _ A.in1 (seqItems? (Value.ref S) >>= _) _ _ s
  refine wpAny_bind (wpAny_seqItems gS rfl ?_)
  show wpAny _ A.in1 (tryCatch (pyNext (Value.ref I)) _ >>= _) _ _ s
  by_cases h0 : n = 0
  · refine wpAny_bind (wpAny_tryCatch (W.done s _ _ (h0 ▸ st) fun g tk kp => ?_))
    show wpAny _ A.in1 (rule _ >>= _) _ _ _
    exact wpAny_bind (wpAny_rule (wpAny_pure (none0 h0 g tk fun b o nb _ e => kp b o nb e)))
  · refine wpAny_bind (wpAny_tryCatch (W.item 0 s _ _ (by omega) st fun v g tk hP st' kp => ?_))
    obtain ⟨t2, rfl⟩ := hv _ _ hP
    have gS' := kp S _ nw gS
    show wpAny _ A.in1 (updateSeq S (fun _ => (#[Value.int (val 0) t2, Value.int (val 0) t2] : Array Value)) >>= _) _ _ _
    refine wpAny_bind (wpAny_updateSeq gS' rfl ?_)
    rw [nm]
    refine wpAny_pure ⟨plainId_quiet F.plain_max_loop _, maxd_loop W hv nS _ 0 _ (val 0) t2 _ rfl (by omega) (W.frame _ _ _ st' fun b hb o e => ?_) ⟨⟨0, by omega, rfl⟩, fun i hi => by rw [show i = 0 by omega]; exact Int.le_refl _⟩ (Heap.get?_update_self _ gS' rfl) fun M' t' g2 tk2 tp2 kp2 => ?_⟩
    · exact (Heap.get?_update_other _ _ (fun q : S = b => nS (by rw [q]; exact hb))).trans e
    · exact fin M' t' g2 tk2 tp2 fun b o nb ns e => kp2 b o nb ns ((Heap.get?_update_other _ _ (Ne.symm ns)).trans (kp b o nb e))
end
section
variable {prog : Program} {w : World} {A : Around} {E : Value → Shared → Prop} {s : Shared} {l : Addr} {its : List Value} {Q : Value → Shared → Prop} {d : Value} {val : Nat → Int}
theorem maxd_call (hh : A.handled = none) (hl : s.heap.IsList l its.toArray) (hv : ∀ (i : Nat) (v : Value), its[i]? = some v → ∃ t, v = Value.int (val i) t)
    (none0 : its.length = 0 → ∀ g tk, (∀ b o, s.heap.get? b = some o → g.get? b = some o) → Q d { s with heap := g, toks := tk })
    (fin : ∀ M t g tk, Top val its.length M → (∀ b o, s.heap.get? b = some o → g.get? b = some o) → Q (.int M t) { s with heap := g, toks := tk }) :
    wpAny (model prog w) A (call (.builtin "max") [.ref l] [(Str.ofString "default", d)]) Q E s := by
  have nm : (toString "max" ++ toString ".loop" : String) = "max.loop" := by decide
  obtain ⟨ol, hol, _⟩ := id hl
  have hll : l < s.heap.objs.size := Heap.lt_size hol
  refine kmk_tree F.kind_max F.plain_max F.entry_max (maxd_args _ _) ?_
  show wpAny _ A.in1 (Builtin.Builtins.bindParams "max" ["key", "default"] 0 ⟨[], [(Str.ofString "default", d)]⟩ >>= _) _ _ s
  refine wpAny_bind (wpAny_of_eq (show Builtin.Builtins.bindParams "max" ["key", "default"] 0 ⟨[], [(Str.ofString "default", d)]⟩ = pure [none, some d] from rfl) (wpAny_bind (wpAny_pure (wpAny_bind (wpAny_pyIter_list hl (wpAny_bind (wpAny_newList ?_ (Nat.zero_le _))))))))
  rw [nm]
  generalize hI : s.heap.objs.size = I at hll
  have z1 : (s.heap.push { cls := .type "list_iterator", data := .fields #[.ref l, .int 0 0] }).objs.size = I + 1 := by rw [Heap.size_push, hI]
  have lI : l ≠ I := Nat.ne_of_lt hll
  have W := Walks.list (prog := prog) (w := w) (A := A.in1) hh I l lI its.toArray
  have old : ∀ {g : Heap} {b : Addr} {o : Obj}, (∀ b o, b ∉ [I] → b ≠ I + 1 → ((s.heap.push { cls := .type "list_iterator", data := .fields #[.ref l, .int 0 0] }).push { cls := .type "list", data := .seq #[] }).get? b = some o → g.get? b = some o) → s.heap.get? b = some o → g.get? b = some o := fun {g b o} kp e => by
    have lt : b < s.heap.objs.size := Heap.lt_size e
    rw [hI] at lt
    have n1 : b ≠ I := Nat.ne_of_lt lt
    have n2 : b ≠ I + 1 := Nat.ne_of_lt (Nat.lt_succ_of_lt lt)
    exact kp b o (fun q => n1 (List.mem_singleton.mp q)) n2 (Heap.get?_push_of_some _ (Heap.get?_push_of_some _ e))
  rw [z1]
  have sz : its.toArray.size = its.length := List.size_toArray ..
  refine wpAny_pure ⟨plainId_quiet F.plain_max_loop _, maxd_first (S := I + 1) (val := val) (c := 0) W (fun i v h => hv i v (by simpa using h)) ?_ ⟨?_, ?_⟩ ?_ (fun h0 g tk kp => ?_) fun M t g tk tp kp => ?_⟩
  · intro q
    rcases List.mem_cons.mp q with q | q
    · exact Nat.succ_ne_self I q
    · exact absurd (List.mem_singleton.mp q) (Ne.symm (Nat.ne_of_lt (Nat.lt_succ_of_lt hll)))
  · exact ⟨_, Heap.get?_push_of_some _ (by rw [← hI]; exact Heap.get?_push_size _ rfl), rfl, rfl⟩
  · exact (hl.push _).push _
  · rw [← z1]
    exact Heap.get?_push_size _ rfl
  · exact none0 (by rw [← sz]; exact h0) g tk fun b o e => old kp e
  · exact fin M t g tk (by rw [← sz]; exact tp) fun b o e => old kp e
end
section
variable {X : Cx} {p pos : Pos} {e : Expr} {es : List Expr} {kws : List Keyword} {ta tk : TA}
def tMaxD (K : PySem.W.Frag) (t tk : TA) : TE := fun σ H Q => t σ H fun vs H1 => tk σ H1 fun zs H2 => ∃ (a : Addr) (ns : List Int) (u : V), vs = [.ref a] ∧ zs = [u] ∧ SqL K H2 a (ns.map V.int) ∧ (ns = [] → Q u H2) ∧ ∀ M, M ∈ ns → (∀ y, y ∈ ns → y ≤ M) → Q (.int M) H2
theorem pe_maxd (hc : X.calm = true) (hg : Gl X "max") (hm : X.mg "max" = none) (hb : bootBuiltins "max" = some (.builtin "max")) (ha : PA X (e :: es) ta) (hk : PK X kws tk) (hks : (backToKw pos (keywordEach kws X.env)).filterMap (·.1) = [Str.ofString "default"] := by rfl)
    (he : backTo pos (starEach (e :: es) X.env) = (false, eval e X.env) :: backTo pos (starEach es X.env) := by rfl) (h1 : (backTo pos (starEach (e :: es) X.env)).any (·.1) = false := by rfl) (h2 : (backToKw pos (keywordEach kws X.env)).all (·.1.isSome) = true := by rfl)
    (h3 : (backToKw pos (keywordEach kws X.env)).any (·.1.isNone) = false := by rfl) : PE X (.Call (.Name "max" p) (e :: es) kws pos) (tMaxD X.K ta tk) := by
  intro pins s σ H Q I h
  refine wpAny_Call_Name_kw (ld_blt I hg hm hb ?_ (by decide) (by decide))
  refine PyProof.Rows.callWith_kw (thn (ha pos pins s σ H _ I h) fun us s1 ⟨vs, H1, I1, r1, q1⟩ => thn (hk pos pins s1 σ H1 _ I1 q1) fun ws s2 ⟨zs, H2, I2, r2, q2⟩ => ?_) he h1 h2 h3
  obtain ⟨a, ns, u, rfl, rfl, sq, q0, qM⟩ := q2
  rw [hks]
  rw [Vals.ref1 r1]
  obtain ⟨uv, rfl, ru⟩ : ∃ uv, ws = [uv] ∧ RelV u uv := by
    cases r2 with
    | cons ru rr =>
      cases rr
      exact ⟨_, rfl, ru⟩
  obtain ⟨its, rv, hl, _⟩ := I2.list sq
  have ln := rv.length
  rw [List.length_map] at ln
  have ia := rv.ints
  show wpAny _ _ (call (.builtin "max") [.ref a] [(Str.ofString "default", uv)]) _ _ _
  refine maxd_call (I2.ok.hd hc) hl.isList (val := fun i => ns.getD i 0) (fun i v hv => ?_) (fun h0 g tk kp => ?_) fun M t g tk tp kp => ?_
  · have il : i < its.length := (List.getElem?_eq_some_iff.mp hv).1
    obtain ⟨v', e', r'⟩ := rv.get (i := i) (x := V.int (ns.getD i 0)) (by rw [List.getElem?_map, List.getElem?_eq_getElem (by omega), List.getD_eq_getElem?_getD, List.getElem?_eq_getElem (by omega)]; rfl)
    rw [hv] at e'
    cases e'
    exact r'
  · exact ⟨u, H2, I2.kept kp, ru, q0 (List.eq_nil_of_length_eq_zero (by omega))⟩
  · obtain ⟨⟨i, hi, e⟩, ub⟩ := tp
    refine ⟨.int M, H2, I2.kept kp, ⟨t, rfl⟩, qM M ?_ fun y hy => ?_⟩
    · rw [← e]
      show ns.getD i 0 ∈ ns
      rw [List.getD_eq_getElem?_getD, List.getElem?_eq_getElem (by omega)]
      exact List.getElem_mem _
    · obtain ⟨j, hj, rfl⟩ := List.getElem_of_mem hy
      have : ns.getD j 0 ≤ M := ub j (by omega)
      rw [List.getD_eq_getElem?_getD, List.getElem?_eq_getElem hj] at this
      exact this
end
end Lw
end
section
set_option Elab.async false
set_option linter.all false
set_option maxRecDepth 100000
set_option maxHeartbeats 2000000
namespace Lw
open PySem PySem.Spec PyProof.Rows L2
/-! ### the board as it lies in the heap -/
structure LA where
  p : Addr
  dx : Addr
  st : Addr
  gr : Addr
  rn : Addr
  ws : Addr
  w0 : Addr
  w1 : Addr
def foot (a : LA) : List Addr := [a.p, a.st, a.gr, a.rn, a.ws, a.w0, a.w1]
structure Dis (a : LA) : Prop where
  p_st : a.p ≠ a.st
  p_gr : a.p ≠ a.gr
  p_rn : a.p ≠ a.rn
  p_ws : a.p ≠ a.ws
  p_w0 : a.p ≠ a.w0
  p_w1 : a.p ≠ a.w1
  st_gr : a.st ≠ a.gr
  st_rn : a.st ≠ a.rn
  st_ws : a.st ≠ a.ws
  st_w0 : a.st ≠ a.w0
  st_w1 : a.st ≠ a.w1
  gr_rn : a.gr ≠ a.rn
  gr_ws : a.gr ≠ a.ws
  gr_w0 : a.gr ≠ a.w0
  gr_w1 : a.gr ≠ a.w1
  rn_ws : a.rn ≠ a.ws
  rn_w0 : a.rn ≠ a.w0
  rn_w1 : a.rn ≠ a.w1
  ws_w0 : a.ws ≠ a.w0
  ws_w1 : a.ws ≠ a.w1
  w0_w1 : a.w0 ≠ a.w1
theorem Dis.of {a : LA} (h : (foot a).Nodup) : Dis a := by
  constructor <;> (intro e; simp [foot, e] at h)
theorem Dis.nd {a : LA} (d : Dis a) : (foot a).Nodup := by
  simp [foot, d.p_st, d.p_gr, d.p_rn, d.p_ws, d.p_w0, d.p_w1, d.st_gr, d.st_rn, d.st_ws, d.st_w0, d.st_w1, d.gr_rn, d.gr_ws, d.gr_w0, d.gr_w1, d.rn_ws, d.rn_w0, d.rn_w1, d.ws_w0, d.ws_w1, d.w0_w1]
def vi (l : List Int) : List V := l.map V.int
theorem vi_len (l : List Int) : (vi l).length = l.length := List.length_map _
theorem vi_at {l : List Int} {i : Nat} {v : Int} (h : l[i]? = some v) : (vi l)[i]? = some (V.int v) := by
  unfold vi
  rw [List.getElem?_map, h]
  rfl
theorem vi_set (l : List Int) (i : Nat) (v : Int) : (vi l).set i (V.int v) = vi (l.set i v) := by
  unfold vi
  rw [List.map_set]
theorem vi_flat : ∀ l : List Int, (vi l).all flatV = true
  | [] => rfl
  | _ :: l => vi_flat l
theorem vi_rep (n : Nat) (v : Int) : (List.replicate n [V.int v]).flatten = vi (List.replicate n v) := by
  induction n with
  | zero => rfl
  | succ n ih => rw [List.replicate_succ, List.flatten_cons, ih, List.replicate_succ]; rfl
def lf (m : LM) (a : LA) : List (Str × V) := [("sweep", .int (m.sweep : Int)), ("width", .int (m.width : Int)), ("height", .int (m.height : Int)), ("fallen", .int m.fallen), ("states", .ref a.st), ("ground", .ref a.gr), ("rain", .ref a.rn), ("waters", .ref a.ws)]
theorem lf_sweep (m : LM) (a : LA) : (lf m a).lookup ("sweep" : Str) = some (.int (m.sweep : Int)) := rfl
theorem lf_width (m : LM) (a : LA) : (lf m a).lookup ("width" : Str) = some (.int (m.width : Int)) := rfl
theorem lf_height (m : LM) (a : LA) : (lf m a).lookup ("height" : Str) = some (.int (m.height : Int)) := rfl
theorem lf_fallen (m : LM) (a : LA) : (lf m a).lookup ("fallen" : Str) = some (.int m.fallen) := rfl
theorem lf_states (m : LM) (a : LA) : (lf m a).lookup ("states" : Str) = some (.ref a.st) := rfl
theorem lf_ground (m : LM) (a : LA) : (lf m a).lookup ("ground" : Str) = some (.ref a.gr) := rfl
theorem lf_rain (m : LM) (a : LA) : (lf m a).lookup ("rain" : Str) = some (.ref a.rn) := rfl
theorem lf_waters (m : LM) (a : LA) : (lf m a).lookup ("waters" : Str) = some (.ref a.ws) := rfl
theorem lf_put_sweep (m : LM) (a : LA) (n : Nat) : putF "sweep" (.int (n : Int)) (lf m a) = lf { m with sweep := n } a := rfl
theorem lf_put_fallen (m : LM) (a : LA) (n : Int) : putF "fallen" (.int n) (lf m a) = lf { m with fallen := n } a := rfl
theorem lf_put_states (m : LM) (a : LA) (q : Addr) : putF "states" (.ref q) (lf m a) = lf m { a with st := q } := rfl
theorem lf_put_rain (m : LM) (a : LA) (q : Addr) : putF "rain" (.ref q) (lf m a) = lf m { a with rn := q } := rfl
structure LandAt (C : Addr) (H : Hp) (a : LA) (m : LM) : Prop where
  ins : H a.p = some (.ins C a.dx (lf m a))
  st : H a.st = some (.lst (vi m.states))
  gr : H a.gr = some (.lst (vi m.ground))
  rn : H a.rn = some (.lst (vi m.rain))
  ws : H a.ws = some (.lst [.ref a.w0, .ref a.w1])
  w0 : H a.w0 = some (.lst (vi m.w0))
  w1 : H a.w1 = some (.lst (vi m.w1))
  d : Dis a
def LA.nowA (a : LA) (m : LM) : Addr := if m.sweep % 2 = 0 then a.w0 else a.w1
def LA.nextA (a : LA) (m : LM) : Addr := if m.sweep % 2 = 0 then a.w1 else a.w0
/-- all that was tracked and is not the board's is as it was, and is not the board's now -/
def Frame (H : Hp) (a : LA) (H' : Hp) (a' : LA) : Prop := ∀ b o, H b = some o → b ∉ foot a → H' b = some o ∧ b ∉ foot a'
theorem Frame.trans {H H1 H2 : Hp} {a a1 a2 : LA} (f : Frame H a H1 a1) (g : Frame H1 a1 H2 a2) : Frame H a H2 a2 := fun b o e n => by
  obtain ⟨h1, h2⟩ := f b o e n
  exact g b o h1 h2
theorem Frame.same {H H' : Hp} {a : LA} (s : Same H H') : Frame H a H' a := fun b o e n => ⟨s b o e, n⟩
theorem Frame.upd {H : Hp} {a : LA} {x : Addr} {o : HO} (h : x ∈ foot a) : Frame H a (upd H x o) a := fun b u e n => ⟨by rw [upd_ne (fun q => n (by rw [q]; exact h))]; exact e, n⟩
theorem Same.new {H : Hp} {x : Addr} {o : HO} (h : H x = none) : Same H (upd H x o) := fun b u e => by rw [upd_ne (ne_of_none e h)]; exact e
section
variable {C : Addr} {H H' : Hp} {a : LA} {m : LM}
theorem LandAt.same (L : LandAt C H a m) (s : Same H H') : LandAt C H' a m := ⟨s _ _ L.ins, s _ _ L.st, s _ _ L.gr, s _ _ L.rn, s _ _ L.ws, s _ _ L.w0, s _ _ L.w1, L.d⟩
theorem LandAt.now_at (L : LandAt C H a m) : H (a.nowA m) = some (.lst (vi m.now)) := by
  unfold LA.nowA LM.now
  split
  · exact L.w0
  · exact L.w1
theorem LandAt.next_at (L : LandAt C H a m) : H (a.nextA m) = some (.lst (vi m.next)) := by
  unfold LA.nextA LM.next
  split
  · exact L.w1
  · exact L.w0
theorem next_foot (a : LA) (m : LM) : a.nextA m ∈ foot a := by
  unfold LA.nextA foot
  split <;> simp
theorem LandAt.setNext (L : LandAt C H a m) (l : List Int) : LandAt C (L2.upd H (a.nextA m) (.lst (vi l))) a (m.withNext l) := by
  have d := L.d
  unfold LA.nextA LM.withNext
  by_cases c : m.sweep % 2 = 0
  · rw [if_pos c, if_pos c]
    exact ⟨by rw [upd_ne d.p_w1]; exact L.ins, by rw [upd_ne d.st_w1]; exact L.st, by rw [upd_ne d.gr_w1]; exact L.gr, by rw [upd_ne d.rn_w1]; exact L.rn, by rw [upd_ne d.ws_w1]; exact L.ws, by rw [upd_ne d.w0_w1]; exact L.w0, upd_same, d⟩
  · rw [if_neg c, if_neg c]
    exact ⟨by rw [upd_ne d.p_w0]; exact L.ins, by rw [upd_ne d.st_w0]; exact L.st, by rw [upd_ne d.gr_w0]; exact L.gr, by rw [upd_ne d.rn_w0]; exact L.rn, by rw [upd_ne d.ws_w0]; exact L.ws, upd_same, by rw [upd_ne d.w0_w1.symm]; exact L.w1, d⟩
theorem LandAt.setStates (L : LandAt C H a m) (l : List Int) : LandAt C (L2.upd H a.st (.lst (vi l))) a { m with states := l } := by
  have d := L.d
  exact ⟨by rw [upd_ne d.p_st]; exact L.ins, upd_same, by rw [upd_ne d.st_gr.symm]; exact L.gr, by rw [upd_ne d.st_rn.symm]; exact L.rn, by rw [upd_ne d.st_ws.symm]; exact L.ws, by rw [upd_ne d.st_w0.symm]; exact L.w0, by rw [upd_ne d.st_w1.symm]; exact L.w1, d⟩
theorem LandAt.setRain (L : LandAt C H a m) (l : List Int) : LandAt C (L2.upd H a.rn (.lst (vi l))) a { m with rain := l } := by
  have d := L.d
  exact ⟨by rw [upd_ne d.p_rn]; exact L.ins, by rw [upd_ne d.st_rn]; exact L.st, by rw [upd_ne d.gr_rn]; exact L.gr, upd_same, by rw [upd_ne d.rn_ws.symm]; exact L.ws, by rw [upd_ne d.rn_w0.symm]; exact L.w0, by rw [upd_ne d.rn_w1.symm]; exact L.w1, d⟩
/-- an int of the instance is stored -/
theorem LandAt.setIns (L : LandAt C H a m) {m' : LM} (e : (m'.states, m'.ground, m'.rain, m'.w0, m'.w1) = (m.states, m.ground, m.rain, m.w0, m.w1)) : LandAt C (L2.upd H a.p (.ins C a.dx (lf m' a))) a m' := by
  have d := L.d
  simp only [Prod.mk.injEq] at e
  obtain ⟨e1, e2, e3, e4, e5⟩ := e
  exact ⟨upd_same, by rw [upd_ne d.p_st.symm, e1]; exact L.st, by rw [upd_ne d.p_gr.symm, e2]; exact L.gr, by rw [upd_ne d.p_rn.symm, e3]; exact L.rn, by rw [upd_ne d.p_ws.symm]; exact L.ws, by rw [upd_ne d.p_w0.symm, e4]; exact L.w0, by rw [upd_ne d.p_w1.symm, e5]; exact L.w1, d⟩
theorem LandAt.foot_some (L : LandAt C H a m) : ∀ b ∈ foot a, H b ≠ none := by
  intro b hb q
  unfold foot at hb
  simp at hb
  rcases hb with rfl | rfl | rfl | rfl | rfl | rfl | rfl
  · rw [L.ins] at q; cases q
  · rw [L.st] at q; cases q
  · rw [L.gr] at q; cases q
  · rw [L.rn] at q; cases q
  · rw [L.ws] at q; cases q
  · rw [L.w0] at q; cases q
  · rw [L.w1] at q; cases q
/-- the states' list is another, which stands at q beside the board -/
theorem LandAt.newStates (L : LandAt C H a m) {q : Addr} {l : List Int} (hq : H q = some (.lst (vi l))) (nq : q ∉ foot a) : LandAt C (L2.upd H a.p (.ins C a.dx (lf m { a with st := q }))) { a with st := q } { m with states := l } := by
  have d := L.d
  simp [foot] at nq
  obtain ⟨n1, n2, n3, n4, n5, n6, n7⟩ := nq
  refine ⟨upd_same, by rw [upd_ne n1]; exact hq, by rw [upd_ne d.p_gr.symm]; exact L.gr, by rw [upd_ne d.p_rn.symm]; exact L.rn, by rw [upd_ne d.p_ws.symm]; exact L.ws, by rw [upd_ne d.p_w0.symm]; exact L.w0, by rw [upd_ne d.p_w1.symm]; exact L.w1, ?_⟩
  exact { d with p_st := fun e => n1 e.symm, st_gr := n3, st_rn := n4, st_ws := n5, st_w0 := n6, st_w1 := n7 }
theorem LandAt.newRain (L : LandAt C H a m) {q : Addr} {l : List Int} (hq : H q = some (.lst (vi l))) (nq : q ∉ foot a) : LandAt C (L2.upd H a.p (.ins C a.dx (lf m { a with rn := q }))) { a with rn := q } { m with rain := l } := by
  have d := L.d
  simp [foot] at nq
  obtain ⟨n1, n2, n3, n4, n5, n6, n7⟩ := nq
  refine ⟨upd_same, by rw [upd_ne d.p_st.symm]; exact L.st, by rw [upd_ne d.p_gr.symm]; exact L.gr, by rw [upd_ne n1]; exact hq, by rw [upd_ne d.p_ws.symm]; exact L.ws, by rw [upd_ne d.p_w0.symm]; exact L.w0, by rw [upd_ne d.p_w1.symm]; exact L.w1, ?_⟩
  exact { d with p_rn := fun e => n1 e.symm, st_rn := fun e => n2 e.symm, gr_rn := fun e => n3 e.symm, rn_ws := n5, rn_w0 := n6, rn_w1 := n7 }
end
end Lw
end
section
set_option Elab.async false
set_option linter.all false
set_option maxRecDepth 100000
set_option maxHeartbeats 2000000
namespace Lw
open PySem PySem.Spec PyProof.Rows L2
/-! ### what the defs promise -/
def spI2 (f : Int → Int → Int) : Sp := fun vs H Q _ => ∃ a b, vs = [.int a, .int b] ∧ Q (.int (f a b)) H
def spI4 (f : Int → Int → Int → Int → Int) : Sp := fun vs H Q _ => ∃ a b c d, vs = [.int a, .int b, .int c, .int d] ∧ Q (.int (f a b c d)) H
def spSide : Sp := fun vs H Q _ => ∃ n, vs = [.int n] ∧ Q (.bl (decide (1 ≤ n ∧ n ≤ 64))) H
def spNow (C : Addr) : Sp := fun vs H Q _ => ∃ (a : LA) (m : LM), vs = [.ref a.p] ∧ LandAt C H a m ∧ Q (.ref (a.nowA m)) H
def spComing (C : Addr) : Sp := fun vs H Q _ => ∃ (a : LA) (m : LM), vs = [.ref a.p] ∧ LandAt C H a m ∧ Q (.ref (a.nextA m)) H
def spPlace (C : Addr) : Sp := fun vs H Q _ => ∃ (a : LA) (m : LM) (x y : Nat), vs = [.ref a.p, .int (x : Int), .int (y : Int)] ∧ LandAt C H a m ∧ m.width ≤ 64 ∧ Q (.int ((y * m.width + x : Nat) : Int)) H
def spBeside (C : Addr) : Sp := fun vs H Q _ => ∃ (a : LA) (m : LM) (x y : Nat), vs = [.ref a.p, .int (x : Int), .int (y : Int)] ∧ LandAt C H a m ∧ m.width ≤ 64 ∧
  ∀ (H' : Hp) (q : Addr), H' q = some (.lst ((besideL m.width m.height x y).map fun (j : Nat) => V.int (j : Int))) → Same H H' → Q (.ref q) H'
def spInflow (C : Addr) : Sp := fun vs H Q _ => ∃ (a : LA) (m : LM) (x y : Nat), vs = [.ref a.p, .int (x : Int), .int (y : Int)] ∧ LandAt C H a m ∧ WF m ∧ x < m.width ∧ y < m.height ∧
  ∀ H' : Hp, Same H H' → Q (.int (inflow m.ground m.now m.width m.height x y)) H'
def spDoRow (C : Addr) : Sp := fun vs H Q _ => ∃ (a : LA) (m : LM) (y : Nat), vs = [.ref a.p, .int (y : Int)] ∧ LandAt C H a m ∧ WF m ∧ y < m.height ∧
  ∀ H' : Hp, LandAt C H' a (m.rowM y) → Frame H a H' a → Q .non H'
def spFall (C : Addr) : Sp := fun vs H Q _ => ∃ (a : LA) (m : LM), vs = [.ref a.p] ∧ LandAt C H a m ∧ WF m ∧
  ∀ (H' : Hp) (a' : LA), a'.p = a.p → LandAt C H' a' { m.withNext (List.zipWith (· + ·) m.next m.rain) with rain := List.replicate m.rain.length 0 } → Frame H a H' a' → Q .non H'
def spWork (C : Addr) : Sp := fun vs H Q _ => ∃ (a : LA) (m : LM), vs = [.ref a.p] ∧ LandAt C H a m ∧ WF m ∧
  ∀ (H' : Hp) (a' : LA), a'.p = a.p → LandAt C H' a' m.workA.1 → Frame H a H' a' → Q (.int m.workA.2) H'
def spTurn (C : Addr) : Sp := fun vs H Q _ => ∃ (a : LA) (m : LM), vs = [.ref a.p] ∧ LandAt C H a m ∧ WF m ∧
  ∀ (H' : Hp) (a' : LA), a'.p = a.p → LandAt C H' a' m.turnA.1 → Frame H a H' a' → Q (.int m.turnA.2) H'
def spRain (C : Addr) : Sp := fun vs H Q _ => ∃ (a : LA) (m : LM) (x y : Nat) (k : Int), vs = [.ref a.p, .int (x : Int), .int (y : Int), .int k] ∧ LandAt C H a m ∧ WF m ∧
  ∀ (H' : Hp) (a' : LA), a'.p = a.p → LandAt C H' a' (m.rainA x y k).1 → Frame H a H' a' → Q (.int (m.rainA x y k).2) H'
/-- the instance at p, new or a board that is there -/
def InsAt (C : Addr) (H : Hp) (p : Addr) (ft : List Addr) : Prop := (∃ dx, H p = some (.ins C dx []) ∧ ft = [p]) ∨ ∃ (a : LA) (m : LM), a.p = p ∧ LandAt C H a m ∧ ft = foot a
/-- the frame of lay: ft what was the board's -/
def FrameL (H : Hp) (ft : List Addr) (H' : Hp) (a' : LA) : Prop := ∀ b o, H b = some o → b ∉ ft → H' b = some o ∧ b ∉ foot a'
def spLay (K : PySem.W.Frag) (C : Addr) : Sp := fun vs H Q _ => ∃ (p g wt : Addr) (ft : List Addr) (w h : Nat) (gs ws : List Int), vs = [.ref p, .int (w : Int), .int (h : Int), .ref g, .ref wt] ∧ InsAt C H p ft ∧ w ≤ 64 ∧ h ≤ 64 ∧
  SqL K H g (vi gs) ∧ SqL K H wt (vi ws) ∧ ∀ (H' : Hp) (a' : LA), a'.p = p → LandAt C H' a' (layM w h gs ws) → FrameL H ft H' a' → Q .non H'
def spInit (C : Addr) : Sp := fun vs H Q _ => ∃ (p dx : Addr), vs = [.ref p] ∧ H p = some (.ins C dx []) ∧ ∀ (H' : Hp) (a' : LA), a'.p = p → LandAt C H' a' (layM 0 0 [] []) → (∀ b o, H b = some o → b ≠ p → H' b = some o ∧ b ∉ foot a') → Q .non H'
noncomputable def startA (m : LM) (w h : Nat) (gs ws : List Int) : LM × Int := open Classical in if startOk w h gs ws then (layM w h gs ws, 0) else (m, -22)
def spStart (K : PySem.W.Frag) (C : Addr) : Sp := fun vs H Q _ => ∃ (a : LA) (m : LM) (g wt : Addr) (w h : Nat) (gs ws : List Int), vs = [.ref a.p, .int (w : Int), .int (h : Int), .ref g, .ref wt] ∧ LandAt C H a m ∧
  SqL K H g (vi gs) ∧ SqL K H wt (vi ws) ∧ ((1 ≤ w ∧ w ≤ 64) → (1 ≤ h ∧ h ≤ 64) → 0 < gs.length) ∧
  ∀ (H' : Hp) (a' : LA), a'.p = a.p → LandAt C H' a' (startA m w h gs ws).1 → Frame H a H' a' → Q (.int (startA m w h gs ws).2) H'
def spHas (C : Addr) : Sp := fun vs H Q _ => ∃ (a : LA) (m : LM) (x y : Nat), vs = [.ref a.p, .int (x : Int), .int (y : Int)] ∧ LandAt C H a m ∧ Q (.bl (decide (x < m.width ∧ y < m.height))) H
def spCell (C : Addr) : Sp := fun vs H Q _ => ∃ (a : LA) (m : LM) (x y : Nat), vs = [.ref a.p, .int (x : Int), .int (y : Int)] ∧ LandAt C H a m ∧ WF m ∧ (¬ (x < m.width ∧ y < m.height) → Q (.int (-22)) H) ∧
  ((x < m.width ∧ y < m.height) → ∀ (H' : Hp) (p : Addr), H' p = some (.lst (vi [atL m.ground (y * m.width + x), atL m.now (y * m.width + x)])) → Same H H' → Q (.ref p) H')
def spHigh (C : Addr) : Sp := fun vs H Q _ => ∃ (a : LA) (m : LM), vs = [.ref a.p] ∧ LandAt C H a m ∧ WF m ∧ ∀ (M : Int) (H' : Hp), (wetM m (m.width * m.height) = [] ∧ M = 0) ∨ (M ∈ wetM m (m.width * m.height) ∧ ∀ y, y ∈ wetM m (m.width * m.height) → y ≤ M) → Same H H' → Q (.int M) H'
def spAmong (K : PySem.W.Frag) : Sp := fun vs H Q _ => ∃ (p q : Addr) (ws ls : List Int) (k : Nat), vs = [.ref p, .ref q, .int (k : Int)] ∧ SqL K H p (vi ws) ∧ SqL K H q (vi ls) ∧ ls.length = ws.length ∧ ws.length ≤ 4096 ∧ 1 ≤ k ∧ k ≤ ws.length ∧
  ∀ (H' : Hp) (b : Bool), (b = true ↔ Flows ws ls k) → Same H H' → Q (.bl b) H'
def stillL (m : LM) : Prop := ¬ Flows m.now (levM m) m.width ∧ ∀ y, y < m.height → ¬ Flows ((m.now.drop (y * m.width)).take m.width) (((levM m).drop (y * m.width)).take m.width) 1
def spStill (C : Addr) : Sp := fun vs H Q _ => ∃ (a : LA) (m : LM), vs = [.ref a.p] ∧ LandAt C H a m ∧ WF m ∧ 1 ≤ m.width ∧ 1 ≤ m.height ∧ (stillL m → ∀ H' : Hp, Same H H' → Q (.int 1) H') ∧ (¬ stillL m → ∀ H' : Hp, Same H H' → Q (.int 0) H')
/-! ### what the text has -/
structure Txt (P : Program) (w : World) (K : PySem.W.Frag) (mg : Str → Option Value) (C : Addr) : Prop where
  cl : Cls K C
  n_sweep : NoAttr K C "sweep"
  n_width : NoAttr K C "width"
  n_height : NoAttr K C "height"
  n_fallen : NoAttr K C "fallen"
  n_states : NoAttr K C "states"
  n_ground : NoAttr K C "ground"
  n_rain : NoAttr K C "rain"
  n_waters : NoAttr K C "waters"
  mgC : mg "Land" = some (.ref C)
  c_NOT_DONE : ∃ t, mg "NOT_DONE" = some (.int (-11) t)
  c_NOT_ALLOWED : ∃ t, mg "NOT_ALLOWED" = some (.int (-22) t)
  c_NO_ROOM : ∃ t, mg "NO_ROOM" = some (.int (-28) t)
  c_WAITS : ∃ t, mg "WAITS" = some (.int 0 t)
  c_DONE : ∃ t, mg "DONE" = some (.int 2 t)
  c_LARGEST_SIDE : ∃ t, mg "LARGEST_SIDE" = some (.int 64 t)
  c_MOST : ∃ t, mg "MOST" = some (.int 1073741824 t)
  c_LAST_SWEEP : ∃ t, mg "LAST_SWEEP" = some (.int 1099511627776 t)
  c_WATER_SHARE : ∃ t, mg "WATER_SHARE" = some (.int 4 t)
  c_HEIGHT_SHARE : ∃ t, mg "HEIGHT_SHARE" = some (.int 8 t)
  b_zip : mg "zip" = none
  b_min : mg "min" = none
  b_max : mg "max" = none
  b_sum : mg "sum" = none
  b_len : mg "len" = none
  b_list : mg "list" = none
  b_range : mg "range" = none
  b_enumerate : mg "enumerate" = none
theorem boot_min : bootBuiltins "min" = some (.builtin "min") := by decide +kernel
theorem boot_max : bootBuiltins "max" = some (.builtin "max") := by decide +kernel
theorem boot_sum : bootBuiltins "sum" = some (.builtin "sum") := by decide +kernel
theorem boot_len : bootBuiltins "len" = some (.builtin "len") := by decide +kernel
theorem boot_list : bootBuiltins "list" = some (.type "list") := by decide +kernel
/-! ### small things -/
theorem atI_two (x y : V) (n : Nat) : atI [x, y] ((n : Int) % 2) = some (if n % 2 = 0 then x else y) := by
  by_cases c : n % 2 = 0
  · rw [if_pos c]
    have e : (n : Int) % 2 = ((0 : Nat) : Int) := by omega
    rw [e]
    exact atI_nat rfl
  · rw [if_neg c]
    have e : (n : Int) % 2 = ((1 : Nat) : Int) := by omega
    rw [e]
    exact atI_nat rfl
theorem atI_two' (x y : V) (n : Nat) : atI [x, y] (((n : Int) + 1) % 2) = some (if n % 2 = 0 then y else x) := by
  have h := atI_two x y (n + 1)
  have e : ((n + 1 : Nat) : Int) = (n : Int) + 1 := by omega
  rw [e] at h
  rw [h]
  by_cases c : n % 2 = 0
  · rw [if_pos c, if_neg (by omega)]
  · rw [if_neg c, if_pos (by omega)]
/-- an if that appends to the list at q, or does nothing -/
theorem if_app {c : Prop} [Decidable c] {H : Hp} {N : Hp → Prop} {A : Prop} {q : Addr} {xs : List V} {v : V} (hq : H q = some (.lst xs)) (hA : c → N (upd H q (.lst (xs ++ [v]))) → A)
    (h : ∀ H' : Hp, H' q = some (.lst (xs ++ if c then [v] else [])) → (∀ b o, b ≠ q → H b = some o → H' b = some o) → N H') : if decide c = true then A else N H := by
  by_cases hc : c
  · rw [decide_eq_true hc, if_pos rfl]
    exact hA hc (h _ (by rw [if_pos hc]; exact upd_same) fun b o n e => by rw [upd_ne n]; exact e)
  · rw [decide_eq_false hc, if_neg Bool.false_ne_true]
    exact h H (by rw [if_neg hc, List.append_nil]; exact hq) fun b o _ e => e
theorem withNext_facts (m : LM) (l : List Int) : (m.withNext l).now = m.now ∧ (m.withNext l).next = l ∧ ∀ l', (m.withNext l).withNext l' = m.withNext l' := by
  unfold LM.withNext LM.now LM.next
  by_cases c : m.sweep % 2 = 0
  · simp [c]
  · simp [c]
theorem nextA_withNext (a : LA) (m : LM) (l : List Int) : a.nextA (m.withNext l) = a.nextA m := by
  unfold LA.nextA
  rw [(withNextM_sel m l).1]
theorem withNext_self (m : LM) : m.withNext m.next = m := by
  unfold LM.withNext LM.next
  by_cases c : m.sweep % 2 = 0
  · simp [c]
  · simp [c]
theorem WF.withNext {m : LM} (W : WF m) {l : List Int} (h : l.length = m.width * m.height) : WF (m.withNext l) := by
  obtain ⟨f1, f2, f3, f4, f5, f6, f7, f8, f9⟩ := withNextM_sel m l
  exact ⟨by rw [f2]; exact W.wl, by rw [f3]; exact W.hl, by rw [f5, f3]; exact W.st, by rw [f6, f2, f3]; exact W.gr, by rw [f7, f2, f3]; exact W.rn, by rw [f8, f2, f3]; split; exact W.a0; exact h, by rw [f9, f2, f3]; split; exact h; exact W.a1⟩
theorem atL_get {l : List Int} {i : Nat} (h : i < l.length) : l[i]? = some (atL l i) := by
  unfold atL
  rw [List.getD_eq_getElem?_getD, List.getElem?_eq_getElem h]
  rfl
/-- 0 among the states -/
theorem inV_zero (l : List Int) : inV (V.int 0) (vi l) = true ↔ (0 : Int) ∈ l := by
  unfold inV vi
  rw [List.any_eq_true]
  constructor
  · rintro ⟨x, hx, e⟩
    obtain ⟨z, hz, rfl⟩ := List.mem_map.mp hx
    have e : (z == 0) = true := e
    rw [beq_iff_eq] at e
    rw [← e]
    exact hz
  · intro h
    exact ⟨.int 0, List.mem_map.mpr ⟨0, h, rfl⟩, by show ((0 : Int) == 0) = true; rfl⟩
theorem first_none {m : LM} (W : WF m) : m.firstM = none ↔ ¬ (0 : Int) ∈ m.states := by
  unfold LM.firstM
  rw [List.find?_range_eq_none]
  constructor
  · intro h q
    obtain ⟨i, hi⟩ := List.getElem?_of_mem q
    have hl : i < m.states.length := (List.getElem?_eq_some_iff.mp hi).1
    have := h i (by rw [← W.st]; exact hl)
    rw [atL_some hi] at this
    exact absurd this (by decide)
  · intro h y hy
    have := atL_get (l := m.states) (i := y) (by rw [W.st]; exact hy)
    by_cases c : atL m.states y = 0
    · rw [c] at this
      exact absurd (List.mem_of_getElem? this) h
    · simp [c]
theorem first_some {m : LM} (W : WF m) {y : Nat} (h : m.firstM = some y) : y < m.height ∧ m.states[y]? = some 0 ∧ ∀ z, z < y → ∃ v, m.states[z]? = some v ∧ v ≠ 0 := by
  unfold LM.firstM at h
  rw [List.find?_range_eq_some] at h
  obtain ⟨h1, h2, h3⟩ := h
  have hy : y < m.height := List.mem_range.mp h2
  refine ⟨hy, ?_, fun z hz => ?_⟩
  · rw [atL_get (by rw [W.st]; exact hy)]
    rw [beq_iff_eq] at h1
    rw [h1]
  · refine ⟨_, atL_get (by rw [W.st]; omega), ?_⟩
    have := h3 z hz
    intro c
    rw [c] at this
    exact absurd this (by decide)
end Lw
end
section
set_option Elab.async false
set_option linter.all false
set_option maxRecDepth 100000
set_option maxHeartbeats 4000000
namespace Lw
open PySem PySem.Spec PyProof.Rows L2
/-! ### the text by places -/
def top (i : Nat) : Stmt := PySem.Challenge.pw_landwater_s01_answers.main.body.getD i (.Pass ⟨0, 0, 0, 0⟩)
abbrev s_level : Stmt := top 3
theorem sc_level : FnScope ["ground", "water"] ["ground", "water"] (defScope s_level) := ⟨rfl, rfl, rfl, by decide +kernel, rfl, by decide +kernel, by decide +kernel⟩
abbrev s_flow : Stmt := top 4
theorem sc_flow : FnScope ["from_ground", "from_water", "to_ground", "to_water", "higher"] ["from_ground", "from_water", "to_ground", "to_water"] (defScope s_flow) := ⟨rfl, rfl, rfl, by decide +kernel, rfl, by decide +kernel, by decide +kernel⟩
abbrev s_flow_down : Stmt := top 5
theorem sc_flow_down : FnScope ["water", "higher"] ["water", "higher"] (defScope s_flow_down) := ⟨rfl, rfl, rfl, by decide +kernel, rfl, by decide +kernel, by decide +kernel⟩
abbrev s_flows_among : Stmt := top 6
theorem sc_flows_among : FnScope ["waters", "levels", "apart", "water", "here", "other_water", "there"] ["waters", "levels", "apart"] (defScope s_flows_among) := ⟨rfl, rfl, rfl, by decide +kernel, rfl, by decide +kernel, by decide +kernel⟩
abbrev s_is_side : Stmt := top 16
theorem sc_is_side : FnScope ["number"] ["number"] (defScope s_is_side) := ⟨rfl, rfl, rfl, by decide +kernel, rfl, by decide +kernel, by decide +kernel⟩
abbrev s_init : Stmt := inClass (top 17) 0
theorem sc_init : FnScope ["self"] ["self"] (defScope s_init) := ⟨rfl, rfl, rfl, by decide +kernel, rfl, by decide +kernel, by decide +kernel⟩
abbrev s_lay : Stmt := inClass (top 17) 1
theorem sc_lay : FnScope ["self", "width", "height", "ground", "water"] ["self", "width", "height", "ground", "water"] (defScope s_lay) := ⟨rfl, rfl, rfl, by decide +kernel, rfl, by decide +kernel, by decide +kernel⟩
abbrev s_wl_start : Stmt := inClass (top 17) 2
theorem sc_wl_start : FnScope ["self", "width", "height", "ground", "water"] ["self", "width", "height", "ground", "water"] (defScope s_wl_start) := ⟨rfl, rfl, rfl, by decide +kernel, rfl, by decide +kernel, by decide +kernel⟩
abbrev s_wl_work : Stmt := inClass (top 17) 3
theorem sc_wl_work : FnScope ["self"] ["self"] (defScope s_wl_work) := ⟨rfl, rfl, rfl, by decide +kernel, rfl, by decide +kernel, by decide +kernel⟩
abbrev s_wl_turn : Stmt := inClass (top 17) 4
theorem sc_wl_turn : FnScope ["self"] ["self"] (defScope s_wl_turn) := ⟨rfl, rfl, rfl, by decide +kernel, rfl, by decide +kernel, by decide +kernel⟩
abbrev s_wl_rain : Stmt := inClass (top 17) 5
theorem sc_wl_rain : FnScope ["self", "x", "y", "k"] ["self", "x", "y", "k"] (defScope s_wl_rain) := ⟨rfl, rfl, rfl, by decide +kernel, rfl, by decide +kernel, by decide +kernel⟩
abbrev s_wl_cell : Stmt := inClass (top 17) 6
theorem sc_wl_cell : FnScope ["self", "x", "y", "here"] ["self", "x", "y"] (defScope s_wl_cell) := ⟨rfl, rfl, rfl, by decide +kernel, rfl, by decide +kernel, by decide +kernel⟩
abbrev s_wl_highest : Stmt := inClass (top 17) 7
theorem sc_wl_highest : FnScope ["self", "levels", "ground", "water"] ["self"] (defScope s_wl_highest) := ⟨rfl, rfl, rfl, by decide +kernel, rfl, by decide +kernel, by decide +kernel⟩
abbrev s_wl_still : Stmt := inClass (top 17) 8
theorem sc_wl_still : FnScope ["self", "now", "levels", "ground", "water", "y", "first", "behind"] ["self"] (defScope s_wl_still) := ⟨rfl, rfl, rfl, by decide +kernel, rfl, by decide +kernel, by decide +kernel⟩
abbrev s_has : Stmt := inClass (top 17) 9
theorem sc_has : FnScope ["self", "x", "y"] ["self", "x", "y"] (defScope s_has) := ⟨rfl, rfl, rfl, by decide +kernel, rfl, by decide +kernel, by decide +kernel⟩
abbrev s_water_now : Stmt := inClass (top 17) 10
theorem sc_water_now : FnScope ["self"] ["self"] (defScope s_water_now) := ⟨rfl, rfl, rfl, by decide +kernel, rfl, by decide +kernel, by decide +kernel⟩
abbrev s_water_coming : Stmt := inClass (top 17) 11
theorem sc_water_coming : FnScope ["self"] ["self"] (defScope s_water_coming) := ⟨rfl, rfl, rfl, by decide +kernel, rfl, by decide +kernel, by decide +kernel⟩
abbrev s_place : Stmt := inClass (top 17) 12
theorem sc_place : FnScope ["self", "x", "y"] ["self", "x", "y"] (defScope s_place) := ⟨rfl, rfl, rfl, by decide +kernel, rfl, by decide +kernel, by decide +kernel⟩
abbrev s_beside : Stmt := inClass (top 17) 13
theorem sc_beside : FnScope ["self", "x", "y", "here", "places"] ["self", "x", "y"] (defScope s_beside) := ⟨rfl, rfl, rfl, by decide +kernel, rfl, by decide +kernel, by decide +kernel⟩
abbrev s_do_row : Stmt := inClass (top 17) 14
theorem sc_do_row : FnScope ["self", "y", "coming", "x"] ["self", "y"] (defScope s_do_row) := ⟨rfl, rfl, rfl, by decide +kernel, rfl, by decide +kernel, by decide +kernel⟩
abbrev s_with_inflow : Stmt := inClass (top 17) 15
theorem sc_with_inflow : FnScope ["self", "x", "y", "now", "here", "total", "there"] ["self", "x", "y"] (defScope s_with_inflow) := ⟨rfl, rfl, rfl, by decide +kernel, rfl, by decide +kernel, by decide +kernel⟩
abbrev s_let_rain_fall : Stmt := inClass (top 17) 16
theorem sc_let_rain_fall : FnScope ["self", "coming", "here", "drops"] ["self"] (defScope s_let_rain_fall) := ⟨rfl, rfl, rfl, by decide +kernel, rfl, by decide +kernel, by decide +kernel⟩
abbrev s_answers : Stmt := top 28
theorem sc_answers : FnScope ["calls", "land", "told", "at", "length"] ["calls"] (defScope s_answers) := ⟨rfl, rfl, rfl, by decide +kernel, rfl, by decide +kernel, by decide +kernel⟩
abbrev s_call_length : Stmt := top 29
theorem sc_call_length : FnScope ["calls", "at", "behind_ground"] ["calls", "at"] (defScope s_call_length) := ⟨rfl, rfl, rfl, by decide +kernel, rfl, by decide +kernel, by decide +kernel⟩
abbrev s_answer : Stmt := top 30
theorem sc_answer : FnScope ["land", "call"] ["land", "call"] (defScope s_answer) := ⟨rfl, rfl, rfl, by decide +kernel, rfl, by decide +kernel, by decide +kernel⟩
abbrev s_start : Stmt := top 31
theorem sc_start : FnScope ["land", "call", "behind_ground"] ["land", "call"] (defScope s_start) := ⟨rfl, rfl, rfl, by decide +kernel, rfl, by decide +kernel, by decide +kernel⟩
abbrev s_cell : Stmt := top 32
theorem sc_cell : FnScope ["land", "call", "told"] ["land", "call"] (defScope s_cell) := ⟨rfl, rfl, rfl, by decide +kernel, rfl, by decide +kernel, by decide +kernel⟩
abbrev s_alone : Stmt := top 33
theorem sc_alone : FnScope ["number"] ["number"] (defScope s_alone) := ⟨rfl, rfl, rfl, by decide +kernel, rfl, by decide +kernel, by decide +kernel⟩
abbrev s_counted : Stmt := top 34
theorem sc_counted : FnScope ["numbers"] ["numbers"] (defScope s_counted) := ⟨rfl, rfl, rfl, by decide +kernel, rfl, by decide +kernel, by decide +kernel⟩
abbrev s_with_count : Stmt := top 35
theorem sc_with_count : FnScope ["numbers"] ["numbers"] (defScope s_with_count) := ⟨rfl, rfl, rfl, by decide +kernel, rfl, by decide +kernel, by decide +kernel⟩
section
variable {P : Program} {w : World} {K : PySem.W.Frag} {mg : Str → Option Value} {base : Heap} {f C : Addr} {fd : FuncData}
theorem ok_level (F : Fun K "level" "level" s_level f fd) : FnOk P w K mg base CX0 1 f fd ["ground", "water"] (spI2 fun a b => a + b) := by
  refine F.ok sc_level (fun vs H Q E h => ?_) (fun cdv A outer s H vs Q E hr h => ?_)
  · obtain ⟨a, b, rfl, _⟩ := h
    rfl
  · obtain ⟨a, b, rfl, q⟩ := h
    refine ⟨_, (pss_one (ps_ret (pe_op op_add (pv 0) (pv 1)))), ?_⟩
    exact ⟨_, rfl, _, rfl, _, _, rfl, rfl, q⟩
theorem ok_flow_down (F : Fun K "flow_down" "flow_down" s_flow_down f fd) (T : Txt P w K mg C) : FnOk P w K mg base CX0 1 f fd ["water", "higher"] (spI2 flowDown) := by
  refine F.ok sc_flow_down (fun vs H Q E h => ?_) (fun cdv A outer s H vs Q E hr h => ?_)
  · obtain ⟨a, b, rfl, _⟩ := h
    rfl
  · obtain ⟨a, b, rfl, q⟩ := h
    refine ⟨_, (pss_one (ps_ret (pe_callB (call_min2 rfl) rfl T.b_min boot_min (pa_cons (pe_op op_fdiv (pv 0) (gi T.c_WATER_SHARE)) (pa_cons (pe_op op_fdiv (pv 1) (gi T.c_HEIGHT_SHARE)) pa_nil))))), ?_⟩
    exact ⟨_, rfl, _, _, rfl, rfl, ⟨by show (0 : Int) < 4; decide, by show (4 : Int) < 1073741824; decide⟩, _, rfl, _, _, rfl, rfl, ⟨by show (0 : Int) < 8; decide, by show (8 : Int) < 1073741824; decide⟩, _, _, rfl, q⟩
theorem ok_flow (F : Fun K "flow" "flow" s_flow f fd) (c_level : Cal P w K mg base 1 "level" ["ground", "water"] (spI2 fun a b => a + b)) (c_flow_down : Cal P w K mg base 1 "flow_down" ["water", "higher"] (spI2 flowDown)) :
    FnOk P w K mg base CX0 2 f fd ["from_ground", "from_water", "to_ground", "to_water"] (spI4 flowI) := by
  refine F.ok sc_flow (fun vs H Q E h => ?_) (fun cdv A outer s H vs Q E hr h => ?_)
  · obtain ⟨a, b, c, d, rfl, _⟩ := h
    rfl
  · obtain ⟨a, b, c, d, rfl, q⟩ := h
    refine ⟨_, (pss_cons (ps_set (i := 4) sc_flow.nd rfl (Or.inl rfl) (pe_op op_sub (pe_cal c_level (hr.mono (by decide)) (pa_cons (pv 0) (pa_cons (pv 1) pa_nil))) (pe_cal c_level (hr.mono (by decide)) (pa_cons (pv 2) (pa_cons (pv 3) pa_nil))))) (pss_cons (ps_if (pt_cmpR op_gt (pv 4) pe_int (nomark _)) (pss_one (ps_ret (pe_cal c_flow_down (hr.mono (by decide)) (pa_cons (pv 1) (pa_cons (pv 4) pa_nil))))) pss_nil) (pss_one (ps_ret (pe_un un_neg (pe_cal c_flow_down (hr.mono (by decide)) (pa_cons (pv 3) (pa_cons (pe_un un_neg (pv 4)) pa_nil)))))))), ?_⟩
    refine ⟨_, rfl, _, rfl, _, _, rfl, _, rfl, _, rfl, _, _, rfl, _, _, rfl, rfl, _, rfl, _, _, rfl, rfl, _, rfl, ?_⟩
    refine ite2 (fun g => ?_) (fun g => ?_)
    · refine ⟨_, rfl, _, rfl, _, _, rfl, ?_⟩
      have e : flowI a b c d = flowDown b (a + b - (c + d)) := if_pos (of_decide_eq_true g)
      rw [e] at q
      exact q
    · refine ⟨_, rfl, _, rfl, _, rfl, _, _, rfl, _, rfl, ?_⟩
      have e : flowI a b c d = -(flowDown d (-(a + b - (c + d)))) := if_neg (fun z => g (decide_eq_true z))
      rw [e] at q
      exact q
theorem ok_is_side (F : Fun K "is_side" "is_side" s_is_side f fd) (T : Txt P w K mg C) : FnOk P w K mg base CX0 1 f fd ["number"] spSide := by
  refine F.ok sc_is_side (fun vs H Q E h => ?_) (fun cdv A outer s H vs Q E hr h => ?_)
  · obtain ⟨n, rfl, _⟩ := h
    rfl
  · obtain ⟨n, rfl, q⟩ := h
    refine ⟨_, (pss_one (ps_ret (pe_chain op_le op_le pe_int (pv 0) (gi T.c_LARGEST_SIDE)))), ?_⟩
    refine ⟨_, rfl, _, _, rfl, rfl, _, rfl, ?_⟩
    refine ite2 (fun g => ?_) (fun g => ?_)
    · refine ⟨_, _, rfl, rfl, ?_⟩
      have g1 : (1 : Int) ≤ n := of_decide_eq_true g
      have e : decide (1 ≤ n ∧ n ≤ 64) = decide (n ≤ 64) := by simp [g1]
      rw [e] at q
      exact q
    · have g1 : ¬ (1 : Int) ≤ n := fun z => g (decide_eq_true z)
      have e : decide (1 ≤ n ∧ n ≤ 64) = false := by simp [g1]
      rw [e] at q
      exact q
theorem ok_water_now (F : Fun K "water_now" "Land.water_now" s_water_now f fd) (T : Txt P w K mg C) : FnOk P w K mg base CX0 1 f fd ["self"] (spNow C) := by
  refine F.ok sc_water_now (fun vs H Q E h => ?_) (fun cdv A outer s H vs Q E hr h => ?_)
  · obtain ⟨a, m, rfl, _⟩ := h
    rfl
  · obtain ⟨a, m, rfl, L, q⟩ := h
    refine ⟨_, (pss_one (ps_ret (pe_ix ix_list (pe_fld (pv 0) rfl) (pe_op op_mod (pe_fld (pv 0) rfl) pe_int) (fun _ _ => rfl)))), ?_⟩
    exact ⟨_, rfl, a.p, C, a.dx, _, _, rfl, L.ins, T.cl, T.n_waters, lf_waters _ _, _, rfl, a.p, C, a.dx, _, _, rfl, L.ins, T.cl, T.n_sweep, lf_sweep _ _, _, _, rfl, rfl, (by show (0 : Int) < 2; decide),
      a.ws, _, _, _, rfl, rfl, SqL.of L.ws, atI_two _ _ _, by unfold LA.nowA at q; split at q <;> (rename_i c; simp only [c, if_true, if_false]; exact q)⟩
theorem ok_water_coming (F : Fun K "water_coming" "Land.water_coming" s_water_coming f fd) (T : Txt P w K mg C) : FnOk P w K mg base CX0 1 f fd ["self"] (spComing C) := by
  refine F.ok sc_water_coming (fun vs H Q E h => ?_) (fun cdv A outer s H vs Q E hr h => ?_)
  · obtain ⟨a, m, rfl, _⟩ := h
    rfl
  · obtain ⟨a, m, rfl, L, q⟩ := h
    refine ⟨_, (pss_one (ps_ret (pe_ix ix_list (pe_fld (pv 0) rfl) (pe_op op_mod (pe_op op_add (pe_fld (pv 0) rfl) pe_int) pe_int) (fun _ _ => rfl)))), ?_⟩
    exact ⟨_, rfl, a.p, C, a.dx, _, _, rfl, L.ins, T.cl, T.n_waters, lf_waters _ _, _, rfl, a.p, C, a.dx, _, _, rfl, L.ins, T.cl, T.n_sweep, lf_sweep _ _, _, _, rfl, rfl, _, _, rfl, rfl, (by show (0 : Int) < 2; decide),
      a.ws, _, _, _, rfl, rfl, SqL.of L.ws, atI_two' _ _ _, by unfold LA.nextA at q; split at q <;> (rename_i c; simp only [c, if_true, if_false]; exact q)⟩
theorem ok_place (F : Fun K "place" "Land.place" s_place f fd) (T : Txt P w K mg C) : FnOk P w K mg base CX0 1 f fd ["self", "x", "y"] (spPlace C) := by
  refine F.ok sc_place (fun vs H Q E h => ?_) (fun cdv A outer s H vs Q E hr h => ?_)
  · obtain ⟨a, m, x, y, rfl, _⟩ := h
    rfl
  · obtain ⟨a, m, x, y, rfl, L, hw, q⟩ := h
    refine ⟨_, (pss_one (ps_ret (pe_op op_add (pe_op op_mul (pv 2) (pe_fld (pv 0) rfl)) (pv 1)))), ?_⟩
    refine ⟨_, rfl, _, rfl, a.p, C, a.dx, _, _, rfl, L.ins, T.cl, T.n_width, lf_width _ _, _, _, rfl, rfl, .inr ⟨by omega, by omega⟩, _, rfl, _, _, rfl, rfl, ?_⟩
    have e : ((y * m.width + x : Nat) : Int) = (y : Int) * (m.width : Int) + (x : Int) := by rw [Int.natCast_add, Int.natCast_mul]
    rw [e] at q
    exact q
theorem ok_has (F : Fun K "has" "Land.has" s_has f fd) (T : Txt P w K mg C) : FnOk P w K mg base CX0 1 f fd ["self", "x", "y"] (spHas C) := by
  refine F.ok sc_has (fun vs H Q E h => ?_) (fun cdv A outer s H vs Q E hr h => ?_)
  · obtain ⟨a, m, x, y, rfl, _⟩ := h
    rfl
  · obtain ⟨a, m, x, y, rfl, L, q⟩ := h
    refine ⟨_, (pss_one (ps_ret (pe_and (pe_cmpR op_lt (pv 1) (pe_fld (pv 0) rfl) (nomark _)) (pe_one (pe_cmpR op_lt (pv 2) (pe_fld (pv 0) rfl) (nomark _)))))), ?_⟩
    refine ⟨_, rfl, _, rfl, a.p, C, a.dx, _, _, rfl, L.ins, T.cl, T.n_width, lf_width _ _, _, _, rfl, rfl, _, rfl, ?_⟩
    refine ite2 (fun g => ?_) (fun g => ?_)
    · have g1 : (x : Int) < (m.width : Int) := of_decide_eq_true g
      refine ⟨_, rfl, _, rfl, a.p, C, a.dx, _, _, rfl, L.ins, T.cl, T.n_height, lf_height _ _, _, _, rfl, rfl, ?_⟩
      have e : decide (x < m.width ∧ y < m.height) = decide ((y : Int) < (m.height : Int)) := decide_eq_decide.mpr (by omega)
      rw [e] at q
      exact q
    · have g1 : ¬ (x : Int) < (m.width : Int) := fun z => g (decide_eq_true z)
      have e : decide (x < m.width ∧ y < m.height) = false := decide_eq_false (by omega)
      rw [e] at q
      exact q
end
end Lw
end
section
set_option Elab.async false
set_option linter.all false
set_option maxRecDepth 100000
set_option maxHeartbeats 4000000
namespace Lw
open PySem PySem.Spec PyProof.Rows L2
theorem line24 : sizeLine = 16777216 := rfl
theorem ifl_len {α : Type} {c : Prop} [Decidable c] (v : α) : (if c then [v] else []).length ≤ 1 := by
  split <;> simp
theorem if_sing {c d : Prop} [Decidable c] [Decidable d] {α β : Type} {f : α → β} {u : β} {v : α} (h : c ↔ d) (e : d → u = f v) : (if c then [u] else []) = (if d then [v] else []).map f := by
  by_cases hd : d
  · rw [if_pos (h.mpr hd), if_pos hd, e hd]
    rfl
  · rw [if_neg (fun z => hd (h.mp z)), if_neg hd]
    rfl
theorem beside_V (w h x y : Nat) : ((([] ++ if (0 : Int) < (x : Int) then [V.int (((y * w + x : Nat) : Int) - 1)] else []) ++ if (x : Int) + 1 < (w : Int) then [V.int (((y * w + x : Nat) : Int) + 1)] else []) ++
    if (0 : Int) < (y : Int) then [V.int (((y * w + x : Nat) : Int) - (w : Int))] else []) ++ (if (y : Int) + 1 < (h : Int) then [V.int (((y * w + x : Nat) : Int) + (w : Int))] else []) = (besideL w h x y).map fun (j : Nat) => V.int (j : Int) := by
  unfold besideL
  rw [List.map_append, List.map_append, List.map_append, List.nil_append]
  have hy : 0 < y → w ≤ y * w := fun h => Nat.le_mul_of_pos_left w h
  generalize y * w = z at *
  rw [if_sing (f := fun (j : Nat) => V.int (j : Int)) (v := z + x - 1) (show (0 : Int) < (x : Int) ↔ 0 < x by omega) (fun c => congrArg V.int (by omega)),
    if_sing (f := fun (j : Nat) => V.int (j : Int)) (v := z + x + 1) (show (x : Int) + 1 < (w : Int) ↔ x + 1 < w by omega) (fun c => congrArg V.int (by omega)),
    if_sing (f := fun (j : Nat) => V.int (j : Int)) (v := z + x - w) (show (0 : Int) < (y : Int) ↔ 0 < y by omega) (fun c => congrArg V.int (by have := hy c; omega)),
    if_sing (f := fun (j : Nat) => V.int (j : Int)) (v := z + x + w) (show (y : Int) + 1 < (h : Int) ↔ y + 1 < h by omega) (fun c => congrArg V.int (by omega))]
/-- over enumerate(a list that the body leaves as it is) -/
theorem for_enum {K : PySem.W.Frag} {a : Addr} {xs : List V} {g : TG} {tb : TS} {D : Ends} {σ : L2.St} {H : Hp} (Pv : Nat → L2.St → Hp → Prop) (h0 : Pv 0 σ H) (hl : ∀ i σ H, i ≤ xs.length → Pv i σ H → SqL K H a xs)
    (hs : ∀ i x T σ H, xs[i]? = some x → Pv i σ H → H T = none → g (.ref T) σ (upd H T (.tup [.int ((i : Nat) : Int), x])) fun σ2 H2 => tb { D with nx := Pv (i + 1), ct := Pv (i + 1), bk := D.nx } σ2 H2) (hd : ∀ σ H, Pv xs.length σ H → D.nx σ H) :
    ∃ W : Nat → Nat → L2.St → Hp → Prop, (∃ m, W 0 m σ H) ∧ ∀ i m σ H, W i m σ H →
      ((Ite K a).stop i H ∧ D.nx σ H) ∨ ((Ite K a).go i H ∧ ∃ N : L2.St → Hp → Prop, (∀ σ' H', N σ' H' → ∃ m', m' < m ∧ W (i + 1) m' σ' H') ∧ ∀ x H', (Ite K a).yld i H x H' → g x σ H' fun σ2 H2 => tb { D with nx := N, ct := N, bk := D.nx } σ2 H2) := by
  refine ⟨fun i m σ H => i + m = xs.length ∧ Pv i σ H, ⟨xs.length, Nat.zero_add _, h0⟩, ?_⟩
  rintro i m σ H ⟨e, p⟩
  have sq := hl i σ H (by omega) p
  cases m with
  | zero =>
    left
    have e' : i = xs.length := by omega
    subst e'
    exact ⟨⟨xs, sq, Nat.le_refl _⟩, hd σ H p⟩
  | succ m =>
    right
    have hi : i < xs.length := by omega
    refine ⟨⟨xs, _, sq, List.getElem?_eq_getElem hi⟩, Pv (i + 1), fun σ' H' q => ⟨m, Nat.lt_succ_self _, by omega, q⟩, ?_⟩
    rintro x H' ⟨T, y, rfl, hT, rfl, hy⟩
    exact hs i y T σ H (hy xs sq) p hT
section
variable {P : Program} {w : World} {K : PySem.W.Frag} {mg : Str → Option Value} {base : Heap} {f C : Addr} {fd : FuncData}
theorem ok_beside (F : Fun K "beside" "Land.beside" s_beside f fd) (T : Txt P w K mg C) (m_place : MCal P w K mg base C 1 "place" ["self", "x", "y"] (spPlace C)) : FnOk P w K mg base CX0 2 f fd ["self", "x", "y"] (spBeside C) := by
  refine F.ok sc_beside (fun vs H Q E h => ?_) (fun cdv A outer s H vs Q E hr h => ?_)
  · obtain ⟨a, m, x, y, rfl, _⟩ := h
    rfl
  · obtain ⟨a, m, x, y, rfl, L, hw, k⟩ := h
    refine ⟨_, (pss_cons (ps_set (i := 3) sc_beside.nd rfl (Or.inl rfl) (pe_mcal m_place T.cl (hr.mono (by decide)) (pv 0) (pa_cons (pv 1) (pa_cons (pv 2) pa_nil)))) (pss_cons (ps_set (i := 4) sc_beside.nd rfl (Or.inl rfl) (pe_lst pa_nil)) (pss_cons (ps_if (pt_cmpR op_gt (pv 1) pe_int (nomark _)) (pss_one (ps_expr (pe_bm PySem.F.plainAttrs_list PySem.F.slot_list_append PySem.F.type_list_append mt_append (pv 4) (pa_cons (pe_op op_sub (pv 3) pe_int) pa_nil)))) pss_nil) (pss_cons (ps_if (pt_cmpR op_lt (pe_op op_add (pv 1) pe_int) (pe_fld (pv 0) rfl) (nomark _)) (pss_one (ps_expr (pe_bm PySem.F.plainAttrs_list PySem.F.slot_list_append PySem.F.type_list_append mt_append (pv 4) (pa_cons (pe_op op_add (pv 3) pe_int) pa_nil)))) pss_nil) (pss_cons (ps_if (pt_cmpR op_gt (pv 2) pe_int (nomark _)) (pss_one (ps_expr (pe_bm PySem.F.plainAttrs_list PySem.F.slot_list_append PySem.F.type_list_append mt_append (pv 4) (pa_cons (pe_op op_sub (pv 3) (pe_fld (pv 0) rfl)) pa_nil)))) pss_nil) (pss_cons (ps_if (pt_cmpR op_lt (pe_op op_add (pv 2) pe_int) (pe_fld (pv 0) rfl) (nomark _)) (pss_one (ps_expr (pe_bm PySem.F.plainAttrs_list PySem.F.slot_list_append PySem.F.type_list_append mt_append (pv 4) (pa_cons (pe_op op_add (pv 3) (pe_fld (pv 0) rfl)) pa_nil)))) pss_nil) (pss_one (ps_ret (pv 4))))))))), ?_⟩
    refine ⟨_, rfl, a.p, a.dx, _, rfl, L.ins, rfl, _, rfl, _, rfl, a, m, x, y, rfl, L, hw, Nat.zero_le _, fun q hq => ?_⟩
    have s0 : Same H (upd H q (.lst [])) := Same.new hq
    have e0 : upd H q (.lst []) q = some (.lst []) := upd_same
    have nq : ∀ b o, H b = some o → b ≠ q := fun b o e => ne_of_none e hq
    generalize upd H q (.lst []) = H0 at s0 e0 ⊢
    have z := line24
    refine ⟨_, rfl, _, _, rfl, rfl, _, rfl, if_app e0 (fun _ n => ⟨_, rfl, .inl ⟨rfl, _, SqL.of e0⟩, _, rfl, _, _, rfl, rfl, q, _, _, rfl, rfl, e0, by show 0 < sizeLine; omega, n⟩) fun H1 e1 k1 => ?_⟩
    have s1 : Same H H1 := fun b o e => k1 b o (nq b o e) (s0 b o e)
    have L1 := L.same s1
    have l1 := ifl_len (c := (0 : Int) < (x : Int)) (V.int (((y * m.width + x : Nat) : Int) - 1))
    refine ⟨_, rfl, _, _, rfl, rfl, _, rfl, a.p, C, a.dx, _, _, rfl, L1.ins, T.cl, T.n_width, lf_width _ _, _, _, rfl, rfl, _, rfl, if_app e1 (fun _ n => ⟨_, rfl, .inl ⟨rfl, _, SqL.of e1⟩, _, rfl, _, _, rfl, rfl, q, _, _, rfl, rfl, e1, by rw [List.length_append]; simp only [List.length_nil]; omega, n⟩) fun H2 e2 k2 => ?_⟩
    have s2 : Same H H2 := fun b o e => k2 b o (nq b o e) (s1 b o e)
    have L2 := L.same s2
    have l2 := ifl_len (c := (x : Int) + 1 < (m.width : Int)) (V.int (((y * m.width + x : Nat) : Int) + 1))
    refine ⟨_, rfl, _, _, rfl, rfl, _, rfl, if_app e2 (fun _ n => ⟨_, rfl, .inl ⟨rfl, _, SqL.of e2⟩, _, rfl, _, rfl, a.p, C, a.dx, _, _, rfl, L2.ins, T.cl, T.n_width, lf_width _ _, _, _, rfl, rfl, q, _, _, rfl, rfl, e2, by rw [List.length_append, List.length_append]; simp only [List.length_nil]; omega, n⟩) fun H3 e3 k3 => ?_⟩
    have s3 : Same H H3 := fun b o e => k3 b o (nq b o e) (s2 b o e)
    have L3 := L.same s3
    have l3 := ifl_len (c := (0 : Int) < (y : Int)) (V.int (((y * m.width + x : Nat) : Int) - (m.width : Int)))
    refine ⟨_, rfl, _, _, rfl, rfl, _, rfl, a.p, C, a.dx, _, _, rfl, L3.ins, T.cl, T.n_height, lf_height _ _, _, _, rfl, rfl, _, rfl, if_app e3 (fun _ n => ⟨_, rfl, .inl ⟨rfl, _, SqL.of e3⟩, _, rfl, _, rfl, a.p, C, a.dx, _, _, rfl, L3.ins, T.cl, T.n_width, lf_width _ _, _, _, rfl, rfl, q, _, _, rfl, rfl, e3, by rw [List.length_append, List.length_append, List.length_append]; simp only [List.length_nil]; omega, n⟩) fun H4 e4 k4 => ?_⟩
    have s4 : Same H H4 := fun b o e => k4 b o (nq b o e) (s3 b o e)
    refine ⟨_, rfl, k H4 q ?_ s4⟩
    rw [e4, beside_V]
theorem map_at {α β : Type} {f : α → β} {l : List α} {i : Nat} {y : β} (h : (l.map f)[i]? = some y) : ∃ x, l[i]? = some x ∧ y = f x := by
  rw [List.getElem?_map] at h
  cases e : l[i]? with
  | none => rw [e] at h; cases h
  | some x => rw [e] at h; exact ⟨x, rfl, (Option.some.inj h).symm⟩
theorem foldl_take {α β : Type} {g : β → α → β} {l : List α} {i : Nat} {x : α} {z : β} (h : l[i]? = some x) : (l.take (i + 1)).foldl g z = g ((l.take i).foldl g z) x := by
  rw [List.take_add_one, h, List.foldl_append]
  rfl
theorem ok_with_inflow (F : Fun K "with_inflow" "Land.with_inflow" s_with_inflow f fd) (T : Txt P w K mg C) (m_water_now : MCal P w K mg base C 1 "water_now" ["self"] (spNow C)) (m_place : MCal P w K mg base C 1 "place" ["self", "x", "y"] (spPlace C))
    (m_beside : MCal P w K mg base C 2 "beside" ["self", "x", "y"] (spBeside C)) (c_flow : Cal P w K mg base 2 "flow" ["from_ground", "from_water", "to_ground", "to_water"] (spI4 flowI)) : FnOk P w K mg base CX0 3 f fd ["self", "x", "y"] (spInflow C) := by
  refine F.ok sc_with_inflow (fun vs H Q E h => ?_) (fun cdv A outer s H vs Q E hr h => ?_)
  · obtain ⟨a, m, x, y, rfl, _⟩ := h
    rfl
  · obtain ⟨a, m, x, y, rfl, L, W, hx, hy, k⟩ := h
    have hh := idx_lt hx hy
    refine ⟨_, (pss_cons (ps_set (i := 3) sc_with_inflow.nd rfl (Or.inl rfl) (pe_mcal0 m_water_now T.cl (hr.mono (by decide)) (pv 0))) (pss_cons (ps_set (i := 4) sc_with_inflow.nd rfl (Or.inl rfl) (pe_mcal m_place T.cl (hr.mono (by decide)) (pv 0) (pa_cons (pv 1) (pa_cons (pv 2) pa_nil)))) (pss_cons (ps_set (i := 5) sc_with_inflow.nd rfl (Or.inl rfl) (pe_ix ix_list (pv 3) (pv 4) (fun _ _ => rfl))) (pss_cons (ps_for PassesOwn.never rfl (pi_list (pe_mcal m_beside T.cl (hr.mono (by decide)) (pv 0) (pa_cons (pv 1) (pa_cons (pv 2) pa_nil)))) (pg_name (i := 6) sc_with_inflow.nd rfl (Or.inl rfl)) (pss_one (ps_aug (i := 5) sc_with_inflow.nd rfl (Or.inl rfl) (pe_cal c_flow (hr.mono (by decide)) (pa_cons (pe_ix ix_list (pe_fld (pv 0) rfl) (pv 6) (fun _ _ => rfl)) (pa_cons (pe_ix ix_list (pv 3) (pv 6) (fun _ _ => rfl)) (pa_cons (pe_ix ix_list (pe_fld (pv 0) rfl) (pv 4) (fun _ _ => rfl)) (pa_cons (pe_ix ix_list (pv 3) (pv 4) (fun _ _ => rfl)) pa_nil))))) ip_add))) (pss_one (ps_ret (pv 5))))))), ?_⟩
    refine ⟨_, rfl, a.p, a.dx, _, rfl, L.ins, rfl, a, m, rfl, L, ?_⟩
    refine ⟨_, rfl, a.p, a.dx, _, rfl, L.ins, rfl, _, rfl, _, rfl, a, m, x, y, rfl, L, W.wl, ?_⟩
    refine ⟨_, rfl, _, rfl, a.nowA m, _, _, _, rfl, rfl, SqL.of L.now_at, atI_nat (vi_at (atL_get (l := m.now) (i := y * m.width + x) (by rw [W.now]; exact hh))), ?_⟩
    refine ⟨_, rfl, a.p, a.dx, _, rfl, L.ins, rfl, _, rfl, _, rfl, a, m, x, y, rfl, L, W.wl, fun H1 q hq s1 => ?_⟩
    have L1 := L.same s1
    refine ⟨q, rfl, ⟨_, SqL.of hq⟩, for_list (K := K) (a := q) (xs := (besideL m.width m.height x y).map fun (j : Nat) => V.int (j : Int))
      (fun i σ H' => H' = H1 ∧ ∃ v : Option V, σ = [some (.ref a.p), some (.int (x : Int)), some (.int (y : Int)), some (.ref (a.nowA m)), some (.int ((y * m.width + x : Nat) : Int)), some (.int (((besideL m.width m.height x y).take i).foldl (fun t j => t + flowAt m.ground m.now j (y * m.width + x)) (atL m.now (y * m.width + x)))), v])
      ⟨rfl, none, rfl⟩ (fun i σ H' _ ⟨e, _⟩ => by rw [e]; exact SqL.of hq) ?_ ?_⟩
    · rintro i y' σ H' hi ⟨rfl, v, rfl⟩
      obtain ⟨j, hj, rfl⟩ := map_at hi
      have jl : j < m.width * m.height := besideL_lt hx hy j (List.mem_of_getElem? hj)
      refine ⟨_, rfl, _, rfl, a.p, C, a.dx, _, _, rfl, L1.ins, T.cl, T.n_ground, lf_ground _ _, _, rfl, a.gr, _, _, _, rfl, rfl, SqL.of L1.gr, atI_nat (vi_at (atL_get (l := m.ground) (i := j) (by rw [W.gr]; exact jl))), ?_⟩
      refine ⟨_, rfl, _, rfl, a.nowA m, _, _, _, rfl, rfl, SqL.of L1.now_at, atI_nat (vi_at (atL_get (l := m.now) (i := j) (by rw [W.now]; exact jl))), ?_⟩
      refine ⟨_, rfl, a.p, C, a.dx, _, _, rfl, L1.ins, T.cl, T.n_ground, lf_ground _ _, _, rfl, a.gr, _, _, _, rfl, rfl, SqL.of L1.gr, atI_nat (vi_at (atL_get (l := m.ground) (i := y * m.width + x) (by rw [W.gr]; exact hh))), ?_⟩
      refine ⟨_, rfl, _, rfl, a.nowA m, _, _, _, rfl, rfl, SqL.of L1.now_at, atI_nat (vi_at (atL_get (l := m.now) (i := y * m.width + x) (by rw [W.now]; exact hh))), ?_⟩
      refine ⟨_, _, _, _, rfl, _, _, rfl, rfl, rfl, some (.int (j : Int)), ?_⟩
      rw [foldl_take hj]
      rfl
    · rintro σ H' ⟨rfl, v, rfl⟩
      refine ⟨_, rfl, ?_⟩
      rw [List.length_map, List.take_length]
      exact k _ s1
theorem ixN_nat {n i : Nat} (h : i < n) : ixN n (i : Int) = some i := by
  unfold ixN
  rw [if_pos (Int.natCast_nonneg i), if_pos (by omega)]
  rfl
theorem ok_do_row (F : Fun K "do_row" "Land.do_row" s_do_row f fd) (T : Txt P w K mg C) (m_water_coming : MCal P w K mg base C 1 "water_coming" ["self"] (spComing C)) (m_place : MCal P w K mg base C 1 "place" ["self", "x", "y"] (spPlace C))
    (m_with_inflow : MCal P w K mg base C 3 "with_inflow" ["self", "x", "y"] (spInflow C)) : FnOk P w K mg base CX0 4 f fd ["self", "y"] (spDoRow C) := by
  refine F.ok sc_do_row (fun vs H Q E h => ?_) (fun cdv A outer s H vs Q E hr h => ?_)
  · obtain ⟨a, m, y, rfl, _⟩ := h
    rfl
  · obtain ⟨a, m, y, rfl, L, W, hy, k⟩ := h
    refine ⟨_, (pss_cons (ps_set (i := 2) sc_do_row.nd rfl (Or.inl rfl) (pe_mcal0 m_water_coming T.cl (hr.mono (by decide)) (pv 0))) (pss_cons (ps_for PassesOwn.never rfl (pi_range1 rfl T.b_range (pa_cons (pe_fld (pv 0) rfl) pa_nil)) (pg_name (i := 3) sc_do_row.nd rfl (Or.inl rfl)) (pss_one (ps_asg (pe_mcal m_with_inflow T.cl (hr.mono (by decide)) (pv 0) (pa_cons (pv 3) (pa_cons (pv 1) pa_nil))) (pg_sub (pv 2) (pe_mcal m_place T.cl (hr.mono (by decide)) (pv 0) (pa_cons (pv 3) (pa_cons (pv 1) pa_nil))) set_list)))) (pss_one (ps_asg (gi T.c_DONE) (pg_sub (pe_fld (pv 0) rfl) (pv 1) set_list))))), ?_⟩
    have wl := W.wl
    refine ⟨_, rfl, a.p, a.dx, _, rfl, L.ins, rfl, a, m, rfl, L, ?_⟩
    refine ⟨_, rfl, a.p, C, a.dx, _, _, rfl, L.ins, T.cl, T.n_width, lf_width _ _, (m.width : Int), rfl, by omega, by omega, for_range (lo := 0) (n := (m.width : Int).toNat)
      (fun i σ H' => ∃ v : Option V, σ = [some (.ref a.p), some (.int (y : Int)), some (.ref (a.nextA m)), v] ∧ LandAt C H' a (m.withNext (rowDone m.ground m.now m.width m.height y i m.next)) ∧ Frame H a H' a)
      ⟨none, rfl, by rw [rowDone_zero, withNext_self]; exact L, Frame.same (Same.refl H)⟩ ?_ ?_⟩
    · rintro i σ H' hi ⟨v, rfl, L', fr⟩
      have hi' : i < m.width := by omega
      have z : (0 : Int) + (i : Int) = (i : Int) := Int.zero_add _
      obtain ⟨f1, f2, f3, f4, f5, f6, f7, f8, f9⟩ := withNextM_sel m (rowDone m.ground m.now m.width m.height y i m.next)
      obtain ⟨g1, g2, g3⟩ := withNext_facts m (rowDone m.ground m.now m.width m.height y i m.next)
      have W' := W.withNext (l := rowDone m.ground m.now m.width m.height y i m.next) (by rw [rowDone_len]; exact W.next)
      have nA := nextA_withNext a m (rowDone m.ground m.now m.width m.height y i m.next)
      refine ⟨_, rfl, a.p, a.dx, _, rfl, L'.ins, rfl, _, rfl, _, rfl, a, _, i, y, by rw [z]; rfl, L', W', by rw [f2]; exact hi', by rw [f3]; exact hy, fun H1 s1 => ?_⟩
      have L1 := L'.same s1
      have n1 := L1.next_at
      rw [nA, g2] at n1
      refine ⟨_, rfl, _, rfl, a.p, a.dx, _, rfl, L1.ins, rfl, _, rfl, _, rfl, a, _, i, y, by rw [z]; rfl, L1, W'.wl, a.nextA m, _, _, y * m.width + i, rfl, rfl, n1, ?_, ?_⟩
      · rw [f2, vi_len, rowDone_len, WF.next W]
        exact ixN_nat (idx_lt hi' hy)
      · refine ⟨_, rfl, ?_, fr.trans ((Frame.same s1).trans (Frame.upd (next_foot a m)))⟩
        rw [vi_set, f6, g1, f2, f3, ← rowDone_succ]
        have q := L1.setNext (rowDone m.ground m.now m.width m.height y (i + 1) m.next)
        rw [nA, g3] at q
        exact q
    · rintro σ H' ⟨v, rfl, L', fr⟩
      have e : (m.width : Int).toNat = m.width := by omega
      rw [e] at L'
      obtain ⟨f1, f2, f3, f4, f5, f6, f7, f8, f9⟩ := withNextM_sel m (rowDone m.ground m.now m.width m.height y m.width m.next)
      refine ⟨_, rfl, a.p, C, a.dx, _, _, rfl, L'.ins, T.cl, T.n_states, lf_states _ _, _, rfl, a.st, _, _, y, rfl, rfl, L'.st, ?_, ?_⟩
      · rw [vi_len, f5, W.st]
        exact ixN_nat hy
      · rw [vi_set, f5]
        exact k _ (L'.setStates (m.states.set y 2)) (fr.trans (Frame.upd (by unfold foot; simp)))
end
end Lw
end
section
set_option Elab.async false
set_option linter.all false
set_option maxRecDepth 100000
set_option maxHeartbeats 4000000
namespace Lw
open PySem PySem.Spec PyProof.Rows L2
/-- a list is laid beside the board -/
theorem Frame.new {H : Hp} {a : LA} {x : Addr} {o : HO} (h : H x = none) : Frame H a (L2.upd H x o) a := Frame.same (Same.new h)
theorem not_foot {C : Addr} {H : Hp} {a : LA} {m : LM} (L : LandAt C H a m) {q : Addr} (h : H q = none) : q ∉ foot a := fun z => L.foot_some q z h
/-- from the board with another list at st (new in H) -/
theorem Frame.st {H H' : Hp} {a : LA} {q : Addr} (n : H q = none) (k : ∀ b o, H b = some o → b ∉ foot a → H' b = some o) : Frame H a H' { a with st := q } := fun b o e nb => by
  refine ⟨k b o e nb, fun z => ?_⟩
  have nq := ne_of_none e n
  simp [foot] at z nb
  rcases z with rfl | rfl | rfl | rfl | rfl | rfl | rfl <;> simp_all
theorem Frame.rn {H H' : Hp} {a : LA} {q : Addr} (n : H q = none) (k : ∀ b o, H b = some o → b ∉ foot a → H' b = some o) : Frame H a H' { a with rn := q } := fun b o e nb => by
  refine ⟨k b o e nb, fun z => ?_⟩
  have nq := ne_of_none e n
  simp [foot] at z nb
  rcases z with rfl | rfl | rfl | rfl | rfl | rfl | rfl <;> simp_all
section
variable {P : Program} {w : World} {K : PySem.W.Frag} {mg : Str → Option Value} {base : Heap} {f C : Addr} {fd : FuncData}
theorem ok_let_rain_fall (F : Fun K "let_rain_fall" "Land.let_rain_fall" s_let_rain_fall f fd) (T : Txt P w K mg C) (m_water_coming : MCal P w K mg base C 1 "water_coming" ["self"] (spComing C)) : FnOk P w K mg base CX0 2 f fd ["self"] (spFall C) := by
  refine F.ok sc_let_rain_fall (fun vs H Q E h => ?_) (fun cdv A outer s H vs Q E hr h => ?_)
  · obtain ⟨a, m, rfl, _⟩ := h
    rfl
  · obtain ⟨a, m, rfl, L, W, k⟩ := h
    refine ⟨_, (pss_cons (ps_set (i := 1) sc_let_rain_fall.nd rfl (Or.inl rfl) (pe_mcal0 m_water_coming T.cl (hr.mono (by decide)) (pv 0))) (pss_cons (ps_for PassesOwn.never rfl (pi_enum rfl T.b_enumerate (pa_cons (pe_fld (pv 0) rfl) pa_nil)) (pg_tup rfl (pgs_cons (pg_name (i := 2) sc_let_rain_fall.nd rfl (Or.inl rfl)) (pgs_cons (pg_name (i := 3) sc_let_rain_fall.nd rfl (Or.inl rfl)) pgs_nil))) (pss_one (ps_augS (pv 1) (pv 2) get_list (pv 3) ip_add set_list))) (pss_one (ps_fld (pv 0) (pe_op op_rep (pe_lst (pa_cons pe_int pa_nil)) (pe_callB (call_len_seq) rfl T.b_len boot_len (pa_cons (pe_fld (pv 0) rfl) pa_nil))) rfl)))), ?_⟩
    have wl := W.wl
    have hl := W.hl
    have hz : m.width * m.height ≤ 4096 := Nat.mul_le_mul wl hl
    have lz := line24
    have hnr : m.next.length = m.rain.length := by rw [WF.next W, W.rn]
    refine ⟨_, rfl, a.p, a.dx, _, rfl, L.ins, rfl, a, m, rfl, L, ?_⟩
    refine ⟨_, rfl, a.p, C, a.dx, _, _, rfl, L.ins, T.cl, T.n_rain, lf_rain _ _, a.rn, _, rfl, SqL.of L.rn, for_enum (K := K) (a := a.rn) (xs := vi m.rain)
      (fun i σ H' => ∃ v2 v3 : Option V, σ = [some (.ref a.p), some (.ref (a.nextA m)), v2, v3] ∧ LandAt C H' a (m.withNext (rained i m.next m.rain)) ∧ Frame H a H' a)
      ⟨none, none, rfl, by rw [rained_zero, withNext_self]; exact L, Frame.same (Same.refl H)⟩ (fun i σ H' _ ⟨_, _, _, L', _⟩ => by have q := L'.rn; rw [(withNextM_sel m _).2.2.2.2.2.2.1] at q; exact SqL.of q) ?_ ?_⟩
    · rintro i y' T' σ H' hi ⟨v2, v3, rfl, L', fr⟩ hT
      obtain ⟨r, hr', rfl⟩ := map_at hi
      have il : i < m.rain.length := (List.getElem?_eq_some_iff.mp hr').1
      have nA := nextA_withNext a m (rained i m.next m.rain)
      obtain ⟨g1, g2, g3⟩ := withNext_facts m (rained i m.next m.rain)
      have s1 : Same H' (upd H' T' (.tup [.int ((i : Nat) : Int), V.int r])) := Same.new hT
      have e1 : upd H' T' (.tup [.int ((i : Nat) : Int), V.int r]) T' = some (.tup [.int ((i : Nat) : Int), V.int r]) := upd_same
      generalize upd H' T' (.tup [.int ((i : Nat) : Int), V.int r]) = H1 at s1 e1 ⊢
      have L1 := L'.same s1
      have n1 := L1.next_at
      rw [nA, g2] at n1
      have hu : m.next[i]? = some (atL m.next i) := atL_get (by omega)
      refine ⟨T', _, rfl, SqT.of e1, rfl, _, _, rfl, _, _, rfl, rfl, ?_⟩
      refine ⟨_, rfl, _, rfl, a.nextA m, _, i, _, rfl, rfl, SqL.of n1, vi_at ((rained_at hnr il).trans hu), _, rfl, _, _, rfl, rfl, a.nextA m, _, _, i, rfl, rfl, n1, ?_, ?_⟩
      · rw [vi_len, rained_len hnr (Nat.le_of_lt il)]
        exact ixN_nat il
      · refine ⟨_, _, rfl, ?_, fr.trans ((Frame.same s1).trans (Frame.upd (next_foot a m)))⟩
        rw [vi_set, ← rained_succ hnr hu hr']
        have q := L1.setNext (rained (i + 1) m.next m.rain)
        rw [nA, g3] at q
        exact q
    · rintro σ H' ⟨v2, v3, rfl, L', fr⟩
      rw [vi_len, rained_all hnr] at L'
      obtain ⟨f1, f2, f3, f4, f5, f6, f7, f8, f9⟩ := withNextM_sel m (List.zipWith (· + ·) m.next m.rain)
      refine ⟨by show 1 ≤ sizeLine; omega, fun q hq => ?_⟩
      have s1 : Same H' (upd H' q (.lst [.int 0])) := Same.new hq
      have e1 : upd H' q (.lst [.int 0]) q = some (.lst [.int 0]) := upd_same
      generalize upd H' q (.lst [.int 0]) = H1 at s1 e1 ⊢
      have L1 := L'.same s1
      have r1 := L1.rn
      refine ⟨_, rfl, a.p, C, a.dx, _, _, rfl, L1.ins, T.cl, T.n_rain, lf_rain _ _, a.rn, _, rfl, .inl (SqL.of r1), q, _, _, rfl, rfl, e1, ?_, ?_, ?_, fun p hp => ?_⟩
      · rw [vi_len, f7]; omega
      · rw [vi_len, f7, W.rn]; omega
      · rw [vi_len, f7, W.rn]
        show 1 * _ ≤ sizeLine
        omega
      · have s2 : Same H1 (upd H1 p (.lst (List.replicate (((vi (m.withNext (List.zipWith (· + ·) m.next m.rain)).rain).length : Nat) : Int).toNat [V.int 0]).flatten)) := Same.new hp
        have e2 : upd H1 p (.lst (List.replicate (((vi (m.withNext (List.zipWith (· + ·) m.next m.rain)).rain).length : Nat) : Int).toNat [V.int 0]).flatten) p = _ := upd_same
        generalize upd H1 p (.lst (List.replicate (((vi (m.withNext (List.zipWith (· + ·) m.next m.rain)).rain).length : Nat) : Int).toNat [V.int 0]).flatten) = H2 at s2 e2 ⊢
        rw [vi_len, f7, Int.toNat_natCast, vi_rep] at e2
        have L2 := L1.same s2
        have nf := not_foot L1 hp
        refine ⟨_, rfl, a.p, C, a.dx, _, rfl, L2.ins, T.cl, T.n_rain, by show 8 < 1000; decide, ?_⟩
        rw [lf_put_rain]
        refine k _ { a with rn := p } rfl (L2.newRain e2 nf) (Frame.trans fr ?_)
        have hp' : H' p = none := s1.free hp
        exact Frame.rn hp' fun b o e nb => by
          rw [upd_ne (fun z => nb (by rw [z]; unfold foot; simp))]
          exact s2 b o (s1 b o e)
theorem ok_wl_work (F : Fun K "wl_work" "Land.wl_work" s_wl_work f fd) (T : Txt P w K mg C) (m_do_row : MCal P w K mg base C 4 "do_row" ["self", "y"] (spDoRow C)) : FnOk P w K mg base CX0 5 f fd ["self"] (spWork C) := by
  refine F.ok sc_wl_work (fun vs H Q E h => ?_) (fun cdv A outer s H vs Q E hr h => ?_)
  · obtain ⟨a, m, rfl, _⟩ := h
    rfl
  · obtain ⟨a, m, rfl, L, W, k⟩ := h
    refine ⟨_, (pss_cons (ps_if (pt_cmpR op_notIn_seq (gi T.c_WAITS) (pe_fld (pv 0) rfl) (by with_unfolding_all rfl)) (pss_one (ps_ret pe_int)) pss_nil) (pss_cons (ps_expr (pe_mcal m_do_row T.cl (hr.mono (by decide)) (pv 0) (pa_cons (pe_bm PySem.F.plainAttrs_list PySem.F.slot_list_index PySem.F.type_list_index mt_index (pe_fld (pv 0) rfl) (pa_cons (gi T.c_WAITS) pa_nil)) pa_nil))) (pss_one (ps_ret pe_int)))), ?_⟩
    refine ⟨_, rfl, a.p, C, a.dx, _, _, rfl, L.ins, T.cl, T.n_states, lf_states _ _, a.st, _, rfl, .inl (SqL.of L.st), rfl, vi_flat _, _, rfl, ?_⟩
    unfold LM.workA at k
    cases e : m.firstM with
    | none =>
      rw [e] at k
      have n0 := (first_none W).mp e
      have e0 : inV (V.int 0) (vi m.states) = false := by
        cases q : inV (V.int 0) (vi m.states) with
        | false => rfl
        | true => exact absurd ((inV_zero _).mp q) n0
      rw [if_pos rfl, e0]
      exact iteT (k H a rfl L (Frame.same (Same.refl H)))
    | some y =>
      rw [e] at k
      obtain ⟨hy, h0, hb⟩ := first_some W e
      have e0 : inV (V.int 0) (vi m.states) = true := (inV_zero _).mpr (List.mem_of_getElem? h0)
      rw [if_pos rfl, e0]
      refine iteF ?_
      refine ⟨_, rfl, a.p, a.dx, _, rfl, L.ins, rfl, _, rfl, a.p, C, a.dx, _, _, rfl, L.ins, T.cl, T.n_states, lf_states _ _, .inl ⟨rfl, _, SqL.of L.st⟩, a.st, _, _, y, _, rfl, rfl, SqL.of L.st, rfl, vi_flat _, vi_at h0, rfl, ?_, ?_⟩
      · intro z v hz hv
        obtain ⟨u, hu, nu⟩ := hb z hz
        rw [vi_at hu] at hv
        cases hv
        show (u == 0) = false
        exact beq_eq_false_iff_ne.mpr nu
      · exact ⟨a, m, y, rfl, L, W, hy, fun H' L' fr => k H' a rfl L' fr⟩
theorem ok_wl_turn (F : Fun K "wl_turn" "Land.wl_turn" s_wl_turn f fd) (T : Txt P w K mg C) (m_let_rain_fall : MCal P w K mg base C 2 "let_rain_fall" ["self"] (spFall C)) : FnOk P w K mg base CX0 3 f fd ["self"] (spTurn C) := by
  refine F.ok sc_wl_turn (fun vs H Q E h => ?_) (fun cdv A outer s H vs Q E hr h => ?_)
  · obtain ⟨a, m, rfl, _⟩ := h
    rfl
  · obtain ⟨a, m, rfl, L, W, k⟩ := h
    refine ⟨_, (pss_cons (ps_if (pt_cmpR op_in_seq (gi T.c_WAITS) (pe_fld (pv 0) rfl) (by with_unfolding_all rfl)) (pss_one (ps_ret (gi T.c_NOT_DONE))) pss_nil) (pss_cons (ps_if (pt_cmpR op_eq (pe_fld (pv 0) rfl) (gi T.c_LAST_SWEEP) (nomark _)) (pss_one (ps_ret (gi T.c_NO_ROOM))) pss_nil) (pss_cons (ps_expr (pe_mcal0 m_let_rain_fall T.cl (hr.mono (by decide)) (pv 0))) (pss_cons (ps_fldaug (pv 0) pe_int in_add) (pss_cons (ps_fld (pv 0) (pe_op op_rep (pe_lst (pa_cons (gi T.c_WAITS) pa_nil)) (pe_fld (pv 0) rfl)) rfl) (pss_one (ps_ret pe_int))))))), ?_⟩
    refine ⟨_, rfl, a.p, C, a.dx, _, _, rfl, L.ins, T.cl, T.n_states, lf_states _ _, a.st, _, rfl, .inl (SqL.of L.st), rfl, vi_flat _, _, rfl, ?_⟩
    unfold LM.turnA at k
    have lz := line24
    have hl := W.hl
    cases e : m.firstM with
    | some y =>
      rw [e] at k
      obtain ⟨hy, h0, hb⟩ := first_some W e
      have e0 : inV (V.int 0) (vi m.states) = true := (inV_zero _).mpr (List.mem_of_getElem? h0)
      rw [if_neg Bool.false_ne_true, e0]
      exact iteT (k H a rfl L (Frame.same (Same.refl H)))
    | none =>
      rw [e] at k
      have n0 := (first_none W).mp e
      have e0 : inV (V.int 0) (vi m.states) = false := by
        cases q : inV (V.int 0) (vi m.states) with
        | false => rfl
        | true => exact absurd ((inV_zero _).mp q) n0
      rw [if_neg Bool.false_ne_true, e0]
      refine iteF ?_
      have k := fun H' a' => k H' a'
      rw [if_neg (by decide : ¬ (Option.isSome (none : Option Nat) = true))] at k
      refine ⟨_, rfl, a.p, C, a.dx, _, _, rfl, L.ins, T.cl, T.n_sweep, lf_sweep _ _, rfl, _, rfl, ?_⟩
      by_cases c : m.sweep = 1099511627776
      · rw [if_pos c] at k
        have e1 : decide (V.int (m.sweep : Int) = V.int 1099511627776) = true := decide_eq_true (by rw [c]; rfl)
        rw [e1]
        exact iteT (k H a rfl L (Frame.same (Same.refl H)))
      · rw [if_neg c] at k
        have e1 : decide (V.int (m.sweep : Int) = V.int 1099511627776) = false := decide_eq_false (fun z => c (by have := V.int.inj z; omega))
        rw [e1]
        refine iteF ?_
        refine ⟨_, rfl, a.p, a.dx, _, rfl, L.ins, rfl, a, m, rfl, L, W, fun H1 a1 ep L1 fr1 => ?_⟩
        obtain ⟨f1, f2, f3, f4, f5, f6, f7, f8, f9⟩ := withNextM_sel m (List.zipWith (· + ·) m.next m.rain)
        rw [← ep]
        refine ⟨_, rfl, a1.p, C, a1.dx, _, _, rfl, L1.ins, T.cl, T.n_sweep, lf_sweep _ _, _, _, rfl, rfl, a1.dx, _, L1.ins, by show 8 < 1000; decide, ?_⟩
        have es : ((({ m.withNext (List.zipWith (· + ·) m.next m.rain) with rain := List.replicate m.rain.length 0 } : LM).sweep : Nat) : Int) + 1 = ((m.sweep + 1 : Nat) : Int) := by
          show (((m.withNext (List.zipWith (· + ·) m.next m.rain)).sweep : Nat) : Int) + 1 = _
          rw [f1]; omega
        rw [es, lf_put_sweep]
        have L2 := L1.setIns (m' := { m.withNext (List.zipWith (· + ·) m.next m.rain) with rain := List.replicate m.rain.length 0, sweep := m.sweep + 1 }) rfl
        have fr2 := fr1.trans (Frame.upd (H := H1) (a := a1) (x := a1.p) (o := .ins C a1.dx (lf { m.withNext (List.zipWith (· + ·) m.next m.rain) with rain := List.replicate m.rain.length 0, sweep := m.sweep + 1 } a1)) (by unfold foot; simp))
        generalize upd H1 a1.p (.ins C a1.dx (lf { m.withNext (List.zipWith (· + ·) m.next m.rain) with rain := List.replicate m.rain.length 0, sweep := m.sweep + 1 } a1)) = H2 at L2 fr2 ⊢
        refine ⟨by show 1 ≤ sizeLine; omega, fun q hq => ?_⟩
        have s3 : Same H2 (upd H2 q (.lst [.int 0])) := Same.new hq
        have e3 : upd H2 q (.lst [.int 0]) q = some (.lst [.int 0]) := upd_same
        generalize upd H2 q (.lst [.int 0]) = H3 at s3 e3 ⊢
        have L3 := L2.same s3
        have eh : ({ m.withNext (List.zipWith (· + ·) m.next m.rain) with rain := List.replicate m.rain.length 0, sweep := m.sweep + 1 } : LM).height = m.height := f3
        refine ⟨_, rfl, a1.p, C, a1.dx, _, _, rfl, L3.ins, T.cl, T.n_height, lf_height _ _, q, _, _, rfl, rfl, e3, ?_, ?_, ?_, fun p hp => ?_⟩
        · rw [eh]; omega
        · rw [eh]; omega
        · rw [eh]
          show 1 * _ ≤ sizeLine
          omega
        · rw [eh, Int.toNat_natCast, vi_rep] at *
          have s4 : Same H3 (upd H3 p (.lst (vi (List.replicate m.height 0)))) := Same.new hp
          have e4 : upd H3 p (.lst (vi (List.replicate m.height 0))) p = some (.lst (vi (List.replicate m.height 0))) := upd_same
          generalize upd H3 p (.lst (vi (List.replicate m.height 0))) = H4 at s4 e4 ⊢
          have L4 := L3.same s4
          refine ⟨_, rfl, a1.p, C, a1.dx, _, rfl, L4.ins, T.cl, T.n_states, by show 8 < 1000; decide, ?_⟩
          rw [lf_put_states]
          refine k _ { a1 with st := p } ep (L4.newStates e4 (not_foot L3 hp)) (fr2.trans ?_)
          have hp' : H2 p = none := s3.free hp
          exact Frame.st hp' fun b o e nb => by
            rw [upd_ne (fun z => nb (by rw [z]; unfold foot; simp))]
            exact s4 b o (s3 b o e)
theorem ok_wl_rain (F : Fun K "wl_rain" "Land.wl_rain" s_wl_rain f fd) (T : Txt P w K mg C) (m_place : MCal P w K mg base C 1 "place" ["self", "x", "y"] (spPlace C)) (m_has : MCal P w K mg base C 1 "has" ["self", "x", "y"] (spHas C)) :
    FnOk P w K mg base CX0 2 f fd ["self", "x", "y", "k"] (spRain C) := by
  refine F.ok sc_wl_rain (fun vs H Q E h => ?_) (fun cdv A outer s H vs Q E hr h => ?_)
  · obtain ⟨a, m, x, y, k, rfl, _⟩ := h
    rfl
  · obtain ⟨a, m, x, y, kk, rfl, L, W, k⟩ := h
    refine ⟨_, (pss_cons (ps_if (pt_not (pt_val (pe_mcal m_has T.cl (hr.mono (by decide)) (pv 0) (pa_cons (pv 1) (pa_cons (pv 2) pa_nil))))) (pss_one (ps_ret (gi T.c_NOT_ALLOWED))) pss_nil) (pss_cons (ps_if (pt_cmpR op_gt (pe_op op_add (pe_fld (pv 0) rfl) (pv 3)) (gi T.c_MOST) (nomark _)) (pss_one (ps_ret (gi T.c_NO_ROOM))) pss_nil) (pss_cons (ps_augS (pe_fld (pv 0) rfl) (pe_mcal m_place T.cl (hr.mono (by decide)) (pv 0) (pa_cons (pv 1) (pa_cons (pv 2) pa_nil))) get_list (pv 3) ip_add set_list) (pss_cons (ps_fldaug (pv 0) (pv 3) in_add) (pss_one (ps_ret pe_int)))))), ?_⟩
    unfold LM.rainA at k
    have stay := Frame.same (a := a) (Same.refl H)
    refine ⟨_, rfl, a.p, a.dx, _, rfl, L.ins, rfl, _, rfl, _, rfl, a, m, x, y, rfl, L, _, rfl, ?_⟩
    by_cases c : x < m.width ∧ y < m.height
    · rw [decide_eq_true c]
      refine iteF ?_
      rw [if_neg (by omega)] at k
      refine ⟨_, rfl, a.p, C, a.dx, _, _, rfl, L.ins, T.cl, T.n_fallen, lf_fallen _ _, _, rfl, _, _, rfl, rfl, _, _, rfl, rfl, _, rfl, ?_⟩
      refine ite2 (fun c3 => ?_) (fun c3 => ?_)
      · have c3 := of_decide_eq_true c3
        rw [if_pos c3] at k
        exact k H a rfl L stay
      · have c3 : ¬ (1073741824 : Int) < m.fallen + kk := fun z => c3 (decide_eq_true z)
        rw [if_neg c3] at k
        have hi := idx_lt (w := m.width) (h := m.height) (x := x) (y := y) (by omega) (by omega)
        have hg := atL_get (l := m.rain) (i := y * m.width + x) (by rw [W.rn]; exact hi)
        refine ⟨_, rfl, a.p, C, a.dx, _, _, rfl, L.ins, T.cl, T.n_rain, lf_rain _ _, ?_⟩
        refine ⟨_, rfl, a.p, a.dx, _, rfl, L.ins, rfl, _, rfl, _, rfl, a, m, x, y, rfl, L, W.wl, ?_⟩
        refine ⟨a.rn, _, y * m.width + x, _, rfl, rfl, SqL.of L.rn, vi_at hg, _, rfl, _, _, rfl, rfl, a.rn, _, _, y * m.width + x, rfl, rfl, L.rn, by rw [vi_len, W.rn]; exact ixN_nat hi, ?_⟩
        rw [vi_set]
        have L1 := L.setRain (m.rain.set (y * m.width + x) (atL m.rain (y * m.width + x) + kk))
        have fr1 := Frame.upd (H := H) (a := a) (x := a.rn) (o := .lst (vi (m.rain.set (y * m.width + x) (atL m.rain (y * m.width + x) + kk)))) (by unfold foot; simp)
        generalize upd H a.rn (.lst (vi (m.rain.set (y * m.width + x) (atL m.rain (y * m.width + x) + kk)))) = H1 at L1 fr1 ⊢
        refine ⟨_, rfl, a.p, C, a.dx, _, _, rfl, L1.ins, T.cl, T.n_fallen, lf_fallen _ _, _, rfl, _, _, rfl, rfl, a.dx, _, L1.ins, by show 8 < 1000; decide, ?_⟩
        rw [lf_put_fallen]
        exact k _ a rfl (L1.setIns rfl) (fr1.trans (Frame.upd (by unfold foot; simp)))
    · rw [decide_eq_false c]
      rw [if_pos (by omega)] at k
      exact iteT (k H a rfl L stay)
end
end Lw
end
section
set_option Elab.async false
set_option linter.all false
set_option maxRecDepth 100000
set_option maxHeartbeats 4000000
namespace Lw
open PySem PySem.Spec PyProof.Rows L2
/-- the fields of a new instance, or of a board that is there -/
structure FsOk (fs : List (Str × V)) : Prop where
  len : fs.length ≤ 8
  put : ∀ v1 v2 v3 v4 v5 v6 v7 v8 : V, putF "waters" v8 (putF "rain" v7 (putF "ground" v6 (putF "states" v5 (putF "fallen" v4 (putF "height" v3 (putF "width" v2 (putF "sweep" v1 fs))))))) =
    ([("sweep", v1), ("width", v2), ("height", v3), ("fallen", v4), ("states", v5), ("ground", v6), ("rain", v7), ("waters", v8)] : List (Str × V))
theorem fsok_nil : FsOk [] := ⟨Nat.zero_le _, fun _ _ _ _ _ _ _ _ => rfl⟩
theorem fsok_lf (m : LM) (a : LA) : FsOk (lf m a) := ⟨Nat.le_refl 8, fun _ _ _ _ _ _ _ _ => rfl⟩
/-- while the board is laid: the instance at p has the fields fs, all else that was there stands -/
structure Lay (H0 H : Hp) (p C dx : Addr) (fs : List (Str × V)) : Prop where
  ins : H p = some (.ins C dx fs)
  kp : ∀ b o, H0 b = some o → b ≠ p → H b = some o
section
variable {H0 H : Hp} {p C dx : Addr} {fs : List (Str × V)}
theorem Lay.put (l : Lay H0 H p C dx fs) (x : Str) (v : V) : Lay H0 (upd H p (.ins C dx (putF x v fs))) p C dx (putF x v fs) :=
  ⟨upd_same, fun b o e n => by rw [upd_ne n]; exact l.kp b o e n⟩
theorem Lay.new (l : Lay H0 H p C dx fs) {q : Addr} {o : HO} (h : H q = none) : Lay H0 (upd H q o) p C dx fs :=
  ⟨Same.new h _ _ l.ins, fun b u e n => Same.new h _ _ (l.kp b u e n)⟩
theorem Lay.fresh (l : Lay H0 H p C dx fs) {q : Addr} (h : H q = none) : H0 q = none ∧ q ≠ p := by
  have n : q ≠ p := fun z => by rw [z, l.ins] at h; cases h
  refine ⟨?_, n⟩
  cases e : H0 q with
  | none => rfl
  | some o => rw [l.kp q o e n] at h; cases h
theorem Lay.seq {K : PySem.W.Frag} {g : Addr} {xs : List V} (l : Lay H0 H p C dx fs) {C0 dx0 : Addr} {fs0 : List (Str × V)} (hp : H0 p = some (.ins C0 dx0 fs0)) (h : SqL K H0 g xs) : SqL K H g xs := by
  rcases h with (h | ⟨o, h⟩) | h
  · exact .inl (.inl (l.kp _ _ h (ne_of h hp (by intro z; cases z))))
  · exact .inl (.inr ⟨o, l.kp _ _ h (ne_of h hp (by intro z; cases z))⟩)
  · exact .inr h
end
theorem put_ne {H : Hp} {p q : Addr} {o u : HO} (h : H q = some o) (n : q ≠ p) : upd H p u q = some o := by rw [upd_ne n]; exact h
section
variable {P : Program} {w : World} {K : PySem.W.Frag} {mg : Str → Option Value} {base : Heap} {f C : Addr} {fd : FuncData}
theorem ok_lay (F : Fun K "lay" "Land.lay" s_lay f fd) (T : Txt P w K mg C) : FnOk P w K mg base CX0 1 f fd ["self", "width", "height", "ground", "water"] (spLay K C) := by
  refine F.ok sc_lay (fun vs H Q E h => ?_) (fun cdv A outer s H vs Q E hr h => ?_)
  · obtain ⟨p, g, wt, ft, wd, ht, gs, ws, rfl, _⟩ := h
    rfl
  · obtain ⟨p, g, wt, ft, wd, ht, gs, ws, rfl, hI, hw, hh, hg, hwt, k⟩ := h
    obtain ⟨dx, fs, hp, ok, mp⟩ : ∃ dx fs, H p = some (.ins C dx fs) ∧ FsOk fs ∧ p ∈ ft := by
      rcases hI with ⟨dx, e, rfl⟩ | ⟨a, m, rfl, L, rfl⟩
      · exact ⟨dx, [], e, fsok_nil, by simp⟩
      · exact ⟨a.dx, lf m a, L.ins, fsok_lf m a, by unfold foot; simp⟩
    refine ⟨_, (pss_cons (ps_fld (pv 0) pe_int rfl) (pss_cons (ps_fld (pv 0) (pv 1) rfl) (pss_cons (ps_fld (pv 0) (pv 2) rfl) (pss_cons (ps_fld (pv 0) (pe_callB (cr_sum rfl) rfl T.b_sum boot_sum (pa_cons (pv 4) pa_nil)) rfl) (pss_cons (ps_fld (pv 0) (pe_op op_rep (pe_lst (pa_cons (gi T.c_WAITS) pa_nil)) (pv 2)) rfl) (pss_cons (ps_fld (pv 0) (pe_callTy call_list_of rfl T.b_list boot_list (pa_cons (pv 3) pa_nil)) rfl) (pss_cons (ps_fld (pv 0) (pe_op op_rep (pe_lst (pa_cons pe_int pa_nil)) (pe_op op_mul (pv 1) (pv 2))) rfl) (pss_one (ps_fld (pv 0) (pe_lst (pa_cons (pe_callTy call_list_of rfl T.b_list boot_list (pa_cons (pv 4) pa_nil)) (pa_cons (pe_op op_rep (pe_lst (pa_cons pe_int pa_nil)) (pe_op op_mul (pv 1) (pv 2))) pa_nil))) rfl))))))))), ?_⟩
    have hz : wd * ht ≤ 4096 := Nat.mul_le_mul hw hh
    have lz := line24
    have hl := ok.len
    have y0 : Lay H H p C dx fs := ⟨hp, fun _ _ e _ => e⟩
    have len : ∀ (x : Str) (v : V) (l : List (Str × V)) (n : Nat), l.length ≤ n → (putF x v l).length ≤ n + 1 := fun x v l n q => Nat.le_trans (length_putF x v l) (Nat.succ_le_succ q)
    -- sweep, width, height
    refine ⟨_, rfl, p, C, dx, _, rfl, hp, T.cl, T.n_sweep, by omega, ?_⟩
    have y1 := y0.put "sweep" (.int 0)
    have l1 := len "sweep" (.int 0) fs 8 hl
    generalize upd H p (.ins C dx (putF "sweep" (.int 0) fs)) = H1 at y1 ⊢
    refine ⟨_, rfl, _, rfl, p, C, dx, _, rfl, y1.ins, T.cl, T.n_width, by omega, ?_⟩
    have y2 := y1.put "width" (.int (wd : Int))
    have l2 := len "width" (.int (wd : Int)) _ _ l1
    generalize upd H1 p _ = H2 at y2 ⊢
    refine ⟨_, rfl, _, rfl, p, C, dx, _, rfl, y2.ins, T.cl, T.n_height, by omega, ?_⟩
    have y3 := y2.put "height" (.int (ht : Int))
    have l3 := len "height" (.int (ht : Int)) _ _ l2
    generalize upd H2 p _ = H3 at y3 ⊢
    -- fallen
    refine ⟨_, rfl, wt, ws, rfl, y3.seq hp hwt, _, rfl, p, C, dx, _, rfl, y3.ins, T.cl, T.n_fallen, by omega, ?_⟩
    have y4 := y3.put "fallen" (.int ws.sum)
    have l4 := len "fallen" (.int ws.sum) _ _ l3
    generalize upd H3 p _ = H4 at y4 ⊢
    -- states
    refine ⟨by show 1 ≤ sizeLine; omega, fun t1 ht1 => ?_⟩
    have y5 := y4.new (o := .lst [.int 0]) ht1
    have e5 : upd H4 t1 (.lst [.int 0]) t1 = some (.lst [.int 0]) := upd_same
    generalize upd H4 t1 (.lst [.int 0]) = H5 at y5 e5 ⊢
    refine ⟨_, rfl, t1, _, _, rfl, rfl, e5, by omega, by omega, ?_, fun qs hqs => ?_⟩
    · show 1 * _ ≤ sizeLine
      omega
    rw [Int.toNat_natCast, vi_rep]
    obtain ⟨fs0, nsp⟩ := y5.fresh hqs
    have y6 := y5.new (o := .lst (vi (List.replicate ht 0))) hqs
    have es6 : upd H5 qs (.lst (vi (List.replicate ht 0))) qs = some (.lst (vi (List.replicate ht 0))) := upd_same
    generalize upd H5 qs (.lst (vi (List.replicate ht 0))) = H6 at y6 es6 ⊢
    refine ⟨_, rfl, p, C, dx, _, rfl, y6.ins, T.cl, T.n_states, by omega, ?_⟩
    have y7 := y6.put "states" (.ref qs)
    have es7 := put_ne (u := .ins C dx (putF "states" (.ref qs) (putF "fallen" (.int ws.sum) (putF "height" (.int (ht : Int)) (putF "width" (.int (wd : Int)) (putF "sweep" (.int 0) fs)))))) es6 nsp
    have l7 := len "states" (.ref qs) _ _ l4
    generalize upd H6 p _ = H7 at y7 es7 ⊢
    -- ground
    refine ⟨_, rfl, g, _, rfl, .inl (y7.seq hp hg), fun qg hqg => ?_⟩
    obtain ⟨fg0, ngp⟩ := y7.fresh hqg
    have y8 := y7.new (o := .lst (vi gs)) hqg
    have s8 : Same H7 (upd H7 qg (.lst (vi gs))) := Same.new hqg
    have es8 := s8 _ _ es7
    have eg8 : upd H7 qg (.lst (vi gs)) qg = some (.lst (vi gs)) := upd_same
    have n_sg : qs ≠ qg := ne_of_none es7 hqg
    generalize upd H7 qg (.lst (vi gs)) = H8 at y8 s8 es8 eg8 ⊢
    refine ⟨_, rfl, p, C, dx, _, rfl, y8.ins, T.cl, T.n_ground, by omega, ?_⟩
    have y9 := y8.put "ground" (.ref qg)
    have es9 := fun u => put_ne (u := u) es8 nsp
    have eg9 := fun u => put_ne (u := u) eg8 ngp
    have l9 := len "ground" (.ref qg) _ _ l7
    replace es9 := es9 (.ins C dx (putF "ground" (.ref qg) (putF "states" (.ref qs) (putF "fallen" (.int ws.sum) (putF "height" (.int (ht : Int)) (putF "width" (.int (wd : Int)) (putF "sweep" (.int 0) fs)))))))
    replace eg9 := eg9 (.ins C dx (putF "ground" (.ref qg) (putF "states" (.ref qs) (putF "fallen" (.int ws.sum) (putF "height" (.int (ht : Int)) (putF "width" (.int (wd : Int)) (putF "sweep" (.int 0) fs)))))))
    generalize upd H8 p _ = H9 at y9 es9 eg9 ⊢
    -- rain
    have em : (wd : Int) * (ht : Int) = ((wd * ht : Nat) : Int) := by rw [Int.natCast_mul]
    refine ⟨by show 1 ≤ sizeLine; omega, fun t2 ht2 => ?_⟩
    have y10 := y9.new (o := .lst [.int 0]) ht2
    have s10 : Same H9 (upd H9 t2 (.lst [.int 0])) := Same.new ht2
    have e10 : upd H9 t2 (.lst [.int 0]) t2 = some (.lst [.int 0]) := upd_same
    have es10 := s10 _ _ es9
    have eg10 := s10 _ _ eg9
    generalize upd H9 t2 (.lst [.int 0]) = H10 at y10 s10 e10 es10 eg10 ⊢
    refine ⟨_, rfl, _, rfl, _, _, rfl, rfl, .inl ⟨by omega, by omega⟩, t2, _, _, rfl, rfl, e10, by rw [em]; omega, by rw [em]; omega, ?_, fun qr hqr => ?_⟩
    · rw [em, Int.toNat_natCast]
      show 1 * _ ≤ sizeLine
      omega
    rw [em, Int.toNat_natCast, vi_rep]
    obtain ⟨fr0, nrp⟩ := y10.fresh hqr
    have y11 := y10.new (o := .lst (vi (List.replicate (wd * ht) 0))) hqr
    have s11 : Same H10 (upd H10 qr (.lst (vi (List.replicate (wd * ht) 0)))) := Same.new hqr
    have er11 : upd H10 qr (.lst (vi (List.replicate (wd * ht) 0))) qr = some (.lst (vi (List.replicate (wd * ht) 0))) := upd_same
    have es11 := s11 _ _ es10
    have eg11 := s11 _ _ eg10
    have n_sr : qs ≠ qr := ne_of_none es10 hqr
    have n_gr : qg ≠ qr := ne_of_none eg10 hqr
    generalize upd H10 qr (.lst (vi (List.replicate (wd * ht) 0))) = H11 at y11 s11 er11 es11 eg11 ⊢
    refine ⟨_, rfl, p, C, dx, _, rfl, y11.ins, T.cl, T.n_rain, by omega, ?_⟩
    have y12 := y11.put "rain" (.ref qr)
    have l12 := len "rain" (.ref qr) _ _ l9
    have es12 := put_ne (u := .ins C dx (putF "rain" (.ref qr) (putF "ground" (.ref qg) (putF "states" (.ref qs) (putF "fallen" (.int ws.sum) (putF "height" (.int (ht : Int)) (putF "width" (.int (wd : Int)) (putF "sweep" (.int 0) fs)))))))) es11 nsp
    have eg12 := put_ne (u := .ins C dx (putF "rain" (.ref qr) (putF "ground" (.ref qg) (putF "states" (.ref qs) (putF "fallen" (.int ws.sum) (putF "height" (.int (ht : Int)) (putF "width" (.int (wd : Int)) (putF "sweep" (.int 0) fs)))))))) eg11 ngp
    have er12 := put_ne (u := .ins C dx (putF "rain" (.ref qr) (putF "ground" (.ref qg) (putF "states" (.ref qs) (putF "fallen" (.int ws.sum) (putF "height" (.int (ht : Int)) (putF "width" (.int (wd : Int)) (putF "sweep" (.int 0) fs)))))))) er11 nrp
    generalize upd H11 p _ = H12 at y12 es12 eg12 er12 ⊢
    -- waters
    refine ⟨_, rfl, wt, _, rfl, .inl (y12.seq hp hwt), fun q0 hq0 => ?_⟩
    obtain ⟨f00, n0p⟩ := y12.fresh hq0
    have y13 := y12.new (o := .lst (vi ws)) hq0
    have s13 : Same H12 (upd H12 q0 (.lst (vi ws))) := Same.new hq0
    have e013 : upd H12 q0 (.lst (vi ws)) q0 = some (.lst (vi ws)) := upd_same
    have es13 := s13 _ _ es12
    have eg13 := s13 _ _ eg12
    have er13 := s13 _ _ er12
    have n_s0 : qs ≠ q0 := ne_of_none es12 hq0
    have n_g0 : qg ≠ q0 := ne_of_none eg12 hq0
    have n_r0 : qr ≠ q0 := ne_of_none er12 hq0
    generalize upd H12 q0 (.lst (vi ws)) = H13 at y13 s13 e013 es13 eg13 er13 ⊢
    refine ⟨by show 1 ≤ sizeLine; omega, fun t3 ht3 => ?_⟩
    have y14 := y13.new (o := .lst [.int 0]) ht3
    have s14 : Same H13 (upd H13 t3 (.lst [.int 0])) := Same.new ht3
    have e14 : upd H13 t3 (.lst [.int 0]) t3 = some (.lst [.int 0]) := upd_same
    have es14 := s14 _ _ es13
    have eg14 := s14 _ _ eg13
    have er14 := s14 _ _ er13
    have e014 := s14 _ _ e013
    generalize upd H13 t3 (.lst [.int 0]) = H14 at y14 s14 e14 es14 eg14 er14 e014 ⊢
    refine ⟨_, rfl, _, rfl, _, _, rfl, rfl, .inl ⟨by omega, by omega⟩, t3, _, _, rfl, rfl, e14, by rw [em]; omega, by rw [em]; omega, ?_, fun q1 hq1 => ?_⟩
    · rw [em, Int.toNat_natCast]
      show 1 * _ ≤ sizeLine
      omega
    rw [em, Int.toNat_natCast, vi_rep]
    obtain ⟨f10, n1p⟩ := y14.fresh hq1
    have y15 := y14.new (o := .lst (vi (List.replicate (wd * ht) 0))) hq1
    have s15 : Same H14 (upd H14 q1 (.lst (vi (List.replicate (wd * ht) 0)))) := Same.new hq1
    have e115 : upd H14 q1 (.lst (vi (List.replicate (wd * ht) 0))) q1 = some (.lst (vi (List.replicate (wd * ht) 0))) := upd_same
    have es15 := s15 _ _ es14
    have eg15 := s15 _ _ eg14
    have er15 := s15 _ _ er14
    have e015 := s15 _ _ e014
    have n_s1 : qs ≠ q1 := ne_of_none es14 hq1
    have n_g1 : qg ≠ q1 := ne_of_none eg14 hq1
    have n_r1 : qr ≠ q1 := ne_of_none er14 hq1
    have n_01 : q0 ≠ q1 := ne_of_none e014 hq1
    generalize upd H14 q1 (.lst (vi (List.replicate (wd * ht) 0))) = H15 at y15 s15 e115 es15 eg15 er15 e015 ⊢
    refine ⟨by show 2 ≤ sizeLine; omega, fun qw hqw => ?_⟩
    obtain ⟨fw0, nwp⟩ := y15.fresh hqw
    have y16 := y15.new (o := .lst [.ref q0, .ref q1]) hqw
    have s16 : Same H15 (upd H15 qw (.lst [.ref q0, .ref q1])) := Same.new hqw
    have ew16 : upd H15 qw (.lst [.ref q0, .ref q1]) qw = some (.lst [.ref q0, .ref q1]) := upd_same
    have es16 := s16 _ _ es15
    have eg16 := s16 _ _ eg15
    have er16 := s16 _ _ er15
    have e016 := s16 _ _ e015
    have e116 := s16 _ _ e115
    have n_sw : qs ≠ qw := ne_of_none es15 hqw
    have n_gw : qg ≠ qw := ne_of_none eg15 hqw
    have n_rw : qr ≠ qw := ne_of_none er15 hqw
    have n_0w : q0 ≠ qw := ne_of_none e015 hqw
    have n_1w : q1 ≠ qw := ne_of_none e115 hqw
    generalize upd H15 qw (.lst [.ref q0, .ref q1]) = H16 at y16 s16 ew16 es16 eg16 er16 e016 e116 ⊢
    refine ⟨_, rfl, p, C, dx, _, rfl, y16.ins, T.cl, T.n_waters, by omega, ?_⟩
    rw [ok.put]
    refine k _ ⟨p, dx, qs, qg, qr, qw, q0, q1⟩ rfl ⟨upd_same, put_ne es16 nsp, put_ne eg16 ngp, put_ne er16 nrp, put_ne ew16 nwp, put_ne e016 n0p, put_ne e116 n1p, ?_⟩ ?_
    · exact ⟨nsp.symm, ngp.symm, nrp.symm, nwp.symm, n0p.symm, n1p.symm, n_sg, n_sr, n_sw, n_s0, n_s1, n_gr, n_gw, n_g0, n_g1, n_rw, n_r0, n_r1, n_0w.symm, n_1w.symm, n_01⟩
    · intro b o e nb
      have bp : b ≠ p := fun z => nb (by rw [z]; exact mp)
      refine ⟨put_ne (y16.kp b o e bp) bp, fun z => ?_⟩
      simp [foot] at z
      rcases z with rfl | rfl | rfl | rfl | rfl | rfl | rfl
      · exact bp rfl
      · rw [fs0] at e; cases e
      · rw [fg0] at e; cases e
      · rw [fr0] at e; cases e
      · rw [fw0] at e; cases e
      · rw [f00] at e; cases e
      · rw [f10] at e; cases e
theorem ok_init (F : Fun K "__init__" "Land.__init__" s_init f fd) (T : Txt P w K mg C) (m_lay : MCal P w K mg base C 1 "lay" ["self", "width", "height", "ground", "water"] (spLay K C)) : FnOk P w K mg base CX0 2 f fd ["self"] (spInit C) := by
  refine F.ok sc_init (fun vs H Q E h => ?_) (fun cdv A outer s H vs Q E hr h => ?_)
  · obtain ⟨p, dx, rfl, _⟩ := h
    rfl
  · obtain ⟨p, dx, rfl, hp, k⟩ := h
    refine ⟨_, (pss_one (ps_expr (pe_mcal m_lay T.cl (hr.mono (by decide)) (pv 0) (pa_cons pe_int (pa_cons pe_int (pa_cons (pe_lst pa_nil) (pa_cons (pe_lst pa_nil) pa_nil))))))), ?_⟩
    refine ⟨_, rfl, p, dx, _, rfl, hp, rfl, Nat.zero_le _, fun g hg => ⟨Nat.zero_le _, fun wt hwt => ?_⟩⟩
    have s1 : Same H (upd H g (.lst [])) := Same.new hg
    have s2 : Same (upd H g (.lst [])) (upd (upd H g (.lst [])) wt (.lst [])) := Same.new hwt
    have eg : upd (upd H g (.lst [])) wt (.lst []) g = some (.lst []) := s2 _ _ upd_same
    have ew : upd (upd H g (.lst [])) wt (.lst []) wt = some (.lst []) := upd_same
    have s3 := s1.trans s2
    generalize upd (upd H g (.lst [])) wt (.lst []) = H2 at s3 eg ew ⊢
    refine ⟨p, g, wt, [p], 0, 0, [], [], rfl, .inl ⟨dx, s3 _ _ hp, rfl⟩, by decide, by decide, SqL.of eg, SqL.of ew, fun H' a' ep L' fr => ?_⟩
    exact k H' a' ep L' fun b o e nb => fr b o (s3 b o e) (by simpa using nb)
theorem le_of_max {l : List Int} {M c : Int} (h : ∀ y ∈ l, y ≤ M) (hm : M ≤ c) : ∀ z ∈ l, z ≤ c := fun z hz => Int.le_trans (h z hz) hm
theorem ok_wl_start (F : Fun K "wl_start" "Land.wl_start" s_wl_start f fd) (T : Txt P w K mg C) (c_is_side : Cal P w K mg base 1 "is_side" ["number"] spSide) (m_lay : MCal P w K mg base C 1 "lay" ["self", "width", "height", "ground", "water"] (spLay K C)) :
    FnOk P w K mg base CX0 2 f fd ["self", "width", "height", "ground", "water"] (spStart K C) := by
  refine F.ok sc_wl_start (fun vs H Q E h => ?_) (fun cdv A outer s H vs Q E hr h => ?_)
  · obtain ⟨a, m, g, wt, wd, ht, gs, ws, rfl, _⟩ := h
    rfl
  · obtain ⟨a, m, g, wt, wd, ht, gs, ws, rfl, L, hg, hw, hne, k⟩ := h
    refine ⟨_, (pss_cons (ps_if (PW.pt (pw_or (pt_not (pt_val (pe_cal c_is_side (hr.mono (by decide)) (pa_cons (pv 1) pa_nil)))) (pw_or1 (pt_not (pt_val (pe_cal c_is_side (hr.mono (by decide)) (pa_cons (pv 2) pa_nil))))))) (pss_one (ps_ret (gi T.c_NOT_ALLOWED))) pss_nil) (pss_cons (ps_if (PW.pt (pw_or (pt_cmpR op_gt (pe_callB (cr_max rfl) rfl T.b_max boot_max (pa_cons (pv 3) pa_nil)) (gi T.c_MOST) (nomark _)) (pw_or1 (pt_cmpR op_gt (pe_callB (cr_sum rfl) rfl T.b_sum boot_sum (pa_cons (pv 4) pa_nil)) (gi T.c_MOST) (nomark _))))) (pss_one (ps_ret (gi T.c_NOT_ALLOWED))) pss_nil) (pss_cons (ps_expr (pe_mcal m_lay T.cl (hr.mono (by decide)) (pv 0) (pa_cons (pv 1) (pa_cons (pv 2) (pa_cons (pv 3) (pa_cons (pv 4) pa_nil)))))) (pss_one (ps_ret pe_int))))), ?_⟩
    have no : ¬ startOk wd ht gs ws → Q (.int (-22)) H := fun n => by
      have q := k H a rfl
      unfold startA at q
      rw [if_neg n] at q
      exact q L (Frame.same (Same.refl H))
    refine ⟨_, rfl, _, rfl, _, rfl, ?_⟩
    refine ite2 (fun c => ?_) (fun c => ?_)
    · exact iteT (no fun o => by
        have c1 := o.1
        rw [decide_eq_true (show (1 : Int) ≤ (wd : Int) ∧ (wd : Int) ≤ 64 by omega)] at c
        cases c)
    · have c1 : (1 : Int) ≤ (wd : Int) ∧ (wd : Int) ≤ 64 := by
        by_cases q : (1 : Int) ≤ (wd : Int) ∧ (wd : Int) ≤ 64
        · exact q
        · rw [decide_eq_false q] at c; exact absurd rfl c
      refine ⟨_, rfl, _, rfl, _, rfl, ?_⟩
      refine ite2 (fun d => ?_) (fun d => ?_)
      · exact no fun o => by
          have c2 := o.2.1
          rw [decide_eq_true (show (1 : Int) ≤ (ht : Int) ∧ (ht : Int) ≤ 64 by omega)] at d
          cases d
      · have c2 : (1 : Int) ≤ (ht : Int) ∧ (ht : Int) ≤ 64 := by
          by_cases q : (1 : Int) ≤ (ht : Int) ∧ (ht : Int) ≤ 64
          · exact q
          · rw [decide_eq_false q] at d; exact absurd rfl d
        refine ⟨_, rfl, g, gs, rfl, hg, hne (by omega) (by omega), fun M hM1 hM2 => ?_⟩
        refine ⟨_, _, rfl, rfl, _, rfl, ?_⟩
        refine ite2 (fun e => ?_) (fun e => ?_)
        · exact iteT (no fun o => by
            have q := o.2.2.1 M hM1
            have e := of_decide_eq_true e
            omega)
        · have e : ¬ (1073741824 : Int) < M := fun z => e (decide_eq_true z)
          refine ⟨_, rfl, wt, ws, rfl, hw, _, _, rfl, rfl, _, rfl, ?_⟩
          refine ite2 (fun u => ?_) (fun u => ?_)
          · exact no fun o => by
              have q := o.2.2.2
              have u := of_decide_eq_true u
              omega
          · have u : ¬ (1073741824 : Int) < ws.sum := fun z => u (decide_eq_true z)
            have ok : startOk wd ht gs ws := ⟨by omega, by omega, le_of_max hM2 (by omega), by omega⟩
            refine ⟨_, rfl, a.p, a.dx, _, rfl, L.ins, rfl, _, rfl, _, rfl, _, rfl, _, rfl, a.p, g, wt, foot a, wd, ht, gs, ws, rfl, .inr ⟨a, m, rfl, L, rfl⟩, by omega, by omega, hg, hw, fun H' a' ep L' fr => ?_⟩
            have q := k H' a' ep
            unfold startA at q
            rw [if_pos ok] at q
            exact q L' fr
end
end Lw
end
section
set_option Elab.async false
set_option linter.all false
set_option maxRecDepth 100000
set_option maxHeartbeats 4000000
namespace Lw
open PySem PySem.Spec PyProof.Rows L2
/-! ### over zip(..) -/
/-- four lists that the body leaves as they are, the third and the fourth the shorter ones -/
theorem for_zip4 {K : PySem.W.Frag} {a b c d : Addr} {xs ys us vs : List V} {g : TG} {tb : TS} {D : Ends} {σ : L2.St} {H : Hp} (Pv : Nat → L2.St → Hp → Prop) (e1 : us.length < xs.length) (e2 : us.length < ys.length) (e3 : vs.length = us.length) (h0 : Pv 0 σ H)
    (hl : ∀ i σ H, i ≤ us.length → Pv i σ H → SqL K H a xs ∧ SqL K H b ys ∧ SqL K H c us ∧ SqL K H d vs)
    (hs : ∀ i x y u v T σ H, xs[i]? = some x → ys[i]? = some y → us[i]? = some u → vs[i]? = some v → Pv i σ H → H T = none → g (.ref T) σ (upd H T (.tup [x, y, u, v])) fun σ2 H2 => tb { D with nx := Pv (i + 1), ct := Pv (i + 1), bk := D.nx } σ2 H2)
    (hd : ∀ σ H, Pv us.length σ H → D.nx σ H) :
    ∃ W : Nat → Nat → L2.St → Hp → Prop, (∃ m, W 0 m σ H) ∧ ∀ i m σ H, W i m σ H →
      ((It4 K a b c d).stop i H ∧ D.nx σ H) ∨ ((It4 K a b c d).go i H ∧ ∃ N : L2.St → Hp → Prop, (∀ σ' H', N σ' H' → ∃ m', m' < m ∧ W (i + 1) m' σ' H') ∧ ∀ x H', (It4 K a b c d).yld i H x H' → g x σ H' fun σ2 H2 => tb { D with nx := N, ct := N, bk := D.nx } σ2 H2) := by
  refine ⟨fun i m σ H => i + m = us.length ∧ Pv i σ H, ⟨us.length, Nat.zero_add _, h0⟩, ?_⟩
  rintro i m σ H ⟨e, p⟩
  obtain ⟨s1, s2, s3, s4⟩ := hl i σ H (by omega) p
  cases m with
  | zero =>
    left
    have e' : i = us.length := by omega
    subst e'
    exact ⟨⟨xs, ys, us, _, _, s1, s2, s3, List.getElem?_eq_getElem e1, List.getElem?_eq_getElem e2, Nat.le_refl _⟩, hd σ H p⟩
  | succ m =>
    right
    have hi : i < us.length := by omega
    refine ⟨⟨xs, ys, us, vs, _, _, _, _, s1, s2, s3, s4, List.getElem?_eq_getElem (by omega), List.getElem?_eq_getElem (by omega), List.getElem?_eq_getElem hi, List.getElem?_eq_getElem (by omega)⟩, Pv (i + 1), fun σ' H' q => ⟨m, Nat.lt_succ_self _, by omega, q⟩, ?_⟩
    rintro x H' ⟨T, x1, x2, x3, x4, rfl, hT, rfl, q1, q2, q3, q4⟩
    exact hs i x1 x2 x3 x4 T σ H (q1 _ s1) (q2 _ s2) (q3 _ s3) (q4 _ s4) p hT
/-- a comprehension over two lists as long as one another -/
theorem lc_zip {K : PySem.W.Frag} {a b : Addr} {xs ys : List V} {g : TG} {tt : TT} {te : TE} {vs : List Nat} {σ : L2.St} {H1 : Hp} {D : Addr} {Qd : Hp → Prop} (Pv : Nat → Hp → Prop) (e1 : ys.length = xs.length) (h0 : Pv 0 (upd H1 D (.lst []))) (hl : ∀ i H, i ≤ xs.length → Pv i H → SqL K H a xs ∧ SqL K H b ys)
    (hs : ∀ i x y T H, xs[i]? = some x → ys[i]? = some y → Pv i H → H T = none → g (.ref T) (wipe σ vs) (upd H T (.tup [x, y])) fun σ2 H2 => wipe σ2 vs = wipe σ vs ∧ tt σ2 H2 fun b H3 =>
      if b = true then te σ2 H3 fun y H4 => ∃ acc, H4 D = some (.lst acc) ∧ acc.length < sizeLine ∧ Pv (i + 1) (upd H4 D (.lst (acc ++ [y]))) else Pv (i + 1) H3) (hd : ∀ H, Pv xs.length H → Qd H) :
    ∃ W : Nat → Nat → Hp → Prop, (∃ m, W 0 m (upd H1 D (.lst []))) ∧ ∀ i m H, W i m H →
      ((Itz K a b).stop i H ∧ Qd H) ∨ ((Itz K a b).go i H ∧ ∃ Nx : Hp → Prop, (∀ H', Nx H' → ∃ m', m' < m ∧ W (i + 1) m' H') ∧ ∀ x H', (Itz K a b).yld i H x H' → g x (wipe σ vs) H' fun σ2 H2 => wipe σ2 vs = wipe σ vs ∧ tt σ2 H2 fun b H3 =>
        if b = true then te σ2 H3 fun y H4 => ∃ acc, H4 D = some (.lst acc) ∧ acc.length < sizeLine ∧ Nx (upd H4 D (.lst (acc ++ [y]))) else Nx H3) := by
  refine ⟨fun i m H => i + m = xs.length ∧ Pv i H, ⟨xs.length, Nat.zero_add _, h0⟩, ?_⟩
  rintro i m H ⟨e, p⟩
  obtain ⟨s1, s2⟩ := hl i H (by omega) p
  cases m with
  | zero =>
    left
    have e' : i = xs.length := by omega
    subst e'
    exact ⟨⟨xs, ys, s1, s2, .inl (Nat.le_refl _)⟩, hd H p⟩
  | succ m =>
    right
    have hi : i < xs.length := by omega
    refine ⟨⟨xs, ys, _, _, s1, s2, List.getElem?_eq_getElem hi, List.getElem?_eq_getElem (by omega)⟩, Pv (i + 1), fun H' q => ⟨m, Nat.lt_succ_self _, by omega, q⟩, ?_⟩
    rintro x H' ⟨T, x1, x2, rfl, hT, rfl, q1, q2⟩
    exact hs i x1 x2 T H (q1 _ s1) (q2 _ s2) p hT
theorem cut_from (l : List Int) {k : Nat} (h : k ≤ l.length) : cutV (vi l) (some (k : Int)) none = vi (l.drop k) := by
  unfold cutV
  rw [HT.sIx_nat, HT.sIx_none, vi_len, Nat.min_eq_left h]
  unfold vi
  rw [← List.map_drop, List.take_of_length_le (by rw [List.length_map, List.length_drop]; omega)]
theorem cut_row (ns : List Int) (i k : Nat) (h : i + k ≤ ns.length) : cutV (vi ns) (some (i : Int)) (some ((i : Int) + (k : Int))) = vi ((ns.drop i).take k) := by
  unfold cutV
  have e : (i : Int) + (k : Int) = ((i + k : Nat) : Int) := by omega
  rw [e, HT.sIx_nat, HT.sIx_nat, vi_len, Nat.min_eq_left (by omega), Nat.min_eq_left (by omega)]
  have e2 : i + k - i = k := by omega
  rw [e2]
  unfold vi
  rw [List.map_take, List.map_drop]
theorem vi_get {l : List Int} {i : Nat} {v : V} (h : (vi l)[i]? = some v) : v = .int (atL l i) ∧ i < l.length := by
  obtain ⟨z, hz, rfl⟩ := map_at h
  exact ⟨by rw [atL_some hz], (List.getElem?_eq_some_iff.mp hz).1⟩
theorem drop_atL (l : List Int) (k i : Nat) : atL (l.drop k) i = atL l (i + k) := by
  unfold atL
  rw [List.getD_eq_getElem?_getD, List.getD_eq_getElem?_getD, List.getElem?_drop, Nat.add_comm]
theorem Same.put {H0 H : Hp} {D : Addr} {o : HO} (s : Same H0 H) (h : H0 D = none) : Same H0 (upd H D o) := fun b u e => by rw [upd_ne (ne_of_none e h)]; exact s b u e
theorem yes_if {σ : L2.St} {H : Hp} {A B : Hp → Prop} (h : A H) : tYes σ H fun b H3 => if b = true then A H3 else B H3 :=
  (iteT h : if true = true then A H else B H)
theorem and2 {c S U A B : Prop} [Decidable c] (hB : (¬ c ∨ S) → B) (hU : c → (S → B) → U) : if decide c = true then U else (if false = true then A else B) := by
  by_cases h : c
  · rw [decide_eq_true h]
    exact iteT (hU h fun s => hB (.inr s))
  · rw [decide_eq_false h]
    exact iteF (iteF (hB (.inl h)))
section
variable {P : Program} {w : World} {K : PySem.W.Frag} {mg : Str → Option Value} {base : Heap} {f C : Addr} {fd : FuncData}
theorem ok_flows_among (F : Fun K "flows_among" "flows_among" s_flows_among f fd) (T : Txt P w K mg C) : FnOk P w K mg base CX0 1 f fd ["waters", "levels", "apart"] (spAmong K) := by
  refine F.ok sc_flows_among (fun vs H Q E h => ?_) (fun cdv A outer s H vs Q E hr h => ?_)
  · obtain ⟨p, q, ws, ls, k, rfl, _⟩ := h
    rfl
  · obtain ⟨p, q, ws, ls, kk, rfl, hp, hq, el, hz, k1, k2, k⟩ := h
    refine ⟨_, (pss_cons (ps_for PassesOwn.never rfl (pi_zip4 rfl T.b_zip (pa_cons (pv 0) (pa_cons (pv 1) (pa_cons (pe_slice sl_list (pv 0) (po_some (pv 2)) po_none) (pa_cons (pe_slice sl_list (pv 1) (po_some (pv 2)) po_none) pa_nil))))) (pg_tup rfl (pgs_cons (pg_name (i := 3) sc_flows_among.nd rfl (Or.inl rfl)) (pgs_cons (pg_name (i := 4) sc_flows_among.nd rfl (Or.inl rfl)) (pgs_cons (pg_name (i := 5) sc_flows_among.nd rfl (Or.inl rfl)) (pgs_cons (pg_name (i := 6) sc_flows_among.nd rfl (Or.inl rfl)) pgs_nil))))) (pss_cons (ps_if (PW.pt (pw_and (pt_cmpR op_ge (pe_op op_sub (pv 4) (pv 6)) (gi T.c_HEIGHT_SHARE) (nomark _)) (pw_and1 (pt_cmpR op_ge (pv 3) (gi T.c_WATER_SHARE) (nomark _))))) (pss_one (ps_ret pe_bl)) pss_nil) (pss_one (ps_if (PW.pt (pw_and (pt_cmpR op_ge (pe_op op_sub (pv 6) (pv 4)) (gi T.c_HEIGHT_SHARE) (nomark _)) (pw_and1 (pt_cmpR op_ge (pv 5) (gi T.c_WATER_SHARE) (nomark _))))) (pss_one (ps_ret pe_bl)) pss_nil)))) (pss_one (ps_ret pe_bl))), ?_⟩
    have lz := line24
    refine ⟨_, rfl, _, rfl, _, rfl, _, rfl, _, rfl, p, _, rfl, hp, fun u hu => ?_⟩
    rw [cut_from ws k2]
    have s1 : Same H (upd H u (.lst (vi (ws.drop kk)))) := Same.new hu
    have e1 : upd H u (.lst (vi (ws.drop kk))) u = some (.lst (vi (ws.drop kk))) := upd_same
    generalize upd H u (.lst (vi (ws.drop kk))) = H1 at s1 e1 ⊢
    refine ⟨_, rfl, _, rfl, _, rfl, q, _, rfl, s1.seq hq, fun v hv => ?_⟩
    rw [cut_from ls (by omega)]
    have s2 : Same H1 (upd H1 v (.lst (vi (ls.drop kk)))) := Same.new hv
    have e2 : upd H1 v (.lst (vi (ls.drop kk))) v = some (.lst (vi (ls.drop kk))) := upd_same
    generalize upd H1 v (.lst (vi (ls.drop kk))) = H2 at s2 e2 ⊢
    have s3 := s1.trans s2
    have e1 := s2 _ _ e1
    have dl : ∀ l : List Int, (vi (l.drop kk)).length = l.length - kk := fun l => by rw [vi_len, List.length_drop]
    refine ⟨p, q, u, v, _, _, _, _, rfl, s3.seq hp, s3.seq hq, SqL.of e1, SqL.of e2, for_zip4 (xs := vi ws) (ys := vi ls) (us := vi (ws.drop kk)) (vs := vi (ls.drop kk))
      (fun i σ H' => (∃ v3 v4 v5 v6 : Option V, σ = [some (.ref p), some (.ref q), some (.int (kk : Int)), v3, v4, v5, v6]) ∧ Same H2 H' ∧ ∀ j, j < i → ¬ Fl (atL ls j) (atL ws j) (atL ls (j + kk)) (atL ws (j + kk)))
      (by rw [dl, vi_len]; omega) (by rw [dl, vi_len]; omega) (by rw [dl, dl]; omega) ⟨⟨none, none, none, none, rfl⟩, Same.refl _, fun j hj => absurd hj (Nat.not_lt_zero j)⟩
      (fun i σ H' _ ⟨_, s', _⟩ => ⟨s'.seq (s3.seq hp), s'.seq (s3.seq hq), s'.seq (SqL.of e1), s'.seq (SqL.of e2)⟩) ?_ ?_⟩
    · rintro i x1 x2 x3 x4 T' σ H' g1 g2 g3 g4 ⟨⟨v3, v4, v5, v6, rfl⟩, s', no⟩ hT
      obtain ⟨rfl, b1⟩ := vi_get g1
      obtain ⟨rfl, _⟩ := vi_get g2
      obtain ⟨rfl, b3⟩ := vi_get g3
      obtain ⟨rfl, _⟩ := vi_get g4
      rw [List.length_drop] at b3
      rw [drop_atL, drop_atL]
      have s4 := Same.new (o := .tup [V.int (atL ws i), V.int (atL ls i), V.int (atL ws (i + kk)), V.int (atL ls (i + kk))]) hT
      have e4 : upd H' T' (.tup [V.int (atL ws i), V.int (atL ls i), V.int (atL ws (i + kk)), V.int (atL ls (i + kk))]) T' = some (.tup [V.int (atL ws i), V.int (atL ls i), V.int (atL ws (i + kk)), V.int (atL ls (i + kk))]) := upd_same
      generalize upd H' T' (.tup [V.int (atL ws i), V.int (atL ls i), V.int (atL ws (i + kk)), V.int (atL ls (i + kk))]) = H4 at s4 e4 ⊢
      have s5 := s'.trans s4
      have yes : Fl (atL ls i) (atL ws i) (atL ls (i + kk)) (atL ws (i + kk)) → Q (.bl true) H4 := fun fl => k H4 true ⟨fun _ => ⟨i, by omega, fl⟩, fun _ => rfl⟩ (s3.trans s5)
      refine ⟨T', _, rfl, SqT.of e4, rfl, _, _, rfl, _, _, rfl, _, _, rfl, _, _, rfl, rfl, ?_⟩
      refine ⟨_, rfl, _, rfl, _, _, rfl, rfl, _, _, rfl, rfl, _, rfl, ?_⟩
      refine and2 (S := ¬ 4 ≤ atL ws i) (fun n1 => ?_) (fun g kB => ⟨_, rfl, _, _, rfl, rfl, _, rfl, ite2 (fun g' => yes (.inl ⟨g, of_decide_eq_true g'⟩)) (fun g' => kB fun z => g' (decide_eq_true z))⟩)
      refine ⟨_, rfl, _, rfl, _, _, rfl, rfl, _, _, rfl, rfl, _, rfl, ?_⟩
      refine and2 (S := ¬ 4 ≤ atL ws (i + kk)) (fun n2 => ?_) (fun g kB => ⟨_, rfl, _, _, rfl, rfl, _, rfl, ite2 (fun g' => yes (.inr ⟨g, of_decide_eq_true g'⟩)) (fun g' => kB fun z => g' (decide_eq_true z))⟩)
      refine ⟨⟨_, _, _, _, rfl⟩, s5, fun j hj => ?_⟩
      by_cases ej : j = i
      · subst ej
        rintro (⟨z1, z2⟩ | ⟨z1, z2⟩)
        · rcases n1 with n | n
          · exact n z1
          · exact n z2
        · rcases n2 with n | n
          · exact n z1
          · exact n z2
      · exact no j (by omega)
    · rintro σ H' ⟨⟨v3, v4, v5, v6, rfl⟩, s', no⟩
      rw [dl] at no
      exact k H' false ⟨fun h => (by cases h), fun ⟨i, hi, fl⟩ => absurd fl (no i (by omega))⟩ (s3.trans s')
theorem ok_wl_cell (F : Fun K "wl_cell" "Land.wl_cell" s_wl_cell f fd) (T : Txt P w K mg C) (m_has : MCal P w K mg base C 1 "has" ["self", "x", "y"] (spHas C)) (m_place : MCal P w K mg base C 1 "place" ["self", "x", "y"] (spPlace C)) (m_water_now : MCal P w K mg base C 1 "water_now" ["self"] (spNow C)) :
    FnOk P w K mg base CX0 2 f fd ["self", "x", "y"] (spCell C) := by
  refine F.ok sc_wl_cell (fun vs H Q E h => ?_) (fun cdv A outer s H vs Q E hr h => ?_)
  · obtain ⟨a, m, x, y, rfl, _⟩ := h
    rfl
  · obtain ⟨a, m, x, y, rfl, L, W, k1, k2⟩ := h
    refine ⟨_, (pss_cons (ps_if (pt_not (pt_val (pe_mcal m_has T.cl (hr.mono (by decide)) (pv 0) (pa_cons (pv 1) (pa_cons (pv 2) pa_nil))))) (pss_one (ps_ret (gi T.c_NOT_ALLOWED))) pss_nil) (pss_cons (ps_set (i := 3) sc_wl_cell.nd rfl (Or.inl rfl) (pe_mcal m_place T.cl (hr.mono (by decide)) (pv 0) (pa_cons (pv 1) (pa_cons (pv 2) pa_nil)))) (pss_one (ps_ret (pe_lst (pa_cons (pe_ix ix_list (pe_fld (pv 0) rfl) (pv 3) (fun _ _ => rfl)) (pa_cons (pe_ix ix_list (pe_mcal0 m_water_now T.cl (hr.mono (by decide)) (pv 0)) (pv 3) (fun _ _ => rfl)) pa_nil))))))), ?_⟩
    have lz := line24
    refine ⟨_, rfl, a.p, a.dx, _, rfl, L.ins, rfl, _, rfl, _, rfl, a, m, x, y, rfl, L, _, rfl, ?_⟩
    by_cases c : x < m.width ∧ y < m.height
    · rw [decide_eq_true c]
      refine iteF ?_
      have hi := idx_lt c.1 c.2
      refine ⟨_, rfl, a.p, a.dx, _, rfl, L.ins, rfl, _, rfl, _, rfl, a, m, x, y, rfl, L, W.wl, ?_⟩
      refine ⟨_, rfl, a.p, C, a.dx, _, _, rfl, L.ins, T.cl, T.n_ground, lf_ground _ _, _, rfl, a.gr, _, _, _, rfl, rfl, SqL.of L.gr, atI_nat (vi_at (atL_get (l := m.ground) (i := y * m.width + x) (by rw [W.gr]; exact hi))), ?_⟩
      refine ⟨_, rfl, a.p, a.dx, _, rfl, L.ins, rfl, a, m, rfl, L, ?_⟩
      refine ⟨_, rfl, a.nowA m, _, _, _, rfl, rfl, SqL.of L.now_at, atI_nat (vi_at (atL_get (l := m.now) (i := y * m.width + x) (by rw [W.now]; exact hi))), ?_⟩
      exact ⟨by show 2 ≤ sizeLine; omega, fun p hp => k2 c _ p upd_same (Same.new hp)⟩
    · rw [decide_eq_false c]
      exact iteT (k1 c)
theorem ok_wl_highest (F : Fun K "wl_highest" "Land.wl_highest" s_wl_highest f fd) (T : Txt P w K mg C) (m_water_now : MCal P w K mg base C 1 "water_now" ["self"] (spNow C)) (c_level : Cal P w K mg base 1 "level" ["ground", "water"] (spI2 fun a b => a + b)) :
    FnOk P w K mg base CX0 2 f fd ["self"] (spHigh C) := by
  refine F.ok sc_wl_highest (fun vs H Q E h => ?_) (fun cdv A outer s H vs Q E hr h => ?_)
  · obtain ⟨a, m, rfl, _⟩ := h
    rfl
  · obtain ⟨a, m, rfl, L, W, k⟩ := h
    refine ⟨_, (pss_cons (ps_setLc (i := 1) (own := [("ground", 2), ("water", 3)]) (g := gTup K 2 (gCons (gName 2) (gCons (gName 3) gNil))) rfl sc_wl_highest.nd rfl rfl (sw_true rfl rfl rfl rfl) (pi_zip rfl T.b_zip (pa_cons (pe_fld (pv 0) rfl) (pa_cons (pe_mcal0 m_water_now T.cl (hr.mono (by decide)) (pv 0)) pa_nil))) (blkOk_by (N := ["self", "levels", "ground", "water"]) (sc := defScope s_wl_highest) (by decide +kernel)) (fun _ _ _ _ _ => (pg_tup rfl (pgs_cons (pg_name (i := 2) sc_wl_highest.nd rfl (Or.inl rfl)) (pgs_cons (pg_name (i := 3) sc_wl_highest.nd rfl (Or.inl rfl)) pgs_nil)))) (fun _ _ _ _ _ => (pts_one (pt_cmpR op_gt (pv 3) pe_int (nomark _)))) (fun _ _ _ _ _ => (pe_cal c_level (hr.mono (by decide)) (pa_cons (pv 2) (pa_cons (pv 3) pa_nil))))) (pss_one (ps_ret (pe_maxd rfl rfl T.b_max boot_max (pa_cons (pv 1) pa_nil) (pk_cons pe_int pk_nil))))), ?_⟩
    have lz := line24
    have hz : m.width * m.height ≤ 4096 := Nat.mul_le_mul W.wl W.hl
    refine ⟨_, rfl, a.p, C, a.dx, _, _, rfl, L.ins, T.cl, T.n_ground, lf_ground _ _, _, rfl, a.p, a.dx, _, rfl, L.ins, rfl, a, m, rfl, L, ?_⟩
    refine ⟨a.gr, a.nowA m, _, _, rfl, SqL.of L.gr, SqL.of L.now_at, fun D hD => lc_zip (xs := vi m.ground) (ys := vi m.now) (fun i H' => Same H H' ∧ H' D = some (.lst (vi (wetM m i)))) (by rw [vi_len, vi_len, W.gr, W.now]) ⟨Same.new hD, upd_same⟩
      (fun i H' _ ⟨s', _⟩ => ⟨SqL.of (s' _ _ L.gr), SqL.of (s' _ _ L.now_at)⟩) ?_ ?_⟩
    · rintro i x1 x2 T' H' g1 g2 ⟨s', eD⟩ hT
      obtain ⟨rfl, b1⟩ := vi_get g1
      obtain ⟨rfl, b2⟩ := vi_get g2
      rw [W.gr] at b1
      have s4 := Same.new (o := .tup [V.int (atL m.ground i), V.int (atL m.now i)]) hT
      have e4 : upd H' T' (.tup [V.int (atL m.ground i), V.int (atL m.now i)]) T' = some (.tup [V.int (atL m.ground i), V.int (atL m.now i)]) := upd_same
      generalize upd H' T' (.tup [V.int (atL m.ground i), V.int (atL m.now i)]) = H4 at s4 e4 ⊢
      have s5 := s'.trans s4
      have eD4 := s4 _ _ eD
      refine ⟨T', _, rfl, SqT.of e4, rfl, _, _, rfl, _, _, rfl, rfl, rfl, ?_⟩
      refine ⟨_, rfl, _, _, rfl, rfl, _, rfl, ?_⟩
      have ws := wetM_succ m i
      have wl := wetM_len m i
      refine ite2 (fun g => ?_) (fun g => ?_)
      · have g := of_decide_eq_true g
        rw [if_pos g] at ws
        refine ⟨_, rfl, _, rfl, _, _, rfl, _, eD4, by rw [vi_len]; omega, Same.put s5 hD, ?_⟩
        rw [upd_same, ws]
        unfold vi
        rw [List.map_append]
        rfl
      · have g : ¬ (0 : Int) < atL m.now i := fun z => g (decide_eq_true z)
        rw [if_neg g, List.append_nil] at ws
        exact ⟨s5, by rw [ws]; exact eD4⟩
    · rintro H' ⟨s', eD⟩
      rw [vi_len, W.gr] at eD
      exact ⟨_, rfl, D, wetM m (m.width * m.height), _, rfl, rfl, SqL.of eD, fun e => k 0 H' (.inl ⟨e, rfl⟩) s', fun M h1 h2 => k M H' (.inr ⟨h1, h2⟩) s'⟩
theorem ok_wl_still (F : Fun K "wl_still" "Land.wl_still" s_wl_still f fd) (T : Txt P w K mg C) (m_water_now : MCal P w K mg base C 1 "water_now" ["self"] (spNow C)) (m_place : MCal P w K mg base C 1 "place" ["self", "x", "y"] (spPlace C))
    (c_level : Cal P w K mg base 1 "level" ["ground", "water"] (spI2 fun a b => a + b)) (c_flows_among : Cal P w K mg base 1 "flows_among" ["waters", "levels", "apart"] (spAmong K)) :
    FnOk P w K mg base CX0 2 f fd ["self"] (spStill C) := by
  refine F.ok sc_wl_still (fun vs H Q E h => ?_) (fun cdv A outer s H vs Q E hr h => ?_)
  · obtain ⟨a, m, rfl, _⟩ := h
    rfl
  · obtain ⟨a, m, rfl, L, W, w1, h1, k1, k0⟩ := h
    refine ⟨_, (pss_cons (ps_set (i := 1) sc_wl_still.nd rfl (Or.inl rfl) (pe_mcal0 m_water_now T.cl (hr.mono (by decide)) (pv 0))) (pss_cons (ps_setLc (i := 2) (own := [("ground", 3), ("water", 4)]) (g := gTup K 2 (gCons (gName 3) (gCons (gName 4) gNil))) rfl sc_wl_still.nd rfl rfl (sw_true rfl rfl rfl rfl) (pi_zip rfl T.b_zip (pa_cons (pe_fld (pv 0) rfl) (pa_cons (pv 1) pa_nil))) (blkOk_by (N := ["self", "now", "levels", "ground", "water", "y", "first", "behind"]) (sc := defScope s_wl_still) (by decide +kernel)) (fun _ _ _ _ _ => (pg_tup rfl (pgs_cons (pg_name (i := 3) sc_wl_still.nd rfl (Or.inl rfl)) (pgs_cons (pg_name (i := 4) sc_wl_still.nd rfl (Or.inl rfl)) pgs_nil)))) (fun _ _ _ _ _ => pts_nil) (fun _ _ _ _ _ => (pe_cal c_level (hr.mono (by decide)) (pa_cons (pv 3) (pa_cons (pv 4) pa_nil))))) (pss_cons (ps_if (pt_val (pe_cal c_flows_among (hr.mono (by decide)) (pa_cons (pv 1) (pa_cons (pv 2) (pa_cons (pe_fld (pv 0) rfl) pa_nil))))) (pss_one (ps_ret pe_int)) pss_nil) (pss_cons (ps_for PassesOwn.never rfl (pi_range1 rfl T.b_range (pa_cons (pe_fld (pv 0) rfl) pa_nil)) (pg_name (i := 5) sc_wl_still.nd rfl (Or.inl rfl)) (pss_cons (ps_set (i := 6) sc_wl_still.nd rfl (Or.inl rfl) (pe_mcal m_place T.cl (hr.mono (by decide)) (pv 0) (pa_cons pe_int (pa_cons (pv 5) pa_nil)))) (pss_cons (ps_set (i := 7) sc_wl_still.nd rfl (Or.inl rfl) (pe_op op_add (pv 6) (pe_fld (pv 0) rfl))) (pss_one (ps_if (pt_val (pe_cal c_flows_among (hr.mono (by decide)) (pa_cons (pe_slice sl_list (pv 1) (po_some (pv 6)) (po_some (pv 7))) (pa_cons (pe_slice sl_list (pv 2) (po_some (pv 6)) (po_some (pv 7))) (pa_cons pe_int pa_nil))))) (pss_one (ps_ret pe_int)) pss_nil))))) (pss_one (ps_ret pe_int)))))), ?_⟩
    have lz := line24
    have hz : m.width * m.height ≤ 4096 := Nat.mul_le_mul W.wl W.hl
    have wle : m.width ≤ m.width * m.height := Nat.le_mul_of_pos_right _ h1
    have hwl := W.wl
    have hhl := W.hl
    refine ⟨_, rfl, a.p, a.dx, _, rfl, L.ins, rfl, a, m, rfl, L, ?_⟩
    refine ⟨_, rfl, a.p, C, a.dx, _, _, rfl, L.ins, T.cl, T.n_ground, lf_ground _ _, _, rfl, ?_⟩
    refine ⟨a.gr, a.nowA m, _, _, rfl, SqL.of L.gr, SqL.of L.now_at, fun D hD => lc_zip (xs := vi m.ground) (ys := vi m.now) (fun i H' => Same H H' ∧ H' D = some (.lst (vi ((levM m).take i)))) (by rw [vi_len, vi_len, W.gr, W.now]) ⟨Same.new hD, upd_same⟩
      (fun i H' _ ⟨s', _⟩ => ⟨SqL.of (s' _ _ L.gr), SqL.of (s' _ _ L.now_at)⟩) ?_ ?_⟩
    · rintro i x1 x2 T' H' g1 g2 ⟨s', eD⟩ hT
      obtain ⟨rfl, b1⟩ := vi_get g1
      obtain ⟨rfl, b2⟩ := vi_get g2
      rw [W.gr] at b1
      have s4 := Same.new (o := .tup [V.int (atL m.ground i), V.int (atL m.now i)]) hT
      have e4 : upd H' T' (.tup [V.int (atL m.ground i), V.int (atL m.now i)]) T' = some (.tup [V.int (atL m.ground i), V.int (atL m.now i)]) := upd_same
      generalize upd H' T' (.tup [V.int (atL m.ground i), V.int (atL m.now i)]) = H4 at s4 e4 ⊢
      have s5 := s'.trans s4
      have eD4 := s4 _ _ eD
      refine ⟨T', _, rfl, SqT.of e4, rfl, _, _, rfl, _, _, rfl, rfl, rfl, ?_⟩
      refine yes_if ?_
      refine ⟨_, rfl, _, rfl, _, _, rfl, _, eD4, by rw [vi_len, List.length_take]; omega, Same.put s5 hD, ?_⟩
      rw [upd_same, List.take_add_one, levM_at W b1]
      unfold vi
      rw [List.map_append]
      rfl
    · rintro H1 ⟨s1, eD⟩
      rw [vi_len, W.gr, ← levM_len W, List.take_length] at eD
      have L1 := L.same s1
      refine ⟨_, rfl, _, rfl, _, rfl, a.p, C, a.dx, _, _, rfl, L1.ins, T.cl, T.n_width, lf_width _ _, ?_⟩
      refine ⟨a.nowA m, D, m.now, levM m, m.width, rfl, SqL.of L1.now_at, SqL.of eD, by rw [levM_len W, W.now], by rw [W.now]; exact hz, w1, by rw [W.now]; exact wle, fun H2 b hb s2 => ⟨_, rfl, ?_⟩⟩
      have s3 := s1.trans s2
      have L2 := L.same s3
      have eD2 := s2 _ _ eD
      cases b with
      | true => exact iteT (k0 (fun st => st.1 (hb.mp rfl)) H2 s3)
      | false =>
        have n0 : ¬ Flows m.now (levM m) m.width := fun z => Bool.false_ne_true (hb.mpr z)
        refine iteF ?_
        refine ⟨_, rfl, a.p, C, a.dx, _, _, rfl, L2.ins, T.cl, T.n_height, lf_height _ _, (m.height : Int), rfl, by omega, by omega, for_range (lo := 0) (n := (m.height : Int).toNat)
          (fun i σ H' => (∃ v5 v6 v7 : Option V, σ = [some (.ref a.p), some (.ref (a.nowA m)), some (.ref D), none, none, v5, v6, v7]) ∧ Same H2 H' ∧ ∀ y, y < i → ¬ Flows ((m.now.drop (y * m.width)).take m.width) (((levM m).drop (y * m.width)).take m.width) 1)
          ⟨⟨none, none, none, rfl⟩, Same.refl _, fun y hy => absurd hy (Nat.not_lt_zero y)⟩ ?_ ?_⟩
        · rintro i σ H' hi ⟨⟨v5, v6, v7, rfl⟩, s4, no⟩
          have hi' : i < m.height := by omega
          have z : (0 : Int) + (i : Int) = (i : Int) := Int.zero_add _
          rw [z]
          have s5 := s3.trans s4
          have L4 := L.same s5
          have eD4 := s4 _ _ eD2
          have rl : i * m.width + m.width ≤ m.width * m.height := by
            have := idx_lt (w := m.width) (h := m.height) (x := m.width - 1) (y := i) (by omega) hi'
            omega
          refine ⟨_, rfl, a.p, a.dx, _, rfl, L4.ins, rfl, _, rfl, a, m, 0, i, rfl, L4, W.wl, ?_⟩
          refine ⟨_, rfl, _, rfl, a.p, C, a.dx, _, _, rfl, L4.ins, T.cl, T.n_width, lf_width _ _, _, _, rfl, rfl, ?_⟩
          refine ⟨_, rfl, _, rfl, _, rfl, _, rfl, _, rfl, a.nowA m, _, rfl, SqL.of L4.now_at, fun u hu => ?_⟩
          rw [cut_row m.now (i * m.width + 0) m.width (by rw [W.now]; omega)]
          have s6 : Same H' (upd H' u (.lst (vi ((m.now.drop (i * m.width + 0)).take m.width)))) := Same.new hu
          have e6 : upd H' u (.lst (vi ((m.now.drop (i * m.width + 0)).take m.width))) u = some (.lst (vi ((m.now.drop (i * m.width + 0)).take m.width))) := upd_same
          generalize upd H' u (.lst (vi ((m.now.drop (i * m.width + 0)).take m.width))) = H6 at s6 e6 ⊢
          refine ⟨_, rfl, _, rfl, _, rfl, _, rfl, _, rfl, D, _, rfl, SqL.of (s6 _ _ eD4), fun v hv => ?_⟩
          rw [cut_row (levM m) (i * m.width + 0) m.width (by rw [levM_len W]; omega)]
          have s7 : Same H6 (upd H6 v (.lst (vi (((levM m).drop (i * m.width + 0)).take m.width)))) := Same.new hv
          have e7 : upd H6 v (.lst (vi (((levM m).drop (i * m.width + 0)).take m.width))) v = some (.lst (vi (((levM m).drop (i * m.width + 0)).take m.width))) := upd_same
          generalize upd H6 v (.lst (vi (((levM m).drop (i * m.width + 0)).take m.width))) = H7 at s7 e7 ⊢
          have e6 := s7 _ _ e6
          rw [Nat.add_zero] at e6 e7
          have rn : ((m.now.drop (i * m.width)).take m.width).length = m.width := by rw [List.length_take, List.length_drop, W.now]; omega
          have rv : (((levM m).drop (i * m.width)).take m.width).length = m.width := by rw [List.length_take, List.length_drop, levM_len W]; omega
          refine ⟨u, v, _, _, 1, rfl, SqL.of e6, SqL.of e7, by rw [rn, rv], by omega, Nat.le_refl _, by omega, fun H8 b hb s8 => ⟨_, rfl, ?_⟩⟩
          have s9 := (s6.trans s7).trans s8
          cases b with
          | true => exact iteT (k0 (fun st => st.2 i hi' (hb.mp rfl)) H8 (s5.trans s9))
          | false =>
            refine iteF ⟨⟨_, _, _, rfl⟩, s4.trans s9, fun y hy => ?_⟩
            by_cases ey : y = i
            · subst ey
              exact fun z => Bool.false_ne_true (hb.mpr z)
            · exact no y (by omega)
        · rintro σ H' ⟨⟨v5, v6, v7, rfl⟩, s4, no⟩
          have e : (m.height : Int).toNat = m.height := by omega
          rw [e] at no
          exact k1 ⟨n0, no⟩ H' (s3.trans s4)
end
end Lw
end
section
set_option Elab.async false
set_option linter.all false
set_option maxRecDepth 100000
set_option maxHeartbeats 4000000
namespace Lw
open PySem PySem.Spec PyProof.Rows L2
/-! ### the list of calls, which nobody writes -/
def Frz (K : PySem.W.Frag) (H : Hp) (c : Addr) (xs : List V) : Prop := (∃ o, H c = some (.frz o (.lst xs))) ∨
  ∃ (o : Obj) (its : Array Value) (n : Nat), K.lookup c = some o ∧ o.cls = .type "list" ∧ o.dict = none ∧ o.data = .seq its n ∧ its.size ≤ sizeLine ∧ Vals xs its.toList
theorem Frz.seq {K : PySem.W.Frag} {H : Hp} {c : Addr} {xs : List V} (h : Frz K H c xs) : SqL K H c xs := by
  rcases h with ⟨o, h⟩ | h
  · exact .inl (.inr ⟨o, h⟩)
  · exact .inr h
theorem Frz.of {K : PySem.W.Frag} {H : Hp} {c : Addr} {xs : List V} (hO : OnlyF H) (h : SqL K H c xs) : Frz K H c xs := by
  rcases h with (h | ⟨o, h⟩) | h
  · rcases hO c with e | ⟨o, u, e⟩
    · rw [e] at h; cases h
    · rw [e] at h; cases h
  · exact .inl ⟨o, h⟩
  · exact .inr h
theorem Frz.same {K : PySem.W.Frag} {H H' : Hp} {c : Addr} {xs : List V} (h : Frz K H c xs) (s : Same H H') : Frz K H' c xs := by
  rcases h with ⟨o, h⟩ | h
  · exact .inl ⟨o, s _ _ h⟩
  · exact .inr h
theorem frz_foot {C : Addr} {H : Hp} {a : LA} {m : LM} (L : LandAt C H a m) {c : Addr} {o : Obj} {u : HO} (h : H c = some (.frz o u)) : c ∉ foot a := by
  intro z
  simp [foot] at z
  rcases z with rfl | rfl | rfl | rfl | rfl | rfl | rfl
  · rw [L.ins] at h; cases h
  · rw [L.st] at h; cases h
  · rw [L.gr] at h; cases h
  · rw [L.rn] at h; cases h
  · rw [L.ws] at h; cases h
  · rw [L.w0] at h; cases h
  · rw [L.w1] at h; cases h
theorem Frz.frame {K : PySem.W.Frag} {C : Addr} {H H' : Hp} {a a' : LA} {m : LM} {c : Addr} {xs : List V} (h : Frz K H c xs) (L : LandAt C H a m) (f : Frame H a H' a') : Frz K H' c xs := by
  rcases h with ⟨o, h⟩ | h
  · exact .inl ⟨o, (f _ _ h (frz_foot L h)).1⟩
  · exact .inr h
theorem Frz.upd {K : PySem.W.Frag} {H : Hp} {c q : Addr} {xs ys : List V} {o : HO} (h : Frz K H c xs) (hq : H q = some (.lst ys)) : Frz K (L2.upd H q o) c xs := by
  rcases h with ⟨u, h⟩ | h
  · exact .inl ⟨u, by rw [upd_ne (ne_of h hq (by intro z; cases z))]; exact h⟩
  · exact .inr h
/-! ### the calls' own defs -/
def spLength (K : PySem.W.Frag) : Sp := fun vs H Q _ => ∃ (q : Addr) (ns : List Int) (at' : Nat) (c : List (List Int)) (t : List Int), vs = [.ref q, .int (at' : Int)] ∧ SqL K H q (vi ns) ∧ CallAt (ns.drop at') c t ∧ Q (.int (((ns.drop at').length - t.length : Nat) : Int)) H
def spCount : Sp := fun vs H Q _ => ∃ (q : Addr) (l : List Int), vs = [.ref q] ∧ H q = some (.lst (vi l)) ∧ l.length ≤ 1000 ∧
  ∀ (H' : Hp) (p : Addr), H' p = some (.lst (vi ((l.length : Int) :: l))) → H p = none → Same H H' → Q (.ref p) H'
def spAnswer (K : PySem.W.Frag) (C : Addr) : Sp := fun vs H Q _ => ∃ (a : LA) (m : LM) (q : Addr) (l : List Int) (c : List (List Int)) (s : Kp155Neutral.S), vs = [.ref a.p, .ref q] ∧ LandAt C H a m ∧ SqL K H q (vi l) ∧ CallAt l c [] ∧ RS s m ∧
  Kp155Neutral.asked1 c = true ∧ Kp155Neutral.may s c = true ∧
  ∀ (H' : Hp) (a' : LA) (m' : LM) (r : Addr), a'.p = a.p → LandAt C H' a' m' → RS (Kp155Neutral.step s c).1 m' → H' r = some (.lst (vi (Kp155Neutral.step s c).2)) → Frame H a H' a' → Q (.ref r) H'
def spAns (K : PySem.W.Frag) : Sp := fun vs H Q _ => ∃ (q : Addr) (ns : List Int), vs = [.ref q] ∧ Frz K H q (vi ns) ∧ ns.length ≤ 30000 ∧ PyKp155.answers_asked ns = true ∧
  ∀ (H' : Hp) (p : Addr), H' p = some (.lst (vi (PyKp155.answers ns))) → Q (.ref p) H'
theorem CallAt.cut {l : List Int} {c : List (List Int)} {t : List Int} (h : CallAt l c t) : t.length < l.length ∧ l.drop (l.length - t.length) = t ∧ CallAt (l.take (l.length - t.length)) c [] := by
  have key : ∀ (l0 t : List Int) (c : List (List Int)), 0 < l0.length → CallAt (l0 ++ []) c [] → t.length < (l0 ++ t).length ∧ (l0 ++ t).drop ((l0 ++ t).length - t.length) = t ∧ CallAt ((l0 ++ t).take ((l0 ++ t).length - t.length)) c [] := by
    intro l0 t c h0 h
    have e : (l0 ++ t).length - t.length = l0.length := by rw [List.length_append]; omega
    rw [e]
    refine ⟨by rw [List.length_append]; omega, by simp, ?_⟩
    rw [List.take_left' rfl]
    rw [List.append_nil] at h
    exact h
  cases h with
  | start w h g wt t =>
    have q := key (0 :: w :: h :: (g.length : Int) :: (g ++ ((wt.length : Int) :: wt))) t [[0, w, h], g, wt] (by simp) (by
      have z := CallAt.start w h g wt []
      simpa using z)
    simpa using q
  | work t => exact key [1] t _ (by simp) (.work [])
  | turn t => exact key [2] t _ (by simp) (.turn [])
  | rain x y k t => exact key [3, x, y, k] t _ (by simp) (.rain x y k [])
  | cell x y t => exact key [4, x, y] t _ (by simp) (.cell x y [])
  | highest t => exact key [5] t _ (by simp) (.highest [])
  | still t => exact key [6] t _ (by simp) (.still [])
theorem cutV_vi (ns : List Int) (i k : Nat) (h : i + k ≤ ns.length) : cutV (vi ns) (some (i : Int)) (some ((i : Int) + (k : Int))) = vi ((ns.drop i).take k) := by
  unfold cutV
  have e : (i : Int) + (k : Int) = ((i + k : Nat) : Int) := by omega
  rw [e, HT.sIx_nat, HT.sIx_nat, vi_len, Nat.min_eq_left (by omega), Nat.min_eq_left (by omega)]
  have e2 : i + k - i = k := by omega
  rw [e2]
  unfold vi
  rw [List.map_take, List.map_drop]
theorem step_len (s : Kp155Neutral.S) (c : List (List Int)) : (Kp155Neutral.step s c).2.length ≤ 4 := by
  unfold Kp155Neutral.step
  split
  · exact Nat.zero_le _
  · rename_i q _
    have key : ∀ b, (Kp155Neutral.ansOf (Kp155.act b q).2).length ≤ 4 := by
      intro b
      cases q with
      | start l =>
        cases l with
        | none => exact (by decide : 2 ≤ 4)
        | some l =>
          show (Kp155Neutral.ansOf (if Kp155.good l = false then (b, Kp155.Ans.num (-22)) else (Kp155.start l, Kp155.Ans.num 0)).2).length ≤ 4
          split <;> exact (by decide : 2 ≤ 4)
      | work =>
        show (Kp155Neutral.ansOf (match Kp155.firstWaiting b with | none => (b, Kp155.Ans.num 0) | some y => (Kp155.finish b y, Kp155.Ans.num 1)).2).length ≤ 4
        split <;> exact (by decide : 2 ≤ 4)
      | turn =>
        show (Kp155Neutral.ansOf (if Kp155.allAre b 2 = false then (b, Kp155.Ans.num (-11)) else if Kp155.LONGEST ≤ b.sweep then (b, .num (-28)) else (Kp155.turn b, .num 0)).2).length ≤ 4
        split
        · exact (by decide : 2 ≤ 4)
        · split <;> exact (by decide : 2 ≤ 4)
      | rain x y k =>
        show (Kp155Neutral.ansOf (if b.width ≤ x ∨ b.height ≤ y then (b, Kp155.Ans.num (-22)) else if Kp154.HIGH < b.fallen + k then (b, .num (-28)) else (Kp155.rained b x y k, .num 0)).2).length ≤ 4
        split
        · exact (by decide : 2 ≤ 4)
        · split <;> exact (by decide : 2 ≤ 4)
      | cell x y =>
        show (Kp155Neutral.ansOf (if b.width ≤ x ∨ b.height ≤ y then Kp155.Ans.num (-22) else .out [Kp155.at_ b.ground x y, Kp155.at_ b.water x y])).length ≤ 4
        split
        · exact (by decide : 2 ≤ 4)
        · exact (by decide : 4 ≤ 4)
      | highest => exact (by decide : 3 ≤ 4)
      | still => exact (by decide : 2 ≤ 4)
    split
    · exact key _
    · split
      · exact key _
      · exact Nat.zero_le _
section
variable {P : Program} {w : World} {K : PySem.W.Frag} {mg : Str → Option Value} {base : Heap} {f C : Addr} {fd : FuncData}
theorem ok_with_count (F : Fun K "with_count" "with_count" s_with_count f fd) (T : Txt P w K mg C) : FnOk P w K mg base CX0 1 f fd ["numbers"] spCount := by
  refine F.ok sc_with_count (fun vs H Q E h => ?_) (fun cdv A outer s H vs Q E hr h => ?_)
  · obtain ⟨q, l, rfl, _⟩ := h
    rfl
  · obtain ⟨q, l, rfl, hq, hl, k⟩ := h
    refine ⟨_, (pss_one (ps_ret (pe_op op_cat (pe_lst (pa_cons (pe_callB (call_len_seq) rfl T.b_len boot_len (pa_cons (pv 0) pa_nil)) pa_nil)) (pv 0)))), ?_⟩
    have lz := line24
    refine ⟨_, rfl, q, _, rfl, .inl (SqL.of hq), by show 1 ≤ sizeLine; omega, fun t ht => ?_⟩
    have s1 : Same H (upd H t (.lst [.int ((vi l).length : Int)])) := Same.new ht
    have e1 : upd H t (.lst [.int ((vi l).length : Int)]) t = some (.lst [.int ((vi l).length : Int)]) := upd_same
    generalize upd H t (.lst [.int ((vi l).length : Int)]) = H1 at s1 e1 ⊢
    refine ⟨_, rfl, t, q, _, _, rfl, rfl, e1, s1 _ _ hq, by rw [vi_len]; show 1 + l.length ≤ sizeLine; omega, fun p hp => ?_⟩
    refine k _ p ?_ (s1.free hp) (s1.trans (Same.new hp))
    rw [upd_same, vi_len]
    rfl
theorem ok_answers (F : Fun K "answers" "answers" s_answers f fd) (T : Txt P w K mg C) {fI : Addr} {fdI : FuncData} (M : Mk K C fI) (GI : FnOk P w K mg base CX0 2 fI fdI ["self"] (spInit C)) (bI : Binds K fdI ["self"] [])
    (c_call_length : Cal P w K mg base 1 "call_length" ["calls", "at"] (spLength K)) (c_answer : Cal P w K mg base 7 "answer" ["land", "call"] (spAnswer K C)) (c_with_count : Cal P w K mg base 1 "with_count" ["numbers"] spCount) :
    FnOk P w K mg base CX0 8 f fd ["calls"] (spAns K) := by
  refine F.ok sc_answers (fun vs H Q E h => ?_) (fun cdv A outer s H vs Q E hr h => ?_)
  · obtain ⟨q, ns, rfl, _⟩ := h
    rfl
  · obtain ⟨c, ns, rfl, hc, hlen, hask, k⟩ := h
    refine ⟨_, (pss_cons (ps_set (i := 1) sc_answers.nd rfl (Or.inl rfl) (pe_make0 M GI (hr.mono (by decide)) rfl T.mgC bI .nil pass0)) (pss_cons (ps_set (i := 2) sc_answers.nd rfl (Or.inl rfl) (pe_lst pa_nil)) (pss_cons (ps_set (i := 3) sc_answers.nd rfl (Or.inl rfl) pe_int) (pss_cons (ps_while PassesOwn.never (pt_cmpR op_lt (pv 3) (pe_callB (call_len_seq) rfl T.b_len boot_len (pa_cons (pv 0) pa_nil)) (nomark _)) (pss_cons (ps_set (i := 4) sc_answers.nd rfl (Or.inl rfl) (pe_cal c_call_length (hr.mono (by decide)) (pa_cons (pv 0) (pa_cons (pv 3) pa_nil)))) (pss_cons (ps_expr (pe_bm PySem.F.plainAttrs_list PySem.F.slot_list_extend PySem.F.type_list_extend mt_extend (pv 2) (pa_cons (pe_cal c_with_count (hr.mono (by decide)) (pa_cons (pe_cal c_answer (hr.mono (by decide)) (pa_cons (pv 1) (pa_cons (pe_slice sl_list (pv 0) (po_some (pv 3)) (po_some (pe_op op_add (pv 3) (pv 4)))) pa_nil))) pa_nil)) pa_nil))) (pss_one (ps_aug (i := 3) sc_answers.nd rfl (Or.inl rfl) (pv 4) ip_add))))) (pss_one (ps_ret (pv 2))))))), ?_⟩
    have lz := line24
    -- land = Land()
    intro p dx np nd ne
    have s1 : Same H (upd (upd H dx (.own p)) p (.ins C dx [])) := (Same.new nd).trans (Same.new (by rw [upd_ne (fun z => ne z.symm)]; exact np))
    have e1 : upd (upd H dx (.own p)) p (.ins C dx []) p = some (.ins C dx []) := upd_same
    generalize upd (upd H dx (.own p)) p (.ins C dx []) = H1 at s1 e1 ⊢
    refine ⟨p, dx, rfl, e1, fun H2 a2 ep L2 kp => ⟨rfl, ?_⟩⟩
    have f2 : Frz K H2 c (vi ns) := by
      rcases hc with ⟨o, h⟩ | h
      · exact .inl ⟨o, (kp c _ (s1 _ _ h) (ne_of_none h np)).1⟩
      · exact .inr h
    -- told = []; at = 0
    refine ⟨Nat.zero_le _, fun td htd => ?_⟩
    have s3 : Same H2 (upd H2 td (.lst [])) := Same.new htd
    have e3 : upd H2 td (.lst []) td = some (.lst []) := upd_same
    have n3 := not_foot L2 htd
    generalize upd H2 td (.lst []) = H3 at s3 e3 ⊢
    refine while_by (fun σ H' => ∃ (i : Nat) (v : Option V) (a : LA) (m : LM) (s : Kp155Neutral.S) (done rest : List Int), σ = [some (.ref c), some (.ref p), some (.ref td), some (.int (i : Int)), v] ∧ i ≤ ns.length ∧ a.p = p ∧ LandAt C H' a m ∧ RS s m ∧
        Due s (ns.drop i) rest ∧ H' td = some (.lst (vi done)) ∧ done ++ rest = PyKp155.answers ns ∧ done.length ≤ 5 * i ∧ td ∉ foot a ∧ Frz K H' c (vi ns))
      (fun σ _ => match σ with | [_, _, _, some (.int i), _] => ns.length - i.toNat | _ => 0) ?_ ?_ ?_
    · exact ⟨0, none, a2, _, Kp155Neutral.start, [], PyKp155.answers ns, rfl, Nat.zero_le _, ep, L2.same s3, WF.lay (by decide) (by decide) rfl rfl, Due.start hask, e3, rfl, Nat.le_refl _, n3, f2.same s3⟩
    · rintro σ H' ⟨i, v, a, m, s, done, rest, rfl, hi, rfl, L, R, D, htd', hdr, hdl, ntd, fz⟩
      refine ⟨_, rfl, _, rfl, c, _, rfl, .inl fz.seq, _, _, rfl, rfl, _, rfl, ?_⟩
      refine ite2 (fun g => ?_) (fun g => ?_)
      · have g := of_decide_eq_true g
        rw [vi_len] at g
        have hlt : i < ns.length := by omega
        cases ed : ns.drop i with
        | nil =>
          have := congrArg List.length ed
          rw [List.length_drop] at this
          simp at this
          omega
        | cons x xs =>
          rw [ed] at D
          obtain ⟨cc, t, out', ca, h1, h2, ho, D'⟩ := D.cons
          rw [← ed] at ca
          obtain ⟨tl, td2, ca0⟩ := ca.cut
          have dl : (ns.drop i).length = ns.length - i := List.length_drop
          -- length = call_length(calls, at)
          refine ⟨_, rfl, _, rfl, c, ns, i, cc, t, rfl, fz.seq, ca, ?_⟩
          generalize en : (ns.drop i).length - t.length = n at *
          have hn : i + n ≤ ns.length := by omega
          -- told.extend(with_count(answer(land, calls[at:at + length])))
          refine ⟨_, rfl, .inl ⟨rfl, _, SqL.of htd'⟩, _, rfl, _, rfl, _, rfl, _, rfl, _, rfl, _, rfl, _, _, rfl, rfl, _, rfl, c, _, rfl, fz.seq, fun q hq => ?_⟩
          rw [cutV_vi ns i n hn]
          have s4 : Same H' (upd H' q (.lst (vi ((ns.drop i).take n)))) := Same.new hq
          have e4 : upd H' q (.lst (vi ((ns.drop i).take n))) q = some (.lst (vi ((ns.drop i).take n))) := upd_same
          have nq := not_foot L hq
          generalize upd H' q (.lst (vi ((ns.drop i).take n))) = H4 at s4 e4 ⊢
          have L4 := L.same s4
          refine ⟨a, m, q, _, cc, s, rfl, L4, SqL.of e4, ca0, R, h1, h2, fun H5 a5 m5 r ep5 L5 R5 er fr => ?_⟩
          obtain ⟨t5, nt5⟩ := fr td _ (s4 _ _ htd') ntd
          have fz5 := (fz.same s4).frame L4 fr
          have sl := step_len s cc
          refine ⟨r, _, rfl, er, by omega, fun H6 pp hpp npp s6 => ?_⟩
          have t6 := s6 _ _ t5
          refine ⟨td, pp, _, _, rfl, rfl, t6, hpp, by rw [vi_len, vi_len, List.length_cons]; omega, ?_⟩
          -- at += length
          refine ⟨_, rfl, _, rfl, _, _, rfl, rfl, ?_⟩
          have L6 := L5.same s6
          have e7 : vi done ++ vi (((Kp155Neutral.step s cc).2.length : Int) :: (Kp155Neutral.step s cc).2) = vi (done ++ (((Kp155Neutral.step s cc).2.length : Int) :: (Kp155Neutral.step s cc).2)) := by unfold vi; rw [List.map_append]
          rw [e7]
          refine ⟨⟨i + n, some (.int (n : Int)), a5, m5, _, _, out', ?_, hn, ep5, ?_, R5, ?_, upd_same, ?_, ?_, nt5, (fz5.same s6).upd t6⟩, ?_⟩
          · have e8 : (i : Int) + (n : Int) = ((i + n : Nat) : Int) := by omega
            rw [← e8]
            rfl
          · have d := L6.d
            have nn : ∀ b ∈ foot a5, b ≠ td := fun b hb z => nt5 (by rw [← z]; exact hb)
            exact ⟨put_ne L6.ins (nn _ (by simp [foot])), put_ne L6.st (nn _ (by simp [foot])), put_ne L6.gr (nn _ (by simp [foot])), put_ne L6.rn (nn _ (by simp [foot])), put_ne L6.ws (nn _ (by simp [foot])), put_ne L6.w0 (nn _ (by simp [foot])), put_ne L6.w1 (nn _ (by simp [foot])), d⟩
          · rw [← List.drop_drop, td2]
            exact D'
          · rw [← hdr, ho, List.append_assoc]
          · rw [List.length_append, List.length_cons]
            omega
          · show ns.length - ((i : Int) + (n : Int)).toNat < ns.length - (i : Int).toNat
            omega
      · have g : ¬ (i : Int) < ((vi ns).length : Int) := fun z => g (decide_eq_true z)
        rw [vi_len] at g
        have ei : i = ns.length := by omega
        subst ei
        rw [List.drop_length] at D
        have e := D.nil
        subst e
        rw [List.append_nil] at hdr
        subst hdr
        exact ⟨_, rfl, k _ td htd'⟩
    · rintro σ H' Q1 Q2 hQ ⟨v1, h1, v2, h2, p', ys, h3, h4, i1, j1, h5, h6, b, h7, h8⟩
      exact ⟨v1, h1, v2, h2, p', ys, h3, h4, i1, j1, h5, h6, b, h7, hQ _ _ h8⟩
end
end Lw
end
section
set_option Elab.async false
set_option linter.all false
set_option maxRecDepth 100000
set_option maxHeartbeats 4000000
namespace Lw
open PySem PySem.Spec PyProof.Rows L2
/-! ### what the text has beside -/
structure Txt2 (P : Program) (w : World) (K : PySem.W.Frag) (mg : Str → Option Value) (C : Addr) : Prop extends Txt P w K mg C where
  c_START : ∃ t, mg "START" = some (.int 0 t)
  c_WORK : ∃ t, mg "WORK" = some (.int 1 t)
  c_TURN : ∃ t, mg "TURN" = some (.int 2 t)
  c_RAIN : ∃ t, mg "RAIN" = some (.int 3 t)
  c_CELL : ∃ t, mg "CELL" = some (.int 4 t)
  c_HIGHEST : ∃ t, mg "HIGHEST" = some (.int 5 t)
  c_NUMBER_ALONE : ∃ t, mg "NUMBER_ALONE" = some (.int 0 t)
  c_COUNTED : ∃ t, mg "COUNTED" = some (.int 1 t)
  d_LENGTHS : ∃ a, mg "LENGTHS" = some (.ref a) ∧ KD P w K a ([(1, 1), (2, 1), (3, 4), (4, 3), (5, 1), (6, 1)].map fun (p : Int × Int) => ((Sum.inl p.1 : Key), V.int p.2))
def spAlone : Sp := fun vs H Q _ => ∃ n : Int, vs = [.int n] ∧ ∀ (H' : Hp) (p : Addr), H' p = some (.lst (vi [0, n])) → H p = none → Same H H' → Q (.ref p) H'
def spCounted : Sp := fun vs H Q _ => ∃ (q : Addr) (l : List Int), vs = [.ref q] ∧ H q = some (.lst (vi l)) ∧ l.length ≤ 1000 ∧ ∀ (H' : Hp) (p : Addr), H' p = some (.lst (vi (1 :: (l.length : Int) :: l))) → H p = none → Same H H' → Q (.ref p) H'
/-- what wl_cell tells, its form ahead, by its call -/
def spCellC (K : PySem.W.Frag) (C : Addr) : Sp := fun vs H Q _ => ∃ (a : LA) (m : LM) (q : Addr) (x y : Nat), vs = [.ref a.p, .ref q] ∧ LandAt C H a m ∧ WF m ∧ SqL K H q (vi [4, (x : Int), (y : Int)]) ∧
  ∀ (H' : Hp) (r : Addr), H' r = some (.lst (vi (if m.width ≤ x ∨ m.height ≤ y then [0, -22] else [1, 2, atL m.ground (y * m.width + x), atL m.now (y * m.width + x)]))) → Same H H' → Q (.ref r) H'
/-- the number of wl_start, by its call -/
def spStartC (K : PySem.W.Frag) (C : Addr) : Sp := fun vs H Q _ => ∃ (a : LA) (m : LM) (q : Addr) (w h : Nat) (gs ws : List Int), vs = [.ref a.p, .ref q] ∧ LandAt C H a m ∧
  SqL K H q (vi (0 :: (w : Int) :: (h : Int) :: (gs.length : Int) :: (gs ++ ((ws.length : Int) :: ws)))) ∧ ((1 ≤ w ∧ w ≤ 64) → (1 ≤ h ∧ h ≤ 64) → 0 < gs.length) ∧
  ∀ (H' : Hp) (a' : LA), a'.p = a.p → LandAt C H' a' (startA m w h gs ws).1 → Frame H a H' a' → Q (.int (startA m w h gs ws).2) H'
section
variable {P : Program} {w : World} {K : PySem.W.Frag} {mg : Str → Option Value} {base : Heap} {f C : Addr} {fd : FuncData}
theorem ok_alone (F : Fun K "alone" "alone" s_alone f fd) (T : Txt2 P w K mg C) : FnOk P w K mg base CX0 1 f fd ["number"] spAlone := by
  refine F.ok sc_alone (fun vs H Q E h => ?_) (fun cdv A outer s H vs Q E hr h => ?_)
  · obtain ⟨n, rfl, _⟩ := h
    rfl
  · obtain ⟨n, rfl, k⟩ := h
    refine ⟨_, (pss_one (ps_ret (pe_lst (pa_cons (gi T.c_NUMBER_ALONE) (pa_cons (pv 0) pa_nil))))), ?_⟩
    have lz := line24
    exact ⟨_, rfl, by show 2 ≤ sizeLine; omega, fun p hp => k _ p upd_same hp (Same.new hp)⟩
theorem ok_counted (F : Fun K "counted" "counted" s_counted f fd) (T : Txt2 P w K mg C) (c_with_count : Cal P w K mg base 1 "with_count" ["numbers"] spCount) : FnOk P w K mg base CX0 2 f fd ["numbers"] spCounted := by
  refine F.ok sc_counted (fun vs H Q E h => ?_) (fun cdv A outer s H vs Q E hr h => ?_)
  · obtain ⟨q, l, rfl, _⟩ := h
    rfl
  · obtain ⟨q, l, rfl, hq, hl, k⟩ := h
    refine ⟨_, (pss_one (ps_ret (pe_op op_cat (pe_lst (pa_cons (gi T.c_COUNTED) pa_nil)) (pe_cal c_with_count (hr.mono (by decide)) (pa_cons (pv 0) pa_nil))))), ?_⟩
    have lz := line24
    refine ⟨by show 1 ≤ sizeLine; omega, fun t ht => ?_⟩
    have s1 : Same H (upd H t (.lst [.int 1])) := Same.new ht
    have e1 : upd H t (.lst [.int 1]) t = some (.lst [.int 1]) := upd_same
    generalize upd H t (.lst [.int 1]) = H1 at s1 e1 ⊢
    refine ⟨_, rfl, q, l, rfl, s1 _ _ hq, hl, fun H2 p hp np s2 => ?_⟩
    refine ⟨t, p, _, _, rfl, rfl, s2 _ _ e1, hp, by rw [vi_len, List.length_cons]; show 1 + (l.length + 1) ≤ sizeLine; omega, fun r hr => ?_⟩
    exact k _ r (by rw [upd_same]; rfl) ((s1.trans s2).free hr) ((s1.trans s2).trans (Same.new hr))
theorem ok_cell (F : Fun K "cell" "cell" s_cell f fd) (T : Txt2 P w K mg C) (m_wl_cell : MCal P w K mg base C 2 "wl_cell" ["self", "x", "y"] (spCell C)) (c_alone : Cal P w K mg base 1 "alone" ["number"] spAlone) (c_counted : Cal P w K mg base 2 "counted" ["numbers"] spCounted) :
    FnOk P w K mg base CX0 3 f fd ["land", "call"] (spCellC K C) := by
  refine F.ok sc_cell (fun vs H Q E h => ?_) (fun cdv A outer s H vs Q E hr h => ?_)
  · obtain ⟨a, m, q, x, y, rfl, _⟩ := h
    rfl
  · obtain ⟨a, m, q, x, y, rfl, L, W, hq, k⟩ := h
    refine ⟨_, (pss_cons (ps_set (i := 2) sc_cell.nd rfl (Or.inl rfl) (pe_mcal m_wl_cell T.cl (hr.mono (by decide)) (pv 0) (pa_cons (pe_ix ix_list (pv 1) pe_int (fun _ _ => rfl)) (pa_cons (pe_ix ix_list (pv 1) pe_int (fun _ _ => rfl)) pa_nil)))) (pss_cons (ps_if (pt_cmpR (op_eqD hr.units) (pv 2) (gi T.c_NOT_ALLOWED) (nomark _)) (pss_one (ps_ret (pe_cal c_alone (hr.mono (by decide)) (pa_cons (pv 2) pa_nil)))) pss_nil) (pss_one (ps_ret (pe_cal c_counted (hr.mono (by decide)) (pa_cons (pv 2) pa_nil)))))), ?_⟩
    refine ⟨_, rfl, a.p, a.dx, _, rfl, L.ins, rfl, _, rfl, q, _, _, _, rfl, rfl, hq, atI_nat (j := 1) rfl, _, rfl, q, _, _, _, rfl, rfl, hq, atI_nat (j := 2) rfl, ?_⟩
    refine ⟨a, m, x, y, rfl, L, W, fun c => ?_, fun c H1 p hp s1 => ?_⟩
    · refine ⟨_, rfl, .int (-22), .int (-22), .int _, .int _, by decide, by decide, _, rfl, ?_⟩
      have e : PyData.eqv (.int (-22)) (.int (-22)) = true := by decide
      rw [e]
      refine iteT ⟨_, rfl, _, rfl, fun H' r hr' _ sm => k H' r ?_ sm⟩
      rw [if_pos (by omega)]
      exact hr'
    · refine ⟨_, rfl, .list [.int (atL m.ground (y * m.width + x)), .int (atL m.now (y * m.width + x))], .int (-22), .lst (SqL.of hp) (.cons (.int _) (.cons (.int _) .nil)), .int _, rfl, by decide, _, rfl, ?_⟩
      have e : PyData.eqv (.list [.int (atL m.ground (y * m.width + x)), .int (atL m.now (y * m.width + x))]) (.int (-22)) = false := by rfl
      rw [e]
      refine iteF ⟨_, rfl, p, _, rfl, hp, by show 2 ≤ 1000; decide, fun H' r hr' _ sm => k H' r ?_ (s1.trans sm)⟩
      rw [if_neg (by omega)]
      exact hr'
theorem cut_mid (h t1 t2 : List Int) : cutV (vi (h ++ (t1 ++ t2))) (some (h.length : Int)) (some ((h.length : Int) + (t1.length : Int))) = vi t1 := by
  rw [cutV_vi _ _ _ (by rw [List.length_append, List.length_append]; omega), List.drop_left' rfl, List.take_left' rfl]
theorem cut_end (h t : List Int) : cutV (vi (h ++ t)) (some (h.length : Int)) none = vi t := by
  unfold cutV
  rw [HT.sIx_nat, HT.sIx_none, vi_len, List.length_append, Nat.min_eq_left (by omega)]
  have e : h.length + t.length - h.length = t.length := by omega
  rw [e]
  unfold vi
  rw [← List.map_drop, List.drop_left' rfl, List.take_of_length_le (by simp)]
theorem ok_start (F : Fun K "start" "start" s_start f fd) (T : Txt2 P w K mg C) (m_wl_start : MCal P w K mg base C 2 "wl_start" ["self", "width", "height", "ground", "water"] (spStart K C)) : FnOk P w K mg base CX0 3 f fd ["land", "call"] (spStartC K C) := by
  refine F.ok sc_start (fun vs H Q E h => ?_) (fun cdv A outer s H vs Q E hr h => ?_)
  · obtain ⟨a, m, q, wd, ht, gs, ws, rfl, _⟩ := h
    rfl
  · obtain ⟨a, m, q, wd, ht, gs, ws, rfl, L, hq, hne, k⟩ := h
    refine ⟨_, (pss_cons (ps_set (i := 2) sc_start.nd rfl (Or.inl rfl) (pe_op op_add pe_int (pe_ix ix_list (pv 1) pe_int (fun _ _ => rfl)))) (pss_one (ps_ret (pe_mcal m_wl_start T.cl (hr.mono (by decide)) (pv 0) (pa_cons (pe_ix ix_list (pv 1) pe_int (fun _ _ => rfl)) (pa_cons (pe_ix ix_list (pv 1) pe_int (fun _ _ => rfl)) (pa_cons (pe_slice sl_list (pv 1) (po_some pe_int) (po_some (pv 2))) (pa_cons (pe_slice sl_list (pv 1) (po_some (pe_op op_add (pv 2) pe_int)) po_none) pa_nil)))))))), ?_⟩
    refine ⟨_, rfl, q, _, _, _, rfl, rfl, hq, atI_nat (j := 3) rfl, _, _, rfl, rfl, ?_⟩
    refine ⟨_, rfl, a.p, a.dx, _, rfl, L.ins, rfl, ?_⟩
    refine ⟨_, rfl, q, _, _, _, rfl, rfl, hq, atI_nat (j := 1) rfl, ?_⟩
    refine ⟨_, rfl, q, _, _, _, rfl, rfl, hq, atI_nat (j := 2) rfl, ?_⟩
    have c1 := cut_mid [0, (wd : Int), (ht : Int), (gs.length : Int)] gs ((ws.length : Int) :: ws)
    have c2 := cut_end ([0, (wd : Int), (ht : Int), (gs.length : Int)] ++ (gs ++ [(ws.length : Int)])) ws
    refine ⟨_, rfl, _, rfl, _, rfl, _, rfl, q, _, rfl, hq, fun g hg => ?_⟩
    have eg : cutV (vi (0 :: (wd : Int) :: (ht : Int) :: (gs.length : Int) :: (gs ++ ((ws.length : Int) :: ws)))) (some 4) (some ((4 : Int) + (gs.length : Int))) = vi gs := c1
    rw [eg]
    have s1 : Same H (upd H g (.lst (vi gs))) := Same.new hg
    have e1 : upd H g (.lst (vi gs)) g = some (.lst (vi gs)) := upd_same
    generalize upd H g (.lst (vi gs)) = H1 at s1 e1 ⊢
    refine ⟨_, rfl, _, rfl, _, _, rfl, rfl, _, rfl, q, _, rfl, s1.seq hq, fun wt hwt => ?_⟩
    have ew : cutV (vi (0 :: (wd : Int) :: (ht : Int) :: (gs.length : Int) :: (gs ++ ((ws.length : Int) :: ws)))) (some ((4 : Int) + (gs.length : Int) + 1)) none = vi ws := by
      rw [← c2]
      congr 1
      · simp
      · exact congrArg some (by simp only [List.length_append, List.length_cons, List.length_nil]; omega)
    rw [ew]
    have s2 : Same H1 (upd H1 wt (.lst (vi ws))) := Same.new hwt
    have e2 : upd H1 wt (.lst (vi ws)) wt = some (.lst (vi ws)) := upd_same
    generalize upd H1 wt (.lst (vi ws)) = H2 at s2 e2 ⊢
    have s3 := s1.trans s2
    exact ⟨a, m, g, wt, wd, ht, gs, ws, rfl, L.same s3, SqL.of (s2 _ _ e1), SqL.of e2, hne, fun H' a' ep L' fr => k H' a' ep L' ((Frame.same s3).trans fr)⟩
theorem drop_at {ns l : List Int} {i j : Nat} {v : Int} (e : ns.drop i = l) (h : l[j]? = some v) : ns[i + j]? = some v := by
  rw [← e, List.getElem?_drop] at h
  exact h
theorem V_dec {a b : Int} : decide (V.int a = V.int b) = decide (a = b) := by
  by_cases h : a = b
  · rw [h]; simp
  · rw [decide_eq_false h, decide_eq_false (fun z => h (V.int.inj z))]
theorem ok_call_length (F : Fun K "call_length" "call_length" s_call_length f fd) (T : Txt2 P w K mg C) : FnOk P w K mg base CX0 1 f fd ["calls", "at"] (spLength K) := by
  refine F.ok sc_call_length (fun vs H Q E h => ?_) (fun cdv A outer s H vs Q E hr h => ?_)
  · obtain ⟨q, ns, i, c, t, rfl, _⟩ := h
    rfl
  · obtain ⟨q, ns, i, c, t, rfl, hq, ca, k⟩ := h
    refine ⟨_, (pss_cons (ps_if (pt_cmpR op_eq (pe_ix ix_list (pv 0) (pv 1) (fun _ _ => rfl)) (gi T.c_START) (nomark _)) (pss_cons (ps_set (i := 2) sc_call_length.nd rfl (Or.inl rfl) (pe_op op_add pe_int (pe_ix ix_list (pv 0) (pe_op op_add (pv 1) pe_int) (fun _ _ => rfl)))) (pss_one (ps_ret (pe_op op_add (pe_op op_add (pv 2) pe_int) (pe_ix ix_list (pv 0) (pe_op op_add (pv 1) (pv 2)) (fun _ _ => rfl)))))) pss_nil) (pss_one (ps_ret (pe_kd T.d_LENGTHS (pe_ix ix_list (pv 0) (pv 1) (fun _ _ => rfl)) (fun _ _ => rfl))))), ?_⟩
    have lens : ∀ {l t : List Int} {n : Nat}, l.length = n + t.length → l.length - t.length = n := fun h => by omega
    have at0 : ∀ {p : Int} {l : List Int}, ns.drop i = p :: l → atI (vi ns) (i : Int) = some (V.int p) := fun e => atI_nat (vi_at (drop_at (j := 0) e rfl))
    have two : (∃ (p n : Int) (l : List Int), ns.drop i = p :: l ∧ p ≠ 0 ∧ valV ([(1, 1), (2, 1), (3, 4), (4, 3), (5, 1), (6, 1)].map fun (p : Int × Int) => ((Sum.inl p.1 : Key), V.int p.2)) (Sum.inl p) = some (V.int n) ∧ Q (.int n) H) ∨
        ∃ (wd ht : Int) (g wt t : List Int), ns.drop i = 0 :: wd :: ht :: (g.length : Int) :: (g ++ ((wt.length : Int) :: (wt ++ t))) ∧ Q (.int ((4 : Int) + (g.length : Int) + 1 + (wt.length : Int))) H := by
      generalize ns.drop i = l at ca k
      cases ca with
      | start wd ht g wt t =>
        refine .inr ⟨wd, ht, g, wt, t, rfl, ?_⟩
        have e : (((0 :: wd :: ht :: (g.length : Int) :: (g ++ ((wt.length : Int) :: (wt ++ t)))).length - t.length : Nat) : Int) = (4 : Int) + (g.length : Int) + 1 + (wt.length : Int) := by
          simp only [List.length_cons, List.length_append]
          omega
        rw [e] at k
        exact k
      | work t => exact .inl ⟨1, 1, t, rfl, by decide, rfl, by rw [lens (n := 1) (by rw [List.length_cons]; omega)] at k; exact k⟩
      | turn t => exact .inl ⟨2, 1, t, rfl, by decide, rfl, by rw [lens (n := 1) (by rw [List.length_cons]; omega)] at k; exact k⟩
      | rain x y z t => exact .inl ⟨3, 4, _, rfl, by decide, rfl, by rw [lens (n := 4) (by simp only [List.length_cons]; omega)] at k; exact k⟩
      | cell x y t => exact .inl ⟨4, 3, _, rfl, by decide, rfl, by rw [lens (n := 3) (by simp only [List.length_cons]; omega)] at k; exact k⟩
      | highest t => exact .inl ⟨5, 1, t, rfl, by decide, rfl, by rw [lens (n := 1) (by rw [List.length_cons]; omega)] at k; exact k⟩
      | still t => exact .inl ⟨6, 1, t, rfl, by decide, rfl, by rw [lens (n := 1) (by rw [List.length_cons]; omega)] at k; exact k⟩
    rcases two with ⟨p, n, l, e, np, hv, kq⟩ | ⟨wd, ht, g, wt, t', el, k'⟩
    · refine ⟨_, rfl, _, rfl, q, _, _, _, rfl, rfl, hq, at0 e, rfl, _, rfl, ?_⟩
      rw [V_dec, decide_eq_false np]
      exact iteF ⟨_, rfl, _, rfl, q, _, _, _, rfl, rfl, hq, at0 e, Sum.inl p, _, rfl, hv, kq⟩
    · have i3 : atI (vi ns) ((i : Int) + 3) = some (V.int (g.length : Int)) := atI_nat (vi_at (drop_at (j := 3) el rfl))
      have i4 : atI (vi ns) ((i : Int) + ((4 : Int) + (g.length : Int))) = some (V.int (wt.length : Int)) := by
        have e0 : (i : Int) + ((4 : Int) + (g.length : Int)) = ((i + (4 + g.length) : Nat) : Int) := by omega
        rw [e0]
        refine atI_nat (vi_at (drop_at (j := 4 + g.length) el ?_))
        rw [Nat.add_comm 4 g.length]
        show (g ++ (wt.length : Int) :: (wt ++ t'))[g.length]? = _
        rw [List.getElem?_append_right (Nat.le_refl _), Nat.sub_self]
        rfl
      refine ⟨_, rfl, _, rfl, q, _, _, _, rfl, rfl, hq, at0 el, rfl, _, rfl, iteT ?_⟩
      refine ⟨_, rfl, _, rfl, _, _, rfl, rfl, q, _, _, _, rfl, rfl, hq, i3, _, _, rfl, rfl, ?_⟩
      exact ⟨_, rfl, _, _, rfl, rfl, _, rfl, _, rfl, _, rfl, _, _, rfl, rfl, q, _, _, _, rfl, rfl, hq, i4, _, _, rfl, rfl, k'⟩
theorem start_rs {s : Kp155Neutral.S} {m : LM} (R : RS s m) {wd ht : Int} {g wt : List Int} (ha : Kp155Neutral.asked1 [[0, wd, ht], g, wt] = true) :
    (Kp155Neutral.step s [[0, wd, ht], g, wt]).2 = [0, (startA m wd.toNat ht.toNat g wt).2] ∧ RS (Kp155Neutral.step s [[0, wd, ht], g, wt]).1 (startA m wd.toNat ht.toNat g wt).1 ∧ 0 ≤ wd ∧ 0 ≤ ht ∧
    ((1 ≤ wd.toNat ∧ wd.toNat ≤ 64) → (1 ≤ ht.toNat ∧ ht.toNat ≤ 64) → 0 < g.length) := by
  obtain ⟨h1, h2, h3, h4, h5, h6, h7, h8⟩ := step_start R ha
  have hne : (1 ≤ wd.toNat ∧ wd.toNat ≤ 64) → (1 ≤ ht.toNat ∧ ht.toNat ≤ 64) → 0 < g.length := fun a b => by
    rw [h6, if_pos ((okSize_iff _ _).mpr ⟨a, b⟩)]
    exact Nat.mul_pos (by omega) (by omega)
  unfold startA
  by_cases c : startOk wd.toNat ht.toNat g wt
  · obtain ⟨b', e, r⟩ := h7 c
    rw [if_pos c, e]
    exact ⟨rfl, r, h1.1, h2.1, hne⟩
  · obtain ⟨s', e, r⟩ := h8 c
    rw [if_neg c, e]
    exact ⟨rfl, r, h1.1, h2.1, hne⟩
theorem may_some {s : Kp155Neutral.S} {c : List (List Int)} (h : Kp155Neutral.may s c = true) (ho : Kp155Neutral.opens c = false) : ∃ b, s = some b := by
  unfold Kp155Neutral.may at h
  rw [ho, Bool.or_false] at h
  cases s with
  | none => cases h
  | some b => exact ⟨b, rfl⟩
theorem asked3 {x y k : Int} (h : Kp155Neutral.asked1 [[3, x, y, k]] = true) : 0 ≤ x ∧ 0 ≤ y ∧ 0 ≤ k := by
  unfold Kp155Neutral.asked1 Kp155Neutral.natural at h
  simp only [Bool.and_eq_true, decide_eq_true_eq] at h
  exact ⟨h.1.1, h.2.1.1, h.2.2.1⟩
theorem asked4 {x y : Int} (h : Kp155Neutral.asked1 [[4, x, y]] = true) : 0 ≤ x ∧ 0 ≤ y := by
  unfold Kp155Neutral.asked1 Kp155Neutral.natural at h
  simp only [Bool.and_eq_true, decide_eq_true_eq] at h
  exact ⟨h.1.1, h.2.1⟩
/-- the numbers that are answered alone, behind a method -/
theorem fin_alone {Q : VK} {H H1 : Hp} {a a1 : LA} {m1 : LM} {s s' : Kp155Neutral.S} {c : List (List Int)} {v : Int}
    (k : ∀ (H' : Hp) (a' : LA) (m' : LM) (r : Addr), a'.p = a.p → LandAt C H' a' m' → RS (Kp155Neutral.step s c).1 m' → H' r = some (.lst (vi (Kp155Neutral.step s c).2)) → Frame H a H' a' → Q (.ref r) H')
    (ep : a1.p = a.p) (L1 : LandAt C H1 a1 m1) (fr : Frame H a H1 a1) (es : Kp155Neutral.step s c = (s', [0, v])) (R1 : RS s' m1) : spAlone [.int v] H1 Q E0 :=
  ⟨v, rfl, fun H' p hp _ sm => k H' a1 m1 p ep (L1.same sm) (by rw [es]; exact R1) (by rw [es]; exact hp) (fr.trans (Frame.same sm))⟩
/-- a list that is answered, nothing changed -/
theorem fin_same {Q : VK} {H : Hp} {a : LA} {m : LM} {s : Kp155Neutral.S} {c : List (List Int)} {l : List Int}
    (k : ∀ (H' : Hp) (a' : LA) (m' : LM) (r : Addr), a'.p = a.p → LandAt C H' a' m' → RS (Kp155Neutral.step s c).1 m' → H' r = some (.lst (vi (Kp155Neutral.step s c).2)) → Frame H a H' a' → Q (.ref r) H')
    (L : LandAt C H a m) (es : Kp155Neutral.step s c = (s, l)) (R : RS s m) {H' : Hp} {r : Addr} (hr : H' r = some (.lst (vi l))) (sm : Same H H') : Q (.ref r) H' :=
  k H' a m r rfl (L.same sm) (by rw [es]; exact R) (by rw [es]; exact hr) (Frame.same sm)
theorem ok_answer (F : Fun K "answer" "answer" s_answer f fd) (T : Txt2 P w K mg C) (c_alone : Cal P w K mg base 1 "alone" ["number"] spAlone) (c_start : Cal P w K mg base 3 "start" ["land", "call"] (spStartC K C))
    (m_wl_work : MCal P w K mg base C 5 "wl_work" ["self"] (spWork C)) (m_wl_turn : MCal P w K mg base C 3 "wl_turn" ["self"] (spTurn C)) (m_wl_rain : MCal P w K mg base C 2 "wl_rain" ["self", "x", "y", "k"] (spRain C))
    (c_cell : Cal P w K mg base 3 "cell" ["land", "call"] (spCellC K C)) (c_counted : Cal P w K mg base 2 "counted" ["numbers"] spCounted) (m_wl_highest : MCal P w K mg base C 2 "wl_highest" ["self"] (spHigh C)) (m_wl_still : MCal P w K mg base C 2 "wl_still" ["self"] (spStill C)) :
    FnOk P w K mg base CX0 6 f fd ["land", "call"] (spAnswer K C) := by
  refine F.ok sc_answer (fun vs H Q E h => ?_) (fun cdv A outer s H vs Q E hr h => ?_)
  · obtain ⟨a, m, q, l, c, s, rfl, _⟩ := h
    rfl
  · obtain ⟨a, m, q, l, c, s, rfl, L, hq, ca, R, ha, hm, k⟩ := h
    refine ⟨_, (pss_cons (ps_if (pt_cmpR op_eq (pe_ix ix_list (pv 1) pe_int (fun _ _ => rfl)) (gi T.c_START) (nomark _)) (pss_one (ps_ret (pe_cal c_alone (hr.mono (by decide)) (pa_cons (pe_cal c_start (hr.mono (by decide)) (pa_cons (pv 0) (pa_cons (pv 1) pa_nil))) pa_nil)))) pss_nil) (pss_cons (ps_if (pt_cmpR op_eq (pe_ix ix_list (pv 1) pe_int (fun _ _ => rfl)) (gi T.c_WORK) (nomark _)) (pss_one (ps_ret (pe_cal c_alone (hr.mono (by decide)) (pa_cons (pe_mcal0 m_wl_work T.cl (hr.mono (by decide)) (pv 0)) pa_nil)))) pss_nil) (pss_cons (ps_if (pt_cmpR op_eq (pe_ix ix_list (pv 1) pe_int (fun _ _ => rfl)) (gi T.c_TURN) (nomark _)) (pss_one (ps_ret (pe_cal c_alone (hr.mono (by decide)) (pa_cons (pe_mcal0 m_wl_turn T.cl (hr.mono (by decide)) (pv 0)) pa_nil)))) pss_nil) (pss_cons (ps_if (pt_cmpR op_eq (pe_ix ix_list (pv 1) pe_int (fun _ _ => rfl)) (gi T.c_RAIN) (nomark _)) (pss_one (ps_ret (pe_cal c_alone (hr.mono (by decide)) (pa_cons (pe_mcal m_wl_rain T.cl (hr.mono (by decide)) (pv 0) (pa_cons (pe_ix ix_list (pv 1) pe_int (fun _ _ => rfl)) (pa_cons (pe_ix ix_list (pv 1) pe_int (fun _ _ => rfl)) (pa_cons (pe_ix ix_list (pv 1) pe_int (fun _ _ => rfl)) pa_nil)))) pa_nil)))) pss_nil) (pss_cons (ps_if (pt_cmpR op_eq (pe_ix ix_list (pv 1) pe_int (fun _ _ => rfl)) (gi T.c_CELL) (nomark _)) (pss_one (ps_ret (pe_cal c_cell (hr.mono (by decide)) (pa_cons (pv 0) (pa_cons (pv 1) pa_nil))))) pss_nil) (pss_cons (ps_if (pt_cmpR op_eq (pe_ix ix_list (pv 1) pe_int (fun _ _ => rfl)) (gi T.c_HIGHEST) (nomark _)) (pss_one (ps_ret (pe_cal c_counted (hr.mono (by decide)) (pa_cons (pe_lst (pa_cons (pe_mcal0 m_wl_highest T.cl (hr.mono (by decide)) (pv 0)) pa_nil)) pa_nil)))) pss_nil) (pss_one (ps_ret (pe_cal c_alone (hr.mono (by decide)) (pa_cons (pe_mcal0 m_wl_still T.cl (hr.mono (by decide)) (pv 0)) pa_nil)))))))))), ?_⟩
    have ne : ∀ {p n : Int}, p ≠ n → decide (V.int p = V.int n) = false := fun h => by rw [V_dec, decide_eq_false h]
    have W := R.wf
    cases ca with
    | start wd ht g wt t =>
      obtain ⟨r1, r2, r3, r4, r5⟩ := start_rs R ha
      obtain ⟨wn, rfl⟩ : ∃ n : Nat, wd = (n : Int) := ⟨wd.toNat, by omega⟩
      obtain ⟨hn, rfl⟩ : ∃ n : Nat, ht = (n : Int) := ⟨ht.toNat, by omega⟩
      rw [Int.toNat_natCast, Int.toNat_natCast] at r1 r2 r5
      refine ⟨_, rfl, q, _, _, _, rfl, rfl, hq, atI_nat (j := 0) rfl, rfl, _, rfl, iteT ?_⟩
      refine ⟨_, rfl, _, rfl, a, m, q, wn, hn, g, wt, rfl, L, by rw [List.append_nil] at hq; exact hq, r5, fun H' a' ep L' fr => ?_⟩
      exact fin_alone k ep L' fr (by rw [← r1]) r2
    | work t =>
      obtain ⟨b, rfl⟩ := may_some hm rfl
      obtain ⟨b', es, R'⟩ := step_work R
      refine ⟨_, rfl, q, _, _, _, rfl, rfl, hq, atI_nat (j := 0) rfl, rfl, _, rfl, ?_⟩
      rw [ne (by decide)]
      refine iteF ⟨_, rfl, q, _, _, _, rfl, rfl, hq, atI_nat (j := 0) rfl, rfl, _, rfl, iteT ?_⟩
      exact ⟨_, rfl, a.p, a.dx, _, rfl, L.ins, rfl, a, m, rfl, L, W, fun H' a' ep L' fr => fin_alone k ep L' fr es R'⟩
    | turn t =>
      obtain ⟨b, rfl⟩ := may_some hm rfl
      obtain ⟨b', es, R'⟩ := step_turn R
      refine ⟨_, rfl, q, _, _, _, rfl, rfl, hq, atI_nat (j := 0) rfl, rfl, _, rfl, ?_⟩
      rw [ne (by decide)]
      refine iteF ⟨_, rfl, q, _, _, _, rfl, rfl, hq, atI_nat (j := 0) rfl, rfl, _, rfl, ?_⟩
      rw [ne (by decide)]
      refine iteF ⟨_, rfl, q, _, _, _, rfl, rfl, hq, atI_nat (j := 0) rfl, rfl, _, rfl, iteT ?_⟩
      exact ⟨_, rfl, a.p, a.dx, _, rfl, L.ins, rfl, a, m, rfl, L, W, fun H' a' ep L' fr => fin_alone k ep L' fr es R'⟩
    | rain x y z t =>
      obtain ⟨b, rfl⟩ := may_some hm rfl
      obtain ⟨hx, hy, hz⟩ := asked3 ha
      obtain ⟨b', es, R'⟩ := step_rain R hx hy hz
      obtain ⟨xn, rfl⟩ : ∃ n : Nat, x = (n : Int) := ⟨x.toNat, by omega⟩
      obtain ⟨yn, rfl⟩ : ∃ n : Nat, y = (n : Int) := ⟨y.toNat, by omega⟩
      rw [Int.toNat_natCast, Int.toNat_natCast] at es R'
      refine ⟨_, rfl, q, _, _, _, rfl, rfl, hq, atI_nat (j := 0) rfl, rfl, _, rfl, ?_⟩
      rw [ne (by decide)]
      refine iteF ⟨_, rfl, q, _, _, _, rfl, rfl, hq, atI_nat (j := 0) rfl, rfl, _, rfl, ?_⟩
      rw [ne (by decide)]
      refine iteF ⟨_, rfl, q, _, _, _, rfl, rfl, hq, atI_nat (j := 0) rfl, rfl, _, rfl, ?_⟩
      rw [ne (by decide)]
      refine iteF ⟨_, rfl, q, _, _, _, rfl, rfl, hq, atI_nat (j := 0) rfl, rfl, _, rfl, iteT ?_⟩
      refine ⟨_, rfl, a.p, a.dx, _, rfl, L.ins, rfl, ?_⟩
      refine ⟨_, rfl, q, _, _, _, rfl, rfl, hq, atI_nat (j := 1) rfl, _, rfl, q, _, _, _, rfl, rfl, hq, atI_nat (j := 2) rfl, _, rfl, q, _, _, _, rfl, rfl, hq, atI_nat (j := 3) rfl, ?_⟩
      exact ⟨a, m, xn, yn, z, rfl, L, W, fun H' a' ep L' fr => fin_alone k ep L' fr es R'⟩
    | cell x y t =>
      obtain ⟨b, rfl⟩ := may_some hm rfl
      obtain ⟨hx, hy⟩ := asked4 ha
      have es := step_cell R hx hy
      obtain ⟨xn, rfl⟩ : ∃ n : Nat, x = (n : Int) := ⟨x.toNat, by omega⟩
      obtain ⟨yn, rfl⟩ : ∃ n : Nat, y = (n : Int) := ⟨y.toNat, by omega⟩
      rw [Int.toNat_natCast, Int.toNat_natCast] at es
      refine ⟨_, rfl, q, _, _, _, rfl, rfl, hq, atI_nat (j := 0) rfl, rfl, _, rfl, ?_⟩
      rw [ne (by decide)]
      refine iteF ⟨_, rfl, q, _, _, _, rfl, rfl, hq, atI_nat (j := 0) rfl, rfl, _, rfl, ?_⟩
      rw [ne (by decide)]
      refine iteF ⟨_, rfl, q, _, _, _, rfl, rfl, hq, atI_nat (j := 0) rfl, rfl, _, rfl, ?_⟩
      rw [ne (by decide)]
      refine iteF ⟨_, rfl, q, _, _, _, rfl, rfl, hq, atI_nat (j := 0) rfl, rfl, _, rfl, ?_⟩
      rw [ne (by decide)]
      refine iteF ⟨_, rfl, q, _, _, _, rfl, rfl, hq, atI_nat (j := 0) rfl, rfl, _, rfl, iteT ?_⟩
      exact ⟨_, rfl, _, rfl, a, m, q, xn, yn, rfl, L, W, hq, fun H' r hr' sm => fin_same k L es R hr' sm⟩
    | highest t =>
      obtain ⟨b, rfl⟩ := may_some hm rfl
      have es := step_highest b
      have lz := line24
      refine ⟨_, rfl, q, _, _, _, rfl, rfl, hq, atI_nat (j := 0) rfl, rfl, _, rfl, ?_⟩
      rw [ne (by decide)]
      refine iteF ⟨_, rfl, q, _, _, _, rfl, rfl, hq, atI_nat (j := 0) rfl, rfl, _, rfl, ?_⟩
      rw [ne (by decide)]
      refine iteF ⟨_, rfl, q, _, _, _, rfl, rfl, hq, atI_nat (j := 0) rfl, rfl, _, rfl, ?_⟩
      rw [ne (by decide)]
      refine iteF ⟨_, rfl, q, _, _, _, rfl, rfl, hq, atI_nat (j := 0) rfl, rfl, _, rfl, ?_⟩
      rw [ne (by decide)]
      refine iteF ⟨_, rfl, q, _, _, _, rfl, rfl, hq, atI_nat (j := 0) rfl, rfl, _, rfl, ?_⟩
      rw [ne (by decide)]
      refine iteF ⟨_, rfl, q, _, _, _, rfl, rfl, hq, atI_nat (j := 0) rfl, rfl, _, rfl, iteT ?_⟩
      refine ⟨_, rfl, a.p, a.dx, _, rfl, L.ins, rfl, a, m, rfl, L, W, fun M H1 hM s1 => ?_⟩
      have eM : ((Kp155.highest b : Nat) : Int) = M := by
        rcases hM with ⟨e, rfl⟩ | ⟨h1, h2⟩
        · exact Rel.highest_none R e
        · exact Rel.highest_max R h1 h2
      rw [eM] at es
      refine ⟨by show 1 ≤ sizeLine; omega, fun p hp => ?_⟩
      exact ⟨p, [M], rfl, upd_same, by show 1 ≤ 1000; decide, fun H' r hr' _ sm => fin_same k L es R hr' (s1.trans ((Same.new hp).trans sm))⟩
    | still t =>
      obtain ⟨b, rfl⟩ := may_some hm rfl
      have es := step_still b
      have w1 : 1 ≤ m.width := by rw [Rel.wd R]; exact Rel.w1 R
      have h1 : 1 ≤ m.height := by rw [Rel.ht R]; exact Rel.h1 R
      refine ⟨_, rfl, q, _, _, _, rfl, rfl, hq, atI_nat (j := 0) rfl, rfl, _, rfl, ?_⟩
      rw [ne (by decide)]
      refine iteF ⟨_, rfl, q, _, _, _, rfl, rfl, hq, atI_nat (j := 0) rfl, rfl, _, rfl, ?_⟩
      rw [ne (by decide)]
      refine iteF ⟨_, rfl, q, _, _, _, rfl, rfl, hq, atI_nat (j := 0) rfl, rfl, _, rfl, ?_⟩
      rw [ne (by decide)]
      refine iteF ⟨_, rfl, q, _, _, _, rfl, rfl, hq, atI_nat (j := 0) rfl, rfl, _, rfl, ?_⟩
      rw [ne (by decide)]
      refine iteF ⟨_, rfl, q, _, _, _, rfl, rfl, hq, atI_nat (j := 0) rfl, rfl, _, rfl, ?_⟩
      rw [ne (by decide)]
      refine iteF ⟨_, rfl, q, _, _, _, rfl, rfl, hq, atI_nat (j := 0) rfl, rfl, _, rfl, ?_⟩
      rw [ne (by decide)]
      refine iteF ⟨_, rfl, a.p, a.dx, _, rfl, L.ins, rfl, a, m, rfl, L, W, w1, h1, fun st H' sm => ?_, fun st H' sm => ?_⟩
      · rw [if_pos ((Rel.still_lists R).mpr st)] at es
        exact fin_alone k rfl (L.same sm) (Frame.same sm) es R
      · rw [if_neg (fun z => st ((Rel.still_lists R).mp z))] at es
        exact fin_alone k rfl (L.same sm) (Frame.same sm) es R
end
end Lw
end
section
set_option Elab.async false
set_option linter.all false
set_option maxRecDepth 100000
set_option maxHeartbeats 4000000
namespace Lw
open PySem PySem.Spec PyProof.Rows L2
theorem all_mk {P : Program} {w : World} {K : PySem.W.Frag} {h : Heap} {mg : Str → Option Value} {fa C : Addr} (X : K.In h) (G : h.Ns mainGlobals mg) (hfa : mg "answers" = some (.ref fa))
    {f_level : Addr} {od_level an_level : Option Addr} {sl_level : Array (Option Value)} {oc_level kV_level dc_level pm_level cd_level ct_level : Value}
    {f_flow : Addr} {od_flow an_flow : Option Addr} {sl_flow : Array (Option Value)} {oc_flow kV_flow dc_flow pm_flow cd_flow ct_flow : Value}
    {f_flow_down : Addr} {od_flow_down an_flow_down : Option Addr} {sl_flow_down : Array (Option Value)} {oc_flow_down kV_flow_down dc_flow_down pm_flow_down cd_flow_down ct_flow_down : Value}
    {f_flows_among : Addr} {od_flows_among an_flows_among : Option Addr} {sl_flows_among : Array (Option Value)} {oc_flows_among kV_flows_among dc_flows_among pm_flows_among cd_flows_among ct_flows_among : Value}
    {f_is_side : Addr} {od_is_side an_is_side : Option Addr} {sl_is_side : Array (Option Value)} {oc_is_side kV_is_side dc_is_side pm_is_side cd_is_side ct_is_side : Value}
    {f_init : Addr} {od_init an_init : Option Addr} {sl_init : Array (Option Value)} {oc_init kV_init dc_init pm_init cd_init ct_init : Value}
    {f_lay : Addr} {od_lay an_lay : Option Addr} {sl_lay : Array (Option Value)} {oc_lay kV_lay dc_lay pm_lay cd_lay ct_lay : Value}
    {f_wl_start : Addr} {od_wl_start an_wl_start : Option Addr} {sl_wl_start : Array (Option Value)} {oc_wl_start kV_wl_start dc_wl_start pm_wl_start cd_wl_start ct_wl_start : Value}
    {f_wl_work : Addr} {od_wl_work an_wl_work : Option Addr} {sl_wl_work : Array (Option Value)} {oc_wl_work kV_wl_work dc_wl_work pm_wl_work cd_wl_work ct_wl_work : Value}
    {f_wl_turn : Addr} {od_wl_turn an_wl_turn : Option Addr} {sl_wl_turn : Array (Option Value)} {oc_wl_turn kV_wl_turn dc_wl_turn pm_wl_turn cd_wl_turn ct_wl_turn : Value}
    {f_wl_rain : Addr} {od_wl_rain an_wl_rain : Option Addr} {sl_wl_rain : Array (Option Value)} {oc_wl_rain kV_wl_rain dc_wl_rain pm_wl_rain cd_wl_rain ct_wl_rain : Value}
    {f_wl_cell : Addr} {od_wl_cell an_wl_cell : Option Addr} {sl_wl_cell : Array (Option Value)} {oc_wl_cell kV_wl_cell dc_wl_cell pm_wl_cell cd_wl_cell ct_wl_cell : Value}
    {f_wl_highest : Addr} {od_wl_highest an_wl_highest : Option Addr} {sl_wl_highest : Array (Option Value)} {oc_wl_highest kV_wl_highest dc_wl_highest pm_wl_highest cd_wl_highest ct_wl_highest : Value}
    {f_wl_still : Addr} {od_wl_still an_wl_still : Option Addr} {sl_wl_still : Array (Option Value)} {oc_wl_still kV_wl_still dc_wl_still pm_wl_still cd_wl_still ct_wl_still : Value}
    {f_has : Addr} {od_has an_has : Option Addr} {sl_has : Array (Option Value)} {oc_has kV_has dc_has pm_has cd_has ct_has : Value}
    {f_water_now : Addr} {od_water_now an_water_now : Option Addr} {sl_water_now : Array (Option Value)} {oc_water_now kV_water_now dc_water_now pm_water_now cd_water_now ct_water_now : Value}
    {f_water_coming : Addr} {od_water_coming an_water_coming : Option Addr} {sl_water_coming : Array (Option Value)} {oc_water_coming kV_water_coming dc_water_coming pm_water_coming cd_water_coming ct_water_coming : Value}
    {f_place : Addr} {od_place an_place : Option Addr} {sl_place : Array (Option Value)} {oc_place kV_place dc_place pm_place cd_place ct_place : Value}
    {f_beside : Addr} {od_beside an_beside : Option Addr} {sl_beside : Array (Option Value)} {oc_beside kV_beside dc_beside pm_beside cd_beside ct_beside : Value}
    {f_do_row : Addr} {od_do_row an_do_row : Option Addr} {sl_do_row : Array (Option Value)} {oc_do_row kV_do_row dc_do_row pm_do_row cd_do_row ct_do_row : Value}
    {f_with_inflow : Addr} {od_with_inflow an_with_inflow : Option Addr} {sl_with_inflow : Array (Option Value)} {oc_with_inflow kV_with_inflow dc_with_inflow pm_with_inflow cd_with_inflow ct_with_inflow : Value}
    {f_let_rain_fall : Addr} {od_let_rain_fall an_let_rain_fall : Option Addr} {sl_let_rain_fall : Array (Option Value)} {oc_let_rain_fall kV_let_rain_fall dc_let_rain_fall pm_let_rain_fall cd_let_rain_fall ct_let_rain_fall : Value}
    {f_answers : Addr} {od_answers an_answers : Option Addr} {sl_answers : Array (Option Value)} {oc_answers kV_answers dc_answers pm_answers cd_answers ct_answers : Value}
    {f_call_length : Addr} {od_call_length an_call_length : Option Addr} {sl_call_length : Array (Option Value)} {oc_call_length kV_call_length dc_call_length pm_call_length cd_call_length ct_call_length : Value}
    {f_answer : Addr} {od_answer an_answer : Option Addr} {sl_answer : Array (Option Value)} {oc_answer kV_answer dc_answer pm_answer cd_answer ct_answer : Value}
    {f_start : Addr} {od_start an_start : Option Addr} {sl_start : Array (Option Value)} {oc_start kV_start dc_start pm_start cd_start ct_start : Value}
    {f_cell : Addr} {od_cell an_cell : Option Addr} {sl_cell : Array (Option Value)} {oc_cell kV_cell dc_cell pm_cell cd_cell ct_cell : Value}
    {f_alone : Addr} {od_alone an_alone : Option Addr} {sl_alone : Array (Option Value)} {oc_alone kV_alone dc_alone pm_alone cd_alone ct_alone : Value}
    {f_counted : Addr} {od_counted an_counted : Option Addr} {sl_counted : Array (Option Value)} {oc_counted kV_counted dc_counted pm_counted cd_counted ct_counted : Value}
    {f_with_count : Addr} {od_with_count an_with_count : Option Addr} {sl_with_count : Array (Option Value)} {oc_with_count kV_with_count dc_with_count pm_with_count cd_with_count ct_with_count : Value}
    {t_WATER_SHARE : Tok}
    {t_HEIGHT_SHARE : Tok}
    {t_NOT_DONE : Tok}
    {t_NOT_ALLOWED : Tok}
    {t_NO_ROOM : Tok}
    {t_WAITS : Tok}
    {t_DONE : Tok}
    {t_LARGEST_SIDE : Tok}
    {t_MOST : Tok}
    {t_LAST_SWEEP : Tok}
    {t_START : Tok}
    {t_WORK : Tok}
    {t_TURN : Tok}
    {t_RAIN : Tok}
    {t_CELL : Tok}
    {t_HIGHEST : Tok}
    {d_LENGTHS n_LENGTHS : Nat} {es_LENGTHS : Array DictEntry}
    {t_NUMBER_ALONE : Tok}
    {t_COUNTED : Tok}
    (aC : PySem.W.nsIn K mainGlobals "Land" = some (some (.ref C)))
    (a_level : PySem.W.nsIn K mainGlobals "level" = some (some (.ref f_level)))
    (l_level : K.lookup f_level = some ⟨oc_level, od_level, .func (PySem.W.fnOf "level" "level" (defArgs s_level) (defBody s_level) (defScope s_level) .none kV_level dc_level pm_level an_level cd_level ct_level), sl_level⟩) (c_level : PySem.W.codeIn K cd_level "level" = true) (k_level : PySem.W.keepIn K (.ref f_level) = true)
    (a_flow : PySem.W.nsIn K mainGlobals "flow" = some (some (.ref f_flow)))
    (l_flow : K.lookup f_flow = some ⟨oc_flow, od_flow, .func (PySem.W.fnOf "flow" "flow" (defArgs s_flow) (defBody s_flow) (defScope s_flow) .none kV_flow dc_flow pm_flow an_flow cd_flow ct_flow), sl_flow⟩) (c_flow : PySem.W.codeIn K cd_flow "flow" = true) (k_flow : PySem.W.keepIn K (.ref f_flow) = true)
    (a_flow_down : PySem.W.nsIn K mainGlobals "flow_down" = some (some (.ref f_flow_down)))
    (l_flow_down : K.lookup f_flow_down = some ⟨oc_flow_down, od_flow_down, .func (PySem.W.fnOf "flow_down" "flow_down" (defArgs s_flow_down) (defBody s_flow_down) (defScope s_flow_down) .none kV_flow_down dc_flow_down pm_flow_down an_flow_down cd_flow_down ct_flow_down), sl_flow_down⟩) (c_flow_down : PySem.W.codeIn K cd_flow_down "flow_down" = true) (k_flow_down : PySem.W.keepIn K (.ref f_flow_down) = true)
    (a_flows_among : PySem.W.nsIn K mainGlobals "flows_among" = some (some (.ref f_flows_among)))
    (l_flows_among : K.lookup f_flows_among = some ⟨oc_flows_among, od_flows_among, .func (PySem.W.fnOf "flows_among" "flows_among" (defArgs s_flows_among) (defBody s_flows_among) (defScope s_flows_among) .none kV_flows_among dc_flows_among pm_flows_among an_flows_among cd_flows_among ct_flows_among), sl_flows_among⟩) (c_flows_among : PySem.W.codeIn K cd_flows_among "flows_among" = true) (k_flows_among : PySem.W.keepIn K (.ref f_flows_among) = true)
    (a_is_side : PySem.W.nsIn K mainGlobals "is_side" = some (some (.ref f_is_side)))
    (l_is_side : K.lookup f_is_side = some ⟨oc_is_side, od_is_side, .func (PySem.W.fnOf "is_side" "is_side" (defArgs s_is_side) (defBody s_is_side) (defScope s_is_side) .none kV_is_side dc_is_side pm_is_side an_is_side cd_is_side ct_is_side), sl_is_side⟩) (c_is_side : PySem.W.codeIn K cd_is_side "is_side" = true) (k_is_side : PySem.W.keepIn K (.ref f_is_side) = true)
    (a_init : PySem.W.findIn K (.ref C) "__init__" = some (some (.ref f_init))) (i_init : PySem.W.isFn K (.ref f_init) = true)
    (l_init : K.lookup f_init = some ⟨oc_init, od_init, .func (PySem.W.fnOf "__init__" "Land.__init__" (defArgs s_init) (defBody s_init) (defScope s_init) .none kV_init dc_init pm_init an_init cd_init ct_init), sl_init⟩) (c_init : PySem.W.codeIn K cd_init "Land.__init__" = true) (k_init : PySem.W.keepIn K (.ref f_init) = true)
    (a_lay : PySem.W.findIn K (.ref C) "lay" = some (some (.ref f_lay))) (i_lay : PySem.W.isFn K (.ref f_lay) = true)
    (l_lay : K.lookup f_lay = some ⟨oc_lay, od_lay, .func (PySem.W.fnOf "lay" "Land.lay" (defArgs s_lay) (defBody s_lay) (defScope s_lay) .none kV_lay dc_lay pm_lay an_lay cd_lay ct_lay), sl_lay⟩) (c_lay : PySem.W.codeIn K cd_lay "Land.lay" = true) (k_lay : PySem.W.keepIn K (.ref f_lay) = true)
    (a_wl_start : PySem.W.findIn K (.ref C) "wl_start" = some (some (.ref f_wl_start))) (i_wl_start : PySem.W.isFn K (.ref f_wl_start) = true)
    (l_wl_start : K.lookup f_wl_start = some ⟨oc_wl_start, od_wl_start, .func (PySem.W.fnOf "wl_start" "Land.wl_start" (defArgs s_wl_start) (defBody s_wl_start) (defScope s_wl_start) .none kV_wl_start dc_wl_start pm_wl_start an_wl_start cd_wl_start ct_wl_start), sl_wl_start⟩) (c_wl_start : PySem.W.codeIn K cd_wl_start "Land.wl_start" = true) (k_wl_start : PySem.W.keepIn K (.ref f_wl_start) = true)
    (a_wl_work : PySem.W.findIn K (.ref C) "wl_work" = some (some (.ref f_wl_work))) (i_wl_work : PySem.W.isFn K (.ref f_wl_work) = true)
    (l_wl_work : K.lookup f_wl_work = some ⟨oc_wl_work, od_wl_work, .func (PySem.W.fnOf "wl_work" "Land.wl_work" (defArgs s_wl_work) (defBody s_wl_work) (defScope s_wl_work) .none kV_wl_work dc_wl_work pm_wl_work an_wl_work cd_wl_work ct_wl_work), sl_wl_work⟩) (c_wl_work : PySem.W.codeIn K cd_wl_work "Land.wl_work" = true) (k_wl_work : PySem.W.keepIn K (.ref f_wl_work) = true)
    (a_wl_turn : PySem.W.findIn K (.ref C) "wl_turn" = some (some (.ref f_wl_turn))) (i_wl_turn : PySem.W.isFn K (.ref f_wl_turn) = true)
    (l_wl_turn : K.lookup f_wl_turn = some ⟨oc_wl_turn, od_wl_turn, .func (PySem.W.fnOf "wl_turn" "Land.wl_turn" (defArgs s_wl_turn) (defBody s_wl_turn) (defScope s_wl_turn) .none kV_wl_turn dc_wl_turn pm_wl_turn an_wl_turn cd_wl_turn ct_wl_turn), sl_wl_turn⟩) (c_wl_turn : PySem.W.codeIn K cd_wl_turn "Land.wl_turn" = true) (k_wl_turn : PySem.W.keepIn K (.ref f_wl_turn) = true)
    (a_wl_rain : PySem.W.findIn K (.ref C) "wl_rain" = some (some (.ref f_wl_rain))) (i_wl_rain : PySem.W.isFn K (.ref f_wl_rain) = true)
    (l_wl_rain : K.lookup f_wl_rain = some ⟨oc_wl_rain, od_wl_rain, .func (PySem.W.fnOf "wl_rain" "Land.wl_rain" (defArgs s_wl_rain) (defBody s_wl_rain) (defScope s_wl_rain) .none kV_wl_rain dc_wl_rain pm_wl_rain an_wl_rain cd_wl_rain ct_wl_rain), sl_wl_rain⟩) (c_wl_rain : PySem.W.codeIn K cd_wl_rain "Land.wl_rain" = true) (k_wl_rain : PySem.W.keepIn K (.ref f_wl_rain) = true)
    (a_wl_cell : PySem.W.findIn K (.ref C) "wl_cell" = some (some (.ref f_wl_cell))) (i_wl_cell : PySem.W.isFn K (.ref f_wl_cell) = true)
    (l_wl_cell : K.lookup f_wl_cell = some ⟨oc_wl_cell, od_wl_cell, .func (PySem.W.fnOf "wl_cell" "Land.wl_cell" (defArgs s_wl_cell) (defBody s_wl_cell) (defScope s_wl_cell) .none kV_wl_cell dc_wl_cell pm_wl_cell an_wl_cell cd_wl_cell ct_wl_cell), sl_wl_cell⟩) (c_wl_cell : PySem.W.codeIn K cd_wl_cell "Land.wl_cell" = true) (k_wl_cell : PySem.W.keepIn K (.ref f_wl_cell) = true)
    (a_wl_highest : PySem.W.findIn K (.ref C) "wl_highest" = some (some (.ref f_wl_highest))) (i_wl_highest : PySem.W.isFn K (.ref f_wl_highest) = true)
    (l_wl_highest : K.lookup f_wl_highest = some ⟨oc_wl_highest, od_wl_highest, .func (PySem.W.fnOf "wl_highest" "Land.wl_highest" (defArgs s_wl_highest) (defBody s_wl_highest) (defScope s_wl_highest) .none kV_wl_highest dc_wl_highest pm_wl_highest an_wl_highest cd_wl_highest ct_wl_highest), sl_wl_highest⟩) (c_wl_highest : PySem.W.codeIn K cd_wl_highest "Land.wl_highest" = true) (k_wl_highest : PySem.W.keepIn K (.ref f_wl_highest) = true)
    (a_wl_still : PySem.W.findIn K (.ref C) "wl_still" = some (some (.ref f_wl_still))) (i_wl_still : PySem.W.isFn K (.ref f_wl_still) = true)
    (l_wl_still : K.lookup f_wl_still = some ⟨oc_wl_still, od_wl_still, .func (PySem.W.fnOf "wl_still" "Land.wl_still" (defArgs s_wl_still) (defBody s_wl_still) (defScope s_wl_still) .none kV_wl_still dc_wl_still pm_wl_still an_wl_still cd_wl_still ct_wl_still), sl_wl_still⟩) (c_wl_still : PySem.W.codeIn K cd_wl_still "Land.wl_still" = true) (k_wl_still : PySem.W.keepIn K (.ref f_wl_still) = true)
    (a_has : PySem.W.findIn K (.ref C) "has" = some (some (.ref f_has))) (i_has : PySem.W.isFn K (.ref f_has) = true)
    (l_has : K.lookup f_has = some ⟨oc_has, od_has, .func (PySem.W.fnOf "has" "Land.has" (defArgs s_has) (defBody s_has) (defScope s_has) .none kV_has dc_has pm_has an_has cd_has ct_has), sl_has⟩) (c_has : PySem.W.codeIn K cd_has "Land.has" = true) (k_has : PySem.W.keepIn K (.ref f_has) = true)
    (a_water_now : PySem.W.findIn K (.ref C) "water_now" = some (some (.ref f_water_now))) (i_water_now : PySem.W.isFn K (.ref f_water_now) = true)
    (l_water_now : K.lookup f_water_now = some ⟨oc_water_now, od_water_now, .func (PySem.W.fnOf "water_now" "Land.water_now" (defArgs s_water_now) (defBody s_water_now) (defScope s_water_now) .none kV_water_now dc_water_now pm_water_now an_water_now cd_water_now ct_water_now), sl_water_now⟩) (c_water_now : PySem.W.codeIn K cd_water_now "Land.water_now" = true) (k_water_now : PySem.W.keepIn K (.ref f_water_now) = true)
    (a_water_coming : PySem.W.findIn K (.ref C) "water_coming" = some (some (.ref f_water_coming))) (i_water_coming : PySem.W.isFn K (.ref f_water_coming) = true)
    (l_water_coming : K.lookup f_water_coming = some ⟨oc_water_coming, od_water_coming, .func (PySem.W.fnOf "water_coming" "Land.water_coming" (defArgs s_water_coming) (defBody s_water_coming) (defScope s_water_coming) .none kV_water_coming dc_water_coming pm_water_coming an_water_coming cd_water_coming ct_water_coming), sl_water_coming⟩) (c_water_coming : PySem.W.codeIn K cd_water_coming "Land.water_coming" = true) (k_water_coming : PySem.W.keepIn K (.ref f_water_coming) = true)
    (a_place : PySem.W.findIn K (.ref C) "place" = some (some (.ref f_place))) (i_place : PySem.W.isFn K (.ref f_place) = true)
    (l_place : K.lookup f_place = some ⟨oc_place, od_place, .func (PySem.W.fnOf "place" "Land.place" (defArgs s_place) (defBody s_place) (defScope s_place) .none kV_place dc_place pm_place an_place cd_place ct_place), sl_place⟩) (c_place : PySem.W.codeIn K cd_place "Land.place" = true) (k_place : PySem.W.keepIn K (.ref f_place) = true)
    (a_beside : PySem.W.findIn K (.ref C) "beside" = some (some (.ref f_beside))) (i_beside : PySem.W.isFn K (.ref f_beside) = true)
    (l_beside : K.lookup f_beside = some ⟨oc_beside, od_beside, .func (PySem.W.fnOf "beside" "Land.beside" (defArgs s_beside) (defBody s_beside) (defScope s_beside) .none kV_beside dc_beside pm_beside an_beside cd_beside ct_beside), sl_beside⟩) (c_beside : PySem.W.codeIn K cd_beside "Land.beside" = true) (k_beside : PySem.W.keepIn K (.ref f_beside) = true)
    (a_do_row : PySem.W.findIn K (.ref C) "do_row" = some (some (.ref f_do_row))) (i_do_row : PySem.W.isFn K (.ref f_do_row) = true)
    (l_do_row : K.lookup f_do_row = some ⟨oc_do_row, od_do_row, .func (PySem.W.fnOf "do_row" "Land.do_row" (defArgs s_do_row) (defBody s_do_row) (defScope s_do_row) .none kV_do_row dc_do_row pm_do_row an_do_row cd_do_row ct_do_row), sl_do_row⟩) (c_do_row : PySem.W.codeIn K cd_do_row "Land.do_row" = true) (k_do_row : PySem.W.keepIn K (.ref f_do_row) = true)
    (a_with_inflow : PySem.W.findIn K (.ref C) "with_inflow" = some (some (.ref f_with_inflow))) (i_with_inflow : PySem.W.isFn K (.ref f_with_inflow) = true)
    (l_with_inflow : K.lookup f_with_inflow = some ⟨oc_with_inflow, od_with_inflow, .func (PySem.W.fnOf "with_inflow" "Land.with_inflow" (defArgs s_with_inflow) (defBody s_with_inflow) (defScope s_with_inflow) .none kV_with_inflow dc_with_inflow pm_with_inflow an_with_inflow cd_with_inflow ct_with_inflow), sl_with_inflow⟩) (c_with_inflow : PySem.W.codeIn K cd_with_inflow "Land.with_inflow" = true) (k_with_inflow : PySem.W.keepIn K (.ref f_with_inflow) = true)
    (a_let_rain_fall : PySem.W.findIn K (.ref C) "let_rain_fall" = some (some (.ref f_let_rain_fall))) (i_let_rain_fall : PySem.W.isFn K (.ref f_let_rain_fall) = true)
    (l_let_rain_fall : K.lookup f_let_rain_fall = some ⟨oc_let_rain_fall, od_let_rain_fall, .func (PySem.W.fnOf "let_rain_fall" "Land.let_rain_fall" (defArgs s_let_rain_fall) (defBody s_let_rain_fall) (defScope s_let_rain_fall) .none kV_let_rain_fall dc_let_rain_fall pm_let_rain_fall an_let_rain_fall cd_let_rain_fall ct_let_rain_fall), sl_let_rain_fall⟩) (c_let_rain_fall : PySem.W.codeIn K cd_let_rain_fall "Land.let_rain_fall" = true) (k_let_rain_fall : PySem.W.keepIn K (.ref f_let_rain_fall) = true)
    (a_answers : PySem.W.nsIn K mainGlobals "answers" = some (some (.ref f_answers)))
    (l_answers : K.lookup f_answers = some ⟨oc_answers, od_answers, .func (PySem.W.fnOf "answers" "answers" (defArgs s_answers) (defBody s_answers) (defScope s_answers) .none kV_answers dc_answers pm_answers an_answers cd_answers ct_answers), sl_answers⟩) (c_answers : PySem.W.codeIn K cd_answers "answers" = true) (k_answers : PySem.W.keepIn K (.ref f_answers) = true)
    (a_call_length : PySem.W.nsIn K mainGlobals "call_length" = some (some (.ref f_call_length)))
    (l_call_length : K.lookup f_call_length = some ⟨oc_call_length, od_call_length, .func (PySem.W.fnOf "call_length" "call_length" (defArgs s_call_length) (defBody s_call_length) (defScope s_call_length) .none kV_call_length dc_call_length pm_call_length an_call_length cd_call_length ct_call_length), sl_call_length⟩) (c_call_length : PySem.W.codeIn K cd_call_length "call_length" = true) (k_call_length : PySem.W.keepIn K (.ref f_call_length) = true)
    (a_answer : PySem.W.nsIn K mainGlobals "answer" = some (some (.ref f_answer)))
    (l_answer : K.lookup f_answer = some ⟨oc_answer, od_answer, .func (PySem.W.fnOf "answer" "answer" (defArgs s_answer) (defBody s_answer) (defScope s_answer) .none kV_answer dc_answer pm_answer an_answer cd_answer ct_answer), sl_answer⟩) (c_answer : PySem.W.codeIn K cd_answer "answer" = true) (k_answer : PySem.W.keepIn K (.ref f_answer) = true)
    (a_start : PySem.W.nsIn K mainGlobals "start" = some (some (.ref f_start)))
    (l_start : K.lookup f_start = some ⟨oc_start, od_start, .func (PySem.W.fnOf "start" "start" (defArgs s_start) (defBody s_start) (defScope s_start) .none kV_start dc_start pm_start an_start cd_start ct_start), sl_start⟩) (c_start : PySem.W.codeIn K cd_start "start" = true) (k_start : PySem.W.keepIn K (.ref f_start) = true)
    (a_cell : PySem.W.nsIn K mainGlobals "cell" = some (some (.ref f_cell)))
    (l_cell : K.lookup f_cell = some ⟨oc_cell, od_cell, .func (PySem.W.fnOf "cell" "cell" (defArgs s_cell) (defBody s_cell) (defScope s_cell) .none kV_cell dc_cell pm_cell an_cell cd_cell ct_cell), sl_cell⟩) (c_cell : PySem.W.codeIn K cd_cell "cell" = true) (k_cell : PySem.W.keepIn K (.ref f_cell) = true)
    (a_alone : PySem.W.nsIn K mainGlobals "alone" = some (some (.ref f_alone)))
    (l_alone : K.lookup f_alone = some ⟨oc_alone, od_alone, .func (PySem.W.fnOf "alone" "alone" (defArgs s_alone) (defBody s_alone) (defScope s_alone) .none kV_alone dc_alone pm_alone an_alone cd_alone ct_alone), sl_alone⟩) (c_alone : PySem.W.codeIn K cd_alone "alone" = true) (k_alone : PySem.W.keepIn K (.ref f_alone) = true)
    (a_counted : PySem.W.nsIn K mainGlobals "counted" = some (some (.ref f_counted)))
    (l_counted : K.lookup f_counted = some ⟨oc_counted, od_counted, .func (PySem.W.fnOf "counted" "counted" (defArgs s_counted) (defBody s_counted) (defScope s_counted) .none kV_counted dc_counted pm_counted an_counted cd_counted ct_counted), sl_counted⟩) (c_counted : PySem.W.codeIn K cd_counted "counted" = true) (k_counted : PySem.W.keepIn K (.ref f_counted) = true)
    (a_with_count : PySem.W.nsIn K mainGlobals "with_count" = some (some (.ref f_with_count)))
    (l_with_count : K.lookup f_with_count = some ⟨oc_with_count, od_with_count, .func (PySem.W.fnOf "with_count" "with_count" (defArgs s_with_count) (defBody s_with_count) (defScope s_with_count) .none kV_with_count dc_with_count pm_with_count an_with_count cd_with_count ct_with_count), sl_with_count⟩) (c_with_count : PySem.W.codeIn K cd_with_count "with_count" = true) (k_with_count : PySem.W.keepIn K (.ref f_with_count) = true)
    (pg : PySem.W.plainGet K C Str.empty = true) (hd : PySem.W.hasDictIn K C = true) (po : PySem.W.plainOver K C = true) (sa : PySem.W.findIn K (.ref C) "__setattr__" = some (some (.builtin "object.__setattr__"))) (mk : PySem.W.makesIn K C = true) (kc : PySem.W.keepIn K (.ref C) = true)
    (n_sweep : PySem.W.findIn K (.ref C) "sweep" = some none)
    (n_width : PySem.W.findIn K (.ref C) "width" = some none)
    (n_height : PySem.W.findIn K (.ref C) "height" = some none)
    (n_fallen : PySem.W.findIn K (.ref C) "fallen" = some none)
    (n_states : PySem.W.findIn K (.ref C) "states" = some none)
    (n_ground : PySem.W.findIn K (.ref C) "ground" = some none)
    (n_rain : PySem.W.findIn K (.ref C) "rain" = some none)
    (n_waters : PySem.W.findIn K (.ref C) "waters" = some none)
    (q_WATER_SHARE : PySem.W.nsIn K mainGlobals "WATER_SHARE" = some (some (.int (4) t_WATER_SHARE)))
    (q_HEIGHT_SHARE : PySem.W.nsIn K mainGlobals "HEIGHT_SHARE" = some (some (.int (8) t_HEIGHT_SHARE)))
    (q_NOT_DONE : PySem.W.nsIn K mainGlobals "NOT_DONE" = some (some (.int (-11) t_NOT_DONE)))
    (q_NOT_ALLOWED : PySem.W.nsIn K mainGlobals "NOT_ALLOWED" = some (some (.int (-22) t_NOT_ALLOWED)))
    (q_NO_ROOM : PySem.W.nsIn K mainGlobals "NO_ROOM" = some (some (.int (-28) t_NO_ROOM)))
    (q_WAITS : PySem.W.nsIn K mainGlobals "WAITS" = some (some (.int (0) t_WAITS)))
    (q_DONE : PySem.W.nsIn K mainGlobals "DONE" = some (some (.int (2) t_DONE)))
    (q_LARGEST_SIDE : PySem.W.nsIn K mainGlobals "LARGEST_SIDE" = some (some (.int (64) t_LARGEST_SIDE)))
    (q_MOST : PySem.W.nsIn K mainGlobals "MOST" = some (some (.int (1073741824) t_MOST)))
    (q_LAST_SWEEP : PySem.W.nsIn K mainGlobals "LAST_SWEEP" = some (some (.int (1099511627776) t_LAST_SWEEP)))
    (q_START : PySem.W.nsIn K mainGlobals "START" = some (some (.int (0) t_START)))
    (q_WORK : PySem.W.nsIn K mainGlobals "WORK" = some (some (.int (1) t_WORK)))
    (q_TURN : PySem.W.nsIn K mainGlobals "TURN" = some (some (.int (2) t_TURN)))
    (q_RAIN : PySem.W.nsIn K mainGlobals "RAIN" = some (some (.int (3) t_RAIN)))
    (q_CELL : PySem.W.nsIn K mainGlobals "CELL" = some (some (.int (4) t_CELL)))
    (q_HIGHEST : PySem.W.nsIn K mainGlobals "HIGHEST" = some (some (.int (5) t_HIGHEST)))
    (q_LENGTHS : PySem.W.nsIn K mainGlobals "LENGTHS" = some (some (.ref d_LENGTHS))) (e_LENGTHS : K.lookup d_LENGTHS = some { cls := .type "dict", dict := none, data := .dict es_LENGTHS n_LENGTHS, slots := #[] }) (h_LENGTHS : ∃ ts : List (Tok × Tok), ts.length = ([(1, 1), (2, 1), (3, 4), (4, 3), (5, 1), (6, 1)] : List (Int × Int)).length ∧ es_LENGTHS.toList = (([(1, 1), (2, 1), (3, 4), (4, 3), (5, 1), (6, 1)] : List (Int × Int)).zip ts).map fun p => ⟨hashInt p.1.1, .int p.1.1 p.2.1, .int p.1.2 p.2.2⟩)
    (q_NUMBER_ALONE : PySem.W.nsIn K mainGlobals "NUMBER_ALONE" = some (some (.int (0) t_NUMBER_ALONE)))
    (q_COUNTED : PySem.W.nsIn K mainGlobals "COUNTED" = some (some (.int (1) t_COUNTED)))
    (b0_min : PySem.W.nsIn K mainGlobals "min" = some none)
    (b0_zip : PySem.W.nsIn K mainGlobals "zip" = some none)
    (b0_sum : PySem.W.nsIn K mainGlobals "sum" = some none)
    (b0_list : PySem.W.nsIn K mainGlobals "list" = some none)
    (b0_max : PySem.W.nsIn K mainGlobals "max" = some none)
    (b0_range : PySem.W.nsIn K mainGlobals "range" = some none)
    (b0_enumerate : PySem.W.nsIn K mainGlobals "enumerate" = some none)
    (b0_len : PySem.W.nsIn K mainGlobals "len" = some none) :
    ∃ fd : FuncData, (∀ (s : Shared) (us : List Value), us.length = (["calls"] : List Str).length → BindsTo s fd ⟨us, []⟩ ((["calls"] : List Str).zip us)) ∧ ∀ base : Heap, K.In base → base.Ns mainGlobals mg → FnOk P w K mg base CX0 8 fa fd ["calls"] (spAns K) := by
  have e := hfa.symm.trans (PySem.W.mg_of X G a_answers)
  cases e
  have F_level := fun_mk (st := s_level) l_level c_level k_level
  have b_level := F_level.binds (ps := ["ground", "water"]) fun _ _ _ _ _ _ us hl => match us, hl with | [_, _], _ => rfl
  have F_flow := fun_mk (st := s_flow) l_flow c_flow k_flow
  have b_flow := F_flow.binds (ps := ["from_ground", "from_water", "to_ground", "to_water"]) fun _ _ _ _ _ _ us hl => match us, hl with | [_, _, _, _], _ => rfl
  have F_flow_down := fun_mk (st := s_flow_down) l_flow_down c_flow_down k_flow_down
  have b_flow_down := F_flow_down.binds (ps := ["water", "higher"]) fun _ _ _ _ _ _ us hl => match us, hl with | [_, _], _ => rfl
  have F_flows_among := fun_mk (st := s_flows_among) l_flows_among c_flows_among k_flows_among
  have b_flows_among := F_flows_among.binds (ps := ["waters", "levels", "apart"]) fun _ _ _ _ _ _ us hl => match us, hl with | [_, _, _], _ => rfl
  have F_is_side := fun_mk (st := s_is_side) l_is_side c_is_side k_is_side
  have b_is_side := F_is_side.binds (ps := ["number"]) fun _ _ _ _ _ _ us hl => match us, hl with | [_], _ => rfl
  have F_init := fun_mk (st := s_init) l_init c_init k_init
  have b_init := F_init.binds (ps := ["self"]) fun _ _ _ _ _ _ us hl => match us, hl with | [_], _ => rfl
  have F_lay := fun_mk (st := s_lay) l_lay c_lay k_lay
  have b_lay := F_lay.binds (ps := ["self", "width", "height", "ground", "water"]) fun _ _ _ _ _ _ us hl => match us, hl with | [_, _, _, _, _], _ => rfl
  have F_wl_start := fun_mk (st := s_wl_start) l_wl_start c_wl_start k_wl_start
  have b_wl_start := F_wl_start.binds (ps := ["self", "width", "height", "ground", "water"]) fun _ _ _ _ _ _ us hl => match us, hl with | [_, _, _, _, _], _ => rfl
  have F_wl_work := fun_mk (st := s_wl_work) l_wl_work c_wl_work k_wl_work
  have b_wl_work := F_wl_work.binds (ps := ["self"]) fun _ _ _ _ _ _ us hl => match us, hl with | [_], _ => rfl
  have F_wl_turn := fun_mk (st := s_wl_turn) l_wl_turn c_wl_turn k_wl_turn
  have b_wl_turn := F_wl_turn.binds (ps := ["self"]) fun _ _ _ _ _ _ us hl => match us, hl with | [_], _ => rfl
  have F_wl_rain := fun_mk (st := s_wl_rain) l_wl_rain c_wl_rain k_wl_rain
  have b_wl_rain := F_wl_rain.binds (ps := ["self", "x", "y", "k"]) fun _ _ _ _ _ _ us hl => match us, hl with | [_, _, _, _], _ => rfl
  have F_wl_cell := fun_mk (st := s_wl_cell) l_wl_cell c_wl_cell k_wl_cell
  have b_wl_cell := F_wl_cell.binds (ps := ["self", "x", "y"]) fun _ _ _ _ _ _ us hl => match us, hl with | [_, _, _], _ => rfl
  have F_wl_highest := fun_mk (st := s_wl_highest) l_wl_highest c_wl_highest k_wl_highest
  have b_wl_highest := F_wl_highest.binds (ps := ["self"]) fun _ _ _ _ _ _ us hl => match us, hl with | [_], _ => rfl
  have F_wl_still := fun_mk (st := s_wl_still) l_wl_still c_wl_still k_wl_still
  have b_wl_still := F_wl_still.binds (ps := ["self"]) fun _ _ _ _ _ _ us hl => match us, hl with | [_], _ => rfl
  have F_has := fun_mk (st := s_has) l_has c_has k_has
  have b_has := F_has.binds (ps := ["self", "x", "y"]) fun _ _ _ _ _ _ us hl => match us, hl with | [_, _, _], _ => rfl
  have F_water_now := fun_mk (st := s_water_now) l_water_now c_water_now k_water_now
  have b_water_now := F_water_now.binds (ps := ["self"]) fun _ _ _ _ _ _ us hl => match us, hl with | [_], _ => rfl
  have F_water_coming := fun_mk (st := s_water_coming) l_water_coming c_water_coming k_water_coming
  have b_water_coming := F_water_coming.binds (ps := ["self"]) fun _ _ _ _ _ _ us hl => match us, hl with | [_], _ => rfl
  have F_place := fun_mk (st := s_place) l_place c_place k_place
  have b_place := F_place.binds (ps := ["self", "x", "y"]) fun _ _ _ _ _ _ us hl => match us, hl with | [_, _, _], _ => rfl
  have F_beside := fun_mk (st := s_beside) l_beside c_beside k_beside
  have b_beside := F_beside.binds (ps := ["self", "x", "y"]) fun _ _ _ _ _ _ us hl => match us, hl with | [_, _, _], _ => rfl
  have F_do_row := fun_mk (st := s_do_row) l_do_row c_do_row k_do_row
  have b_do_row := F_do_row.binds (ps := ["self", "y"]) fun _ _ _ _ _ _ us hl => match us, hl with | [_, _], _ => rfl
  have F_with_inflow := fun_mk (st := s_with_inflow) l_with_inflow c_with_inflow k_with_inflow
  have b_with_inflow := F_with_inflow.binds (ps := ["self", "x", "y"]) fun _ _ _ _ _ _ us hl => match us, hl with | [_, _, _], _ => rfl
  have F_let_rain_fall := fun_mk (st := s_let_rain_fall) l_let_rain_fall c_let_rain_fall k_let_rain_fall
  have b_let_rain_fall := F_let_rain_fall.binds (ps := ["self"]) fun _ _ _ _ _ _ us hl => match us, hl with | [_], _ => rfl
  have F_answers := fun_mk (st := s_answers) l_answers c_answers k_answers
  have b_answers := F_answers.binds (ps := ["calls"]) fun _ _ _ _ _ _ us hl => match us, hl with | [_], _ => rfl
  have F_call_length := fun_mk (st := s_call_length) l_call_length c_call_length k_call_length
  have b_call_length := F_call_length.binds (ps := ["calls", "at"]) fun _ _ _ _ _ _ us hl => match us, hl with | [_, _], _ => rfl
  have F_answer := fun_mk (st := s_answer) l_answer c_answer k_answer
  have b_answer := F_answer.binds (ps := ["land", "call"]) fun _ _ _ _ _ _ us hl => match us, hl with | [_, _], _ => rfl
  have F_start := fun_mk (st := s_start) l_start c_start k_start
  have b_start := F_start.binds (ps := ["land", "call"]) fun _ _ _ _ _ _ us hl => match us, hl with | [_, _], _ => rfl
  have F_cell := fun_mk (st := s_cell) l_cell c_cell k_cell
  have b_cell := F_cell.binds (ps := ["land", "call"]) fun _ _ _ _ _ _ us hl => match us, hl with | [_, _], _ => rfl
  have F_alone := fun_mk (st := s_alone) l_alone c_alone k_alone
  have b_alone := F_alone.binds (ps := ["number"]) fun _ _ _ _ _ _ us hl => match us, hl with | [_], _ => rfl
  have F_counted := fun_mk (st := s_counted) l_counted c_counted k_counted
  have b_counted := F_counted.binds (ps := ["numbers"]) fun _ _ _ _ _ _ us hl => match us, hl with | [_], _ => rfl
  have F_with_count := fun_mk (st := s_with_count) l_with_count c_with_count k_with_count
  have b_with_count := F_with_count.binds (ps := ["numbers"]) fun _ _ _ _ _ _ us hl => match us, hl with | [_], _ => rfl
  have T : Txt2 P w K mg C := {
    cl := ⟨pg, hd, po, sa⟩
    mgC := PySem.W.mg_of X G aC
    c_WATER_SHARE := ⟨_, PySem.W.mg_of X G q_WATER_SHARE⟩
    c_HEIGHT_SHARE := ⟨_, PySem.W.mg_of X G q_HEIGHT_SHARE⟩
    c_NOT_DONE := ⟨_, PySem.W.mg_of X G q_NOT_DONE⟩
    c_NOT_ALLOWED := ⟨_, PySem.W.mg_of X G q_NOT_ALLOWED⟩
    c_NO_ROOM := ⟨_, PySem.W.mg_of X G q_NO_ROOM⟩
    c_WAITS := ⟨_, PySem.W.mg_of X G q_WAITS⟩
    c_DONE := ⟨_, PySem.W.mg_of X G q_DONE⟩
    c_LARGEST_SIDE := ⟨_, PySem.W.mg_of X G q_LARGEST_SIDE⟩
    c_MOST := ⟨_, PySem.W.mg_of X G q_MOST⟩
    c_LAST_SWEEP := ⟨_, PySem.W.mg_of X G q_LAST_SWEEP⟩
    c_START := ⟨_, PySem.W.mg_of X G q_START⟩
    c_WORK := ⟨_, PySem.W.mg_of X G q_WORK⟩
    c_TURN := ⟨_, PySem.W.mg_of X G q_TURN⟩
    c_RAIN := ⟨_, PySem.W.mg_of X G q_RAIN⟩
    c_CELL := ⟨_, PySem.W.mg_of X G q_CELL⟩
    c_HIGHEST := ⟨_, PySem.W.mg_of X G q_HIGHEST⟩
    d_LENGTHS := ⟨_, PySem.W.mg_of X G q_LENGTHS, kd_mk e_LENGTHS [(1, 1), (2, 1), (3, 4), (4, 3), (5, 1), (6, 1)] h_LENGTHS (by decide)⟩
    c_NUMBER_ALONE := ⟨_, PySem.W.mg_of X G q_NUMBER_ALONE⟩
    c_COUNTED := ⟨_, PySem.W.mg_of X G q_COUNTED⟩
    b_min := PySem.W.mg_none_of X G b0_min
    b_zip := PySem.W.mg_none_of X G b0_zip
    b_sum := PySem.W.mg_none_of X G b0_sum
    b_list := PySem.W.mg_none_of X G b0_list
    b_max := PySem.W.mg_none_of X G b0_max
    b_range := PySem.W.mg_none_of X G b0_range
    b_enumerate := PySem.W.mg_none_of X G b0_enumerate
    b_len := PySem.W.mg_none_of X G b0_len
    n_sweep := n_sweep
    n_width := n_width
    n_height := n_height
    n_fallen := n_fallen
    n_states := n_states
    n_ground := n_ground
    n_rain := n_rain
    n_waters := n_waters }
  refine ⟨PySem.W.fnOf "answers" "answers" (defArgs s_answers) (defBody s_answers) (defScope s_answers) .none kV_answers dc_answers pm_answers an_answers cd_answers ct_answers, fun s us hu => match us, hu with | [_], _ => .of_eq rfl, fun base _ _ => ?_⟩
  have T1 := T.toTxt
  have C_level : Cal P w K mg base 1 "level" _ _ := ⟨_, _, ok_level F_level, b_level, PySem.W.mg_of X G a_level, k_level⟩
  have C_flow_down : Cal P w K mg base 1 "flow_down" _ _ := ⟨_, _, ok_flow_down F_flow_down T1, b_flow_down, PySem.W.mg_of X G a_flow_down, k_flow_down⟩
  have C_flow : Cal P w K mg base 2 "flow" _ _ := ⟨_, _, ok_flow F_flow C_level C_flow_down, b_flow, PySem.W.mg_of X G a_flow, k_flow⟩
  have C_flows_among : Cal P w K mg base 1 "flows_among" _ _ := ⟨_, _, ok_flows_among F_flows_among T1, b_flows_among, PySem.W.mg_of X G a_flows_among, k_flows_among⟩
  have C_is_side : Cal P w K mg base 1 "is_side" _ _ := ⟨_, _, ok_is_side F_is_side T1, b_is_side, PySem.W.mg_of X G a_is_side, k_is_side⟩
  have M_water_now : MCal P w K mg base C 1 "water_now" _ _ := ⟨_, _, ok_water_now F_water_now T1, b_water_now, ⟨a_water_now, i_water_now, k_water_now⟩⟩
  have M_water_coming : MCal P w K mg base C 1 "water_coming" _ _ := ⟨_, _, ok_water_coming F_water_coming T1, b_water_coming, ⟨a_water_coming, i_water_coming, k_water_coming⟩⟩
  have M_place : MCal P w K mg base C 1 "place" _ _ := ⟨_, _, ok_place F_place T1, b_place, ⟨a_place, i_place, k_place⟩⟩
  have M_has : MCal P w K mg base C 1 "has" _ _ := ⟨_, _, ok_has F_has T1, b_has, ⟨a_has, i_has, k_has⟩⟩
  have M_beside : MCal P w K mg base C 2 "beside" _ _ := ⟨_, _, ok_beside F_beside T1 M_place, b_beside, ⟨a_beside, i_beside, k_beside⟩⟩
  have M_with_inflow : MCal P w K mg base C 3 "with_inflow" _ _ := ⟨_, _, ok_with_inflow F_with_inflow T1 M_water_now M_place M_beside C_flow, b_with_inflow, ⟨a_with_inflow, i_with_inflow, k_with_inflow⟩⟩
  have M_do_row : MCal P w K mg base C 4 "do_row" _ _ := ⟨_, _, ok_do_row F_do_row T1 M_water_coming M_place M_with_inflow, b_do_row, ⟨a_do_row, i_do_row, k_do_row⟩⟩
  have M_let_rain_fall : MCal P w K mg base C 2 "let_rain_fall" _ _ := ⟨_, _, ok_let_rain_fall F_let_rain_fall T1 M_water_coming, b_let_rain_fall, ⟨a_let_rain_fall, i_let_rain_fall, k_let_rain_fall⟩⟩
  have M_lay : MCal P w K mg base C 1 "lay" _ _ := ⟨_, _, ok_lay F_lay T1, b_lay, ⟨a_lay, i_lay, k_lay⟩⟩
  have M_wl_start : MCal P w K mg base C 2 "wl_start" _ _ := ⟨_, _, ok_wl_start F_wl_start T1 C_is_side M_lay, b_wl_start, ⟨a_wl_start, i_wl_start, k_wl_start⟩⟩
  have M_wl_work : MCal P w K mg base C 5 "wl_work" _ _ := ⟨_, _, ok_wl_work F_wl_work T1 M_do_row, b_wl_work, ⟨a_wl_work, i_wl_work, k_wl_work⟩⟩
  have M_wl_turn : MCal P w K mg base C 3 "wl_turn" _ _ := ⟨_, _, ok_wl_turn F_wl_turn T1 M_let_rain_fall, b_wl_turn, ⟨a_wl_turn, i_wl_turn, k_wl_turn⟩⟩
  have M_wl_rain : MCal P w K mg base C 2 "wl_rain" _ _ := ⟨_, _, ok_wl_rain F_wl_rain T1 M_place M_has, b_wl_rain, ⟨a_wl_rain, i_wl_rain, k_wl_rain⟩⟩
  have M_wl_cell : MCal P w K mg base C 2 "wl_cell" _ _ := ⟨_, _, ok_wl_cell F_wl_cell T1 M_has M_place M_water_now, b_wl_cell, ⟨a_wl_cell, i_wl_cell, k_wl_cell⟩⟩
  have M_wl_highest : MCal P w K mg base C 2 "wl_highest" _ _ := ⟨_, _, ok_wl_highest F_wl_highest T1 M_water_now C_level, b_wl_highest, ⟨a_wl_highest, i_wl_highest, k_wl_highest⟩⟩
  have M_wl_still : MCal P w K mg base C 2 "wl_still" _ _ := ⟨_, _, ok_wl_still F_wl_still T1 M_water_now M_place C_level C_flows_among, b_wl_still, ⟨a_wl_still, i_wl_still, k_wl_still⟩⟩
  have C_alone : Cal P w K mg base 1 "alone" _ _ := ⟨_, _, ok_alone F_alone T, b_alone, PySem.W.mg_of X G a_alone, k_alone⟩
  have C_start : Cal P w K mg base 3 "start" _ _ := ⟨_, _, ok_start F_start T M_wl_start, b_start, PySem.W.mg_of X G a_start, k_start⟩
  have C_with_count : Cal P w K mg base 1 "with_count" _ _ := ⟨_, _, ok_with_count F_with_count T1, b_with_count, PySem.W.mg_of X G a_with_count, k_with_count⟩
  have C_counted : Cal P w K mg base 2 "counted" _ _ := ⟨_, _, ok_counted F_counted T C_with_count, b_counted, PySem.W.mg_of X G a_counted, k_counted⟩
  have C_cell : Cal P w K mg base 3 "cell" _ _ := ⟨_, _, ok_cell F_cell T M_wl_cell C_alone C_counted, b_cell, PySem.W.mg_of X G a_cell, k_cell⟩
  have C_call_length : Cal P w K mg base 1 "call_length" _ _ := ⟨_, _, ok_call_length F_call_length T, b_call_length, PySem.W.mg_of X G a_call_length, k_call_length⟩
  have C_answer : Cal P w K mg base 7 "answer" _ _ := ⟨_, _, (ok_answer F_answer T C_alone C_start M_wl_work M_wl_turn M_wl_rain C_cell C_counted M_wl_highest M_wl_still).mono (by decide), b_answer, PySem.W.mg_of X G a_answer, k_answer⟩
  exact ok_answers F_answers T1 ⟨mk, a_init, i_init, kc⟩ (ok_init F_init T1 M_lay) b_init C_call_length C_answer C_with_count
end Lw
end
open PySem PySem.W PyProof.Rows
set_option maxRecDepth 100000 in
set_option maxHeartbeats 0 in
theorem PySem.Challenge.cw_landwater_s01_answers_holds : PySem.Challenge.rw_landwater_s01_answers.Holds := by
  w_on; k_headS; (case hw => exact ⟨[.list [.int 0, .int 0, .int 0, .int 0, .int 0]], by decide +kernel, by decide +kernel⟩)
  k_fillS
  refine L2.walk_specK (r := PySem.Challenge.rw_landwater_s01_answers) (k := 8) (CX := L2.CX0) (ps := ["calls"]) (sp := Lw.spAns) (by decide +kernel) rfl rfl ⟨rfl, by decide, by decide⟩ (fun w h Y => PySem.W.kIn_of Y) ?F ?S (fun _ _ _ _ z => z)
  case F =>
    intro w mg fa h Y KX G hmg
    refine' Lw.all_mk KX G hmg ?aC ?a_level ?l_level ?c_level ?k_level ?a_flow ?l_flow ?c_flow ?k_flow ?a_flow_down ?l_flow_down ?c_flow_down ?k_flow_down ?a_flows_among ?l_flows_among ?c_flows_among ?k_flows_among ?a_is_side ?l_is_side ?c_is_side ?k_is_side ?a_init ?i_init ?l_init ?c_init ?k_init ?a_lay ?i_lay ?l_lay ?c_lay ?k_lay ?a_wl_start ?i_wl_start ?l_wl_start ?c_wl_start ?k_wl_start ?a_wl_work ?i_wl_work ?l_wl_work ?c_wl_work ?k_wl_work ?a_wl_turn ?i_wl_turn ?l_wl_turn ?c_wl_turn ?k_wl_turn ?a_wl_rain ?i_wl_rain ?l_wl_rain ?c_wl_rain ?k_wl_rain ?a_wl_cell ?i_wl_cell ?l_wl_cell ?c_wl_cell ?k_wl_cell ?a_wl_highest ?i_wl_highest ?l_wl_highest ?c_wl_highest ?k_wl_highest ?a_wl_still ?i_wl_still ?l_wl_still ?c_wl_still ?k_wl_still ?a_has ?i_has ?l_has ?c_has ?k_has ?a_water_now ?i_water_now ?l_water_now ?c_water_now ?k_water_now ?a_water_coming ?i_water_coming ?l_water_coming ?c_water_coming ?k_water_coming ?a_place ?i_place ?l_place ?c_place ?k_place ?a_beside ?i_beside ?l_beside ?c_beside ?k_beside ?a_do_row ?i_do_row ?l_do_row ?c_do_row ?k_do_row ?a_with_inflow ?i_with_inflow ?l_with_inflow ?c_with_inflow ?k_with_inflow ?a_let_rain_fall ?i_let_rain_fall ?l_let_rain_fall ?c_let_rain_fall ?k_let_rain_fall ?a_answers ?l_answers ?c_answers ?k_answers ?a_call_length ?l_call_length ?c_call_length ?k_call_length ?a_answer ?l_answer ?c_answer ?k_answer ?a_start ?l_start ?c_start ?k_start ?a_cell ?l_cell ?c_cell ?k_cell ?a_alone ?l_alone ?c_alone ?k_alone ?a_counted ?l_counted ?c_counted ?k_counted ?a_with_count ?l_with_count ?c_with_count ?k_with_count ?pg ?hd ?po ?sa ?mk ?kc ?n_sweep ?n_width ?n_height ?n_fallen ?n_states ?n_ground ?n_rain ?n_waters ?q_WATER_SHARE ?q_HEIGHT_SHARE ?q_NOT_DONE ?q_NOT_ALLOWED ?q_NO_ROOM ?q_WAITS ?q_DONE ?q_LARGEST_SIDE ?q_MOST ?q_LAST_SWEEP ?q_START ?q_WORK ?q_TURN ?q_RAIN ?q_CELL ?q_HIGHEST ?q_LENGTHS ?e_LENGTHS ?h_LENGTHS ?q_NUMBER_ALONE ?q_COUNTED ?b0_min ?b0_zip ?b0_sum ?b0_list ?b0_max ?b0_range ?b0_enumerate ?b0_len
    (case aC => k_is)
    (case a_level => k_is)
    (case l_level => k_is)
    (case c_level => k_is)
    (case k_level => k_is)
    (case a_flow => k_is)
    (case l_flow => k_is)
    (case c_flow => k_is)
    (case k_flow => k_is)
    (case a_flow_down => k_is)
    (case l_flow_down => k_is)
    (case c_flow_down => k_is)
    (case k_flow_down => k_is)
    (case a_flows_among => k_is)
    (case l_flows_among => k_is)
    (case c_flows_among => k_is)
    (case k_flows_among => k_is)
    (case a_is_side => k_is)
    (case l_is_side => k_is)
    (case c_is_side => k_is)
    (case k_is_side => k_is)
    (case a_init => k_is)
    (case i_init => k_is)
    (case l_init => k_is)
    (case c_init => k_is)
    (case k_init => k_is)
    (case a_lay => k_is)
    (case i_lay => k_is)
    (case l_lay => k_is)
    (case c_lay => k_is)
    (case k_lay => k_is)
    (case a_wl_start => k_is)
    (case i_wl_start => k_is)
    (case l_wl_start => k_is)
    (case c_wl_start => k_is)
    (case k_wl_start => k_is)
    (case a_wl_work => k_is)
    (case i_wl_work => k_is)
    (case l_wl_work => k_is)
    (case c_wl_work => k_is)
    (case k_wl_work => k_is)
    (case a_wl_turn => k_is)
    (case i_wl_turn => k_is)
    (case l_wl_turn => k_is)
    (case c_wl_turn => k_is)
    (case k_wl_turn => k_is)
    (case a_wl_rain => k_is)
    (case i_wl_rain => k_is)
    (case l_wl_rain => k_is)
    (case c_wl_rain => k_is)
    (case k_wl_rain => k_is)
    (case a_wl_cell => k_is)
    (case i_wl_cell => k_is)
    (case l_wl_cell => k_is)
    (case c_wl_cell => k_is)
    (case k_wl_cell => k_is)
    (case a_wl_highest => k_is)
    (case i_wl_highest => k_is)
    (case l_wl_highest => k_is)
    (case c_wl_highest => k_is)
    (case k_wl_highest => k_is)
    (case a_wl_still => k_is)
    (case i_wl_still => k_is)
    (case l_wl_still => k_is)
    (case c_wl_still => k_is)
    (case k_wl_still => k_is)
    (case a_has => k_is)
    (case i_has => k_is)
    (case l_has => k_is)
    (case c_has => k_is)
    (case k_has => k_is)
    (case a_water_now => k_is)
    (case i_water_now => k_is)
    (case l_water_now => k_is)
    (case c_water_now => k_is)
    (case k_water_now => k_is)
    (case a_water_coming => k_is)
    (case i_water_coming => k_is)
    (case l_water_coming => k_is)
    (case c_water_coming => k_is)
    (case k_water_coming => k_is)
    (case a_place => k_is)
    (case i_place => k_is)
    (case l_place => k_is)
    (case c_place => k_is)
    (case k_place => k_is)
    (case a_beside => k_is)
    (case i_beside => k_is)
    (case l_beside => k_is)
    (case c_beside => k_is)
    (case k_beside => k_is)
    (case a_do_row => k_is)
    (case i_do_row => k_is)
    (case l_do_row => k_is)
    (case c_do_row => k_is)
    (case k_do_row => k_is)
    (case a_with_inflow => k_is)
    (case i_with_inflow => k_is)
    (case l_with_inflow => k_is)
    (case c_with_inflow => k_is)
    (case k_with_inflow => k_is)
    (case a_let_rain_fall => k_is)
    (case i_let_rain_fall => k_is)
    (case l_let_rain_fall => k_is)
    (case c_let_rain_fall => k_is)
    (case k_let_rain_fall => k_is)
    (case a_answers => k_is)
    (case l_answers => k_is)
    (case c_answers => k_is)
    (case k_answers => k_is)
    (case a_call_length => k_is)
    (case l_call_length => k_is)
    (case c_call_length => k_is)
    (case k_call_length => k_is)
    (case a_answer => k_is)
    (case l_answer => k_is)
    (case c_answer => k_is)
    (case k_answer => k_is)
    (case a_start => k_is)
    (case l_start => k_is)
    (case c_start => k_is)
    (case k_start => k_is)
    (case a_cell => k_is)
    (case l_cell => k_is)
    (case c_cell => k_is)
    (case k_cell => k_is)
    (case a_alone => k_is)
    (case l_alone => k_is)
    (case c_alone => k_is)
    (case k_alone => k_is)
    (case a_counted => k_is)
    (case l_counted => k_is)
    (case c_counted => k_is)
    (case k_counted => k_is)
    (case a_with_count => k_is)
    (case l_with_count => k_is)
    (case c_with_count => k_is)
    (case k_with_count => k_is)
    (case pg => k_is)
    (case hd => k_is)
    (case po => k_is)
    (case sa => k_is)
    (case mk => k_is)
    (case kc => k_is)
    (case n_sweep => k_is)
    (case n_width => k_is)
    (case n_height => k_is)
    (case n_fallen => k_is)
    (case n_states => k_is)
    (case n_ground => k_is)
    (case n_rain => k_is)
    (case n_waters => k_is)
    (case q_WATER_SHARE => k_is)
    (case q_HEIGHT_SHARE => k_is)
    (case q_NOT_DONE => k_is)
    (case q_NOT_ALLOWED => k_is)
    (case q_NO_ROOM => k_is)
    (case q_WAITS => k_is)
    (case q_DONE => k_is)
    (case q_LARGEST_SIDE => k_is)
    (case q_MOST => k_is)
    (case q_LAST_SWEEP => k_is)
    (case q_START => k_is)
    (case q_WORK => k_is)
    (case q_TURN => k_is)
    (case q_RAIN => k_is)
    (case q_CELL => k_is)
    (case q_HIGHEST => k_is)
    (case q_LENGTHS => k_is)
    (case e_LENGTHS => k_is)
    (case h_LENGTHS => exact ⟨[(_, _), (_, _), (_, _), (_, _), (_, _), (_, _)], rfl, rfl⟩)
    (case q_NUMBER_ALONE => k_is)
    (case q_COUNTED => k_is)
    (case b0_min => k_is)
    (case b0_zip => k_is)
    (case b0_sum => k_is)
    (case b0_list => k_is)
    (case b0_max => k_is)
    (case b0_range => k_is)
    (case b0_enumerate => k_is)
    (case b0_len => k_is)
  case S =>
    intro K H xs a hO hwi hask hx
    cases hx with
    | cons h1 h2 =>
      cases h2
      cases h1 with
      | lst hs ha =>
        have e := L2.ints_dw a.1 _ ha
        subst e
        have q : ((Codec.inLen 0 30000 a.1 && a.1.all (Codec.inInt 0 4294967295)) && true) = true := hwi
        rw [Bool.and_eq_true, Bool.and_eq_true] at q
        exact ⟨_, a.1, rfl, Lw.Frz.of hO hs, (Codec.inNat_iff.mp q.1.1).2, hask, fun H' p hp => .lst (L2.SqL.of hp) (L2.dw_ints _)⟩
#print axioms PySem.Challenge.cw_landwater_s01_answers_holds
